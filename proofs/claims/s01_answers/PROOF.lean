import PyProof.Rows.All
import Wide.All
import OpenK.AllK
import Wide.FinOn
import KE.DatumOrd
import HandS.ForMost
import HandS.SortKw
import HandS.Rev
import HandS.Iter
import Open.SpecLaws
import KE.OsHead
import HandS.ForSpec
import HandS.Nested
import HandS.EndTab
import KE.SortKeyHeap
import HandS.Evl
import HandS.Lambda
import HandS.NoneIn
import HandS.Codes
import HandS.CallLocal
import HandS.Comp
import HandS.HeadHook1
import KE.OsGo
import PySem.Challenge.RW_keyedcalls_s01_answers
set_option Elab.async false
set_option maxRecDepth 100000
set_option maxHeartbeats 8000000
set_option linter.all false
/-! min and max with default=, of a list of tuples of ints and of a list of ints -/
namespace Kc
open PySem PySem.Spec PyProof.Rows L2
open PySem.W (Tup minOf maxOf)
/-- the data that tuples of ints are -/
def tupD (t : List Int) : PyData := .tuple (t.map PyData.int)
theorem tupD_is (t : List Int) : PySem.W.Datum.toD (Tup.mk t) = tupD t := rfl
/-- the first of the least of t :: r -/
def leastT (t : List Int) (r : List (List Int)) : List Int := (minOf (Tup.mk t) (r.map Tup.mk)).items
def rMinT (K : PySem.W.Frag) : List V → List V → Hp → VK → Prop := fun vs zs H Q => ∃ (a : Addr) (xs : List V) (ts : List (List Int)) (d : V), vs = [V.ref a] ∧ zs = [d] ∧ SqL K H a xs ∧ DpAll K H xs (ts.map tupD) ∧
  (ts = [] → Q d H) ∧ ∀ (t : List Int) (r : List (List Int)) (i : Nat) (x : V), ts = t :: r → xs[i]? = some x → ts[i]? = some (leastT t r) → Q x H
theorem readsAll_get {h : Heap} : ∀ {vs : List Value} {ds : List PyData} {as : List Addr} {i : Nat} {v : Value}, ReadsAll h vs ds as → vs[i]? = some v → ∃ d bs, ds[i]? = some d ∧ Reads h v d bs
  | _, _, _, _, _, .nil, e => by simp at e
  | _, _, _, 0, _, .cons r t, e => by
    simp at e
    subst e
    exact ⟨_, _, rfl, r⟩
  | _, _, _, i + 1, v, .cons _ t, e => by
    obtain ⟨d, bs, h1, h2⟩ := readsAll_get (i := i) (v := v) t (by simpa using e)
    exact ⟨d, bs, by simpa using h1, h2⟩
theorem int_inj : ∀ {s t : List Int}, s.map PyData.int = t.map PyData.int → s = t
  | [], [], _ => rfl
  | [], _ :: _, h => by simp at h
  | _ :: _, [], h => by simp at h
  | x :: s, y :: t, h => by
    simp only [List.map_cons, List.cons.injEq, PyData.int.injEq] at h
    rw [h.1, int_inj h.2]
theorem tupD_inj {s t : List Int} (h : tupD s = tupD t) : s = t := by
  unfold tupD at h
  injection h with h1
  exact int_inj h1
theorem getV {xs : List V} {us : List Value} {i : Nat} {u : Value} (r : Vals xs us) (e : us[i]? = some u) : ∃ x, xs[i]? = some x ∧ RelV x u := by
  cases q : xs[i]? with
  | none =>
    rw [r.none_of q] at e
    cases e
  | some x =>
    obtain ⟨u', h1, h2⟩ := r.get q
    rw [e] at h1
    cases h1
    exact ⟨x, rfl, h2⟩
section
variable {X : Cx}
theorem cr_minT {k : Nat} (hr : Room k X.A) : CallRK X (.builtin "min") [Str.ofString "default"] (rMinT X.K) := by
  intro pins s σ H vs zs us ws Q I r rz h
  obtain ⟨a, xs, ts, d, rfl, rfl, hs, ht, q0, q1⟩ := h
  obtain rfl := Vals.ref1 r
  obtain ⟨w1, rfl, e1⟩ := vals1 rz
  obtain ⟨its, rv, hl, hz⟩ := I.list hs
  obtain ⟨as, hrd⟩ := Dp.readsAll I _ _ _ ht rv
  have em : (ts.map Tup.mk).map PySem.W.Datum.toD = ts.map tupD := by
    rw [List.map_map]
    rfl
  have hA : PySem.W.HoldAll s.heap its.toArray.toList (ts.map Tup.mk) := ⟨as, by rw [em]; exact hrd⟩
  refine PySem.W.min_list_datum_default (α := Tup Int) (xs := ts.map Tup.mk) hr.hd hl.isList hA (by have := hr.un; show _ + 1 + 1 < _; omega) (fun e h' tk kp => ?_) fun y ys i v h' tk e hi hd kp => ?_
  · exact ⟨d, H, I.kept kp, e1, q0 (List.map_eq_nil_iff.mp e)⟩
  · cases ts with
    | nil => cases e
    | cons t r' =>
      rw [List.map_cons] at e
      injection e with e2 e3
      subst e2
      subst e3
      have hi' : its[i]? = some v := by simpa using hi
      obtain ⟨x, hx, rx⟩ := getV rv hi'
      obtain ⟨dd, bs, h1, h2⟩ := readsAll_get hrd hi'
      obtain ⟨bs2, h3⟩ := hd
      have e4 : ((t :: r').map tupD)[i]? = some dd := h1
      rw [List.getElem?_map] at e4
      cases q : (t :: r')[i]? with
      | none =>
        rw [q] at e4
        cases e4
      | some t2 =>
        rw [q] at e4
        have e5 : tupD t2 = dd := Option.some.inj e4
        have h2' : Reads h' v (tupD t2) bs := by
          rw [e5]
          exact PySem.W.reads_keeps kp h2
        have h3' : Reads h' v (tupD (leastT t r')) bs2 := h3
        have e6 := (PySem.Reads.unique h2' _ _ h3').1
        refine ⟨x, H, I.kept kp, rx, q1 t r' i x rfl hx ?_⟩
        rw [q, tupD_inj e6]
/-- max of ints -/
def rMaxI (K : PySem.W.Frag) : List V → List V → Hp → VK → Prop := fun vs zs H Q => ∃ (a : Addr) (ns : List Int) (d : Int), vs = [V.ref a] ∧ zs = [V.int d] ∧ SqL K H a (ns.map V.int) ∧
  Q (.int (match ns with | [] => d | n :: r => r.foldl max n)) H
theorem maxOf_int (n : Int) : ∀ r : List Int, maxOf n r = r.foldl max n := by
  intro r
  unfold maxOf
  induction r generalizing n with
  | nil => rfl
  | cons y ys ih =>
    rw [List.foldl_cons, List.foldl_cons, ← ih]
    congr 1
    show (if decide (n < y) = true then y else n) = max n y
    by_cases h : n < y
    · rw [if_pos (decide_eq_true h)]
      omega
    · rw [if_neg (by rw [decide_eq_false h]; decide)]
      omega
theorem dp_ints {K : PySem.W.Frag} {H : Hp} : ∀ ns : List Int, DpAll K H (ns.map V.int) (ns.map PyData.int)
  | [] => .nil
  | n :: r => .cons (.int n) (dp_ints r)
theorem cr_maxI {k : Nat} (hr : Room k X.A) : CallRK X (.builtin "max") [Str.ofString "default"] (rMaxI X.K) := by
  intro pins s σ H vs zs us ws Q I r rz h
  obtain ⟨a, ns, d, rfl, rfl, hs, q⟩ := h
  obtain rfl := Vals.ref1 r
  obtain ⟨w1, rfl, e1⟩ := vals1 rz
  obtain ⟨its, rv, hl, hz⟩ := I.list hs
  obtain ⟨as, hrd⟩ := Dp.readsAll I _ _ _ (dp_ints ns) rv
  have hA : PySem.W.HoldAll s.heap its.toArray.toList ns := ⟨as, hrd⟩
  refine PySem.W.max_list_datum_default (α := Int) (xs := ns) hr.hd hl.isList hA (by have := hr.un; show _ + 1 + 0 < _; omega) (fun e h' tk kp => ?_) fun y ys i v h' tk e hi hd kp => ?_
  · subst e
    exact ⟨.int d, H, I.kept kp, e1, q⟩
  · subst e
    obtain ⟨bs, hd⟩ := hd
    rw [maxOf_int] at hd
    cases hd with
    | int i t => exact ⟨.int (ys.foldl max y), H, I.kept kp, ⟨t, rfl⟩, q⟩
end
end Kc
/-! list(reversed(xs)) -/
namespace Kc
open PySem PySem.Spec PyProof.Rows L2
section
variable {prog : Program} {w : World} {A : Around} {E : Value → Shared → Prop} {s : Shared}
theorem extend_rev {R : Result → Shared → Prop} {it l : Addr} {items : Array Value} (hh : A.handled = none) (hit : s.heap.IsRevIter it l ((items.size : Int) - 1)) (hl : s.heap.IsList l items) (hne : l ≠ it) (hn : items.size ≤ sizeLine) (S : Addr) (res : Value) {c₀ : Nat}
    (hSi : S ≠ it) (hSl : S ≠ l) (hS : s.heap.get? S = some { cls := .type "list", data := .seq #[] c₀ })
    (hR : ∀ h' tk acc c', (∀ b o, b ≠ S → b ≠ it → s.heap.get? b = some o → h'.get? b = some o) → h'.get? S = some { cls := .type "list", dict := none, data := .seq acc c', slots := #[] } →
      ItemsOf (fun i v => items[items.size - 1 - i]? = some v) acc items.size → R (.ok (.ret res)) { s with heap := h', toks := tk }) :
    wpAny (model prog w) A.in1 (Builtin.List.listExtendWith (.ref S) (.ref it) res)
      (fun fin s' => match fin with | .done f => R (.ok f) s' | .again c' => c'.quiet = true ∧ codeAny (model prog w) A c' R s') (fun e s' => R (.error e) s') s := by
  have W := (Walks.listRev (prog := prog) (w := w) (A := A.in1) hh it l hne items).toS
  have hT : s.TypeIs (.ref it) "list_reverseiterator" := hit.typeIs
  have hSf : S ∉ [it, l] := by
    simp only [List.mem_cons, List.not_mem_nil, or_false, not_or]
    exact ⟨hSi, hSl⟩
  have hsame : Builtin.List.listSameRef (.ref S) (.ref it) = false := by simp [Builtin.List.listSameRef, hSi]
  unfold Builtin.List.listExtendWith
  refine wpAny_bind (wpAny_typeOf hT ?_)
  rw [if_neg (by rw [hsame]; decide)]
  refine wpAny_bind (wpAny_pyIter_revIter hit ?_)
  refine wpAny_bind (wpAny_holding ?_)
  unfold Builtin.List.listLengthHint
  refine wpAny_bind (wpAny_specialOf hT RT.nolen_lri ?_)
  show wpAny _ A.in1 (specialOf (Value.ref it) (Str.ofString "__length_hint__") >>= _) _ _ _
  refine wpAny_bind (wpAny_specialOf hT RT.hint_lri ?_)
  generalize hq : ("list_reverseiterator.__length_hint__" : String) = q0
  wp_delta
  rw [show splitId q0 = some ("list_reverseiterator", "__length_hint__") from by subst hq; decide +kernel]
  subst hq
  refine wpAny_bind (wpAny_isInstance (b := true) hT (by rw [isSubtype_type]; kernel_rfl) ?_)
  refine wpAny_pure ?_
  rw [if_neg (by decide)]
  have e0 : ((items.size : Nat) : Int) - 1 - ((0 : Nat) : Int) = (items.size : Int) - 1 := by omega
  refine wpAny_pure ⟨plainId_quiet F.plain_extend_loop _, codeAny_extend_loopS W hn _ hSf res items.size 0 _ _ _ rfl (Nat.zero_le _) ⟨Nat.zero_le _, by rw [e0]; exact hit, hl⟩ hS (ItemsOf.nil _) fun s' acc' c' hm hS' hacc => ?_⟩
  rw [Moved.eq_with hm]
  refine hR s'.heap s'.toks acc' c' (fun b o hb hb2 e => hm.heap b o (fun hmem => ?_) e) hS' hacc
  rcases List.mem_cons.mp hmem with z | z
  · exact hb z
  · exact hb2 (List.mem_singleton.mp z)
theorem call_list_rev {it l : Addr} {items : Array Value} {Q : Value → Shared → Prop} (hh : A.handled = none) (hit : s.heap.IsRevIter it l ((items.size : Int) - 1)) (hl : s.heap.IsList l items) (hne : l ≠ it) (hn : items.size ≤ sizeLine)
    (hQ : ∀ h' tk acc c', (∀ b o, b ≠ it → s.heap.get? b = some o → h'.get? b = some o) → h'.get? s.heap.objs.size = some { cls := .type "list", dict := none, data := .seq acc c', slots := #[] } →
      ItemsOf (fun i v => items[items.size - 1 - i]? = some v) acc items.size → Q (.ref s.heap.objs.size) { s with heap := h', toks := tk }) :
    wpAny (model prog w) A (call (.type "list") [.ref it]) Q E s := by
  have hlt : ∀ b o, s.heap.get? b = some o → b ≠ s.heap.objs.size := fun b o e => Nat.ne_of_lt (Heap.lt_size e)
  obtain ⟨oi, hoi, _⟩ := id hit
  obtain ⟨ol, hol, _⟩ := id hl
  refine callType_codes (Q₁ := fun obj s₁ => obj = .ref s.heap.objs.size ∧ s₁ = { s with heap := s.heap.push { cls := .type "list", data := .seq #[] } }) F.called_list (F.typeCall_list_1 _) F.entry_list_init
    (code_list_new _ ⟨rfl, rfl⟩) fun obj s₁ h₁ => ?_
  obtain ⟨rfl, rfl⟩ := h₁
  have hS : (s.heap.push { cls := .type "list", data := .seq #[] }).get? s.heap.objs.size = some { cls := .type "list", data := .seq #[] } := Heap.get?_push_size _ rfl
  refine ⟨⟨_, hS, rfl⟩, F.args_list_init_2 _ _, ?_⟩
  show wpAny _ _ (do let old ← Builtin.List.listItems (.ref s.heap.objs.size); Builtin.List.listUpdate (.ref s.heap.objs.size) (fun _ => #[]); letGo old.toList.reverse; Builtin.List.listExtendWith (.ref s.heap.objs.size) (.ref it) .none) _ _ _
  refine wpAny_bind ?_
  unfold Builtin.List.listItems
  refine wpAny_bind (wpAny_seqItems hS rfl (wpAny_pure ?_))
  show wpAny _ _ (updateSeq s.heap.objs.size (fun _ => #[]) >>= fun _ => letGo (#[] : Array Value).toList.reverse >>= fun _ => Builtin.List.listExtendWith (.ref s.heap.objs.size) (.ref it) .none) _ _ _
  refine wpAny_bind (wpAny_updateSeq hS rfl ?_)
  have hS₂ := Heap.get?_update_self (Obj.mapSeq (fun _ => (#[] : Array Value))) hS rfl
  have keep : ∀ b o, s.heap.get? b = some o → ((s.heap.push { cls := .type "list", data := .seq #[] }).update s.heap.objs.size (Obj.mapSeq (fun _ => (#[] : Array Value)))).get? b = some o := fun b o e =>
    (Heap.get?_update_other _ _ (Ne.symm (hlt b o e))).trans (Heap.get?_push_of_some _ e)
  refine wpAny_bind (wpAny_letGo ?_)
  obtain ⟨o2, ho2, hc2, hd2⟩ := id hl
  refine extend_rev (A := A.in1) hh (Heap.IsRevIter.at hit fun o e => keep _ o e) ⟨o2, keep _ _ ho2, hc2, hd2⟩ hne hn _ .none (Ne.symm (hlt _ _ hoi)) (Ne.symm (hlt _ _ hol)) hS₂ fun h' tk acc c' hk hS' hacc => ?_
  exact ⟨rfl, hQ h' tk acc c' (fun b o hb e => hk b o (hlt b o e) hb (keep b o e)) hS' hacc⟩
end
def tListRev (K : PySem.W.Frag) (te : TE) : TE := fun σ H Q => te σ H fun v H1 => ∃ (a : Addr) (xs : List V), v = .ref a ∧ SqL K H1 a xs ∧ ∀ q, H1 q = none → Q (.ref q) (upd H1 q (.lst xs.reverse))
section
variable {X : Cx}
theorem pe_listRev {e : Expr} {te : TE} {p p2 pos pos2 : Pos} (hc : X.calm = true) (hg : Gl X "list") (hm : X.mg "list" = none) (hg2 : Gl X "reversed") (hm2 : X.mg "reversed" = none) (he : PE X e te)
    (hs : starEach [e] X.env = (false, eval e X.env) :: starEach [] X.env := by rfl)
    (hs2 : starEach [.Call (.Name "reversed" p2) [e] [] pos2] X.env = (false, eval (.Call (.Name "reversed" p2) [e] [] pos2) X.env) :: starEach [] X.env := by rfl) :
    PE X (.Call (.Name "list" p) [.Call (.Name "reversed" p2) [e] [] pos2] [] pos) (tListRev X.K te) := by
  refine ⟨fun pins s σ H Q I h => ?_⟩
  refine Call_ (ld_blt I hg hm boot_list (PyProof.Rows.callWith_type1 (args_cons (Call_ (ld_blt I hg2 hm2 PyProof.Rows.boot_reversed (PyProof.Rows.callWith_type1 (args_cons (thn (he.run pins s σ H _ I h) fun u s1 ⟨v, H1, I1, r1, q1⟩ => args_nil ?_) hs) hs rfl))) hs2) hs2 rfl))
  obtain ⟨a, xs, ev, hq, q⟩ := q1
  subst ev
  obtain rfl : u = Value.ref a := r1
  obtain ⟨its, rv, p', hz⟩ := I1.list hq
  refine call_reversed_list p'.isList (args_nil ?_)
  have k0 : ∀ b o, s1.heap.get? b = some o → (s1.heap.push (revObj a ((its.toArray.size : Int) - 1))).get? b = some o := fun b o e => Heap.get?_push_of_some _ e
  have I2 : Inv X pins σ H1 { s1 with heap := s1.heap.push (revObj a ((its.toArray.size : Int) - 1)) } := I1.kept (t' := s1.toks) k0
  have fp : FpOk X pins H1 s1.heap.objs.size := I1.fpOk (H' := H1) (b := s1.heap.objs.size) (Nat.le_refl _) (I1.hok.fresh (Nat.le_refl _))
  have hl := p'.isList
  obtain ⟨ol, hol, _⟩ := id hl
  have hne : a ≠ s1.heap.objs.size := Nat.ne_of_lt (Heap.lt_size hol)
  have hn : its.toArray.size ≤ sizeLine := by rw [List.size_toArray, ← rv.length]; exact hz
  refine call_list_rev (s := { s1 with heap := s1.heap.push (revObj a ((its.toArray.size : Int) - 1)) }) (I1.ok.hd hc) ⟨_, Heap.get?_push_size _ rfl, rfl, rfl⟩ (hl.push _) hne hn fun h' tk acc c' hk hS' hi => ?_
  have sz2 : (s1.heap.push (revObj a ((its.toArray.size : Int) - 1))).objs.size = s1.heap.objs.size + 1 := PyProof.Rows.size_push' ..
  have hlen : acc.toList.length = its.length := by rw [Array.length_toList, hi.1, List.size_toArray]
  have I3 := I2.turnedNew (t' := tk) (ch := [s1.heap.objs.size]) (T := (s1.heap.push (revObj a ((its.toArray.size : Int) - 1))).objs.size) (ob := .lst xs.reverse) (h' := h') (fun b o hb e => hk b o (fun z => hb (by simp [z])) e) (fun b hb => by
    have z : b = s1.heap.objs.size := by simpa using hb
    rw [z]
    exact fp) (Nat.le_refl _) (show ObjOk X.prog X.w _ _ _ (.lst xs.reverse) from ⟨by rw [List.length_reverse]; exact hz, acc.toList, c', RT.vals_rev rv hi, by rw [Array.toArray_toList]; exact hS'⟩)
  exact ⟨.ref _, _, I3, rfl, q _ (I2.hok.fresh (Nat.le_refl _))⟩
end
end Kc
/-! a dict of the top with int keys; xs[i] += e; the end of a Spec row whose defs keep code tables -/
namespace Kc
open PySem PySem.Spec PyProof.Rows L2 LamX
/-! ### a dict of the module, int keys -/
def KeysI (l : List DictEntry) : Prop := ∀ e ∈ l, ∃ k t, e.key = .int k t ∧ e.hash = hashInt k
def rIxI (K : PySem.W.Frag) : R2 := fun x y H Q => ∃ (p : Addr) (i : Int) (es : Array DictEntry) (n : Nat) (u : Value) (v : V), x = .ref p ∧ y = .int i ∧ K.lookup p = some ⟨.type "dict", none, .dict es n, #[]⟩ ∧ KeysI es.toList ∧
  findBy Value.isInt es i = some u ∧ RelV v u ∧ Q v H
section
variable {X : Cx}
theorem ix_intdict : IxR X (rIxI X.K) := by
  intro value slice pins s σ H x y v u Q I rx ry h hs
  obtain ⟨p, i, es, n, u0, r, rfl, rfl, hl, hk, hf, ru, q⟩ := h
  obtain rfl : v = Value.ref p := rx
  obtain ⟨t, rfl⟩ := ry
  have hm : s.heap.MapOf (PySem.intKind X.prog X.w) p (fun k => findBy Value.isInt es k) := ⟨_, es, n, I.kIn _ _ hl, ⟨rfl, rfl, rfl⟩, rfl, fun e he => by
    obtain ⟨k, t, e1, e2⟩ := hk e (Array.mem_toList_iff.mpr he)
    exact ⟨k, by rw [e1]; show Value.isInt k (.int k t) = true; simp [Value.isInt], e2⟩, fun _ => rfl⟩
  exact tail_any hm.typeIs slot_dict_getitem.lookup (wpAny_getItem_of (knd := PySem.intKind X.prog X.w) (k := i) (by show Value.isInt i (.int i t) = true; simp [Value.isInt]) hm hf ⟨r, H, I.tok _, ru, q⟩) hs
/-! ### xs[i] read for xs[i] += e -/
theorem get_list : PGet X fun x y H Q => ∃ (p : Addr) (xs : List V) (i : Nat) (v : V), x = .ref p ∧ y = .int (i : Int) ∧ SqL X.K H p xs ∧ xs[i]? = some v ∧ Q v H := by
  intro pins s σ H x y v u Q I rx ry h
  obtain ⟨p, xs, i, z, rfl, rfl, hq, he, q⟩ := h
  cases rx
  obtain ⟨t, rfl⟩ := ry
  obtain ⟨its, r, pl, hz⟩ := I.list hq
  obtain ⟨w', ew, rw'⟩ := r.get he
  have hi := (List.getElem?_eq_some_iff.mp he).1
  have hn := line63
  exact wpAny_getItem_list pl.isList (Int.natCast_nonneg i) (by omega) (by simpa using ew) ⟨z, H, I, rw', q⟩
end
section
open PySem.W (WData)
variable {K : PySem.W.Frag} {H H' : Hp}
mutual
theorem dw_mono (l : ∀ a xs, SqL K H a xs → SqL K H' a xs) (t : ∀ a xs, SqT K H a xs → SqT K H' a xs) : ∀ (d : WData) (v : V), Dw K H v d → Dw K H' v d
  | .none, _, x => by
    cases x
    exact .non
  | .bool b, _, x => by
    cases x
    exact .bl b
  | .int i, _, x => by
    cases x
    exact .int i
  | .str s, _, x => by
    cases x
    exact .str s
  | .bytes b, _, x => by
    cases x
    exact .byt _
  | .list ds, _, x => by
    cases x with
    | lst hs ha => exact .lst (l _ _ hs) (dwAll_mono l t ds _ ha)
  | .tuple ds, _, x => by
    cases x with
    | tup hs ha => exact .tup (t _ _ hs) (dwAll_mono l t ds _ ha)
  | .float _, _, x => by cases x
  | .dict _, _, x => by cases x
  | .bytearray _, _, x => by cases x
  | .set _, _, x => by cases x
  | .frozenset _, _, x => by cases x
  | .obj _ _, _, x => by cases x
theorem dwAll_mono (l : ∀ a xs, SqL K H a xs → SqL K H' a xs) (t : ∀ a xs, SqT K H a xs → SqT K H' a xs) : ∀ (ds : List WData) (vs : List V), DwAll K H vs ds → DwAll K H' vs ds
  | [], _, x => by
    cases x
    exact .nil
  | d :: ds, _, x => by
    cases x with
    | cons h1 h2 => exact .cons (dw_mono l t d _ h1) (dwAll_mono l t ds _ h2)
end
end
/-! ### the call of a Spec row's def: the tables at cs are empty at its beginning -/
theorem spec_callT {P : Program} {w : World} {K : PySem.W.Frag} {mg mb : Str → Option Value} {k : Nat} {fa : Addr} {cs : List (Addr × Addr)} {fd : FuncData} {ps : List Str} {sp : Sp} {s₁ : Shared} {vals : List Value} {ds : List PySem.W.WData} {R : PySem.W.WRecords} {cl : Str → Option Addr} {d0 : PySem.W.WData}
    (KX : K.In s₁.heap) (hns : s₁.heap.Ns mainGlobals mg) (hb : s₁.heap.Ns builtinsNs mb) (hbb : ∀ x : Str, x ≠ "__name__" → mb x = bootBuiltins x) (hlim : s₁.heap.NoLimit) (hg : s₁.gens = #[])
    (hT : ∀ p ∈ cs, s₁.heap.get? p.2 = some { cls := .none, data := .fields #[] }) (nT : ∀ p ∈ cs, K.lookup p.2 = none) (C : ∀ p ∈ cs, PySem.W.CodeHd s₁.heap p.1 p.2)
    (hbm : ∃ (bm : Addr) (ob : Obj), mg "__builtins__" = some (.ref bm) ∧ bm ≠ builtinsNs ∧ s₁.heap.get? bm = some ob ∧ ob.cls = .type "module" ∧ ob.dict = some builtinsNs ∧ ob.data = .plain)
    (hwl : PySem.W.WellAll w.params s₁.heap vals ds) (hpl : plWs ds = true) (hwt : ∀ d ∈ ds, d.weight ≤ 1048576) (hr : Room k callerA)
    (F : ∀ base : Heap, K.In base → base.Ns mainGlobals mg → (∀ p ∈ cs, TabB base mg p.1 p.2) → FnOk P w K mg base C8.CX0 k fa fd ps sp) (hbind : ∀ (s : Shared) (us : List Value), us.length = ps.length → BindsTo s fd ⟨us, []⟩ (ps.zip us)) (hlen : ds.length = ps.length)
    (hsp : ∀ (H : Hp) (xs : List V), (∀ p ∈ cs, H p.2 = some (.tbl #[])) → DwAll K H xs ds → sp xs H (fun v H' => Dw K H' v d0) fun _ _ _ => False) :
    codeAny (model P w) callerA (.call (.ref fa) ⟨vals, []⟩) (fun r s' => ∃ u as, r = .ok (.ret u) ∧ PySem.W.ReadsW R cl s'.heap u d0 as ∧ OldK s₁.heap s'.heap ∧ s'.os = s₁.os ∧ AllBare s'.gens) s₁ := by
  obtain ⟨A, ho, ar⟩ := area_all ds vals hwl hpl hwt
  have hO : OnlyF (argH K s₁.heap A) := argH_only ar
  have hok0 : HOk P w (argH K s₁.heap A) s₁.heap := argH_ok ar
  have hS := dw_all KX ar ds vals hwl hpl ho
  have hV := vals_toV ho
  have hK : ∀ b u, argH K s₁.heap A b = some u → K.lookup b = none := fun b u q => (argH_is ar q).1
  have isArg : ∀ b u, argH K s₁.heap A b = some u → ∃ vs : List Value, s₁.heap.get? b = some { cls := .type "list", data := .seq vs.toArray } ∨ s₁.heap.get? b = some { cls := .type "tuple", data := .seq vs.toArray } := fun b u q => by
    obtain ⟨_, vs, _, _, ⟨e2, _⟩ | ⟨e2, _⟩⟩ := argH_is ar q
    · exact ⟨vs, .inl e2⟩
    · exact ⟨vs, .inr e2⟩
  have isT : ∀ b : Addr, b ∈ cs.map (·.2) → s₁.heap.get? b = some { cls := .none, data := .fields #[] } := fun b hb => by
    obtain ⟨p, hp, e⟩ := List.mem_map.mp hb
    rw [← e]
    exact hT p hp
  have noArg : ∀ b : Addr, b ∈ cs.map (·.2) → argH K s₁.heap A b = none := fun b hb => by
    cases q : argH K s₁.heap A b with
    | none => rfl
    | some u =>
      obtain ⟨vs, e | e⟩ := isArg b u q
      · rw [isT b hb] at e
        have z : Data.fields #[] = Data.seq vs.toArray _ := congrArg Obj.data (Option.some.inj e)
        cases z
      · rw [isT b hb] at e
        have z : Data.fields #[] = Data.seq vs.toArray _ := congrArg Obj.data (Option.some.inj e)
        cases z
  have memT : ∀ p ∈ cs, p.2 ∈ cs.map (·.2) := fun p hp => List.mem_map.mpr ⟨p, hp, rfl⟩
  obtain ⟨H, hH⟩ : ∃ H : Hp, H = fun b => if b ∈ cs.map (·.2) then some (.tbl #[]) else argH K s₁.heap A b := ⟨_, rfl⟩
  have hT1 : ∀ b, b ∈ cs.map (·.2) → H b = some (.tbl #[]) := fun b hb => by rw [hH]; exact if_pos hb
  have hT2 : ∀ b, b ∉ cs.map (·.2) → H b = argH K s₁.heap A b := fun b hb => by rw [hH]; exact if_neg hb
  have up : ∀ b u, argH K s₁.heap A b = some u → H b = some u := fun b u q => by
    rw [hT2 b (fun z => by rw [noArg b z] at q; cases q)]
    exact q
  have hS1 : DwAll K H (vals.map toV) ds := dwAll_mono (fun a xs h => by
    rcases h with (h | ⟨o, h⟩) | h
    · exact .inl (.inl (up a _ h))
    · exact .inl (.inr ⟨o, up a _ h⟩)
    · exact .inr h) (fun a xs h => by
    rcases h with (h | ⟨o, h⟩) | h
    · exact .inl (.inl (up a _ h))
    · exact .inl (.inr ⟨o, up a _ h⟩)
    · exact .inr h) ds _ hS
  have hok : HOk P w H s₁.heap := fun b u q => by
    by_cases hb : b ∈ cs.map (·.2)
    · rw [hT1 b hb] at q
      cases q
      exact isT b hb
    · rw [hT2 b hb] at q
      exact (hok0 b u q).stay (fun _ _ _ e => e) (fun c e => up c _ e) fun c xs e => up c _ e
  have cases_ : ∀ b u, H b = some u → (b ∈ cs.map (·.2) ∧ u = .tbl #[]) ∨ argH K s₁.heap A b = some u := fun b u q => by
    by_cases hb : b ∈ cs.map (·.2)
    · rw [hT1 b hb] at q
      cases q
      exact .inl ⟨hb, rfl⟩
    · rw [hT2 b hb] at q
      exact .inr q
  have noD : ∀ {b : Addr} {o : Obj}, s₁.heap.get? b = some o → (∀ vs n, o.data ≠ .seq vs n) → o.data ≠ .fields #[] → H b = none := fun {b o} e h1 h2 => by
    cases q : H b with
    | none => rfl
    | some u =>
      rcases cases_ b u q with ⟨z, _⟩ | z
      · rw [isT b z] at e
        cases e
        exact (h2 rfl).elim
      · obtain ⟨vs, e2 | e2⟩ := isArg b u z
        · rw [e2] at e
          cases e
          exact (h1 _ _ rfl).elim
        · rw [e2] at e
          cases e
          exact (h1 _ _ rfl).elim
  have base_of : ∀ {b : Addr} {o : Obj}, s₁.heap.get? b = some o → H b = none → (hidT s₁.heap H).get? b = some o := fun e n => hidT_get e n
  have nsK : ∀ {b : Addr} {m : Str → Option Value}, s₁.heap.Ns b m → (hidT s₁.heap H).Ns b m := fun {b m} ⟨o, es, ep, e, d, r⟩ => ⟨o, es, ep, base_of e (noD e (fun vs n z => by rw [d] at z; cases z) fun z => by rw [d] at z; cases z), d, r⟩
  have hKb : K.In (hidT s₁.heap H) := fun b o e => base_of (KX b o e) (by
    cases q : H b with
    | none => rfl
    | some u =>
      rcases cases_ b u q with ⟨z, _⟩ | z
      · obtain ⟨p, hp, ep⟩ := List.mem_map.mp z
        rw [← ep, nT p hp] at e
        cases e
      · rw [hK b u z] at e
        cases e)
  have hM : L2.Mod K mg (hidT s₁.heap H) := ⟨hKb, nsK hns, ⟨mb, nsK hb, hbb⟩, let ⟨mc, h1, h2⟩ := hlim; ⟨mc, nsK h1, h2⟩⟩
  have TB : ∀ p ∈ cs, TabB (hidT s₁.heap H) mg p.1 p.2 := fun p hp => by
    have hTp := hT p hp
    refine ⟨?_, ?_, fun z => ?_⟩
    · obtain ⟨o, us, file, tf, flags, tg, inF, text, tt, e1, r1, r2, r3, r4, r5, r6, r7, r8, hne⟩ := C p hp
      refine ⟨o, us, file, tf, flags, tg, inF, text, tt, base_of e1 (noD e1 (fun vs n z => ?_) fun z => ?_), r1, r2, r3, r4, r5, r6, r7, r8, hne⟩
      · rw [r2] at z
        cases z
      · rw [r2] at z
        cases z
        simp at r3
    · obtain ⟨bm, ob, b1, b2, b3, b4, b5, b6⟩ := hbm
      have nG : bm ≠ mainGlobals := fun q => by
        obtain ⟨o, es, ep, e, hd, _⟩ := hns
        rw [q, e] at b3
        cases b3
        rw [hd] at b6
        cases b6
      have nP : bm ≠ p.2 := fun q => by
        rw [q, hTp] at b3
        cases b3
        cases b6
      refine ⟨bm, ob, b1, b2, nG, nP, base_of b3 (noD b3 (fun vs n z => ?_) fun z => ?_), b4, b5, b6⟩
      · rw [b6] at z
        cases z
      · rw [b6] at z
        cases z
    · obtain ⟨o, es, ep, e, hd, _⟩ := hns
      rw [z, hTp] at e
      cases e
      cases hd
  have e0 : Env0 P w K mg (hidT s₁.heap H) callerA [] s₁ H := ⟨rfl, hM, fun b o e => of_hidT e, Nat.le_of_eq (hidT_size _ _), trivial, fun b hb => absurd (show b ∈ ([] : List Addr) from hb) (by simp), hok, .of_eq hg⟩
  have hl : vals.length = ps.length := by rw [wellAll_len hwl]; exact hlen
  refine codeAny_mono ((F _ hKb (nsK hns) TB).run callerA [] s₁ H ⟨vals, []⟩ vals (vals.map toV) _ _ hr e0 (hbind s₁ vals hl) hV (hsp H _ (fun p hp => hT1 _ (memT p hp)) hS1)) fun r s' x => ?_
  cases r with
  | error e => exact (show False from x).elim
  | ok fl =>
    cases fl with
    | next => exact False.elim x
    | brk => exact False.elim x
    | cont => exact False.elim x
    | ret u =>
      obtain ⟨v, H', os, bare, un, hok', r', q⟩ := x
      have key : ∀ b o, b ∉ cs.map (·.2) → s₁.heap.get? b = some o → s'.heap.get? b = some o := fun b o nb e => by
        cases q2 : H b with
        | none => exact un.keep b o e q2 (by intro z; exact absurd (show b ∈ ([] : List Addr) from z) (by simp)) (by simp)
        | some u2 =>
          rw [hT2 b nb] at q2
          rcases hO b with z | ⟨ob, u3, z⟩
          · rw [q2] at z
            cases z
          · have z2 := un.frzs b ob _ (up b _ z)
            obtain ⟨e1, _⟩ := hok b _ (up b _ z)
            obtain ⟨e2, _⟩ := hok' b _ z2
            rw [e] at e1
            cases e1
            exact e2
      have grown : ∀ p ∈ cs, ∃ more : Array Value, s'.heap.get? p.2 = some { cls := .none, data := .fields more } := fun p hp => by
        obtain ⟨more, z⟩ := un.tbls p.2 #[] (hT1 _ (memT p hp))
        exact ⟨_, hok' p.2 _ z⟩
      have KX' : K.In s'.heap := fun b o e => key b o (fun z => by
        obtain ⟨p, hp, ep⟩ := List.mem_map.mp z
        rw [← ep, nT p hp] at e
        cases e) (KX b o e)
      obtain ⟨as, hrd⟩ := Dw.reads (R := R) (cl := cl) hok' KX' d0 v u q r'
      refine ⟨u, as, rfl, hrd, ⟨fun b o e => ?_, fun b o e => ?_⟩, os, bare⟩
      · by_cases hb : b ∈ cs.map (·.2)
        · obtain ⟨p, hp, ep⟩ := List.mem_map.mp hb
          obtain ⟨more, hm⟩ := grown p hp
          rw [← ep] at e ⊢
          rw [hT p hp] at e
          cases e
          exact .inr (.inl ⟨((C p hp).tab (hT p hp)).isCodeTable, rfl, #[], more, rfl, by rw [Array.empty_append]; exact hm⟩)
        · exact .inl (key b o hb e)
      · by_cases hb : b ∈ cs.map (·.2)
        · obtain ⟨p, hp, ep⟩ := List.mem_map.mp hb
          obtain ⟨more, hm⟩ := grown p hp
          rw [← ep]
          exact ⟨_, hm⟩
        · exact ⟨o, key b o hb e⟩
/-- what is to be shown of the row's def at the head's heap h -/
def SpecAtT (r : PySem.W.OpenSpec) (w : World) (K : PySem.W.Frag) (k : Nat) (ps : List Str) (mg : Str → Option Value) (fa : Addr) (h : Heap) : Prop :=
  ∃ (fd : FuncData) (cs : List (Addr × Addr)) (sp : Sp), (∀ p ∈ cs, h.get? p.2 = some { cls := .none, data := .fields #[] }) ∧ (∀ p ∈ cs, K.lookup p.2 = none) ∧ (∀ p ∈ cs, PySem.W.CodeHd h p.1 p.2) ∧
    (∀ (s : Shared) (us : List Value), us.length = ps.length → BindsTo s fd ⟨us, []⟩ (ps.zip us)) ∧
    (∀ (H : Hp) (xs : List V) (a : PySem.W.Codec.denoteAll r.args), (∀ p ∈ cs, H p.2 = some (.tbl #[])) → PySem.W.Codec.withinAll r.args a = true → PySem.W.Codec.app r.args r.asked a = true → DwAll K H xs (PySem.W.Codec.encAll r.args a) →
      sp xs H (fun v H' => Dw K H' v (r.ret.enc (PySem.W.Codec.app r.args r.f a))) fun _ _ _ => False) ∧
    ∀ base : Heap, K.In base → base.Ns mainGlobals mg → (∀ p ∈ cs, TabB base mg p.1 p.2) → FnOk r.prog w K mg base C8.CX0 k fa fd ps sp
theorem walk_specT {r : PySem.W.OpenSpec} {k : Nat} {q : Program} {loose : List Str} {XP : (Str → Option Value) → Heap → Prop} {YP : World → Heap → Prop} {d : DefRec} {K : Params → PySem.W.Frag} {ps : List Str}
    (hwell : r.wellSaid = true) (hlen : r.args.length = ps.length) (hr : Room k callerA)
    (hY : ∀ (w : World) (h : Heap), YP w h → (K w.params).In h)
    (F : ∀ (w : World) (mg mb : Str → Option Value) (mean : ExcName → Option Value) (fa : Addr) (h : Heap), YP w h → (K w.params).In h → Top q (PySem.W.looseW q loose) mean mg mb h → mg d.name = some (.ref fa) → SpecAtT r w (K w.params) k ps mg fa h) :
    PySem.W.WalkOS q loose XP YP r d [] (fun f vs => PySem.call f vs) := by
  intro w s₀ s₁ mg mb G Y fa o pm cd doc dV kV ho hd hcd hD hmg hg args vals as hpre hlay hrd hwl hlo
  obtain ⟨a, e1, e2⟩ := PySem.W.os_pre_some hpre
  obtain ⟨e3, hwi⟩ := PySem.W.Codec.encAll_of_decAll r.args args a e1
  subst e3
  have KX := hY w _ Y
  obtain ⟨fd, cs, sp, hT, nT, C, hb, hsp, hF⟩ := F w mg mb _ fa _ Y KX G.T hmg
  refine PySem.W.enter_call (codeAny_mono (spec_callT (R := []) (cl := classAt s₀.heap) (d0 := r.ret.enc (PySem.W.Codec.app r.args r.f a)) KX G.T.g G.T.b G.T.builtins G.T.nolimit hg hT nT C G.T.bmain hwl (pl_encAll _ _) (layable_weight hlay) hr hF hb (by rw [encAll_len]; exact hlen)
    fun H xs h1 h2 => hsp H xs a h1 hwi e2 h2) fun r' s' hq => ?_)
  obtain ⟨u, as', rfl, h1, h2, h3, h4⟩ := hq
  exact ⟨.inl ⟨u, _, as', rfl, fun _ => rfl, h1, (PySem.W.OpenSpec.post_iff hwell hwi _ _).mpr rfl, fun z => Bool.noConfusion (show false = true from z)⟩, h2, h3, h4⟩
theorem tabIn_of {K : PySem.W.Frag} {x : Str} {f c P : Addr} {fd : FuncData} {a1 b1 : Value} {a2 b2 : Option Addr} {a3 b3 : Array (Option Value)} {vs : Array Value} (h1 : PySem.W.nsIn K mainGlobals x = some (some (.ref f))) (h2 : K.lookup f = some ⟨a1, a2, .func fd, a3⟩)
    (h3 : fd.code = .ref c) (h4 : K.lookup c = some ⟨b1, b2, .fields vs, b3⟩) (h5 : vs[11]? = some (.ref P)) : PySem.W.tabIn K x = some (c, P) := by
  unfold PySem.W.tabIn
  rw [h1]
  dsimp only
  rw [h2]
  dsimp only
  rw [h3]
  dsimp only
  rw [h4]
  dsimp only
  rw [h5]
end Kc
set_option autoImplicit false
/-! x in a dict of the top with int keys; list.count over plain values; a list of new things, one of each item -/
namespace Kc
open PySem PySem.Spec PyProof.Rows L2 LamX
def rInI (K : PySem.W.Frag) : R2 := fun x y H Q => ∃ (p : Addr) (i : Int) (es : Array DictEntry) (n : Nat), x = .int i ∧ y = .ref p ∧ K.lookup p = some ⟨.type "dict", none, .dict es n, #[]⟩ ∧ KeysI es.toList ∧ Q (.bl (findBy Value.isInt es i).isSome) H
def rCount (K : PySem.W.Frag) : V → List V → Hp → VK → Prop := fun x xs H Q => ∃ (p : Addr) (ys : List V) (y : V), x = .ref p ∧ xs = [y] ∧ SqL K H p ys ∧ flatV y = true ∧ ys.all flatV = true ∧ Q (.int ((ys.countP fun z => eqV z y : Nat) : Int)) H
theorem countP_eqU {x : V} : ∀ {xs : List V} {us : List Value}, Vals xs us → xs.all flatV = true → us.countP (eqU x) = xs.countP fun z => eqV z x
  | _, _, .nil, _ => rfl
  | y :: xs, u :: us, .cons r t, f => by
    rw [List.all_cons, Bool.and_eq_true] at f
    rw [List.countP_cons, List.countP_cons, countP_eqU t f.2, eqU_of r f.1]
section
variable {X : Cx}
theorem op_inI : OpR X (compareOp .In) (rInI X.K) := by
  intro pins s σ H x y v u Q I rx ry h
  obtain ⟨p, i, es, n, rfl, rfl, hl, hk, q⟩ := h
  obtain ⟨t, rfl⟩ := rx
  obtain rfl : u = Value.ref p := ry
  have hm : s.heap.IntMap p (fun k => findBy Value.isInt es k) := ⟨_, es, n, I.kIn _ _ hl, rfl, rfl, fun e he => by
    obtain ⟨k, t, e1, e2⟩ := hk e (Array.mem_toList_iff.mpr he)
    exact ⟨k, t, e1, e2⟩, fun _ => rfl⟩
  exact wpAny_in_intMap hm ⟨.bl _, H, I.tok _, rfl, q⟩
theorem mt_countV : MtR X "list.count" (rCount X.K) := by
  intro pins s σ H x xs v us Q I rx rxs h
  obtain ⟨p, ys, y, rfl, rfl, hs, fy, fs, q⟩ := h
  cases rx
  obtain ⟨u, rfl, ru⟩ := rxs.one
  obtain ⟨its, rv, ⟨⟨cls, dd, data, sl⟩, n, ho, hc, hdn, hd⟩, hlen⟩ := I.list hs
  simp only at hc hd
  subst hc hd
  refine call_meets PySem.F.slot_list_count ⟨_, ho, rfl⟩ PySem.F.entry_list_count (PySem.F.args_list_count_2 _ _)
    (SeqAt.list_countAt p its.toArray n dd sl u (eqU y)) ⟨ho, fun z hz => mem_eqAt ru fy rv fs z (by simpa using hz), ?_⟩
  have ec : its.toArray.toList.countP (eqU y) = ys.countP fun z => eqV z y := countP_eqU rv fs
  refine ⟨.int ((ys.countP fun z => eqV z y : Nat) : Int), H, I.tok _, ⟨s.toks, ?_⟩, q⟩
  show Value.int ((its.toArray.toList.countP (eqU y) : Nat) : Int) s.toks = Value.int ((ys.countP fun z => eqV z y : Nat) : Int) s.toks
  rw [ec]
end
end Kc
set_option autoImplicit true
/-! a lambda with parameters, called; sorted(xs, key=it), its keys pairs of ints -/
namespace Kc
open PySem PySem.Spec PyProof.Rows L2 LamX NdefX
/-- the words of a lambda -/
abbrev lamF (q : Str) (params : Arguments) (scope : Scope) (cl : List (Str × Addr)) (c' : Addr) : NF := ⟨"<lambda>", q, params, [], scope, cl, c'⟩
section
variable {CX : CXT} {P : Program} {w : World} {K : PySem.W.Frag} {mg : Str → Option Value} {base : Heap} {N ps fr : List Str}
theorem lam_run {k : Nat} {q : Str} {params : Arguments} {body : Expr} {scope : Scope} {cl : List (Str × Addr)} {f c' : Addr} {pm ctv : Value} {A : Around} {outer : List Env} {s : Shared} {H : Hp} {us : List Value} {vs : List V} {ws : List (Option V)} {Q : VK} {E : XK}
    (S : NScope N ps fr scope) (hr : Room (k + 1) A) (e0 : Env0 P w K mg base A outer s H) (hf : s.heap.get? f = some (PySem.W.kla_obj "<lambda>" q params body scope cl pm c' ctv)) (hc : s.heap.CodeRec (.ref c') q)
    (hb : bindArgs (PySem.W.kla_fn "<lambda>" q params body scope cl pm (.ref c') ctv) ⟨us, []⟩ = pure (ps.zip us)) (C : CellsAt cl fr ws s.heap H) (r : Vals vs us) (hl : vs.length = ps.length)
    (hbody : Room k (A.deeper (envF (lamF q params scope cl c') f s.heap.objs.size)) → ∃ t, PE (ncx CX P w K mg base N (lamF q params scope cl c') f A outer s H E) body t ∧ t (startF N vs ws) H Q) :
    codeAny (model P w) A (.call (.ref f) ⟨us, []⟩) (CR CX outer P w H s Q E) s := by
  have lim : s.heap.NoLimit := e0.mod.nolimit.keeps fun b o e => (e0.bs b o e).1
  refine PySem.W.kla_callFunE hr.depth hf rfl S.co S.gen rfl hc ?_
  rw [hb]
  refine wpAny_pure (wpAny_newFunctionEnv S.nocell (fun ⟨n, _⟩ hy => S.par n (List.of_mem_zip hy).1) (fun h₁ hns hsb => ⟨lim.fresh _ hsb, ?_⟩) S.kind)
  show codeAny _ _ (.expr body (envF (lamF q params scope cl c') f s.heap.objs.size)) _ _
  have kp : ∀ b o, s.heap.get? b = some o → h₁.get? b = some o := fun b o e => hsb.extBut b o (Nat.ne_of_lt (Heap.lt_size e)) (Heap.get?_push_of_some _ e)
  obtain ⟨t, ht, hq⟩ := hbody (hr.deeper _)
  have I : Inv (ncx CX P w K mg base N (lamF q params scope cl c') f A outer s H E) [] (startF N vs ws) H { s with heap := h₁, toks := s.toks + (ps.zip us).length } := inv_startN S hr.hd e0 hl r C hns kp
  refine PySem.W.kla_codeExpr (wpAny_mono (ht.run [] _ _ H Q I hq) (fun u s' hs => ?_) fun e s' hs => hs)
  obtain ⟨v, H', J, rv, q'⟩ := hs
  exact ⟨v, H', J.os, J.bare, J.base, J.hok, rv, q'⟩
end
theorem Un.news {fs : List Addr} {H H' : Hp} {h h1 h2 : Heap} (u : Un fs [] H H' h h1) (k : ∀ b o u, h.get? b = some u → h1.get? b = some o → h2.get? b = some o) : Un fs [] H H' h h2 := by
  refine ⟨fun b o e n hb hx => k b o _ e (u.keep b o e n hb hx), fun b o e n hb hx => ?_, u.free, fun b o e hx => ?_, u.tups, u.frzs, u.tbls⟩
  · obtain ⟨sl, z⟩ := u.slot b o e n hb hx
    exact ⟨sl, k b _ _ e z⟩
  · obtain ⟨o', z⟩ := u.there b o e hx
    exact ⟨o', k b _ _ e z⟩
theorem Un.other {fs : List Addr} {H H' : Hp} {h h1 h2 : Heap} {c : Addr} (u : Un fs [] H H' h h1) (hc : h.get? c = none) (k : ∀ b o, b ≠ c → h1.get? b = some o → h2.get? b = some o) : Un fs [] H H' h h2 :=
  Un.news u fun b o v e q => k b o (fun z => by
    rw [z, hc] at e
    cases e) q
/-- a list laid at a place that was nobody's -/
theorem Un.more {fs : List Addr} {H H' : Hp} {h h1 : Heap} {a : Addr} {o : HO} (u : Un fs [] H H' h h1) (ha : h.get? a = none) (ha' : H' a = none) : Un fs [] H (upd H' a o) h h1 := by
  refine ⟨u.keep, u.slot, fun b v e n hx => ?_, u.there, fun b xs e => ?_, fun b v w e => ?_, fun b ps e => ?_⟩
  · rw [upd_ne fun z => by rw [z, ha] at e; cases e]
    exact u.free b v e n hx
  · have q := u.tups b xs e
    rw [upd_ne (ne_of_none q ha')]
    exact q
  · have q := u.frzs b v w e
    rw [upd_ne (ne_of_none q ha')]
    exact q
  · obtain ⟨m, q⟩ := u.tbls b ps e
    exact ⟨m, by rw [upd_ne (ne_of_none q ha')]; exact q⟩
theorem HOk.other {P : Program} {w : World} {H : Hp} {h h' : Heap} {c : Addr} (x : HOk P w H h) (hc : H c = none) (k : ∀ b o, b ≠ c → h.get? b = some o → h'.get? b = some o) : HOk P w H h' := fun b u e => by
  have ne : ∀ b u, H b = some u → b ≠ c := fun b u e z => by
    rw [z, hc] at e
    cases e
  refine (x b u e).stay (fun d v hd q => k d v ?_ q) (fun _ q => q) fun _ _ q => q
  rcases hd with z | z
  · rw [z]
    exact ne b u e
  · exact ne d _ z
/-- what holds while sorted calls its key: from the heap h, tracked as H -/
structure Mid (P : Program) (w : World) (fs : List Addr) (H : Hp) (s : Shared) (H' : Hp) (s' : Shared) : Prop where
  os : s'.os = s.os
  bare : AllBare s'.gens
  un : Un fs [] H H' s.heap s'.heap
  hok : HOk P w H' s'.heap
theorem Mid.other {P : Program} {w : World} {fs : List Addr} {H H' : Hp} {s s' : Shared} {c : Addr} {h : Heap} {tk : Nat} (m : Mid P w fs H s H' s') (hc : s.heap.get? c = none) (hc' : H' c = none) (k : ∀ b o, b ≠ c → s'.heap.get? b = some o → h.get? b = some o) :
    Mid P w fs H s H' { s' with heap := h, toks := tk } := ⟨m.os, m.bare, Un.other m.un hc k, HOk.other m.hok hc' k⟩
theorem Mid.env {X : Cx} {pins : List (Addr × Obj)} {σ : L2.St} {H H' : Hp} {s s' : Shared} {A : Around} (I : Inv X pins σ H s) (m : Mid X.prog X.w (frs X.stack) H s H' s') (hA : A.frames = X.A.frames) : Env0 X.prog X.w X.K X.mg X.base A X.stack s' H' := by
  obtain ⟨h', g', d', t', os'⟩ := s'
  obtain rfl : os' = s.os := m.os
  have J : Inv X pins σ H' { s with heap := h', gens := g', drawn := d', toks := t' } := I.call (ch := []) m.un m.hok m.bare (fun b z => absurd z (by simp))
  have e := J.env0
  exact ⟨hA.trans e.frames, e.mod, e.bs, e.bsz, e.funs, e.frf, e.hok, e.bare⟩
/-- the order of keys that are pairs of ints -/
def leK (p q : Int × Int) : Bool := decide (p.1 < q.1 ∨ (p.1 = q.1 ∧ p.2 ≤ q.2))
/-- the items in the order of their keys -/
def byKey (l : List (V × Int × Int)) : List V := (l.mergeSort fun p q => leK p.2 q.2).map (·.1)
theorem each_zip {us : List Value} : ∀ {xs : List V} {ks : List (Int × Int)}, Vals xs us → xs.length = ks.length → PySem.W.EachIs (fun (u : Value) (b : V × Int × Int) => RelV b.1 u) us (xs.zip ks) := by
  induction us with
  | nil =>
    intro xs ks r hl
    cases r
    exact .nil
  | cons u us ih =>
    intro xs ks r hl
    cases r with
    | cons r1 r2 =>
      cases ks with
      | nil => cases hl
      | cons k ks => exact .cons r1 (ih r2 (Nat.succ.inj hl))
theorem vals_each {us : List Value} : ∀ {l : List (V × Int × Int)}, PySem.W.EachIs (fun (u : Value) (b : V × Int × Int) => RelV b.1 u) us l → Vals (l.map (·.1)) us := by
  induction us with
  | nil =>
    intro l h
    cases h
    exact .nil
  | cons u us ih =>
    intro l h
    cases h with
    | cons h1 h2 => exact .cons h1 (ih h2)
def keyD (k : Int × Int) : PyData := .tuple [.int k.1, .int k.2]
theorem keyD_alike (ks : List (Int × Int)) : PySem.W.AllAlike (ks.map keyD) := by
  intro d hd d' hd'
  obtain ⟨a, _, rfl⟩ := List.mem_map.mp hd
  obtain ⟨b, _, rfl⟩ := List.mem_map.mp hd'
  simp [keyD, PySem.W.alike, PySem.W.alikeAll]
theorem keyD_sortable (ks : List (Int × Int)) : PySem.W.Sortable (ks.map keyD) := .inl fun d hd => by
  obtain ⟨a, _, rfl⟩ := List.mem_map.mp hd
  exact ⟨_, _, rfl⟩
theorem key_reads {P : Program} {w : World} {H : Hp} {h : Heap} {p : Addr} {k : Int × Int} (x : HOk P w H h) (e : H p = some (.tup [.int k.1, .int k.2])) : Reads h (.ref p) (keyD k) [] := by
  obtain ⟨_, its, rv, o, ho, hc, n, hd⟩ := x p _ e
  cases rv with
  | cons r1 r2 =>
    cases r2 with
    | cons r3 r4 =>
      cases r4
      obtain ⟨t1, rfl⟩ := r1
      obtain ⟨t2, rfl⟩ := r3
      exact Reads.tuple ho hc hd (Claim2_two _ _ _ _)
where
  Claim2_two {h : Heap} (a b : Int) (t u : Tok) : ReadsAll h [Value.int a t, Value.int b u] [.int a, .int b] [] := .cons (as := []) (.int a t) (.cons (as := []) (.int b u) .nil)

section
variable {X : Cx} {pins : List (Addr × Obj)} {σ : L2.St} {H : Hp} {s : Shared}
theorem sorted_lam {k : Nat} (I : Inv X pins σ H s) (hr : Room k X.A) {l f : Addr} {xs : List V} {ks : List (Int × Int)} (hs : SqL X.K H l xs) (hl : xs.length = ks.length) {Q : VK} (Good : Hp → Prop) (g0 : Good H)
    (turn : ∀ (i : Nat) (x : V) (q : Int × Int) (u : Value) (s' : Shared) (H' : Hp), xs[i]? = some x → ks[i]? = some q → RelV x u → Mid X.prog X.w (frs X.stack) H s H' s' → Good H' →
      codeAny (model X.prog X.w) X.A.in1.in1 (.call (.ref f) ⟨[u], []⟩) (CR C8.CX0 X.stack X.prog X.w H' s' (fun v H'' => Good H'' ∧ ∃ p, v = .ref p ∧ H'' p = some (.tup [.int q.1, .int q.2])) C8.E0) s')
    (fin : ∀ H' p, Good H' → H' p = none → Q (.ref p) (upd H' p (.lst (byKey (xs.zip ks))))) :
    wpAny (model X.prog X.w) X.A (call (.builtin "sorted") [.ref l] [(Str.ofString "key", .ref f)]) (EP X pins σ Q) X.xe s := by
  obtain ⟨its, rv, hpl, hz⟩ := I.list hs
  have hzi : its.length ≤ sizeLine := by
    rw [← rv.length]
    exact hz
  refine PySem.W.sorted_of_sort hpl.isList hzi (ksk_s1 _ _) (fun _ => ksk_l1 _ _) fun E' => ?_
  rw [ksk_t1]
  have ha0 := PySem.W.copyHeap_at s.heap its
  have haN : s.heap.get? (s.heap.objs.size + 1) = none := Heap.get?_none_of_le (Nat.le_succ _)
  generalize hC : PySem.W.copyHeap s.heap its = C0 at ha0 ⊢
  have oldC : ∀ b o, s.heap.get? b = some o → C0.get? b = some o := fun b o e => by
    rw [← hC]
    exact PySem.W.copyHeap_old e
  have haLt : s.heap.objs.size + 1 < C0.objs.size := Heap.lt_size ha0
  obtain ⟨e1, ho1⟩ : ∃ e1, (C0.update (s.heap.objs.size + 1) (Obj.mapSeq fun _ => (#[] : Array Value))).get? (s.heap.objs.size + 1) = some (seqObj "list" #[] e1) := ⟨_, get?_update_seq ha0 fun _ => #[]⟩
  unfold ksk_tree
  refine wpAny_bind (listItems_at ha0 rfl ?_)
  refine wpAny_bind (listUpdate_at ha0 rfl ?_ (by rw [List.size_toArray]; exact hzi) (Nat.zero_le _))
  refine wpAny_bind (seqEpoch_at ho1 rfl ?_)
  refine wpAny_bind (wpAny_newTuple ?_ (by show its.length ≤ _; exact hzi))
  refine wpAny_bind (wpAny_newList ?_ (Nat.zero_le _))
  refine wpAny_holding ?_
  have oldB : ∀ b o, b ≠ s.heap.objs.size + 1 → C0.get? b = some o → (PySem.W.sortingHeap C0 (s.heap.objs.size + 1) its).get? b = some o := fun b o hb e => PySem.W.sortingHeap_old hb e
  have kSz : ((C0.update (s.heap.objs.size + 1) (Obj.mapSeq fun _ => (#[] : Array Value))).push (seqObj "tuple" its.toArray 0)).objs.size = C0.objs.size + 1 := by rw [PyProof.Rows.size_push', Heap.size_update]
  have nk0 : (PySem.W.sortingHeap C0 (s.heap.objs.size + 1) its).get? (C0.objs.size + 1) = some (seqObj "list" #[] 0) := by
    rw [← kSz]
    exact Heap.get?_push_size _ rfl
  have na0 : (PySem.W.sortingHeap C0 (s.heap.objs.size + 1) its).get? (s.heap.objs.size + 1) = some (seqObj "list" #[] e1) := Heap.get?_push_of_some _ (Heap.get?_push_of_some _ ho1)
  show wpAny _ _ (ksk_rest _ _ _ _ _ (.ref ((C0.update (s.heap.objs.size + 1) (Obj.mapSeq fun _ => (#[] : Array Value))).push (seqObj "tuple" its.toArray 0)).objs.size)) _ _ { s with heap := PySem.W.sortingHeap C0 (s.heap.objs.size + 1) its }
  rw [kSz]
  have hka : C0.objs.size + 1 ≠ s.heap.objs.size + 1 := by omega
  have hkN : s.heap.get? (C0.objs.size + 1) = none := Heap.get?_none_of_le (by omega)
  have oldS : ∀ b o, s.heap.get? b = some o → (PySem.W.sortingHeap C0 (s.heap.objs.size + 1) its).get? b = some o := fun b o e => oldB b o (fun z => by rw [z, haN] at e; cases e) (oldC b o e)
  have m0 : Mid X.prog X.w (frs X.stack) H s H { s with heap := PySem.W.sortingHeap C0 (s.heap.objs.size + 1) its } := ⟨rfl, I.bare, Un.kept oldS, I.hok.kept oldS⟩
  have nofr : ∀ b, s.heap.get? b = none → b ∉ frs X.stack := fun b e z => by
    obtain ⟨_, o, ho, _⟩ := I.stack.mem z
    rw [e] at ho
    cases ho
  have hN0 : H (C0.objs.size + 1) = none := I.hok.fresh (by omega)
  have hN1 : H (s.heap.objs.size + 1) = none := I.hok.fresh (by omega)
  generalize PySem.W.sortingHeap C0 (s.heap.objs.size + 1) its = G at nk0 na0 m0 ⊢
  generalize C0.objs.size + 1 = kS at nk0 hka hkN hN0 ⊢
  generalize hA : s.heap.objs.size + 1 = a at *
  unfold ksk_rest
  refine wpAny_bind (wpAny_rule ?_)
  first
    | rw [List.forIn_toArray]
    | (rw [← Array.forIn_toList]; simp only [List.toList_toArray])
    | rw [← Array.forIn_toList]
  have hxl : its.length = ks.length := by rw [← rv.length]; exact hl
  refine wpAny_bind (ksk_fold (fun i s' => ∃ H' kA e, Mid X.prog X.w (frs X.stack) H s H' s' ∧ Good H' ∧ H' kS = none ∧ H' a = none ∧ s'.heap.get? kS = some (seqObj "list" kA e) ∧ s'.heap.get? a = some (seqObj "list" #[] e1) ∧ kS ∉ frs X.stack ∧ a ∉ frs X.stack ∧
    PySem.W.EachIs (fun (u : Value) (q : Int × Int) => ∃ p, u = .ref p ∧ H' p = some (.tup [.int q.1, .int q.2])) kA.toList (ks.take i)) its 0 _
    ⟨H, #[], 0, m0, g0, hN0, hN1, nk0, na0, nofr _ hkN, nofr _ haN, by rw [List.take_zero]; exact .nil⟩ ?step ?done)
  case step =>
    rintro j u s' hu ⟨H', kA, e, m, g, hk1, ha1, nk, na, fk, fa, hE⟩
    simp only [Nat.zero_add] at hE ⊢
    have hj : j < its.length := (List.getElem?_eq_some_iff.mp hu).1
    obtain ⟨q, hq⟩ : ∃ q, ks[j]? = some q := ⟨_, List.getElem?_eq_getElem (by omega)⟩
    obtain ⟨x, hx, rx⟩ := getV rv hu
    have hz2 : kA.size ≤ its.length := by
      have h1 := hE.length
      rw [Array.length_toList, List.length_take] at h1
      omega
    refine wpAny_bind (wpAny_attempt (wpAny_call (codeAny_mono (turn j x q u s' H' hx hq rx m g) fun r s2 hr2 => ?_)))
    cases r with
    | error e => exact (show False from hr2).elim
    | ok fl =>
      cases fl with
      | next => exact False.elim hr2
      | brk => exact False.elim hr2
      | cont => exact False.elim hr2
      | ret u2 =>
        obtain ⟨v, H2, os2, bare2, un2, hok2, rv2, g2, p, rfl, hp⟩ := hr2
        obtain rfl : u2 = Value.ref p := rv2
        have nk2 : s2.heap.get? kS = some (seqObj "list" kA e) := un2.keep kS _ nk hk1 fk (by simp)
        have na2 : s2.heap.get? a = some (seqObj "list" #[] e1) := un2.keep a _ na ha1 fa (by simp)
        have hk2 : H2 kS = none := un2.free kS _ nk hk1 (by simp)
        have ha2 : H2 a = none := un2.free a _ na ha1 (by simp)
        have m2 : Mid X.prog X.w (frs X.stack) H s H2 s2 := ⟨os2.trans m.os, bare2, m.un.trans un2, hok2⟩
        have s1 := Heap.SameBut.update s2.heap kS (Obj.mapSeq (·.push (Value.ref p)))
        obtain ⟨c2, hc2⟩ : ∃ c2, (s2.heap.update kS (Obj.mapSeq (·.push (Value.ref p)))).get? kS = some (seqObj "list" (kA.push (Value.ref p)) c2) := ⟨_, get?_update_seq nk2 (·.push (Value.ref p))⟩
        have ek : ks.take (j + 1) = ks.take j ++ [q] := by rw [List.take_add_one, hq]; simp
        have ea : (kA.push (Value.ref p)).toList = kA.toList ++ [Value.ref p] := by simp
        refine wpAny_bind (listUpdate_at nk2 rfl ?_ (Nat.le_trans hz2 hzi) (Nat.le_trans (Nat.le_of_eq (Array.size_push ..)) (Nat.succ_le_succ (Nat.le_trans hz2 hzi))))
        refine wpAny_pure ⟨rfl, H2, kA.push (Value.ref p), c2, m2.other (tk := s2.toks) hkN hk2 (fun b o hb e => (s1.2 b hb).trans e), g2, hk2, ha2, hc2, (s1.2 a hka.symm).trans na2, fk, fa, ?_⟩
        rw [ea, ek]
        exact PySem.W.each_snoc (R := fun (u : Value) (q : Int × Int) => ∃ p, u = .ref p ∧ H2 p = some (.tup [.int q.1, .int q.2])) ⟨p, rfl, hp⟩ (hE.mono fun u q ⟨p', e1, e2⟩ => ⟨p', e1, un2.tups _ _ e2⟩)
  case done =>
    rintro s' ⟨H', kA, e, m, g, hk1, ha1, nk, na, fk, fa, hE⟩
    have e3 : ks.take (0 + its.length) = ks := List.take_of_length_le (by omega)
    rw [e3] at hE
    have hK : PySem.W.EachIs (fun v d => ∃ as, Reads s'.heap v d as) kA.toList (ks.map keyD) := PySem.W.each_map (R := fun v d => ∃ as, Reads s'.heap v d as) keyD (hE.mono fun u q ⟨p, e1, e2⟩ => ⟨[], by rw [e1]; exact key_reads m.hok e2⟩)
    have hsz : kA.size = its.length := by
      have h1 := hE.length
      rw [Array.length_toList] at h1
      omega
    obtain ⟨G2, g1, g2⟩ := restrict s'.heap fun b => decide (b ≠ kS)
    have ofG : ∀ b o, G2.get? b = some o → s'.heap.get? b = some o := fun b o q => by
      by_cases hb : b = kS
      · rw [g2 b (by simp [hb])] at q
        cases q
      · rw [← g1 b (decide_eq_true hb)]
        exact q
    have eb : (xs.zip ks).map (fun b => keyD b.2) = ks.map keyD := by
      have q : (xs.zip ks).map (·.2) = ks := List.map_snd_zip (by omega)
      conv => rhs; rw [← q, List.map_map]
      rfl
    have hu : ∀ d, d ∈ ks.map keyD → X.A.in1.in1.units + d.depth < cLine := fun d hd => by
      obtain ⟨q, _, rfl⟩ := List.mem_map.mp hd
      have h1 : (keyD q).depth = 1 := by simp [keyD, PyData.depth, PyData.depthAll]
      have h2 := hr.un
      rw [h1]
      show X.A.units + 1 + 1 + 1 < _
      omega
    refine wpAny_bind (listItems_at nk rfl ?_)
    refine PySem.W.keyH_end (κ := PySem.W.dataKind s'.heap (ks.map keyD)) (h₁ := G2) (fun b o _ q => ofG b o q) (g2 kS (by simp)) nk na hka (PySem.W.SortsAt.data (s := s') hK (keyD_alike ks) (keyD_sortable ks) hu) hsz hzi fun h' tk c kp hout => ⟨rfl, ?_⟩
    have kO : ∀ b o, b ≠ a → b ≠ kS → s'.heap.get? b = some o → h'.get? b = some o := fun b o hb hb2 q => kp b o hb (by rw [g1 b (decide_eq_true hb2)]; exact q)
    have ko : PySem.W.KeyedOut false ((xs.zip ks).map fun b => keyD b.2) its (PySem.W.sortVals (PySem.W.dataKind s'.heap (ks.map keyD)) false kA.toList its) := by
      rw [eb]
      exact ⟨s'.heap, kA.toList, keyD_alike ks, rfl, hK⟩
    have hv := vals_each (PySem.W.keyedOut_each (fun b : V × Int × Int => keyD b.2) ko (each_zip rv hl))
    have hle : PySem.W.dataLe false (fun b : V × Int × Int => keyD b.2) = fun p q => leK p.2 q.2 := PySem.W.dataLe_ii (fun b : V × Int × Int => b.2.1) fun b => b.2.2
    rw [hle] at hv
    have hlen : (byKey (xs.zip ks)).length ≤ sizeLine := by
      unfold byKey
      rw [List.length_map, List.length_mergeSort, List.length_zip, ← hl, Nat.min_self]
      exact hz
    have nA : ∀ b u, H' b = some u → b ≠ a := fun b u q z => by
      rw [z, ha1] at q
      cases q
    have nK : ∀ b u, H' b = some u → b ≠ kS := fun b u q z => by
      rw [z, hk1] at q
      cases q
    have un1 : Un (frs X.stack) [] H (upd H' a (.lst (byKey (xs.zip ks)))) s.heap h' := Un.more (Un.news m.un fun b o v q1 q2 => kO b o (fun z => by rw [z, haN] at q1; cases q1) (fun z => by rw [z, hkN] at q1; cases q1) q2) haN ha1
    have ok1 : HOk X.prog X.w (upd H' a (.lst (byKey (xs.zip ks)))) h' := fun b u q => by
      by_cases hb : b = a
      · rw [hb, upd_same] at q
        cases q
        rw [hb]
        exact ⟨hlen, _, _, hv, hout⟩
      · rw [upd_ne hb] at q
        refine (m.hok b u q).stay (fun d v hd q2 => ?_) (fun d q2 => by rw [upd_ne (nA d _ q2)]; exact q2) fun d xs q2 => by rw [upd_ne (nA d _ q2)]; exact q2
        rcases hd with z | z
        · rw [z] at q2 ⊢
          exact kO b v hb (nK b u q) q2
        · exact kO d v (nA d _ z) (nK d _ z) q2
    obtain ⟨hh, g', d', t', os'⟩ := s'
    obtain rfl : os' = s.os := m.os
    have J : Inv X pins σ (upd H' a (.lst (byKey (xs.zip ks)))) { s with heap := h', gens := g', drawn := d', toks := tk } := I.call (ch := []) un1 ok1 m.bare (fun b z => absurd z (by simp))
    exact ⟨.ref a, _, J, rfl, fin H' a g ha1⟩
end

/-! ### sorted(e, key=lambda ..: body) -/
open Evl in
/-- T: the code tables; N: the lambda's names, js: where the captured ones stand among the def's -/
def tSortLam (K : PySem.W.Frag) (T : List (Addr × Str)) (N : List Str) (js : List Nat) (tb : TE) (ta : TA) : TE := fun σ H Q => ta σ H fun vs H0 => ∃ (l : Addr) (xs : List V) (ks : List (Int × Int)), vs = [.ref l] ∧ SqL K H0 l xs ∧ xs.length = ks.length ∧ Tabs T H0 ∧
  ∀ H1, ExtN H0 H1 → Tabs T H1 → (∀ (i : Nat) (x : V) (q : Int × Int) (H' : Hp), xs[i]? = some x → ks[i]? = some q → Ex H1 H' → tb (startF N [x] (js.map (slotAt σ))) H' fun v H'' => Ex H1 H'' ∧ ∃ p, v = .ref p ∧ H'' p = some (.tup [.int q.1, .int q.2])) ∧
    ∀ H' p, Ex H1 H' → H' p = none → Q (.ref p) (upd H' p (.lst (byKey (xs.zip ks))))
theorem extN_l {K : PySem.W.Frag} {H H' : Hp} {a : Addr} {xs : List V} (e : ExtN H H') (h : SqL K H a xs) : SqL K H' a xs := by
  rcases h with (h | ⟨o, h⟩) | h
  · exact .inl (.inl (e a _ h fun ps z => nomatch z))
  · exact .inl (.inr ⟨o, e a _ h fun ps z => nomatch z⟩)
  · exact .inr h
section
variable {X : Cx}
theorem pe_sortLam {k : Nat} {T : List (Addr × Str)} {c P : Addr} {N : List Str} {a : Str} {fr : List Str} {js : List Nat} {params : Arguments} {body e : Expr} {scope : Scope} {p lpos kpos pos : Pos} {tb : TE} {ta : TA} (hg : Gl X "sorted") (hm : X.mg "sorted" = none) (ha : PA X [e] ta)
    (TB : TabB X.base X.mg c P) (hcode : X.env.code = .ref c) (hmT : (P, X.env.qual ++ "<lambda>") ∈ T) (hu : ∀ p ∈ T, p.1 = P → p.2 = X.env.qual ++ "<lambda>") (hr : Room (k + 2) X.A)
    (S : NScope N [a] fr scope) (hnd : ndefB X.env.scope scope fr = true) (hjs : js.map (fun j => X.N[j]?) = fr.map some) (hdef : defaultsOf params X.env = ([], []))
    (hbind : ∀ (q : Str) (cl : List (Str × Addr)) (pm cv ctv u : Value), bindArgs (PySem.W.kla_fn "<lambda>" q params body scope cl pm cv ctv) ⟨[u], []⟩ = pure [(a, u)])
    (hbody : ∀ (A : Around) (outer : List Env) (s : Shared) (H : Hp) (f c' : Addr), Room k (A.deeper (envF (lamF (X.env.qual ++ "<lambda>") params scope (cloFrom X.env.cells scope.names []) c') f s.heap.objs.size)) →
      PE (ncx C8.CX0 X.prog X.w X.K X.mg X.base N (lamF (X.env.qual ++ "<lambda>") params scope (cloFrom X.env.cells scope.names []) c') f A outer s H C8.E0) body tb)
    (hst : backTo pos (starEach [e] X.env) = (false, eval e X.env) :: backTo pos (starEach [] X.env) := by rfl) (hpl : (backTo pos (starEach [e] X.env)).any (·.1) = false := by rfl) :
    PE X (.Call (.Name "sorted" p) [e] [⟨some "key", .Lambda params body scope lpos, kpos⟩] pos) (tSortLam X.K T N js tb ta) := by
  refine ⟨fun pins s σ H Q I h => ?_⟩
  have hfree : ∀ y ∈ scope.names, y.2 = .free → ∃ c, X.env.cells.lookup y.1 = some c := fun y hy e => (ndef_free hnd y hy e).elim (fun z => I.ok.has _ (.inl z)) fun z => I.ok.has _ (.inr z)
  refine wpAny_Call_Name_kw (ld_blt (u := .builtin "sorted") I hg hm (by decide +kernel) ?_ (by decide) (by decide))
  refine PyProof.Rows.callWith_kw (thn (ha.run pos pins s σ H _ I h) fun us s1 ⟨vs, H1, I1, r1, l, xs, ks, ev, hs, hlen, hT, hk⟩ => ?_) hst hpl (by rfl) (by rfl)
  subst ev
  obtain rfl := Vals.ref1 r1
  show wpAny _ _ (evalAll ((do let v ← eval (.Lambda params body scope lpos) X.env; standAt pos; pure v) :: [])) _ _ s1
  refine wpAny_evalAll_cons (wpAny_bind (lam_make2 I1 TB hcode hmT hu hT hdef hfree fun f c' pm ctv H2 s2 I2 eN T2 hf hfn hfr hco => wpAny_bind (wpAny_standAt (wpAny_pure ?_))))
  refine wpAny_evalAll_nil ?_
  show wpAny _ _ (call (.builtin "sorted") [.ref l] [(Str.ofString "key", .ref f)]) _ _ s2
  obtain ⟨hturn, hfin⟩ := hk H2 eN T2
  have cp : Caps X (cloFrom X.env.cells scope.names []) fr js := Caps.made I2.ok (ndef_free hnd) (ndef_fr hnd) hjs
  have C2 : CellsAt (cloFrom X.env.cells scope.names []) fr (js.map (slotAt σ)) s2.heap H2 := cells_of I2 cp
  refine sorted_lam (k := k + 2) I2 hr (extN_l eN hs) hlen (fun H' => Evl.Ex H2 H') (Evl.Ex.refl H2) (fun i x q u s' H' hx hq rx m g => ?_) fun H' p' g hp => hfin H' p' g hp
  have cellK : ∀ b v, H2 b = none → s2.heap.IsCell b v → s'.heap.IsCell b v := fun b v n ⟨o, ho, hd⟩ => by
    obtain ⟨sl, z⟩ := m.un.any ho n (by simp)
    exact ⟨_, z, hd⟩
  have C3 : CellsAt (cloFrom X.env.cells scope.names []) fr (js.map (slotAt σ)) s'.heap H' := by
    refine ⟨C2.len, fun y c e => ?_, C2.inj, fun i y e => ?_⟩
    · obtain ⟨n, v, z⟩ := C2.all y c e
      have z2 := z
      obtain ⟨o, ho, _⟩ := z2
      exact ⟨m.un.free c o ho n (by simp), v, cellK c _ n z⟩
    · obtain ⟨c, hc, hv⟩ := C2.has i y e
      refine ⟨c, hc, fun v ev => ?_⟩
      obtain ⟨u, r, z⟩ := hv v ev
      exact ⟨u, r, cellK c _ (C2.all y c hc).1 z⟩
  refine lam_run (k := k) (q := X.env.qual ++ "<lambda>") (vs := [x]) (ps := [a]) S ⟨hr.hd, ?_, ?_⟩ (m.env I2 rfl) (m.un.keep f _ hf hfn hfr (by simp)) (codeO_at m.hok (g c' _ hco)) (hbind _ _ _ _ _ u) C3 (.cons rx .nil) rfl fun hr2 => ⟨tb, hbody _ _ _ _ f c' hr2, hturn i x q H' hx hq g⟩
  · have := hr.dp
    show X.A.depth + _ + 5 < _
    omega
  · have := hr.un
    show X.A.units + 1 + 1 + _ + 200 < _
    omega
end
end Kc
set_option autoImplicit false
/-! what a program's instructions do, as the program does it and as the specification says -/
namespace KM
open Kp424 (Instruction Progress Execution Server Outcome)
structure Exe where
  client : Nat
  key : Nat
  method : Nat
  payload : List Nat
  state : Nat
  status : Nat
  wakesAt : Nat
  startedAt : Nat
  finishedAt : Nat
  executed : Nat
  emitted : List Nat
  /-- the frames, the last pushed first: whose program, how far -/
  frames : List (Nat × Nat)
deriving DecidableEq
/-- a program's numbers as instructions -/
def instrs : List Nat → List Instruction
  | c :: a :: r => ⟨c, a⟩ :: instrs r
  | _ => []
def takeI (pr : Nat → List Nat) : List (Nat × Nat) → Option (Nat × Nat) × List (Nat × Nat)
  | [] => (none, [])
  | (m, p) :: r => if p < (pr m).length then (some ((pr m).getD p 0, (pr m).getD (p + 1) 0), (m, p + 2) :: r) else takeI pr r
/-- what an instruction that emits gives: the values, the registers behind it -/
def valuesOf (c a : Nat) (pay regs : List Nat) : List Nat × List Nat :=
  if c = 1 then ([a], regs) else if c = 2 then (pay, regs) else if c = 3 then ([regs.getD a 0 + pay.sum], regs.set a (regs.getD a 0 + pay.sum)) else ([regs.getD a 0], regs)
/-- execute: none says that it waits -/
def run (pr : Nat → List Nat) (now : Nat) : Nat → Exe → List Nat → Exe × List Nat × Option Nat
  | 0, e, regs => (e, regs, some 8)
  | n + 1, e, regs => match takeI pr e.frames with
    | (none, fr) => ({ e with frames := fr }, regs, some 0)
    | (some (c, a), fr) =>
      if e.executed = 100 then ({ e with frames := fr }, regs, some 8)
      else if c = 0 then ({ e with frames := fr, executed := e.executed + 1, wakesAt := now + a }, regs, none)
      else if c = 4 then ({ e with frames := fr, executed := e.executed + 1 }, regs, some a)
      else if c = 5 then run pr now n { e with frames := (a, 0) :: fr, executed := e.executed + 1 } regs
      else if 40 < e.emitted.length + (valuesOf c a e.payload regs).1.length then ({ e with frames := fr, executed := e.executed + 1 }, (valuesOf c a e.payload regs).2, some 8)
      else run pr now n { e with frames := fr, executed := e.executed + 1, emitted := e.emitted ++ (valuesOf c a e.payload regs).1 } (valuesOf c a e.payload regs).2
/-! ### against the specification -/
def stackOf (pr : Nat → List Nat) (fr : List (Nat × Nat)) : List (List Instruction) := fr.map fun f => (instrs (pr f.1)).drop (f.2 / 2)
def abs1 (st : List (List Instruction)) (pg : Progress) (e : Exe) : Execution := ⟨e.client, e.key, e.method, e.payload, pg, st, e.executed, e.emitted, e.startedAt, e.finishedAt⟩
theorem instrs_drop : ∀ (l : List Nat) (k : Nat), (instrs l).drop k = instrs (l.drop (2 * k))
  | l, 0 => by simp
  | [], k + 1 => by simp [instrs]
  | [x], k + 1 => by
    have : [x].drop (2 * (k + 1)) = [] := List.drop_eq_nil_of_le (by simp; omega)
    rw [this]
    simp [instrs]
  | c :: a :: r, k + 1 => by
    have e : 2 * (k + 1) = 2 * k + 1 + 1 := by omega
    rw [e, List.drop_succ_cons, List.drop_succ_cons]
    show (instrs r).drop k = _
    exact instrs_drop r k
theorem instrs_at {l : List Nat} {p : Nat} (hl : l.length % 2 = 0) (hp : p % 2 = 0) (h : p < l.length) :
    (instrs l).drop (p / 2) = ⟨l.getD p 0, l.getD (p + 1) 0⟩ :: (instrs l).drop ((p + 2) / 2) := by
  rw [instrs_drop, instrs_drop]
  have e1 : 2 * (p / 2) = p := by omega
  have e2 : 2 * ((p + 2) / 2) = p + 2 := by omega
  rw [e1, e2]
  have h1 : p + 1 < l.length := by omega
  rw [List.drop_eq_getElem_cons h, List.drop_eq_getElem_cons h1]
  show ⟨l[p], l[p + 1]⟩ :: instrs (l.drop (p + 2)) = _
  rw [List.getD_eq_getElem?_getD, List.getD_eq_getElem?_getD, List.getElem?_eq_getElem h, List.getElem?_eq_getElem h1]
  rfl
theorem instrs_end {l : List Nat} {p : Nat} (hp : p % 2 = 0) (h : ¬ p < l.length) : (instrs l).drop (p / 2) = [] := by
  rw [instrs_drop, List.drop_eq_nil_of_le (by omega)]
  rfl
theorem takeI_skip {pr : Nat → List Nat} {m p : Nat} {r : List (Nat × Nat)} (h : ¬ p < (pr m).length) : takeI pr ((m, p) :: r) = takeI pr r := if_neg h
theorem run_skip {pr : Nat → List Nat} {now n : Nat} {e : Exe} {regs : List Nat} {m p : Nat} {r : List (Nat × Nat)} (he : e.frames = (m, p) :: r) (h : ¬ p < (pr m).length) (hn : 0 < n) :
    run pr now n e regs = run pr now n { e with frames := r } regs := by
  cases n with
  | zero => omega
  | succ n =>
    unfold run
    rw [he, takeI_skip h]
section
variable {s : Server} {F : Nat} {regs : List Nat} {pg : Progress} {e : Exe} {a : Nat} {more : List Instruction} {rest : List (List Instruction)}
theorem int_full {x : Instruction} (h : e.executed = 100) : Kp424.interpret s (F + 1) regs (abs1 ((x :: more) :: rest) pg e) = (abs1 ((x :: more) :: rest) pg e, regs, .ends 8) := by
  rw [Kp424.interpret]
  exact if_pos (show 100 ≤ e.executed by omega)
theorem int_0 (h : e.executed < 100) : Kp424.interpret s (F + 1) regs (abs1 ((⟨0, a⟩ :: more) :: rest) pg e) = (abs1 (more :: rest) pg { e with executed := e.executed + 1 }, regs, .waits (s.now + a)) := by
  rw [Kp424.interpret]
  exact if_neg (show ¬ 100 ≤ e.executed by omega)
theorem int_4 (h : e.executed < 100) : Kp424.interpret s (F + 1) regs (abs1 ((⟨4, a⟩ :: more) :: rest) pg e) = (abs1 (more :: rest) pg { e with executed := e.executed + 1 }, regs, .ends a) := by
  rw [Kp424.interpret]
  exact if_neg (show ¬ 100 ≤ e.executed by omega)
theorem int_5 (h : e.executed < 100) : Kp424.interpret s (F + 1) regs (abs1 ((⟨5, a⟩ :: more) :: rest) pg e) = Kp424.interpret s F regs (abs1 ((Kp424.methodAt s a).program :: more :: rest) pg { e with executed := e.executed + 1 }) := by
  rw [Kp424.interpret]
  exact if_neg (show ¬ 100 ≤ e.executed by omega)
/-- what follows an instruction that emits -/
def emits (s : Server) (F : Nat) (pg : Progress) (e : Exe) (st : List (List Instruction)) (vr : List Nat × List Nat) : Execution × List Nat × Outcome :=
  match Kp424.emit (abs1 st pg { e with executed := e.executed + 1 }) vr.1 with
  | none => (abs1 st pg { e with executed := e.executed + 1 }, vr.2, .ends 8)
  | some f => Kp424.interpret s F vr.2 f
theorem int_emit {c : Nat} (h : e.executed < 100) (h0 : c ≠ 0) (h4 : c ≠ 4) (h5 : c ≠ 5) :
    Kp424.interpret s (F + 1) regs (abs1 ((⟨c, a⟩ :: more) :: rest) pg e) = emits s F pg e (more :: rest) (valuesOf c a e.payload regs) := by
  rw [Kp424.interpret]
  refine (if_neg (show ¬ 100 ≤ e.executed by omega)).trans ?_
  match c, h0, h4, h5 with
  | 1, _, _, _ => rfl
  | 2, _, _, _ => rfl
  | 3, _, _, _ => rfl
  | c + 6, _, _, _ =>
    have q : valuesOf (c + 6) a e.payload regs = ([regs.getD a 0], regs) := by
      unfold valuesOf
      rw [if_neg (by omega), if_neg (by omega), if_neg (by omega)]
    rw [q]
    rfl
theorem emits_full {st : List (List Instruction)} {vr : List Nat × List Nat} (h : 40 < e.emitted.length + vr.1.length) : emits s F pg e st vr = (abs1 st pg { e with executed := e.executed + 1 }, vr.2, .ends 8) := by
  have q : Kp424.emit (abs1 st pg { e with executed := e.executed + 1 }) vr.1 = none := if_pos h
  unfold emits
  rw [q]
theorem emits_room {st : List (List Instruction)} {vr : List Nat × List Nat} (h : ¬ 40 < e.emitted.length + vr.1.length) :
    emits s F pg e st vr = Kp424.interpret s F vr.2 (abs1 st pg { e with executed := e.executed + 1, emitted := e.emitted ++ vr.1 }) := by
  have q : Kp424.emit (abs1 st pg { e with executed := e.executed + 1 }) vr.1 = some (abs1 st pg { e with executed := e.executed + 1, emitted := e.emitted ++ vr.1 }) := if_neg h
  unfold emits
  rw [q]
end
/-- the two outcomes tell the same; an execution that ends has no stack that counts -/
def Same (pr : Nat → List Nat) (pg : Progress) (a : Exe × List Nat × Option Nat) (b : Execution × List Nat × Outcome) : Prop :=
  b.2.1 = a.2.1 ∧ match a.2.2 with
  | none => b.1 = abs1 (stackOf pr a.1.frames) pg a.1 ∧ b.2.2 = .waits a.1.wakesAt
  | some st => { b.1 with stack := [] } = abs1 [] pg a.1 ∧ b.2.2 = .ends st
theorem run_same (s : Server) (pr : Nat → List Nat) (hpr : ∀ m, (Kp424.methodAt s m).program = instrs (pr m)) (hev : ∀ m, (pr m).length % 2 = 0) (pg : Progress) :
    ∀ (F n : Nat) (e : Exe) (regs : List Nat), e.executed ≤ 100 → 101 - e.executed ≤ n → 3 * (101 - e.executed) + e.frames.length ≤ F → (∀ f ∈ e.frames, f.2 % 2 = 0) →
      Same pr pg (run pr s.now n e regs) (Kp424.interpret s F regs (abs1 (stackOf pr e.frames) pg e)) := by
  intro F
  induction F with
  | zero => intro n e regs h1 h2 h3 h4; omega
  | succ F ih =>
    intro n e regs h1 h2 h3 h4
    obtain ⟨n, rfl⟩ : ∃ k, n = k + 1 := ⟨n - 1, by omega⟩
    cases hf : e.frames with
    | nil =>
      have e1 : run pr s.now (n + 1) e regs = ({ e with frames := [] }, regs, some 0) := by
        rw [run, hf]
        rfl
      rw [e1]
      exact ⟨rfl, rfl, rfl⟩
    | cons f r =>
      obtain ⟨m, p⟩ := f
      have hp : p % 2 = 0 := h4 (m, p) (by rw [hf]; exact List.mem_cons_self)
      have h5 : e.frames.length = r.length + 1 := by rw [hf]; rfl
      have h6 : ∀ f ∈ r, f.2 % 2 = 0 := fun f q => h4 f (by rw [hf]; exact List.mem_cons_of_mem _ q)
      by_cases hlt : p < (pr m).length
      · have et : takeI pr e.frames = (some ((pr m).getD p 0, (pr m).getD (p + 1) 0), (m, p + 2) :: r) := by
          rw [hf]
          exact if_pos hlt
        have es : stackOf pr ((m, p) :: r) = (⟨(pr m).getD p 0, (pr m).getD (p + 1) 0⟩ :: (instrs (pr m)).drop ((p + 2) / 2)) :: stackOf pr r := by
          show (instrs (pr m)).drop (p / 2) :: stackOf pr r = _
          rw [instrs_at (hev m) hp hlt]
        rw [es]
        generalize (pr m).getD p 0 = c at et ⊢
        generalize (pr m).getD (p + 1) 0 = a at et ⊢
        have hfr : ∀ f ∈ (m, p + 2) :: r, f.2 % 2 = 0 := fun f q => by
          rcases List.mem_cons.mp q with z | z
          · rw [z]
            show (p + 2) % 2 = 0
            omega
          · exact h6 f z
        rw [run, et]
        dsimp only
        by_cases h100 : e.executed = 100
        · rw [if_pos h100, int_full h100]
          exact ⟨rfl, rfl, rfl⟩
        · have hx : e.executed < 100 := by omega
          rw [if_neg h100]
          by_cases c0 : c = 0
          · subst c0
            rw [if_pos rfl, int_0 hx]
            exact ⟨rfl, rfl, rfl⟩
          · rw [if_neg c0]
            by_cases c4 : c = 4
            · subst c4
              rw [if_pos rfl, int_4 hx]
              exact ⟨rfl, rfl, rfl⟩
            · rw [if_neg c4]
              by_cases c5 : c = 5
              · subst c5
                have es2 : instrs (pr a) :: (instrs (pr m)).drop ((p + 2) / 2) :: stackOf pr r = stackOf pr ((a, 0) :: (m, p + 2) :: r) := by simp [stackOf]
                rw [if_pos rfl, int_5 hx, hpr a, es2]
                refine ih n { e with frames := (a, 0) :: (m, p + 2) :: r, executed := e.executed + 1 } regs (by show e.executed + 1 ≤ 100; omega) (by show 101 - (e.executed + 1) ≤ n; omega) (by show 3 * (101 - (e.executed + 1)) + (r.length + 1 + 1) ≤ F; omega) fun f q => ?_
                rcases List.mem_cons.mp q with z | z
                · rw [z]
                  rfl
                · exact hfr f z
              · rw [if_neg c5, int_emit hx c0 c4 c5]
                by_cases hv : 40 < e.emitted.length + (valuesOf c a e.payload regs).1.length
                · rw [if_pos hv, emits_full hv]
                  exact ⟨rfl, rfl, rfl⟩
                · rw [if_neg hv, emits_room hv]
                  exact ih n { e with frames := (m, p + 2) :: r, executed := e.executed + 1, emitted := e.emitted ++ (valuesOf c a e.payload regs).1 } _ (by show e.executed + 1 ≤ 100; omega) (by show 101 - (e.executed + 1) ≤ n; omega) (by show 3 * (101 - (e.executed + 1)) + (r.length + 1) ≤ F; omega) hfr
      · rw [run_skip hf hlt (Nat.succ_pos n)]
        have es : stackOf pr ((m, p) :: r) = [] :: stackOf pr r := by
          show (instrs (pr m)).drop (p / 2) :: stackOf pr r = _
          rw [instrs_end hp hlt]
        rw [es]
        show Same pr pg _ (Kp424.interpret s F regs _)
        exact ih (n + 1) { e with frames := r } regs h1 h2 (by show 3 * (101 - e.executed) + r.length ≤ F; omega) h6
end KM
/-! what a server holds, as the program keeps it -/
namespace KM
structure Meth where
  cost : Nat
  roles : Nat
  program : List Nat
structure Cli where
  token : Nat
  roles : Nat
  capacity : Nat
  refill : Nat
  quota : Nat
  quotaAt : Nat
structure Req where
  client : Nat
  arrivedAt : Nat
  deadline : Nat
  execution : Option Nat
  joined : Nat
  status : Option Nat
  finishedAt : Nat
  retryDelay : Nat
structure Srv where
  limit : Nat
  queueLimit : Nat
  discipline : Nat
  shedding : Nat
  lifetime : Nat
  now : Nat
  methods : List Meth
  clients : List Cli
  executions : List Exe
  requests : List Req
  registers : List Nat
  average : Nat
  graceEnd : Option Nat
  graceOver : Bool
end KM
/-! the program's defs as functions -/
namespace KM
def exe0 : Exe := ⟨0, 0, 0, [], 3, 0, 0, 0, 0, 0, [], []⟩
def req0 : Req := ⟨0, 0, 0, none, 0, some 0, 0, 0⟩
def cli0 : Cli := ⟨0, 0, 0, 0, 0, 0⟩
def meth0 : Meth := ⟨0, 0, []⟩
def exeAt (s : Srv) (i : Nat) : Exe := s.executions.getD i exe0
def reqAt (s : Srv) (i : Nat) : Req := s.requests.getD i req0
def cliAt (s : Srv) (i : Nat) : Cli := s.clients.getD i cli0
def methAt (s : Srv) (i : Nat) : Meth := s.methods.getD i meth0
theorem exe_some {s : Srv} {i : Nat} (h : i < s.executions.length) : s.executions[i]? = some (exeAt s i) := by
  unfold exeAt
  rw [List.getD_eq_getElem?_getD, List.getElem?_eq_getElem h]
  rfl
theorem req_some {s : Srv} {i : Nat} (h : i < s.requests.length) : s.requests[i]? = some (reqAt s i) := by
  unfold reqAt
  rw [List.getD_eq_getElem?_getD, List.getElem?_eq_getElem h]
  rfl
theorem cli_some {s : Srv} {i : Nat} (h : i < s.clients.length) : s.clients[i]? = some (cliAt s i) := by
  unfold cliAt
  rw [List.getD_eq_getElem?_getD, List.getElem?_eq_getElem h]
  rfl
theorem meth_some {s : Srv} {i : Nat} (h : i < s.methods.length) : s.methods[i]? = some (methAt s i) := by
  unfold methAt
  rw [List.getD_eq_getElem?_getD, List.getElem?_eq_getElem h]
  rfl
def setE (s : Srv) (i : Nat) (e : Exe) : Srv := { s with executions := s.executions.set i e }
def setR (s : Srv) (i : Nat) (r : Req) : Srv := { s with requests := s.requests.set i r }
def setC (s : Srv) (i : Nat) (c : Cli) : Srv := { s with clients := s.clients.set i c }
/-! state -/
def inState (s : Srv) (st : Nat) : List Nat := (List.range s.executions.length).filter fun i => (exeAt s i).state == st
def freeSlot (s : Srv) : Bool := decide ((inState s 1).length < s.limit)
def openReqs (s : Srv) : List Nat := (List.range s.requests.length).filter fun i => (reqAt s i).status == none
def waitingOn (s : Srv) (i : Nat) : List Nat := (openReqs s).filter fun r => (reqAt s r).execution == some i
def quotaNow (c : Cli) (now : Nat) : Nat := min (c.capacity * 1000) (c.quota + c.refill * (now - c.quotaAt))
def estWait (s : Srv) : Nat := if freeSlot s = true then 0 else ((inState s 0).length + 1) * (s.average / 8) / s.limit
def joinable (s : Srv) (e : Exe) : Bool := if e.state = 2 then decide (s.now < e.finishedAt + s.lifetime) else !(e.state == 3)
def isShared (s : Srv) (client key : Nat) (e : Exe) : Bool := e.client == client && (e.key == key && joinable s e)
def sharedUpTo (s : Srv) (client key : Nat) : Nat → Option Nat
  | 0 => none
  | n + 1 => if isShared s client key (exeAt s n) = true then some n else sharedUpTo s client key n
def sharedExe (s : Srv) (client key : Nat) : Option Nat := if key = 0 then none else sharedUpTo s client key s.executions.length
end KM
namespace KM
/-! programs -/
def bnds : List (Nat × Nat) := [(0, 10000), (0, 1000), (0, 0), (0, 3), (1, 16), (0, 5), (0, 3)]
def isInstr (c a mc : Nat) : Bool := if 7 ≤ c then false else if (c == 5 && decide (mc ≤ a)) = true then false else (decide ((bnds.getD c (0, 0)).1 ≤ a) && decide (a ≤ (bnds.getD c (0, 0)).2))
def allInstr (mc : Nat) : List Nat → Bool
  | c :: a :: r => isInstr c a mc && allInstr mc r
  | _ => true
def isProg (l : List Nat) (mc : Nat) : Bool := if (l.length % 2 == 1 || decide (16 < l.length)) = true then false else allInstr mc l
def progAt (s : Srv) (m : Nat) : List Nat := (methAt s m).program
end KM
/-! how a server lies in the heap -/
namespace Kc
open PySem PySem.Spec PyProof.Rows L2 KM
/-! ### fields by place -/
theorem look_zip {k : Str} : ∀ {ns : List Str} {vs : List V} {i : Nat}, ns.findIdx? (k == ·) = some i → ns.length ≤ vs.length → (ns.zip vs).lookup k = vs[i]?
  | [], _, _, h, _ => by simp at h
  | _ :: _, [], _, _, hl => by simp at hl
  | n :: ns, v :: vs, i, h, hl => by
    rw [List.findIdx?_cons] at h
    rw [List.zip_cons_cons, List.lookup_cons]
    cases e : k == n with
    | true =>
      rw [e] at h
      cases h
      rfl
    | false =>
      rw [e] at h
      cases q : ns.findIdx? (k == ·) with
      | none =>
        rw [q] at h
        cases h
      | some j =>
        rw [q] at h
        cases h
        exact look_zip q (Nat.le_of_succ_le_succ hl)
theorem put_zip {k : Str} {x : V} : ∀ {ns : List Str} {vs : List V} {i : Nat}, ns.findIdx? (k == ·) = some i → ns.length ≤ vs.length → putF k x (ns.zip vs) = ns.zip (vs.set i x)
  | [], _, _, h, _ => by simp at h
  | _ :: _, [], _, _, hl => by simp at hl
  | n :: ns, v :: vs, i, h, hl => by
    rw [List.findIdx?_cons] at h
    rw [List.zip_cons_cons, putF]
    cases e : k == n with
    | true =>
      rw [e] at h
      cases h
      have z : k = n := eq_of_beq e
      rw [if_pos z.symm]
      rfl
    | false =>
      rw [e] at h
      have z : ¬ n = k := fun z => by
        rw [z, beq_self_eq_true] at e
        cases e
      rw [if_neg z]
      cases q : ns.findIdx? (k == ·) with
      | none =>
        rw [q] at h
        cases h
      | some j =>
        rw [q] at h
        cases h
        rw [put_zip q (Nat.le_of_succ_le_succ hl)]
        rfl
theorem no_zip {k : Str} : ∀ {ns : List Str} {vs : List V}, ns.findIdx? (k == ·) = none → (ns.zip vs).lookup k = none
  | [], _, _ => rfl
  | _ :: _, [], _ => rfl
  | n :: ns, v :: vs, h => by
    rw [List.findIdx?_cons] at h
    rw [List.zip_cons_cons, List.lookup_cons]
    cases e : k == n with
    | true =>
      rw [e] at h
      cases h
    | false =>
      rw [e] at h
      cases q : ns.findIdx? (k == ·) with
      | none => exact no_zip q
      | some j =>
        rw [q] at h
        cases h
/-! ### who stands where -/
inductive Role
  | srv | meths | clis | exes | reqs | regs
  | meth (i : Nat) | prog (i : Nat) | cli (i : Nat) | req (i : Nat)
  | exe (i : Nat) | pay (i : Nat) | emi (i : Nat) | frs (i : Nat) | frm (i j : Nat)
deriving DecidableEq
/-- the classes -/
structure Cls7 where
  S : Addr
  M : Addr
  C : Addr
  F : Addr
  E : Addr
  R : Addr
  A : Addr
  /-- the table of code objects of the def that makes a lambda -/
  P : Addr
structure Loc where
  at_ : Role → Addr
  dx : Role → Addr
def intL (l : List Nat) : List V := l.map fun (n : Nat) => V.int (n : Int)
def opt (o : Option Nat) : V := match o with
  | none => .non
  | some n => .int (n : Int)
def nS : List Str := ["limit", "queue_limit", "discipline", "shedding", "lifetime", "now", "methods", "clients", "executions", "requests", "registers", "average", "grace_end", "grace_over"]
def vS (L : Loc) (s : Srv) : List V := [.int (s.limit : Int), .int (s.queueLimit : Int), .int (s.discipline : Int), .int (s.shedding : Int), .int (s.lifetime : Int), .int (s.now : Int), .ref (L.at_ .meths), .ref (L.at_ .clis), .ref (L.at_ .exes), .ref (L.at_ .reqs), .ref (L.at_ .regs), .int (s.average : Int), opt s.graceEnd, .bl s.graceOver]
def nM : List Str := ["cost", "roles", "program"]
def vM (L : Loc) (i : Nat) (m : Meth) : List V := [.int (m.cost : Int), .int (m.roles : Int), .ref (L.at_ (.prog i))]
def nC : List Str := ["token", "roles", "capacity", "refill", "quota", "quota_at"]
def vC (c : Cli) : List V := [.int (c.token : Int), .int (c.roles : Int), .int (c.capacity : Int), .int (c.refill : Int), .int (c.quota : Int), .int (c.quotaAt : Int)]
def nF : List Str := ["program", "position"]
def vF (L : Loc) (f : Nat × Nat) : List V := [.ref (L.at_ (.prog f.1)), .int (f.2 : Int)]
def nE : List Str := ["number", "client", "key", "method", "payload", "state", "status", "wakes_at", "started_at", "finished_at", "executed", "emitted", "frames"]
def vE (L : Loc) (i : Nat) (e : Exe) : List V := [.int (i : Int), .int (e.client : Int), .int (e.key : Int), .int (e.method : Int), .ref (L.at_ (.pay i)), .int (e.state : Int), .int (e.status : Int), .int (e.wakesAt : Int), .int (e.startedAt : Int), .int (e.finishedAt : Int), .int (e.executed : Int), .ref (L.at_ (.emi i)), .ref (L.at_ (.frs i))]
def nR : List Str := ["number", "client", "arrived_at", "deadline", "execution", "joined", "status", "finished_at", "retry_delay"]
def vR (i : Nat) (r : Req) : List V := [.int (i : Int), .int (r.client : Int), .int (r.arrivedAt : Int), .int (r.deadline : Int), opt r.execution, .int (r.joined : Int), opt r.status, .int (r.finishedAt : Int), .int (r.retryDelay : Int)]
def nA : List Str := ["client", "token", "method", "timeout", "key", "payload"]
def refs (L : Loc) (mk : Nat → Role) (n : Nat) : List V := (List.range n).map fun i => V.ref (L.at_ (mk i))
def cont (T : Cls7) (s : Srv) (L : Loc) : Role → Option HO
  | .srv => some (.ins T.S (L.dx .srv) (nS.zip (vS L s)))
  | .meths => some (.lst (refs L .meth s.methods.length))
  | .clis => some (.lst (refs L .cli s.clients.length))
  | .exes => some (.lst (refs L .exe s.executions.length))
  | .reqs => some (.lst (refs L .req s.requests.length))
  | .regs => some (.lst (intL s.registers))
  | .meth i => s.methods[i]?.map fun m => .ins T.M (L.dx (.meth i)) (nM.zip (vM L i m))
  | .prog i => s.methods[i]?.map fun m => .lst (intL m.program)
  | .cli i => s.clients[i]?.map fun c => .ins T.C (L.dx (.cli i)) (nC.zip (vC c))
  | .req i => s.requests[i]?.map fun r => .ins T.R (L.dx (.req i)) (nR.zip (vR i r))
  | .exe i => s.executions[i]?.map fun e => .ins T.E (L.dx (.exe i)) (nE.zip (vE L i e))
  | .pay i => s.executions[i]?.map fun e => .lst (intL e.payload)
  | .emi i => s.executions[i]?.map fun e => .lst (intL e.emitted)
  | .frs i => s.executions[i]?.map fun e => .lst (refs L (.frm i) e.frames.length)
  | .frm i j => s.executions[i]?.bind fun e => e.frames.reverse[j]?.map fun f => .ins T.F (L.dx (.frm i j)) (nF.zip (vF L f))
/-- the lambda's name -/
def lamQ : Str := "starting_order.<locals>.<lambda>"
structure Rep (T : Cls7) (s : Srv) (L : Loc) (H : Hp) : Prop where
  at_ : ∀ r o, cont T s L r = some o → H (L.at_ r) = some o
  inj : ∀ r r', (cont T s L r).isSome = true → (cont T s L r').isSome = true → L.at_ r = L.at_ r' → r = r'
  tab : LamX.TabS H T.P lamQ
/-- an object that a server may own -/
def Own : HO → Prop
  | .lst _ => True
  | .ins _ _ _ => True
  | _ => False
theorem tabS_upd {H : Hp} {P : Addr} {q : Str} {a : Addr} {o o' : HO} (t : LamX.TabS H P q) (h : H a = some o) (w : Own o) : LamX.TabS (upd H a o') P q := by
  obtain ⟨ps, h1, h2, h3⟩ := t
  refine ⟨ps, by rw [upd_ne (ne_of h1 h fun z => by rw [← z] at w; exact w)]; exact h1, h2, fun pos cv hc => ?_⟩
  obtain ⟨c, e1, e2⟩ := h3 pos cv hc
  exact ⟨c, e1, by rw [upd_ne (ne_of e2 h fun z => by rw [← z] at w; exact w)]; exact e2⟩
section
variable {T : Cls7} {s s' s'' : Srv} {L L' L'' : Loc} {H H' H'' : Hp}
theorem cont_own {r : Role} {o : HO} (h : cont T s L r = some o) : Own o := by
  cases r <;> simp only [cont, Option.some.injEq, Option.map_eq_some_iff, Option.bind_eq_some_iff] at h
  all_goals first
    | (subst h; trivial)
    | (obtain ⟨_, _, h⟩ := h; subst h; trivial)
    | (obtain ⟨_, _, _, _, h⟩ := h; subst h; trivial)
theorem Rep.ex (R : Rep T s L H) (e : Evl.Ex H H') : Rep T s L H' := ⟨fun r o q => e _ _ (R.at_ r o q), R.inj, R.tab.ext e⟩
/-- the object of one role is written -/
theorem Rep.write (R : Rep T s L H) {r : Role} {o o' : HO} (h0 : cont T s L r = some o) (h1 : cont T s' L r = some o') (h2 : ∀ r', r' ≠ r → cont T s' L r' = cont T s L r') : Rep T s' L (upd H (L.at_ r) o') := by
  have iS : ∀ r', (cont T s' L r').isSome = true → (cont T s L r').isSome = true := fun r' q => by
    by_cases e : r' = r
    · rw [e, h0]
      rfl
    · rw [← h2 r' e]
      exact q
  refine ⟨fun r' u q => ?_, fun r1 r2 q1 q2 => R.inj r1 r2 (iS r1 q1) (iS r2 q2), tabS_upd R.tab (R.at_ r o h0) (cont_own h0)⟩
  by_cases e : r' = r
  · rw [e] at q ⊢
    rw [h1] at q
    rw [← Option.some.inj q, upd_same]
  · rw [h2 r' e] at q
    rw [upd_ne fun z => e (R.inj r' r (by rw [q]; rfl) (by rw [h0]; rfl) z)]
    exact R.at_ r' u q
/-- a role whose object stays the same one -/
def Role.stable : Role → Prop
  | .frm _ _ => False
  | _ => True
/-- no table of code objects -/
def NT (o : HO) : Prop := ∀ ps, o ≠ .tbl ps
theorem nt_own {o : HO} (h : Own o) : NT o := fun ps z => by
  rw [z] at h
  exact h
/-- from one server to the next: it lies in the heap again, and nothing else was touched but tables of code objects -/
structure Go (T : Cls7) (s : Srv) (L : Loc) (H : Hp) (s' : Srv) (L' : Loc) (H' : Hp) : Prop where
  rep : Rep T s' L' H'
  keep : ∀ b o, H b = some o → NT o → (∀ r, (cont T s L r).isSome = true → b ≠ L.at_ r) → H' b = some o
  own : ∀ r, (cont T s' L' r).isSome = true → (∃ r0, (cont T s L r0).isSome = true ∧ L.at_ r0 = L'.at_ r) ∨ (∀ o, H (L'.at_ r) = some o → ¬ NT o)
  same : ∀ r, r.stable → (cont T s L r).isSome = true → (cont T s' L' r).isSome = true ∧ L'.at_ r = L.at_ r
  fresh : ∀ b o, H b = some o → NT o → ∃ o', H' b = some o' ∧ NT o'
theorem Go.refl (R : Rep T s L H) : Go T s L H s L H := ⟨R, fun _ _ e _ _ => e, fun r q => .inl ⟨r, q, rfl⟩, fun _ _ q => ⟨q, rfl⟩, fun _ o e n => ⟨o, e, n⟩⟩
theorem Go.ex (R : Rep T s L H) (e : Evl.Ex H H') : Go T s L H s L H' := ⟨R.ex e, fun _ _ q _ _ => e _ _ q, fun r q => .inl ⟨r, q, rfl⟩, fun _ _ q => ⟨q, rfl⟩, fun _ o q n => ⟨o, e _ _ q, n⟩⟩
/-- a lambda is made: tables of code objects may grow -/
theorem Go.exN (R : Rep T s L H) (e : LamX.ExtN H H') (t : LamX.TabS H' T.P lamQ) : Go T s L H s L H' :=
  ⟨⟨fun r o q => e _ _ (R.at_ r o q) (nt_own (cont_own q)), R.inj, t⟩, fun _ _ q n _ => e _ _ q n, fun r q => .inl ⟨r, q, rfl⟩, fun _ _ q => ⟨q, rfl⟩, fun _ o q n => ⟨o, e _ _ q n, n⟩⟩
theorem Go.trans (a : Go T s L H s' L' H') (b : Go T s' L' H' s'' L'' H'') : Go T s L H s'' L'' H'' := by
  refine ⟨b.rep, fun x o q1 q2 q3 => b.keep x o (a.keep x o q1 q2 q3) q2 fun r qr z => ?_, fun r qr => ?_, fun r st q => ?_, fun x o q n => ?_⟩
  · rcases a.own r qr with ⟨r0, k1, k2⟩ | k
    · exact q3 r0 k1 (z.trans k2.symm)
    · exact k o (by rw [← z]; exact q1) q2
  · rcases b.own r qr with ⟨r0, k1, k2⟩ | k
    · rcases a.own r0 k1 with ⟨r1, k3, k4⟩ | k3
      · exact .inl ⟨r1, k3, k4.trans k2⟩
      · exact .inr (by rw [← k2]; exact k3)
    · refine .inr fun o q n => ?_
      obtain ⟨o', q', n'⟩ := a.fresh _ o q n
      exact k o' q' n'
  · obtain ⟨k1, k2⟩ := a.same r st q
    obtain ⟨k3, k4⟩ := b.same r st k1
    exact ⟨k3, k4.trans k2⟩
  · obtain ⟨o', q', n'⟩ := a.fresh _ o q n
    exact b.fresh _ o' q' n'
/-- the object of one role is written: the places stay -/
theorem Go.write (R : Rep T s L H) {r : Role} {o o' : HO} (h0 : cont T s L r = some o) (h1 : cont T s' L r = some o') (h2 : ∀ r', r' ≠ r → cont T s' L r' = cont T s L r') : Go T s L H s' L (upd H (L.at_ r) o') := by
  have iS : ∀ r', (cont T s' L r').isSome = (cont T s L r').isSome := fun r' => by
    by_cases e : r' = r
    · rw [e, h0, h1]
      rfl
    · rw [h2 r' e]
  refine ⟨R.write h0 h1 h2, fun b o q _ k => ?_, fun r' q => .inl ⟨r', by rw [← iS]; exact q, rfl⟩, fun r' _ q => ⟨by rw [iS]; exact q, rfl⟩, fun b o q n => ?_⟩
  · rw [upd_ne (k r (by rw [h0]; rfl))]
    exact q
  · by_cases z : b = L.at_ r
    · rw [z, upd_same]
      exact ⟨o', rfl, nt_own (cont_own h1)⟩
    · rw [upd_ne z]
      exact ⟨o, q, n⟩
end
section
variable {T : Cls7} {s s' : Srv} {L L' : Loc} {H H1 : Hp}
/-- a list of the server is written; objects that were new may become the server's own -/
theorem Go.grow (R : Rep T s L H) (e : Evl.Ex H H1) {r0 : Role} {o o' : HO} (N : Role → Prop) (h0 : cont T s L r0 = some o) (old : ∀ r, ¬ N r → L'.at_ r = L.at_ r) (c1 : cont T s' L' r0 = some o') (n0 : ¬ N r0)
    (c2 : ∀ r u, r ≠ r0 → cont T s' L' r = some u → (¬ N r ∧ cont T s L r = some u) ∨ (N r ∧ H1 (L'.at_ r) = some u)) (fr : ∀ r, N r → H (L'.at_ r) = none) (inj : ∀ r r', N r → N r' → L'.at_ r = L'.at_ r' → r = r')
    (st : ∀ r, r.stable → (cont T s L r).isSome = true → (cont T s' L' r).isSome = true ∧ ¬ N r) : Go T s L H s' L' (upd H1 (L.at_ r0) o') := by
  have w1 := cont_own c1
  have a0 : H (L.at_ r0) = some o := R.at_ r0 o h0
  have kind : ∀ r, (cont T s' L' r).isSome = true → (¬ N r ∧ (cont T s L r).isSome = true) ∨ N r := fun r q => by
    by_cases z : r = r0
    · rw [z]
      exact .inl ⟨n0, by rw [h0]; rfl⟩
    · obtain ⟨u, hu⟩ := Option.isSome_iff_exists.mp q
      rcases c2 r u z hu with ⟨k1, k2⟩ | ⟨k1, _⟩
      · exact .inl ⟨k1, by rw [k2]; rfl⟩
      · exact .inr k1
  have oldAt : ∀ r, (cont T s L r).isSome = true → ∃ u, H (L.at_ r) = some u := fun r q => by
    obtain ⟨u, hu⟩ := Option.isSome_iff_exists.mp q
    exact ⟨u, R.at_ r u hu⟩
  refine ⟨⟨fun r u q => ?_, fun r1 r2 q1 q2 z => ?_, tabS_upd (R.tab.ext e) (e _ _ a0) (cont_own h0)⟩, fun b u q _ k => ?_, fun r q => ?_, fun r sr q => ?_, fun b u q n => ?_⟩
  · by_cases z : r = r0
    · rw [z] at q ⊢
      rw [c1] at q
      rw [old r0 n0, ← Option.some.inj q, upd_same]
    · rcases c2 r u z q with ⟨k1, k2⟩ | ⟨k1, k2⟩
      · rw [old r k1, upd_ne fun y => z (R.inj r r0 (by rw [k2]; rfl) (by rw [h0]; rfl) y)]
        exact e _ _ (R.at_ r u k2)
      · rw [upd_ne fun y => by rw [← y, fr r k1] at a0; cases a0]
        exact k2
  · rcases kind r1 q1 with ⟨k1, k2⟩ | k1
    · rcases kind r2 q2 with ⟨k3, k4⟩ | k3
      · rw [old r1 k1, old r2 k3] at z
        exact R.inj r1 r2 k2 k4 z
      · obtain ⟨u, hu⟩ := oldAt r1 k2
        rw [old r1 k1] at z
        rw [z, fr r2 k3] at hu
        cases hu
    · rcases kind r2 q2 with ⟨k3, k4⟩ | k3
      · obtain ⟨u, hu⟩ := oldAt r2 k4
        rw [old r2 k3] at z
        rw [← z, fr r1 k1] at hu
        cases hu
      · exact inj r1 r2 k1 k3 z
  · rw [upd_ne (k r0 (by rw [h0]; rfl))]
    exact e _ _ q
  · rcases kind r q with ⟨k1, k2⟩ | k1
    · exact .inl ⟨r, k2, (old r k1).symm⟩
    · exact .inr fun o q _ => by rw [fr r k1] at q; cases q
  · obtain ⟨k1, k2⟩ := st r sr q
    exact ⟨k1, old r k2⟩
  · by_cases z : b = L.at_ r0
    · rw [z, upd_same]
      exact ⟨o', rfl, nt_own w1⟩
    · rw [upd_ne z]
      exact ⟨u, e _ _ q, n⟩
end
/-! ### the server's parts, changed one at a time -/



section
variable {T : Cls7} {s : Srv} {L : Loc} {H H' : Hp} {i : Nat}
theorem Rep.exe (R : Rep T s L H) {e : Exe} (h : s.executions[i]? = some e) : H (L.at_ (.exe i)) = some (.ins T.E (L.dx (.exe i)) (nE.zip (vE L i e))) := R.at_ (.exe i) _ (by simp only [cont, h, Option.map_some])
theorem Rep.pay (R : Rep T s L H) {e : Exe} (h : s.executions[i]? = some e) : H (L.at_ (.pay i)) = some (.lst (intL e.payload)) := R.at_ (.pay i) _ (by simp only [cont, h, Option.map_some])
theorem Rep.emi (R : Rep T s L H) {e : Exe} (h : s.executions[i]? = some e) : H (L.at_ (.emi i)) = some (.lst (intL e.emitted)) := R.at_ (.emi i) _ (by simp only [cont, h, Option.map_some])
theorem Rep.frs (R : Rep T s L H) {e : Exe} (h : s.executions[i]? = some e) : H (L.at_ (.frs i)) = some (.lst (refs L (.frm i) e.frames.length)) := R.at_ (.frs i) _ (by simp only [cont, h, Option.map_some])
theorem Rep.req (R : Rep T s L H) {r : Req} (h : s.requests[i]? = some r) : H (L.at_ (.req i)) = some (.ins T.R (L.dx (.req i)) (nR.zip (vR i r))) := R.at_ (.req i) _ (by simp only [cont, h, Option.map_some])
theorem Rep.cli (R : Rep T s L H) {c : Cli} (h : s.clients[i]? = some c) : H (L.at_ (.cli i)) = some (.ins T.C (L.dx (.cli i)) (nC.zip (vC c))) := R.at_ (.cli i) _ (by simp only [cont, h, Option.map_some])
theorem Rep.meth (R : Rep T s L H) {m : Meth} (h : s.methods[i]? = some m) : H (L.at_ (.meth i)) = some (.ins T.M (L.dx (.meth i)) (nM.zip (vM L i m))) := R.at_ (.meth i) _ (by simp only [cont, h, Option.map_some])
theorem Rep.prog (R : Rep T s L H) {m : Meth} (h : s.methods[i]? = some m) : H (L.at_ (.prog i)) = some (.lst (intL m.program)) := R.at_ (.prog i) _ (by simp only [cont, h, Option.map_some])
theorem Rep.frm (R : Rep T s L H) {e : Exe} {j : Nat} {f : Nat × Nat} (h : s.executions[i]? = some e) (hf : e.frames.reverse[j]? = some f) : H (L.at_ (.frm i j)) = some (.ins T.F (L.dx (.frm i j)) (nF.zip (vF L f))) :=
  R.at_ (.frm i j) _ (by simp only [cont, h, hf, Option.map_some, Option.bind_some])
theorem set_at {α : Type} {l : List α} {i : Nat} {x y : α} (h : l[i]? = some x) : (l.set i y)[i]? = some y := by
  rw [List.getElem?_set, if_pos rfl, if_pos (List.getElem?_eq_some_iff.mp h).1]
theorem set_off {α : Type} {l : List α} {i j : Nat} {y : α} (h : j ≠ i) : (l.set i y)[j]? = l[j]? := by
  rw [List.getElem?_set, if_neg fun z => h z.symm]
/-- a request's own fields -/
theorem Go.req (R : Rep T s L H) {r r' : Req} (h : s.requests[i]? = some r) : Go T s L H (setR s i r') L (upd H (L.at_ (.req i)) (.ins T.R (L.dx (.req i)) (nR.zip (vR i r')))) := by
  refine Go.write (r := .req i) (o := .ins T.R (L.dx (.req i)) (nR.zip (vR i r))) R (by simp only [cont, h, Option.map_some]) (by simp only [cont, KM.setR, set_at h, Option.map_some]) fun q hq => ?_
  cases q <;> simp only [cont, KM.setR, vS, List.length_set]
  case req j => rw [set_off fun z => hq (by rw [z])]
theorem Go.cli (R : Rep T s L H) {c c' : Cli} (h : s.clients[i]? = some c) : Go T s L H (setC s i c') L (upd H (L.at_ (.cli i)) (.ins T.C (L.dx (.cli i)) (nC.zip (vC c')))) := by
  refine Go.write (r := .cli i) (o := .ins T.C (L.dx (.cli i)) (nC.zip (vC c))) R (by simp only [cont, h, Option.map_some]) (by simp only [cont, KM.setC, set_at h, Option.map_some]) fun q hq => ?_
  cases q <;> simp only [cont, KM.setC, vS, List.length_set]
  case cli j => rw [set_off fun z => hq (by rw [z])]
/-- an execution's own fields -/
theorem Go.exe (R : Rep T s L H) {e e' : Exe} (h : s.executions[i]? = some e) (h1 : e'.payload = e.payload) (h2 : e'.emitted = e.emitted) (h3 : e'.frames = e.frames) : Go T s L H (setE s i e') L (upd H (L.at_ (.exe i)) (.ins T.E (L.dx (.exe i)) (nE.zip (vE L i e')))) := by
  have off : ∀ j, j ≠ i → (s.executions.set i e')[j]? = s.executions[j]? := fun j hj => set_off hj
  refine Go.write (r := .exe i) (o := .ins T.E (L.dx (.exe i)) (nE.zip (vE L i e))) R (by simp only [cont, h, Option.map_some]) (by simp only [cont, KM.setE, set_at h, Option.map_some]) fun q hq => ?_
  cases q <;> simp only [cont, KM.setE, vS, List.length_set]
  case exe j => rw [off j fun z => hq (by rw [z])]
  case frm j j2 =>
    by_cases z : j = i
    · rw [z, set_at h, h]
      simp only [Option.bind_some, h3]
    · rw [off j z]
  all_goals
    rename_i j
    by_cases z : j = i
    · rw [z, set_at h, h]
      simp only [Option.map_some, h1, h2, h3]
    · rw [off j z]
end
end Kc
/-! made by gen.py of the linked text: places, scopes, readings, derivations -/
namespace Kc
open PySem PySem.Spec PyProof.Rows L2 KM
def top (i : Nat) : Stmt := PySem.Challenge.pw_keyedcalls_s01_answers.main.body.getD i (.Pass ⟨0, 0, 0, 0⟩)
/-- two objects of the top -/
structure Blt where
  bounds : Addr
  ops : Addr
  views : Addr
abbrev rPlus : R2 := rI0 fun i j => .int (i + j)
abbrev rMinus : R2 := rI0 fun i j => .int (i - j)
abbrev rTimes : R2 := rI CMul fun i j => .int (i * j)
abbrev rDiv : R2 := rI CDiv fun i j => .int (i / j)
abbrev rMod : R2 := rI (fun _ j => 0 < j) fun i j => .int (i % j)
abbrev rBits : R2 := rI0 fun i j => .int (Builtin.bitAnd i j)
abbrev rLt : R2 := rI0 fun i j => .bl (decide (i < j))
abbrev rLe : R2 := rI0 fun i j => .bl (decide (i ≤ j))
abbrev rGt : R2 := rI0 fun i j => .bl (decide (j < i))
abbrev rGe : R2 := rI0 fun i j => .bl (decide (j ≤ i))
abbrev rIsNon : R2 := fun x y H Q => y = .non ∧ Q (.bl (decide (x = .non))) H
abbrev rNotNon : R2 := fun x y H Q => y = .non ∧ Q (.bl (!decide (x = .non))) H
abbrev rNeg : V → Hp → VK → Prop := rU fun i => .int (-i)
abbrev rMin2 : List V → Hp → VK → Prop := fun xs H Q => ∃ i j, xs = [.int i, .int j] ∧ Q (.int (if j < i then j else i)) H
abbrev rMax2 : List V → Hp → VK → Prop := fun xs H Q => ∃ i j, xs = [.int i, .int j] ∧ Q (.int (if j > i then j else i)) H
abbrev rGetL (K : PySem.W.Frag) : V → V → Hp → VK → Prop := fun x y H Q => ∃ (p : Addr) (xs : List V) (i : Nat) (v : V), x = .ref p ∧ y = .int (i : Int) ∧ SqL K H p xs ∧ xs[i]? = some v ∧ Q v H
/-- what the top has written: classes, constants, built-in names that nothing hides -/
structure Txt (K : PySem.W.Frag) (mg : Str → Option Value) (T : Cls7) (B : Blt) : Prop where
  clS : Cls K T.S
  clM : Cls K T.M
  clC : Cls K T.C
  clF : Cls K T.F
  clE : Cls K T.E
  clR : Cls K T.R
  clA : Cls K T.A
  nS : ∀ f ∈ Kc.nS, NoAttr K T.S f
  nM : ∀ f ∈ Kc.nM, NoAttr K T.M f
  nC : ∀ f ∈ Kc.nC, NoAttr K T.C f
  nF : ∀ f ∈ Kc.nF, NoAttr K T.F f
  nE : ∀ f ∈ Kc.nE, NoAttr K T.E f
  nR : ∀ f ∈ Kc.nR, NoAttr K T.R f
  nA : ∀ f ∈ Kc.nA, NoAttr K T.A f
  g_ADD_PAYLOAD : ∃ u, mg "ADD_PAYLOAD" = some u ∧ RelV (.int 3) u
  g_CALL : ∃ u, mg "CALL" = some u ∧ RelV (.int 5) u
  g_CANCELLED : ∃ u, mg "CANCELLED" = some u ∧ RelV (.int 1) u
  g_CREATE : ∃ u, mg "CREATE" = some u ∧ RelV (.int 0) u
  g_DEADLINE_COMES : ∃ u, mg "DEADLINE_COMES" = some u ∧ RelV (.int 1) u
  g_DEADLINE_EXCEEDED : ∃ u, mg "DEADLINE_EXCEEDED" = some u ∧ RelV (.int 4) u
  g_DROPPED : ∃ u, mg "DROPPED" = some u ∧ RelV (.int 3) u
  g_EMIT : ∃ u, mg "EMIT" = some u ∧ RelV (.int 1) u
  g_EMIT_PAYLOAD : ∃ u, mg "EMIT_PAYLOAD" = some u ∧ RelV (.int 2) u
  g_END : ∃ u, mg "END" = some u ∧ RelV (.int 4) u
  g_EXHAUSTED : ∃ u, mg "EXHAUSTED" = some u ∧ RelV (.int 8) u
  g_FINISHED : ∃ u, mg "FINISHED" = some u ∧ RelV (.int 2) u
  g_GRACE_ENDS : ∃ u, mg "GRACE_ENDS" = some u ∧ RelV (.int 2) u
  g_GREATEST_NUMBER : ∃ u, mg "GREATEST_NUMBER" = some u ∧ RelV (.int 2) u
  g_INVALID : ∃ u, mg "INVALID" = some u ∧ RelV (.int 3) u
  g_MOST_CLIENTS : ∃ u, mg "MOST_CLIENTS" = some u ∧ RelV (.int 8) u
  g_MOST_EMITTED : ∃ u, mg "MOST_EMITTED" = some u ∧ RelV (.int 40) u
  g_MOST_EXECUTED : ∃ u, mg "MOST_EXECUTED" = some u ∧ RelV (.int 100) u
  g_MOST_INSTRUCTIONS : ∃ u, mg "MOST_INSTRUCTIONS" = some u ∧ RelV (.int 8) u
  g_MOST_LIMIT : ∃ u, mg "MOST_LIMIT" = some u ∧ RelV (.int 8) u
  g_MOST_METHODS : ∃ u, mg "MOST_METHODS" = some u ∧ RelV (.int 6) u
  g_MOST_PAYLOAD : ∃ u, mg "MOST_PAYLOAD" = some u ∧ RelV (.int 8) u
  g_MOST_REQUESTS : ∃ u, mg "MOST_REQUESTS" = some u ∧ RelV (.int 60) u
  g_MOST_ROLES : ∃ u, mg "MOST_ROLES" = some u ∧ RelV (.int 15) u
  g_NOTHING_THERE : ∃ u, mg "NOTHING_THERE" = some u ∧ RelV (.int (-33)) u
  g_NOT_OPEN : ∃ u, mg "NOT_OPEN" = some u ∧ RelV (.int (-16)) u
  g_NO_KEY : ∃ u, mg "NO_KEY" = some u ∧ RelV (.int 0) u
  g_NO_SERVER : ∃ u, mg "NO_SERVER" = some u ∧ RelV (.int (-11)) u
  g_OK : ∃ u, mg "OK" = some u ∧ RelV (.int 0) u
  g_OUTSIDE : ∃ u, mg "OUTSIDE" = some u ∧ RelV (.int (-22)) u
  g_PERMISSION_DENIED : ∃ u, mg "PERMISSION_DENIED" = some u ∧ RelV (.int 7) u
  g_QUEUED : ∃ u, mg "QUEUED" = some u ∧ RelV (.int 0) u
  g_REFUSED : ∃ u, mg "REFUSED" = some u ∧ RelV (.int 100) u
  g_REGISTER_COUNT : ∃ u, mg "REGISTER_COUNT" = some u ∧ RelV (.int 4) u
  g_RUNNING : ∃ u, mg "RUNNING" = some u ∧ RelV (.int 1) u
  g_SMALLEST_DEADLINE : ∃ u, mg "SMALLEST_DEADLINE" = some u ∧ RelV (.int 1) u
  g_TOO_MANY : ∃ u, mg "TOO_MANY" = some u ∧ RelV (.int (-28)) u
  g_UNAUTHENTICATED : ∃ u, mg "UNAUTHENTICATED" = some u ∧ RelV (.int 16) u
  g_UNIMPLEMENTED : ∃ u, mg "UNIMPLEMENTED" = some u ∧ RelV (.int 12) u
  g_UNKNOWN : ∃ u, mg "UNKNOWN" = some u ∧ RelV (.int (-2)) u
  g_WAIT : ∃ u, mg "WAIT" = some u ∧ RelV (.int 0) u
  g_WAIT_ENDS : ∃ u, mg "WAIT_ENDS" = some u ∧ RelV (.int 0) u
  g_ARGUMENT_BOUNDS : ∃ u, mg "ARGUMENT_BOUNDS" = some u ∧ RelV (.ref B.bounds) u
  g_OPERATIONS : ∃ u, mg "OPERATIONS" = some u ∧ RelV (.ref B.ops) u
  g_VIEWS : ∃ u, mg "VIEWS" = some u ∧ RelV (.ref B.views) u
  b_len : mg "len" = none
  b_min : mg "min" = none
  b_max : mg "max" = none
  b_sum : mg "sum" = none
  b_list : mg "list" = none
  b_reversed : mg "reversed" = none
  b_sorted : mg "sorted" = none
  b_range : mg "range" = none
section
variable {P : Program} {w : World} {K : PySem.W.Frag} {mg : Str → Option Value} {base : Heap} {T : Cls7} {B : Blt}
abbrev s_Server : Stmt := inClass (top 22) 0
abbrev N_Server : List Str := ["self", "limit", "queue_limit", "discipline", "shedding", "lifetime"]
theorem sc_Server : FnScope N_Server ["self", "limit", "queue_limit", "discipline", "shedding", "lifetime"] (C8.fnScope s_Server) := C8.fnScope_by (by decide +kernel)
def t_Server (K : PySem.W.Frag) (T : Cls7) : TS := (tSeq (sFld K (tVar 0) (tVar 1) "limit")
    (tSeq (sFld K (tVar 0) (tVar 2) "queue_limit")
    (tSeq (sFld K (tVar 0) (tVar 3) "discipline")
    (tSeq (sFld K (tVar 0) (tVar 4) "shedding")
    (tSeq (sFld K (tVar 0) (tVar 5) "lifetime")
    (tSeq (sFld K (tVar 0) (tC (.int 0)) "now")
    (tSeq (sFld K (tVar 0) (tLst tNil) "methods")
    (tSeq (sFld K (tVar 0) (tLst tNil) "clients")
    (tSeq (sFld K (tVar 0) (tLst tNil) "executions")
    (tSeq (sFld K (tVar 0) (tLst tNil) "requests")
    (tSeq (sFld K (tVar 0) (tOp rRep (tLst (tCons (tC (.int 0)) tNil)) (tC (.int 4))) "registers")
    (tSeq (sFld K (tVar 0) (tC (.int 0)) "average")
    (tSeq (sFld K (tVar 0) (tC .non) "grace_end")
    (sFld K (tVar 0) (tC (.bl false)) "grace_over"))))))))))))))
theorem mak_Server {f : Addr} {fd : FuncData} {sp : Sp} (F : C8.Fun K "__init__" "Server.__init__" s_Server f fd) (b : Binds K fd ["self", "limit", "queue_limit", "discipline", "shedding", "lifetime"] []) (M : Mk K T.S f) (hm : mg "Server" = some (.ref T.S)) (X : Txt K mg T B) (len : ∀ vs H Q E, sp vs H Q E → vs.length = 6)
    (rd : ∀ vs H Q E, sp vs H Q E → t_Server K T { nx := fun _ H' => Q .non H', rt := Q } (start N_Server vs) H) : C8.Mak P w K mg base 1 "Server" T.S sp [] :=
  C8.mak0 M hm F b .nil sc_Server len fun cdv A outer s0 H vs Q E hr h => ⟨t_Server K T, (pss_cons (ps_fld (pv 0) (pv 1) rfl)
      (pss_cons (ps_fld (pv 0) (pv 2) rfl)
      (pss_cons (ps_fld (pv 0) (pv 3) rfl)
      (pss_cons (ps_fld (pv 0) (pv 4) rfl)
      (pss_cons (ps_fld (pv 0) (pv 5) rfl)
      (pss_cons (ps_fld (pv 0) pe_int rfl)
      (pss_cons (ps_fld (pv 0) (pe_lst pa_nil) rfl)
      (pss_cons (ps_fld (pv 0) (pe_lst pa_nil) rfl)
      (pss_cons (ps_fld (pv 0) (pe_lst pa_nil) rfl)
      (pss_cons (ps_fld (pv 0) (pe_lst pa_nil) rfl)
      (pss_cons (ps_fld (pv 0) (pe_op op_rep (pe_lst (pa_cons pe_int pa_nil)) (C8.pe_gc (by rfl) X.g_REGISTER_COUNT)) rfl)
      (pss_cons (ps_fld (pv 0) pe_int rfl)
      (pss_cons (ps_fld (pv 0) pe_non rfl)
      (pss_one (ps_fld (pv 0) pe_bl rfl))))))))))))))), rd vs H Q E h⟩
abbrev s_Method : Stmt := inClass (top 23) 0
abbrev N_Method : List Str := ["self", "cost", "roles", "program"]
theorem sc_Method : FnScope N_Method ["self", "cost", "roles", "program"] (C8.fnScope s_Method) := C8.fnScope_by (by decide +kernel)
def t_Method (K : PySem.W.Frag) (T : Cls7) : TS := (tSeq (sFld K (tVar 0) (tVar 1) "cost")
    (tSeq (sFld K (tVar 0) (tVar 2) "roles")
    (sFld K (tVar 0) (tVar 3) "program")))
theorem mak_Method {f : Addr} {fd : FuncData} {sp : Sp} (F : C8.Fun K "__init__" "Method.__init__" s_Method f fd) (b : Binds K fd ["self", "cost", "roles", "program"] []) (M : Mk K T.M f) (hm : mg "Method" = some (.ref T.M)) (X : Txt K mg T B) (len : ∀ vs H Q E, sp vs H Q E → vs.length = 4)
    (rd : ∀ vs H Q E, sp vs H Q E → t_Method K T { nx := fun _ H' => Q .non H', rt := Q } (start N_Method vs) H) : C8.Mak P w K mg base 1 "Method" T.M sp [] :=
  C8.mak0 M hm F b .nil sc_Method len fun cdv A outer s0 H vs Q E hr h => ⟨t_Method K T, (pss_cons (ps_fld (pv 0) (pv 1) rfl)
      (pss_cons (ps_fld (pv 0) (pv 2) rfl)
      (pss_one (ps_fld (pv 0) (pv 3) rfl)))), rd vs H Q E h⟩
abbrev s_Client : Stmt := inClass (top 24) 0
abbrev N_Client : List Str := ["self", "token", "roles", "capacity", "refill", "now"]
theorem sc_Client : FnScope N_Client ["self", "token", "roles", "capacity", "refill", "now"] (C8.fnScope s_Client) := C8.fnScope_by (by decide +kernel)
def t_Client (K : PySem.W.Frag) (T : Cls7) : TS := (tSeq (sFld K (tVar 0) (tVar 1) "token")
    (tSeq (sFld K (tVar 0) (tVar 2) "roles")
    (tSeq (sFld K (tVar 0) (tVar 3) "capacity")
    (tSeq (sFld K (tVar 0) (tVar 4) "refill")
    (tSeq (sFld K (tVar 0) (tOp rTimes (tVar 3) (tC (.int 1000))) "quota")
    (sFld K (tVar 0) (tVar 5) "quota_at"))))))
theorem mak_Client {f : Addr} {fd : FuncData} {sp : Sp} (F : C8.Fun K "__init__" "Client.__init__" s_Client f fd) (b : Binds K fd ["self", "token", "roles", "capacity", "refill", "now"] []) (M : Mk K T.C f) (hm : mg "Client" = some (.ref T.C)) (X : Txt K mg T B) (len : ∀ vs H Q E, sp vs H Q E → vs.length = 6)
    (rd : ∀ vs H Q E, sp vs H Q E → t_Client K T { nx := fun _ H' => Q .non H', rt := Q } (start N_Client vs) H) : C8.Mak P w K mg base 1 "Client" T.C sp [] :=
  C8.mak0 M hm F b .nil sc_Client len fun cdv A outer s0 H vs Q E hr h => ⟨t_Client K T, (pss_cons (ps_fld (pv 0) (pv 1) rfl)
      (pss_cons (ps_fld (pv 0) (pv 2) rfl)
      (pss_cons (ps_fld (pv 0) (pv 3) rfl)
      (pss_cons (ps_fld (pv 0) (pv 4) rfl)
      (pss_cons (ps_fld (pv 0) (pe_op op_mul (pv 3) pe_int) rfl)
      (pss_one (ps_fld (pv 0) (pv 5) rfl))))))), rd vs H Q E h⟩
abbrev s_Frame : Stmt := inClass (top 25) 0
abbrev N_Frame : List Str := ["self", "program"]
theorem sc_Frame : FnScope N_Frame ["self", "program"] (C8.fnScope s_Frame) := C8.fnScope_by (by decide +kernel)
def t_Frame (K : PySem.W.Frag) (T : Cls7) : TS := (tSeq (sFld K (tVar 0) (tVar 1) "program")
    (sFld K (tVar 0) (tC (.int 0)) "position"))
theorem mak_Frame {f : Addr} {fd : FuncData} {sp : Sp} (F : C8.Fun K "__init__" "Frame.__init__" s_Frame f fd) (b : Binds K fd ["self", "program"] []) (M : Mk K T.F f) (hm : mg "Frame" = some (.ref T.F)) (X : Txt K mg T B) (len : ∀ vs H Q E, sp vs H Q E → vs.length = 2)
    (rd : ∀ vs H Q E, sp vs H Q E → t_Frame K T { nx := fun _ H' => Q .non H', rt := Q } (start N_Frame vs) H) : C8.Mak P w K mg base 1 "Frame" T.F sp [] :=
  C8.mak0 M hm F b .nil sc_Frame len fun cdv A outer s0 H vs Q E hr h => ⟨t_Frame K T, (pss_cons (ps_fld (pv 0) (pv 1) rfl)
      (pss_one (ps_fld (pv 0) pe_int rfl))), rd vs H Q E h⟩
abbrev s_Execution : Stmt := inClass (top 26) 0
abbrev N_Execution : List Str := ["self", "number", "ask", "program"]
theorem sc_Execution : FnScope N_Execution ["self", "number", "ask", "program"] (C8.fnScope s_Execution) := C8.fnScope_by (by decide +kernel)
def t_Execution (K : PySem.W.Frag) (T : Cls7) (sp_Frame : Sp) : TS := (tSeq (sFld K (tVar 0) (tVar 1) "number")
    (tSeq (sFld K (tVar 0) (tFld K (tVar 2) "client") "client")
    (tSeq (sFld K (tVar 0) (tFld K (tVar 2) "key") "key")
    (tSeq (sFld K (tVar 0) (tFld K (tVar 2) "method") "method")
    (tSeq (sFld K (tVar 0) (tFld K (tVar 2) "payload") "payload")
    (tSeq (sFld K (tVar 0) (tC (.int 0)) "state")
    (tSeq (sFld K (tVar 0) (tC (.int 0)) "status")
    (tSeq (sFld K (tVar 0) (tC (.int 0)) "wakes_at")
    (tSeq (sFld K (tVar 0) (tC (.int 0)) "started_at")
    (tSeq (sFld K (tVar 0) (tC (.int 0)) "finished_at")
    (tSeq (sFld K (tVar 0) (tC (.int 0)) "executed")
    (tSeq (sFld K (tVar 0) (tLst tNil) "emitted")
    (sFld K (tVar 0) (tLst (tCons (tMake T.F sp_Frame [] C8.E0 (tCons (tVar 3) tNil)) tNil)) "frames")))))))))))))
theorem mak_Execution {f : Addr} {fd : FuncData} {sp : Sp} (F : C8.Fun K "__init__" "Execution.__init__" s_Execution f fd) (b : Binds K fd ["self", "number", "ask", "program"] []) (M : Mk K T.E f) (hm : mg "Execution" = some (.ref T.E)) (X : Txt K mg T B) {sp_Frame : Sp} (m_Frame : C8.Mak P w K mg base 1 "Frame" T.F sp_Frame []) (len : ∀ vs H Q E, sp vs H Q E → vs.length = 4)
    (rd : ∀ vs H Q E, sp vs H Q E → t_Execution K T sp_Frame { nx := fun _ H' => Q .non H', rt := Q } (start N_Execution vs) H) : C8.Mak P w K mg base 3 "Execution" T.E sp [] :=
  C8.mak0 M hm F b .nil sc_Execution len fun cdv A outer s0 H vs Q E hr h => ⟨t_Execution K T sp_Frame, (pss_cons (ps_fld (pv 0) (pv 1) rfl)
      (pss_cons (ps_fld (pv 0) (pe_fld (pv 2) rfl) rfl)
      (pss_cons (ps_fld (pv 0) (pe_fld (pv 2) rfl) rfl)
      (pss_cons (ps_fld (pv 0) (pe_fld (pv 2) rfl) rfl)
      (pss_cons (ps_fld (pv 0) (pe_fld (pv 2) rfl) rfl)
      (pss_cons (ps_fld (pv 0) (C8.pe_gc (by rfl) X.g_QUEUED) rfl)
      (pss_cons (ps_fld (pv 0) pe_int rfl)
      (pss_cons (ps_fld (pv 0) pe_int rfl)
      (pss_cons (ps_fld (pv 0) pe_int rfl)
      (pss_cons (ps_fld (pv 0) pe_int rfl)
      (pss_cons (ps_fld (pv 0) pe_int rfl)
      (pss_cons (ps_fld (pv 0) (pe_lst pa_nil) rfl)
      (pss_one (ps_fld (pv 0) (pe_lst (pa_cons (C8.pe_mk m_Frame hr (by decide) (by rfl) (pa_cons (pv 3) pa_nil)) pa_nil)) rfl)))))))))))))), rd vs H Q E h⟩
abbrev s_Request : Stmt := inClass (top 27) 0
abbrev N_Request : List Str := ["self", "number", "client", "arrived_at", "deadline"]
theorem sc_Request : FnScope N_Request ["self", "number", "client", "arrived_at", "deadline"] (C8.fnScope s_Request) := C8.fnScope_by (by decide +kernel)
def t_Request (K : PySem.W.Frag) (T : Cls7) : TS := (tSeq (sFld K (tVar 0) (tVar 1) "number")
    (tSeq (sFld K (tVar 0) (tVar 2) "client")
    (tSeq (sFld K (tVar 0) (tVar 3) "arrived_at")
    (tSeq (sFld K (tVar 0) (tVar 4) "deadline")
    (tSeq (sFld K (tVar 0) (tC .non) "execution")
    (tSeq (sFld K (tVar 0) (tC (.int 0)) "joined")
    (tSeq (sFld K (tVar 0) (tC .non) "status")
    (tSeq (sFld K (tVar 0) (tC (.int 0)) "finished_at")
    (sFld K (tVar 0) (tC (.int 0)) "retry_delay")))))))))
theorem mak_Request {f : Addr} {fd : FuncData} {sp : Sp} (F : C8.Fun K "__init__" "Request.__init__" s_Request f fd) (b : Binds K fd ["self", "number", "client", "arrived_at", "deadline"] []) (M : Mk K T.R f) (hm : mg "Request" = some (.ref T.R)) (X : Txt K mg T B) (len : ∀ vs H Q E, sp vs H Q E → vs.length = 5)
    (rd : ∀ vs H Q E, sp vs H Q E → t_Request K T { nx := fun _ H' => Q .non H', rt := Q } (start N_Request vs) H) : C8.Mak P w K mg base 1 "Request" T.R sp [] :=
  C8.mak0 M hm F b .nil sc_Request len fun cdv A outer s0 H vs Q E hr h => ⟨t_Request K T, (pss_cons (ps_fld (pv 0) (pv 1) rfl)
      (pss_cons (ps_fld (pv 0) (pv 2) rfl)
      (pss_cons (ps_fld (pv 0) (pv 3) rfl)
      (pss_cons (ps_fld (pv 0) (pv 4) rfl)
      (pss_cons (ps_fld (pv 0) pe_non rfl)
      (pss_cons (ps_fld (pv 0) pe_int rfl)
      (pss_cons (ps_fld (pv 0) pe_non rfl)
      (pss_cons (ps_fld (pv 0) pe_int rfl)
      (pss_one (ps_fld (pv 0) pe_int rfl)))))))))), rd vs H Q E h⟩
abbrev s_Ask : Stmt := inClass (top 28) 0
abbrev N_Ask : List Str := ["self", "numbers"]
theorem sc_Ask : FnScope N_Ask ["self", "numbers"] (C8.fnScope s_Ask) := C8.fnScope_by (by decide +kernel)
def t_Ask (K : PySem.W.Frag) (T : Cls7) : TS := (tSeq (sFld K (tVar 0) (tOp (rIxL K) (tVar 1) (tC (.int 0))) "client")
    (tSeq (sFld K (tVar 0) (tOp (rIxL K) (tVar 1) (tC (.int 1))) "token")
    (tSeq (sFld K (tVar 0) (tOp (rIxL K) (tVar 1) (tC (.int 2))) "method")
    (tSeq (sFld K (tVar 0) (tOp (rIxL K) (tVar 1) (tC (.int 3))) "timeout")
    (tSeq (sFld K (tVar 0) (tOp (rIxL K) (tVar 1) (tC (.int 4))) "key")
    (sFld K (tVar 0) (tSl (rSlL K) (tVar 1) (tPart (tC (.int 5))) tNoPart) "payload"))))))
theorem mak_Ask {f : Addr} {fd : FuncData} {sp : Sp} (F : C8.Fun K "__init__" "Ask.__init__" s_Ask f fd) (b : Binds K fd ["self", "numbers"] []) (M : Mk K T.A f) (hm : mg "Ask" = some (.ref T.A)) (X : Txt K mg T B) (len : ∀ vs H Q E, sp vs H Q E → vs.length = 2)
    (rd : ∀ vs H Q E, sp vs H Q E → t_Ask K T { nx := fun _ H' => Q .non H', rt := Q } (start N_Ask vs) H) : C8.Mak P w K mg base 1 "Ask" T.A sp [] :=
  C8.mak0 M hm F b .nil sc_Ask len fun cdv A outer s0 H vs Q E hr h => ⟨t_Ask K T, (pss_cons (ps_fld (pv 0) (pe_ix ix_list (pv 1) pe_int (fun _ _ => rfl)) rfl)
      (pss_cons (ps_fld (pv 0) (pe_ix ix_list (pv 1) pe_int (fun _ _ => rfl)) rfl)
      (pss_cons (ps_fld (pv 0) (pe_ix ix_list (pv 1) pe_int (fun _ _ => rfl)) rfl)
      (pss_cons (ps_fld (pv 0) (pe_ix ix_list (pv 1) pe_int (fun _ _ => rfl)) rfl)
      (pss_cons (ps_fld (pv 0) (pe_ix ix_list (pv 1) pe_int (fun _ _ => rfl)) rfl)
      (pss_one (ps_fld (pv 0) (pe_slice sl_list (pv 1) (po_some pe_int) po_none) rfl))))))), rd vs H Q E h⟩
abbrev s_in_state : Stmt := top 29
abbrev N_in_state : List Str := ["server", "state", "execution"]
theorem sc_in_state : FnScope N_in_state ["server", "state"] (C8.fnScope s_in_state) := C8.fnScope_by (by decide +kernel)
def t_in_state (K : PySem.W.Frag) (T : Cls7) : TS := (tRet (tLc (iList K (tFld K (tVar 0) "executions")) (gName 2) (tTest (tOp rEq (tFld K (tVar 2) "state") (tVar 1))) (tVar 2) [2]))
theorem cal_in_state {f : Addr} {fd : FuncData} {sp : Sp} (F : C8.Def K mg "in_state" s_in_state f fd) (b : Binds K fd ["server", "state"] []) (X : Txt K mg T B) (len : ∀ vs H Q E, sp vs H Q E → vs.length = 2)
    (rd : ∀ vs H Q E, sp vs H Q E → t_in_state K T { nx := fun _ H' => Q .non H', rt := Q } (start N_in_state vs) H) : C8.Cal P w K mg base 1 "in_state" sp [] :=
  C8.cal0 F b .nil sc_in_state len fun cdv A outer s0 H vs Q E hr h => ⟨t_in_state K T, (pss_one (ps_ret (pe_lc (own := [("execution", 2)]) (g := (gName 2)) (tt := (tTest (tOp rEq (tFld K (tVar 2) "state") (tVar 1)))) (te := (tVar 2)) (by rfl) sc_in_state.nd (pi_list (pe_fld (pv 0) rfl)) (blkOk_by (own := [("execution", 2)]) (N := N_in_state) (sc := C8.fnScope s_in_state) (by decide +kernel)) (fun _ _ _ _ _ => (pg_name (i := 2) sc_in_state.nd rfl (Or.inl rfl))) (fun _ _ _ _ _ => pts_one (pt_cmpR op_eq (pe_fld (pv 2) rfl) (pv 1) (nomark _))) (fun _ _ _ _ _ => (pv 2))))), rd vs H Q E h⟩
abbrev s_has_free_slot : Stmt := top 30
abbrev N_has_free_slot : List Str := ["server"]
theorem sc_has_free_slot : FnScope N_has_free_slot ["server"] (C8.fnScope s_has_free_slot) := C8.fnScope_by (by decide +kernel)
def t_has_free_slot (K : PySem.W.Frag) (T : Cls7) (sp_in_state : Sp) : TS := (tRet (tOp rLt (tCB (Evl.rLenS K) (tCons (tCall sp_in_state [] C8.E0 (tCons (tVar 0) (tCons (tC (.int 1)) tNil))) tNil)) (tFld K (tVar 0) "limit")))
theorem cal_has_free_slot {f : Addr} {fd : FuncData} {sp : Sp} (F : C8.Def K mg "has_free_slot" s_has_free_slot f fd) (b : Binds K fd ["server"] []) (X : Txt K mg T B) {sp_in_state : Sp} (c_in_state : C8.Cal P w K mg base 1 "in_state" sp_in_state []) (len : ∀ vs H Q E, sp vs H Q E → vs.length = 1)
    (rd : ∀ vs H Q E, sp vs H Q E → t_has_free_slot K T sp_in_state { nx := fun _ H' => Q .non H', rt := Q } (start N_has_free_slot vs) H) : C8.Cal P w K mg base 2 "has_free_slot" sp [] :=
  C8.cal0 F b .nil sc_has_free_slot len fun cdv A outer s0 H vs Q E hr h => ⟨t_has_free_slot K T sp_in_state, (pss_one (ps_ret (pe_cmpR op_lt (pe_callB call_len_seq (by rfl) X.b_len (by decide +kernel) (pa_cons (C8.pe_c c_in_state hr (by decide) (by rfl) (pa_cons (pv 0) (pa_cons (C8.pe_gc (by rfl) X.g_RUNNING) pa_nil))) pa_nil)) (pe_fld (pv 0) rfl) (nomark _)))), rd vs H Q E h⟩
abbrev s_open_requests : Stmt := top 31
abbrev N_open_requests : List Str := ["server", "request"]
theorem sc_open_requests : FnScope N_open_requests ["server"] (C8.fnScope s_open_requests) := C8.fnScope_by (by decide +kernel)
def t_open_requests (K : PySem.W.Frag) (T : Cls7) : TS := (tRet (tLc (iList K (tFld K (tVar 0) "requests")) (gName 1) (tTest (tOp rIsNon (tFld K (tVar 1) "status") (tC .non))) (tVar 1) [1]))
theorem cal_open_requests {f : Addr} {fd : FuncData} {sp : Sp} (F : C8.Def K mg "open_requests" s_open_requests f fd) (b : Binds K fd ["server"] []) (X : Txt K mg T B) (len : ∀ vs H Q E, sp vs H Q E → vs.length = 1)
    (rd : ∀ vs H Q E, sp vs H Q E → t_open_requests K T { nx := fun _ H' => Q .non H', rt := Q } (start N_open_requests vs) H) : C8.Cal P w K mg base 1 "open_requests" sp [] :=
  C8.cal0 F b .nil sc_open_requests len fun cdv A outer s0 H vs Q E hr h => ⟨t_open_requests K T, (pss_one (ps_ret (pe_lc (own := [("request", 1)]) (g := (gName 1)) (tt := (tTest (tOp rIsNon (tFld K (tVar 1) "status") (tC .non)))) (te := (tVar 1)) (by rfl) sc_open_requests.nd (pi_list (pe_fld (pv 0) rfl)) (blkOk_by (own := [("request", 1)]) (N := N_open_requests) (sc := C8.fnScope s_open_requests) (by decide +kernel)) (fun _ _ _ _ _ => (pg_name (i := 1) sc_open_requests.nd rfl (Or.inl rfl))) (fun _ _ _ _ _ => pts_one (pt_cmpR op_isN (pe_fld (pv 1) rfl) pe_non (nomark _))) (fun _ _ _ _ _ => (pv 1))))), rd vs H Q E h⟩
abbrev s_waiting_requests : Stmt := top 32
abbrev N_waiting_requests : List Str := ["server", "execution", "request"]
theorem sc_waiting_requests : FnScope N_waiting_requests ["server", "execution"] (C8.fnScope s_waiting_requests) := C8.fnScope_by (by decide +kernel)
def t_waiting_requests (K : PySem.W.Frag) (T : Cls7) (sp_open_requests : Sp) : TS := (tRet (tLc (iList K (tCall sp_open_requests [] C8.E0 (tCons (tVar 0) tNil))) (gName 2) (tTest (tOp rEq (tFld K (tVar 2) "execution") (tFld K (tVar 1) "number"))) (tVar 2) [2]))
theorem cal_waiting_requests {f : Addr} {fd : FuncData} {sp : Sp} (F : C8.Def K mg "waiting_requests" s_waiting_requests f fd) (b : Binds K fd ["server", "execution"] []) (X : Txt K mg T B) {sp_open_requests : Sp} (c_open_requests : C8.Cal P w K mg base 1 "open_requests" sp_open_requests []) (len : ∀ vs H Q E, sp vs H Q E → vs.length = 2)
    (rd : ∀ vs H Q E, sp vs H Q E → t_waiting_requests K T sp_open_requests { nx := fun _ H' => Q .non H', rt := Q } (start N_waiting_requests vs) H) : C8.Cal P w K mg base 2 "waiting_requests" sp [] :=
  C8.cal0 F b .nil sc_waiting_requests len fun cdv A outer s0 H vs Q E hr h => ⟨t_waiting_requests K T sp_open_requests, (pss_one (ps_ret (pe_lc (own := [("request", 2)]) (g := (gName 2)) (tt := (tTest (tOp rEq (tFld K (tVar 2) "execution") (tFld K (tVar 1) "number")))) (te := (tVar 2)) (by rfl) sc_waiting_requests.nd (pi_list (C8.pe_c c_open_requests hr (by decide) (by rfl) (pa_cons (pv 0) pa_nil))) (blkOk_by (own := [("request", 2)]) (N := N_waiting_requests) (sc := C8.fnScope s_waiting_requests) (by decide +kernel)) (fun _ _ _ _ _ => (pg_name (i := 2) sc_waiting_requests.nd rfl (Or.inl rfl))) (fun _ _ _ _ _ => pts_one (pt_cmpR op_eq (pe_fld (pv 2) rfl) (pe_fld (pv 1) rfl) (nomark _))) (fun _ _ _ _ _ => (pv 2))))), rd vs H Q E h⟩
abbrev s_present_quota : Stmt := top 33
abbrev N_present_quota : List Str := ["client", "now"]
theorem sc_present_quota : FnScope N_present_quota ["client", "now"] (C8.fnScope s_present_quota) := C8.fnScope_by (by decide +kernel)
def t_present_quota (K : PySem.W.Frag) (T : Cls7) : TS := (tRet (tCB rMin2 (tCons (tOp rTimes (tFld K (tVar 0) "capacity") (tC (.int 1000))) (tCons (tOp rPlus (tFld K (tVar 0) "quota") (tOp rTimes (tFld K (tVar 0) "refill") (tOp rMinus (tVar 1) (tFld K (tVar 0) "quota_at")))) tNil))))
theorem cal_present_quota {f : Addr} {fd : FuncData} {sp : Sp} (F : C8.Def K mg "present_quota" s_present_quota f fd) (b : Binds K fd ["client", "now"] []) (X : Txt K mg T B) (len : ∀ vs H Q E, sp vs H Q E → vs.length = 2)
    (rd : ∀ vs H Q E, sp vs H Q E → t_present_quota K T { nx := fun _ H' => Q .non H', rt := Q } (start N_present_quota vs) H) : C8.Cal P w K mg base 1 "present_quota" sp [] :=
  C8.cal0 F b .nil sc_present_quota len fun cdv A outer s0 H vs Q E hr h => ⟨t_present_quota K T, (pss_one (ps_ret (pe_callB (call_min2 (by rfl)) (by rfl) X.b_min (by decide +kernel) (pa_cons (pe_op op_mul (pe_fld (pv 0) rfl) pe_int) (pa_cons (pe_op op_add (pe_fld (pv 0) rfl) (pe_op op_mul (pe_fld (pv 0) rfl) (pe_op op_sub (pv 1) (pe_fld (pv 0) rfl)))) pa_nil))))), rd vs H Q E h⟩
abbrev s_estimated_wait : Stmt := top 34
abbrev N_estimated_wait : List Str := ["server", "queued"]
theorem sc_estimated_wait : FnScope N_estimated_wait ["server"] (C8.fnScope s_estimated_wait) := C8.fnScope_by (by decide +kernel)
def t_estimated_wait (K : PySem.W.Frag) (T : Cls7) (sp_has_free_slot : Sp) (sp_in_state : Sp) : TS := (tSeq (tIfS (tB (tCall sp_has_free_slot [] C8.E0 (tCons (tVar 0) tNil))) (tRet (tC (.int 0))) tNext)
    (tSeq (tAsg (tCB (Evl.rLenS K) (tCons (tCall sp_in_state [] C8.E0 (tCons (tVar 0) (tCons (tC (.int 0)) tNil))) tNil)) (gName 1))
    (tRet (tOp rDiv (tOp rTimes (tOp rPlus (tVar 1) (tC (.int 1))) (tOp rDiv (tFld K (tVar 0) "average") (tC (.int 8)))) (tFld K (tVar 0) "limit")))))
theorem cal_estimated_wait {f : Addr} {fd : FuncData} {sp : Sp} (F : C8.Def K mg "estimated_wait" s_estimated_wait f fd) (b : Binds K fd ["server"] []) (X : Txt K mg T B) {sp_has_free_slot : Sp} (c_has_free_slot : C8.Cal P w K mg base 2 "has_free_slot" sp_has_free_slot []) {sp_in_state : Sp} (c_in_state : C8.Cal P w K mg base 1 "in_state" sp_in_state []) (len : ∀ vs H Q E, sp vs H Q E → vs.length = 1)
    (rd : ∀ vs H Q E, sp vs H Q E → t_estimated_wait K T sp_has_free_slot sp_in_state { nx := fun _ H' => Q .non H', rt := Q } (start N_estimated_wait vs) H) : C8.Cal P w K mg base 3 "estimated_wait" sp [] :=
  C8.cal0 F b .nil sc_estimated_wait len fun cdv A outer s0 H vs Q E hr h => ⟨t_estimated_wait K T sp_has_free_slot sp_in_state, (pss_cons (ps_if (pt_val (C8.pe_c c_has_free_slot hr (by decide) (by rfl) (pa_cons (pv 0) pa_nil))) (pss_one (ps_ret pe_int)) pss_nil)
      (pss_cons (ps_set (i := 1) sc_estimated_wait.nd rfl (Or.inl rfl) (pe_callB call_len_seq (by rfl) X.b_len (by decide +kernel) (pa_cons (C8.pe_c c_in_state hr (by decide) (by rfl) (pa_cons (pv 0) (pa_cons (C8.pe_gc (by rfl) X.g_QUEUED) pa_nil))) pa_nil)))
      (pss_one (ps_ret (pe_op op_fdiv (pe_op op_mul (pe_op op_add (pv 1) pe_int) (pe_op op_fdiv (pe_fld (pv 0) rfl) pe_int)) (pe_fld (pv 0) rfl)))))), rd vs H Q E h⟩
abbrev s_can_be_joined : Stmt := top 36
abbrev N_can_be_joined : List Str := ["server", "execution"]
theorem sc_can_be_joined : FnScope N_can_be_joined ["server", "execution"] (C8.fnScope s_can_be_joined) := C8.fnScope_by (by decide +kernel)
def t_can_be_joined (K : PySem.W.Frag) (T : Cls7) : TS := (tSeq (tIfS (tTest (tOp rEq (tFld K (tVar 1) "state") (tC (.int 2)))) (tRet (tOp rLt (tFld K (tVar 0) "now") (tOp rPlus (tFld K (tVar 1) "finished_at") (tFld K (tVar 0) "lifetime")))) tNext)
    (tRet (tOp rNe (tFld K (tVar 1) "state") (tC (.int 3)))))
theorem cal_can_be_joined {f : Addr} {fd : FuncData} {sp : Sp} (F : C8.Def K mg "can_be_joined" s_can_be_joined f fd) (b : Binds K fd ["server", "execution"] []) (X : Txt K mg T B) (len : ∀ vs H Q E, sp vs H Q E → vs.length = 2)
    (rd : ∀ vs H Q E, sp vs H Q E → t_can_be_joined K T { nx := fun _ H' => Q .non H', rt := Q } (start N_can_be_joined vs) H) : C8.Cal P w K mg base 1 "can_be_joined" sp [] :=
  C8.cal0 F b .nil sc_can_be_joined len fun cdv A outer s0 H vs Q E hr h => ⟨t_can_be_joined K T, (pss_cons (ps_if (pt_cmpR op_eq (pe_fld (pv 1) rfl) (C8.pe_gc (by rfl) X.g_FINISHED) (nomark _)) (pss_one (ps_ret (pe_cmpR op_lt (pe_fld (pv 0) rfl) (pe_op op_add (pe_fld (pv 1) rfl) (pe_fld (pv 0) rfl)) (nomark _)))) pss_nil)
      (pss_one (ps_ret (pe_cmpR op_ne (pe_fld (pv 1) rfl) (C8.pe_gc (by rfl) X.g_DROPPED) (nomark _))))), rd vs H Q E h⟩
abbrev s_shared_execution : Stmt := top 35
abbrev N_shared_execution : List Str := ["server", "client", "key", "shared", "execution"]
theorem sc_shared_execution : FnScope N_shared_execution ["server", "client", "key"] (C8.fnScope s_shared_execution) := C8.fnScope_by (by decide +kernel)
def t_shared_execution (K : PySem.W.Frag) (T : Cls7) (sp_can_be_joined : Sp) : TS := (tSeq (tIfS (tTest (tOp rEq (tVar 2) (tC (.int 0)))) (tRet (tC .non)) tNext)
    (tSeq (tAsg (tC .non) (gName 3))
    (tSeq (tFor (iList K (tFld K (tVar 0) "executions")) (gName 4) (tIfS (tAnd (tTest (tOp rEq (tFld K (tVar 4) "client") (tVar 1))) (tAnd (tTest (tOp rEq (tFld K (tVar 4) "key") (tVar 2))) (tB (tCall sp_can_be_joined [] C8.E0 (tCons (tVar 0) (tCons (tVar 4) tNil)))))) (tAsg (tVar 4) (gName 3)) tNext))
    (tRet (tVar 3)))))
theorem cal_shared_execution {f : Addr} {fd : FuncData} {sp : Sp} (F : C8.Def K mg "shared_execution" s_shared_execution f fd) (b : Binds K fd ["server", "client", "key"] []) (X : Txt K mg T B) {sp_can_be_joined : Sp} (c_can_be_joined : C8.Cal P w K mg base 1 "can_be_joined" sp_can_be_joined []) (len : ∀ vs H Q E, sp vs H Q E → vs.length = 3)
    (rd : ∀ vs H Q E, sp vs H Q E → t_shared_execution K T sp_can_be_joined { nx := fun _ H' => Q .non H', rt := Q } (start N_shared_execution vs) H) : C8.Cal P w K mg base 2 "shared_execution" sp [] :=
  C8.cal0 F b .nil sc_shared_execution len fun cdv A outer s0 H vs Q E hr h => ⟨t_shared_execution K T sp_can_be_joined, (pss_cons (ps_if (pt_cmpR op_eq (pv 2) (C8.pe_gc (by rfl) X.g_NO_KEY) (nomark _)) (pss_one (ps_ret pe_non)) pss_nil)
      (pss_cons (ps_set (i := 3) sc_shared_execution.nd rfl (Or.inl rfl) pe_non)
      (pss_cons (ps_for PassesOwn.never rfl (pi_list (pe_fld (pv 0) rfl)) (pg_name (i := 4) sc_shared_execution.nd rfl (Or.inl rfl)) (pss_one (ps_if (PW.pt (pw_and (pt_cmpR op_eq (pe_fld (pv 4) rfl) (pv 1) (nomark _)) (pw_and (pt_cmpR op_eq (pe_fld (pv 4) rfl) (pv 2) (nomark _)) (pw_and1 (pt_val (C8.pe_c c_can_be_joined hr (by decide) (by rfl) (pa_cons (pv 0) (pa_cons (pv 4) pa_nil)))))))) (pss_one (ps_set (i := 3) sc_shared_execution.nd rfl (Or.inl rfl) (pv 4))) pss_nil)))
      (pss_one (ps_ret (pv 3)))))), rd vs H Q E h⟩
abbrev s_is_instruction : Stmt := top 49
abbrev N_is_instruction : List Str := ["code", "argument", "method_count", "least", "greatest"]
theorem sc_is_instruction : FnScope N_is_instruction ["code", "argument", "method_count"] (C8.fnScope s_is_instruction) := C8.fnScope_by (by decide +kernel)
def t_is_instruction (K : PySem.W.Frag) (T : Cls7) (B : Blt) : TS := (tSeq (tIfS (tTest (tOp rGe (tVar 0) (tCB (Evl.rLenS K) (tCons (tC (.ref B.bounds)) tNil)))) (tRet (tC (.bl false))) tNext)
    (tSeq (tIfS (tAnd (tTest (tOp rEq (tVar 0) (tC (.int 5)))) (tTest (tOp rGe (tVar 1) (tVar 2)))) (tRet (tC (.bl false))) tNext)
    (tSeq (tAsg (tOp (rIxT K) (tC (.ref B.bounds)) (tVar 0)) (gTup K 2 (gCons (gName 3) (gCons (gName 4) gNil))))
    (tRet (tChain rLe rLe (tVar 3) (tVar 1) (tVar 4))))))
theorem cal_is_instruction {f : Addr} {fd : FuncData} {sp : Sp} (F : C8.Def K mg "is_instruction" s_is_instruction f fd) (b : Binds K fd ["code", "argument", "method_count"] []) (X : Txt K mg T B) (len : ∀ vs H Q E, sp vs H Q E → vs.length = 3)
    (rd : ∀ vs H Q E, sp vs H Q E → t_is_instruction K T B { nx := fun _ H' => Q .non H', rt := Q } (start N_is_instruction vs) H) : C8.Cal P w K mg base 1 "is_instruction" sp [] :=
  C8.cal0 F b .nil sc_is_instruction len fun cdv A outer s0 H vs Q E hr h => ⟨t_is_instruction K T B, (pss_cons (ps_if (pt_cmpR op_ge (pv 0) (pe_callB call_len_seq (by rfl) X.b_len (by decide +kernel) (pa_cons (C8.pe_gc (by rfl) X.g_ARGUMENT_BOUNDS) pa_nil)) (nomark _)) (pss_one (ps_ret pe_bl)) pss_nil)
      (pss_cons (ps_if (PW.pt (pw_and (pt_cmpR op_eq (pv 0) (C8.pe_gc (by rfl) X.g_CALL) (nomark _)) (pw_and1 (pt_cmpR op_ge (pv 1) (pv 2) (nomark _))))) (pss_one (ps_ret pe_bl)) pss_nil)
      (pss_cons (ps_asg (pe_ix ix_tup (C8.pe_gc (by rfl) X.g_ARGUMENT_BOUNDS) (pv 0) (fun _ _ => rfl)) (pg_tup (by rfl) (pgs_cons (pg_name (i := 3) sc_is_instruction.nd rfl (Or.inl rfl)) (pgs_cons (pg_name (i := 4) sc_is_instruction.nd rfl (Or.inl rfl)) pgs_nil))))
      (pss_one (ps_ret (pe_chain op_le op_le (pv 3) (pv 1) (pv 4))))))), rd vs H Q E h⟩
abbrev s_is_program : Stmt := top 48
abbrev N_is_program : List Str := ["program", "method_count", "position"]
theorem sc_is_program : FnScope N_is_program ["program", "method_count"] (C8.fnScope s_is_program) := C8.fnScope_by (by decide +kernel)
def t_is_program (K : PySem.W.Frag) (T : Cls7) (sp_is_instruction : Sp) : TS := (tSeq (tIfS (tOr (tTest (tOp rEq (tOp rMod (tCB (Evl.rLenS K) (tCons (tVar 0) tNil)) (tC (.int 2))) (tC (.int 1)))) (tTest (tOp rGt (tCB (Evl.rLenS K) (tCons (tVar 0) tNil)) (tOp rTimes (tC (.int 2)) (tC (.int 8)))))) (tRet (tC (.bl false))) tNext)
    (tSeq (tFor (iRng3 (tCons (tC (.int 0)) (tCons (tCB (Evl.rLenS K) (tCons (tVar 0) tNil)) (tCons (tC (.int 2)) tNil)))) (gName 2) (tIfS (tNot (tB (tCall sp_is_instruction [] C8.E0 (tCons (tOp (rIxL K) (tVar 0) (tVar 2)) (tCons (tOp (rIxL K) (tVar 0) (tOp rPlus (tVar 2) (tC (.int 1)))) (tCons (tVar 1) tNil)))))) (tRet (tC (.bl false))) tNext))
    (tRet (tC (.bl true)))))
theorem cal_is_program {f : Addr} {fd : FuncData} {sp : Sp} (F : C8.Def K mg "is_program" s_is_program f fd) (b : Binds K fd ["program", "method_count"] []) (X : Txt K mg T B) {sp_is_instruction : Sp} (c_is_instruction : C8.Cal P w K mg base 1 "is_instruction" sp_is_instruction []) (len : ∀ vs H Q E, sp vs H Q E → vs.length = 2)
    (rd : ∀ vs H Q E, sp vs H Q E → t_is_program K T sp_is_instruction { nx := fun _ H' => Q .non H', rt := Q } (start N_is_program vs) H) : C8.Cal P w K mg base 2 "is_program" sp [] :=
  C8.cal0 F b .nil sc_is_program len fun cdv A outer s0 H vs Q E hr h => ⟨t_is_program K T sp_is_instruction, (pss_cons (ps_if (PW.pt (pw_or (pt_cmpR op_eq (pe_op op_mod (pe_callB call_len_seq (by rfl) X.b_len (by decide +kernel) (pa_cons (pv 0) pa_nil)) pe_int) pe_int (nomark _)) (pw_or1 (pt_cmpR op_gt (pe_callB call_len_seq (by rfl) X.b_len (by decide +kernel) (pa_cons (pv 0) pa_nil)) (pe_op op_mul pe_int (C8.pe_gc (by rfl) X.g_MOST_INSTRUCTIONS)) (nomark _))))) (pss_one (ps_ret pe_bl)) pss_nil)
      (pss_cons (ps_for PassesOwn.never rfl (pi_range3 (by rfl) X.b_range (pa_cons pe_int (pa_cons (pe_callB call_len_seq (by rfl) X.b_len (by decide +kernel) (pa_cons (pv 0) pa_nil)) (pa_cons pe_int pa_nil)))) (pg_name (i := 2) sc_is_program.nd rfl (Or.inl rfl)) (pss_one (ps_if (pt_not (pt_val (C8.pe_c c_is_instruction hr (by decide) (by rfl) (pa_cons (pe_ix ix_list (pv 0) (pv 2) (fun _ _ => rfl)) (pa_cons (pe_ix ix_list (pv 0) (pe_op op_add (pv 2) pe_int) (fun _ _ => rfl)) (pa_cons (pv 1) pa_nil)))))) (pss_one (ps_ret pe_bl)) pss_nil)))
      (pss_one (ps_ret pe_bl)))), rd vs H Q E h⟩
abbrev s_take_instruction : Stmt := top 51
abbrev N_take_instruction : List Str := ["execution", "frames", "frame"]
theorem sc_take_instruction : FnScope N_take_instruction ["execution"] (C8.fnScope s_take_instruction) := C8.fnScope_by (by decide +kernel)
def t_take_instruction (K : PySem.W.Frag) (T : Cls7) : TS := (tSeq (tAsg (tFld K (tVar 0) "frames") (gName 1))
    (tSeq (tWhile (tTest (tOp rGt (tCB (Evl.rLenS K) (tCons (tVar 1) tNil)) (tC (.int 0)))) (tSeq (tAsg (tOp (rIxL K) (tVar 1) (tUn rNeg (tC (.int 1)))) (gName 2))
    (tSeq (tIfS (tTest (tOp rLt (tFld K (tVar 2) "position") (tCB (Evl.rLenS K) (tCons (tFld K (tVar 2) "program") tNil)))) (tSeq (sFldAug K (tVar 2) (tC (.int 2)) rAdd "position")
    (tRet (tTup (tCons (tOp (rIxL K) (tFld K (tVar 2) "program") (tOp rMinus (tFld K (tVar 2) "position") (tC (.int 2)))) (tCons (tOp (rIxL K) (tFld K (tVar 2) "program") (tOp rMinus (tFld K (tVar 2) "position") (tC (.int 1)))) tNil))))) tNext)
    (tDrop (tBM0 K "list" rPop (tVar 1))))))
    (tRet (tC .non))))
theorem cal_take_instruction {f : Addr} {fd : FuncData} {sp : Sp} (F : C8.Def K mg "take_instruction" s_take_instruction f fd) (b : Binds K fd ["execution"] []) (X : Txt K mg T B) (len : ∀ vs H Q E, sp vs H Q E → vs.length = 1)
    (rd : ∀ vs H Q E, sp vs H Q E → t_take_instruction K T { nx := fun _ H' => Q .non H', rt := Q } (start N_take_instruction vs) H) : C8.Cal P w K mg base 1 "take_instruction" sp [] :=
  C8.cal0 F b .nil sc_take_instruction len fun cdv A outer s0 H vs Q E hr h => ⟨t_take_instruction K T, (pss_cons (ps_set (i := 1) sc_take_instruction.nd rfl (Or.inl rfl) (pe_fld (pv 0) rfl))
      (pss_cons (ps_while PassesOwn.never (pt_cmpR op_gt (pe_callB call_len_seq (by rfl) X.b_len (by decide +kernel) (pa_cons (pv 1) pa_nil)) pe_int (nomark _)) (pss_cons (ps_set (i := 2) sc_take_instruction.nd rfl (Or.inl rfl) (pe_ix ix_list (pv 1) (pe_un un_neg pe_int) (fun _ _ => rfl)))
      (pss_cons (ps_if (pt_cmpR op_lt (pe_fld (pv 2) rfl) (pe_callB call_len_seq (by rfl) X.b_len (by decide +kernel) (pa_cons (pe_fld (pv 2) rfl) pa_nil)) (nomark _)) (pss_cons (ps_fldaug (pv 2) pe_int in_add)
      (pss_one (ps_ret (pe_tup (pa_cons (pe_ix ix_list (pe_fld (pv 2) rfl) (pe_op op_sub (pe_fld (pv 2) rfl) pe_int) (fun _ _ => rfl)) (pa_cons (pe_ix ix_list (pe_fld (pv 2) rfl) (pe_op op_sub (pe_fld (pv 2) rfl) pe_int) (fun _ _ => rfl)) pa_nil)))))) pss_nil)
      (pss_one (ps_expr (pe_bm0 PySem.F.plainAttrs_list PySem.F.slot_list_pop PySem.F.type_list_pop mt_pop (pv 1)))))))
      (pss_one (ps_ret pe_non)))), rd vs H Q E h⟩
abbrev s_emit : Stmt := top 53
abbrev N_emit : List Str := ["execution", "numbers"]
theorem sc_emit : FnScope N_emit ["execution", "numbers"] (C8.fnScope s_emit) := C8.fnScope_by (by decide +kernel)
def t_emit (K : PySem.W.Frag) (T : Cls7) : TS := (tSeq (tIfS (tTest (tOp rGt (tOp rPlus (tCB (Evl.rLenS K) (tCons (tFld K (tVar 0) "emitted") tNil)) (tCB (Evl.rLenS K) (tCons (tVar 1) tNil))) (tC (.int 40)))) (tRet (tC (.bl false))) tNext)
    (tSeq (tDrop (tBM K "list" rExtend (tFld K (tVar 0) "emitted") (tCons (tVar 1) tNil)))
    (tRet (tC (.bl true)))))
theorem cal_emit {f : Addr} {fd : FuncData} {sp : Sp} (F : C8.Def K mg "emit" s_emit f fd) (b : Binds K fd ["execution", "numbers"] []) (X : Txt K mg T B) (len : ∀ vs H Q E, sp vs H Q E → vs.length = 2)
    (rd : ∀ vs H Q E, sp vs H Q E → t_emit K T { nx := fun _ H' => Q .non H', rt := Q } (start N_emit vs) H) : C8.Cal P w K mg base 1 "emit" sp [] :=
  C8.cal0 F b .nil sc_emit len fun cdv A outer s0 H vs Q E hr h => ⟨t_emit K T, (pss_cons (ps_if (pt_cmpR op_gt (pe_op op_add (pe_callB call_len_seq (by rfl) X.b_len (by decide +kernel) (pa_cons (pe_fld (pv 0) rfl) pa_nil)) (pe_callB call_len_seq (by rfl) X.b_len (by decide +kernel) (pa_cons (pv 1) pa_nil))) (C8.pe_gc (by rfl) X.g_MOST_EMITTED) (nomark _)) (pss_one (ps_ret pe_bl)) pss_nil)
      (pss_cons (ps_expr (pe_bm PySem.F.plainAttrs_list PySem.F.slot_list_extend PySem.F.type_list_extend mt_extend (pe_fld (pv 0) rfl) (pa_cons (pv 1) pa_nil)))
      (pss_one (ps_ret pe_bl)))), rd vs H Q E h⟩
abbrev s_values_to_emit : Stmt := top 52
abbrev N_values_to_emit : List Str := ["server", "execution", "code", "argument"]
theorem sc_values_to_emit : FnScope N_values_to_emit ["server", "execution", "code", "argument"] (C8.fnScope s_values_to_emit) := C8.fnScope_by (by decide +kernel)
def t_values_to_emit (K : PySem.W.Frag) (T : Cls7) : TS := (tSeq (tIfS (tTest (tOp rEq (tVar 2) (tC (.int 1)))) (tRet (tLst (tCons (tVar 3) tNil))) tNext)
    (tSeq (tIfS (tTest (tOp rEq (tVar 2) (tC (.int 2)))) (tRet (tFld K (tVar 1) "payload")) tNext)
    (tSeq (tIfS (tTest (tOp rEq (tVar 2) (tC (.int 3)))) (tAugS (tFld K (tVar 0) "registers") (tVar 3) (tCB (rSum K) (tCons (tFld K (tVar 1) "payload") tNil)) (rGetL K) (ipI fun i j => i + j) rSetL) tNext)
    (tRet (tLst (tCons (tOp (rIxL K) (tFld K (tVar 0) "registers") (tVar 3)) tNil))))))
theorem cal_values_to_emit {f : Addr} {fd : FuncData} {sp : Sp} (F : C8.Def K mg "values_to_emit" s_values_to_emit f fd) (b : Binds K fd ["server", "execution", "code", "argument"] []) (X : Txt K mg T B) (len : ∀ vs H Q E, sp vs H Q E → vs.length = 4)
    (rd : ∀ vs H Q E, sp vs H Q E → t_values_to_emit K T { nx := fun _ H' => Q .non H', rt := Q } (start N_values_to_emit vs) H) : C8.Cal P w K mg base 1 "values_to_emit" sp [] :=
  C8.cal0 F b .nil sc_values_to_emit len fun cdv A outer s0 H vs Q E hr h => ⟨t_values_to_emit K T, (pss_cons (ps_if (pt_cmpR op_eq (pv 2) (C8.pe_gc (by rfl) X.g_EMIT) (nomark _)) (pss_one (ps_ret (pe_lst (pa_cons (pv 3) pa_nil)))) pss_nil)
      (pss_cons (ps_if (pt_cmpR op_eq (pv 2) (C8.pe_gc (by rfl) X.g_EMIT_PAYLOAD) (nomark _)) (pss_one (ps_ret (pe_fld (pv 1) rfl))) pss_nil)
      (pss_cons (ps_if (pt_cmpR op_eq (pv 2) (C8.pe_gc (by rfl) X.g_ADD_PAYLOAD) (nomark _)) (pss_one (ps_augS (pe_fld (pv 0) rfl) (pv 3) get_list (pe_callB (cr_sum (by rfl)) (by rfl) X.b_sum (by decide +kernel) (pa_cons (pe_fld (pv 1) rfl) pa_nil)) ip_add set_list)) pss_nil)
      (pss_one (ps_ret (pe_lst (pa_cons (pe_ix ix_list (pe_fld (pv 0) rfl) (pv 3) (fun _ _ => rfl)) pa_nil))))))), rd vs H Q E h⟩
abbrev s_execute : Stmt := top 50
abbrev N_execute : List Str := ["server", "execution", "instruction", "code", "argument"]
theorem sc_execute : FnScope N_execute ["server", "execution"] (C8.fnScope s_execute) := C8.fnScope_by (by decide +kernel)
def t_execute (K : PySem.W.Frag) (T : Cls7) (sp_Frame : Sp) (sp_take_instruction : Sp) (sp_emit : Sp) (sp_values_to_emit : Sp) : TS := (tSeq (tAsg (tCall sp_take_instruction [] C8.E0 (tCons (tVar 1) tNil)) (gName 2))
    (tSeq (tWhile (tTest (tOp rNotNon (tVar 2) (tC .non))) (tSeq (tIfS (tTest (tOp rEq (tFld K (tVar 1) "executed") (tC (.int 100)))) (tRet (tC (.int 8))) tNext)
    (tSeq (sFldAug K (tVar 1) (tC (.int 1)) rAdd "executed")
    (tSeq (tAsg (tVar 2) (gTup K 2 (gCons (gName 3) (gCons (gName 4) gNil))))
    (tSeq (tIfS (tTest (tOp rEq (tVar 3) (tC (.int 0)))) (tSeq (sFld K (tVar 1) (tOp rPlus (tFld K (tVar 0) "now") (tVar 4)) "wakes_at")
    (tRet (tC .non))) tNext)
    (tSeq (tIfS (tTest (tOp rEq (tVar 3) (tC (.int 4)))) (tRet (tVar 4)) tNext)
    (tSeq (tIfS (tTest (tOp rEq (tVar 3) (tC (.int 5)))) (tDrop (tBM K "list" rAppend (tFld K (tVar 1) "frames") (tCons (tMake T.F sp_Frame [] C8.E0 (tCons (tFld K (tOp (rIxL K) (tFld K (tVar 0) "methods") (tVar 4)) "program") tNil)) tNil))) (tIfS (tNot (tB (tCall sp_emit [] C8.E0 (tCons (tVar 1) (tCons (tCall sp_values_to_emit [] C8.E0 (tCons (tVar 0) (tCons (tVar 1) (tCons (tVar 3) (tCons (tVar 4) tNil))))) tNil))))) (tRet (tC (.int 8))) tNext))
    (tAsg (tCall sp_take_instruction [] C8.E0 (tCons (tVar 1) tNil)) (gName 2)))))))))
    (tRet (tC (.int 0)))))
theorem cal_execute {f : Addr} {fd : FuncData} {sp : Sp} (F : C8.Def K mg "execute" s_execute f fd) (b : Binds K fd ["server", "execution"] []) (X : Txt K mg T B) {sp_Frame : Sp} (m_Frame : C8.Mak P w K mg base 1 "Frame" T.F sp_Frame []) {sp_take_instruction : Sp} (c_take_instruction : C8.Cal P w K mg base 1 "take_instruction" sp_take_instruction []) {sp_emit : Sp} (c_emit : C8.Cal P w K mg base 1 "emit" sp_emit []) {sp_values_to_emit : Sp} (c_values_to_emit : C8.Cal P w K mg base 1 "values_to_emit" sp_values_to_emit []) (len : ∀ vs H Q E, sp vs H Q E → vs.length = 2)
    (rd : ∀ vs H Q E, sp vs H Q E → t_execute K T sp_Frame sp_take_instruction sp_emit sp_values_to_emit { nx := fun _ H' => Q .non H', rt := Q } (start N_execute vs) H) : C8.Cal P w K mg base 3 "execute" sp [] :=
  C8.cal0 F b .nil sc_execute len fun cdv A outer s0 H vs Q E hr h => ⟨t_execute K T sp_Frame sp_take_instruction sp_emit sp_values_to_emit, (pss_cons (ps_set (i := 2) sc_execute.nd rfl (Or.inl rfl) (C8.pe_c c_take_instruction hr (by decide) (by rfl) (pa_cons (pv 1) pa_nil)))
      (pss_cons (ps_while PassesOwn.never (pt_cmpR op_notN (pv 2) pe_non (nomark _)) (pss_cons (ps_if (pt_cmpR op_eq (pe_fld (pv 1) rfl) (C8.pe_gc (by rfl) X.g_MOST_EXECUTED) (nomark _)) (pss_one (ps_ret (C8.pe_gc (by rfl) X.g_EXHAUSTED))) pss_nil)
      (pss_cons (ps_fldaug (pv 1) pe_int in_add)
      (pss_cons (ps_asg (pv 2) (pg_tup (by rfl) (pgs_cons (pg_name (i := 3) sc_execute.nd rfl (Or.inl rfl)) (pgs_cons (pg_name (i := 4) sc_execute.nd rfl (Or.inl rfl)) pgs_nil))))
      (pss_cons (ps_if (pt_cmpR op_eq (pv 3) (C8.pe_gc (by rfl) X.g_WAIT) (nomark _)) (pss_cons (ps_fld (pv 1) (pe_op op_add (pe_fld (pv 0) rfl) (pv 4)) rfl)
      (pss_one (ps_ret pe_non))) pss_nil)
      (pss_cons (ps_if (pt_cmpR op_eq (pv 3) (C8.pe_gc (by rfl) X.g_END) (nomark _)) (pss_one (ps_ret (pv 4))) pss_nil)
      (pss_cons (ps_if (pt_cmpR op_eq (pv 3) (C8.pe_gc (by rfl) X.g_CALL) (nomark _)) (pss_one (ps_expr (pe_bm PySem.F.plainAttrs_list PySem.F.slot_list_append PySem.F.type_list_append mt_append (pe_fld (pv 1) rfl) (pa_cons (C8.pe_mk m_Frame hr (by decide) (by rfl) (pa_cons (pe_fld (pe_ix ix_list (pe_fld (pv 0) rfl) (pv 4) (fun _ _ => rfl)) rfl) pa_nil)) pa_nil)))) (pss_one (ps_if (pt_not (pt_val (C8.pe_c c_emit hr (by decide) (by rfl) (pa_cons (pv 1) (pa_cons (C8.pe_c c_values_to_emit hr (by decide) (by rfl) (pa_cons (pv 0) (pa_cons (pv 1) (pa_cons (pv 3) (pa_cons (pv 4) pa_nil))))) pa_nil))))) (pss_one (ps_ret (C8.pe_gc (by rfl) X.g_EXHAUSTED))) pss_nil)))
      (pss_one (ps_set (i := 2) sc_execute.nd rfl (Or.inl rfl) (C8.pe_c c_take_instruction hr (by decide) (by rfl) (pa_cons (pv 1) pa_nil)))))))))))
      (pss_one (ps_ret (C8.pe_gc (by rfl) X.g_OK))))), rd vs H Q E h⟩
abbrev s_end_request : Stmt := top 57
abbrev N_end_request : List Str := ["server", "request", "status"]
theorem sc_end_request : FnScope N_end_request ["server", "request", "status"] (C8.fnScope s_end_request) := C8.fnScope_by (by decide +kernel)
def t_end_request (K : PySem.W.Frag) (T : Cls7) : TS := (tSeq (sFld K (tVar 1) (tVar 2) "status")
    (sFld K (tVar 1) (tFld K (tVar 0) "now") "finished_at"))
theorem cal_end_request {f : Addr} {fd : FuncData} {sp : Sp} (F : C8.Def K mg "end_request" s_end_request f fd) (b : Binds K fd ["server", "request", "status"] []) (X : Txt K mg T B) (len : ∀ vs H Q E, sp vs H Q E → vs.length = 3)
    (rd : ∀ vs H Q E, sp vs H Q E → t_end_request K T { nx := fun _ H' => Q .non H', rt := Q } (start N_end_request vs) H) : C8.Cal P w K mg base 1 "end_request" sp [] :=
  C8.cal0 F b .nil sc_end_request len fun cdv A outer s0 H vs Q E hr h => ⟨t_end_request K T, (pss_cons (ps_fld (pv 1) (pv 2) rfl)
      (pss_one (ps_fld (pv 1) (pe_fld (pv 0) rfl) rfl))), rd vs H Q E h⟩
abbrev s_queue_execution : Stmt := top 58
abbrev N_queue_execution : List Str := ["server", "ask", "program", "execution"]
theorem sc_queue_execution : FnScope N_queue_execution ["server", "ask"] (C8.fnScope s_queue_execution) := C8.fnScope_by (by decide +kernel)
def t_queue_execution (K : PySem.W.Frag) (T : Cls7) (sp_Execution : Sp) : TS := (tSeq (tAsg (tFld K (tOp (rIxL K) (tFld K (tVar 0) "methods") (tFld K (tVar 1) "method")) "program") (gName 2))
    (tSeq (tAsg (tMake T.E sp_Execution [] C8.E0 (tCons (tCB (Evl.rLenS K) (tCons (tFld K (tVar 0) "executions") tNil)) (tCons (tVar 1) (tCons (tVar 2) tNil)))) (gName 3))
    (tSeq (tDrop (tBM K "list" rAppend (tFld K (tVar 0) "executions") (tCons (tVar 3) tNil)))
    (tRet (tVar 3)))))
theorem cal_queue_execution {f : Addr} {fd : FuncData} {sp : Sp} (F : C8.Def K mg "queue_execution" s_queue_execution f fd) (b : Binds K fd ["server", "ask"] []) (X : Txt K mg T B) {sp_Execution : Sp} (m_Execution : C8.Mak P w K mg base 3 "Execution" T.E sp_Execution []) (len : ∀ vs H Q E, sp vs H Q E → vs.length = 2)
    (rd : ∀ vs H Q E, sp vs H Q E → t_queue_execution K T sp_Execution { nx := fun _ H' => Q .non H', rt := Q } (start N_queue_execution vs) H) : C8.Cal P w K mg base 5 "queue_execution" sp [] :=
  C8.cal0 F b .nil sc_queue_execution len fun cdv A outer s0 H vs Q E hr h => ⟨t_queue_execution K T sp_Execution, (pss_cons (ps_set (i := 2) sc_queue_execution.nd rfl (Or.inl rfl) (pe_fld (pe_ix ix_list (pe_fld (pv 0) rfl) (pe_fld (pv 1) rfl) (fun _ _ => rfl)) rfl))
      (pss_cons (ps_set (i := 3) sc_queue_execution.nd rfl (Or.inl rfl) (C8.pe_mk m_Execution hr (by decide) (by rfl) (pa_cons (pe_callB call_len_seq (by rfl) X.b_len (by decide +kernel) (pa_cons (pe_fld (pv 0) rfl) pa_nil)) (pa_cons (pv 1) (pa_cons (pv 2) pa_nil)))))
      (pss_cons (ps_expr (pe_bm PySem.F.plainAttrs_list PySem.F.slot_list_append PySem.F.type_list_append mt_append (pe_fld (pv 0) rfl) (pa_cons (pv 3) pa_nil)))
      (pss_one (ps_ret (pv 3)))))), rd vs H Q E h⟩
abbrev s_starting_order : Stmt := top 59
abbrev N_starting_order : List Str := ["server", "queued"]
theorem sc_starting_order : FnScope N_starting_order ["server"] (C8.fnScope s_starting_order) := C8.fnScope_by (by decide +kernel)

abbrev s_earliest_deadline : Stmt := top 60
abbrev N_earliest_deadline : List Str := ["server", "execution", "request"]
theorem sc_earliest_deadline : FnScope N_earliest_deadline ["server", "execution"] (C8.fnScope s_earliest_deadline) := C8.fnScope_by (by decide +kernel)
def t_earliest_deadline (K : PySem.W.Frag) (T : Cls7) (sp_waiting_requests : Sp) : TS := (tRet (tCB (rMin K) (tCons (tLc (iList K (tCall sp_waiting_requests [] C8.E0 (tCons (tVar 0) (tCons (tVar 1) tNil)))) (gName 2) tYes (tFld K (tVar 2) "deadline") [2]) tNil)))
theorem cal_earliest_deadline {f : Addr} {fd : FuncData} {sp : Sp} (F : C8.Def K mg "earliest_deadline" s_earliest_deadline f fd) (b : Binds K fd ["server", "execution"] []) (X : Txt K mg T B) {sp_waiting_requests : Sp} (c_waiting_requests : C8.Cal P w K mg base 2 "waiting_requests" sp_waiting_requests []) (len : ∀ vs H Q E, sp vs H Q E → vs.length = 2)
    (rd : ∀ vs H Q E, sp vs H Q E → t_earliest_deadline K T sp_waiting_requests { nx := fun _ H' => Q .non H', rt := Q } (start N_earliest_deadline vs) H) : C8.Cal P w K mg base 3 "earliest_deadline" sp [] :=
  C8.cal0 F b .nil sc_earliest_deadline len fun cdv A outer s0 H vs Q E hr h => ⟨t_earliest_deadline K T sp_waiting_requests, (pss_one (ps_ret (pe_callB (cr_min (by rfl)) (by rfl) X.b_min (by decide +kernel) (pa_cons (pe_lc (own := [("request", 2)]) (g := (gName 2)) (tt := tYes) (te := (tFld K (tVar 2) "deadline")) (by rfl) sc_earliest_deadline.nd (pi_list (C8.pe_c c_waiting_requests hr (by decide) (by rfl) (pa_cons (pv 0) (pa_cons (pv 1) pa_nil)))) (blkOk_by (own := [("request", 2)]) (N := N_earliest_deadline) (sc := C8.fnScope s_earliest_deadline) (by decide +kernel)) (fun _ _ _ _ _ => (pg_name (i := 2) sc_earliest_deadline.nd rfl (Or.inl rfl))) (fun _ _ _ _ _ => pts_nil) (fun _ _ _ _ _ => (pe_fld (pv 2) rfl))) pa_nil)))), rd vs H Q E h⟩
abbrev s_finish : Stmt := top 63
abbrev N_finish : List Str := ["server", "execution", "status"]
theorem sc_finish : FnScope N_finish ["server", "execution", "status"] (C8.fnScope s_finish) := C8.fnScope_by (by decide +kernel)
def t_finish (K : PySem.W.Frag) (T : Cls7) : TS := (tSeq (sFld K (tVar 1) (tC (.int 2)) "state")
    (tSeq (sFld K (tVar 1) (tVar 2) "status")
    (sFld K (tVar 1) (tFld K (tVar 0) "now") "finished_at")))
theorem cal_finish {f : Addr} {fd : FuncData} {sp : Sp} (F : C8.Def K mg "finish" s_finish f fd) (b : Binds K fd ["server", "execution", "status"] []) (X : Txt K mg T B) (len : ∀ vs H Q E, sp vs H Q E → vs.length = 3)
    (rd : ∀ vs H Q E, sp vs H Q E → t_finish K T { nx := fun _ H' => Q .non H', rt := Q } (start N_finish vs) H) : C8.Cal P w K mg base 1 "finish" sp [] :=
  C8.cal0 F b .nil sc_finish len fun cdv A outer s0 H vs Q E hr h => ⟨t_finish K T, (pss_cons (ps_fld (pv 1) (C8.pe_gc (by rfl) X.g_FINISHED) rfl)
      (pss_cons (ps_fld (pv 1) (pv 2) rfl)
      (pss_one (ps_fld (pv 1) (pe_fld (pv 0) rfl) rfl)))), rd vs H Q E h⟩
abbrev s_resume : Stmt := top 62
abbrev N_resume : List Str := ["server", "execution", "status", "service_time", "request"]
theorem sc_resume : FnScope N_resume ["server", "execution"] (C8.fnScope s_resume) := C8.fnScope_by (by decide +kernel)
def t_resume (K : PySem.W.Frag) (T : Cls7) (sp_execute : Sp) (sp_finish : Sp) (sp_waiting_requests : Sp) (sp_end_request : Sp) : TS := (tSeq (tAsg (tCall sp_execute [] C8.E0 (tCons (tVar 0) (tCons (tVar 1) tNil))) (gName 2))
    (tSeq (tIfS (tTest (tOp rIsNon (tVar 2) (tC .non))) tRetN tNext)
    (tSeq (tAsg (tOp rMinus (tFld K (tVar 0) "now") (tFld K (tVar 1) "started_at")) (gName 3))
    (tSeq (sFld K (tVar 0) (tOp rMinus (tOp rPlus (tFld K (tVar 0) "average") (tVar 3)) (tOp rDiv (tFld K (tVar 0) "average") (tC (.int 8)))) "average")
    (tSeq (tDrop (tCall sp_finish [] C8.E0 (tCons (tVar 0) (tCons (tVar 1) (tCons (tVar 2) tNil)))))
    (tFor (iList K (tCall sp_waiting_requests [] C8.E0 (tCons (tVar 0) (tCons (tVar 1) tNil)))) (gName 4) (tDrop (tCall sp_end_request [] C8.E0 (tCons (tVar 0) (tCons (tVar 4) (tCons (tVar 2) tNil)))))))))))
theorem cal_resume {f : Addr} {fd : FuncData} {sp : Sp} (F : C8.Def K mg "resume" s_resume f fd) (b : Binds K fd ["server", "execution"] []) (X : Txt K mg T B) {sp_execute : Sp} (c_execute : C8.Cal P w K mg base 3 "execute" sp_execute []) {sp_finish : Sp} (c_finish : C8.Cal P w K mg base 1 "finish" sp_finish []) {sp_waiting_requests : Sp} (c_waiting_requests : C8.Cal P w K mg base 2 "waiting_requests" sp_waiting_requests []) {sp_end_request : Sp} (c_end_request : C8.Cal P w K mg base 1 "end_request" sp_end_request []) (len : ∀ vs H Q E, sp vs H Q E → vs.length = 2)
    (rd : ∀ vs H Q E, sp vs H Q E → t_resume K T sp_execute sp_finish sp_waiting_requests sp_end_request { nx := fun _ H' => Q .non H', rt := Q } (start N_resume vs) H) : C8.Cal P w K mg base 4 "resume" sp [] :=
  C8.cal0 F b .nil sc_resume len fun cdv A outer s0 H vs Q E hr h => ⟨t_resume K T sp_execute sp_finish sp_waiting_requests sp_end_request, (pss_cons (ps_set (i := 2) sc_resume.nd rfl (Or.inl rfl) (C8.pe_c c_execute hr (by decide) (by rfl) (pa_cons (pv 0) (pa_cons (pv 1) pa_nil))))
      (pss_cons (ps_if (pt_cmpR op_isN (pv 2) pe_non (nomark _)) (pss_one ps_retN) pss_nil)
      (pss_cons (ps_set (i := 3) sc_resume.nd rfl (Or.inl rfl) (pe_op op_sub (pe_fld (pv 0) rfl) (pe_fld (pv 1) rfl)))
      (pss_cons (ps_fld (pv 0) (pe_op op_sub (pe_op op_add (pe_fld (pv 0) rfl) (pv 3)) (pe_op op_fdiv (pe_fld (pv 0) rfl) pe_int)) rfl)
      (pss_cons (ps_expr (C8.pe_c c_finish hr (by decide) (by rfl) (pa_cons (pv 0) (pa_cons (pv 1) (pa_cons (pv 2) pa_nil)))))
      (pss_one (ps_for PassesOwn.never rfl (pi_list (C8.pe_c c_waiting_requests hr (by decide) (by rfl) (pa_cons (pv 0) (pa_cons (pv 1) pa_nil)))) (pg_name (i := 4) sc_resume.nd rfl (Or.inl rfl)) (pss_one (ps_expr (C8.pe_c c_end_request hr (by decide) (by rfl) (pa_cons (pv 0) (pa_cons (pv 4) (pa_cons (pv 2) pa_nil))))))))))))), rd vs H Q E h⟩
abbrev s_fill_slots : Stmt := top 61
abbrev N_fill_slots : List Str := ["server", "order", "execution"]
theorem sc_fill_slots : FnScope N_fill_slots ["server"] (C8.fnScope s_fill_slots) := C8.fnScope_by (by decide +kernel)
def t_fill_slots (K : PySem.W.Frag) (T : Cls7) (sp_starting_order : Sp) (sp_has_free_slot : Sp) (sp_resume : Sp) : TS := (tSeq (tAsg (tCall sp_starting_order [] C8.E0 (tCons (tVar 0) tNil)) (gName 1))
    (tWhile (tAnd (tTest (tOp rGt (tCB (Evl.rLenS K) (tCons (tVar 1) tNil)) (tC (.int 0)))) (tB (tCall sp_has_free_slot [] C8.E0 (tCons (tVar 0) tNil)))) (tSeq (tAsg (tOp (rIxL K) (tVar 1) (tC (.int 0))) (gName 2))
    (tSeq (sFld K (tVar 2) (tC (.int 1)) "state")
    (tSeq (sFld K (tVar 2) (tFld K (tVar 0) "now") "started_at")
    (tSeq (tDrop (tCall sp_resume [] C8.E0 (tCons (tVar 0) (tCons (tVar 2) tNil))))
    (tAsg (tCall sp_starting_order [] C8.E0 (tCons (tVar 0) tNil)) (gName 1))))))))
theorem cal_fill_slots {f : Addr} {fd : FuncData} {sp : Sp} (F : C8.Def K mg "fill_slots" s_fill_slots f fd) (b : Binds K fd ["server"] []) (X : Txt K mg T B) {sp_starting_order : Sp} (c_starting_order : C8.Cal P w K mg base 6 "starting_order" sp_starting_order []) {sp_has_free_slot : Sp} (c_has_free_slot : C8.Cal P w K mg base 2 "has_free_slot" sp_has_free_slot []) {sp_resume : Sp} (c_resume : C8.Cal P w K mg base 4 "resume" sp_resume []) (len : ∀ vs H Q E, sp vs H Q E → vs.length = 1)
    (rd : ∀ vs H Q E, sp vs H Q E → t_fill_slots K T sp_starting_order sp_has_free_slot sp_resume { nx := fun _ H' => Q .non H', rt := Q } (start N_fill_slots vs) H) : C8.Cal P w K mg base 7 "fill_slots" sp [] :=
  C8.cal0 F b .nil sc_fill_slots len fun cdv A outer s0 H vs Q E hr h => ⟨t_fill_slots K T sp_starting_order sp_has_free_slot sp_resume, (pss_cons (ps_set (i := 1) sc_fill_slots.nd rfl (Or.inl rfl) (C8.pe_c c_starting_order hr (by decide) (by rfl) (pa_cons (pv 0) pa_nil)))
      (pss_one (ps_while PassesOwn.never (PW.pt (pw_and (pt_cmpR op_gt (pe_callB call_len_seq (by rfl) X.b_len (by decide +kernel) (pa_cons (pv 1) pa_nil)) pe_int (nomark _)) (pw_and1 (pt_val (C8.pe_c c_has_free_slot hr (by decide) (by rfl) (pa_cons (pv 0) pa_nil)))))) (pss_cons (ps_set (i := 2) sc_fill_slots.nd rfl (Or.inl rfl) (pe_ix ix_list (pv 1) pe_int (fun _ _ => rfl)))
      (pss_cons (ps_fld (pv 2) (C8.pe_gc (by rfl) X.g_RUNNING) rfl)
      (pss_cons (ps_fld (pv 2) (pe_fld (pv 0) rfl) rfl)
      (pss_cons (ps_expr (C8.pe_c c_resume hr (by decide) (by rfl) (pa_cons (pv 0) (pa_cons (pv 2) pa_nil))))
      (pss_one (ps_set (i := 1) sc_fill_slots.nd rfl (Or.inl rfl) (C8.pe_c c_starting_order hr (by decide) (by rfl) (pa_cons (pv 0) pa_nil))))))))))), rd vs H Q E h⟩
abbrev s_drop : Stmt := top 66
abbrev N_drop : List Str := ["server", "execution"]
theorem sc_drop : FnScope N_drop ["server", "execution"] (C8.fnScope s_drop) := C8.fnScope_by (by decide +kernel)
def t_drop (K : PySem.W.Frag) (T : Cls7) : TS := (tSeq (sFld K (tVar 1) (tC (.int 3)) "state")
    (sFld K (tVar 1) (tFld K (tVar 0) "now") "finished_at"))
theorem cal_drop {f : Addr} {fd : FuncData} {sp : Sp} (F : C8.Def K mg "drop" s_drop f fd) (b : Binds K fd ["server", "execution"] []) (X : Txt K mg T B) (len : ∀ vs H Q E, sp vs H Q E → vs.length = 2)
    (rd : ∀ vs H Q E, sp vs H Q E → t_drop K T { nx := fun _ H' => Q .non H', rt := Q } (start N_drop vs) H) : C8.Cal P w K mg base 1 "drop" sp [] :=
  C8.cal0 F b .nil sc_drop len fun cdv A outer s0 H vs Q E hr h => ⟨t_drop K T, (pss_cons (ps_fld (pv 1) (C8.pe_gc (by rfl) X.g_DROPPED) rfl)
      (pss_one (ps_fld (pv 1) (pe_fld (pv 0) rfl) rfl))), rd vs H Q E h⟩
abbrev s_abandon : Stmt := top 65
abbrev N_abandon : List Str := ["server", "execution"]
theorem sc_abandon : FnScope N_abandon ["server", "execution"] (C8.fnScope s_abandon) := C8.fnScope_by (by decide +kernel)
def t_abandon (K : PySem.W.Frag) (T : Cls7) (sp_drop : Sp) (sp_finish : Sp) : TS := (tIfS (tTest (tOp rEq (tFld K (tVar 1) "state") (tC (.int 0)))) (tDrop (tCall sp_drop [] C8.E0 (tCons (tVar 0) (tCons (tVar 1) tNil)))) (tIfS (tTest (tOp rEq (tFld K (tVar 1) "key") (tC (.int 0)))) (tDrop (tCall sp_finish [] C8.E0 (tCons (tVar 0) (tCons (tVar 1) (tCons (tC (.int 1)) tNil))))) tNext))
theorem cal_abandon {f : Addr} {fd : FuncData} {sp : Sp} (F : C8.Def K mg "abandon" s_abandon f fd) (b : Binds K fd ["server", "execution"] []) (X : Txt K mg T B) {sp_drop : Sp} (c_drop : C8.Cal P w K mg base 1 "drop" sp_drop []) {sp_finish : Sp} (c_finish : C8.Cal P w K mg base 1 "finish" sp_finish []) (len : ∀ vs H Q E, sp vs H Q E → vs.length = 2)
    (rd : ∀ vs H Q E, sp vs H Q E → t_abandon K T sp_drop sp_finish { nx := fun _ H' => Q .non H', rt := Q } (start N_abandon vs) H) : C8.Cal P w K mg base 2 "abandon" sp [] :=
  C8.cal0 F b .nil sc_abandon len fun cdv A outer s0 H vs Q E hr h => ⟨t_abandon K T sp_drop sp_finish, (pss_one (ps_if (pt_cmpR op_eq (pe_fld (pv 1) rfl) (C8.pe_gc (by rfl) X.g_QUEUED) (nomark _)) (pss_one (ps_expr (C8.pe_c c_drop hr (by decide) (by rfl) (pa_cons (pv 0) (pa_cons (pv 1) pa_nil))))) (pss_one (ps_if (pt_cmpR op_eq (pe_fld (pv 1) rfl) (C8.pe_gc (by rfl) X.g_NO_KEY) (nomark _)) (pss_one (ps_expr (C8.pe_c c_finish hr (by decide) (by rfl) (pa_cons (pv 0) (pa_cons (pv 1) (pa_cons (C8.pe_gc (by rfl) X.g_CANCELLED) pa_nil)))))) pss_nil)))), rd vs H Q E h⟩
abbrev s_leave : Stmt := top 64
abbrev N_leave : List Str := ["server", "request", "status", "execution"]
theorem sc_leave : FnScope N_leave ["server", "request", "status"] (C8.fnScope s_leave) := C8.fnScope_by (by decide +kernel)
def t_leave (K : PySem.W.Frag) (T : Cls7) (sp_end_request : Sp) (sp_waiting_requests : Sp) (sp_abandon : Sp) (sp_fill_slots : Sp) : TS := (tSeq (tDrop (tCall sp_end_request [] C8.E0 (tCons (tVar 0) (tCons (tVar 1) (tCons (tVar 2) tNil)))))
    (tSeq (tAsg (tOp (rIxL K) (tFld K (tVar 0) "executions") (tFld K (tVar 1) "execution")) (gName 3))
    (tSeq (tIfS (tTest (tOp rEq (tCB (Evl.rLenS K) (tCons (tCall sp_waiting_requests [] C8.E0 (tCons (tVar 0) (tCons (tVar 3) tNil))) tNil)) (tC (.int 0)))) (tDrop (tCall sp_abandon [] C8.E0 (tCons (tVar 0) (tCons (tVar 3) tNil)))) tNext)
    (tDrop (tCall sp_fill_slots [] C8.E0 (tCons (tVar 0) tNil))))))
theorem cal_leave {f : Addr} {fd : FuncData} {sp : Sp} (F : C8.Def K mg "leave" s_leave f fd) (b : Binds K fd ["server", "request", "status"] []) (X : Txt K mg T B) {sp_end_request : Sp} (c_end_request : C8.Cal P w K mg base 1 "end_request" sp_end_request []) {sp_waiting_requests : Sp} (c_waiting_requests : C8.Cal P w K mg base 2 "waiting_requests" sp_waiting_requests []) {sp_abandon : Sp} (c_abandon : C8.Cal P w K mg base 2 "abandon" sp_abandon []) {sp_fill_slots : Sp} (c_fill_slots : C8.Cal P w K mg base 7 "fill_slots" sp_fill_slots []) (len : ∀ vs H Q E, sp vs H Q E → vs.length = 3)
    (rd : ∀ vs H Q E, sp vs H Q E → t_leave K T sp_end_request sp_waiting_requests sp_abandon sp_fill_slots { nx := fun _ H' => Q .non H', rt := Q } (start N_leave vs) H) : C8.Cal P w K mg base 8 "leave" sp [] :=
  C8.cal0 F b .nil sc_leave len fun cdv A outer s0 H vs Q E hr h => ⟨t_leave K T sp_end_request sp_waiting_requests sp_abandon sp_fill_slots, (pss_cons (ps_expr (C8.pe_c c_end_request hr (by decide) (by rfl) (pa_cons (pv 0) (pa_cons (pv 1) (pa_cons (pv 2) pa_nil)))))
      (pss_cons (ps_set (i := 3) sc_leave.nd rfl (Or.inl rfl) (pe_ix ix_list (pe_fld (pv 0) rfl) (pe_fld (pv 1) rfl) (fun _ _ => rfl)))
      (pss_cons (ps_if (pt_cmpR op_eq (pe_callB call_len_seq (by rfl) X.b_len (by decide +kernel) (pa_cons (C8.pe_c c_waiting_requests hr (by decide) (by rfl) (pa_cons (pv 0) (pa_cons (pv 3) pa_nil))) pa_nil)) pe_int (nomark _)) (pss_one (ps_expr (C8.pe_c c_abandon hr (by decide) (by rfl) (pa_cons (pv 0) (pa_cons (pv 3) pa_nil))))) pss_nil)
      (pss_one (ps_expr (C8.pe_c c_fill_slots hr (by decide) (by rfl) (pa_cons (pv 0) pa_nil))))))), rd vs H Q E h⟩
abbrev s_end_grace : Stmt := top 67
abbrev N_end_grace : List Str := ["server", "execution", "request"]
theorem sc_end_grace : FnScope N_end_grace ["server"] (C8.fnScope s_end_grace) := C8.fnScope_by (by decide +kernel)
def t_end_grace (K : PySem.W.Frag) (T : Cls7) (sp_in_state : Sp) (sp_drop : Sp) (sp_finish : Sp) (sp_open_requests : Sp) (sp_end_request : Sp) : TS := (tSeq (sFld K (tVar 0) (tC (.bl true)) "grace_over")
    (tSeq (tFor (iList K (tCall sp_in_state [] C8.E0 (tCons (tVar 0) (tCons (tC (.int 0)) tNil)))) (gName 1) (tDrop (tCall sp_drop [] C8.E0 (tCons (tVar 0) (tCons (tVar 1) tNil)))))
    (tSeq (tFor (iList K (tCall sp_in_state [] C8.E0 (tCons (tVar 0) (tCons (tC (.int 1)) tNil)))) (gName 1) (tDrop (tCall sp_finish [] C8.E0 (tCons (tVar 0) (tCons (tVar 1) (tCons (tC (.int 1)) tNil))))))
    (tFor (iList K (tCall sp_open_requests [] C8.E0 (tCons (tVar 0) tNil))) (gName 2) (tDrop (tCall sp_end_request [] C8.E0 (tCons (tVar 0) (tCons (tVar 2) (tCons (tC (.int 1)) tNil)))))))))
theorem cal_end_grace {f : Addr} {fd : FuncData} {sp : Sp} (F : C8.Def K mg "end_grace" s_end_grace f fd) (b : Binds K fd ["server"] []) (X : Txt K mg T B) {sp_in_state : Sp} (c_in_state : C8.Cal P w K mg base 1 "in_state" sp_in_state []) {sp_drop : Sp} (c_drop : C8.Cal P w K mg base 1 "drop" sp_drop []) {sp_finish : Sp} (c_finish : C8.Cal P w K mg base 1 "finish" sp_finish []) {sp_open_requests : Sp} (c_open_requests : C8.Cal P w K mg base 1 "open_requests" sp_open_requests []) {sp_end_request : Sp} (c_end_request : C8.Cal P w K mg base 1 "end_request" sp_end_request []) (len : ∀ vs H Q E, sp vs H Q E → vs.length = 1)
    (rd : ∀ vs H Q E, sp vs H Q E → t_end_grace K T sp_in_state sp_drop sp_finish sp_open_requests sp_end_request { nx := fun _ H' => Q .non H', rt := Q } (start N_end_grace vs) H) : C8.Cal P w K mg base 2 "end_grace" sp [] :=
  C8.cal0 F b .nil sc_end_grace len fun cdv A outer s0 H vs Q E hr h => ⟨t_end_grace K T sp_in_state sp_drop sp_finish sp_open_requests sp_end_request, (pss_cons (ps_fld (pv 0) pe_bl rfl)
      (pss_cons (ps_for PassesOwn.never rfl (pi_list (C8.pe_c c_in_state hr (by decide) (by rfl) (pa_cons (pv 0) (pa_cons (C8.pe_gc (by rfl) X.g_QUEUED) pa_nil)))) (pg_name (i := 1) sc_end_grace.nd rfl (Or.inl rfl)) (pss_one (ps_expr (C8.pe_c c_drop hr (by decide) (by rfl) (pa_cons (pv 0) (pa_cons (pv 1) pa_nil))))))
      (pss_cons (ps_for PassesOwn.never rfl (pi_list (C8.pe_c c_in_state hr (by decide) (by rfl) (pa_cons (pv 0) (pa_cons (C8.pe_gc (by rfl) X.g_RUNNING) pa_nil)))) (pg_name (i := 1) sc_end_grace.nd rfl (Or.inl rfl)) (pss_one (ps_expr (C8.pe_c c_finish hr (by decide) (by rfl) (pa_cons (pv 0) (pa_cons (pv 1) (pa_cons (C8.pe_gc (by rfl) X.g_CANCELLED) pa_nil)))))))
      (pss_one (ps_for PassesOwn.never rfl (pi_list (C8.pe_c c_open_requests hr (by decide) (by rfl) (pa_cons (pv 0) pa_nil))) (pg_name (i := 2) sc_end_grace.nd rfl (Or.inl rfl)) (pss_one (ps_expr (C8.pe_c c_end_request hr (by decide) (by rfl) (pa_cons (pv 0) (pa_cons (pv 2) (pa_cons (C8.pe_gc (by rfl) X.g_CANCELLED) pa_nil))))))))))), rd vs H Q E h⟩
abbrev s_status_of_stranger : Stmt := top 70
abbrev N_status_of_stranger : List Str := ["server", "ask", "client", "required"]
theorem sc_status_of_stranger : FnScope N_status_of_stranger ["server", "ask"] (C8.fnScope s_status_of_stranger) := C8.fnScope_by (by decide +kernel)
def t_status_of_stranger (K : PySem.W.Frag) (T : Cls7) : TS := (tSeq (tAsg (tOp (rIxL K) (tFld K (tVar 0) "clients") (tFld K (tVar 1) "client")) (gName 2))
    (tSeq (tIfS (tTest (tOp rNotNon (tFld K (tVar 0) "grace_end") (tC .non))) (tRet (tC (.int 100))) tNext)
    (tSeq (tIfS (tTest (tOp rNe (tFld K (tVar 2) "token") (tFld K (tVar 1) "token"))) (tRet (tC (.int 16))) tNext)
    (tSeq (tIfS (tTest (tOp rGe (tFld K (tVar 1) "method") (tCB (Evl.rLenS K) (tCons (tFld K (tVar 0) "methods") tNil)))) (tRet (tC (.int 12))) tNext)
    (tSeq (tAsg (tFld K (tOp (rIxL K) (tFld K (tVar 0) "methods") (tFld K (tVar 1) "method")) "roles") (gName 3))
    (tSeq (tIfS (tTest (tOp rNe (tOp rBits (tFld K (tVar 2) "roles") (tVar 3)) (tVar 3))) (tRet (tC (.int 7))) tNext)
    (tRet (tC .non))))))))
theorem cal_status_of_stranger {f : Addr} {fd : FuncData} {sp : Sp} (F : C8.Def K mg "status_of_stranger" s_status_of_stranger f fd) (b : Binds K fd ["server", "ask"] []) (X : Txt K mg T B) (len : ∀ vs H Q E, sp vs H Q E → vs.length = 2)
    (rd : ∀ vs H Q E, sp vs H Q E → t_status_of_stranger K T { nx := fun _ H' => Q .non H', rt := Q } (start N_status_of_stranger vs) H) : C8.Cal P w K mg base 1 "status_of_stranger" sp [] :=
  C8.cal0 F b .nil sc_status_of_stranger len fun cdv A outer s0 H vs Q E hr h => ⟨t_status_of_stranger K T, (pss_cons (ps_set (i := 2) sc_status_of_stranger.nd rfl (Or.inl rfl) (pe_ix ix_list (pe_fld (pv 0) rfl) (pe_fld (pv 1) rfl) (fun _ _ => rfl)))
      (pss_cons (ps_if (pt_cmpR op_notN (pe_fld (pv 0) rfl) pe_non (nomark _)) (pss_one (ps_ret (C8.pe_gc (by rfl) X.g_REFUSED))) pss_nil)
      (pss_cons (ps_if (pt_cmpR op_ne (pe_fld (pv 2) rfl) (pe_fld (pv 1) rfl) (nomark _)) (pss_one (ps_ret (C8.pe_gc (by rfl) X.g_UNAUTHENTICATED))) pss_nil)
      (pss_cons (ps_if (pt_cmpR op_ge (pe_fld (pv 1) rfl) (pe_callB call_len_seq (by rfl) X.b_len (by decide +kernel) (pa_cons (pe_fld (pv 0) rfl) pa_nil)) (nomark _)) (pss_one (ps_ret (C8.pe_gc (by rfl) X.g_UNIMPLEMENTED))) pss_nil)
      (pss_cons (ps_set (i := 3) sc_status_of_stranger.nd rfl (Or.inl rfl) (pe_fld (pe_ix ix_list (pe_fld (pv 0) rfl) (pe_fld (pv 1) rfl) (fun _ _ => rfl)) rfl))
      (pss_cons (ps_if (pt_cmpR op_ne (pe_op op_and (pe_fld (pv 2) rfl) (pv 3)) (pv 3) (nomark _)) (pss_one (ps_ret (C8.pe_gc (by rfl) X.g_PERMISSION_DENIED))) pss_nil)
      (pss_one (ps_ret pe_non)))))))), rd vs H Q E h⟩
abbrev s_turn_away : Stmt := top 73
abbrev N_turn_away : List Str := ["server", "request", "status", "retry_delay"]
theorem sc_turn_away : FnScope N_turn_away ["server", "request", "status", "retry_delay"] (C8.fnScope s_turn_away) := C8.fnScope_by (by decide +kernel)
def t_turn_away (K : PySem.W.Frag) (T : Cls7) (sp_end_request : Sp) : TS := (tSeq (tDrop (tCall sp_end_request [] C8.E0 (tCons (tVar 0) (tCons (tVar 1) (tCons (tVar 2) tNil)))))
    (sFld K (tVar 1) (tVar 3) "retry_delay"))
theorem cal_turn_away {f : Addr} {fd : FuncData} {sp : Sp} (F : C8.Def K mg "turn_away" s_turn_away f fd) (b : Binds K fd ["server", "request", "status", "retry_delay"] []) (X : Txt K mg T B) {sp_end_request : Sp} (c_end_request : C8.Cal P w K mg base 1 "end_request" sp_end_request []) (len : ∀ vs H Q E, sp vs H Q E → vs.length = 4)
    (rd : ∀ vs H Q E, sp vs H Q E → t_turn_away K T sp_end_request { nx := fun _ H' => Q .non H', rt := Q } (start N_turn_away vs) H) : C8.Cal P w K mg base 2 "turn_away" sp [] :=
  C8.cal0 F b .nil sc_turn_away len fun cdv A outer s0 H vs Q E hr h => ⟨t_turn_away K T sp_end_request, (pss_cons (ps_expr (C8.pe_c c_end_request hr (by decide) (by rfl) (pa_cons (pv 0) (pa_cons (pv 1) (pa_cons (pv 2) pa_nil)))))
      (pss_one (ps_fld (pv 1) (pv 3) rfl))), rd vs H Q E h⟩
abbrev s_quota_delay : Stmt := top 74
abbrev N_quota_delay : List Str := ["client", "quota", "price"]
theorem sc_quota_delay : FnScope N_quota_delay ["client", "quota", "price"] (C8.fnScope s_quota_delay) := C8.fnScope_by (by decide +kernel)
def t_quota_delay (K : PySem.W.Frag) (T : Cls7) : TS := (tSeq (tIfS (tOr (tTest (tOp rEq (tFld K (tVar 0) "refill") (tC (.int 0)))) (tTest (tOp rGt (tVar 2) (tOp rTimes (tFld K (tVar 0) "capacity") (tC (.int 1000)))))) (tRet (tC (.int 0))) tNext)
    (tRet (tOp rDiv (tOp rMinus (tOp rPlus (tOp rMinus (tVar 2) (tVar 1)) (tFld K (tVar 0) "refill")) (tC (.int 1))) (tFld K (tVar 0) "refill"))))
theorem cal_quota_delay {f : Addr} {fd : FuncData} {sp : Sp} (F : C8.Def K mg "quota_delay" s_quota_delay f fd) (b : Binds K fd ["client", "quota", "price"] []) (X : Txt K mg T B) (len : ∀ vs H Q E, sp vs H Q E → vs.length = 3)
    (rd : ∀ vs H Q E, sp vs H Q E → t_quota_delay K T { nx := fun _ H' => Q .non H', rt := Q } (start N_quota_delay vs) H) : C8.Cal P w K mg base 1 "quota_delay" sp [] :=
  C8.cal0 F b .nil sc_quota_delay len fun cdv A outer s0 H vs Q E hr h => ⟨t_quota_delay K T, (pss_cons (ps_if (PW.pt (pw_or (pt_cmpR op_eq (pe_fld (pv 0) rfl) pe_int (nomark _)) (pw_or1 (pt_cmpR op_gt (pv 2) (pe_op op_mul (pe_fld (pv 0) rfl) pe_int) (nomark _))))) (pss_one (ps_ret pe_int)) pss_nil)
      (pss_one (ps_ret (pe_op op_fdiv (pe_op op_sub (pe_op op_add (pe_op op_sub (pv 2) (pv 1)) (pe_fld (pv 0) rfl)) pe_int) (pe_fld (pv 0) rfl))))), rd vs H Q E h⟩
abbrev s_is_full : Stmt := top 75
abbrev N_is_full : List Str := ["server"]
theorem sc_is_full : FnScope N_is_full ["server"] (C8.fnScope s_is_full) := C8.fnScope_by (by decide +kernel)
def t_is_full (K : PySem.W.Frag) (T : Cls7) (sp_has_free_slot : Sp) (sp_in_state : Sp) : TS := (tRet (tAndV (tNotV (tCall sp_has_free_slot [] C8.E0 (tCons (tVar 0) tNil))) (tOp rGe (tCB (Evl.rLenS K) (tCons (tCall sp_in_state [] C8.E0 (tCons (tVar 0) (tCons (tC (.int 0)) tNil))) tNil)) (tFld K (tVar 0) "queue_limit"))))
theorem cal_is_full {f : Addr} {fd : FuncData} {sp : Sp} (F : C8.Def K mg "is_full" s_is_full f fd) (b : Binds K fd ["server"] []) (X : Txt K mg T B) {sp_has_free_slot : Sp} (c_has_free_slot : C8.Cal P w K mg base 2 "has_free_slot" sp_has_free_slot []) {sp_in_state : Sp} (c_in_state : C8.Cal P w K mg base 1 "in_state" sp_in_state []) (len : ∀ vs H Q E, sp vs H Q E → vs.length = 1)
    (rd : ∀ vs H Q E, sp vs H Q E → t_is_full K T sp_has_free_slot sp_in_state { nx := fun _ H' => Q .non H', rt := Q } (start N_is_full vs) H) : C8.Cal P w K mg base 3 "is_full" sp [] :=
  C8.cal0 F b .nil sc_is_full len fun cdv A outer s0 H vs Q E hr h => ⟨t_is_full K T sp_has_free_slot sp_in_state, (pss_one (ps_ret (pe_and (pe_not (C8.pe_c c_has_free_slot hr (by decide) (by rfl) (pa_cons (pv 0) pa_nil))) (pe_one (pe_cmpR op_ge (pe_callB call_len_seq (by rfl) X.b_len (by decide +kernel) (pa_cons (C8.pe_c c_in_state hr (by decide) (by rfl) (pa_cons (pv 0) (pa_cons (C8.pe_gc (by rfl) X.g_QUEUED) pa_nil))) pa_nil)) (pe_fld (pv 0) rfl) (nomark _)))))), rd vs H Q E h⟩
abbrev s_admit : Stmt := top 72
abbrev N_admit : List Str := ["server", "request", "ask", "client", "price", "quota", "wait"]
theorem sc_admit : FnScope N_admit ["server", "request", "ask"] (C8.fnScope s_admit) := C8.fnScope_by (by decide +kernel)
def t_admit (K : PySem.W.Frag) (T : Cls7) (sp_present_quota : Sp) (sp_turn_away : Sp) (sp_quota_delay : Sp) (sp_estimated_wait : Sp) (sp_is_full : Sp) (sp_queue_execution : Sp) (sp_fill_slots : Sp) : TS := (tSeq (tAsg (tOp (rIxL K) (tFld K (tVar 0) "clients") (tFld K (tVar 2) "client")) (gName 3))
    (tSeq (tAsg (tOp rTimes (tFld K (tOp (rIxL K) (tFld K (tVar 0) "methods") (tFld K (tVar 2) "method")) "cost") (tC (.int 1000))) (gName 4))
    (tSeq (tAsg (tCall sp_present_quota [] C8.E0 (tCons (tVar 3) (tCons (tFld K (tVar 0) "now") tNil))) (gName 5))
    (tSeq (tIfS (tTest (tOp rLt (tVar 5) (tVar 4))) (tSeq (tDrop (tCall sp_turn_away [] C8.E0 (tCons (tVar 0) (tCons (tVar 1) (tCons (tC (.int 8)) (tCons (tCall sp_quota_delay [] C8.E0 (tCons (tVar 3) (tCons (tVar 5) (tCons (tVar 4) tNil)))) tNil))))))
    tRetN) tNext)
    (tSeq (tAsg (tCall sp_estimated_wait [] C8.E0 (tCons (tVar 0) tNil)) (gName 6))
    (tSeq (tIfS (tOr (tB (tCall sp_is_full [] C8.E0 (tCons (tVar 0) tNil))) (tAnd (tTest (tOp rEq (tFld K (tVar 0) "shedding") (tC (.int 1)))) (tTest (tOp rLe (tFld K (tVar 2) "timeout") (tVar 6))))) (tSeq (tDrop (tCall sp_turn_away [] C8.E0 (tCons (tVar 0) (tCons (tVar 1) (tCons (tC (.int 100)) (tCons (tVar 6) tNil))))))
    tRetN) tNext)
    (tSeq (sFld K (tVar 3) (tOp rMinus (tVar 5) (tVar 4)) "quota")
    (tSeq (sFld K (tVar 3) (tFld K (tVar 0) "now") "quota_at")
    (tSeq (sFld K (tVar 1) (tFld K (tCall sp_queue_execution [] C8.E0 (tCons (tVar 0) (tCons (tVar 2) tNil))) "number") "execution")
    (tDrop (tCall sp_fill_slots [] C8.E0 (tCons (tVar 0) tNil))))))))))))
theorem cal_admit {f : Addr} {fd : FuncData} {sp : Sp} (F : C8.Def K mg "admit" s_admit f fd) (b : Binds K fd ["server", "request", "ask"] []) (X : Txt K mg T B) {sp_present_quota : Sp} (c_present_quota : C8.Cal P w K mg base 1 "present_quota" sp_present_quota []) {sp_turn_away : Sp} (c_turn_away : C8.Cal P w K mg base 2 "turn_away" sp_turn_away []) {sp_quota_delay : Sp} (c_quota_delay : C8.Cal P w K mg base 1 "quota_delay" sp_quota_delay []) {sp_estimated_wait : Sp} (c_estimated_wait : C8.Cal P w K mg base 3 "estimated_wait" sp_estimated_wait []) {sp_is_full : Sp} (c_is_full : C8.Cal P w K mg base 3 "is_full" sp_is_full []) {sp_queue_execution : Sp} (c_queue_execution : C8.Cal P w K mg base 5 "queue_execution" sp_queue_execution []) {sp_fill_slots : Sp} (c_fill_slots : C8.Cal P w K mg base 7 "fill_slots" sp_fill_slots []) (len : ∀ vs H Q E, sp vs H Q E → vs.length = 3)
    (rd : ∀ vs H Q E, sp vs H Q E → t_admit K T sp_present_quota sp_turn_away sp_quota_delay sp_estimated_wait sp_is_full sp_queue_execution sp_fill_slots { nx := fun _ H' => Q .non H', rt := Q } (start N_admit vs) H) : C8.Cal P w K mg base 8 "admit" sp [] :=
  C8.cal0 F b .nil sc_admit len fun cdv A outer s0 H vs Q E hr h => ⟨t_admit K T sp_present_quota sp_turn_away sp_quota_delay sp_estimated_wait sp_is_full sp_queue_execution sp_fill_slots, (pss_cons (ps_set (i := 3) sc_admit.nd rfl (Or.inl rfl) (pe_ix ix_list (pe_fld (pv 0) rfl) (pe_fld (pv 2) rfl) (fun _ _ => rfl)))
      (pss_cons (ps_set (i := 4) sc_admit.nd rfl (Or.inl rfl) (pe_op op_mul (pe_fld (pe_ix ix_list (pe_fld (pv 0) rfl) (pe_fld (pv 2) rfl) (fun _ _ => rfl)) rfl) pe_int))
      (pss_cons (ps_set (i := 5) sc_admit.nd rfl (Or.inl rfl) (C8.pe_c c_present_quota hr (by decide) (by rfl) (pa_cons (pv 3) (pa_cons (pe_fld (pv 0) rfl) pa_nil))))
      (pss_cons (ps_if (pt_cmpR op_lt (pv 5) (pv 4) (nomark _)) (pss_cons (ps_expr (C8.pe_c c_turn_away hr (by decide) (by rfl) (pa_cons (pv 0) (pa_cons (pv 1) (pa_cons (C8.pe_gc (by rfl) X.g_EXHAUSTED) (pa_cons (C8.pe_c c_quota_delay hr (by decide) (by rfl) (pa_cons (pv 3) (pa_cons (pv 5) (pa_cons (pv 4) pa_nil)))) pa_nil))))))
      (pss_one ps_retN)) pss_nil)
      (pss_cons (ps_set (i := 6) sc_admit.nd rfl (Or.inl rfl) (C8.pe_c c_estimated_wait hr (by decide) (by rfl) (pa_cons (pv 0) pa_nil)))
      (pss_cons (ps_if (PW.pt (pw_or (pt_val (C8.pe_c c_is_full hr (by decide) (by rfl) (pa_cons (pv 0) pa_nil))) (pw_or1 (PW.pt (pw_and (pt_cmpR op_eq (pe_fld (pv 0) rfl) pe_int (nomark _)) (pw_and1 (pt_cmpR op_le (pe_fld (pv 2) rfl) (pv 6) (nomark _)))))))) (pss_cons (ps_expr (C8.pe_c c_turn_away hr (by decide) (by rfl) (pa_cons (pv 0) (pa_cons (pv 1) (pa_cons (C8.pe_gc (by rfl) X.g_REFUSED) (pa_cons (pv 6) pa_nil))))))
      (pss_one ps_retN)) pss_nil)
      (pss_cons (ps_fld (pv 3) (pe_op op_sub (pv 5) (pv 4)) rfl)
      (pss_cons (ps_fld (pv 3) (pe_fld (pv 0) rfl) rfl)
      (pss_cons (ps_fld (pv 1) (pe_fld (C8.pe_c c_queue_execution hr (by decide) (by rfl) (pa_cons (pv 0) (pa_cons (pv 2) pa_nil))) rfl) rfl)
      (pss_one (ps_expr (C8.pe_c c_fill_slots hr (by decide) (by rfl) (pa_cons (pv 0) pa_nil))))))))))))), rd vs H Q E h⟩
abbrev s_join : Stmt := top 71
abbrev N_join : List Str := ["server", "request", "ask", "shared"]
theorem sc_join : FnScope N_join ["server", "request", "ask", "shared"] (C8.fnScope s_join) := C8.fnScope_by (by decide +kernel)
def t_join (K : PySem.W.Frag) (T : Cls7) (sp_end_request : Sp) : TS := (tSeq (tIfS (tOr (tTest (tOp rNe (tFld K (tVar 3) "method") (tFld K (tVar 2) "method"))) (tTest (tOp (rNeD K) (tFld K (tVar 3) "payload") (tFld K (tVar 2) "payload")))) (tSeq (tDrop (tCall sp_end_request [] C8.E0 (tCons (tVar 0) (tCons (tVar 1) (tCons (tC (.int 3)) tNil)))))
    tRetN) tNext)
    (tSeq (sFld K (tVar 1) (tFld K (tVar 3) "number") "execution")
    (tSeq (sFld K (tVar 1) (tC (.int 1)) "joined")
    (tIfS (tTest (tOp rEq (tFld K (tVar 3) "state") (tC (.int 2)))) (tDrop (tCall sp_end_request [] C8.E0 (tCons (tVar 0) (tCons (tVar 1) (tCons (tFld K (tVar 3) "status") tNil))))) tNext))))
theorem cal_join {f : Addr} {fd : FuncData} {sp : Sp} (F : C8.Def K mg "join" s_join f fd) (b : Binds K fd ["server", "request", "ask", "shared"] []) (X : Txt K mg T B) {sp_end_request : Sp} (c_end_request : C8.Cal P w K mg base 1 "end_request" sp_end_request []) (len : ∀ vs H Q E, sp vs H Q E → vs.length = 4)
    (rd : ∀ vs H Q E, sp vs H Q E → t_join K T sp_end_request { nx := fun _ H' => Q .non H', rt := Q } (start N_join vs) H) : C8.Cal P w K mg base 2 "join" sp [] :=
  C8.cal0 F b .nil sc_join len fun cdv A outer s0 H vs Q E hr h => ⟨t_join K T sp_end_request, (pss_cons (ps_if (PW.pt (pw_or (pt_cmpR op_ne (pe_fld (pv 3) rfl) (pe_fld (pv 2) rfl) (nomark _)) (pw_or1 (pt_cmpR (op_neD hr.units) (pe_fld (pv 3) rfl) (pe_fld (pv 2) rfl) (nomark _))))) (pss_cons (ps_expr (C8.pe_c c_end_request hr (by decide) (by rfl) (pa_cons (pv 0) (pa_cons (pv 1) (pa_cons (C8.pe_gc (by rfl) X.g_INVALID) pa_nil)))))
      (pss_one ps_retN)) pss_nil)
      (pss_cons (ps_fld (pv 1) (pe_fld (pv 3) rfl) rfl)
      (pss_cons (ps_fld (pv 1) pe_int rfl)
      (pss_one (ps_if (pt_cmpR op_eq (pe_fld (pv 3) rfl) (C8.pe_gc (by rfl) X.g_FINISHED) (nomark _)) (pss_one (ps_expr (C8.pe_c c_end_request hr (by decide) (by rfl) (pa_cons (pv 0) (pa_cons (pv 1) (pa_cons (pe_fld (pv 3) rfl) pa_nil)))))) pss_nil))))), rd vs H Q E h⟩
abbrev s_arrive : Stmt := top 69
abbrev N_arrive : List Str := ["server", "ask", "request", "status", "shared"]
theorem sc_arrive : FnScope N_arrive ["server", "ask"] (C8.fnScope s_arrive) := C8.fnScope_by (by decide +kernel)
def t_arrive (K : PySem.W.Frag) (T : Cls7) (sp_Request : Sp) (sp_status_of_stranger : Sp) (sp_end_request : Sp) (sp_shared_execution : Sp) (sp_admit : Sp) (sp_join : Sp) : TS := (tSeq (tAsg (tMake T.R sp_Request [] C8.E0 (tCons (tCB (Evl.rLenS K) (tCons (tFld K (tVar 0) "requests") tNil)) (tCons (tFld K (tVar 1) "client") (tCons (tFld K (tVar 0) "now") (tCons (tOp rPlus (tFld K (tVar 0) "now") (tFld K (tVar 1) "timeout")) tNil))))) (gName 2))
    (tSeq (tDrop (tBM K "list" rAppend (tFld K (tVar 0) "requests") (tCons (tVar 2) tNil)))
    (tSeq (tAsg (tCall sp_status_of_stranger [] C8.E0 (tCons (tVar 0) (tCons (tVar 1) tNil))) (gName 3))
    (tSeq (tIfS (tTest (tOp rNotNon (tVar 3) (tC .non))) (tSeq (tDrop (tCall sp_end_request [] C8.E0 (tCons (tVar 0) (tCons (tVar 2) (tCons (tVar 3) tNil)))))
    (tRet (tVar 2))) tNext)
    (tSeq (tAsg (tCall sp_shared_execution [] C8.E0 (tCons (tVar 0) (tCons (tFld K (tVar 1) "client") (tCons (tFld K (tVar 1) "key") tNil)))) (gName 4))
    (tSeq (tIfS (tTest (tOp rIsNon (tVar 4) (tC .non))) (tDrop (tCall sp_admit [] C8.E0 (tCons (tVar 0) (tCons (tVar 2) (tCons (tVar 1) tNil))))) (tDrop (tCall sp_join [] C8.E0 (tCons (tVar 0) (tCons (tVar 2) (tCons (tVar 1) (tCons (tVar 4) tNil)))))))
    (tRet (tVar 2))))))))
theorem cal_arrive {f : Addr} {fd : FuncData} {sp : Sp} (F : C8.Def K mg "arrive" s_arrive f fd) (b : Binds K fd ["server", "ask"] []) (X : Txt K mg T B) {sp_Request : Sp} (m_Request : C8.Mak P w K mg base 1 "Request" T.R sp_Request []) {sp_status_of_stranger : Sp} (c_status_of_stranger : C8.Cal P w K mg base 1 "status_of_stranger" sp_status_of_stranger []) {sp_end_request : Sp} (c_end_request : C8.Cal P w K mg base 1 "end_request" sp_end_request []) {sp_shared_execution : Sp} (c_shared_execution : C8.Cal P w K mg base 2 "shared_execution" sp_shared_execution []) {sp_admit : Sp} (c_admit : C8.Cal P w K mg base 8 "admit" sp_admit []) {sp_join : Sp} (c_join : C8.Cal P w K mg base 2 "join" sp_join []) (len : ∀ vs H Q E, sp vs H Q E → vs.length = 2)
    (rd : ∀ vs H Q E, sp vs H Q E → t_arrive K T sp_Request sp_status_of_stranger sp_end_request sp_shared_execution sp_admit sp_join { nx := fun _ H' => Q .non H', rt := Q } (start N_arrive vs) H) : C8.Cal P w K mg base 9 "arrive" sp [] :=
  C8.cal0 F b .nil sc_arrive len fun cdv A outer s0 H vs Q E hr h => ⟨t_arrive K T sp_Request sp_status_of_stranger sp_end_request sp_shared_execution sp_admit sp_join, (pss_cons (ps_set (i := 2) sc_arrive.nd rfl (Or.inl rfl) (C8.pe_mk m_Request hr (by decide) (by rfl) (pa_cons (pe_callB call_len_seq (by rfl) X.b_len (by decide +kernel) (pa_cons (pe_fld (pv 0) rfl) pa_nil)) (pa_cons (pe_fld (pv 1) rfl) (pa_cons (pe_fld (pv 0) rfl) (pa_cons (pe_op op_add (pe_fld (pv 0) rfl) (pe_fld (pv 1) rfl)) pa_nil))))))
      (pss_cons (ps_expr (pe_bm PySem.F.plainAttrs_list PySem.F.slot_list_append PySem.F.type_list_append mt_append (pe_fld (pv 0) rfl) (pa_cons (pv 2) pa_nil)))
      (pss_cons (ps_set (i := 3) sc_arrive.nd rfl (Or.inl rfl) (C8.pe_c c_status_of_stranger hr (by decide) (by rfl) (pa_cons (pv 0) (pa_cons (pv 1) pa_nil))))
      (pss_cons (ps_if (pt_cmpR op_notN (pv 3) pe_non (nomark _)) (pss_cons (ps_expr (C8.pe_c c_end_request hr (by decide) (by rfl) (pa_cons (pv 0) (pa_cons (pv 2) (pa_cons (pv 3) pa_nil)))))
      (pss_one (ps_ret (pv 2)))) pss_nil)
      (pss_cons (ps_set (i := 4) sc_arrive.nd rfl (Or.inl rfl) (C8.pe_c c_shared_execution hr (by decide) (by rfl) (pa_cons (pv 0) (pa_cons (pe_fld (pv 1) rfl) (pa_cons (pe_fld (pv 1) rfl) pa_nil)))))
      (pss_cons (ps_if (pt_cmpR op_isN (pv 4) pe_non (nomark _)) (pss_one (ps_expr (C8.pe_c c_admit hr (by decide) (by rfl) (pa_cons (pv 0) (pa_cons (pv 2) (pa_cons (pv 1) pa_nil)))))) (pss_one (ps_expr (C8.pe_c c_join hr (by decide) (by rfl) (pa_cons (pv 0) (pa_cons (pv 2) (pa_cons (pv 1) (pa_cons (pv 4) pa_nil))))))))
      (pss_one (ps_ret (pv 2))))))))), rd vs H Q E h⟩
abbrev s_upcoming_event : Stmt := top 80
abbrev N_upcoming_event : List Str := ["server", "events", "execution", "request"]
theorem sc_upcoming_event : FnScope N_upcoming_event ["server"] (C8.fnScope s_upcoming_event) := C8.fnScope_by (by decide +kernel)
def t_upcoming_event (K : PySem.W.Frag) (T : Cls7) (sp_in_state : Sp) (sp_open_requests : Sp) : TS := (tSeq (tAsg (tLc (iList K (tCall sp_in_state [] C8.E0 (tCons (tVar 0) (tCons (tC (.int 1)) tNil)))) (gName 2) tYes (tTup (tCons (tFld K (tVar 2) "wakes_at") (tCons (tC (.int 0)) (tCons (tFld K (tVar 2) "number") tNil)))) [2]) (gName 1))
    (tSeq (tDrop (tBM K "list" rExtend (tVar 1) (tCons (tLc (iList K (tCall sp_open_requests [] C8.E0 (tCons (tVar 0) tNil))) (gName 3) tYes (tTup (tCons (tFld K (tVar 3) "deadline") (tCons (tC (.int 1)) (tCons (tFld K (tVar 3) "number") tNil)))) [3]) tNil)))
    (tSeq (tIfS (tAnd (tTest (tOp rNotNon (tFld K (tVar 0) "grace_end") (tC .non))) (tNot (tB (tFld K (tVar 0) "grace_over")))) (tDrop (tBM K "list" rAppend (tVar 1) (tCons (tTup (tCons (tFld K (tVar 0) "grace_end") (tCons (tC (.int 2)) (tCons (tC (.int 0)) tNil)))) tNil))) tNext)
    (tRet (tCKw (rMinT K) (tCons (tVar 1) tNil) (tCons (tC .non) tNil))))))
theorem cal_upcoming_event {f : Addr} {fd : FuncData} {sp : Sp} (F : C8.Def K mg "upcoming_event" s_upcoming_event f fd) (b : Binds K fd ["server"] []) (X : Txt K mg T B) {sp_in_state : Sp} (c_in_state : C8.Cal P w K mg base 1 "in_state" sp_in_state []) {sp_open_requests : Sp} (c_open_requests : C8.Cal P w K mg base 1 "open_requests" sp_open_requests []) (len : ∀ vs H Q E, sp vs H Q E → vs.length = 1)
    (rd : ∀ vs H Q E, sp vs H Q E → t_upcoming_event K T sp_in_state sp_open_requests { nx := fun _ H' => Q .non H', rt := Q } (start N_upcoming_event vs) H) : C8.Cal P w K mg base 2 "upcoming_event" sp [] :=
  C8.cal0 F b .nil sc_upcoming_event len fun cdv A outer s0 H vs Q E hr h => ⟨t_upcoming_event K T sp_in_state sp_open_requests, (pss_cons (ps_setLc (i := 1) (own := [("execution", 2)]) (g := (gName 2)) (tt := tYes) (te := (tTup (tCons (tFld K (tVar 2) "wakes_at") (tCons (tC (.int 0)) (tCons (tFld K (tVar 2) "number") tNil))))) (by rfl) sc_upcoming_event.nd rfl rfl (sw_true rfl rfl rfl (by decide +kernel)) (pi_list (C8.pe_c c_in_state hr (by decide) (by rfl) (pa_cons (pv 0) (pa_cons (C8.pe_gc (by rfl) X.g_RUNNING) pa_nil)))) (blkOk_by (own := [("execution", 2)]) (N := N_upcoming_event) (sc := C8.fnScope s_upcoming_event) (by decide +kernel)) (fun _ _ _ _ _ => (pg_name (i := 2) sc_upcoming_event.nd rfl (Or.inl rfl))) (fun _ _ _ _ _ => pts_nil) (fun _ _ _ _ _ => (pe_tup (pa_cons (pe_fld (pv 2) rfl) (pa_cons (C8.pe_gc (by rfl) X.g_WAIT_ENDS) (pa_cons (pe_fld (pv 2) rfl) pa_nil))))))
      (pss_cons (ps_expr (pe_bm PySem.F.plainAttrs_list PySem.F.slot_list_extend PySem.F.type_list_extend mt_extend (pv 1) (pa_cons (pe_lc (own := [("request", 3)]) (g := (gName 3)) (tt := tYes) (te := (tTup (tCons (tFld K (tVar 3) "deadline") (tCons (tC (.int 1)) (tCons (tFld K (tVar 3) "number") tNil))))) (by rfl) sc_upcoming_event.nd (pi_list (C8.pe_c c_open_requests hr (by decide) (by rfl) (pa_cons (pv 0) pa_nil))) (blkOk_by (own := [("request", 3)]) (N := N_upcoming_event) (sc := C8.fnScope s_upcoming_event) (by decide +kernel)) (fun _ _ _ _ _ => (pg_name (i := 3) sc_upcoming_event.nd rfl (Or.inl rfl))) (fun _ _ _ _ _ => pts_nil) (fun _ _ _ _ _ => (pe_tup (pa_cons (pe_fld (pv 3) rfl) (pa_cons (C8.pe_gc (by rfl) X.g_DEADLINE_COMES) (pa_cons (pe_fld (pv 3) rfl) pa_nil)))))) pa_nil)))
      (pss_cons (ps_if (PW.pt (pw_and (pt_cmpR op_notN (pe_fld (pv 0) rfl) pe_non (nomark _)) (pw_and1 (pt_not (pt_val (pe_fld (pv 0) rfl)))))) (pss_one (ps_expr (pe_bm PySem.F.plainAttrs_list PySem.F.slot_list_append PySem.F.type_list_append mt_append (pv 1) (pa_cons (pe_tup (pa_cons (pe_fld (pv 0) rfl) (pa_cons (C8.pe_gc (by rfl) X.g_GRACE_ENDS) (pa_cons pe_int pa_nil)))) pa_nil)))) pss_nil)
      (pss_one (ps_ret (pe_callBK (cr_minT hr) (by rfl) X.b_min (by decide +kernel) (pa_cons (pv 1) pa_nil) (pk_cons pe_non pk_nil))))))), rd vs H Q E h⟩
abbrev s_happen : Stmt := top 81
abbrev N_happen : List Str := ["server", "event", "moment", "kind", "number"]
theorem sc_happen : FnScope N_happen ["server", "event"] (C8.fnScope s_happen) := C8.fnScope_by (by decide +kernel)
def t_happen (K : PySem.W.Frag) (T : Cls7) (sp_resume : Sp) (sp_fill_slots : Sp) (sp_leave : Sp) (sp_end_grace : Sp) : TS := (tSeq (tAsg (tVar 1) (gTup K 3 (gCons (gName 2) (gCons (gName 3) (gCons (gName 4) gNil)))))
    (tSeq (sFld K (tVar 0) (tCB rMax2 (tCons (tFld K (tVar 0) "now") (tCons (tVar 2) tNil))) "now")
    (tIfS (tTest (tOp rEq (tVar 3) (tC (.int 0)))) (tSeq (tDrop (tCall sp_resume [] C8.E0 (tCons (tVar 0) (tCons (tOp (rIxL K) (tFld K (tVar 0) "executions") (tVar 4)) tNil))))
    (tDrop (tCall sp_fill_slots [] C8.E0 (tCons (tVar 0) tNil)))) (tIfS (tTest (tOp rEq (tVar 3) (tC (.int 1)))) (tDrop (tCall sp_leave [] C8.E0 (tCons (tVar 0) (tCons (tOp (rIxL K) (tFld K (tVar 0) "requests") (tVar 4)) (tCons (tC (.int 4)) tNil))))) (tDrop (tCall sp_end_grace [] C8.E0 (tCons (tVar 0) tNil)))))))
theorem cal_happen {f : Addr} {fd : FuncData} {sp : Sp} (F : C8.Def K mg "happen" s_happen f fd) (b : Binds K fd ["server", "event"] []) (X : Txt K mg T B) {sp_resume : Sp} (c_resume : C8.Cal P w K mg base 4 "resume" sp_resume []) {sp_fill_slots : Sp} (c_fill_slots : C8.Cal P w K mg base 7 "fill_slots" sp_fill_slots []) {sp_leave : Sp} (c_leave : C8.Cal P w K mg base 8 "leave" sp_leave []) {sp_end_grace : Sp} (c_end_grace : C8.Cal P w K mg base 2 "end_grace" sp_end_grace []) (len : ∀ vs H Q E, sp vs H Q E → vs.length = 2)
    (rd : ∀ vs H Q E, sp vs H Q E → t_happen K T sp_resume sp_fill_slots sp_leave sp_end_grace { nx := fun _ H' => Q .non H', rt := Q } (start N_happen vs) H) : C8.Cal P w K mg base 9 "happen" sp [] :=
  C8.cal0 F b .nil sc_happen len fun cdv A outer s0 H vs Q E hr h => ⟨t_happen K T sp_resume sp_fill_slots sp_leave sp_end_grace, (pss_cons (ps_asg (pv 1) (pg_tup (by rfl) (pgs_cons (pg_name (i := 2) sc_happen.nd rfl (Or.inl rfl)) (pgs_cons (pg_name (i := 3) sc_happen.nd rfl (Or.inl rfl)) (pgs_cons (pg_name (i := 4) sc_happen.nd rfl (Or.inl rfl)) pgs_nil)))))
      (pss_cons (ps_fld (pv 0) (pe_callB (call_max2 (by rfl)) (by rfl) X.b_max (by decide +kernel) (pa_cons (pe_fld (pv 0) rfl) (pa_cons (pv 2) pa_nil))) rfl)
      (pss_one (ps_if (pt_cmpR op_eq (pv 3) (C8.pe_gc (by rfl) X.g_WAIT_ENDS) (nomark _)) (pss_cons (ps_expr (C8.pe_c c_resume hr (by decide) (by rfl) (pa_cons (pv 0) (pa_cons (pe_ix ix_list (pe_fld (pv 0) rfl) (pv 4) (fun _ _ => rfl)) pa_nil))))
      (pss_one (ps_expr (C8.pe_c c_fill_slots hr (by decide) (by rfl) (pa_cons (pv 0) pa_nil))))) (pss_one (ps_if (pt_cmpR op_eq (pv 3) (C8.pe_gc (by rfl) X.g_DEADLINE_COMES) (nomark _)) (pss_one (ps_expr (C8.pe_c c_leave hr (by decide) (by rfl) (pa_cons (pv 0) (pa_cons (pe_ix ix_list (pe_fld (pv 0) rfl) (pv 4) (fun _ _ => rfl)) (pa_cons (C8.pe_gc (by rfl) X.g_DEADLINE_EXCEEDED) pa_nil)))))) (pss_one (ps_expr (C8.pe_c c_end_grace hr (by decide) (by rfl) (pa_cons (pv 0) pa_nil)))))))))), rd vs H Q E h⟩
abbrev s_advance_to : Stmt := top 82
abbrev N_advance_to : List Str := ["server", "moment", "fired", "event"]
theorem sc_advance_to : FnScope N_advance_to ["server", "moment"] (C8.fnScope s_advance_to) := C8.fnScope_by (by decide +kernel)
def t_advance_to (K : PySem.W.Frag) (T : Cls7) (sp_upcoming_event : Sp) (sp_happen : Sp) : TS := (tSeq (tAsg (tC (.int 0)) (gName 2))
    (tSeq (tAsg (tCall sp_upcoming_event [] C8.E0 (tCons (tVar 0) tNil)) (gName 3))
    (tSeq (tWhile (tAnd (tTest (tOp rNotNon (tVar 3) (tC .non))) (tTest (tOp rLe (tOp (rIxT K) (tVar 3) (tC (.int 0))) (tVar 1)))) (tSeq (tDrop (tCall sp_happen [] C8.E0 (tCons (tVar 0) (tCons (tVar 3) tNil))))
    (tSeq (tAug 2 (tC (.int 1)) (ipI fun i j => i + j))
    (tAsg (tCall sp_upcoming_event [] C8.E0 (tCons (tVar 0) tNil)) (gName 3)))))
    (tSeq (sFld K (tVar 0) (tVar 1) "now")
    (tRet (tVar 2))))))
theorem cal_advance_to {f : Addr} {fd : FuncData} {sp : Sp} (F : C8.Def K mg "advance_to" s_advance_to f fd) (b : Binds K fd ["server", "moment"] []) (X : Txt K mg T B) {sp_upcoming_event : Sp} (c_upcoming_event : C8.Cal P w K mg base 2 "upcoming_event" sp_upcoming_event []) {sp_happen : Sp} (c_happen : C8.Cal P w K mg base 9 "happen" sp_happen []) (len : ∀ vs H Q E, sp vs H Q E → vs.length = 2)
    (rd : ∀ vs H Q E, sp vs H Q E → t_advance_to K T sp_upcoming_event sp_happen { nx := fun _ H' => Q .non H', rt := Q } (start N_advance_to vs) H) : C8.Cal P w K mg base 10 "advance_to" sp [] :=
  C8.cal0 F b .nil sc_advance_to len fun cdv A outer s0 H vs Q E hr h => ⟨t_advance_to K T sp_upcoming_event sp_happen, (pss_cons (ps_set (i := 2) sc_advance_to.nd rfl (Or.inl rfl) pe_int)
      (pss_cons (ps_set (i := 3) sc_advance_to.nd rfl (Or.inl rfl) (C8.pe_c c_upcoming_event hr (by decide) (by rfl) (pa_cons (pv 0) pa_nil)))
      (pss_cons (ps_while PassesOwn.never (PW.pt (pw_and (pt_cmpR op_notN (pv 3) pe_non (nomark _)) (pw_and1 (pt_cmpR op_le (pe_ix ix_tup (pv 3) pe_int (fun _ _ => rfl)) (pv 1) (nomark _))))) (pss_cons (ps_expr (C8.pe_c c_happen hr (by decide) (by rfl) (pa_cons (pv 0) (pa_cons (pv 3) pa_nil))))
      (pss_cons (ps_aug (i := 2) sc_advance_to.nd rfl (Or.inl rfl) pe_int ip_add)
      (pss_one (ps_set (i := 3) sc_advance_to.nd rfl (Or.inl rfl) (C8.pe_c c_upcoming_event hr (by decide) (by rfl) (pa_cons (pv 0) pa_nil)))))))
      (pss_cons (ps_fld (pv 0) (pv 1) rfl)
      (pss_one (ps_ret (pv 2))))))), rd vs H Q E h⟩
abbrev s_copy_of_client : Stmt := top 86
abbrev N_copy_of_client : List Str := ["client", "twin"]
theorem sc_copy_of_client : FnScope N_copy_of_client ["client"] (C8.fnScope s_copy_of_client) := C8.fnScope_by (by decide +kernel)
def t_copy_of_client (K : PySem.W.Frag) (T : Cls7) (sp_Client : Sp) : TS := (tSeq (tAsg (tMake T.C sp_Client [] C8.E0 (tCons (tFld K (tVar 0) "token") (tCons (tFld K (tVar 0) "roles") (tCons (tFld K (tVar 0) "capacity") (tCons (tFld K (tVar 0) "refill") (tCons (tFld K (tVar 0) "quota_at") tNil)))))) (gName 1))
    (tSeq (sFld K (tVar 1) (tFld K (tVar 0) "quota") "quota")
    (tRet (tVar 1))))
theorem cal_copy_of_client {f : Addr} {fd : FuncData} {sp : Sp} (F : C8.Def K mg "copy_of_client" s_copy_of_client f fd) (b : Binds K fd ["client"] []) (X : Txt K mg T B) {sp_Client : Sp} (m_Client : C8.Mak P w K mg base 1 "Client" T.C sp_Client []) (len : ∀ vs H Q E, sp vs H Q E → vs.length = 1)
    (rd : ∀ vs H Q E, sp vs H Q E → t_copy_of_client K T sp_Client { nx := fun _ H' => Q .non H', rt := Q } (start N_copy_of_client vs) H) : C8.Cal P w K mg base 3 "copy_of_client" sp [] :=
  C8.cal0 F b .nil sc_copy_of_client len fun cdv A outer s0 H vs Q E hr h => ⟨t_copy_of_client K T sp_Client, (pss_cons (ps_set (i := 1) sc_copy_of_client.nd rfl (Or.inl rfl) (C8.pe_mk m_Client hr (by decide) (by rfl) (pa_cons (pe_fld (pv 0) rfl) (pa_cons (pe_fld (pv 0) rfl) (pa_cons (pe_fld (pv 0) rfl) (pa_cons (pe_fld (pv 0) rfl) (pa_cons (pe_fld (pv 0) rfl) pa_nil)))))))
      (pss_cons (ps_fld (pv 1) (pe_fld (pv 0) rfl) rfl)
      (pss_one (ps_ret (pv 1))))), rd vs H Q E h⟩
abbrev s_copy_for_trial : Stmt := top 85
abbrev N_copy_for_trial : List Str := ["server", "twin", "client"]
theorem sc_copy_for_trial : FnScope N_copy_for_trial ["server"] (C8.fnScope s_copy_for_trial) := C8.fnScope_by (by decide +kernel)
def t_copy_for_trial (K : PySem.W.Frag) (T : Cls7) (sp_Server : Sp) (sp_copy_of_client : Sp) : TS := (tSeq (tAsg (tMake T.S sp_Server [] C8.E0 (tCons (tFld K (tVar 0) "limit") (tCons (tFld K (tVar 0) "queue_limit") (tCons (tFld K (tVar 0) "discipline") (tCons (tFld K (tVar 0) "shedding") (tCons (tFld K (tVar 0) "lifetime") tNil)))))) (gName 1))
    (tSeq (sFld K (tVar 1) (tFld K (tVar 0) "now") "now")
    (tSeq (sFld K (tVar 1) (tCB (Evl.rListS K) (tCons (tFld K (tVar 0) "methods") tNil)) "methods")
    (tSeq (sFld K (tVar 1) (tLc (iList K (tFld K (tVar 0) "clients")) (gName 2) tYes (tCall sp_copy_of_client [] C8.E0 (tCons (tVar 2) tNil)) [2]) "clients")
    (tSeq (sFld K (tVar 1) (tCB (Evl.rListS K) (tCons (tFld K (tVar 0) "executions") tNil)) "executions")
    (tSeq (sFld K (tVar 1) (tCB (Evl.rListS K) (tCons (tFld K (tVar 0) "requests") tNil)) "requests")
    (tSeq (sFld K (tVar 1) (tCB (Evl.rListS K) (tCons (tFld K (tVar 0) "registers") tNil)) "registers")
    (tSeq (sFld K (tVar 1) (tFld K (tVar 0) "average") "average")
    (tSeq (sFld K (tVar 1) (tFld K (tVar 0) "grace_end") "grace_end")
    (tSeq (sFld K (tVar 1) (tFld K (tVar 0) "grace_over") "grace_over")
    (tRet (tVar 1))))))))))))
theorem cal_copy_for_trial {f : Addr} {fd : FuncData} {sp : Sp} (F : C8.Def K mg "copy_for_trial" s_copy_for_trial f fd) (b : Binds K fd ["server"] []) (X : Txt K mg T B) {sp_Server : Sp} (m_Server : C8.Mak P w K mg base 1 "Server" T.S sp_Server []) {sp_copy_of_client : Sp} (c_copy_of_client : C8.Cal P w K mg base 3 "copy_of_client" sp_copy_of_client []) (len : ∀ vs H Q E, sp vs H Q E → vs.length = 1)
    (rd : ∀ vs H Q E, sp vs H Q E → t_copy_for_trial K T sp_Server sp_copy_of_client { nx := fun _ H' => Q .non H', rt := Q } (start N_copy_for_trial vs) H) : C8.Cal P w K mg base 4 "copy_for_trial" sp [] :=
  C8.cal0 F b .nil sc_copy_for_trial len fun cdv A outer s0 H vs Q E hr h => ⟨t_copy_for_trial K T sp_Server sp_copy_of_client, (pss_cons (ps_set (i := 1) sc_copy_for_trial.nd rfl (Or.inl rfl) (C8.pe_mk m_Server hr (by decide) (by rfl) (pa_cons (pe_fld (pv 0) rfl) (pa_cons (pe_fld (pv 0) rfl) (pa_cons (pe_fld (pv 0) rfl) (pa_cons (pe_fld (pv 0) rfl) (pa_cons (pe_fld (pv 0) rfl) pa_nil)))))))
      (pss_cons (ps_fld (pv 1) (pe_fld (pv 0) rfl) rfl)
      (pss_cons (ps_fld (pv 1) (pe_callTy call_list_of (by rfl) X.b_list (by decide +kernel) (pa_cons (pe_fld (pv 0) rfl) pa_nil)) rfl)
      (pss_cons (ps_fld (pv 1) (pe_lc (own := [("client", 2)]) (g := (gName 2)) (tt := tYes) (te := (tCall sp_copy_of_client [] C8.E0 (tCons (tVar 2) tNil))) (by rfl) sc_copy_for_trial.nd (pi_list (pe_fld (pv 0) rfl)) (blkOk_by (own := [("client", 2)]) (N := N_copy_for_trial) (sc := C8.fnScope s_copy_for_trial) (by decide +kernel)) (fun _ _ _ _ _ => (pg_name (i := 2) sc_copy_for_trial.nd rfl (Or.inl rfl))) (fun _ _ _ _ _ => pts_nil) (fun _ _ _ _ _ => (C8.pe_c c_copy_of_client hr (by decide) (by rfl) (pa_cons (pv 2) pa_nil)))) rfl)
      (pss_cons (ps_fld (pv 1) (pe_callTy call_list_of (by rfl) X.b_list (by decide +kernel) (pa_cons (pe_fld (pv 0) rfl) pa_nil)) rfl)
      (pss_cons (ps_fld (pv 1) (pe_callTy call_list_of (by rfl) X.b_list (by decide +kernel) (pa_cons (pe_fld (pv 0) rfl) pa_nil)) rfl)
      (pss_cons (ps_fld (pv 1) (pe_callTy call_list_of (by rfl) X.b_list (by decide +kernel) (pa_cons (pe_fld (pv 0) rfl) pa_nil)) rfl)
      (pss_cons (ps_fld (pv 1) (pe_fld (pv 0) rfl) rfl)
      (pss_cons (ps_fld (pv 1) (pe_fld (pv 0) rfl) rfl)
      (pss_cons (ps_fld (pv 1) (pe_fld (pv 0) rfl) rfl)
      (pss_one (ps_ret (pv 1))))))))))))), rd vs H Q E h⟩
abbrev s_arrive_on_trial : Stmt := top 84
abbrev N_arrive_on_trial : List Str := ["server", "ask"]
theorem sc_arrive_on_trial : FnScope N_arrive_on_trial ["server", "ask"] (C8.fnScope s_arrive_on_trial) := C8.fnScope_by (by decide +kernel)
def t_arrive_on_trial (K : PySem.W.Frag) (T : Cls7) (sp_arrive : Sp) (sp_copy_for_trial : Sp) : TS := (tRet (tCall sp_arrive [] C8.E0 (tCons (tCall sp_copy_for_trial [] C8.E0 (tCons (tVar 0) tNil)) (tCons (tVar 1) tNil))))
theorem cal_arrive_on_trial {f : Addr} {fd : FuncData} {sp : Sp} (F : C8.Def K mg "arrive_on_trial" s_arrive_on_trial f fd) (b : Binds K fd ["server", "ask"] []) (X : Txt K mg T B) {sp_arrive : Sp} (c_arrive : C8.Cal P w K mg base 9 "arrive" sp_arrive []) {sp_copy_for_trial : Sp} (c_copy_for_trial : C8.Cal P w K mg base 4 "copy_for_trial" sp_copy_for_trial []) (len : ∀ vs H Q E, sp vs H Q E → vs.length = 2)
    (rd : ∀ vs H Q E, sp vs H Q E → t_arrive_on_trial K T sp_arrive sp_copy_for_trial { nx := fun _ H' => Q .non H', rt := Q } (start N_arrive_on_trial vs) H) : C8.Cal P w K mg base 10 "arrive_on_trial" sp [] :=
  C8.cal0 F b .nil sc_arrive_on_trial len fun cdv A outer s0 H vs Q E hr h => ⟨t_arrive_on_trial K T sp_arrive sp_copy_for_trial, (pss_one (ps_ret (C8.pe_c c_arrive hr (by decide) (by rfl) (pa_cons (C8.pe_c c_copy_for_trial hr (by decide) (by rfl) (pa_cons (pv 0) pa_nil)) (pa_cons (pv 1) pa_nil))))), rd vs H Q E h⟩
abbrev s_next_event : Stmt := top 88
abbrev N_next_event : List Str := ["server", "numbers", "event"]
theorem sc_next_event : FnScope N_next_event ["server", "numbers"] (C8.fnScope s_next_event) := C8.fnScope_by (by decide +kernel)
def t_next_event (K : PySem.W.Frag) (T : Cls7) (sp_upcoming_event : Sp) : TS := (tSeq (tAsg (tCall sp_upcoming_event [] C8.E0 (tCons (tVar 0) tNil)) (gName 2))
    (tSeq (tIfS (tTest (tOp rIsNon (tVar 2) (tC .non))) (tRet (tLst (tCons (tC (.int (-33))) tNil))) tNext)
    (tRet (tCB (Evl.rListS K) (tCons (tVar 2) tNil)))))
theorem cal_next_event {f : Addr} {fd : FuncData} {sp : Sp} (F : C8.Def K mg "next_event" s_next_event f fd) (b : Binds K fd ["server", "numbers"] []) (X : Txt K mg T B) {sp_upcoming_event : Sp} (c_upcoming_event : C8.Cal P w K mg base 2 "upcoming_event" sp_upcoming_event []) (len : ∀ vs H Q E, sp vs H Q E → vs.length = 2)
    (rd : ∀ vs H Q E, sp vs H Q E → t_next_event K T sp_upcoming_event { nx := fun _ H' => Q .non H', rt := Q } (start N_next_event vs) H) : C8.Cal P w K mg base 3 "next_event" sp [] :=
  C8.cal0 F b .nil sc_next_event len fun cdv A outer s0 H vs Q E hr h => ⟨t_next_event K T sp_upcoming_event, (pss_cons (ps_set (i := 2) sc_next_event.nd rfl (Or.inl rfl) (C8.pe_c c_upcoming_event hr (by decide) (by rfl) (pa_cons (pv 0) pa_nil)))
      (pss_cons (ps_if (pt_cmpR op_isN (pv 2) pe_non (nomark _)) (pss_one (ps_ret (pe_lst (pa_cons (C8.pe_gc (by rfl) X.g_NOTHING_THERE) pa_nil)))) pss_nil)
      (pss_one (ps_ret (pe_callTy call_list_of (by rfl) X.b_list (by decide +kernel) (pa_cons (pv 2) pa_nil)))))), rd vs H Q E h⟩
abbrev s_shown_status : Stmt := top 90
abbrev N_shown_status : List Str := ["request"]
theorem sc_shown_status : FnScope N_shown_status ["request"] (C8.fnScope s_shown_status) := C8.fnScope_by (by decide +kernel)
def t_shown_status (K : PySem.W.Frag) (T : Cls7) : TS := (tRet (tIf (tTest (tOp rIsNon (tFld K (tVar 0) "status") (tC .non))) (tC (.int 0)) (tOp rPlus (tFld K (tVar 0) "status") (tC (.int 1)))))
theorem cal_shown_status {f : Addr} {fd : FuncData} {sp : Sp} (F : C8.Def K mg "shown_status" s_shown_status f fd) (b : Binds K fd ["request"] []) (X : Txt K mg T B) (len : ∀ vs H Q E, sp vs H Q E → vs.length = 1)
    (rd : ∀ vs H Q E, sp vs H Q E → t_shown_status K T { nx := fun _ H' => Q .non H', rt := Q } (start N_shown_status vs) H) : C8.Cal P w K mg base 1 "shown_status" sp [] :=
  C8.cal0 F b .nil sc_shown_status len fun cdv A outer s0 H vs Q E hr h => ⟨t_shown_status K T, (pss_one (ps_ret (pe_ifExp (pt_cmpR op_isN (pe_fld (pv 0) rfl) pe_non (nomark _)) pe_int (pe_op op_add (pe_fld (pv 0) rfl) pe_int)))), rd vs H Q E h⟩
abbrev s_request_info : Stmt := top 89
abbrev N_request_info : List Str := ["server", "numbers", "number", "request", "execution"]
theorem sc_request_info : FnScope N_request_info ["server", "numbers"] (C8.fnScope s_request_info) := C8.fnScope_by (by decide +kernel)
def t_request_info (K : PySem.W.Frag) (T : Cls7) (sp_shown_status : Sp) : TS := (tSeq (tAsg (tOp (rIxL K) (tVar 1) (tC (.int 0))) (gName 2))
    (tSeq (tIfS (tTest (tOp rGe (tVar 2) (tCB (Evl.rLenS K) (tCons (tFld K (tVar 0) "requests") tNil)))) (tRet (tLst (tCons (tC (.int (-2))) tNil))) tNext)
    (tSeq (tAsg (tOp (rIxL K) (tFld K (tVar 0) "requests") (tVar 2)) (gName 3))
    (tSeq (tAsg (tIf (tTest (tOp rIsNon (tFld K (tVar 3) "execution") (tC .non))) (tC (.int 0)) (tOp rPlus (tFld K (tVar 3) "execution") (tC (.int 1)))) (gName 4))
    (tRet (tLst (tCons (tCall sp_shown_status [] C8.E0 (tCons (tVar 3) tNil)) (tCons (tFld K (tVar 3) "client") (tCons (tFld K (tVar 3) "arrived_at") (tCons (tFld K (tVar 3) "deadline") (tCons (tVar 4) (tCons (tFld K (tVar 3) "joined") (tCons (tFld K (tVar 3) "finished_at") (tCons (tFld K (tVar 3) "retry_delay") tNil))))))))))))))
theorem cal_request_info {f : Addr} {fd : FuncData} {sp : Sp} (F : C8.Def K mg "request_info" s_request_info f fd) (b : Binds K fd ["server", "numbers"] []) (X : Txt K mg T B) {sp_shown_status : Sp} (c_shown_status : C8.Cal P w K mg base 1 "shown_status" sp_shown_status []) (len : ∀ vs H Q E, sp vs H Q E → vs.length = 2)
    (rd : ∀ vs H Q E, sp vs H Q E → t_request_info K T sp_shown_status { nx := fun _ H' => Q .non H', rt := Q } (start N_request_info vs) H) : C8.Cal P w K mg base 2 "request_info" sp [] :=
  C8.cal0 F b .nil sc_request_info len fun cdv A outer s0 H vs Q E hr h => ⟨t_request_info K T sp_shown_status, (pss_cons (ps_set (i := 2) sc_request_info.nd rfl (Or.inl rfl) (pe_ix ix_list (pv 1) pe_int (fun _ _ => rfl)))
      (pss_cons (ps_if (pt_cmpR op_ge (pv 2) (pe_callB call_len_seq (by rfl) X.b_len (by decide +kernel) (pa_cons (pe_fld (pv 0) rfl) pa_nil)) (nomark _)) (pss_one (ps_ret (pe_lst (pa_cons (C8.pe_gc (by rfl) X.g_UNKNOWN) pa_nil)))) pss_nil)
      (pss_cons (ps_set (i := 3) sc_request_info.nd rfl (Or.inl rfl) (pe_ix ix_list (pe_fld (pv 0) rfl) (pv 2) (fun _ _ => rfl)))
      (pss_cons (ps_set (i := 4) sc_request_info.nd rfl (Or.inl rfl) (pe_ifExp (pt_cmpR op_isN (pe_fld (pv 3) rfl) pe_non (nomark _)) pe_int (pe_op op_add (pe_fld (pv 3) rfl) pe_int)))
      (pss_one (ps_ret (pe_lst (pa_cons (C8.pe_c c_shown_status hr (by decide) (by rfl) (pa_cons (pv 3) pa_nil)) (pa_cons (pe_fld (pv 3) rfl) (pa_cons (pe_fld (pv 3) rfl) (pa_cons (pe_fld (pv 3) rfl) (pa_cons (pv 4) (pa_cons (pe_fld (pv 3) rfl) (pa_cons (pe_fld (pv 3) rfl) (pa_cons (pe_fld (pv 3) rfl) pa_nil))))))))))))))), rd vs H Q E h⟩
abbrev s_response : Stmt := top 91
abbrev N_response : List Str := ["server", "numbers", "number", "request", "emitted"]
theorem sc_response : FnScope N_response ["server", "numbers"] (C8.fnScope s_response) := C8.fnScope_by (by decide +kernel)
def t_response (K : PySem.W.Frag) (T : Cls7) : TS := (tSeq (tAsg (tOp (rIxL K) (tVar 1) (tC (.int 0))) (gName 2))
    (tSeq (tIfS (tTest (tOp rGe (tVar 2) (tCB (Evl.rLenS K) (tCons (tFld K (tVar 0) "requests") tNil)))) (tRet (tLst (tCons (tC (.int (-2))) tNil))) tNext)
    (tSeq (tAsg (tOp (rIxL K) (tFld K (tVar 0) "requests") (tVar 2)) (gName 3))
    (tSeq (tIfS (tTest (tOp rNe (tFld K (tVar 3) "status") (tC (.int 0)))) (tRet (tLst (tCons (tC (.int (-33))) tNil))) tNext)
    (tSeq (tAsg (tFld K (tOp (rIxL K) (tFld K (tVar 0) "executions") (tFld K (tVar 3) "execution")) "emitted") (gName 4))
    (tRet (tOp rCat (tLst (tCons (tCB (Evl.rLenS K) (tCons (tVar 4) tNil)) tNil)) (tVar 4))))))))
theorem cal_response {f : Addr} {fd : FuncData} {sp : Sp} (F : C8.Def K mg "response" s_response f fd) (b : Binds K fd ["server", "numbers"] []) (X : Txt K mg T B) (len : ∀ vs H Q E, sp vs H Q E → vs.length = 2)
    (rd : ∀ vs H Q E, sp vs H Q E → t_response K T { nx := fun _ H' => Q .non H', rt := Q } (start N_response vs) H) : C8.Cal P w K mg base 1 "response" sp [] :=
  C8.cal0 F b .nil sc_response len fun cdv A outer s0 H vs Q E hr h => ⟨t_response K T, (pss_cons (ps_set (i := 2) sc_response.nd rfl (Or.inl rfl) (pe_ix ix_list (pv 1) pe_int (fun _ _ => rfl)))
      (pss_cons (ps_if (pt_cmpR op_ge (pv 2) (pe_callB call_len_seq (by rfl) X.b_len (by decide +kernel) (pa_cons (pe_fld (pv 0) rfl) pa_nil)) (nomark _)) (pss_one (ps_ret (pe_lst (pa_cons (C8.pe_gc (by rfl) X.g_UNKNOWN) pa_nil)))) pss_nil)
      (pss_cons (ps_set (i := 3) sc_response.nd rfl (Or.inl rfl) (pe_ix ix_list (pe_fld (pv 0) rfl) (pv 2) (fun _ _ => rfl)))
      (pss_cons (ps_if (pt_cmpR op_ne (pe_fld (pv 3) rfl) (C8.pe_gc (by rfl) X.g_OK) (nomark _)) (pss_one (ps_ret (pe_lst (pa_cons (C8.pe_gc (by rfl) X.g_NOTHING_THERE) pa_nil)))) pss_nil)
      (pss_cons (ps_set (i := 4) sc_response.nd rfl (Or.inl rfl) (pe_fld (pe_ix ix_list (pe_fld (pv 0) rfl) (pe_fld (pv 3) rfl) (fun _ _ => rfl)) rfl))
      (pss_one (ps_ret (pe_op op_cat (pe_lst (pa_cons (pe_callB call_len_seq (by rfl) X.b_len (by decide +kernel) (pa_cons (pv 4) pa_nil)) pa_nil)) (pv 4))))))))), rd vs H Q E h⟩
abbrev s_state_value : Stmt := top 93
abbrev N_state_value : List Str := ["execution"]
theorem sc_state_value : FnScope N_state_value ["execution"] (C8.fnScope s_state_value) := C8.fnScope_by (by decide +kernel)
def t_state_value (K : PySem.W.Frag) (T : Cls7) : TS := (tSeq (tIfS (tTest (tOp rEq (tFld K (tVar 0) "state") (tC (.int 1)))) (tRet (tFld K (tVar 0) "wakes_at")) tNext)
    (tSeq (tIfS (tTest (tOp rEq (tFld K (tVar 0) "state") (tC (.int 2)))) (tRet (tFld K (tVar 0) "status")) tNext)
    (tRet (tC (.int 0)))))
theorem cal_state_value {f : Addr} {fd : FuncData} {sp : Sp} (F : C8.Def K mg "state_value" s_state_value f fd) (b : Binds K fd ["execution"] []) (X : Txt K mg T B) (len : ∀ vs H Q E, sp vs H Q E → vs.length = 1)
    (rd : ∀ vs H Q E, sp vs H Q E → t_state_value K T { nx := fun _ H' => Q .non H', rt := Q } (start N_state_value vs) H) : C8.Cal P w K mg base 1 "state_value" sp [] :=
  C8.cal0 F b .nil sc_state_value len fun cdv A outer s0 H vs Q E hr h => ⟨t_state_value K T, (pss_cons (ps_if (pt_cmpR op_eq (pe_fld (pv 0) rfl) (C8.pe_gc (by rfl) X.g_RUNNING) (nomark _)) (pss_one (ps_ret (pe_fld (pv 0) rfl))) pss_nil)
      (pss_cons (ps_if (pt_cmpR op_eq (pe_fld (pv 0) rfl) (C8.pe_gc (by rfl) X.g_FINISHED) (nomark _)) (pss_one (ps_ret (pe_fld (pv 0) rfl))) pss_nil)
      (pss_one (ps_ret pe_int)))), rd vs H Q E h⟩
abbrev s_execution_info : Stmt := top 92
abbrev N_execution_info : List Str := ["server", "numbers", "number", "execution"]
theorem sc_execution_info : FnScope N_execution_info ["server", "numbers"] (C8.fnScope s_execution_info) := C8.fnScope_by (by decide +kernel)
def t_execution_info (K : PySem.W.Frag) (T : Cls7) (sp_waiting_requests : Sp) (sp_state_value : Sp) : TS := (tSeq (tAsg (tOp (rIxL K) (tVar 1) (tC (.int 0))) (gName 2))
    (tSeq (tIfS (tTest (tOp rGe (tVar 2) (tCB (Evl.rLenS K) (tCons (tFld K (tVar 0) "executions") tNil)))) (tRet (tLst (tCons (tC (.int (-2))) tNil))) tNext)
    (tSeq (tAsg (tOp (rIxL K) (tFld K (tVar 0) "executions") (tVar 2)) (gName 3))
    (tRet (tLst (tCons (tFld K (tVar 3) "client") (tCons (tFld K (tVar 3) "key") (tCons (tFld K (tVar 3) "method") (tCons (tFld K (tVar 3) "state") (tCons (tCall sp_state_value [] C8.E0 (tCons (tVar 3) tNil)) (tCons (tFld K (tVar 3) "started_at") (tCons (tFld K (tVar 3) "finished_at") (tCons (tFld K (tVar 3) "executed") (tCons (tCB (Evl.rLenS K) (tCons (tCall sp_waiting_requests [] C8.E0 (tCons (tVar 0) (tCons (tVar 3) tNil))) tNil)) (tCons (tCB (Evl.rLenS K) (tCons (tFld K (tVar 3) "emitted") tNil)) tNil)))))))))))))))
theorem cal_execution_info {f : Addr} {fd : FuncData} {sp : Sp} (F : C8.Def K mg "execution_info" s_execution_info f fd) (b : Binds K fd ["server", "numbers"] []) (X : Txt K mg T B) {sp_waiting_requests : Sp} (c_waiting_requests : C8.Cal P w K mg base 2 "waiting_requests" sp_waiting_requests []) {sp_state_value : Sp} (c_state_value : C8.Cal P w K mg base 1 "state_value" sp_state_value []) (len : ∀ vs H Q E, sp vs H Q E → vs.length = 2)
    (rd : ∀ vs H Q E, sp vs H Q E → t_execution_info K T sp_waiting_requests sp_state_value { nx := fun _ H' => Q .non H', rt := Q } (start N_execution_info vs) H) : C8.Cal P w K mg base 3 "execution_info" sp [] :=
  C8.cal0 F b .nil sc_execution_info len fun cdv A outer s0 H vs Q E hr h => ⟨t_execution_info K T sp_waiting_requests sp_state_value, (pss_cons (ps_set (i := 2) sc_execution_info.nd rfl (Or.inl rfl) (pe_ix ix_list (pv 1) pe_int (fun _ _ => rfl)))
      (pss_cons (ps_if (pt_cmpR op_ge (pv 2) (pe_callB call_len_seq (by rfl) X.b_len (by decide +kernel) (pa_cons (pe_fld (pv 0) rfl) pa_nil)) (nomark _)) (pss_one (ps_ret (pe_lst (pa_cons (C8.pe_gc (by rfl) X.g_UNKNOWN) pa_nil)))) pss_nil)
      (pss_cons (ps_set (i := 3) sc_execution_info.nd rfl (Or.inl rfl) (pe_ix ix_list (pe_fld (pv 0) rfl) (pv 2) (fun _ _ => rfl)))
      (pss_one (ps_ret (pe_lst (pa_cons (pe_fld (pv 3) rfl) (pa_cons (pe_fld (pv 3) rfl) (pa_cons (pe_fld (pv 3) rfl) (pa_cons (pe_fld (pv 3) rfl) (pa_cons (C8.pe_c c_state_value hr (by decide) (by rfl) (pa_cons (pv 3) pa_nil)) (pa_cons (pe_fld (pv 3) rfl) (pa_cons (pe_fld (pv 3) rfl) (pa_cons (pe_fld (pv 3) rfl) (pa_cons (pe_callB call_len_seq (by rfl) X.b_len (by decide +kernel) (pa_cons (C8.pe_c c_waiting_requests hr (by decide) (by rfl) (pa_cons (pv 0) (pa_cons (pv 3) pa_nil))) pa_nil)) (pa_cons (pe_callB call_len_seq (by rfl) X.b_len (by decide +kernel) (pa_cons (pe_fld (pv 3) rfl) pa_nil)) pa_nil)))))))))))))))), rd vs H Q E h⟩
abbrev s_counted_numbers : Stmt := top 96
abbrev N_counted_numbers : List Str := ["executions", "execution"]
theorem sc_counted_numbers : FnScope N_counted_numbers ["executions"] (C8.fnScope s_counted_numbers) := C8.fnScope_by (by decide +kernel)
def t_counted_numbers (K : PySem.W.Frag) (T : Cls7) : TS := (tRet (tOp rCat (tLst (tCons (tCB (Evl.rLenS K) (tCons (tVar 0) tNil)) tNil)) (tLc (iList K (tVar 0)) (gName 1) tYes (tFld K (tVar 1) "number") [1])))
theorem cal_counted_numbers {f : Addr} {fd : FuncData} {sp : Sp} (F : C8.Def K mg "counted_numbers" s_counted_numbers f fd) (b : Binds K fd ["executions"] []) (X : Txt K mg T B) (len : ∀ vs H Q E, sp vs H Q E → vs.length = 1)
    (rd : ∀ vs H Q E, sp vs H Q E → t_counted_numbers K T { nx := fun _ H' => Q .non H', rt := Q } (start N_counted_numbers vs) H) : C8.Cal P w K mg base 1 "counted_numbers" sp [] :=
  C8.cal0 F b .nil sc_counted_numbers len fun cdv A outer s0 H vs Q E hr h => ⟨t_counted_numbers K T, (pss_one (ps_ret (pe_op op_cat (pe_lst (pa_cons (pe_callB call_len_seq (by rfl) X.b_len (by decide +kernel) (pa_cons (pv 0) pa_nil)) pa_nil)) (pe_lc (own := [("execution", 1)]) (g := (gName 1)) (tt := tYes) (te := (tFld K (tVar 1) "number")) (by rfl) sc_counted_numbers.nd (pi_list (pv 0)) (blkOk_by (own := [("execution", 1)]) (N := N_counted_numbers) (sc := C8.fnScope s_counted_numbers) (by decide +kernel)) (fun _ _ _ _ _ => (pg_name (i := 1) sc_counted_numbers.nd rfl (Or.inl rfl))) (fun _ _ _ _ _ => pts_nil) (fun _ _ _ _ _ => (pe_fld (pv 1) rfl)))))), rd vs H Q E h⟩
abbrev s_list_queue : Stmt := top 94
abbrev N_list_queue : List Str := ["server", "numbers"]
theorem sc_list_queue : FnScope N_list_queue ["server", "numbers"] (C8.fnScope s_list_queue) := C8.fnScope_by (by decide +kernel)
def t_list_queue (K : PySem.W.Frag) (T : Cls7) (sp_counted_numbers : Sp) (sp_starting_order : Sp) : TS := (tRet (tCall sp_counted_numbers [] C8.E0 (tCons (tCall sp_starting_order [] C8.E0 (tCons (tVar 0) tNil)) tNil)))
theorem cal_list_queue {f : Addr} {fd : FuncData} {sp : Sp} (F : C8.Def K mg "list_queue" s_list_queue f fd) (b : Binds K fd ["server", "numbers"] []) (X : Txt K mg T B) {sp_counted_numbers : Sp} (c_counted_numbers : C8.Cal P w K mg base 1 "counted_numbers" sp_counted_numbers []) {sp_starting_order : Sp} (c_starting_order : C8.Cal P w K mg base 6 "starting_order" sp_starting_order []) (len : ∀ vs H Q E, sp vs H Q E → vs.length = 2)
    (rd : ∀ vs H Q E, sp vs H Q E → t_list_queue K T sp_counted_numbers sp_starting_order { nx := fun _ H' => Q .non H', rt := Q } (start N_list_queue vs) H) : C8.Cal P w K mg base 7 "list_queue" sp [] :=
  C8.cal0 F b .nil sc_list_queue len fun cdv A outer s0 H vs Q E hr h => ⟨t_list_queue K T sp_counted_numbers sp_starting_order, (pss_one (ps_ret (C8.pe_c c_counted_numbers hr (by decide) (by rfl) (pa_cons (C8.pe_c c_starting_order hr (by decide) (by rfl) (pa_cons (pv 0) pa_nil)) pa_nil)))), rd vs H Q E h⟩
abbrev s_list_running : Stmt := top 95
abbrev N_list_running : List Str := ["server", "numbers"]
theorem sc_list_running : FnScope N_list_running ["server", "numbers"] (C8.fnScope s_list_running) := C8.fnScope_by (by decide +kernel)
def t_list_running (K : PySem.W.Frag) (T : Cls7) (sp_counted_numbers : Sp) (sp_in_state : Sp) : TS := (tRet (tCall sp_counted_numbers [] C8.E0 (tCons (tCall sp_in_state [] C8.E0 (tCons (tVar 0) (tCons (tC (.int 1)) tNil))) tNil)))
theorem cal_list_running {f : Addr} {fd : FuncData} {sp : Sp} (F : C8.Def K mg "list_running" s_list_running f fd) (b : Binds K fd ["server", "numbers"] []) (X : Txt K mg T B) {sp_counted_numbers : Sp} (c_counted_numbers : C8.Cal P w K mg base 1 "counted_numbers" sp_counted_numbers []) {sp_in_state : Sp} (c_in_state : C8.Cal P w K mg base 1 "in_state" sp_in_state []) (len : ∀ vs H Q E, sp vs H Q E → vs.length = 2)
    (rd : ∀ vs H Q E, sp vs H Q E → t_list_running K T sp_counted_numbers sp_in_state { nx := fun _ H' => Q .non H', rt := Q } (start N_list_running vs) H) : C8.Cal P w K mg base 2 "list_running" sp [] :=
  C8.cal0 F b .nil sc_list_running len fun cdv A outer s0 H vs Q E hr h => ⟨t_list_running K T sp_counted_numbers sp_in_state, (pss_one (ps_ret (C8.pe_c c_counted_numbers hr (by decide) (by rfl) (pa_cons (C8.pe_c c_in_state hr (by decide) (by rfl) (pa_cons (pv 0) (pa_cons (C8.pe_gc (by rfl) X.g_RUNNING) pa_nil))) pa_nil)))), rd vs H Q E h⟩
abbrev s_registers : Stmt := top 97
abbrev N_registers : List Str := ["server", "numbers"]
theorem sc_registers : FnScope N_registers ["server", "numbers"] (C8.fnScope s_registers) := C8.fnScope_by (by decide +kernel)
def t_registers (K : PySem.W.Frag) (T : Cls7) : TS := (tRet (tOp rCat (tLst (tCons (tC (.int 4)) tNil)) (tFld K (tVar 0) "registers")))
theorem cal_registers {f : Addr} {fd : FuncData} {sp : Sp} (F : C8.Def K mg "registers" s_registers f fd) (b : Binds K fd ["server", "numbers"] []) (X : Txt K mg T B) (len : ∀ vs H Q E, sp vs H Q E → vs.length = 2)
    (rd : ∀ vs H Q E, sp vs H Q E → t_registers K T { nx := fun _ H' => Q .non H', rt := Q } (start N_registers vs) H) : C8.Cal P w K mg base 1 "registers" sp [] :=
  C8.cal0 F b .nil sc_registers len fun cdv A outer s0 H vs Q E hr h => ⟨t_registers K T, (pss_one (ps_ret (pe_op op_cat (pe_lst (pa_cons (C8.pe_gc (by rfl) X.g_REGISTER_COUNT) pa_nil)) (pe_fld (pv 0) rfl)))), rd vs H Q E h⟩
abbrev s_quota : Stmt := top 98
abbrev N_quota : List Str := ["server", "numbers", "number", "client"]
theorem sc_quota : FnScope N_quota ["server", "numbers"] (C8.fnScope s_quota) := C8.fnScope_by (by decide +kernel)
def t_quota (K : PySem.W.Frag) (T : Cls7) (sp_present_quota : Sp) : TS := (tSeq (tAsg (tOp (rIxL K) (tVar 1) (tC (.int 0))) (gName 2))
    (tSeq (tIfS (tTest (tOp rGe (tVar 2) (tCB (Evl.rLenS K) (tCons (tFld K (tVar 0) "clients") tNil)))) (tRet (tLst (tCons (tC (.int (-2))) tNil))) tNext)
    (tSeq (tAsg (tOp (rIxL K) (tFld K (tVar 0) "clients") (tVar 2)) (gName 3))
    (tRet (tLst (tCons (tCall sp_present_quota [] C8.E0 (tCons (tVar 3) (tCons (tFld K (tVar 0) "now") tNil))) (tCons (tFld K (tVar 3) "capacity") (tCons (tFld K (tVar 3) "refill") tNil))))))))
theorem cal_quota {f : Addr} {fd : FuncData} {sp : Sp} (F : C8.Def K mg "quota" s_quota f fd) (b : Binds K fd ["server", "numbers"] []) (X : Txt K mg T B) {sp_present_quota : Sp} (c_present_quota : C8.Cal P w K mg base 1 "present_quota" sp_present_quota []) (len : ∀ vs H Q E, sp vs H Q E → vs.length = 2)
    (rd : ∀ vs H Q E, sp vs H Q E → t_quota K T sp_present_quota { nx := fun _ H' => Q .non H', rt := Q } (start N_quota vs) H) : C8.Cal P w K mg base 2 "quota" sp [] :=
  C8.cal0 F b .nil sc_quota len fun cdv A outer s0 H vs Q E hr h => ⟨t_quota K T sp_present_quota, (pss_cons (ps_set (i := 2) sc_quota.nd rfl (Or.inl rfl) (pe_ix ix_list (pv 1) pe_int (fun _ _ => rfl)))
      (pss_cons (ps_if (pt_cmpR op_ge (pv 2) (pe_callB call_len_seq (by rfl) X.b_len (by decide +kernel) (pa_cons (pe_fld (pv 0) rfl) pa_nil)) (nomark _)) (pss_one (ps_ret (pe_lst (pa_cons (C8.pe_gc (by rfl) X.g_UNKNOWN) pa_nil)))) pss_nil)
      (pss_cons (ps_set (i := 3) sc_quota.nd rfl (Or.inl rfl) (pe_ix ix_list (pe_fld (pv 0) rfl) (pv 2) (fun _ _ => rfl)))
      (pss_one (ps_ret (pe_lst (pa_cons (C8.pe_c c_present_quota hr (by decide) (by rfl) (pa_cons (pv 3) (pa_cons (pe_fld (pv 0) rfl) pa_nil))) (pa_cons (pe_fld (pv 3) rfl) (pa_cons (pe_fld (pv 3) rfl) pa_nil))))))))), rd vs H Q E h⟩
abbrev s_find_key : Stmt := top 99
abbrev N_find_key : List Str := ["server", "numbers", "client", "key", "shared"]
theorem sc_find_key : FnScope N_find_key ["server", "numbers"] (C8.fnScope s_find_key) := C8.fnScope_by (by decide +kernel)
def t_find_key (K : PySem.W.Frag) (T : Cls7) (sp_shared_execution : Sp) (sp_state_value : Sp) : TS := (tSeq (tAsg (tVar 1) (gUnl K 2 (gCons (gName 2) (gCons (gName 3) gNil))))
    (tSeq (tIfS (tTest (tOp rGe (tVar 2) (tCB (Evl.rLenS K) (tCons (tFld K (tVar 0) "clients") tNil)))) (tRet (tLst (tCons (tC (.int (-2))) tNil))) tNext)
    (tSeq (tAsg (tCall sp_shared_execution [] C8.E0 (tCons (tVar 0) (tCons (tVar 2) (tCons (tVar 3) tNil)))) (gName 4))
    (tSeq (tIfS (tTest (tOp rIsNon (tVar 4) (tC .non))) (tRet (tLst (tCons (tC (.int (-33))) tNil))) tNext)
    (tRet (tLst (tCons (tFld K (tVar 4) "number") (tCons (tFld K (tVar 4) "state") (tCons (tCall sp_state_value [] C8.E0 (tCons (tVar 4) tNil)) tNil)))))))))
theorem cal_find_key {f : Addr} {fd : FuncData} {sp : Sp} (F : C8.Def K mg "find_key" s_find_key f fd) (b : Binds K fd ["server", "numbers"] []) (X : Txt K mg T B) {sp_shared_execution : Sp} (c_shared_execution : C8.Cal P w K mg base 2 "shared_execution" sp_shared_execution []) {sp_state_value : Sp} (c_state_value : C8.Cal P w K mg base 1 "state_value" sp_state_value []) (len : ∀ vs H Q E, sp vs H Q E → vs.length = 2)
    (rd : ∀ vs H Q E, sp vs H Q E → t_find_key K T sp_shared_execution sp_state_value { nx := fun _ H' => Q .non H', rt := Q } (start N_find_key vs) H) : C8.Cal P w K mg base 3 "find_key" sp [] :=
  C8.cal0 F b .nil sc_find_key len fun cdv A outer s0 H vs Q E hr h => ⟨t_find_key K T sp_shared_execution sp_state_value, (pss_cons (ps_asg (pv 1) (pg_unl (by rfl) (pgs_cons (pg_name (i := 2) sc_find_key.nd rfl (Or.inl rfl)) (pgs_cons (pg_name (i := 3) sc_find_key.nd rfl (Or.inl rfl)) pgs_nil))))
      (pss_cons (ps_if (pt_cmpR op_ge (pv 2) (pe_callB call_len_seq (by rfl) X.b_len (by decide +kernel) (pa_cons (pe_fld (pv 0) rfl) pa_nil)) (nomark _)) (pss_one (ps_ret (pe_lst (pa_cons (C8.pe_gc (by rfl) X.g_UNKNOWN) pa_nil)))) pss_nil)
      (pss_cons (ps_set (i := 4) sc_find_key.nd rfl (Or.inl rfl) (C8.pe_c c_shared_execution hr (by decide) (by rfl) (pa_cons (pv 0) (pa_cons (pv 2) (pa_cons (pv 3) pa_nil)))))
      (pss_cons (ps_if (pt_cmpR op_isN (pv 4) pe_non (nomark _)) (pss_one (ps_ret (pe_lst (pa_cons (C8.pe_gc (by rfl) X.g_NOTHING_THERE) pa_nil)))) pss_nil)
      (pss_one (ps_ret (pe_lst (pa_cons (pe_fld (pv 4) rfl) (pa_cons (pe_fld (pv 4) rfl) (pa_cons (C8.pe_c c_state_value hr (by decide) (by rfl) (pa_cons (pv 4) pa_nil)) pa_nil)))))))))), rd vs H Q E h⟩
abbrev s_estimate : Stmt := top 100
abbrev N_estimate : List Str := ["server", "numbers"]
theorem sc_estimate : FnScope N_estimate ["server", "numbers"] (C8.fnScope s_estimate) := C8.fnScope_by (by decide +kernel)
def t_estimate (K : PySem.W.Frag) (T : Cls7) (sp_estimated_wait : Sp) : TS := (tRet (tLst (tCons (tCall sp_estimated_wait [] C8.E0 (tCons (tVar 0) tNil)) (tCons (tFld K (tVar 0) "average") tNil))))
theorem cal_estimate {f : Addr} {fd : FuncData} {sp : Sp} (F : C8.Def K mg "estimate" s_estimate f fd) (b : Binds K fd ["server", "numbers"] []) (X : Txt K mg T B) {sp_estimated_wait : Sp} (c_estimated_wait : C8.Cal P w K mg base 3 "estimated_wait" sp_estimated_wait []) (len : ∀ vs H Q E, sp vs H Q E → vs.length = 2)
    (rd : ∀ vs H Q E, sp vs H Q E → t_estimate K T sp_estimated_wait { nx := fun _ H' => Q .non H', rt := Q } (start N_estimate vs) H) : C8.Cal P w K mg base 4 "estimate" sp [] :=
  C8.cal0 F b .nil sc_estimate len fun cdv A outer s0 H vs Q E hr h => ⟨t_estimate K T sp_estimated_wait, (pss_one (ps_ret (pe_lst (pa_cons (C8.pe_c c_estimated_wait hr (by decide) (by rfl) (pa_cons (pv 0) pa_nil)) (pa_cons (pe_fld (pv 0) rfl) pa_nil))))), rd vs H Q E h⟩
abbrev s_statistics : Stmt := top 101
abbrev N_statistics : List Str := ["server", "numbers", "statuses", "request"]
theorem sc_statistics : FnScope N_statistics ["server", "numbers"] (C8.fnScope s_statistics) := C8.fnScope_by (by decide +kernel)
def t_statistics (K : PySem.W.Frag) (T : Cls7) : TS := (tSeq (tAsg (tLc (iList K (tFld K (tVar 0) "requests")) (gName 3) tYes (tFld K (tVar 3) "status") [3]) (gName 2))
    (tRet (tLst (tCons (tCB (Evl.rLenS K) (tCons (tVar 2) tNil)) (tCons (tBM K "list" (rCount K) (tVar 2) (tCons (tC (.int 0)) tNil)) (tCons (tBM K "list" (rCount K) (tVar 2) (tCons (tC (.int 100)) tNil)) (tCons (tBM K "list" (rCount K) (tVar 2) (tCons (tC (.int 4)) tNil)) (tCons (tBM K "list" (rCount K) (tVar 2) (tCons (tC .non) tNil)) (tCons (tCB (rSum K) (tCons (tLc (iList K (tFld K (tVar 0) "requests")) (gName 3) tYes (tFld K (tVar 3) "joined") [3]) tNil)) (tCons (tCB (Evl.rLenS K) (tCons (tFld K (tVar 0) "executions") tNil)) tNil))))))))))
theorem cal_statistics {f : Addr} {fd : FuncData} {sp : Sp} (F : C8.Def K mg "statistics" s_statistics f fd) (b : Binds K fd ["server", "numbers"] []) (X : Txt K mg T B) (len : ∀ vs H Q E, sp vs H Q E → vs.length = 2)
    (rd : ∀ vs H Q E, sp vs H Q E → t_statistics K T { nx := fun _ H' => Q .non H', rt := Q } (start N_statistics vs) H) : C8.Cal P w K mg base 1 "statistics" sp [] :=
  C8.cal0 F b .nil sc_statistics len fun cdv A outer s0 H vs Q E hr h => ⟨t_statistics K T, (pss_cons (ps_setLc (i := 2) (own := [("request", 3)]) (g := (gName 3)) (tt := tYes) (te := (tFld K (tVar 3) "status")) (by rfl) sc_statistics.nd rfl rfl (sw_true rfl rfl rfl (by decide +kernel)) (pi_list (pe_fld (pv 0) rfl)) (blkOk_by (own := [("request", 3)]) (N := N_statistics) (sc := C8.fnScope s_statistics) (by decide +kernel)) (fun _ _ _ _ _ => (pg_name (i := 3) sc_statistics.nd rfl (Or.inl rfl))) (fun _ _ _ _ _ => pts_nil) (fun _ _ _ _ _ => (pe_fld (pv 3) rfl)))
      (pss_one (ps_ret (pe_lst (pa_cons (pe_callB call_len_seq (by rfl) X.b_len (by decide +kernel) (pa_cons (pv 2) pa_nil)) (pa_cons (pe_bm PySem.F.plainAttrs_list PySem.F.slot_list_count PySem.F.type_list_count mt_countV (pv 2) (pa_cons (C8.pe_gc (by rfl) X.g_OK) pa_nil)) (pa_cons (pe_bm PySem.F.plainAttrs_list PySem.F.slot_list_count PySem.F.type_list_count mt_countV (pv 2) (pa_cons (C8.pe_gc (by rfl) X.g_REFUSED) pa_nil)) (pa_cons (pe_bm PySem.F.plainAttrs_list PySem.F.slot_list_count PySem.F.type_list_count mt_countV (pv 2) (pa_cons (C8.pe_gc (by rfl) X.g_DEADLINE_EXCEEDED) pa_nil)) (pa_cons (pe_bm PySem.F.plainAttrs_list PySem.F.slot_list_count PySem.F.type_list_count mt_countV (pv 2) (pa_cons pe_non pa_nil)) (pa_cons (pe_callB (cr_sum (by rfl)) (by rfl) X.b_sum (by decide +kernel) (pa_cons (pe_lc (own := [("request", 3)]) (g := (gName 3)) (tt := tYes) (te := (tFld K (tVar 3) "joined")) (by rfl) sc_statistics.nd (pi_list (pe_fld (pv 0) rfl)) (blkOk_by (own := [("request", 3)]) (N := N_statistics) (sc := C8.fnScope s_statistics) (by decide +kernel)) (fun _ _ _ _ _ => (pg_name (i := 3) sc_statistics.nd rfl (Or.inl rfl))) (fun _ _ _ _ _ => pts_nil) (fun _ _ _ _ _ => (pe_fld (pv 3) rfl))) pa_nil)) (pa_cons (pe_callB call_len_seq (by rfl) X.b_len (by decide +kernel) (pa_cons (pe_fld (pv 0) rfl) pa_nil)) pa_nil))))))))))), rd vs H Q E h⟩
abbrev s_status : Stmt := top 102
abbrev N_status : List Str := ["server", "numbers", "shut_down"]
theorem sc_status : FnScope N_status ["server", "numbers"] (C8.fnScope s_status) := C8.fnScope_by (by decide +kernel)
def t_status (K : PySem.W.Frag) (T : Cls7) (sp_in_state : Sp) : TS := (tSeq (tAsg (tIf (tTest (tOp rIsNon (tFld K (tVar 0) "grace_end") (tC .non))) (tC (.int 0)) (tC (.int 1))) (gName 2))
    (tRet (tLst (tCons (tFld K (tVar 0) "now") (tCons (tCB (Evl.rLenS K) (tCons (tCall sp_in_state [] C8.E0 (tCons (tVar 0) (tCons (tC (.int 1)) tNil))) tNil)) (tCons (tCB (Evl.rLenS K) (tCons (tCall sp_in_state [] C8.E0 (tCons (tVar 0) (tCons (tC (.int 0)) tNil))) tNil)) (tCons (tVar 2) (tCons (tCB (Evl.rLenS K) (tCons (tFld K (tVar 0) "methods") tNil)) (tCons (tCB (Evl.rLenS K) (tCons (tFld K (tVar 0) "clients") tNil)) tNil)))))))))
theorem cal_status {f : Addr} {fd : FuncData} {sp : Sp} (F : C8.Def K mg "status" s_status f fd) (b : Binds K fd ["server", "numbers"] []) (X : Txt K mg T B) {sp_in_state : Sp} (c_in_state : C8.Cal P w K mg base 1 "in_state" sp_in_state []) (len : ∀ vs H Q E, sp vs H Q E → vs.length = 2)
    (rd : ∀ vs H Q E, sp vs H Q E → t_status K T sp_in_state { nx := fun _ H' => Q .non H', rt := Q } (start N_status vs) H) : C8.Cal P w K mg base 2 "status" sp [] :=
  C8.cal0 F b .nil sc_status len fun cdv A outer s0 H vs Q E hr h => ⟨t_status K T sp_in_state, (pss_cons (ps_set (i := 2) sc_status.nd rfl (Or.inl rfl) (pe_ifExp (pt_cmpR op_isN (pe_fld (pv 0) rfl) pe_non (nomark _)) pe_int pe_int))
      (pss_one (ps_ret (pe_lst (pa_cons (pe_fld (pv 0) rfl) (pa_cons (pe_callB call_len_seq (by rfl) X.b_len (by decide +kernel) (pa_cons (C8.pe_c c_in_state hr (by decide) (by rfl) (pa_cons (pv 0) (pa_cons (C8.pe_gc (by rfl) X.g_RUNNING) pa_nil))) pa_nil)) (pa_cons (pe_callB call_len_seq (by rfl) X.b_len (by decide +kernel) (pa_cons (C8.pe_c c_in_state hr (by decide) (by rfl) (pa_cons (pv 0) (pa_cons (C8.pe_gc (by rfl) X.g_QUEUED) pa_nil))) pa_nil)) (pa_cons (pv 2) (pa_cons (pe_callB call_len_seq (by rfl) X.b_len (by decide +kernel) (pa_cons (pe_fld (pv 0) rfl) pa_nil)) (pa_cons (pe_callB call_len_seq (by rfl) X.b_len (by decide +kernel) (pa_cons (pe_fld (pv 0) rfl) pa_nil)) pa_nil)))))))))), rd vs H Q E h⟩
abbrev s_look : Stmt := top 104
abbrev N_look : List Str := ["server", "number", "numbers", "view"]
theorem sc_look : FnScope N_look ["server", "number", "numbers"] (C8.fnScope s_look) := C8.fnScope_by (by decide +kernel)
def t_look (K : PySem.W.Frag) (T : Cls7) (B : Blt) (SO : Addr → Option Sp) : TS := (tSeq (tAsg (tOp (rIxI K) (tC (.ref B.views)) (tVar 1)) (gName 3))
    (tRet (tCallA 3 SO (tCons (tVar 0) (tCons (tVar 2) tNil)))))
theorem cal_look {f : Addr} {fd : FuncData} {sp : Sp} (F : C8.Def K mg "look" s_look f fd) (b : Binds K fd ["server", "number", "numbers"] []) (X : Txt K mg T B) {SO : Addr → Option Sp} (AO : ∀ f sp, SO f = some sp → Held P w K mg base 23 f sp) (len : ∀ vs H Q E, sp vs H Q E → vs.length = 3)
    (rd : ∀ vs H Q E, sp vs H Q E → t_look K T B SO { nx := fun _ H' => Q .non H', rt := Q } (start N_look vs) H) : C8.Cal P w K mg base 24 "look" sp [] :=
  C8.cal0 F b .nil sc_look len fun cdv A outer s0 H vs Q E hr h => ⟨t_look K T B SO, (pss_cons (ps_set (i := 3) sc_look.nd rfl (Or.inl rfl) (pe_ix ix_intdict (C8.pe_gc (by rfl) X.g_VIEWS) (pv 1) (fun _ _ => rfl)))
      (pss_one (ps_ret (pe_callA AO hr rfl (.inl rfl) (pa_cons (pv 0) (pa_cons (pv 2) pa_nil)))))), rd vs H Q E h⟩
abbrev s_is_limit : Stmt := top 113
abbrev N_is_limit : List Str := ["limit"]
theorem sc_is_limit : FnScope N_is_limit ["limit"] (C8.fnScope s_is_limit) := C8.fnScope_by (by decide +kernel)
def t_is_limit (K : PySem.W.Frag) (T : Cls7) : TS := (tRet (tChain rLe rLe (tC (.int 1)) (tVar 0) (tC (.int 8))))
theorem cal_is_limit {f : Addr} {fd : FuncData} {sp : Sp} (F : C8.Def K mg "is_limit" s_is_limit f fd) (b : Binds K fd ["limit"] []) (X : Txt K mg T B) (len : ∀ vs H Q E, sp vs H Q E → vs.length = 1)
    (rd : ∀ vs H Q E, sp vs H Q E → t_is_limit K T { nx := fun _ H' => Q .non H', rt := Q } (start N_is_limit vs) H) : C8.Cal P w K mg base 1 "is_limit" sp [] :=
  C8.cal0 F b .nil sc_is_limit len fun cdv A outer s0 H vs Q E hr h => ⟨t_is_limit K T, (pss_one (ps_ret (pe_chain op_le op_le pe_int (pv 0) (C8.pe_gc (by rfl) X.g_MOST_LIMIT)))), rd vs H Q E h⟩
abbrev s_create : Stmt := top 112
abbrev N_create : List Str := ["numbers", "limit", "queue_limit", "discipline", "shedding", "lifetime"]
theorem sc_create : FnScope N_create ["numbers"] (C8.fnScope s_create) := C8.fnScope_by (by decide +kernel)
def t_create (K : PySem.W.Frag) (T : Cls7) (sp_Server : Sp) (sp_is_limit : Sp) : TS := (tSeq (tAsg (tVar 0) (gUnl K 5 (gCons (gName 1) (gCons (gName 2) (gCons (gName 3) (gCons (gName 4) (gCons (gName 5) gNil)))))))
    (tSeq (tIfS (tOr (tNot (tB (tCall sp_is_limit [] C8.E0 (tCons (tVar 1) tNil)))) (tOr (tTest (tOp rGt (tVar 2) (tC (.int 16)))) (tOr (tTest (tOp rGt (tVar 3) (tC (.int 2)))) (tOr (tTest (tOp rGt (tVar 4) (tC (.int 1)))) (tTest (tOp rGt (tVar 5) (tC (.int 100000)))))))) (tRet (tC .non)) tNext)
    (tRet (tMake T.S sp_Server [] C8.E0 (tCons (tVar 1) (tCons (tVar 2) (tCons (tVar 3) (tCons (tVar 4) (tCons (tVar 5) tNil)))))))))
theorem cal_create {f : Addr} {fd : FuncData} {sp : Sp} (F : C8.Def K mg "create" s_create f fd) (b : Binds K fd ["numbers"] []) (X : Txt K mg T B) {sp_Server : Sp} (m_Server : C8.Mak P w K mg base 1 "Server" T.S sp_Server []) {sp_is_limit : Sp} (c_is_limit : C8.Cal P w K mg base 1 "is_limit" sp_is_limit []) (len : ∀ vs H Q E, sp vs H Q E → vs.length = 1)
    (rd : ∀ vs H Q E, sp vs H Q E → t_create K T sp_Server sp_is_limit { nx := fun _ H' => Q .non H', rt := Q } (start N_create vs) H) : C8.Cal P w K mg base 3 "create" sp [] :=
  C8.cal0 F b .nil sc_create len fun cdv A outer s0 H vs Q E hr h => ⟨t_create K T sp_Server sp_is_limit, (pss_cons (ps_asg (pv 0) (pg_unl (by rfl) (pgs_cons (pg_name (i := 1) sc_create.nd rfl (Or.inl rfl)) (pgs_cons (pg_name (i := 2) sc_create.nd rfl (Or.inl rfl)) (pgs_cons (pg_name (i := 3) sc_create.nd rfl (Or.inl rfl)) (pgs_cons (pg_name (i := 4) sc_create.nd rfl (Or.inl rfl)) (pgs_cons (pg_name (i := 5) sc_create.nd rfl (Or.inl rfl)) pgs_nil)))))))
      (pss_cons (ps_if (PW.pt (pw_or (pt_not (pt_val (C8.pe_c c_is_limit hr (by decide) (by rfl) (pa_cons (pv 1) pa_nil)))) (pw_or (pt_cmpR op_gt (pv 2) pe_int (nomark _)) (pw_or (pt_cmpR op_gt (pv 3) pe_int (nomark _)) (pw_or (pt_cmpR op_gt (pv 4) pe_int (nomark _)) (pw_or1 (pt_cmpR op_gt (pv 5) pe_int (nomark _)))))))) (pss_one (ps_ret pe_non)) pss_nil)
      (pss_one (ps_ret (C8.pe_mk m_Server hr (by decide) (by rfl) (pa_cons (pv 1) (pa_cons (pv 2) (pa_cons (pv 3) (pa_cons (pv 4) (pa_cons (pv 5) pa_nil)))))))))), rd vs H Q E h⟩
abbrev s_add_method : Stmt := top 114
abbrev N_add_method : List Str := ["server", "numbers", "cost", "roles", "program"]
theorem sc_add_method : FnScope N_add_method ["server", "numbers"] (C8.fnScope s_add_method) := C8.fnScope_by (by decide +kernel)
def t_add_method (K : PySem.W.Frag) (T : Cls7) (sp_Method : Sp) (sp_is_program : Sp) : TS := (tSeq (tAsg (tSl (rSlL K) (tVar 1) tNoPart (tPart (tC (.int 2)))) (gUnl K 2 (gCons (gName 2) (gCons (gName 3) gNil))))
    (tSeq (tAsg (tSl (rSlL K) (tVar 1) (tPart (tC (.int 2))) tNoPart) (gName 4))
    (tSeq (tIfS (tOr (tNot (tB (tCall sp_is_program [] C8.E0 (tCons (tVar 4) (tCons (tCB (Evl.rLenS K) (tCons (tFld K (tVar 0) "methods") tNil)) tNil))))) (tOr (tTest (tOp rGt (tVar 2) (tC (.int 100)))) (tTest (tOp rGt (tVar 3) (tC (.int 15)))))) (tRet (tLst (tCons (tC (.int (-22))) tNil))) tNext)
    (tSeq (tIfS (tTest (tOp rEq (tCB (Evl.rLenS K) (tCons (tFld K (tVar 0) "methods") tNil)) (tC (.int 6)))) (tRet (tLst (tCons (tC (.int (-28))) tNil))) tNext)
    (tSeq (tDrop (tBM K "list" rAppend (tFld K (tVar 0) "methods") (tCons (tMake T.M sp_Method [] C8.E0 (tCons (tVar 2) (tCons (tVar 3) (tCons (tVar 4) tNil)))) tNil)))
    (tRet (tLst (tCons (tOp rMinus (tCB (Evl.rLenS K) (tCons (tFld K (tVar 0) "methods") tNil)) (tC (.int 1))) tNil))))))))
theorem cal_add_method {f : Addr} {fd : FuncData} {sp : Sp} (F : C8.Def K mg "add_method" s_add_method f fd) (b : Binds K fd ["server", "numbers"] []) (X : Txt K mg T B) {sp_Method : Sp} (m_Method : C8.Mak P w K mg base 1 "Method" T.M sp_Method []) {sp_is_program : Sp} (c_is_program : C8.Cal P w K mg base 2 "is_program" sp_is_program []) (len : ∀ vs H Q E, sp vs H Q E → vs.length = 2)
    (rd : ∀ vs H Q E, sp vs H Q E → t_add_method K T sp_Method sp_is_program { nx := fun _ H' => Q .non H', rt := Q } (start N_add_method vs) H) : C8.Cal P w K mg base 3 "add_method" sp [] :=
  C8.cal0 F b .nil sc_add_method len fun cdv A outer s0 H vs Q E hr h => ⟨t_add_method K T sp_Method sp_is_program, (pss_cons (ps_asg (pe_slice sl_list (pv 1) po_none (po_some pe_int)) (pg_unl (by rfl) (pgs_cons (pg_name (i := 2) sc_add_method.nd rfl (Or.inl rfl)) (pgs_cons (pg_name (i := 3) sc_add_method.nd rfl (Or.inl rfl)) pgs_nil))))
      (pss_cons (ps_set (i := 4) sc_add_method.nd rfl (Or.inl rfl) (pe_slice sl_list (pv 1) (po_some pe_int) po_none))
      (pss_cons (ps_if (PW.pt (pw_or (pt_not (pt_val (C8.pe_c c_is_program hr (by decide) (by rfl) (pa_cons (pv 4) (pa_cons (pe_callB call_len_seq (by rfl) X.b_len (by decide +kernel) (pa_cons (pe_fld (pv 0) rfl) pa_nil)) pa_nil))))) (pw_or (pt_cmpR op_gt (pv 2) pe_int (nomark _)) (pw_or1 (pt_cmpR op_gt (pv 3) (C8.pe_gc (by rfl) X.g_MOST_ROLES) (nomark _)))))) (pss_one (ps_ret (pe_lst (pa_cons (C8.pe_gc (by rfl) X.g_OUTSIDE) pa_nil)))) pss_nil)
      (pss_cons (ps_if (pt_cmpR op_eq (pe_callB call_len_seq (by rfl) X.b_len (by decide +kernel) (pa_cons (pe_fld (pv 0) rfl) pa_nil)) (C8.pe_gc (by rfl) X.g_MOST_METHODS) (nomark _)) (pss_one (ps_ret (pe_lst (pa_cons (C8.pe_gc (by rfl) X.g_TOO_MANY) pa_nil)))) pss_nil)
      (pss_cons (ps_expr (pe_bm PySem.F.plainAttrs_list PySem.F.slot_list_append PySem.F.type_list_append mt_append (pe_fld (pv 0) rfl) (pa_cons (C8.pe_mk m_Method hr (by decide) (by rfl) (pa_cons (pv 2) (pa_cons (pv 3) (pa_cons (pv 4) pa_nil)))) pa_nil)))
      (pss_one (ps_ret (pe_lst (pa_cons (pe_op op_sub (pe_callB call_len_seq (by rfl) X.b_len (by decide +kernel) (pa_cons (pe_fld (pv 0) rfl) pa_nil)) pe_int) pa_nil))))))))), rd vs H Q E h⟩
abbrev s_add_client : Stmt := top 115
abbrev N_add_client : List Str := ["server", "numbers", "token", "roles", "capacity", "refill"]
theorem sc_add_client : FnScope N_add_client ["server", "numbers"] (C8.fnScope s_add_client) := C8.fnScope_by (by decide +kernel)
def t_add_client (K : PySem.W.Frag) (T : Cls7) (sp_Client : Sp) : TS := (tSeq (tAsg (tVar 1) (gUnl K 4 (gCons (gName 2) (gCons (gName 3) (gCons (gName 4) (gCons (gName 5) gNil))))))
    (tSeq (tIfS (tOr (tTest (tOp rGt (tVar 2) (tC (.int 65535)))) (tOr (tTest (tOp rGt (tVar 3) (tC (.int 15)))) (tOr (tTest (tOp rGt (tVar 4) (tC (.int 1000)))) (tTest (tOp rGt (tVar 5) (tC (.int 1000))))))) (tRet (tLst (tCons (tC (.int (-22))) tNil))) tNext)
    (tSeq (tIfS (tTest (tOp rEq (tCB (Evl.rLenS K) (tCons (tFld K (tVar 0) "clients") tNil)) (tC (.int 8)))) (tRet (tLst (tCons (tC (.int (-28))) tNil))) tNext)
    (tSeq (tDrop (tBM K "list" rAppend (tFld K (tVar 0) "clients") (tCons (tMake T.C sp_Client [] C8.E0 (tCons (tVar 2) (tCons (tVar 3) (tCons (tVar 4) (tCons (tVar 5) (tCons (tFld K (tVar 0) "now") tNil)))))) tNil)))
    (tRet (tLst (tCons (tOp rMinus (tCB (Evl.rLenS K) (tCons (tFld K (tVar 0) "clients") tNil)) (tC (.int 1))) tNil)))))))
theorem cal_add_client {f : Addr} {fd : FuncData} {sp : Sp} (F : C8.Def K mg "add_client" s_add_client f fd) (b : Binds K fd ["server", "numbers"] []) (X : Txt K mg T B) {sp_Client : Sp} (m_Client : C8.Mak P w K mg base 1 "Client" T.C sp_Client []) (len : ∀ vs H Q E, sp vs H Q E → vs.length = 2)
    (rd : ∀ vs H Q E, sp vs H Q E → t_add_client K T sp_Client { nx := fun _ H' => Q .non H', rt := Q } (start N_add_client vs) H) : C8.Cal P w K mg base 3 "add_client" sp [] :=
  C8.cal0 F b .nil sc_add_client len fun cdv A outer s0 H vs Q E hr h => ⟨t_add_client K T sp_Client, (pss_cons (ps_asg (pv 1) (pg_unl (by rfl) (pgs_cons (pg_name (i := 2) sc_add_client.nd rfl (Or.inl rfl)) (pgs_cons (pg_name (i := 3) sc_add_client.nd rfl (Or.inl rfl)) (pgs_cons (pg_name (i := 4) sc_add_client.nd rfl (Or.inl rfl)) (pgs_cons (pg_name (i := 5) sc_add_client.nd rfl (Or.inl rfl)) pgs_nil))))))
      (pss_cons (ps_if (PW.pt (pw_or (pt_cmpR op_gt (pv 2) pe_int (nomark _)) (pw_or (pt_cmpR op_gt (pv 3) (C8.pe_gc (by rfl) X.g_MOST_ROLES) (nomark _)) (pw_or (pt_cmpR op_gt (pv 4) pe_int (nomark _)) (pw_or1 (pt_cmpR op_gt (pv 5) pe_int (nomark _))))))) (pss_one (ps_ret (pe_lst (pa_cons (C8.pe_gc (by rfl) X.g_OUTSIDE) pa_nil)))) pss_nil)
      (pss_cons (ps_if (pt_cmpR op_eq (pe_callB call_len_seq (by rfl) X.b_len (by decide +kernel) (pa_cons (pe_fld (pv 0) rfl) pa_nil)) (C8.pe_gc (by rfl) X.g_MOST_CLIENTS) (nomark _)) (pss_one (ps_ret (pe_lst (pa_cons (C8.pe_gc (by rfl) X.g_TOO_MANY) pa_nil)))) pss_nil)
      (pss_cons (ps_expr (pe_bm PySem.F.plainAttrs_list PySem.F.slot_list_append PySem.F.type_list_append mt_append (pe_fld (pv 0) rfl) (pa_cons (C8.pe_mk m_Client hr (by decide) (by rfl) (pa_cons (pv 2) (pa_cons (pv 3) (pa_cons (pv 4) (pa_cons (pv 5) (pa_cons (pe_fld (pv 0) rfl) pa_nil)))))) pa_nil)))
      (pss_one (ps_ret (pe_lst (pa_cons (pe_op op_sub (pe_callB call_len_seq (by rfl) X.b_len (by decide +kernel) (pa_cons (pe_fld (pv 0) rfl) pa_nil)) pe_int) pa_nil)))))))), rd vs H Q E h⟩
abbrev s_request_error : Stmt := top 118
abbrev N_request_error : List Str := ["server", "ask"]
theorem sc_request_error : FnScope N_request_error ["server", "ask"] (C8.fnScope s_request_error) := C8.fnScope_by (by decide +kernel)
def t_request_error (K : PySem.W.Frag) (T : Cls7) : TS := (tSeq (tIfS (tTest (tOp rGe (tFld K (tVar 1) "client") (tCB (Evl.rLenS K) (tCons (tFld K (tVar 0) "clients") tNil)))) (tRet (tC (.int (-2)))) tNext)
    (tSeq (tIfS (tOr (tTest (tOp rLt (tFld K (tVar 1) "timeout") (tC (.int 1)))) (tTest (tOp rGt (tFld K (tVar 1) "timeout") (tC (.int 100000))))) (tRet (tC (.int (-22)))) tNext)
    (tSeq (tIfS (tOr (tTest (tOp rGt (tCB (Evl.rLenS K) (tCons (tFld K (tVar 1) "payload") tNil)) (tC (.int 8)))) (tTest (tOp rGt (tCKw (rMaxI K) (tCons (tFld K (tVar 1) "payload") tNil) (tCons (tC (.int 0)) tNil)) (tC (.int 1000))))) (tRet (tC (.int (-22)))) tNext)
    (tSeq (tIfS (tTest (tOp rEq (tCB (Evl.rLenS K) (tCons (tFld K (tVar 0) "requests") tNil)) (tC (.int 60)))) (tRet (tC (.int (-28)))) tNext)
    (tRet (tC .non))))))
theorem cal_request_error {f : Addr} {fd : FuncData} {sp : Sp} (F : C8.Def K mg "request_error" s_request_error f fd) (b : Binds K fd ["server", "ask"] []) (X : Txt K mg T B) (len : ∀ vs H Q E, sp vs H Q E → vs.length = 2)
    (rd : ∀ vs H Q E, sp vs H Q E → t_request_error K T { nx := fun _ H' => Q .non H', rt := Q } (start N_request_error vs) H) : C8.Cal P w K mg base 1 "request_error" sp [] :=
  C8.cal0 F b .nil sc_request_error len fun cdv A outer s0 H vs Q E hr h => ⟨t_request_error K T, (pss_cons (ps_if (pt_cmpR op_ge (pe_fld (pv 1) rfl) (pe_callB call_len_seq (by rfl) X.b_len (by decide +kernel) (pa_cons (pe_fld (pv 0) rfl) pa_nil)) (nomark _)) (pss_one (ps_ret (C8.pe_gc (by rfl) X.g_UNKNOWN))) pss_nil)
      (pss_cons (ps_if (PW.pt (pw_or (pt_cmpR op_lt (pe_fld (pv 1) rfl) pe_int (nomark _)) (pw_or1 (pt_cmpR op_gt (pe_fld (pv 1) rfl) pe_int (nomark _))))) (pss_one (ps_ret (C8.pe_gc (by rfl) X.g_OUTSIDE))) pss_nil)
      (pss_cons (ps_if (PW.pt (pw_or (pt_cmpR op_gt (pe_callB call_len_seq (by rfl) X.b_len (by decide +kernel) (pa_cons (pe_fld (pv 1) rfl) pa_nil)) (C8.pe_gc (by rfl) X.g_MOST_PAYLOAD) (nomark _)) (pw_or1 (pt_cmpR op_gt (pe_callBK (cr_maxI hr) (by rfl) X.b_max (by decide +kernel) (pa_cons (pe_fld (pv 1) rfl) pa_nil) (pk_cons pe_int pk_nil)) pe_int (nomark _))))) (pss_one (ps_ret (C8.pe_gc (by rfl) X.g_OUTSIDE))) pss_nil)
      (pss_cons (ps_if (pt_cmpR op_eq (pe_callB call_len_seq (by rfl) X.b_len (by decide +kernel) (pa_cons (pe_fld (pv 0) rfl) pa_nil)) (C8.pe_gc (by rfl) X.g_MOST_REQUESTS) (nomark _)) (pss_one (ps_ret (C8.pe_gc (by rfl) X.g_TOO_MANY))) pss_nil)
      (pss_one (ps_ret pe_non)))))), rd vs H Q E h⟩
abbrev s_send_request : Stmt := top 116
abbrev N_send_request : List Str := ["server", "numbers", "ask", "error", "request"]
theorem sc_send_request : FnScope N_send_request ["server", "numbers"] (C8.fnScope s_send_request) := C8.fnScope_by (by decide +kernel)
def t_send_request (K : PySem.W.Frag) (T : Cls7) (sp_Ask : Sp) (sp_request_error : Sp) (sp_arrive : Sp) (sp_shown_status : Sp) : TS := (tSeq (tAsg (tMake T.A sp_Ask [] C8.E0 (tCons (tVar 1) tNil)) (gName 2))
    (tSeq (tAsg (tCall sp_request_error [] C8.E0 (tCons (tVar 0) (tCons (tVar 2) tNil))) (gName 3))
    (tSeq (tIfS (tTest (tOp rNotNon (tVar 3) (tC .non))) (tRet (tLst (tCons (tVar 3) tNil))) tNext)
    (tSeq (tAsg (tCall sp_arrive [] C8.E0 (tCons (tVar 0) (tCons (tVar 2) tNil))) (gName 4))
    (tRet (tLst (tCons (tFld K (tVar 4) "number") (tCons (tCall sp_shown_status [] C8.E0 (tCons (tVar 4) tNil)) tNil))))))))
theorem cal_send_request {f : Addr} {fd : FuncData} {sp : Sp} (F : C8.Def K mg "send_request" s_send_request f fd) (b : Binds K fd ["server", "numbers"] []) (X : Txt K mg T B) {sp_Ask : Sp} (m_Ask : C8.Mak P w K mg base 1 "Ask" T.A sp_Ask []) {sp_request_error : Sp} (c_request_error : C8.Cal P w K mg base 1 "request_error" sp_request_error []) {sp_arrive : Sp} (c_arrive : C8.Cal P w K mg base 9 "arrive" sp_arrive []) {sp_shown_status : Sp} (c_shown_status : C8.Cal P w K mg base 1 "shown_status" sp_shown_status []) (len : ∀ vs H Q E, sp vs H Q E → vs.length = 2)
    (rd : ∀ vs H Q E, sp vs H Q E → t_send_request K T sp_Ask sp_request_error sp_arrive sp_shown_status { nx := fun _ H' => Q .non H', rt := Q } (start N_send_request vs) H) : C8.Cal P w K mg base 10 "send_request" sp [] :=
  C8.cal0 F b .nil sc_send_request len fun cdv A outer s0 H vs Q E hr h => ⟨t_send_request K T sp_Ask sp_request_error sp_arrive sp_shown_status, (pss_cons (ps_set (i := 2) sc_send_request.nd rfl (Or.inl rfl) (C8.pe_mk m_Ask hr (by decide) (by rfl) (pa_cons (pv 1) pa_nil)))
      (pss_cons (ps_set (i := 3) sc_send_request.nd rfl (Or.inl rfl) (C8.pe_c c_request_error hr (by decide) (by rfl) (pa_cons (pv 0) (pa_cons (pv 2) pa_nil))))
      (pss_cons (ps_if (pt_cmpR op_notN (pv 3) pe_non (nomark _)) (pss_one (ps_ret (pe_lst (pa_cons (pv 3) pa_nil)))) pss_nil)
      (pss_cons (ps_set (i := 4) sc_send_request.nd rfl (Or.inl rfl) (C8.pe_c c_arrive hr (by decide) (by rfl) (pa_cons (pv 0) (pa_cons (pv 2) pa_nil))))
      (pss_one (ps_ret (pe_lst (pa_cons (pe_fld (pv 4) rfl) (pa_cons (C8.pe_c c_shown_status hr (by decide) (by rfl) (pa_cons (pv 4) pa_nil)) pa_nil))))))))), rd vs H Q E h⟩
abbrev s_preview_request : Stmt := top 117
abbrev N_preview_request : List Str := ["server", "numbers", "ask", "error"]
theorem sc_preview_request : FnScope N_preview_request ["server", "numbers"] (C8.fnScope s_preview_request) := C8.fnScope_by (by decide +kernel)
def t_preview_request (K : PySem.W.Frag) (T : Cls7) (sp_Ask : Sp) (sp_request_error : Sp) (sp_shown_status : Sp) (sp_arrive_on_trial : Sp) : TS := (tSeq (tAsg (tMake T.A sp_Ask [] C8.E0 (tCons (tVar 1) tNil)) (gName 2))
    (tSeq (tAsg (tCall sp_request_error [] C8.E0 (tCons (tVar 0) (tCons (tVar 2) tNil))) (gName 3))
    (tSeq (tIfS (tTest (tOp rNotNon (tVar 3) (tC .non))) (tRet (tLst (tCons (tVar 3) tNil))) tNext)
    (tRet (tLst (tCons (tCall sp_shown_status [] C8.E0 (tCons (tCall sp_arrive_on_trial [] C8.E0 (tCons (tVar 0) (tCons (tVar 2) tNil))) tNil)) tNil))))))
theorem cal_preview_request {f : Addr} {fd : FuncData} {sp : Sp} (F : C8.Def K mg "preview_request" s_preview_request f fd) (b : Binds K fd ["server", "numbers"] []) (X : Txt K mg T B) {sp_Ask : Sp} (m_Ask : C8.Mak P w K mg base 1 "Ask" T.A sp_Ask []) {sp_request_error : Sp} (c_request_error : C8.Cal P w K mg base 1 "request_error" sp_request_error []) {sp_shown_status : Sp} (c_shown_status : C8.Cal P w K mg base 1 "shown_status" sp_shown_status []) {sp_arrive_on_trial : Sp} (c_arrive_on_trial : C8.Cal P w K mg base 10 "arrive_on_trial" sp_arrive_on_trial []) (len : ∀ vs H Q E, sp vs H Q E → vs.length = 2)
    (rd : ∀ vs H Q E, sp vs H Q E → t_preview_request K T sp_Ask sp_request_error sp_shown_status sp_arrive_on_trial { nx := fun _ H' => Q .non H', rt := Q } (start N_preview_request vs) H) : C8.Cal P w K mg base 11 "preview_request" sp [] :=
  C8.cal0 F b .nil sc_preview_request len fun cdv A outer s0 H vs Q E hr h => ⟨t_preview_request K T sp_Ask sp_request_error sp_shown_status sp_arrive_on_trial, (pss_cons (ps_set (i := 2) sc_preview_request.nd rfl (Or.inl rfl) (C8.pe_mk m_Ask hr (by decide) (by rfl) (pa_cons (pv 1) pa_nil)))
      (pss_cons (ps_set (i := 3) sc_preview_request.nd rfl (Or.inl rfl) (C8.pe_c c_request_error hr (by decide) (by rfl) (pa_cons (pv 0) (pa_cons (pv 2) pa_nil))))
      (pss_cons (ps_if (pt_cmpR op_notN (pv 3) pe_non (nomark _)) (pss_one (ps_ret (pe_lst (pa_cons (pv 3) pa_nil)))) pss_nil)
      (pss_one (ps_ret (pe_lst (pa_cons (C8.pe_c c_shown_status hr (by decide) (by rfl) (pa_cons (C8.pe_c c_arrive_on_trial hr (by decide) (by rfl) (pa_cons (pv 0) (pa_cons (pv 2) pa_nil))) pa_nil)) pa_nil))))))), rd vs H Q E h⟩
abbrev s_cancel : Stmt := top 119
abbrev N_cancel : List Str := ["server", "numbers", "number", "request"]
theorem sc_cancel : FnScope N_cancel ["server", "numbers"] (C8.fnScope s_cancel) := C8.fnScope_by (by decide +kernel)
def t_cancel (K : PySem.W.Frag) (T : Cls7) (sp_leave : Sp) : TS := (tSeq (tAsg (tOp (rIxL K) (tVar 1) (tC (.int 0))) (gName 2))
    (tSeq (tIfS (tTest (tOp rGe (tVar 2) (tCB (Evl.rLenS K) (tCons (tFld K (tVar 0) "requests") tNil)))) (tRet (tLst (tCons (tC (.int (-2))) tNil))) tNext)
    (tSeq (tAsg (tOp (rIxL K) (tFld K (tVar 0) "requests") (tVar 2)) (gName 3))
    (tSeq (tIfS (tTest (tOp rNotNon (tFld K (tVar 3) "status") (tC .non))) (tRet (tLst (tCons (tC (.int (-16))) tNil))) tNext)
    (tSeq (tDrop (tCall sp_leave [] C8.E0 (tCons (tVar 0) (tCons (tVar 3) (tCons (tC (.int 1)) tNil)))))
    (tRet (tLst (tCons (tC (.int 0)) tNil))))))))
theorem cal_cancel {f : Addr} {fd : FuncData} {sp : Sp} (F : C8.Def K mg "cancel" s_cancel f fd) (b : Binds K fd ["server", "numbers"] []) (X : Txt K mg T B) {sp_leave : Sp} (c_leave : C8.Cal P w K mg base 8 "leave" sp_leave []) (len : ∀ vs H Q E, sp vs H Q E → vs.length = 2)
    (rd : ∀ vs H Q E, sp vs H Q E → t_cancel K T sp_leave { nx := fun _ H' => Q .non H', rt := Q } (start N_cancel vs) H) : C8.Cal P w K mg base 9 "cancel" sp [] :=
  C8.cal0 F b .nil sc_cancel len fun cdv A outer s0 H vs Q E hr h => ⟨t_cancel K T sp_leave, (pss_cons (ps_set (i := 2) sc_cancel.nd rfl (Or.inl rfl) (pe_ix ix_list (pv 1) pe_int (fun _ _ => rfl)))
      (pss_cons (ps_if (pt_cmpR op_ge (pv 2) (pe_callB call_len_seq (by rfl) X.b_len (by decide +kernel) (pa_cons (pe_fld (pv 0) rfl) pa_nil)) (nomark _)) (pss_one (ps_ret (pe_lst (pa_cons (C8.pe_gc (by rfl) X.g_UNKNOWN) pa_nil)))) pss_nil)
      (pss_cons (ps_set (i := 3) sc_cancel.nd rfl (Or.inl rfl) (pe_ix ix_list (pe_fld (pv 0) rfl) (pv 2) (fun _ _ => rfl)))
      (pss_cons (ps_if (pt_cmpR op_notN (pe_fld (pv 3) rfl) pe_non (nomark _)) (pss_one (ps_ret (pe_lst (pa_cons (C8.pe_gc (by rfl) X.g_NOT_OPEN) pa_nil)))) pss_nil)
      (pss_cons (ps_expr (C8.pe_c c_leave hr (by decide) (by rfl) (pa_cons (pv 0) (pa_cons (pv 3) (pa_cons (C8.pe_gc (by rfl) X.g_CANCELLED) pa_nil)))))
      (pss_one (ps_ret (pe_lst (pa_cons pe_int pa_nil))))))))), rd vs H Q E h⟩
abbrev s_advance : Stmt := top 120
abbrev N_advance : List Str := ["server", "numbers", "duration", "fired"]
theorem sc_advance : FnScope N_advance ["server", "numbers"] (C8.fnScope s_advance) := C8.fnScope_by (by decide +kernel)
def t_advance (K : PySem.W.Frag) (T : Cls7) (sp_advance_to : Sp) : TS := (tSeq (tAsg (tOp (rIxL K) (tVar 1) (tC (.int 0))) (gName 2))
    (tSeq (tIfS (tTest (tOp rGt (tVar 2) (tC (.int 1000000)))) (tRet (tLst (tCons (tC (.int (-22))) tNil))) tNext)
    (tSeq (tAsg (tCall sp_advance_to [] C8.E0 (tCons (tVar 0) (tCons (tOp rPlus (tFld K (tVar 0) "now") (tVar 2)) tNil))) (gName 3))
    (tRet (tLst (tCons (tVar 3) (tCons (tFld K (tVar 0) "now") tNil)))))))
theorem cal_advance {f : Addr} {fd : FuncData} {sp : Sp} (F : C8.Def K mg "advance" s_advance f fd) (b : Binds K fd ["server", "numbers"] []) (X : Txt K mg T B) {sp_advance_to : Sp} (c_advance_to : C8.Cal P w K mg base 10 "advance_to" sp_advance_to []) (len : ∀ vs H Q E, sp vs H Q E → vs.length = 2)
    (rd : ∀ vs H Q E, sp vs H Q E → t_advance K T sp_advance_to { nx := fun _ H' => Q .non H', rt := Q } (start N_advance vs) H) : C8.Cal P w K mg base 11 "advance" sp [] :=
  C8.cal0 F b .nil sc_advance len fun cdv A outer s0 H vs Q E hr h => ⟨t_advance K T sp_advance_to, (pss_cons (ps_set (i := 2) sc_advance.nd rfl (Or.inl rfl) (pe_ix ix_list (pv 1) pe_int (fun _ _ => rfl)))
      (pss_cons (ps_if (pt_cmpR op_gt (pv 2) pe_int (nomark _)) (pss_one (ps_ret (pe_lst (pa_cons (C8.pe_gc (by rfl) X.g_OUTSIDE) pa_nil)))) pss_nil)
      (pss_cons (ps_set (i := 3) sc_advance.nd rfl (Or.inl rfl) (C8.pe_c c_advance_to hr (by decide) (by rfl) (pa_cons (pv 0) (pa_cons (pe_op op_add (pe_fld (pv 0) rfl) (pv 2)) pa_nil))))
      (pss_one (ps_ret (pe_lst (pa_cons (pv 3) (pa_cons (pe_fld (pv 0) rfl) pa_nil)))))))), rd vs H Q E h⟩
abbrev s_run : Stmt := top 121
abbrev N_run : List Str := ["server", "numbers", "count", "turn", "event"]
theorem sc_run : FnScope N_run ["server", "numbers"] (C8.fnScope s_run) := C8.fnScope_by (by decide +kernel)
def t_run (K : PySem.W.Frag) (T : Cls7) (sp_upcoming_event : Sp) (sp_happen : Sp) : TS := (tSeq (tAsg (tOp (rIxL K) (tVar 1) (tC (.int 0))) (gName 2))
    (tSeq (tIfS (tTest (tOp rGt (tVar 2) (tC (.int 40)))) (tRet (tLst (tCons (tC (.int (-22))) tNil))) tNext)
    (tSeq (tFor (iRng1 (tCons (tVar 2) tNil)) (gName 3) (tSeq (tAsg (tCall sp_upcoming_event [] C8.E0 (tCons (tVar 0) tNil)) (gName 4))
    (tIfS (tTest (tOp rNotNon (tVar 4) (tC .non))) (tDrop (tCall sp_happen [] C8.E0 (tCons (tVar 0) (tCons (tVar 4) tNil)))) tNext)))
    (tRet (tLst (tCons (tFld K (tVar 0) "now") tNil))))))
theorem cal_run {f : Addr} {fd : FuncData} {sp : Sp} (F : C8.Def K mg "run" s_run f fd) (b : Binds K fd ["server", "numbers"] []) (X : Txt K mg T B) {sp_upcoming_event : Sp} (c_upcoming_event : C8.Cal P w K mg base 2 "upcoming_event" sp_upcoming_event []) {sp_happen : Sp} (c_happen : C8.Cal P w K mg base 9 "happen" sp_happen []) (len : ∀ vs H Q E, sp vs H Q E → vs.length = 2)
    (rd : ∀ vs H Q E, sp vs H Q E → t_run K T sp_upcoming_event sp_happen { nx := fun _ H' => Q .non H', rt := Q } (start N_run vs) H) : C8.Cal P w K mg base 10 "run" sp [] :=
  C8.cal0 F b .nil sc_run len fun cdv A outer s0 H vs Q E hr h => ⟨t_run K T sp_upcoming_event sp_happen, (pss_cons (ps_set (i := 2) sc_run.nd rfl (Or.inl rfl) (pe_ix ix_list (pv 1) pe_int (fun _ _ => rfl)))
      (pss_cons (ps_if (pt_cmpR op_gt (pv 2) pe_int (nomark _)) (pss_one (ps_ret (pe_lst (pa_cons (C8.pe_gc (by rfl) X.g_OUTSIDE) pa_nil)))) pss_nil)
      (pss_cons (ps_for PassesOwn.never rfl (pi_range1 (by rfl) X.b_range (pa_cons (pv 2) pa_nil)) (pg_name (i := 3) sc_run.nd rfl (Or.inl rfl)) (pss_cons (ps_set (i := 4) sc_run.nd rfl (Or.inl rfl) (C8.pe_c c_upcoming_event hr (by decide) (by rfl) (pa_cons (pv 0) pa_nil)))
      (pss_one (ps_if (pt_cmpR op_notN (pv 4) pe_non (nomark _)) (pss_one (ps_expr (C8.pe_c c_happen hr (by decide) (by rfl) (pa_cons (pv 0) (pa_cons (pv 4) pa_nil))))) pss_nil))))
      (pss_one (ps_ret (pe_lst (pa_cons (pe_fld (pv 0) rfl) pa_nil))))))), rd vs H Q E h⟩
abbrev s_shutdown : Stmt := top 122
abbrev N_shutdown : List Str := ["server", "numbers", "grace", "counts"]
theorem sc_shutdown : FnScope N_shutdown ["server", "numbers"] (C8.fnScope s_shutdown) := C8.fnScope_by (by decide +kernel)
def t_shutdown (K : PySem.W.Frag) (T : Cls7) (sp_in_state : Sp) (sp_end_grace : Sp) : TS := (tSeq (tAsg (tOp (rIxL K) (tVar 1) (tC (.int 0))) (gName 2))
    (tSeq (tIfS (tTest (tOp rGt (tVar 2) (tC (.int 100000)))) (tRet (tLst (tCons (tC (.int (-22))) tNil))) tNext)
    (tSeq (tIfS (tTest (tOp rNotNon (tFld K (tVar 0) "grace_end") (tC .non))) (tRet (tLst (tCons (tC (.int (-16))) tNil))) tNext)
    (tSeq (tAsg (tLst (tCons (tCB (Evl.rLenS K) (tCons (tCall sp_in_state [] C8.E0 (tCons (tVar 0) (tCons (tC (.int 1)) tNil))) tNil)) (tCons (tCB (Evl.rLenS K) (tCons (tCall sp_in_state [] C8.E0 (tCons (tVar 0) (tCons (tC (.int 0)) tNil))) tNil)) tNil))) (gName 3))
    (tSeq (sFld K (tVar 0) (tOp rPlus (tFld K (tVar 0) "now") (tVar 2)) "grace_end")
    (tSeq (tIfS (tTest (tOp rEq (tVar 2) (tC (.int 0)))) (tDrop (tCall sp_end_grace [] C8.E0 (tCons (tVar 0) tNil))) tNext)
    (tRet (tVar 3))))))))
theorem cal_shutdown {f : Addr} {fd : FuncData} {sp : Sp} (F : C8.Def K mg "shutdown" s_shutdown f fd) (b : Binds K fd ["server", "numbers"] []) (X : Txt K mg T B) {sp_in_state : Sp} (c_in_state : C8.Cal P w K mg base 1 "in_state" sp_in_state []) {sp_end_grace : Sp} (c_end_grace : C8.Cal P w K mg base 2 "end_grace" sp_end_grace []) (len : ∀ vs H Q E, sp vs H Q E → vs.length = 2)
    (rd : ∀ vs H Q E, sp vs H Q E → t_shutdown K T sp_in_state sp_end_grace { nx := fun _ H' => Q .non H', rt := Q } (start N_shutdown vs) H) : C8.Cal P w K mg base 3 "shutdown" sp [] :=
  C8.cal0 F b .nil sc_shutdown len fun cdv A outer s0 H vs Q E hr h => ⟨t_shutdown K T sp_in_state sp_end_grace, (pss_cons (ps_set (i := 2) sc_shutdown.nd rfl (Or.inl rfl) (pe_ix ix_list (pv 1) pe_int (fun _ _ => rfl)))
      (pss_cons (ps_if (pt_cmpR op_gt (pv 2) pe_int (nomark _)) (pss_one (ps_ret (pe_lst (pa_cons (C8.pe_gc (by rfl) X.g_OUTSIDE) pa_nil)))) pss_nil)
      (pss_cons (ps_if (pt_cmpR op_notN (pe_fld (pv 0) rfl) pe_non (nomark _)) (pss_one (ps_ret (pe_lst (pa_cons (C8.pe_gc (by rfl) X.g_NOT_OPEN) pa_nil)))) pss_nil)
      (pss_cons (ps_set (i := 3) sc_shutdown.nd rfl (Or.inl rfl) (pe_lst (pa_cons (pe_callB call_len_seq (by rfl) X.b_len (by decide +kernel) (pa_cons (C8.pe_c c_in_state hr (by decide) (by rfl) (pa_cons (pv 0) (pa_cons (C8.pe_gc (by rfl) X.g_RUNNING) pa_nil))) pa_nil)) (pa_cons (pe_callB call_len_seq (by rfl) X.b_len (by decide +kernel) (pa_cons (C8.pe_c c_in_state hr (by decide) (by rfl) (pa_cons (pv 0) (pa_cons (C8.pe_gc (by rfl) X.g_QUEUED) pa_nil))) pa_nil)) pa_nil))))
      (pss_cons (ps_fld (pv 0) (pe_op op_add (pe_fld (pv 0) rfl) (pv 2)) rfl)
      (pss_cons (ps_if (pt_cmpR op_eq (pv 2) pe_int (nomark _)) (pss_one (ps_expr (C8.pe_c c_end_grace hr (by decide) (by rfl) (pa_cons (pv 0) pa_nil)))) pss_nil)
      (pss_one (ps_ret (pv 3))))))))), rd vs H Q E h⟩
abbrev s_set_limit : Stmt := top 123
abbrev N_set_limit : List Str := ["server", "numbers", "limit", "old_limit"]
theorem sc_set_limit : FnScope N_set_limit ["server", "numbers"] (C8.fnScope s_set_limit) := C8.fnScope_by (by decide +kernel)
def t_set_limit (K : PySem.W.Frag) (T : Cls7) (sp_is_limit : Sp) (sp_fill_slots : Sp) : TS := (tSeq (tAsg (tOp (rIxL K) (tVar 1) (tC (.int 0))) (gName 2))
    (tSeq (tIfS (tNot (tB (tCall sp_is_limit [] C8.E0 (tCons (tVar 2) tNil)))) (tRet (tLst (tCons (tC (.int (-22))) tNil))) tNext)
    (tSeq (tAsg (tFld K (tVar 0) "limit") (gName 3))
    (tSeq (sFld K (tVar 0) (tVar 2) "limit")
    (tSeq (tDrop (tCall sp_fill_slots [] C8.E0 (tCons (tVar 0) tNil)))
    (tRet (tLst (tCons (tVar 3) tNil))))))))
theorem cal_set_limit {f : Addr} {fd : FuncData} {sp : Sp} (F : C8.Def K mg "set_limit" s_set_limit f fd) (b : Binds K fd ["server", "numbers"] []) (X : Txt K mg T B) {sp_is_limit : Sp} (c_is_limit : C8.Cal P w K mg base 1 "is_limit" sp_is_limit []) {sp_fill_slots : Sp} (c_fill_slots : C8.Cal P w K mg base 7 "fill_slots" sp_fill_slots []) (len : ∀ vs H Q E, sp vs H Q E → vs.length = 2)
    (rd : ∀ vs H Q E, sp vs H Q E → t_set_limit K T sp_is_limit sp_fill_slots { nx := fun _ H' => Q .non H', rt := Q } (start N_set_limit vs) H) : C8.Cal P w K mg base 8 "set_limit" sp [] :=
  C8.cal0 F b .nil sc_set_limit len fun cdv A outer s0 H vs Q E hr h => ⟨t_set_limit K T sp_is_limit sp_fill_slots, (pss_cons (ps_set (i := 2) sc_set_limit.nd rfl (Or.inl rfl) (pe_ix ix_list (pv 1) pe_int (fun _ _ => rfl)))
      (pss_cons (ps_if (pt_not (pt_val (C8.pe_c c_is_limit hr (by decide) (by rfl) (pa_cons (pv 2) pa_nil)))) (pss_one (ps_ret (pe_lst (pa_cons (C8.pe_gc (by rfl) X.g_OUTSIDE) pa_nil)))) pss_nil)
      (pss_cons (ps_set (i := 3) sc_set_limit.nd rfl (Or.inl rfl) (pe_fld (pv 0) rfl))
      (pss_cons (ps_fld (pv 0) (pv 2) rfl)
      (pss_cons (ps_expr (C8.pe_c c_fill_slots hr (by decide) (by rfl) (pa_cons (pv 0) pa_nil)))
      (pss_one (ps_ret (pe_lst (pa_cons (pv 3) pa_nil))))))))), rd vs H Q E h⟩
abbrev s_set_roles : Stmt := top 124
abbrev N_set_roles : List Str := ["server", "numbers", "number", "roles", "client", "old_roles"]
theorem sc_set_roles : FnScope N_set_roles ["server", "numbers"] (C8.fnScope s_set_roles) := C8.fnScope_by (by decide +kernel)
def t_set_roles (K : PySem.W.Frag) (T : Cls7) : TS := (tSeq (tAsg (tVar 1) (gUnl K 2 (gCons (gName 2) (gCons (gName 3) gNil))))
    (tSeq (tIfS (tTest (tOp rGe (tVar 2) (tCB (Evl.rLenS K) (tCons (tFld K (tVar 0) "clients") tNil)))) (tRet (tLst (tCons (tC (.int (-2))) tNil))) tNext)
    (tSeq (tIfS (tTest (tOp rGt (tVar 3) (tC (.int 15)))) (tRet (tLst (tCons (tC (.int (-22))) tNil))) tNext)
    (tSeq (tAsg (tOp (rIxL K) (tFld K (tVar 0) "clients") (tVar 2)) (gName 4))
    (tSeq (tAsg (tFld K (tVar 4) "roles") (gName 5))
    (tSeq (sFld K (tVar 4) (tVar 3) "roles")
    (tRet (tLst (tCons (tVar 5) tNil)))))))))
theorem cal_set_roles {f : Addr} {fd : FuncData} {sp : Sp} (F : C8.Def K mg "set_roles" s_set_roles f fd) (b : Binds K fd ["server", "numbers"] []) (X : Txt K mg T B) (len : ∀ vs H Q E, sp vs H Q E → vs.length = 2)
    (rd : ∀ vs H Q E, sp vs H Q E → t_set_roles K T { nx := fun _ H' => Q .non H', rt := Q } (start N_set_roles vs) H) : C8.Cal P w K mg base 1 "set_roles" sp [] :=
  C8.cal0 F b .nil sc_set_roles len fun cdv A outer s0 H vs Q E hr h => ⟨t_set_roles K T, (pss_cons (ps_asg (pv 1) (pg_unl (by rfl) (pgs_cons (pg_name (i := 2) sc_set_roles.nd rfl (Or.inl rfl)) (pgs_cons (pg_name (i := 3) sc_set_roles.nd rfl (Or.inl rfl)) pgs_nil))))
      (pss_cons (ps_if (pt_cmpR op_ge (pv 2) (pe_callB call_len_seq (by rfl) X.b_len (by decide +kernel) (pa_cons (pe_fld (pv 0) rfl) pa_nil)) (nomark _)) (pss_one (ps_ret (pe_lst (pa_cons (C8.pe_gc (by rfl) X.g_UNKNOWN) pa_nil)))) pss_nil)
      (pss_cons (ps_if (pt_cmpR op_gt (pv 3) (C8.pe_gc (by rfl) X.g_MOST_ROLES) (nomark _)) (pss_one (ps_ret (pe_lst (pa_cons (C8.pe_gc (by rfl) X.g_OUTSIDE) pa_nil)))) pss_nil)
      (pss_cons (ps_set (i := 4) sc_set_roles.nd rfl (Or.inl rfl) (pe_ix ix_list (pe_fld (pv 0) rfl) (pv 2) (fun _ _ => rfl)))
      (pss_cons (ps_set (i := 5) sc_set_roles.nd rfl (Or.inl rfl) (pe_fld (pv 4) rfl))
      (pss_cons (ps_fld (pv 4) (pv 3) rfl)
      (pss_one (ps_ret (pe_lst (pa_cons (pv 5) pa_nil)))))))))), rd vs H Q E h⟩
abbrev s_perform : Stmt := top 126
abbrev N_perform : List Str := ["server", "number", "numbers", "operation"]
theorem sc_perform : FnScope N_perform ["server", "number", "numbers"] (C8.fnScope s_perform) := C8.fnScope_by (by decide +kernel)
def t_perform (K : PySem.W.Frag) (T : Cls7) (B : Blt) (SO : Addr → Option Sp) (sp_look : Sp) : TS := (tSeq (tIfS (tTest (tOp (rInI K) (tVar 1) (tC (.ref B.ops)))) (tSeq (tAsg (tOp (rIxI K) (tC (.ref B.ops)) (tVar 1)) (gName 3))
    (tRet (tCallA 3 SO (tCons (tVar 0) (tCons (tVar 2) tNil))))) tNext)
    (tRet (tCall sp_look [] C8.E0 (tCons (tVar 0) (tCons (tVar 1) (tCons (tVar 2) tNil))))))
theorem cal_perform {f : Addr} {fd : FuncData} {sp : Sp} (F : C8.Def K mg "perform" s_perform f fd) (b : Binds K fd ["server", "number", "numbers"] []) (X : Txt K mg T B) {sp_look : Sp} (c_look : C8.Cal P w K mg base 24 "look" sp_look []) {SO : Addr → Option Sp} (AO : ∀ f sp, SO f = some sp → Held P w K mg base 25 f sp) (len : ∀ vs H Q E, sp vs H Q E → vs.length = 3)
    (rd : ∀ vs H Q E, sp vs H Q E → t_perform K T B SO sp_look { nx := fun _ H' => Q .non H', rt := Q } (start N_perform vs) H) : C8.Cal P w K mg base 26 "perform" sp [] :=
  C8.cal0 F b .nil sc_perform len fun cdv A outer s0 H vs Q E hr h => ⟨t_perform K T B SO sp_look, (pss_cons (ps_if (pt_cmpR op_inI (pv 1) (C8.pe_gc (by rfl) X.g_OPERATIONS) (by with_unfolding_all rfl)) (pss_cons (ps_set (i := 3) sc_perform.nd rfl (Or.inl rfl) (pe_ix ix_intdict (C8.pe_gc (by rfl) X.g_OPERATIONS) (pv 1) (fun _ _ => rfl)))
      (pss_one (ps_ret (pe_callA AO hr rfl (.inl rfl) (pa_cons (pv 0) (pa_cons (pv 2) pa_nil)))))) pss_nil)
      (pss_one (ps_ret (C8.pe_c c_look hr (by decide) (by rfl) (pa_cons (pv 0) (pa_cons (pv 1) (pa_cons (pv 2) pa_nil))))))), rd vs H Q E h⟩
abbrev s_split_calls : Stmt := top 130
abbrev N_split_calls : List Str := ["calls", "parts", "position", "start", "end"]
theorem sc_split_calls : FnScope N_split_calls ["calls"] (C8.fnScope s_split_calls) := C8.fnScope_by (by decide +kernel)
def t_split_calls (K : PySem.W.Frag) (T : Cls7) : TS := (tSeq (tAsg (tLst tNil) (gName 1))
    (tSeq (tAsg (tC (.int 0)) (gName 2))
    (tSeq (tWhile (tTest (tOp rLt (tVar 2) (tCB (Evl.rLenS K) (tCons (tVar 0) tNil)))) (tSeq (tAsg (tOp rPlus (tVar 2) (tC (.int 2))) (gName 3))
    (tSeq (tAsg (tOp rPlus (tVar 3) (tOp (rIxL K) (tVar 0) (tOp rPlus (tVar 2) (tC (.int 1))))) (gName 4))
    (tSeq (tDrop (tBM K "list" rAppend (tVar 1) (tCons (tTup (tCons (tOp (rIxL K) (tVar 0) (tVar 2)) (tCons (tSl (rSlL K) (tVar 0) (tPart (tVar 3)) (tPart (tVar 4))) tNil))) tNil)))
    (tAsg (tOp rPlus (tVar 4) (tC (.int 1))) (gName 2))))))
    (tRet (tVar 1)))))
theorem cal_split_calls {f : Addr} {fd : FuncData} {sp : Sp} (F : C8.Def K mg "split_calls" s_split_calls f fd) (b : Binds K fd ["calls"] []) (X : Txt K mg T B) (len : ∀ vs H Q E, sp vs H Q E → vs.length = 1)
    (rd : ∀ vs H Q E, sp vs H Q E → t_split_calls K T { nx := fun _ H' => Q .non H', rt := Q } (start N_split_calls vs) H) : C8.Cal P w K mg base 1 "split_calls" sp [] :=
  C8.cal0 F b .nil sc_split_calls len fun cdv A outer s0 H vs Q E hr h => ⟨t_split_calls K T, (pss_cons (ps_set (i := 1) sc_split_calls.nd rfl (Or.inl rfl) (pe_lst pa_nil))
      (pss_cons (ps_set (i := 2) sc_split_calls.nd rfl (Or.inl rfl) pe_int)
      (pss_cons (ps_while PassesOwn.never (pt_cmpR op_lt (pv 2) (pe_callB call_len_seq (by rfl) X.b_len (by decide +kernel) (pa_cons (pv 0) pa_nil)) (nomark _)) (pss_cons (ps_set (i := 3) sc_split_calls.nd rfl (Or.inl rfl) (pe_op op_add (pv 2) pe_int))
      (pss_cons (ps_set (i := 4) sc_split_calls.nd rfl (Or.inl rfl) (pe_op op_add (pv 3) (pe_ix ix_list (pv 0) (pe_op op_add (pv 2) pe_int) (fun _ _ => rfl))))
      (pss_cons (ps_expr (pe_bm PySem.F.plainAttrs_list PySem.F.slot_list_append PySem.F.type_list_append mt_append (pv 1) (pa_cons (pe_tup (pa_cons (pe_ix ix_list (pv 0) (pv 2) (fun _ _ => rfl)) (pa_cons (pe_slice sl_list (pv 0) (po_some (pv 3)) (po_some (pv 4))) pa_nil))) pa_nil)))
      (pss_one (ps_set (i := 2) sc_split_calls.nd rfl (Or.inl rfl) (pe_op op_add (pv 4) pe_int)))))))
      (pss_one (ps_ret (pv 1)))))), rd vs H Q E h⟩
abbrev s_answers : Stmt := top 129
abbrev N_answers : List Str := ["calls", "server", "flat", "number", "numbers", "created", "answer"]
theorem sc_answers : FnScope N_answers ["calls"] (C8.fnScope s_answers) := C8.fnScope_by (by decide +kernel)
def t_answers (K : PySem.W.Frag) (T : Cls7) (sp_split_calls : Sp) (sp_create : Sp) (sp_perform : Sp) : TS := (tSeq (tAsg (tC .non) (gName 1))
    (tSeq (tAsg (tLst tNil) (gName 2))
    (tSeq (tFor (iList K (tCall sp_split_calls [] C8.E0 (tCons (tVar 0) tNil))) (gTup K 2 (gCons (gName 3) (gCons (gName 4) gNil))) (tSeq (tIfS (tTest (tOp rEq (tVar 3) (tC (.int 0)))) (tSeq (tAsg (tCall sp_create [] C8.E0 (tCons (tVar 4) tNil)) (gName 5))
    (tSeq (tAsg (tIf (tTest (tOp rIsNon (tVar 5) (tC .non))) (tLst (tCons (tC (.int (-22))) tNil)) (tLst (tCons (tC (.int 0)) tNil))) (gName 6))
    (tAsg (tIf (tTest (tOp rIsNon (tVar 5) (tC .non))) (tVar 1) (tVar 5)) (gName 1)))) (tIfS (tTest (tOp rIsNon (tVar 1) (tC .non))) (tAsg (tLst (tCons (tC (.int (-11))) tNil)) (gName 6)) (tAsg (tCall sp_perform [] C8.E0 (tCons (tVar 1) (tCons (tVar 3) (tCons (tVar 4) tNil)))) (gName 6))))
    (tSeq (tDrop (tBM K "list" rAppend (tVar 2) (tCons (tCB (Evl.rLenS K) (tCons (tVar 6) tNil)) tNil)))
    (tDrop (tBM K "list" rExtend (tVar 2) (tCons (tVar 6) tNil))))))
    (tRet (tVar 2)))))
theorem cal_answers {f : Addr} {fd : FuncData} {sp : Sp} (F : C8.Def K mg "answers" s_answers f fd) (b : Binds K fd ["calls"] []) (X : Txt K mg T B) {sp_split_calls : Sp} (c_split_calls : C8.Cal P w K mg base 1 "split_calls" sp_split_calls []) {sp_create : Sp} (c_create : C8.Cal P w K mg base 3 "create" sp_create []) {sp_perform : Sp} (c_perform : C8.Cal P w K mg base 26 "perform" sp_perform []) (len : ∀ vs H Q E, sp vs H Q E → vs.length = 1)
    (rd : ∀ vs H Q E, sp vs H Q E → t_answers K T sp_split_calls sp_create sp_perform { nx := fun _ H' => Q .non H', rt := Q } (start N_answers vs) H) : C8.Cal P w K mg base 28 "answers" sp [] :=
  C8.cal0 F b .nil sc_answers len fun cdv A outer s0 H vs Q E hr h => ⟨t_answers K T sp_split_calls sp_create sp_perform, (pss_cons (ps_set (i := 1) sc_answers.nd rfl (Or.inl rfl) pe_non)
      (pss_cons (ps_set (i := 2) sc_answers.nd rfl (Or.inl rfl) (pe_lst pa_nil))
      (pss_cons (ps_for PassesOwn.never rfl (pi_list (C8.pe_c c_split_calls hr (by decide) (by rfl) (pa_cons (pv 0) pa_nil))) (pg_tup (by rfl) (pgs_cons (pg_name (i := 3) sc_answers.nd rfl (Or.inl rfl)) (pgs_cons (pg_name (i := 4) sc_answers.nd rfl (Or.inl rfl)) pgs_nil))) (pss_cons (ps_if (pt_cmpR op_eq (pv 3) (C8.pe_gc (by rfl) X.g_CREATE) (nomark _)) (pss_cons (ps_set (i := 5) sc_answers.nd rfl (Or.inl rfl) (C8.pe_c c_create hr (by decide) (by rfl) (pa_cons (pv 4) pa_nil)))
      (pss_cons (ps_set (i := 6) sc_answers.nd rfl (Or.inl rfl) (pe_ifExp (pt_cmpR op_isN (pv 5) pe_non (nomark _)) (pe_lst (pa_cons (C8.pe_gc (by rfl) X.g_OUTSIDE) pa_nil)) (pe_lst (pa_cons pe_int pa_nil))))
      (pss_one (ps_set (i := 1) sc_answers.nd rfl (Or.inl rfl) (pe_ifExp (pt_cmpR op_isN (pv 5) pe_non (nomark _)) (pv 1) (pv 5)))))) (pss_one (ps_if (pt_cmpR op_isN (pv 1) pe_non (nomark _)) (pss_one (ps_set (i := 6) sc_answers.nd rfl (Or.inl rfl) (pe_lst (pa_cons (C8.pe_gc (by rfl) X.g_NO_SERVER) pa_nil)))) (pss_one (ps_set (i := 6) sc_answers.nd rfl (Or.inl rfl) (C8.pe_c c_perform hr (by decide) (by rfl) (pa_cons (pv 1) (pa_cons (pv 3) (pa_cons (pv 4) pa_nil)))))))))
      (pss_cons (ps_expr (pe_bm PySem.F.plainAttrs_list PySem.F.slot_list_append PySem.F.type_list_append mt_append (pv 2) (pa_cons (pe_callB call_len_seq (by rfl) X.b_len (by decide +kernel) (pa_cons (pv 6) pa_nil)) pa_nil)))
      (pss_one (ps_expr (pe_bm PySem.F.plainAttrs_list PySem.F.slot_list_extend PySem.F.type_list_extend mt_extend (pv 2) (pa_cons (pv 6) pa_nil)))))))
      (pss_one (ps_ret (pv 2)))))), rd vs H Q E h⟩
end
end Kc
/-! the server's parts changed one at a time, further -/
namespace Kc
open PySem PySem.Spec PyProof.Rows L2 KM
def Loc.put (L : Loc) (r : Role) (p d : Addr) : Loc := ⟨fun q => if q = r then p else L.at_ q, fun q => if q = r then d else L.dx q⟩
theorem put_at {L : Loc} {r : Role} {p d : Addr} : (L.put r p d).at_ r = p := if_pos rfl
theorem put_dx {L : Loc} {r : Role} {p d : Addr} : (L.put r p d).dx r = d := if_pos rfl
theorem put_ne {L : Loc} {r q : Role} {p d : Addr} (h : q ≠ r) : (L.put r p d).at_ q = L.at_ q := if_neg h
theorem put_dne {L : Loc} {r q : Role} {p d : Addr} (h : q ≠ r) : (L.put r p d).dx q = L.dx q := if_neg h
theorem refs_congr {L L' : Loc} {mk : Nat → Role} {n : Nat} (h : ∀ i, i < n → L'.at_ (mk i) = L.at_ (mk i)) : refs L' mk n = refs L mk n := by
  unfold refs
  refine List.map_congr_left fun i hi => ?_
  rw [h i (List.mem_range.mp hi)]
theorem refs_succ {L : Loc} {mk : Nat → Role} {n : Nat} : refs L mk (n + 1) = refs L mk n ++ [.ref (L.at_ (mk n))] := by
  unfold refs
  rw [List.range_succ, List.map_append]
  rfl
theorem refs_len {L : Loc} {mk : Nat → Role} {n : Nat} : (refs L mk n).length = n := by
  unfold refs
  rw [List.length_map, List.length_range]
theorem refs_pop {L : Loc} {mk : Nat → Role} {n : Nat} : (refs L mk (n + 1)).dropLast = refs L mk n := by
  rw [refs_succ, List.dropLast_concat]
theorem refs_get {L : Loc} {mk : Nat → Role} {n i : Nat} (h : i < n) : (refs L mk n)[i]? = some (.ref (L.at_ (mk i))) := by
  unfold refs
  rw [List.getElem?_map, List.getElem?_range h]
  rfl
theorem refs_at {L : Loc} {mk : Nat → Role} {n i : Nat} {x : V} (h : (refs L mk n)[i]? = some x) : i < n ∧ x = .ref (L.at_ (mk i)) := by
  have q : i < n := by
    have z := (List.getElem?_eq_some_iff.mp h).1
    rwa [refs_len] at z
  rw [refs_get q] at h
  exact ⟨q, (Option.some.inj h).symm⟩
section
variable {T : Cls7} {s s' : Srv} {L : Loc} {H H1 : Hp} {i : Nat}
/-- the server's own numbers -/
theorem Go.srv (R : Rep T s L H) (h1 : s'.methods = s.methods) (h2 : s'.clients = s.clients) (h3 : s'.executions = s.executions) (h4 : s'.requests = s.requests) (h5 : s'.registers = s.registers) :
    Go T s L H s' L (upd H (L.at_ .srv) (.ins T.S (L.dx .srv) (nS.zip (vS L s')))) := by
  refine Go.write (r := .srv) R rfl rfl fun q hq => ?_
  cases q <;> first | exact absurd rfl hq | simp only [cont, h1, h2, h3, h4, h5]
theorem Go.regs (R : Rep T s L H) {l : List Nat} : Go T s L H { s with registers := l } L (upd H (L.at_ .regs) (.lst (intL l))) := by
  refine Go.write (r := .regs) R rfl rfl fun q hq => ?_
  cases q <;> first | exact absurd rfl hq | rfl
/-- an execution's parts: one role is written, the others are as they were or gone -/
theorem Go.part (R : Rep T s L H) {e e' : Exe} (h : s.executions[i]? = some e) {r : Role} {o o' : HO} (h0 : cont T s L r = some o) (h1 : cont T (setE s i e') L r = some o')
    (hE : r = .exe i ∨ vE L i e' = vE L i e) (hP : r = .pay i ∨ e'.payload = e.payload) (hM : r = .emi i ∨ e'.emitted = e.emitted) (hL : r = .frs i ∨ e'.frames.length = e.frames.length)
    (hF : ∀ j f, r ≠ .frm i j → e'.frames.reverse[j]? = some f → e.frames.reverse[j]? = some f) : Go T s L H (setE s i e') L (upd H (L.at_ r) o') := by
  have off : ∀ j, j ≠ i → (s.executions.set i e')[j]? = s.executions[j]? := fun j hj => set_off hj
  have at_ : (s.executions.set i e')[i]? = some e' := set_at h
  have key : ∀ q, q ≠ r → ∀ u, cont T (setE s i e') L q = some u → cont T s L q = some u := fun q hq u hu => by
    cases q <;> simp only [cont, KM.setE, vS, List.length_set] at hu ⊢
    case exe j =>
      by_cases z : j = i
      · subst z
        rw [at_] at hu
        rw [h]
        simp only [Option.map_some] at hu ⊢
        rcases hE with y | y
        · exact absurd y.symm hq
        · rw [← y]
          exact hu
      · rw [← off j z]
        exact hu
    case pay j =>
      by_cases z : j = i
      · subst z
        rw [at_] at hu
        rw [h]
        simp only [Option.map_some] at hu ⊢
        rcases hP with y | y
        · exact absurd y.symm hq
        · rw [← y]
          exact hu
      · rw [← off j z]
        exact hu
    case emi j =>
      by_cases z : j = i
      · subst z
        rw [at_] at hu
        rw [h]
        simp only [Option.map_some] at hu ⊢
        rcases hM with y | y
        · exact absurd y.symm hq
        · rw [← y]
          exact hu
      · rw [← off j z]
        exact hu
    case frs j =>
      by_cases z : j = i
      · subst z
        rw [at_] at hu
        rw [h]
        simp only [Option.map_some] at hu ⊢
        rcases hL with y | y
        · exact absurd y.symm hq
        · rw [← y]
          exact hu
      · rw [← off j z]
        exact hu
    case frm j j2 =>
      by_cases z : j = i
      · subst z
        rw [at_] at hu
        rw [h]
        simp only [Option.bind_some] at hu ⊢
        obtain ⟨f, hf, hu⟩ := Option.map_eq_some_iff.mp hu
        rw [hF j2 f (fun y => hq y.symm) hf]
        simp only [Option.map_some, hu]
      · rw [← off j z]
        exact hu
    all_goals exact hu
  refine Go.grow (L' := L) R (Evl.Ex.refl H) (fun _ => False) h0 (fun _ _ => rfl) h1 (fun z => z) (fun q u hq hu => .inl ⟨fun z => z, key q hq u hu⟩) (fun _ z => z.elim) (fun _ _ z => z.elim) fun q sq hs => ⟨?_, fun z => z⟩
  by_cases z : q = r
  · rw [z, h1]
    rfl
  · cases q <;> simp only [cont, KM.setE, List.length_set, Option.isSome_map] at hs ⊢
    case frm j j2 => exact sq.elim
    all_goals first
      | exact hs
      | (rename_i j
         by_cases y : j = i
         · rw [y, at_]
           rfl
         · rw [off j y]
           exact hs)
/-- the values that an execution has emitted -/
theorem Go.emit (R : Rep T s L H) {e e' : Exe} (h : s.executions[i]? = some e) (h1 : vE L i e' = vE L i e) (h2 : e'.payload = e.payload) (h3 : e'.frames = e.frames) : Go T s L H (setE s i e') L (upd H (L.at_ (.emi i)) (.lst (intL e'.emitted))) :=
  Go.part R h (r := .emi i) (o := .lst (intL e.emitted)) (by simp only [cont, h, Option.map_some]) (by simp only [cont, KM.setE, set_at h, Option.map_some]) (.inr h1) (.inr h2) (.inl rfl) (.inr (by rw [h3])) fun j f _ q => by rw [h3] at q; exact q
/-- the frame on top goes on -/
theorem Go.pos (R : Rep T s L H) {e e' : Exe} {f f' : Nat × Nat} {r : List (Nat × Nat)} (h : s.executions[i]? = some e) (hf : e.frames = f :: r) (hf' : e'.frames = f' :: r) (h1 : vE L i e' = vE L i e) (h2 : e'.payload = e.payload) (h3 : e'.emitted = e.emitted) :
    Go T s L H (setE s i e') L (upd H (L.at_ (.frm i r.length)) (.ins T.F (L.dx (.frm i r.length)) (nF.zip (vF L f')))) := by
  have a1 : e.frames.reverse[r.length]? = some f := by rw [hf, List.reverse_cons, List.getElem?_append_right (by rw [List.length_reverse]; exact Nat.le_refl _), List.length_reverse, Nat.sub_self]; rfl
  have a2 : e'.frames.reverse[r.length]? = some f' := by rw [hf', List.reverse_cons, List.getElem?_append_right (by rw [List.length_reverse]; exact Nat.le_refl _), List.length_reverse, Nat.sub_self]; rfl
  refine Go.part R h (r := .frm i r.length) (o := .ins T.F (L.dx (.frm i r.length)) (nF.zip (vF L f))) (by simp only [cont, h, a1, Option.map_some, Option.bind_some]) (by simp only [cont, KM.setE, set_at h, a2, Option.map_some, Option.bind_some]) (.inr h1) (.inr h2) (.inr h3) (.inr (by rw [hf, hf']; rfl)) fun j g hj q => ?_
  have ne : j ≠ r.length := fun z => hj (by rw [z])
  have lt : j < r.length := by
    have z := (List.getElem?_eq_some_iff.mp q).1
    rw [List.length_reverse, hf', List.length_cons] at z
    omega
  rw [hf', List.reverse_cons, List.getElem?_append_left (by rw [List.length_reverse]; exact lt)] at q
  rw [hf, List.reverse_cons, List.getElem?_append_left (by rw [List.length_reverse]; exact lt)]
  exact q
/-- the frame on top is done -/
theorem Go.pop (R : Rep T s L H) {e e' : Exe} {f : Nat × Nat} {r : List (Nat × Nat)} (h : s.executions[i]? = some e) (hf : e.frames = f :: r) (hf' : e'.frames = r) (h1 : vE L i e' = vE L i e) (h2 : e'.payload = e.payload) (h3 : e'.emitted = e.emitted) :
    Go T s L H (setE s i e') L (upd H (L.at_ (.frs i)) (.lst (refs L (.frm i) r.length))) := by
  refine Go.part R h (r := .frs i) (o := .lst (refs L (.frm i) e.frames.length)) (by simp only [cont, h, Option.map_some]) (by simp only [cont, KM.setE, set_at h, hf', Option.map_some]) (.inr h1) (.inr h2) (.inr h3) (.inl rfl) fun j g _ q => ?_
  have lt : j < r.length := by
    have z := (List.getElem?_eq_some_iff.mp q).1
    rw [List.length_reverse, hf'] at z
    exact z
  rw [hf'] at q
  rw [hf, List.reverse_cons, List.getElem?_append_left (by rw [List.length_reverse]; exact lt)]
  exact q
end
end Kc
/-! the server's lists get longer -/
namespace Kc
open PySem PySem.Spec PyProof.Rows L2 KM
theorem app_at {α : Type} {l : List α} {x y : α} {j : Nat} (h : (l ++ [x])[j]? = some y) : l[j]? = some y ∨ (j = l.length ∧ y = x) := by
  by_cases z : j < l.length
  · rw [List.getElem?_append_left z] at h
    exact .inl h
  · rw [List.getElem?_append_right (by omega)] at h
    by_cases q : j = l.length
    · rw [q, Nat.sub_self] at h
      exact .inr ⟨q, (Option.some.inj h).symm⟩
    · obtain ⟨k, hk⟩ : ∃ k, j - l.length = k + 1 := ⟨j - l.length - 1, by omega⟩
      rw [hk] at h
      cases h
theorem app_old {α : Type} {l : List α} {x y : α} {j : Nat} (h : l[j]? = some y) : (l ++ [x])[j]? = some y := by
  rw [List.getElem?_append_left (List.getElem?_eq_some_iff.mp h).1]
  exact h
theorem app_new {α : Type} {l : List α} {x : α} : (l ++ [x])[l.length]? = some x := by
  rw [List.getElem?_append_right (Nat.le_refl _), Nat.sub_self]
  rfl
section
variable {T : Cls7} {s : Srv} {L : Loc} {H H1 : Hp}
/-- a new frame -/
theorem Go.push (R : Rep T s L H) (e : Evl.Ex H H1) {i : Nat} {x x' : Exe} {f : Nat × Nat} {p d : Addr} (h : s.executions[i]? = some x) (hf : x'.frames = f :: x.frames) (h1 : vE L i x' = vE L i x) (h2 : x'.payload = x.payload) (h3 : x'.emitted = x.emitted)
    (hp : H p = none) (hp1 : H1 p = some (.ins T.F d (nF.zip (vF L f)))) :
    Go T s L H (setE s i x') (L.put (.frm i x.frames.length) p d) (upd H1 (L.at_ (.frs i)) (.lst (refs L (.frm i) x.frames.length ++ [.ref p]))) := by
  have off : ∀ j, j ≠ i → (s.executions.set i x')[j]? = s.executions[j]? := fun j hj => set_off hj
  have at_ : (s.executions.set i x')[i]? = some x' := set_at h
  have vE' : ∀ j y, vE (L.put (.frm i x.frames.length) p d) j y = vE L j y := fun j y => by simp [vE, Loc.put]
  have vF' : ∀ y, vF (L.put (.frm i x.frames.length) p d) y = vF L y := fun y => by simp [vF, Loc.put]
  have vS' : vS (L.put (.frm i x.frames.length) p d) (setE s i x') = vS L s := by simp [vS, Loc.put, KM.setE]
  have vM' : ∀ j y, vM (L.put (.frm i x.frames.length) p d) j y = vM L j y := fun j y => by simp [vM, Loc.put]
  have rf : ∀ (mk : Nat → Role) (n : Nat), (∀ k, k < n → mk k ≠ .frm i x.frames.length) → refs (L.put (.frm i x.frames.length) p d) mk n = refs L mk n := fun mk n hn => refs_congr fun k hk => put_ne (hn k hk)
  refine Go.grow (r0 := .frs i) R e (fun r => r = .frm i x.frames.length) (o := .lst (refs L (.frm i) x.frames.length)) (by simp only [cont, h, Option.map_some]) (fun r hr => put_ne hr) ?_ (by simp) (fun r u hr hu => ?_) (fun r hr => by rw [hr, put_at]; exact hp) (fun r r' h1 h2 _ => h1.trans h2.symm) fun r sr hs => ⟨?_, fun z => by rw [z] at sr; exact sr⟩
  · simp only [cont, KM.setE, at_, hf, Option.map_some, List.length_cons]
    rw [refs_succ, put_at, rf]
    intro k hk z
    injection z with _ z2
    omega
  · cases r with
    | frm j j2 =>
      simp only [cont, KM.setE] at hu
      by_cases z : j = i
      · subst z
        rw [at_] at hu
        simp only [Option.bind_some, hf, List.reverse_cons] at hu
        obtain ⟨g, hg, hv⟩ := Option.map_eq_some_iff.mp hu
        clear hu
        rcases app_at hg with q | ⟨q1, q2⟩
        · have ne : Role.frm j j2 ≠ .frm j x.frames.length := fun z => by
            injection z with _ z2
            have q3 := (List.getElem?_eq_some_iff.mp q).1
            rw [List.length_reverse] at q3
            omega
          rw [put_dne ne, vF'] at hv
          exact .inl ⟨ne, by simp only [cont, h, q, Option.bind_some, Option.map_some]; rw [hv]⟩
        · rw [List.length_reverse] at q1
          subst q1 q2
          rw [put_dx, vF'] at hv
          rw [← hv, put_at]
          exact .inr ⟨rfl, hp1⟩
      · have ne : Role.frm j j2 ≠ .frm i x.frames.length := fun y => by injection y with y1 _; exact z y1
        rw [off j z, put_dne ne] at hu
        simp only [vF'] at hu
        exact .inl ⟨ne, hu⟩
    | exe j =>
      simp only [cont, KM.setE, vE'] at hu
      refine .inl ⟨by simp, ?_⟩
      rw [put_dne (by simp)] at hu
      by_cases z : j = i
      · subst z
        rw [at_] at hu
        simp only [cont, h, Option.map_some] at hu ⊢
        rw [← h1]
        exact hu
      · rw [off j z] at hu
        exact hu
    | pay j =>
      simp only [cont, KM.setE] at hu
      refine .inl ⟨by simp, ?_⟩
      by_cases z : j = i
      · subst z
        rw [at_] at hu
        simp only [cont, h, Option.map_some] at hu ⊢
        rw [← h2]
        exact hu
      · rw [off j z] at hu
        exact hu
    | emi j =>
      simp only [cont, KM.setE] at hu
      refine .inl ⟨by simp, ?_⟩
      by_cases z : j = i
      · subst z
        rw [at_] at hu
        simp only [cont, h, Option.map_some] at hu ⊢
        rw [← h3]
        exact hu
      · rw [off j z] at hu
        exact hu
    | frs j =>
      have z : j ≠ i := fun z => hr (by rw [z])
      simp only [cont, KM.setE] at hu
      rw [off j z] at hu
      have q : ∀ y : Exe, refs (L.put (.frm i x.frames.length) p d) (.frm j) y.frames.length = refs L (.frm j) y.frames.length := fun y => rf _ _ fun k _ y => by injection y with y1 _; exact z y1
      simp only [q] at hu
      exact .inl ⟨by simp, hu⟩
    | srv =>
      simp only [cont, vS'] at hu
      rw [put_dne (by simp)] at hu
      exact .inl ⟨by simp, hu⟩
    | meth j =>
      simp only [cont, vM'] at hu
      rw [put_dne (by simp)] at hu
      exact .inl ⟨by simp, hu⟩
    | cli j =>
      simp only [cont] at hu
      rw [put_dne (by simp)] at hu
      exact .inl ⟨by simp, hu⟩
    | req j =>
      simp only [cont] at hu
      rw [put_dne (by simp)] at hu
      exact .inl ⟨by simp, hu⟩
    | meths =>
      simp only [cont] at hu
      rw [rf _ _ fun k _ z => by cases z] at hu
      exact .inl ⟨by simp, hu⟩
    | clis =>
      simp only [cont] at hu
      rw [rf _ _ fun k _ z => by cases z] at hu
      exact .inl ⟨by simp, hu⟩
    | exes =>
      simp only [cont, KM.setE, List.length_set] at hu
      rw [rf _ _ fun k _ z => by cases z] at hu
      exact .inl ⟨by simp, hu⟩
    | reqs =>
      simp only [cont] at hu
      rw [rf _ _ fun k _ z => by cases z] at hu
      exact .inl ⟨by simp, hu⟩
    | regs => exact .inl ⟨by simp, hu⟩
    | prog j => exact .inl ⟨by simp, hu⟩
  · cases r <;> simp only [cont, KM.setE, Option.isSome_map] at hs ⊢
    case frm j j2 => exact sr.elim
    all_goals first
      | exact hs
      | rfl
      | (rename_i j
         by_cases y : j = i
         · rw [y, at_]
           rfl
         · rw [off j y]
           exact hs)

/-- a new request -/
theorem Go.addReq (R : Rep T s L H) (e : Evl.Ex H H1) {r : Req} {p d : Addr} (hp : H p = none) (hp1 : H1 p = some (.ins T.R d (nR.zip (vR s.requests.length r)))) :
    Go T s L H { s with requests := s.requests ++ [r] } (L.put (.req s.requests.length) p d) (upd H1 (L.at_ .reqs) (.lst (refs L .req s.requests.length ++ [.ref p]))) := by
  have vE' : ∀ j y, vE (L.put (.req s.requests.length) p d) j y = vE L j y := fun j y => by simp [vE, Loc.put]
  have vF' : ∀ y, vF (L.put (.req s.requests.length) p d) y = vF L y := fun y => by simp [vF, Loc.put]
  have vS' : vS (L.put (.req s.requests.length) p d) { s with requests := s.requests ++ [r] } = vS L s := by simp [vS, Loc.put]
  have vM' : ∀ j y, vM (L.put (.req s.requests.length) p d) j y = vM L j y := fun j y => by simp [vM, Loc.put]
  have rf : ∀ (mk : Nat → Role) (n : Nat), (∀ k, k < n → mk k ≠ .req s.requests.length) → refs (L.put (.req s.requests.length) p d) mk n = refs L mk n := fun mk n hn => refs_congr fun k hk => put_ne (hn k hk)
  refine Go.grow (r0 := .reqs) R e (fun q => q = .req s.requests.length) (o := .lst (refs L .req s.requests.length)) rfl (fun q hq => put_ne hq) ?_ (by simp) (fun q u hq hu => ?_) (fun q hq => by rw [hq, put_at]; exact hp) (fun q q' h1 h2 _ => h1.trans h2.symm) fun q sq hs => ?_
  · simp only [cont, List.length_append, List.length_singleton]
    rw [refs_succ, put_at, rf]
    intro k hk z
    injection z with z2
    omega
  · cases q with
    | req j =>
      simp only [cont] at hu
      obtain ⟨g, hg, hv⟩ := Option.map_eq_some_iff.mp hu
      rcases app_at hg with k | ⟨k1, k2⟩
      · have ne : Role.req j ≠ .req s.requests.length := fun z => by
          injection z with z2
          have q3 := (List.getElem?_eq_some_iff.mp k).1
          omega
        rw [put_dne ne] at hv
        exact .inl ⟨ne, by simp only [cont, k, Option.map_some]; rw [hv]⟩
      · subst k1 k2
        rw [put_dx] at hv
        rw [← hv, put_at]
        exact .inr ⟨rfl, hp1⟩
    | reqs => exact absurd rfl hq
    | srv =>
      simp only [cont, vS'] at hu
      rw [put_dne (by simp)] at hu
      exact .inl ⟨by simp, hu⟩
    | exe j =>
      simp only [cont, vE'] at hu
      rw [put_dne (by simp)] at hu
      exact .inl ⟨by simp, hu⟩
    | frm j j2 =>
      simp only [cont, vF'] at hu
      rw [put_dne (by simp)] at hu
      exact .inl ⟨by simp, hu⟩
    | meth j =>
      simp only [cont, vM'] at hu
      rw [put_dne (by simp)] at hu
      exact .inl ⟨by simp, hu⟩
    | cli j =>
      simp only [cont] at hu
      rw [put_dne (by simp)] at hu
      exact .inl ⟨by simp, hu⟩
    | frs j =>
      simp only [cont] at hu
      have z : ∀ y : Exe, refs (L.put (.req s.requests.length) p d) (.frm j) y.frames.length = refs L (.frm j) y.frames.length := fun y => rf _ _ fun k _ y => by cases y
      simp only [z] at hu
      exact .inl ⟨by simp, hu⟩
    | meths =>
      simp only [cont] at hu
      rw [rf _ _ fun k _ z => by cases z] at hu
      exact .inl ⟨by simp, hu⟩
    | clis =>
      simp only [cont] at hu
      rw [rf _ _ fun k _ z => by cases z] at hu
      exact .inl ⟨by simp, hu⟩
    | exes =>
      simp only [cont] at hu
      rw [rf _ _ fun k _ z => by cases z] at hu
      exact .inl ⟨by simp, hu⟩
    | regs => exact .inl ⟨by simp, hu⟩
    | prog j => exact .inl ⟨by simp, hu⟩
    | pay j => exact .inl ⟨by simp, hu⟩
    | emi j => exact .inl ⟨by simp, hu⟩
  · cases q with
    | req j =>
      simp only [cont, Option.isSome_map] at hs ⊢
      obtain ⟨y, hy⟩ := Option.isSome_iff_exists.mp hs
      refine ⟨by rw [app_old hy]; rfl, fun z => ?_⟩
      injection z with z2
      have q3 := (List.getElem?_eq_some_iff.mp hy).1
      omega
    | frm j j2 => exact sq.elim
    | _ => exact ⟨by simp only [cont, Option.isSome_map] at hs ⊢; first | exact hs | rfl, by simp⟩
/-- a new client -/
theorem Go.addCli (R : Rep T s L H) (e : Evl.Ex H H1) {r : Cli} {p d : Addr} (hp : H p = none) (hp1 : H1 p = some (.ins T.C d (nC.zip (vC r)))) :
    Go T s L H { s with clients := s.clients ++ [r] } (L.put (.cli s.clients.length) p d) (upd H1 (L.at_ .clis) (.lst (refs L .cli s.clients.length ++ [.ref p]))) := by
  have vE' : ∀ j y, vE (L.put (.cli s.clients.length) p d) j y = vE L j y := fun j y => by simp [vE, Loc.put]
  have vF' : ∀ y, vF (L.put (.cli s.clients.length) p d) y = vF L y := fun y => by simp [vF, Loc.put]
  have vS' : vS (L.put (.cli s.clients.length) p d) { s with clients := s.clients ++ [r] } = vS L s := by simp [vS, Loc.put]
  have vM' : ∀ j y, vM (L.put (.cli s.clients.length) p d) j y = vM L j y := fun j y => by simp [vM, Loc.put]
  have rf : ∀ (mk : Nat → Role) (n : Nat), (∀ k, k < n → mk k ≠ .cli s.clients.length) → refs (L.put (.cli s.clients.length) p d) mk n = refs L mk n := fun mk n hn => refs_congr fun k hk => put_ne (hn k hk)
  refine Go.grow (r0 := .clis) R e (fun q => q = .cli s.clients.length) (o := .lst (refs L .cli s.clients.length)) rfl (fun q hq => put_ne hq) ?_ (by simp) (fun q u hq hu => ?_) (fun q hq => by rw [hq, put_at]; exact hp) (fun q q' h1 h2 _ => h1.trans h2.symm) fun q sq hs => ?_
  · simp only [cont, List.length_append, List.length_singleton]
    rw [refs_succ, put_at, rf]
    intro k hk z
    injection z with z2
    omega
  · cases q with
    | cli j =>
      simp only [cont] at hu
      obtain ⟨g, hg, hv⟩ := Option.map_eq_some_iff.mp hu
      rcases app_at hg with k | ⟨k1, k2⟩
      · have ne : Role.cli j ≠ .cli s.clients.length := fun z => by
          injection z with z2
          have q3 := (List.getElem?_eq_some_iff.mp k).1
          omega
        rw [put_dne ne] at hv
        exact .inl ⟨ne, by simp only [cont, k, Option.map_some]; rw [hv]⟩
      · subst k1 k2
        rw [put_dx] at hv
        rw [← hv, put_at]
        exact .inr ⟨rfl, hp1⟩
    | clis => exact absurd rfl hq
    | srv =>
      simp only [cont, vS'] at hu
      rw [put_dne (by simp)] at hu
      exact .inl ⟨by simp, hu⟩
    | exe j =>
      simp only [cont, vE'] at hu
      rw [put_dne (by simp)] at hu
      exact .inl ⟨by simp, hu⟩
    | frm j j2 =>
      simp only [cont, vF'] at hu
      rw [put_dne (by simp)] at hu
      exact .inl ⟨by simp, hu⟩
    | meth j =>
      simp only [cont, vM'] at hu
      rw [put_dne (by simp)] at hu
      exact .inl ⟨by simp, hu⟩
    | req j =>
      simp only [cont] at hu
      rw [put_dne (by simp)] at hu
      exact .inl ⟨by simp, hu⟩
    | frs j =>
      simp only [cont] at hu
      have z : ∀ y : Exe, refs (L.put (.cli s.clients.length) p d) (.frm j) y.frames.length = refs L (.frm j) y.frames.length := fun y => rf _ _ fun k _ y => by cases y
      simp only [z] at hu
      exact .inl ⟨by simp, hu⟩
    | meths =>
      simp only [cont] at hu
      rw [rf _ _ fun k _ z => by cases z] at hu
      exact .inl ⟨by simp, hu⟩
    | reqs =>
      simp only [cont] at hu
      rw [rf _ _ fun k _ z => by cases z] at hu
      exact .inl ⟨by simp, hu⟩
    | exes =>
      simp only [cont] at hu
      rw [rf _ _ fun k _ z => by cases z] at hu
      exact .inl ⟨by simp, hu⟩
    | regs => exact .inl ⟨by simp, hu⟩
    | prog j => exact .inl ⟨by simp, hu⟩
    | pay j => exact .inl ⟨by simp, hu⟩
    | emi j => exact .inl ⟨by simp, hu⟩
  · cases q with
    | cli j =>
      simp only [cont, Option.isSome_map] at hs ⊢
      obtain ⟨y, hy⟩ := Option.isSome_iff_exists.mp hs
      refine ⟨by rw [app_old hy]; rfl, fun z => ?_⟩
      injection z with z2
      have q3 := (List.getElem?_eq_some_iff.mp hy).1
      omega
    | frm j j2 => exact sq.elim
    | _ => exact ⟨by simp only [cont, Option.isSome_map] at hs ⊢; first | exact hs | rfl, by simp⟩
/-- a new method; its program's list pg is its own -/
theorem Go.addMeth (R : Rep T s L H) (e : Evl.Ex H H1) {r : KM.Meth} {p d pg : Addr} (hfr : ∀ (i : Nat) (x : Exe), s.executions[i]? = some x → ∀ f ∈ x.frames, f.1 < s.methods.length) (hp : H p = none) (hg : H pg = none) (ne : p ≠ pg)
    (hp1 : H1 p = some (.ins T.M d (nM.zip [.int (r.cost : Int), .int (r.roles : Int), .ref pg]))) (hg1 : H1 pg = some (.lst (intL r.program))) :
    Go T s L H { s with methods := s.methods ++ [r] } ((L.put (.meth s.methods.length) p d).put (.prog s.methods.length) pg d) (upd H1 (L.at_ .meths) (.lst (refs L .meth s.methods.length ++ [.ref p]))) := by
  obtain ⟨L', hL⟩ : ∃ L', L' = (L.put (.meth s.methods.length) p d).put (.prog s.methods.length) pg d := ⟨_, rfl⟩
  rw [← hL]
  have a1 : L'.at_ (.meth s.methods.length) = p := by rw [hL, put_ne (by simp), put_at]
  have a2 : L'.at_ (.prog s.methods.length) = pg := by rw [hL, put_at]
  have d1 : L'.dx (.meth s.methods.length) = d := by rw [hL, put_dne (by simp), put_dx]
  have o1 : ∀ q, q ≠ .meth s.methods.length → q ≠ .prog s.methods.length → L'.at_ q = L.at_ q := fun q h1 h2 => by rw [hL, put_ne h2, put_ne h1]
  have o2 : ∀ q, q ≠ .meth s.methods.length → q ≠ .prog s.methods.length → L'.dx q = L.dx q := fun q h1 h2 => by rw [hL, put_dne h2, put_dne h1]
  have vE' : ∀ j y, vE L' j y = vE L j y := fun j y => by simp only [vE, o1 _ (show Role.pay j ≠ _ by simp) (by simp), o1 _ (show Role.emi j ≠ _ by simp) (by simp), o1 _ (show Role.frs j ≠ _ by simp) (by simp)]
  have vF' : ∀ y : Nat × Nat, y.1 < s.methods.length → vF L' y = vF L y := fun y hy => by
    simp only [vF]
    rw [o1 _ (by simp) fun z => by injection z with z1; omega]
  have vS' : vS L' { s with methods := s.methods ++ [r] } = vS L s := by
    simp only [vS, o1 _ (show Role.meths ≠ _ by simp) (by simp), o1 _ (show Role.clis ≠ _ by simp) (by simp), o1 _ (show Role.exes ≠ _ by simp) (by simp), o1 _ (show Role.reqs ≠ _ by simp) (by simp), o1 _ (show Role.regs ≠ _ by simp) (by simp)]
  have rf : ∀ (mk : Nat → Role) (n : Nat), (∀ k, k < n → mk k ≠ .meth s.methods.length) → (∀ k, k < n → mk k ≠ .prog s.methods.length) → refs L' mk n = refs L mk n := fun mk n h1 h2 => refs_congr fun k hk => o1 _ (h1 k hk) (h2 k hk)
  refine Go.grow (r0 := .meths) R e (fun q => q = .meth s.methods.length ∨ q = .prog s.methods.length) (o := .lst (refs L .meth s.methods.length)) rfl (fun q hq => o1 q (fun z => hq (.inl z)) fun z => hq (.inr z)) ?_ (by simp) (fun q u hq hu => ?_) (fun q hq => ?_) (fun q q' h1 h2 z => ?_) fun q sq hs => ?_
  · simp only [cont, List.length_append, List.length_singleton]
    rw [refs_succ, a1, rf]
    · intro k hk z
      injection z with z2
      omega
    · intro k hk z
      cases z
  · cases q with
    | meth j =>
      simp only [cont] at hu
      obtain ⟨g, hg, hv⟩ := Option.map_eq_some_iff.mp hu
      rcases app_at hg with k | ⟨k1, k2⟩
      · have q3 := (List.getElem?_eq_some_iff.mp k).1
        have n1 : Role.meth j ≠ .meth s.methods.length := fun z => by
          injection z with z2
          omega
        have n2 : Role.prog j ≠ .prog s.methods.length := fun z => by
          injection z with z2
          omega
        have vM' : vM L' j g = vM L j g := by simp only [vM, o1 _ (show Role.prog j ≠ .meth _ by simp) n2]
        rw [o2 _ n1 (by simp), vM'] at hv
        exact .inl ⟨fun z => z.elim n1 (by simp), by simp only [cont, k, Option.map_some]; rw [hv]⟩
      · subst k1 k2
        have vM' : vM L' s.methods.length g = [.int (g.cost : Int), .int (g.roles : Int), .ref pg] := by simp only [vM, a2]
        rw [d1, vM'] at hv
        rw [← hv, a1]
        exact .inr ⟨.inl rfl, hp1⟩
    | prog j =>
      simp only [cont] at hu
      obtain ⟨g, hg, hv⟩ := Option.map_eq_some_iff.mp hu
      rcases app_at hg with k | ⟨k1, k2⟩
      · have q3 := (List.getElem?_eq_some_iff.mp k).1
        have n2 : Role.prog j ≠ .prog s.methods.length := fun z => by
          injection z with z2
          omega
        exact .inl ⟨fun z => z.elim (by simp) n2, by simp only [cont, k, Option.map_some]; rw [hv]⟩
      · subst k1 k2
        rw [← hv, a2]
        exact .inr ⟨.inr rfl, hg1⟩
    | meths => exact absurd rfl hq
    | srv =>
      simp only [cont, vS'] at hu
      rw [o2 _ (by simp) (by simp)] at hu
      exact .inl ⟨by simp, hu⟩
    | exe j =>
      simp only [cont, vE'] at hu
      rw [o2 _ (by simp) (by simp)] at hu
      exact .inl ⟨by simp, hu⟩
    | frm j j2 =>
      simp only [cont] at hu
      rw [o2 _ (by simp) (by simp)] at hu
      obtain ⟨x, hx, hv⟩ := Option.bind_eq_some_iff.mp hu
      obtain ⟨g, hg, hw⟩ := Option.map_eq_some_iff.mp hv
      rw [vF' g (hfr j x hx g (List.mem_reverse.mp (List.mem_of_getElem? hg)))] at hw
      exact .inl ⟨by simp, by simp only [cont, hx, hg, Option.bind_some, Option.map_some]; rw [hw]⟩
    | cli j =>
      simp only [cont] at hu
      rw [o2 _ (by simp) (by simp)] at hu
      exact .inl ⟨by simp, hu⟩
    | req j =>
      simp only [cont] at hu
      rw [o2 _ (by simp) (by simp)] at hu
      exact .inl ⟨by simp, hu⟩
    | frs j =>
      simp only [cont] at hu
      have z : ∀ y : Exe, refs L' (.frm j) y.frames.length = refs L (.frm j) y.frames.length := fun y => rf _ _ (fun k _ y => by cases y) fun k _ y => by cases y
      simp only [z] at hu
      exact .inl ⟨by simp, hu⟩
    | clis =>
      simp only [cont] at hu
      rw [rf _ _ (fun k _ z => by cases z) fun k _ z => by cases z] at hu
      exact .inl ⟨by simp, hu⟩
    | reqs =>
      simp only [cont] at hu
      rw [rf _ _ (fun k _ z => by cases z) fun k _ z => by cases z] at hu
      exact .inl ⟨by simp, hu⟩
    | exes =>
      simp only [cont] at hu
      rw [rf _ _ (fun k _ z => by cases z) fun k _ z => by cases z] at hu
      exact .inl ⟨by simp, hu⟩
    | regs => exact .inl ⟨by simp, hu⟩
    | pay j => exact .inl ⟨by simp, hu⟩
    | emi j => exact .inl ⟨by simp, hu⟩
  · rcases hq with z | z
    · rw [z, a1]
      exact hp
    · rw [z, a2]
      exact hg
  · rcases h1 with h1 | h1 <;> rcases h2 with h2 | h2
    · exact h1.trans h2.symm
    · rw [h1, h2, a1, a2] at z
      exact absurd z ne
    · rw [h1, h2, a1, a2] at z
      exact absurd z.symm ne
    · exact h1.trans h2.symm
  · cases q with
    | meth j =>
      simp only [cont, Option.isSome_map] at hs ⊢
      obtain ⟨y, hy⟩ := Option.isSome_iff_exists.mp hs
      have q3 := (List.getElem?_eq_some_iff.mp hy).1
      refine ⟨by rw [app_old hy]; rfl, fun z => ?_⟩
      rcases z with z | z
      · injection z with z2
        omega
      · cases z
    | prog j =>
      simp only [cont, Option.isSome_map] at hs ⊢
      obtain ⟨y, hy⟩ := Option.isSome_iff_exists.mp hs
      have q3 := (List.getElem?_eq_some_iff.mp hy).1
      refine ⟨by rw [app_old hy]; rfl, fun z => ?_⟩
      rcases z with z | z
      · cases z
      · injection z with z2
        omega
    | frm j j2 => exact sq.elim
    | _ => exact ⟨by simp only [cont, Option.isSome_map] at hs ⊢; first | exact hs | rfl, by simp⟩
/-- the places behind a new execution -/
def Loc.putE (L : Loc) (n : Nat) (p pa em fr f0 d df : Addr) : Loc :=
  ((((L.put (.exe n) p d).put (.pay n) pa d).put (.emi n) em d).put (.frs n) fr d).put (.frm n 0) f0 df
/-- a new execution, with its payload, its values, its frames -/
theorem Go.addExe (R : Rep T s L H) (e : Evl.Ex H H1) {x : Exe} {f : Nat × Nat} {p pa em fr f0 d df : Addr} (hx : x.frames = [f]) (hfp : ∀ q ∈ [p, pa, em, fr, f0], H q = none) (hnd : [p, pa, em, fr, f0].Nodup)
    (hp1 : H1 p = some (.ins T.E d (nE.zip [.int (s.executions.length : Int), .int (x.client : Int), .int (x.key : Int), .int (x.method : Int), .ref pa, .int (x.state : Int), .int (x.status : Int), .int (x.wakesAt : Int), .int (x.startedAt : Int), .int (x.finishedAt : Int), .int (x.executed : Int), .ref em, .ref fr])))
    (ha1 : H1 pa = some (.lst (intL x.payload))) (he1 : H1 em = some (.lst (intL x.emitted))) (hf1 : H1 fr = some (.lst [.ref f0])) (h01 : H1 f0 = some (.ins T.F df (nF.zip (vF L f)))) :
    Go T s L H { s with executions := s.executions ++ [x] } (L.putE s.executions.length p pa em fr f0 d df) (upd H1 (L.at_ .exes) (.lst (refs L .exe s.executions.length ++ [.ref p]))) := by
  obtain ⟨n, hn⟩ : ∃ n, n = s.executions.length := ⟨_, rfl⟩
  obtain ⟨N, hN⟩ : ∃ N : Role → Prop, N = fun q => q = .exe n ∨ q = .pay n ∨ q = .emi n ∨ q = .frs n ∨ q = .frm n 0 := ⟨_, rfl⟩
  rw [← hn] at hp1 ⊢
  obtain ⟨L', hL⟩ : ∃ L', L' = L.putE n p pa em fr f0 d df := ⟨_, rfl⟩
  rw [← hL]
  have a1 : L'.at_ (.exe n) = p := by simp [hL, Loc.putE, Loc.put]
  have a2 : L'.at_ (.pay n) = pa := by simp [hL, Loc.putE, Loc.put]
  have a3 : L'.at_ (.emi n) = em := by simp [hL, Loc.putE, Loc.put]
  have a4 : L'.at_ (.frs n) = fr := by simp [hL, Loc.putE, Loc.put]
  have a5 : L'.at_ (.frm n 0) = f0 := by simp [hL, Loc.putE, Loc.put]
  have d1 : L'.dx (.exe n) = d := by simp [hL, Loc.putE, Loc.put]
  have d5 : L'.dx (.frm n 0) = df := by simp [hL, Loc.putE, Loc.put]
  have o1 : ∀ q, ¬ N q → L'.at_ q = L.at_ q := fun q h => by
    rw [hN] at h
    simp only [not_or] at h
    simp [hL, Loc.putE, Loc.put, h]
  have o2 : ∀ q, ¬ N q → L'.dx q = L.dx q := fun q h => by
    rw [hN] at h
    simp only [not_or] at h
    simp [hL, Loc.putE, Loc.put, h]
  have nN : ∀ j, j ≠ n → ¬ N (.exe j) ∧ ¬ N (.pay j) ∧ ¬ N (.emi j) ∧ ¬ N (.frs j) ∧ ∀ k, ¬ N (.frm j k) := fun j hj => by
    rw [hN]
    simp [hj]
  have vE' : ∀ j y, j ≠ n → vE L' j y = vE L j y := fun j y hj => by
    obtain ⟨_, h2, h3, h4, _⟩ := nN j hj
    simp only [vE, o1 _ h2, o1 _ h3, o1 _ h4]
  have vF' : ∀ y : Nat × Nat, vF L' y = vF L y := fun y => by
    simp only [vF]
    rw [o1 _ (by rw [hN]; simp)]
  have vM' : ∀ j y, vM L' j y = vM L j y := fun j y => by
    simp only [vM]
    rw [o1 _ (by rw [hN]; simp)]
  have vS' : vS L' { s with executions := s.executions ++ [x] } = vS L s := by
    simp only [vS]
    rw [o1 .meths (by rw [hN]; simp), o1 .clis (by rw [hN]; simp), o1 .exes (by rw [hN]; simp), o1 .reqs (by rw [hN]; simp), o1 .regs (by rw [hN]; simp)]
  have rf : ∀ (mk : Nat → Role) (k : Nat), (∀ j, j < k → ¬ N (mk j)) → refs L' mk k = refs L mk k := fun mk k h => refs_congr fun j hj => o1 _ (h j hj)
  have old : ∀ j y, s.executions[j]? = some y → j ≠ n := fun j y h z => by
    have q3 := (List.getElem?_eq_some_iff.mp h).1
    omega
  refine Go.grow (r0 := .exes) R e N (o := .lst (refs L .exe n)) (by rw [hn]; rfl) o1 ?_ (by rw [hN]; simp) (fun q u hq hu => ?_) (fun q hq => ?_) (fun q q' h1 h2 z => ?_) fun q sq hs => ?_
  · simp only [cont, List.length_append, List.length_singleton, ← hn]
    rw [refs_succ, a1, rf]
    intro k hk
    exact (nN k (by omega)).1
  · cases q with
    | exe j =>
      simp only [cont] at hu
      obtain ⟨g, hg, hv⟩ := Option.map_eq_some_iff.mp hu
      rcases app_at hg with k | ⟨k1, k2⟩
      · have hj := old j g k
        rw [o2 _ (nN j hj).1, vE' j g hj] at hv
        exact .inl ⟨(nN j hj).1, by simp only [cont, k, Option.map_some]; rw [hv]⟩
      · rw [← hn] at k1
        subst k1 k2
        simp only [vE, a2, a3, a4, d1] at hv
        rw [← hv, a1]
        exact .inr ⟨by rw [hN]; simp, hp1⟩
    | pay j =>
      simp only [cont] at hu
      obtain ⟨g, hg, hv⟩ := Option.map_eq_some_iff.mp hu
      rcases app_at hg with k | ⟨k1, k2⟩
      · have hj := old j g k
        exact .inl ⟨(nN j hj).2.1, by simp only [cont, k, Option.map_some]; rw [hv]⟩
      · rw [← hn] at k1
        subst k1 k2
        rw [← hv, a2]
        exact .inr ⟨by rw [hN]; simp, ha1⟩
    | emi j =>
      simp only [cont] at hu
      obtain ⟨g, hg, hv⟩ := Option.map_eq_some_iff.mp hu
      rcases app_at hg with k | ⟨k1, k2⟩
      · have hj := old j g k
        exact .inl ⟨(nN j hj).2.2.1, by simp only [cont, k, Option.map_some]; rw [hv]⟩
      · rw [← hn] at k1
        subst k1 k2
        rw [← hv, a3]
        exact .inr ⟨by rw [hN]; simp, he1⟩
    | frs j =>
      simp only [cont] at hu
      obtain ⟨g, hg, hv⟩ := Option.map_eq_some_iff.mp hu
      rcases app_at hg with k | ⟨k1, k2⟩
      · have hj := old j g k
        rw [rf _ _ fun k _ => (nN j hj).2.2.2.2 k] at hv
        exact .inl ⟨(nN j hj).2.2.2.1, by simp only [cont, k, Option.map_some]; rw [hv]⟩
      · rw [← hn] at k1
        subst k1 k2
        have q : refs L' (.frm j) g.frames.length = [.ref f0] := by
          rw [hx]
          show [V.ref (L'.at_ (.frm j 0))] = _
          rw [a5]
        rw [q] at hv
        rw [← hv, a4]
        exact .inr ⟨by rw [hN]; simp, hf1⟩
    | frm j j2 =>
      simp only [cont] at hu
      obtain ⟨y, hy, hv⟩ := Option.bind_eq_some_iff.mp hu
      obtain ⟨g, hg, hw⟩ := Option.map_eq_some_iff.mp hv
      rw [vF'] at hw
      rcases app_at hy with k | ⟨k1, k2⟩
      · have hj := old j y k
        rw [o2 _ ((nN j hj).2.2.2.2 j2)] at hw
        exact .inl ⟨(nN j hj).2.2.2.2 j2, by simp only [cont, k, hg, Option.bind_some, Option.map_some]; rw [hw]⟩
      · rw [← hn] at k1
        subst k1 k2
        rw [hx] at hg
        have hj2 : j2 = 0 := by
          have q3 := (List.getElem?_eq_some_iff.mp hg).1
          simp at q3
          omega
        subst hj2
        have hgf : f = g := by simpa using hg
        subst hgf
        rw [d5] at hw
        rw [← hw, a5]
        exact .inr ⟨by rw [hN]; simp, h01⟩
    | exes => exact absurd rfl hq
    | srv =>
      simp only [cont, vS'] at hu
      rw [o2 _ (by rw [hN]; simp)] at hu
      exact .inl ⟨by rw [hN]; simp, hu⟩
    | meth j =>
      simp only [cont, vM'] at hu
      rw [o2 _ (by rw [hN]; simp)] at hu
      exact .inl ⟨by rw [hN]; simp, hu⟩
    | cli j =>
      simp only [cont] at hu
      rw [o2 _ (by rw [hN]; simp)] at hu
      exact .inl ⟨by rw [hN]; simp, hu⟩
    | req j =>
      simp only [cont] at hu
      rw [o2 _ (by rw [hN]; simp)] at hu
      exact .inl ⟨by rw [hN]; simp, hu⟩
    | meths =>
      simp only [cont] at hu
      rw [rf _ _ fun k _ => by rw [hN]; simp] at hu
      exact .inl ⟨by rw [hN]; simp, hu⟩
    | clis =>
      simp only [cont] at hu
      rw [rf _ _ fun k _ => by rw [hN]; simp] at hu
      exact .inl ⟨by rw [hN]; simp, hu⟩
    | reqs =>
      simp only [cont] at hu
      rw [rf _ _ fun k _ => by rw [hN]; simp] at hu
      exact .inl ⟨by rw [hN]; simp, hu⟩
    | regs => exact .inl ⟨by rw [hN]; simp, hu⟩
    | prog j => exact .inl ⟨by rw [hN]; simp, hu⟩
  · rw [hN] at hq
    rcases hq with z | z | z | z | z
    · rw [z, a1]; exact hfp p (by simp)
    · rw [z, a2]; exact hfp pa (by simp)
    · rw [z, a3]; exact hfp em (by simp)
    · rw [z, a4]; exact hfp fr (by simp)
    · rw [z, a5]; exact hfp f0 (by simp)
  · rw [hN] at h1 h2
    simp only [List.nodup_cons, List.mem_cons, List.not_mem_nil, or_false, not_or, not_false_eq_true, List.nodup_nil, and_true] at hnd
    obtain ⟨⟨n1, n2, n3, n4⟩, ⟨n5, n6, n7⟩, ⟨n8, n9⟩, n10⟩ := hnd
    rcases h1 with h1 | h1 | h1 | h1 | h1 <;> rcases h2 with h2 | h2 | h2 | h2 | h2 <;> rw [h1, h2] at z ⊢ <;> simp only [a1, a2, a3, a4, a5] at z
    all_goals first
      | exact absurd z (by assumption)
      | exact absurd z.symm (by assumption)
  · cases q with
    | frm j j2 => exact sq.elim
    | exe j =>
      simp only [cont, Option.isSome_map] at hs ⊢
      obtain ⟨y, hy⟩ := Option.isSome_iff_exists.mp hs
      exact ⟨by rw [app_old hy]; rfl, (nN j (old j y hy)).1⟩
    | pay j =>
      simp only [cont, Option.isSome_map] at hs ⊢
      obtain ⟨y, hy⟩ := Option.isSome_iff_exists.mp hs
      exact ⟨by rw [app_old hy]; rfl, (nN j (old j y hy)).2.1⟩
    | emi j =>
      simp only [cont, Option.isSome_map] at hs ⊢
      obtain ⟨y, hy⟩ := Option.isSome_iff_exists.mp hs
      exact ⟨by rw [app_old hy]; rfl, (nN j (old j y hy)).2.2.1⟩
    | frs j =>
      simp only [cont, Option.isSome_map] at hs ⊢
      obtain ⟨y, hy⟩ := Option.isSome_iff_exists.mp hs
      exact ⟨by rw [app_old hy]; rfl, (nN j (old j y hy)).2.2.2.1⟩
    | _ => exact ⟨by simp only [cont, Option.isSome_map] at hs ⊢; first | exact hs | rfl, by rw [hN]; simp⟩
end
end Kc
/-! made by gen2.py: what a field's reading gives, what its writing leaves -/
namespace Kc
open PySem PySem.Spec PyProof.Rows L2 KM Evl
section
variable {K : PySem.W.Frag} {σ : L2.St} {H : Hp} {ta tv : TE} {v y : V} {D : Ends}
theorem ev_fld {p C dx : Addr} {f : Str} {fs : List (Str × V)} (ha : Ev ta σ H (.ref p)) (h : H p = some (.ins C dx fs)) (c : Cls K C) (n : NoAttr K C f) (l : fs.lookup f = some v) : Ev (tFld K ta f) σ H v := fun H1 e _ q =>
  ha H1 e _ fun H2 e2 => ⟨p, C, dx, fs, v, rfl, (e2 p _ (e p _ h)), c, n, l, q H2 e2⟩
theorem s_fld {p C dx : Addr} {f : Str} {fs : List (Str × V)} (hv : Ev tv σ H y) (ha : Ev ta σ H (.ref p)) (h : H p = some (.ins C dx fs)) (c : Cls K C) (n : NoAttr K C f) (hl : fs.length < 1000) (k : ∀ H1, Ex H H1 → D.nx σ (upd H1 p (.ins C dx (putF f y fs)))) : sFld K ta tv f D σ H :=
  hv H (Ex.refl H) _ fun H1 e1 => ha H1 e1 _ fun H2 e2 => ⟨p, C, dx, fs, rfl, e2 p _ (e1 p _ h), c, n, hl, k H2 (e1.trans e2)⟩
theorem s_aug_fld {p C dx : Addr} {f : Str} {fs : List (Str × V)} {a b : Int} (ha : Ev ta σ H (.ref p)) (h : H p = some (.ins C dx fs)) (c : Cls K C) (n : NoAttr K C f) (l : fs.lookup f = some (.int a)) (hv : Ev tv σ H (.int b)) (hl : fs.length < 1000)
    (k : ∀ H1, Ex H H1 → D.nx σ (upd H1 p (.ins C dx (putF f (.int (a + b)) fs)))) : sFldAug K ta tv rAdd f D σ H :=
  ha H (Ex.refl H) _ fun H1 e1 => ⟨p, C, dx, fs, .int a, rfl, e1 p _ h, c, n, l, hv H1 e1 _ fun H2 e2 => ⟨a, b, rfl, rfl, dx, fs, e2 p _ (e1 p _ h), hl, k H2 (e1.trans e2)⟩⟩
theorem top_frame {fr : List (Nat × Nat)} {f : Nat × Nat} {r : List (Nat × Nat)} (h : fr = f :: r) : fr.reverse[r.length]? = some f := by
  rw [h, List.reverse_cons, List.getElem?_append_right (by rw [List.length_reverse]; exact Nat.le_refl _), List.length_reverse, Nat.sub_self]
  rfl
theorem zip_len {ns : List Str} {vs : List V} (h : ns.length < 1000) : (ns.zip vs).length < 1000 := by
  rw [List.length_zip]
  omega
variable {mg : Str → Option Value} {T : Cls7} {B : Blt} {s : Srv} {L : Loc} {i : Nat}
theorem ixS_limit : nS.findIdx? (("limit" : Str) == ·) = some 0 := by decide +kernel
theorem inS_limit : ("limit" : Str) ∈ Kc.nS := by decide +kernel
theorem evS_limit (X : Txt K mg T B) (R : Rep T s L H) (ha : Ev ta σ H (.ref (L.at_ (.srv)))) : Ev (tFld K ta "limit") σ H (.int ((s.limit : Nat) : Int)) :=
  ev_fld ha (R.at_ .srv _ rfl) X.clS (X.nS _ inS_limit) ((look_zip ixS_limit (Nat.le_refl _)).trans rfl)
theorem ixS_queue_limit : nS.findIdx? (("queue_limit" : Str) == ·) = some 1 := by decide +kernel
theorem inS_queue_limit : ("queue_limit" : Str) ∈ Kc.nS := by decide +kernel
theorem evS_queue_limit (X : Txt K mg T B) (R : Rep T s L H) (ha : Ev ta σ H (.ref (L.at_ (.srv)))) : Ev (tFld K ta "queue_limit") σ H (.int ((s.queueLimit : Nat) : Int)) :=
  ev_fld ha (R.at_ .srv _ rfl) X.clS (X.nS _ inS_queue_limit) ((look_zip ixS_queue_limit (Nat.le_refl _)).trans rfl)
theorem ixS_discipline : nS.findIdx? (("discipline" : Str) == ·) = some 2 := by decide +kernel
theorem inS_discipline : ("discipline" : Str) ∈ Kc.nS := by decide +kernel
theorem evS_discipline (X : Txt K mg T B) (R : Rep T s L H) (ha : Ev ta σ H (.ref (L.at_ (.srv)))) : Ev (tFld K ta "discipline") σ H (.int ((s.discipline : Nat) : Int)) :=
  ev_fld ha (R.at_ .srv _ rfl) X.clS (X.nS _ inS_discipline) ((look_zip ixS_discipline (Nat.le_refl _)).trans rfl)
theorem ixS_shedding : nS.findIdx? (("shedding" : Str) == ·) = some 3 := by decide +kernel
theorem inS_shedding : ("shedding" : Str) ∈ Kc.nS := by decide +kernel
theorem evS_shedding (X : Txt K mg T B) (R : Rep T s L H) (ha : Ev ta σ H (.ref (L.at_ (.srv)))) : Ev (tFld K ta "shedding") σ H (.int ((s.shedding : Nat) : Int)) :=
  ev_fld ha (R.at_ .srv _ rfl) X.clS (X.nS _ inS_shedding) ((look_zip ixS_shedding (Nat.le_refl _)).trans rfl)
theorem ixS_lifetime : nS.findIdx? (("lifetime" : Str) == ·) = some 4 := by decide +kernel
theorem inS_lifetime : ("lifetime" : Str) ∈ Kc.nS := by decide +kernel
theorem evS_lifetime (X : Txt K mg T B) (R : Rep T s L H) (ha : Ev ta σ H (.ref (L.at_ (.srv)))) : Ev (tFld K ta "lifetime") σ H (.int ((s.lifetime : Nat) : Int)) :=
  ev_fld ha (R.at_ .srv _ rfl) X.clS (X.nS _ inS_lifetime) ((look_zip ixS_lifetime (Nat.le_refl _)).trans rfl)
theorem ixS_now : nS.findIdx? (("now" : Str) == ·) = some 5 := by decide +kernel
theorem inS_now : ("now" : Str) ∈ Kc.nS := by decide +kernel
theorem evS_now (X : Txt K mg T B) (R : Rep T s L H) (ha : Ev ta σ H (.ref (L.at_ (.srv)))) : Ev (tFld K ta "now") σ H (.int ((s.now : Nat) : Int)) :=
  ev_fld ha (R.at_ .srv _ rfl) X.clS (X.nS _ inS_now) ((look_zip ixS_now (Nat.le_refl _)).trans rfl)
theorem ixS_methods : nS.findIdx? (("methods" : Str) == ·) = some 6 := by decide +kernel
theorem inS_methods : ("methods" : Str) ∈ Kc.nS := by decide +kernel
theorem evS_methods (X : Txt K mg T B) (R : Rep T s L H) (ha : Ev ta σ H (.ref (L.at_ (.srv)))) : Ev (tFld K ta "methods") σ H (.ref (L.at_ (.meths))) :=
  ev_fld ha (R.at_ .srv _ rfl) X.clS (X.nS _ inS_methods) ((look_zip ixS_methods (Nat.le_refl _)).trans rfl)
theorem ixS_clients : nS.findIdx? (("clients" : Str) == ·) = some 7 := by decide +kernel
theorem inS_clients : ("clients" : Str) ∈ Kc.nS := by decide +kernel
theorem evS_clients (X : Txt K mg T B) (R : Rep T s L H) (ha : Ev ta σ H (.ref (L.at_ (.srv)))) : Ev (tFld K ta "clients") σ H (.ref (L.at_ (.clis))) :=
  ev_fld ha (R.at_ .srv _ rfl) X.clS (X.nS _ inS_clients) ((look_zip ixS_clients (Nat.le_refl _)).trans rfl)
theorem ixS_executions : nS.findIdx? (("executions" : Str) == ·) = some 8 := by decide +kernel
theorem inS_executions : ("executions" : Str) ∈ Kc.nS := by decide +kernel
theorem evS_executions (X : Txt K mg T B) (R : Rep T s L H) (ha : Ev ta σ H (.ref (L.at_ (.srv)))) : Ev (tFld K ta "executions") σ H (.ref (L.at_ (.exes))) :=
  ev_fld ha (R.at_ .srv _ rfl) X.clS (X.nS _ inS_executions) ((look_zip ixS_executions (Nat.le_refl _)).trans rfl)
theorem ixS_requests : nS.findIdx? (("requests" : Str) == ·) = some 9 := by decide +kernel
theorem inS_requests : ("requests" : Str) ∈ Kc.nS := by decide +kernel
theorem evS_requests (X : Txt K mg T B) (R : Rep T s L H) (ha : Ev ta σ H (.ref (L.at_ (.srv)))) : Ev (tFld K ta "requests") σ H (.ref (L.at_ (.reqs))) :=
  ev_fld ha (R.at_ .srv _ rfl) X.clS (X.nS _ inS_requests) ((look_zip ixS_requests (Nat.le_refl _)).trans rfl)
theorem ixS_registers : nS.findIdx? (("registers" : Str) == ·) = some 10 := by decide +kernel
theorem inS_registers : ("registers" : Str) ∈ Kc.nS := by decide +kernel
theorem evS_registers (X : Txt K mg T B) (R : Rep T s L H) (ha : Ev ta σ H (.ref (L.at_ (.srv)))) : Ev (tFld K ta "registers") σ H (.ref (L.at_ (.regs))) :=
  ev_fld ha (R.at_ .srv _ rfl) X.clS (X.nS _ inS_registers) ((look_zip ixS_registers (Nat.le_refl _)).trans rfl)
theorem ixS_average : nS.findIdx? (("average" : Str) == ·) = some 11 := by decide +kernel
theorem inS_average : ("average" : Str) ∈ Kc.nS := by decide +kernel
theorem evS_average (X : Txt K mg T B) (R : Rep T s L H) (ha : Ev ta σ H (.ref (L.at_ (.srv)))) : Ev (tFld K ta "average") σ H (.int ((s.average : Nat) : Int)) :=
  ev_fld ha (R.at_ .srv _ rfl) X.clS (X.nS _ inS_average) ((look_zip ixS_average (Nat.le_refl _)).trans rfl)
theorem ixS_grace_end : nS.findIdx? (("grace_end" : Str) == ·) = some 12 := by decide +kernel
theorem inS_grace_end : ("grace_end" : Str) ∈ Kc.nS := by decide +kernel
theorem evS_grace_end (X : Txt K mg T B) (R : Rep T s L H) (ha : Ev ta σ H (.ref (L.at_ (.srv)))) : Ev (tFld K ta "grace_end") σ H (opt s.graceEnd) :=
  ev_fld ha (R.at_ .srv _ rfl) X.clS (X.nS _ inS_grace_end) ((look_zip ixS_grace_end (Nat.le_refl _)).trans rfl)
theorem ixS_grace_over : nS.findIdx? (("grace_over" : Str) == ·) = some 13 := by decide +kernel
theorem inS_grace_over : ("grace_over" : Str) ∈ Kc.nS := by decide +kernel
theorem evS_grace_over (X : Txt K mg T B) (R : Rep T s L H) (ha : Ev ta σ H (.ref (L.at_ (.srv)))) : Ev (tFld K ta "grace_over") σ H (.bl s.graceOver) :=
  ev_fld ha (R.at_ .srv _ rfl) X.clS (X.nS _ inS_grace_over) ((look_zip ixS_grace_over (Nat.le_refl _)).trans rfl)
theorem ixM_cost : nM.findIdx? (("cost" : Str) == ·) = some 0 := by decide +kernel
theorem inM_cost : ("cost" : Str) ∈ Kc.nM := by decide +kernel
theorem evM_cost (X : Txt K mg T B) (R : Rep T s L H) {m : KM.Meth} (hi : s.methods[i]? = some m) (ha : Ev ta σ H (.ref (L.at_ (.meth i)))) : Ev (tFld K ta "cost") σ H (.int ((m.cost : Nat) : Int)) :=
  ev_fld ha (R.meth hi) X.clM (X.nM _ inM_cost) ((look_zip ixM_cost (Nat.le_refl _)).trans rfl)
theorem ixM_roles : nM.findIdx? (("roles" : Str) == ·) = some 1 := by decide +kernel
theorem inM_roles : ("roles" : Str) ∈ Kc.nM := by decide +kernel
theorem evM_roles (X : Txt K mg T B) (R : Rep T s L H) {m : KM.Meth} (hi : s.methods[i]? = some m) (ha : Ev ta σ H (.ref (L.at_ (.meth i)))) : Ev (tFld K ta "roles") σ H (.int ((m.roles : Nat) : Int)) :=
  ev_fld ha (R.meth hi) X.clM (X.nM _ inM_roles) ((look_zip ixM_roles (Nat.le_refl _)).trans rfl)
theorem ixM_program : nM.findIdx? (("program" : Str) == ·) = some 2 := by decide +kernel
theorem inM_program : ("program" : Str) ∈ Kc.nM := by decide +kernel
theorem evM_program (X : Txt K mg T B) (R : Rep T s L H) {m : KM.Meth} (hi : s.methods[i]? = some m) (ha : Ev ta σ H (.ref (L.at_ (.meth i)))) : Ev (tFld K ta "program") σ H (.ref (L.at_ (.prog i))) :=
  ev_fld ha (R.meth hi) X.clM (X.nM _ inM_program) ((look_zip ixM_program (Nat.le_refl _)).trans rfl)
theorem ixC_token : nC.findIdx? (("token" : Str) == ·) = some 0 := by decide +kernel
theorem inC_token : ("token" : Str) ∈ Kc.nC := by decide +kernel
theorem evC_token (X : Txt K mg T B) (R : Rep T s L H) {c : Cli} (hi : s.clients[i]? = some c) (ha : Ev ta σ H (.ref (L.at_ (.cli i)))) : Ev (tFld K ta "token") σ H (.int ((c.token : Nat) : Int)) :=
  ev_fld ha (R.cli hi) X.clC (X.nC _ inC_token) ((look_zip ixC_token (Nat.le_refl _)).trans rfl)
theorem ixC_roles : nC.findIdx? (("roles" : Str) == ·) = some 1 := by decide +kernel
theorem inC_roles : ("roles" : Str) ∈ Kc.nC := by decide +kernel
theorem evC_roles (X : Txt K mg T B) (R : Rep T s L H) {c : Cli} (hi : s.clients[i]? = some c) (ha : Ev ta σ H (.ref (L.at_ (.cli i)))) : Ev (tFld K ta "roles") σ H (.int ((c.roles : Nat) : Int)) :=
  ev_fld ha (R.cli hi) X.clC (X.nC _ inC_roles) ((look_zip ixC_roles (Nat.le_refl _)).trans rfl)
theorem ixC_capacity : nC.findIdx? (("capacity" : Str) == ·) = some 2 := by decide +kernel
theorem inC_capacity : ("capacity" : Str) ∈ Kc.nC := by decide +kernel
theorem evC_capacity (X : Txt K mg T B) (R : Rep T s L H) {c : Cli} (hi : s.clients[i]? = some c) (ha : Ev ta σ H (.ref (L.at_ (.cli i)))) : Ev (tFld K ta "capacity") σ H (.int ((c.capacity : Nat) : Int)) :=
  ev_fld ha (R.cli hi) X.clC (X.nC _ inC_capacity) ((look_zip ixC_capacity (Nat.le_refl _)).trans rfl)
theorem ixC_refill : nC.findIdx? (("refill" : Str) == ·) = some 3 := by decide +kernel
theorem inC_refill : ("refill" : Str) ∈ Kc.nC := by decide +kernel
theorem evC_refill (X : Txt K mg T B) (R : Rep T s L H) {c : Cli} (hi : s.clients[i]? = some c) (ha : Ev ta σ H (.ref (L.at_ (.cli i)))) : Ev (tFld K ta "refill") σ H (.int ((c.refill : Nat) : Int)) :=
  ev_fld ha (R.cli hi) X.clC (X.nC _ inC_refill) ((look_zip ixC_refill (Nat.le_refl _)).trans rfl)
theorem ixC_quota : nC.findIdx? (("quota" : Str) == ·) = some 4 := by decide +kernel
theorem inC_quota : ("quota" : Str) ∈ Kc.nC := by decide +kernel
theorem evC_quota (X : Txt K mg T B) (R : Rep T s L H) {c : Cli} (hi : s.clients[i]? = some c) (ha : Ev ta σ H (.ref (L.at_ (.cli i)))) : Ev (tFld K ta "quota") σ H (.int ((c.quota : Nat) : Int)) :=
  ev_fld ha (R.cli hi) X.clC (X.nC _ inC_quota) ((look_zip ixC_quota (Nat.le_refl _)).trans rfl)
theorem ixC_quota_at : nC.findIdx? (("quota_at" : Str) == ·) = some 5 := by decide +kernel
theorem inC_quota_at : ("quota_at" : Str) ∈ Kc.nC := by decide +kernel
theorem evC_quota_at (X : Txt K mg T B) (R : Rep T s L H) {c : Cli} (hi : s.clients[i]? = some c) (ha : Ev ta σ H (.ref (L.at_ (.cli i)))) : Ev (tFld K ta "quota_at") σ H (.int ((c.quotaAt : Nat) : Int)) :=
  ev_fld ha (R.cli hi) X.clC (X.nC _ inC_quota_at) ((look_zip ixC_quota_at (Nat.le_refl _)).trans rfl)
theorem ixF_program : nF.findIdx? (("program" : Str) == ·) = some 0 := by decide +kernel
theorem inF_program : ("program" : Str) ∈ Kc.nF := by decide +kernel
theorem evF_program (X : Txt K mg T B) (R : Rep T s L H) {e : Exe} {j : Nat} {f : Nat × Nat} (hi : s.executions[i]? = some e) (hf : e.frames.reverse[j]? = some f) (ha : Ev ta σ H (.ref (L.at_ (.frm i j)))) : Ev (tFld K ta "program") σ H (.ref (L.at_ (.prog f.1))) :=
  ev_fld ha (R.frm hi hf) X.clF (X.nF _ inF_program) ((look_zip ixF_program (Nat.le_refl _)).trans rfl)
theorem ixF_position : nF.findIdx? (("position" : Str) == ·) = some 1 := by decide +kernel
theorem inF_position : ("position" : Str) ∈ Kc.nF := by decide +kernel
theorem evF_position (X : Txt K mg T B) (R : Rep T s L H) {e : Exe} {j : Nat} {f : Nat × Nat} (hi : s.executions[i]? = some e) (hf : e.frames.reverse[j]? = some f) (ha : Ev ta σ H (.ref (L.at_ (.frm i j)))) : Ev (tFld K ta "position") σ H (.int ((f.2 : Nat) : Int)) :=
  ev_fld ha (R.frm hi hf) X.clF (X.nF _ inF_position) ((look_zip ixF_position (Nat.le_refl _)).trans rfl)
theorem ixE_number : nE.findIdx? (("number" : Str) == ·) = some 0 := by decide +kernel
theorem inE_number : ("number" : Str) ∈ Kc.nE := by decide +kernel
theorem evE_number (X : Txt K mg T B) (R : Rep T s L H) {e : Exe} (hi : s.executions[i]? = some e) (ha : Ev ta σ H (.ref (L.at_ (.exe i)))) : Ev (tFld K ta "number") σ H (.int ((i : Nat) : Int)) :=
  ev_fld ha (R.exe hi) X.clE (X.nE _ inE_number) ((look_zip ixE_number (Nat.le_refl _)).trans rfl)
theorem ixE_client : nE.findIdx? (("client" : Str) == ·) = some 1 := by decide +kernel
theorem inE_client : ("client" : Str) ∈ Kc.nE := by decide +kernel
theorem evE_client (X : Txt K mg T B) (R : Rep T s L H) {e : Exe} (hi : s.executions[i]? = some e) (ha : Ev ta σ H (.ref (L.at_ (.exe i)))) : Ev (tFld K ta "client") σ H (.int ((e.client : Nat) : Int)) :=
  ev_fld ha (R.exe hi) X.clE (X.nE _ inE_client) ((look_zip ixE_client (Nat.le_refl _)).trans rfl)
theorem ixE_key : nE.findIdx? (("key" : Str) == ·) = some 2 := by decide +kernel
theorem inE_key : ("key" : Str) ∈ Kc.nE := by decide +kernel
theorem evE_key (X : Txt K mg T B) (R : Rep T s L H) {e : Exe} (hi : s.executions[i]? = some e) (ha : Ev ta σ H (.ref (L.at_ (.exe i)))) : Ev (tFld K ta "key") σ H (.int ((e.key : Nat) : Int)) :=
  ev_fld ha (R.exe hi) X.clE (X.nE _ inE_key) ((look_zip ixE_key (Nat.le_refl _)).trans rfl)
theorem ixE_method : nE.findIdx? (("method" : Str) == ·) = some 3 := by decide +kernel
theorem inE_method : ("method" : Str) ∈ Kc.nE := by decide +kernel
theorem evE_method (X : Txt K mg T B) (R : Rep T s L H) {e : Exe} (hi : s.executions[i]? = some e) (ha : Ev ta σ H (.ref (L.at_ (.exe i)))) : Ev (tFld K ta "method") σ H (.int ((e.method : Nat) : Int)) :=
  ev_fld ha (R.exe hi) X.clE (X.nE _ inE_method) ((look_zip ixE_method (Nat.le_refl _)).trans rfl)
theorem ixE_payload : nE.findIdx? (("payload" : Str) == ·) = some 4 := by decide +kernel
theorem inE_payload : ("payload" : Str) ∈ Kc.nE := by decide +kernel
theorem evE_payload (X : Txt K mg T B) (R : Rep T s L H) {e : Exe} (hi : s.executions[i]? = some e) (ha : Ev ta σ H (.ref (L.at_ (.exe i)))) : Ev (tFld K ta "payload") σ H (.ref (L.at_ (.pay i))) :=
  ev_fld ha (R.exe hi) X.clE (X.nE _ inE_payload) ((look_zip ixE_payload (Nat.le_refl _)).trans rfl)
theorem ixE_state : nE.findIdx? (("state" : Str) == ·) = some 5 := by decide +kernel
theorem inE_state : ("state" : Str) ∈ Kc.nE := by decide +kernel
theorem evE_state (X : Txt K mg T B) (R : Rep T s L H) {e : Exe} (hi : s.executions[i]? = some e) (ha : Ev ta σ H (.ref (L.at_ (.exe i)))) : Ev (tFld K ta "state") σ H (.int ((e.state : Nat) : Int)) :=
  ev_fld ha (R.exe hi) X.clE (X.nE _ inE_state) ((look_zip ixE_state (Nat.le_refl _)).trans rfl)
theorem ixE_status : nE.findIdx? (("status" : Str) == ·) = some 6 := by decide +kernel
theorem inE_status : ("status" : Str) ∈ Kc.nE := by decide +kernel
theorem evE_status (X : Txt K mg T B) (R : Rep T s L H) {e : Exe} (hi : s.executions[i]? = some e) (ha : Ev ta σ H (.ref (L.at_ (.exe i)))) : Ev (tFld K ta "status") σ H (.int ((e.status : Nat) : Int)) :=
  ev_fld ha (R.exe hi) X.clE (X.nE _ inE_status) ((look_zip ixE_status (Nat.le_refl _)).trans rfl)
theorem ixE_wakes_at : nE.findIdx? (("wakes_at" : Str) == ·) = some 7 := by decide +kernel
theorem inE_wakes_at : ("wakes_at" : Str) ∈ Kc.nE := by decide +kernel
theorem evE_wakes_at (X : Txt K mg T B) (R : Rep T s L H) {e : Exe} (hi : s.executions[i]? = some e) (ha : Ev ta σ H (.ref (L.at_ (.exe i)))) : Ev (tFld K ta "wakes_at") σ H (.int ((e.wakesAt : Nat) : Int)) :=
  ev_fld ha (R.exe hi) X.clE (X.nE _ inE_wakes_at) ((look_zip ixE_wakes_at (Nat.le_refl _)).trans rfl)
theorem ixE_started_at : nE.findIdx? (("started_at" : Str) == ·) = some 8 := by decide +kernel
theorem inE_started_at : ("started_at" : Str) ∈ Kc.nE := by decide +kernel
theorem evE_started_at (X : Txt K mg T B) (R : Rep T s L H) {e : Exe} (hi : s.executions[i]? = some e) (ha : Ev ta σ H (.ref (L.at_ (.exe i)))) : Ev (tFld K ta "started_at") σ H (.int ((e.startedAt : Nat) : Int)) :=
  ev_fld ha (R.exe hi) X.clE (X.nE _ inE_started_at) ((look_zip ixE_started_at (Nat.le_refl _)).trans rfl)
theorem ixE_finished_at : nE.findIdx? (("finished_at" : Str) == ·) = some 9 := by decide +kernel
theorem inE_finished_at : ("finished_at" : Str) ∈ Kc.nE := by decide +kernel
theorem evE_finished_at (X : Txt K mg T B) (R : Rep T s L H) {e : Exe} (hi : s.executions[i]? = some e) (ha : Ev ta σ H (.ref (L.at_ (.exe i)))) : Ev (tFld K ta "finished_at") σ H (.int ((e.finishedAt : Nat) : Int)) :=
  ev_fld ha (R.exe hi) X.clE (X.nE _ inE_finished_at) ((look_zip ixE_finished_at (Nat.le_refl _)).trans rfl)
theorem ixE_executed : nE.findIdx? (("executed" : Str) == ·) = some 10 := by decide +kernel
theorem inE_executed : ("executed" : Str) ∈ Kc.nE := by decide +kernel
theorem evE_executed (X : Txt K mg T B) (R : Rep T s L H) {e : Exe} (hi : s.executions[i]? = some e) (ha : Ev ta σ H (.ref (L.at_ (.exe i)))) : Ev (tFld K ta "executed") σ H (.int ((e.executed : Nat) : Int)) :=
  ev_fld ha (R.exe hi) X.clE (X.nE _ inE_executed) ((look_zip ixE_executed (Nat.le_refl _)).trans rfl)
theorem ixE_emitted : nE.findIdx? (("emitted" : Str) == ·) = some 11 := by decide +kernel
theorem inE_emitted : ("emitted" : Str) ∈ Kc.nE := by decide +kernel
theorem evE_emitted (X : Txt K mg T B) (R : Rep T s L H) {e : Exe} (hi : s.executions[i]? = some e) (ha : Ev ta σ H (.ref (L.at_ (.exe i)))) : Ev (tFld K ta "emitted") σ H (.ref (L.at_ (.emi i))) :=
  ev_fld ha (R.exe hi) X.clE (X.nE _ inE_emitted) ((look_zip ixE_emitted (Nat.le_refl _)).trans rfl)
theorem ixE_frames : nE.findIdx? (("frames" : Str) == ·) = some 12 := by decide +kernel
theorem inE_frames : ("frames" : Str) ∈ Kc.nE := by decide +kernel
theorem evE_frames (X : Txt K mg T B) (R : Rep T s L H) {e : Exe} (hi : s.executions[i]? = some e) (ha : Ev ta σ H (.ref (L.at_ (.exe i)))) : Ev (tFld K ta "frames") σ H (.ref (L.at_ (.frs i))) :=
  ev_fld ha (R.exe hi) X.clE (X.nE _ inE_frames) ((look_zip ixE_frames (Nat.le_refl _)).trans rfl)
theorem ixR_number : nR.findIdx? (("number" : Str) == ·) = some 0 := by decide +kernel
theorem inR_number : ("number" : Str) ∈ Kc.nR := by decide +kernel
theorem evR_number (X : Txt K mg T B) (R : Rep T s L H) {r : Req} (hi : s.requests[i]? = some r) (ha : Ev ta σ H (.ref (L.at_ (.req i)))) : Ev (tFld K ta "number") σ H (.int ((i : Nat) : Int)) :=
  ev_fld ha (R.req hi) X.clR (X.nR _ inR_number) ((look_zip ixR_number (Nat.le_refl _)).trans rfl)
theorem ixR_client : nR.findIdx? (("client" : Str) == ·) = some 1 := by decide +kernel
theorem inR_client : ("client" : Str) ∈ Kc.nR := by decide +kernel
theorem evR_client (X : Txt K mg T B) (R : Rep T s L H) {r : Req} (hi : s.requests[i]? = some r) (ha : Ev ta σ H (.ref (L.at_ (.req i)))) : Ev (tFld K ta "client") σ H (.int ((r.client : Nat) : Int)) :=
  ev_fld ha (R.req hi) X.clR (X.nR _ inR_client) ((look_zip ixR_client (Nat.le_refl _)).trans rfl)
theorem ixR_arrived_at : nR.findIdx? (("arrived_at" : Str) == ·) = some 2 := by decide +kernel
theorem inR_arrived_at : ("arrived_at" : Str) ∈ Kc.nR := by decide +kernel
theorem evR_arrived_at (X : Txt K mg T B) (R : Rep T s L H) {r : Req} (hi : s.requests[i]? = some r) (ha : Ev ta σ H (.ref (L.at_ (.req i)))) : Ev (tFld K ta "arrived_at") σ H (.int ((r.arrivedAt : Nat) : Int)) :=
  ev_fld ha (R.req hi) X.clR (X.nR _ inR_arrived_at) ((look_zip ixR_arrived_at (Nat.le_refl _)).trans rfl)
theorem ixR_deadline : nR.findIdx? (("deadline" : Str) == ·) = some 3 := by decide +kernel
theorem inR_deadline : ("deadline" : Str) ∈ Kc.nR := by decide +kernel
theorem evR_deadline (X : Txt K mg T B) (R : Rep T s L H) {r : Req} (hi : s.requests[i]? = some r) (ha : Ev ta σ H (.ref (L.at_ (.req i)))) : Ev (tFld K ta "deadline") σ H (.int ((r.deadline : Nat) : Int)) :=
  ev_fld ha (R.req hi) X.clR (X.nR _ inR_deadline) ((look_zip ixR_deadline (Nat.le_refl _)).trans rfl)
theorem ixR_execution : nR.findIdx? (("execution" : Str) == ·) = some 4 := by decide +kernel
theorem inR_execution : ("execution" : Str) ∈ Kc.nR := by decide +kernel
theorem evR_execution (X : Txt K mg T B) (R : Rep T s L H) {r : Req} (hi : s.requests[i]? = some r) (ha : Ev ta σ H (.ref (L.at_ (.req i)))) : Ev (tFld K ta "execution") σ H (opt r.execution) :=
  ev_fld ha (R.req hi) X.clR (X.nR _ inR_execution) ((look_zip ixR_execution (Nat.le_refl _)).trans rfl)
theorem ixR_joined : nR.findIdx? (("joined" : Str) == ·) = some 5 := by decide +kernel
theorem inR_joined : ("joined" : Str) ∈ Kc.nR := by decide +kernel
theorem evR_joined (X : Txt K mg T B) (R : Rep T s L H) {r : Req} (hi : s.requests[i]? = some r) (ha : Ev ta σ H (.ref (L.at_ (.req i)))) : Ev (tFld K ta "joined") σ H (.int ((r.joined : Nat) : Int)) :=
  ev_fld ha (R.req hi) X.clR (X.nR _ inR_joined) ((look_zip ixR_joined (Nat.le_refl _)).trans rfl)
theorem ixR_status : nR.findIdx? (("status" : Str) == ·) = some 6 := by decide +kernel
theorem inR_status : ("status" : Str) ∈ Kc.nR := by decide +kernel
theorem evR_status (X : Txt K mg T B) (R : Rep T s L H) {r : Req} (hi : s.requests[i]? = some r) (ha : Ev ta σ H (.ref (L.at_ (.req i)))) : Ev (tFld K ta "status") σ H (opt r.status) :=
  ev_fld ha (R.req hi) X.clR (X.nR _ inR_status) ((look_zip ixR_status (Nat.le_refl _)).trans rfl)
theorem ixR_finished_at : nR.findIdx? (("finished_at" : Str) == ·) = some 7 := by decide +kernel
theorem inR_finished_at : ("finished_at" : Str) ∈ Kc.nR := by decide +kernel
theorem evR_finished_at (X : Txt K mg T B) (R : Rep T s L H) {r : Req} (hi : s.requests[i]? = some r) (ha : Ev ta σ H (.ref (L.at_ (.req i)))) : Ev (tFld K ta "finished_at") σ H (.int ((r.finishedAt : Nat) : Int)) :=
  ev_fld ha (R.req hi) X.clR (X.nR _ inR_finished_at) ((look_zip ixR_finished_at (Nat.le_refl _)).trans rfl)
theorem ixR_retry_delay : nR.findIdx? (("retry_delay" : Str) == ·) = some 8 := by decide +kernel
theorem inR_retry_delay : ("retry_delay" : Str) ∈ Kc.nR := by decide +kernel
theorem evR_retry_delay (X : Txt K mg T B) (R : Rep T s L H) {r : Req} (hi : s.requests[i]? = some r) (ha : Ev ta σ H (.ref (L.at_ (.req i)))) : Ev (tFld K ta "retry_delay") σ H (.int ((r.retryDelay : Nat) : Int)) :=
  ev_fld ha (R.req hi) X.clR (X.nR _ inR_retry_delay) ((look_zip ixR_retry_delay (Nat.le_refl _)).trans rfl)
theorem wS_limit (X : Txt K mg T B) (R : Rep T s L H) {x : Nat} (hv : Ev tv σ H (.int (x : Int))) (ha : Ev ta σ H (.ref (L.at_ (.srv)))) (k : ∀ H', Go T s L H ({ s with limit := x }) L H' → D.nx σ H') : sFld K ta tv "limit" D σ H :=
  s_fld hv ha (R.at_ .srv _ rfl) X.clS (X.nS _ inS_limit) (zip_len (by decide)) fun H1 e1 => k _ (by rw [put_zip ixS_limit (Nat.le_refl _)]; exact (Go.ex R e1).trans (Go.srv (R.ex e1) rfl rfl rfl rfl rfl))
theorem wS_now (X : Txt K mg T B) (R : Rep T s L H) {x : Nat} (hv : Ev tv σ H (.int (x : Int))) (ha : Ev ta σ H (.ref (L.at_ (.srv)))) (k : ∀ H', Go T s L H ({ s with now := x }) L H' → D.nx σ H') : sFld K ta tv "now" D σ H :=
  s_fld hv ha (R.at_ .srv _ rfl) X.clS (X.nS _ inS_now) (zip_len (by decide)) fun H1 e1 => k _ (by rw [put_zip ixS_now (Nat.le_refl _)]; exact (Go.ex R e1).trans (Go.srv (R.ex e1) rfl rfl rfl rfl rfl))
theorem wS_average (X : Txt K mg T B) (R : Rep T s L H) {x : Nat} (hv : Ev tv σ H (.int (x : Int))) (ha : Ev ta σ H (.ref (L.at_ (.srv)))) (k : ∀ H', Go T s L H ({ s with average := x }) L H' → D.nx σ H') : sFld K ta tv "average" D σ H :=
  s_fld hv ha (R.at_ .srv _ rfl) X.clS (X.nS _ inS_average) (zip_len (by decide)) fun H1 e1 => k _ (by rw [put_zip ixS_average (Nat.le_refl _)]; exact (Go.ex R e1).trans (Go.srv (R.ex e1) rfl rfl rfl rfl rfl))
theorem wC_roles (X : Txt K mg T B) (R : Rep T s L H) {c : Cli} (hi : s.clients[i]? = some c) {x : Nat} (hv : Ev tv σ H (.int (x : Int))) (ha : Ev ta σ H (.ref (L.at_ (.cli i)))) (k : ∀ H', Go T s L H (setC s i { c with roles := x }) L H' → D.nx σ H') : sFld K ta tv "roles" D σ H :=
  s_fld hv ha (R.cli hi) X.clC (X.nC _ inC_roles) (zip_len (by decide)) fun H1 e1 => k _ (by rw [put_zip ixC_roles (Nat.le_refl _)]; exact (Go.ex R e1).trans (Go.cli (R.ex e1) hi))
theorem wC_quota (X : Txt K mg T B) (R : Rep T s L H) {c : Cli} (hi : s.clients[i]? = some c) {x : Nat} (hv : Ev tv σ H (.int (x : Int))) (ha : Ev ta σ H (.ref (L.at_ (.cli i)))) (k : ∀ H', Go T s L H (setC s i { c with quota := x }) L H' → D.nx σ H') : sFld K ta tv "quota" D σ H :=
  s_fld hv ha (R.cli hi) X.clC (X.nC _ inC_quota) (zip_len (by decide)) fun H1 e1 => k _ (by rw [put_zip ixC_quota (Nat.le_refl _)]; exact (Go.ex R e1).trans (Go.cli (R.ex e1) hi))
theorem wC_quota_at (X : Txt K mg T B) (R : Rep T s L H) {c : Cli} (hi : s.clients[i]? = some c) {x : Nat} (hv : Ev tv σ H (.int (x : Int))) (ha : Ev ta σ H (.ref (L.at_ (.cli i)))) (k : ∀ H', Go T s L H (setC s i { c with quotaAt := x }) L H' → D.nx σ H') : sFld K ta tv "quota_at" D σ H :=
  s_fld hv ha (R.cli hi) X.clC (X.nC _ inC_quota_at) (zip_len (by decide)) fun H1 e1 => k _ (by rw [put_zip ixC_quota_at (Nat.le_refl _)]; exact (Go.ex R e1).trans (Go.cli (R.ex e1) hi))
theorem wE_state (X : Txt K mg T B) (R : Rep T s L H) {e : Exe} (hi : s.executions[i]? = some e) {x : Nat} (hv : Ev tv σ H (.int (x : Int))) (ha : Ev ta σ H (.ref (L.at_ (.exe i)))) (k : ∀ H', Go T s L H (setE s i { e with state := x }) L H' → D.nx σ H') : sFld K ta tv "state" D σ H :=
  s_fld hv ha (R.exe hi) X.clE (X.nE _ inE_state) (zip_len (by decide)) fun H1 e1 => k _ (by rw [put_zip ixE_state (Nat.le_refl _)]; exact (Go.ex R e1).trans (Go.exe (R.ex e1) hi rfl rfl rfl))
theorem wE_status (X : Txt K mg T B) (R : Rep T s L H) {e : Exe} (hi : s.executions[i]? = some e) {x : Nat} (hv : Ev tv σ H (.int (x : Int))) (ha : Ev ta σ H (.ref (L.at_ (.exe i)))) (k : ∀ H', Go T s L H (setE s i { e with status := x }) L H' → D.nx σ H') : sFld K ta tv "status" D σ H :=
  s_fld hv ha (R.exe hi) X.clE (X.nE _ inE_status) (zip_len (by decide)) fun H1 e1 => k _ (by rw [put_zip ixE_status (Nat.le_refl _)]; exact (Go.ex R e1).trans (Go.exe (R.ex e1) hi rfl rfl rfl))
theorem wE_wakes_at (X : Txt K mg T B) (R : Rep T s L H) {e : Exe} (hi : s.executions[i]? = some e) {x : Nat} (hv : Ev tv σ H (.int (x : Int))) (ha : Ev ta σ H (.ref (L.at_ (.exe i)))) (k : ∀ H', Go T s L H (setE s i { e with wakesAt := x }) L H' → D.nx σ H') : sFld K ta tv "wakes_at" D σ H :=
  s_fld hv ha (R.exe hi) X.clE (X.nE _ inE_wakes_at) (zip_len (by decide)) fun H1 e1 => k _ (by rw [put_zip ixE_wakes_at (Nat.le_refl _)]; exact (Go.ex R e1).trans (Go.exe (R.ex e1) hi rfl rfl rfl))
theorem wE_started_at (X : Txt K mg T B) (R : Rep T s L H) {e : Exe} (hi : s.executions[i]? = some e) {x : Nat} (hv : Ev tv σ H (.int (x : Int))) (ha : Ev ta σ H (.ref (L.at_ (.exe i)))) (k : ∀ H', Go T s L H (setE s i { e with startedAt := x }) L H' → D.nx σ H') : sFld K ta tv "started_at" D σ H :=
  s_fld hv ha (R.exe hi) X.clE (X.nE _ inE_started_at) (zip_len (by decide)) fun H1 e1 => k _ (by rw [put_zip ixE_started_at (Nat.le_refl _)]; exact (Go.ex R e1).trans (Go.exe (R.ex e1) hi rfl rfl rfl))
theorem wE_finished_at (X : Txt K mg T B) (R : Rep T s L H) {e : Exe} (hi : s.executions[i]? = some e) {x : Nat} (hv : Ev tv σ H (.int (x : Int))) (ha : Ev ta σ H (.ref (L.at_ (.exe i)))) (k : ∀ H', Go T s L H (setE s i { e with finishedAt := x }) L H' → D.nx σ H') : sFld K ta tv "finished_at" D σ H :=
  s_fld hv ha (R.exe hi) X.clE (X.nE _ inE_finished_at) (zip_len (by decide)) fun H1 e1 => k _ (by rw [put_zip ixE_finished_at (Nat.le_refl _)]; exact (Go.ex R e1).trans (Go.exe (R.ex e1) hi rfl rfl rfl))
theorem wR_joined (X : Txt K mg T B) (R : Rep T s L H) {r : Req} (hi : s.requests[i]? = some r) {x : Nat} (hv : Ev tv σ H (.int (x : Int))) (ha : Ev ta σ H (.ref (L.at_ (.req i)))) (k : ∀ H', Go T s L H (setR s i { r with joined := x }) L H' → D.nx σ H') : sFld K ta tv "joined" D σ H :=
  s_fld hv ha (R.req hi) X.clR (X.nR _ inR_joined) (zip_len (by decide)) fun H1 e1 => k _ (by rw [put_zip ixR_joined (Nat.le_refl _)]; exact (Go.ex R e1).trans (Go.req (R.ex e1) hi))
theorem wR_finished_at (X : Txt K mg T B) (R : Rep T s L H) {r : Req} (hi : s.requests[i]? = some r) {x : Nat} (hv : Ev tv σ H (.int (x : Int))) (ha : Ev ta σ H (.ref (L.at_ (.req i)))) (k : ∀ H', Go T s L H (setR s i { r with finishedAt := x }) L H' → D.nx σ H') : sFld K ta tv "finished_at" D σ H :=
  s_fld hv ha (R.req hi) X.clR (X.nR _ inR_finished_at) (zip_len (by decide)) fun H1 e1 => k _ (by rw [put_zip ixR_finished_at (Nat.le_refl _)]; exact (Go.ex R e1).trans (Go.req (R.ex e1) hi))
theorem wR_retry_delay (X : Txt K mg T B) (R : Rep T s L H) {r : Req} (hi : s.requests[i]? = some r) {x : Nat} (hv : Ev tv σ H (.int (x : Int))) (ha : Ev ta σ H (.ref (L.at_ (.req i)))) (k : ∀ H', Go T s L H (setR s i { r with retryDelay := x }) L H' → D.nx σ H') : sFld K ta tv "retry_delay" D σ H :=
  s_fld hv ha (R.req hi) X.clR (X.nR _ inR_retry_delay) (zip_len (by decide)) fun H1 e1 => k _ (by rw [put_zip ixR_retry_delay (Nat.le_refl _)]; exact (Go.ex R e1).trans (Go.req (R.ex e1) hi))
theorem wS_grace_over (X : Txt K mg T B) (R : Rep T s L H) {x : Bool} (hv : Ev tv σ H (.bl x)) (ha : Ev ta σ H (.ref (L.at_ (.srv)))) (k : ∀ H', Go T s L H ({ s with graceOver := x }) L H' → D.nx σ H') : sFld K ta tv "grace_over" D σ H :=
  s_fld hv ha (R.at_ .srv _ rfl) X.clS (X.nS _ inS_grace_over) (zip_len (by decide)) fun H1 e1 => k _ (by rw [put_zip ixS_grace_over (Nat.le_refl _)]; exact (Go.ex R e1).trans (Go.srv (R.ex e1) rfl rfl rfl rfl rfl))
theorem wR_status (X : Txt K mg T B) (R : Rep T s L H) {r : Req} (hi : s.requests[i]? = some r) {x : Nat} (hv : Ev tv σ H (.int (x : Int))) (ha : Ev ta σ H (.ref (L.at_ (.req i)))) (k : ∀ H', Go T s L H (setR s i { r with status := some x }) L H' → D.nx σ H') : sFld K ta tv "status" D σ H :=
  s_fld hv ha (R.req hi) X.clR (X.nR _ inR_status) (zip_len (by decide)) fun H1 e1 => k _ (by rw [put_zip ixR_status (Nat.le_refl _)]; exact (Go.ex R e1).trans (Go.req (R.ex e1) hi))
theorem wR_execution (X : Txt K mg T B) (R : Rep T s L H) {r : Req} (hi : s.requests[i]? = some r) {x : Nat} (hv : Ev tv σ H (.int (x : Int))) (ha : Ev ta σ H (.ref (L.at_ (.req i)))) (k : ∀ H', Go T s L H (setR s i { r with execution := some x }) L H' → D.nx σ H') : sFld K ta tv "execution" D σ H :=
  s_fld hv ha (R.req hi) X.clR (X.nR _ inR_execution) (zip_len (by decide)) fun H1 e1 => k _ (by rw [put_zip ixR_execution (Nat.le_refl _)]; exact (Go.ex R e1).trans (Go.req (R.ex e1) hi))
theorem wS_grace_end (X : Txt K mg T B) (R : Rep T s L H) {x : Nat} (hv : Ev tv σ H (.int (x : Int))) (ha : Ev ta σ H (.ref (L.at_ (.srv)))) (k : ∀ H', Go T s L H ({ s with graceEnd := some x }) L H' → D.nx σ H') : sFld K ta tv "grace_end" D σ H :=
  s_fld hv ha (R.at_ .srv _ rfl) X.clS (X.nS _ inS_grace_end) (zip_len (by decide)) fun H1 e1 => k _ (by rw [put_zip ixS_grace_end (Nat.le_refl _)]; exact (Go.ex R e1).trans (Go.srv (R.ex e1) rfl rfl rfl rfl rfl))
theorem aE_executed (X : Txt K mg T B) (R : Rep T s L H) {e : Exe} (hi : s.executions[i]? = some e) {x : Nat} (hv : Ev tv σ H (.int (x : Int))) (ha : Ev ta σ H (.ref (L.at_ (.exe i)))) (k : ∀ H', Go T s L H (setE s i { e with executed := e.executed + x }) L H' → D.nx σ H') : sFldAug K ta tv rAdd "executed" D σ H :=
  s_aug_fld ha (R.exe hi) X.clE (X.nE _ inE_executed) ((look_zip ixE_executed (Nat.le_refl _)).trans rfl) hv (zip_len (by decide)) fun H1 e1 => k _ (by rw [put_zip ixE_executed (Nat.le_refl _)]; exact (Go.ex R e1).trans (Go.exe (R.ex e1) hi rfl rfl rfl))
theorem aF_position (X : Txt K mg T B) (R : Rep T s L H) {e : Exe} {f : Nat × Nat} {r : List (Nat × Nat)} (hi : s.executions[i]? = some e) (hf : e.frames = f :: r) {x : Nat} (hv : Ev tv σ H (.int (x : Int))) (ha : Ev ta σ H (.ref (L.at_ (.frm i r.length)))) (k : ∀ H', Go T s L H (setE s i { e with frames := (f.1, f.2 + x) :: r }) L H' → D.nx σ H') : sFldAug K ta tv rAdd "position" D σ H :=
  s_aug_fld ha (R.frm hi (top_frame hf)) X.clF (X.nF _ inF_position) ((look_zip ixF_position (Nat.le_refl _)).trans rfl) hv (zip_len (by decide)) fun H1 e1 => k _ (by rw [put_zip ixF_position (Nat.le_refl _)]; exact (Go.ex R e1).trans (Go.pos (e' := { e with frames := (f.1, f.2 + x) :: r }) (f' := (f.1, f.2 + x)) (R.ex e1) hi hf rfl rfl rfl rfl))
end
end Kc
/-! what is asked of a server without changing it: the promises -/
namespace Kc
open PySem PySem.Spec PyProof.Rows L2 KM Evl
theorem nat_eq (a b : Nat) : decide (V.int (a : Int) = V.int (b : Int)) = (a == b) := by
  by_cases q : a = b
  · rw [q]
    simp
  · rw [decide_eq_false (fun z => q (by injection z with z; omega))]
    exact (beq_eq_false_iff_ne.mpr q).symm
theorem opt_eq (o : Option Nat) (b : Nat) : decide (opt o = V.int (b : Int)) = (o == some b) := by
  cases o with
  | none =>
    rw [decide_eq_false (fun z => by cases z)]
    rfl
  | some a =>
    show decide (V.int (a : Int) = V.int (b : Int)) = _
    rw [nat_eq]
    rfl
theorem opt_non (o : Option Nat) : decide (opt o = V.non) = (o == none) := by
  cases o with
  | none => rfl
  | some a =>
    rw [decide_eq_false (fun z => by cases z)]
    rfl
theorem nat_lt (a b : Nat) : decide ((a : Int) < (b : Int)) = decide (a < b) := by
  by_cases q : a < b
  · rw [decide_eq_true q, decide_eq_true (by omega)]
  · rw [decide_eq_false q, decide_eq_false (by omega)]
theorem nat_le (a b : Nat) : decide ((a : Int) ≤ (b : Int)) = decide (a ≤ b) := by
  by_cases q : a ≤ b
  · rw [decide_eq_true q, decide_eq_true (by omega)]
  · rw [decide_eq_false q, decide_eq_false (by omega)]
/-- a walk that keeps some of a list's items -/
theorem given_map {α : Type} (l : List α) (p : Nat → Bool) (g : Nat → V) (p' : α → Bool) (g' : α → V) (h1 : ∀ i x, l[i]? = some x → p i = p' x) (h2 : ∀ i x, l[i]? = some x → g i = g' x) : given l.length p g = (l.filter p').map g' := by
  have key : ∀ n, n ≤ l.length → given n p g = ((l.take n).filter p').map g' := by
    intro n
    induction n with
    | zero => intro _; rfl
    | succ n ih =>
      intro hn
      have hx : l[n]? = some l[n] := List.getElem?_eq_getElem (by omega)
      have e : l.take (n + 1) = l.take n ++ [l[n]] := by rw [List.take_add_one, hx]; rfl
      rw [e, List.filter_append, List.map_append, ← ih (by omega)]
      cases q : p' l[n] with
      | true =>
        rw [given_yes ((h1 n _ hx).trans q), h2 n _ hx, List.filter_cons, if_pos q]
        rfl
      | false =>
        rw [given_no ((h1 n _ hx).trans q), List.filter_cons, if_neg (by rw [q]; decide)]
        simp
  have z := key l.length (Nat.le_refl _)
  rw [List.take_length] at z
  exact z
theorem rv_isN {x : V} {H : Hp} : RV rIsNon x .non H (.bl (decide (x = .non))) := fun H1 _ _ q => ⟨rfl, q H1 (Ex.refl H1)⟩
theorem rv_notN {x : V} {H : Hp} : RV rNotNon x .non H (.bl (!decide (x = .non))) := fun H1 _ _ q => ⟨rfl, q H1 (Ex.refl H1)⟩
section
variable {K : PySem.W.Frag} {mg : Str → Option Value} {T : Cls7} {B : Blt}
def exeRefs (L : Loc) (l : List Nat) : List V := l.map fun i => .ref (L.at_ (.exe i))
def reqRefs (L : Loc) (l : List Nat) : List V := l.map fun i => .ref (L.at_ (.req i))
/-! in_state -/
def spInState (T : Cls7) : Sp := fun vs H Q _ => ∃ (s : Srv) (L : Loc) (st : Nat), vs = [.ref (L.at_ .srv), .int (st : Int)] ∧ Rep T s L H ∧ s.executions.length ≤ 1000 ∧ RetL (exeRefs L (inState s st)) H Q
theorem rd_in_state (X : Txt K mg T B) (vs : List V) (H : Hp) (Q : VK) (E : XK) (h : spInState T vs H Q E) : t_in_state K T { nx := fun _ H' => Q .non H', rt := Q } (start N_in_state vs) H := by
  obtain ⟨s, L, st, rfl, R, hn, k⟩ := h
  refine s_retL (xs := exeRefs L (inState s st)) ?_ (fun p H1 hp e h1 => k p H1 hp e h1)
  have e0 : given (refs L .exe s.executions.length).length (fun i => (exeAt s i).state == st) (fun i => V.ref (L.at_ (.exe i))) = exeRefs L (inState s st) := by
    rw [refs_len]
    rfl
  rw [← e0]
  refine el_lcL (a := L.at_ .exes) (fun i => (exeAt s i).state == st) (fun i => V.ref (L.at_ (.exe i))) (evS_executions X R (ev_var rfl)) (sq_of (R.at_ .exes _ rfl)) (by rw [refs_len]; omega) (fun x => rfl) (fun i x H1 e1 hx => ?_) fun i x H1 e1 hx _ => ?_
  · obtain ⟨hi, rfl⟩ := refs_at hx
    exact et_is (et_test (ev_op (evE_state X (R.ex e1) (exe_some hi) (ev_var rfl)) (ev_var rfl) (rv_eq rfl))) (nat_eq _ _)
  · obtain ⟨hi, rfl⟩ := refs_at hx
    exact ev_var rfl
/-! has_free_slot -/
def spFree (T : Cls7) : Sp := fun vs H Q _ => ∃ (s : Srv) (L : Loc), vs = [.ref (L.at_ .srv)] ∧ Rep T s L H ∧ s.executions.length ≤ 1000 ∧ RetV (.bl (freeSlot s)) H Q
theorem spl_in_state {s : Srv} {L : Loc} {st : Nat} {H : Hp} (R : Rep T s L H) (hn : s.executions.length ≤ 1000) : SpL (spInState T) ([.ref (L.at_ .srv), .int (st : Int)] ++ []) H (exeRefs L (inState s st)) := fun H1 e Q q E => ⟨s, L, st, rfl, R.ex e, hn, fun p H2 hp e2 h2 => q p H2 hp e2 h2⟩
theorem rd_has_free_slot (X : Txt K mg T B) (vs : List V) (H : Hp) (Q : VK) (E : XK) (h : spFree T vs H Q E) : t_has_free_slot K T (spInState T) { nx := fun _ H' => Q .non H', rt := Q } (start N_has_free_slot vs) H := by
  obtain ⟨s, L, rfl, R, hn, k⟩ := h
  refine s_ret (ev_is (ev_op (ev_lenN (el_call (ea_cons (ev_var rfl) (ea_cons (ev_c (v := .int ((1 : Nat) : Int))) ea_nil)) (spl_in_state R hn))) (evS_limit X R (ev_var rfl)) rv_I0) ?_) (fun H1 e => k H1 e)
  unfold exeRefs freeSlot
  rw [List.length_map, nat_lt]
theorem spv_free {s : Srv} {L : Loc} {H : Hp} (R : Rep T s L H) (hn : s.executions.length ≤ 1000) : SpV (spFree T) ([.ref (L.at_ .srv)] ++ []) H (.bl (freeSlot s)) := fun H1 e Q q E => ⟨s, L, rfl, R.ex e, hn, fun H2 e2 => q H2 e2⟩
/-! open_requests -/
def spOpen (T : Cls7) : Sp := fun vs H Q _ => ∃ (s : Srv) (L : Loc), vs = [.ref (L.at_ .srv)] ∧ Rep T s L H ∧ s.requests.length ≤ 1000 ∧ RetL (reqRefs L (openReqs s)) H Q
theorem rd_open_requests (X : Txt K mg T B) (vs : List V) (H : Hp) (Q : VK) (E : XK) (h : spOpen T vs H Q E) : t_open_requests K T { nx := fun _ H' => Q .non H', rt := Q } (start N_open_requests vs) H := by
  obtain ⟨s, L, rfl, R, hn, k⟩ := h
  refine s_retL (xs := reqRefs L (openReqs s)) ?_ (fun p H1 hp e h1 => k p H1 hp e h1)
  have e0 : given (refs L .req s.requests.length).length (fun i => (reqAt s i).status == none) (fun i => V.ref (L.at_ (.req i))) = reqRefs L (openReqs s) := by
    rw [refs_len]
    rfl
  rw [← e0]
  refine el_lcL (a := L.at_ .reqs) (fun i => (reqAt s i).status == none) (fun i => V.ref (L.at_ (.req i))) (evS_requests X R (ev_var rfl)) (sq_of (R.at_ .reqs _ rfl)) (by rw [refs_len]; omega) (fun x => rfl) (fun i x H1 e1 hx => ?_) fun i x H1 e1 hx _ => ?_
  · obtain ⟨hi, rfl⟩ := refs_at hx
    exact et_is (et_test (ev_op (evR_status X (R.ex e1) (req_some hi) (ev_var rfl)) ev_c rv_isN)) (opt_non _)
  · obtain ⟨hi, rfl⟩ := refs_at hx
    exact ev_var rfl
theorem spl_open {s : Srv} {L : Loc} {H : Hp} (R : Rep T s L H) (hn : s.requests.length ≤ 1000) : SpL (spOpen T) ([.ref (L.at_ .srv)] ++ []) H (reqRefs L (openReqs s)) := fun H1 e Q q E => ⟨s, L, rfl, R.ex e, hn, fun p H2 hp e2 h2 => q p H2 hp e2 h2⟩
/-! waiting_requests -/
def spWaiting (T : Cls7) : Sp := fun vs H Q _ => ∃ (s : Srv) (L : Loc) (i : Nat), vs = [.ref (L.at_ .srv), .ref (L.at_ (.exe i))] ∧ Rep T s L H ∧ s.requests.length ≤ 1000 ∧ i < s.executions.length ∧ RetL (reqRefs L (waitingOn s i)) H Q
theorem open_lt {s : Srv} {r : Nat} (h : r ∈ openReqs s) : r < s.requests.length := List.mem_range.mp (List.mem_filter.mp h).1
theorem rd_waiting_requests (X : Txt K mg T B) (vs : List V) (H : Hp) (Q : VK) (E : XK) (h : spWaiting T vs H Q E) : t_waiting_requests K T (spOpen T) { nx := fun _ H' => Q .non H', rt := Q } (start N_waiting_requests vs) H := by
  obtain ⟨s, L, i, rfl, R, hn, hi, k⟩ := h
  refine s_retL (xs := reqRefs L (waitingOn s i)) ?_ (fun p H1 hp e h1 => k p H1 hp e h1)
  have e0 : given (reqRefs L (openReqs s)).length (fun j => (reqAt s ((openReqs s).getD j 0)).execution == some i) (fun j => V.ref (L.at_ (.req ((openReqs s).getD j 0)))) = reqRefs L (waitingOn s i) := by
    unfold reqRefs waitingOn
    rw [List.length_map]
    refine given_map (openReqs s) _ _ _ _ (fun j x hx => ?_) fun j x hx => ?_
    · rw [List.getD_eq_getElem?_getD, hx]
      rfl
    · rw [List.getD_eq_getElem?_getD, hx]
      rfl
  rw [← e0]
  have item : ∀ (j : Nat) (x : V), (reqRefs L (openReqs s))[j]? = some x → (openReqs s).getD j 0 < s.requests.length ∧ x = .ref (L.at_ (.req ((openReqs s).getD j 0))) := fun j x hx => by
    unfold reqRefs at hx
    rw [List.getElem?_map] at hx
    obtain ⟨r, hr, hx⟩ := Option.map_eq_some_iff.mp hx
    rw [List.getD_eq_getElem?_getD, hr]
    exact ⟨open_lt (List.mem_of_getElem? hr), hx.symm⟩
  have hlen : (openReqs s).length ≤ 1000 := Nat.le_trans (List.length_filter_le _ _) (by rw [List.length_range]; exact hn)
  refine el_lcNL (fun j => (reqAt s ((openReqs s).getD j 0)).execution == some i) (fun j => V.ref (L.at_ (.req ((openReqs s).getD j 0)))) (el_call (ea_cons (ev_var rfl) ea_nil) (spl_open R hn)) (by unfold reqRefs; rw [List.length_map]; omega) (fun x => rfl) (fun j x H1 e1 hx => ?_) fun j x H1 e1 hx _ => ?_
  · obtain ⟨hj, rfl⟩ := item j x hx
    exact et_is (et_test (ev_op (evR_execution X (R.ex e1) (req_some hj) (ev_var rfl)) (evE_number X (R.ex e1) (exe_some hi) (ev_var rfl)) (rv_eq (by cases (reqAt s ((openReqs s).getD j 0)).execution <;> rfl)))) (opt_eq _ _)
  · obtain ⟨hj, rfl⟩ := item j x hx
    exact ev_var rfl
theorem spl_waiting {s : Srv} {L : Loc} {i : Nat} {H : Hp} (R : Rep T s L H) (hn : s.requests.length ≤ 1000) (hi : i < s.executions.length) : SpL (spWaiting T) ([.ref (L.at_ .srv), .ref (L.at_ (.exe i))] ++ []) H (reqRefs L (waitingOn s i)) := fun H1 e Q q E => ⟨s, L, i, rfl, R.ex e, hn, hi, fun p H2 hp e2 h2 => q p H2 hp e2 h2⟩
/-! present_quota -/
def spQuota (T : Cls7) : Sp := fun vs H Q _ => ∃ (s : Srv) (L : Loc) (i now : Nat), vs = [.ref (L.at_ (.cli i)), .int (now : Int)] ∧ Rep T s L H ∧ i < s.clients.length ∧ (cliAt s i).refill ≤ 1000 ∧ (cliAt s i).quotaAt ≤ now ∧ RetV (.int ((quotaNow (cliAt s i) now : Nat) : Int)) H Q
theorem small_mul {a : Nat} {b : Int} (h : a ≤ 1000000) : CMul (a : Int) b := .inl ⟨by omega, by omega⟩
theorem rd_present_quota (X : Txt K mg T B) (vs : List V) (H : Hp) (Q : VK) (E : XK) (h : spQuota T vs H Q E) : t_present_quota K T { nx := fun _ H' => Q .non H', rt := Q } (start N_present_quota vs) H := by
  obtain ⟨s, L, i, now, rfl, R, hi, hr, hq, k⟩ := h
  have hc := cli_some hi
  refine s_ret (v := .int ((quotaNow (cliAt s i) now : Nat) : Int)) (ev_is (ev_cb (ea_cons (ev_op (evC_capacity X R hc (ev_var rfl)) (ev_c (v := .int 1000)) (rv_I (.inr ⟨by omega, by omega⟩))) (ea_cons (ev_op (evC_quota X R hc (ev_var rfl))
    (ev_op (evC_refill X R hc (ev_var rfl)) (ev_op (ev_var (v := .int (now : Int)) rfl) (evC_quota_at X R hc (ev_var rfl)) rv_I0) (rv_I (small_mul (by omega)))) rv_I0) ea_nil)) (fun H1 e Q q => ⟨_, _, rfl, q H1 (Ex.refl H1)⟩)) ?_) (fun H1 e => k H1 e)
  unfold quotaNow
  have e1 : ((cliAt s i).refill : Int) * ((now : Int) - ((cliAt s i).quotaAt : Int)) = (((cliAt s i).refill * (now - (cliAt s i).quotaAt) : Nat) : Int) := by
    rw [Int.natCast_mul, Int.natCast_sub hq]
  rw [e1]
  generalize (cliAt s i).refill * (now - (cliAt s i).quotaAt) = z
  congr 1
  split <;> omega
theorem spv_quota {s : Srv} {L : Loc} {i now : Nat} {H : Hp} (R : Rep T s L H) (hi : i < s.clients.length) (hr : (cliAt s i).refill ≤ 1000) (hq : (cliAt s i).quotaAt ≤ now) : SpV (spQuota T) ([.ref (L.at_ (.cli i)), .int (now : Int)] ++ []) H (.int ((quotaNow (cliAt s i) now : Nat) : Int)) := fun H1 e Q q E => ⟨s, L, i, now, rfl, R.ex e, hi, hr, hq, fun H2 e2 => q H2 e2⟩
/-! estimated_wait -/
def spWait (T : Cls7) : Sp := fun vs H Q _ => ∃ (s : Srv) (L : Loc), vs = [.ref (L.at_ .srv)] ∧ Rep T s L H ∧ s.executions.length ≤ 1000 ∧ 0 < s.limit ∧ s.limit ≤ 1000 ∧ RetV (.int ((estWait s : Nat) : Int)) H Q
theorem rd_estimated_wait (X : Txt K mg T B) (vs : List V) (H : Hp) (Q : VK) (E : XK) (h : spWait T vs H Q E) : t_estimated_wait K T (spFree T) (spInState T) { nx := fun _ H' => Q .non H', rt := Q } (start N_estimated_wait vs) H := by
  obtain ⟨s, L, rfl, R, hn, h0, h1, k⟩ := h
  refine q_when (et_B (ev_call (ea_cons (ev_var rfl) ea_nil) (spv_free R hn))) (fun hb H1 e1 => ?_) fun hb H1 e1 => ?_
  · have e0 : estWait s = 0 := if_pos hb
    exact s_ret (v := .int ((estWait s : Nat) : Int)) (ev_is (ev_c (v := .int 0)) (by rw [e0]; rfl)) (fun H2 e2 => k H2 (e1.trans e2))
  · have R1 := R.ex e1
    have e0 : estWait s = ((inState s 0).length + 1) * (s.average / 8) / s.limit := if_neg (by rw [hb]; decide)
    have hl : (inState s 0).length ≤ 1000 := Nat.le_trans (List.length_filter_le _ _) (by rw [List.length_range]; exact hn)
    refine q_asg (v := .int ((inState s 0).length : Int)) (ev_is (ev_lenN (el_call (ea_cons (ev_var rfl) (ea_cons (ev_c (v := .int ((0 : Nat) : Int))) ea_nil)) (spl_in_state R1 hn))) (by unfold exeRefs; rw [List.length_map])) fun H2 e2 => ?_
    have R2 := R1.ex e2
    refine s_ret (v := .int ((estWait s : Nat) : Int)) (ev_is (ev_op (ev_op (ev_op (ev_var (v := .int ((inState s 0).length : Int)) rfl) (ev_c (v := .int 1)) rv_I0) (ev_op (evS_average X R2 (ev_var rfl)) (ev_c (v := .int 8)) (rv_I ⟨by decide, by decide⟩)) (rv_I (.inl ⟨by omega, by omega⟩)))
      (evS_limit X R2 (ev_var rfl)) (rv_I ⟨by omega, by omega⟩)) ?_) (fun H3 e3 => k H3 ((e1.trans e2).trans e3))
    rw [e0]
    simp only [Int.natCast_ediv, Int.natCast_mul, Int.natCast_add, Int.natCast_one]
    rfl
theorem spv_wait {s : Srv} {L : Loc} {H : Hp} (R : Rep T s L H) (hn : s.executions.length ≤ 1000) (h0 : 0 < s.limit) (h1 : s.limit ≤ 1000) : SpV (spWait T) ([.ref (L.at_ .srv)] ++ []) H (.int ((estWait s : Nat) : Int)) := fun H1 e Q q E => ⟨s, L, rfl, R.ex e, hn, h0, h1, fun H2 e2 => q H2 e2⟩
/-! can_be_joined -/
def spJoinable (T : Cls7) : Sp := fun vs H Q _ => ∃ (s : Srv) (L : Loc) (i : Nat), vs = [.ref (L.at_ .srv), .ref (L.at_ (.exe i))] ∧ Rep T s L H ∧ i < s.executions.length ∧ RetV (.bl (joinable s (exeAt s i))) H Q
theorem rd_can_be_joined (X : Txt K mg T B) (vs : List V) (H : Hp) (Q : VK) (E : XK) (h : spJoinable T vs H Q E) : t_can_be_joined K T { nx := fun _ H' => Q .non H', rt := Q } (start N_can_be_joined vs) H := by
  obtain ⟨s, L, i, rfl, R, hi, k⟩ := h
  have hx := exe_some hi
  refine q_when (et_is (et_test (ev_op (evE_state X R hx (ev_var rfl)) (ev_c (v := .int ((2 : Nat) : Int))) (rv_eq rfl))) (nat_eq _ _)) (fun hb H1 e1 => ?_) fun hb H1 e1 => ?_
  · have R1 := R.ex e1
    have e0 : joinable s (exeAt s i) = decide (s.now < (exeAt s i).finishedAt + s.lifetime) := if_pos (eq_of_beq hb)
    refine s_ret (v := .bl (joinable s (exeAt s i))) (ev_is (ev_op (evS_now X R1 (ev_var rfl)) (ev_op (evE_finished_at X R1 hx (ev_var rfl)) (evS_lifetime X R1 (ev_var rfl)) rv_I0) rv_I0) ?_) (fun H2 e2 => k H2 (e1.trans e2))
    rw [e0, ← nat_lt]
    rfl
  · have R1 := R.ex e1
    have e0 : joinable s (exeAt s i) = !((exeAt s i).state == 3) := if_neg fun z => by rw [z] at hb; cases hb
    refine s_ret (v := .bl (joinable s (exeAt s i))) (ev_is (ev_op (evE_state X R1 hx (ev_var rfl)) (ev_c (v := .int ((3 : Nat) : Int))) (rv_ne rfl)) ?_) (fun H2 e2 => k H2 (e1.trans e2))
    rw [e0, nat_eq]
theorem spv_joinable {s : Srv} {L : Loc} {i : Nat} {H : Hp} (R : Rep T s L H) (hi : i < s.executions.length) : SpV (spJoinable T) ([.ref (L.at_ .srv), .ref (L.at_ (.exe i))] ++ []) H (.bl (joinable s (exeAt s i))) := fun H1 e Q q E => ⟨s, L, i, rfl, R.ex e, hi, fun H2 e2 => q H2 e2⟩
/-! shared_execution -/
def optE (L : Loc) (o : Option Nat) : V := match o with
  | none => .non
  | some i => .ref (L.at_ (.exe i))
def spShared (T : Cls7) : Sp := fun vs H Q _ => ∃ (s : Srv) (L : Loc) (c k : Nat), vs = [.ref (L.at_ .srv), .int (c : Int), .int (k : Int)] ∧ Rep T s L H ∧ RetV (optE L (sharedExe s c k)) H Q
theorem rd_shared_execution (X : Txt K mg T B) (vs : List V) (H : Hp) (Q : VK) (E : XK) (h : spShared T vs H Q E) : t_shared_execution K T (spJoinable T) { nx := fun _ H' => Q .non H', rt := Q } (start N_shared_execution vs) H := by
  obtain ⟨s, L, c, key, rfl, R, k⟩ := h
  unfold sharedExe at k
  refine q_when (et_is (et_test (ev_op (ev_var (v := .int (key : Int)) rfl) (ev_c (v := .int ((0 : Nat) : Int))) (rv_eq rfl))) (nat_eq _ _)) (fun hb H1 e1 => ?_) fun hb H0 e0 => ?_
  · rw [if_pos (eq_of_beq hb)] at k
    exact s_ret (v := .non) ev_c fun H2 e2 => k H2 (e1.trans e2)
  rw [if_neg (fun z => by rw [z] at hb; cases hb)] at k
  refine q_asg (ev_c (v := .non)) fun H1 e01 => ?_
  have e1 := e0.trans e01
  have R1 := R.ex e1
  refine q_forLn (xs := refs L .exe s.executions.length) (evS_executions X R1 (ev_var rfl)) (sq_of (R1.at_ .exes _ rfl))
    (fun n σ' H' => ∃ v : Option V, σ' = [some (.ref (L.at_ .srv)), some (.int (c : Int)), some (.int (key : Int)), some (optE L (sharedUpTo s c key n)), v] ∧ Ex H1 H') (fun H2 e2 => ⟨none, rfl, e2⟩) (fun n σ' H' _ ⟨_, _, e2⟩ => sq_of (e2 _ _ (R1.at_ .exes _ rfl))) (fun n x σ' H' hx ⟨v, hs, e2⟩ => ?_) (fun σ' H' ⟨v, hs, e2⟩ => ?_)
  · obtain ⟨hn, rfl⟩ := refs_at hx
    subst hs
    have R2 := R1.ex e2
    have he := exe_some hn
    refine s_if (b := isShared s c key (exeAt s n)) (et_and (et_is (et_test (ev_op (evE_client X R2 he (ev_var rfl)) (ev_var (v := .int (c : Int)) rfl) (rv_eq rfl))) (nat_eq _ _)) fun _ => et_and (et_is (et_test (ev_op (evE_key X R2 he (ev_var rfl)) (ev_var (v := .int (key : Int)) rfl) (rv_eq rfl))) (nat_eq _ _)) fun _ =>
      et_B (ev_call (ea_cons (ev_var rfl) (ea_cons (ev_var rfl) ea_nil)) (spv_joinable R2 hn))) (fun hb H3 e3 => ?_) fun hb H3 e3 => ?_
    · refine s_asg (ev_var rfl) fun H4 e4 => ⟨some (.ref (L.at_ (.exe n))), ?_, (e2.trans e3).trans e4⟩
      rw [sharedUpTo, if_pos hb]
      rfl
    · refine ⟨some (.ref (L.at_ (.exe n))), ?_, e2.trans e3⟩
      rw [sharedUpTo, if_neg (by rw [hb]; decide)]
      rfl
  · subst hs
    refine s_ret (v := optE L (sharedUpTo s c key s.executions.length)) (ev_var ?_) fun H2 e3 => k H2 ((e1.trans e2).trans e3)
    rw [refs_len]
    rfl
theorem spv_shared {s : Srv} {L : Loc} {c k : Nat} {H : Hp} (R : Rep T s L H) : SpV (spShared T) ([.ref (L.at_ .srv), .int (c : Int), .int (k : Int)] ++ []) H (optE L (sharedExe s c k)) := fun H1 e Q q E => ⟨s, L, c, k, rfl, R.ex e, fun H2 e2 => q H2 e2⟩
end
end Kc
/-! programs: the promises -/
namespace Kc
open PySem PySem.Spec PyProof.Rows L2 KM Evl
/-- the table of bounds at the top -/
structure Bounds (K : PySem.W.Frag) (B : Blt) : Prop where
  it : ∃ bs : List Addr, (∀ H : Hp, SqT K H B.bounds (bs.map V.ref)) ∧ bs.length = 7 ∧ ∀ (i lo hi : Nat), bnds[i]? = some (lo, hi) → ∃ b : Addr, bs[i]? = some b ∧ ∀ H : Hp, SqT K H b [.int (lo : Int), .int (hi : Int)]
section
variable {K : PySem.W.Frag} {mg : Str → Option Value} {T : Cls7} {B : Blt} {σ : L2.St} {H : Hp} {ta tb tc te : TE} {D : Ends}
theorem ev_chain {x y z : V} {r r' : R2} {a b : Bool} (ha : Ev ta σ H x) (hb : Ev tb σ H y) (hr : RV r x y H (.bl a)) (hc : a = true → Ev tc σ H z) (hr' : a = true → RV r' y z H (.bl b)) : Ev (tChain r r' ta tb tc) σ H (.bl (a && b)) := fun H1 e Q q =>
  ha H1 e _ fun H2 e2 => hb H2 (e.trans e2) _ fun H3 e3 => hr H3 ((e.trans e2).trans e3) _ fun H4 e4 => ⟨a, rfl, by
    have e14 := (e2.trans e3).trans e4
    cases a with
    | true => exact hc rfl H4 (e.trans e14) _ fun H5 e5 => hr' rfl H5 ((e.trans e14).trans e5) Q fun H6 e6 => q H6 ((e14.trans e5).trans e6)
    | false => exact q H4 e14⟩
theorem ev_lenT {a : Addr} {xs : List V} (ha : Ev ta σ H (.ref a)) (h : SqT K H a xs) : Ev (tCB (Evl.rLenS K) (tCons ta tNil)) σ H (.int (xs.length : Int)) := fun H1 e Q q =>
  ha H1 e _ fun H2 e2 => ⟨a, xs, rfl, .inr (ex_t (e.trans e2) h), q H2 e2⟩
/-- a, b = a tuple that stands -/
theorem q_pair {i j : Nat} {a : Addr} {x y : V} {tz : TS} (h : Ev te σ H (.ref a)) (hs : SqT K H a [x, y]) (k : ∀ H1, Ex H H1 → tz D ((σ.set i (some x)).set j (some y)) H1) : tSeq (tAsg te (gTup K 2 (gCons (gName i) (gCons (gName j) gNil)))) tz D σ H :=
  h H (Ex.refl H) _ fun H1 e => ⟨a, [x, y], rfl, ex_t e hs, rfl, x, [y], rfl, y, [], rfl, rfl, k H1 e⟩
/-! is_instruction -/
def spInstr : Sp := fun vs H Q _ => ∃ c a mc : Nat, vs = [.int (c : Int), .int (a : Int), .int (mc : Int)] ∧ RetV (.bl (isInstr c a mc)) H Q
theorem rd_is_instruction (X : Txt K mg T B) (Y : Bounds K B) (vs : List V) (H : Hp) (Q : VK) (E : XK) (h : spInstr vs H Q E) : t_is_instruction K T B { nx := fun _ H' => Q .non H', rt := Q } (start N_is_instruction vs) H := by
  obtain ⟨c, a, mc, rfl, k⟩ := h
  obtain ⟨bs, b1, b2, b3⟩ := Y.it
  refine q_when (b := decide (7 ≤ c)) (et_is (et_test (ev_op (ev_var (v := .int (c : Int)) rfl) (ev_lenT ev_c (b1 H)) rv_I0)) (by rw [List.length_map, b2, nat_le])) (fun hb H1 e1 => ?_) fun hb H1 e1 => ?_
  · have e0 : isInstr c a mc = false := if_pos (of_decide_eq_true hb)
    refine s_ret (v := .bl (isInstr c a mc)) (ev_is ev_c (by rw [e0])) (fun H2 e2 => k H2 (e1.trans e2))
  · have h7 : ¬ 7 ≤ c := of_decide_eq_false hb
    refine q_when (b := c == 5 && decide (mc ≤ a)) (et_and (et_is (et_test (ev_op (ev_var (v := .int (c : Int)) rfl) (ev_c (v := .int ((5 : Nat) : Int))) (rv_eq rfl))) (nat_eq _ _)) fun _ => et_is (et_test (ev_op (ev_var (v := .int (a : Int)) rfl) (ev_var (v := .int (mc : Int)) rfl) rv_I0)) (nat_le _ _)) (fun hb2 H2 e2 => ?_) fun hb2 H2 e2 => ?_
    · have e0 : isInstr c a mc = false := by
        unfold isInstr
        rw [if_neg h7, if_pos hb2]
      refine s_ret (v := .bl (isInstr c a mc)) (ev_is ev_c (by rw [e0])) (fun H3 e3 => k H3 ((e1.trans e2).trans e3))
    · have e0 : isInstr c a mc = (decide ((bnds.getD c (0, 0)).1 ≤ a) && decide (a ≤ (bnds.getD c (0, 0)).2)) := by
        unfold isInstr
        rw [if_neg h7, if_neg (by rw [hb2]; decide)]
      have hlt : c < bnds.length := by
        show c < 7
        omega
      obtain ⟨b, hb3, hb4⟩ := b3 c (bnds.getD c (0, 0)).1 (bnds.getD c (0, 0)).2 (by rw [List.getD_eq_getElem?_getD, List.getElem?_eq_getElem hlt]; rfl)
      have hix : (bs.map V.ref)[c]? = some (.ref b) := by rw [List.getElem?_map, hb3]; rfl
      refine q_pair (ev_op ev_c (ev_var (v := .int (c : Int)) rfl) (rv_ixT (b1 H2) (atI_nat hix))) (hb4 H2) fun H3 e3 => ?_
      refine s_ret (v := .bl (isInstr c a mc)) (ev_is (ev_chain (ev_var (v := .int ((bnds.getD c (0, 0)).1 : Int)) rfl) (ev_var (v := .int (a : Int)) rfl) rv_I0 (fun _ => ev_var (v := .int ((bnds.getD c (0, 0)).2 : Int)) rfl) fun _ => rv_I0) ?_) (fun H4 e4 => k H4 (((e1.trans e2).trans e3).trans e4))
      rw [e0, nat_le, nat_le]
theorem spv_instr {c a mc : Nat} : SpV spInstr ([.int (c : Int), .int (a : Int), .int (mc : Int)] ++ []) H (.bl (isInstr c a mc)) := fun H1 e Q q E => ⟨c, a, mc, rfl, fun H2 e2 => q H2 e2⟩
/-! is_program -/
def spProg (K : PySem.W.Frag) : Sp := fun vs H Q _ => ∃ (a : Addr) (l : List Nat) (mc : Nat), vs = [.ref a, .int (mc : Int)] ∧ SqL K H a (intL l) ∧ l.length ≤ 1000 ∧ RetV (.bl (isProg l mc)) H Q
theorem intL_len (l : List Nat) : (intL l).length = l.length := List.length_map ..
theorem intL_get {l : List Nat} {i x : Nat} (h : l[i]? = some x) : (intL l)[i]? = some (.int (x : Int)) := by
  unfold intL
  rw [List.getElem?_map, h]
  rfl
theorem allInstr_drop {mc : Nat} : ∀ (l : List Nat) (k c a : Nat), l[2 * k]? = some c → l[2 * k + 1]? = some a → allInstr mc (l.drop (2 * k)) = (isInstr c a mc && allInstr mc (l.drop (2 * (k + 1)))) := fun l k c a h1 h2 => by
  have l1 := (List.getElem?_eq_some_iff.mp h1)
  have l2 := (List.getElem?_eq_some_iff.mp h2)
  obtain ⟨p1, q1⟩ := l1
  obtain ⟨p2, q2⟩ := l2
  rw [List.drop_eq_getElem_cons p1, List.drop_eq_getElem_cons p2, q1, q2]
  rfl
theorem range_two (n : Nat) (hn : n ≤ 1000) : RgC 0 (n : Int) 2 ((n + 1) / 2) := by
  refine ⟨by decide, by decide, ?_, ?_⟩
  · have fl : ∀ i : Int, -10000 ≤ i → i ≤ 10000 → Builtin.Range.rangeFitsLong i = true := fun i h1 h2 => by
      unfold Builtin.Range.rangeFitsLong
      rw [Bool.and_eq_true]
      exact ⟨decide_eq_true (by omega), decide_eq_true (by omega)⟩
    have e : Builtin.Range.rangeSize 0 (n : Int) 2 = (((n + 1) / 2 : Nat) : Int) := by
      unfold Builtin.Range.rangeSize
      rw [if_pos (by decide)]
      split <;> omega
    unfold Builtin.Range.small
    rw [e]
    simp only [fl 0 (by decide) (by decide), fl (n : Int) (by omega) (by omega), fl 2 (by decide) (by decide), fl (((n + 1) / 2 : Nat) : Int) (by omega) (by omega), show (2 : Int) > 0 by decide, if_true, fl ((n : Int) + (2 - 1)) (by omega) (by omega), Bool.and_self, Bool.or_true]
  · unfold Builtin.Range.rangeSize
    rw [if_pos (by decide)]
    split <;> omega
theorem q_rng3 {taa : TA} {i j c : Int} {n : Nat} {g : TG} {tu tz : TS} (h : EvA taa σ H [.int i, .int j, .int c]) (hr : RgC i j c n) (Pv : Nat → L2.St → Hp → Prop) (h0 : ∀ H1, Ex H H1 → Pv 0 σ H1)
    (hs : ∀ (k : Nat) σ' H', k < n → Pv k σ' H' → g (.int (i + (k : Nat) * c)) σ' H' fun σ2 H2 => tu { D with nx := Pv (k + 1), ct := Pv (k + 1), bk := tz D } σ2 H2) (hd : ∀ σ' H', Pv n σ' H' → tz D σ' H') : tSeq (tFor (iRng3 taa) g tu) tz D σ H :=
  h H (Ex.refl H) _ fun H1 e => ⟨i, j, c, n, rfl, hr, for_rangeC (D := { D with nx := tz D }) Pv (h0 H1 e) hs hd⟩
theorem rd_is_program (X : Txt K mg T B) (vs : List V) (H : Hp) (Q : VK) (E : XK) (h : spProg K vs H Q E) : t_is_program K T spInstr { nx := fun _ H' => Q .non H', rt := Q } (start N_is_program vs) H := by
  obtain ⟨a, l, mc, rfl, hs, hn, k⟩ := h
  have hlen : ∀ H1, Ex H H1 → ∀ σ : L2.St, σ[0]? = some (some (.ref a)) → Ev (tCB (Evl.rLenS K) (tCons (tVar 0) tNil)) σ H1 (.int (l.length : Int)) := fun H1 e σ h0 => ev_is (ev_len (ev_var h0) (ex_l e hs)) (by rw [intL_len])
  refine q_when (b := l.length % 2 == 1 || decide (16 < l.length)) (et_or (et_is (et_test (ev_op (ev_op (hlen H (Ex.refl H) _ rfl) (ev_c (v := .int 2)) (rv_I (by decide))) (ev_c (v := .int 1)) (rv_eq rfl))) ?_) fun _ => et_is (et_test (ev_op (hlen H (Ex.refl H) _ rfl) (ev_op (ev_c (v := .int 2)) (ev_c (v := .int 8)) (rv_I (.inl ⟨by decide, by decide⟩))) rv_I0)) ?_) (fun hb H1 e1 => ?_) fun hb H1 e1 => ?_
  · have q := nat_eq (l.length % 2) 1
    rw [← q]
    rfl
  · have q := nat_lt 16 l.length
    rw [← q]
    rfl
  · have e0 : isProg l mc = false := if_pos hb
    exact s_ret (v := .bl (isProg l mc)) (ev_is ev_c (by rw [e0])) (fun H2 e2 => k H2 (e1.trans e2))
  · have e0 : isProg l mc = allInstr mc l := if_neg (by rw [hb]; decide)
    have hodd : l.length % 2 = 0 := by
      simp only [Bool.or_eq_false_iff, beq_eq_false_iff_ne] at hb
      omega
    refine q_rng3 (n := (l.length + 1) / 2) (ea_cons (ev_c (v := .int 0)) (ea_cons (hlen H1 e1 _ rfl) (ea_cons (ev_c (v := .int 2)) ea_nil))) (range_two _ hn) (fun n σ' H' => ∃ v : Option V, σ' = [some (.ref a), some (.int (mc : Int)), v] ∧ Ex H H' ∧ allInstr mc l = allInstr mc (l.drop (2 * n))) (fun H2 e2 => ⟨none, rfl, e1.trans e2, rfl⟩) ?_ ?_
    · rintro n σ' H' hi ⟨v, rfl, e3, hv⟩
      have i1 : 2 * n < l.length := by omega
      have i2 : 2 * n + 1 < l.length := by omega
      have g1 : l[2 * n]? = some l[2 * n] := List.getElem?_eq_getElem i1
      have g2 : l[2 * n + 1]? = some l[2 * n + 1] := List.getElem?_eq_getElem i2
      have ej : (0 : Int) + ((n : Nat) : Int) * 2 = ((2 * n : Nat) : Int) := by omega
      rw [ej]
      have hs2 := ex_l (K := K) e3 hs
      have z := allInstr_drop (mc := mc) l n _ _ g1 g2
      refine s_when (b := !isInstr l[2 * n] l[2 * n + 1] mc) (et_not (et_B (ev_call (ea_cons (ev_op (ev_var rfl) (ev_var (v := .int ((2 * n : Nat) : Int)) rfl) (rv_ixL hs2 (atI_nat (intL_get g1)))) (ea_cons (ev_op (ev_var rfl) (ev_is (ev_op (ev_var (v := .int ((2 * n : Nat) : Int)) rfl) (ev_c (v := .int 1)) rv_I0) (w := .int ((2 * n + 1 : Nat) : Int)) rfl) (rv_ixL hs2 (atI_nat (intL_get g2)))) (ea_cons (ev_var (v := .int (mc : Int)) rfl) ea_nil))) spv_instr))) (fun hb2 H3 e4 => ?_) fun hb2 H3 e4 => ?_
      · have hf : isInstr l[2 * n] l[2 * n + 1] mc = false := by simpa using hb2
        refine s_ret (v := .bl (isProg l mc)) (ev_is ev_c ?_) (fun H4 e5 => k H4 ((e3.trans e4).trans e5))
        rw [e0, hv, z, hf]
        rfl
      · have ht : isInstr l[2 * n] l[2 * n + 1] mc = true := by simpa using hb2
        refine ⟨some (.int ((2 * n : Nat) : Int)), rfl, e3.trans e4, ?_⟩
        rw [hv, z, ht]
        rfl
    · rintro σ' H' ⟨v, rfl, e3, hv⟩
      refine s_ret (v := .bl (isProg l mc)) (ev_is ev_c ?_) (fun H4 e5 => k H4 (e3.trans e5))
      rw [e0, hv, List.drop_eq_nil_of_le (by omega)]
      rfl
theorem spv_prog {a : Addr} {l : List Nat} {mc : Nat} (hs : SqL K H a (intL l)) (hn : l.length ≤ 1000) : SpV (spProg K) ([.ref a, .int (mc : Int)] ++ []) H (.bl (isProg l mc)) := fun H1 e Q q E => ⟨a, l, mc, rfl, ex_l e hs, hn, fun H2 e2 => q H2 e2⟩
end
end Kc
/-! an execution's instructions: the promises -/
namespace Kc
open PySem PySem.Spec PyProof.Rows L2 KM Evl
/-- what the heap's rules ask of programs and frames -/
structure PrOk (s : Srv) : Prop where
  even : ∀ m, m < s.methods.length → (progAt s m).length % 2 = 0
  size : ∀ m, m < s.methods.length → (progAt s m).length ≤ 1000
structure FrOk (s : Srv) (fr : List (Nat × Nat)) : Prop where
  meth : ∀ f ∈ fr, f.1 < s.methods.length
  even : ∀ f ∈ fr, f.2 % 2 = 0
section
variable {K : PySem.W.Frag} {mg : Str → Option Value} {T : Cls7} {B : Blt} {σ : L2.St} {H : Hp} {ta tb tc te : TE} {D : Ends} {s : Srv} {L : Loc} {i : Nat}
theorem atI_lastR {mk : Nat → Role} {n : Nat} : atI (refs L mk (n + 1)) (-1) = some (V.ref (L.at_ (mk n))) := by
  rw [refs_succ]
  exact atI_last _ _
theorem setE_set {e1 e2 : Exe} : setE (setE s i e1) i e2 = setE s i e2 := by
  unfold setE
  simp
theorem setE_same {e : Exe} (h : s.executions[i]? = some e) : setE s i e = s := by
  unfold setE
  have q : s.executions.set i e = s.executions := by
    apply List.ext_getElem?
    intro j
    by_cases z : j = i
    · rw [z, set_at h, h]
    · rw [set_off z]
  rw [q]
theorem setE_at {e e' : Exe} (h : s.executions[i]? = some e) : (setE s i e').executions[i]? = some e' := set_at h
/-! take_instruction -/
def spTake (T : Cls7) : Sp := fun vs H Q _ => ∃ (s : Srv) (L : Loc) (i : Nat) (e : Exe), vs = [.ref (L.at_ (.exe i))] ∧ Rep T s L H ∧ s.executions[i]? = some e ∧ PrOk s ∧ FrOk s e.frames ∧
  ∀ H', Go T s L H (setE s i { e with frames := (takeI (progAt s) e.frames).2 }) L H' → match (takeI (progAt s) e.frames).1 with
    | none => Q .non H'
    | some (c, a) => ∀ p H2, H' p = none → Ex H' H2 → H2 p = some (.tup [.int (c : Int), .int (a : Int)]) → Q (.ref p) H2
theorem rd_take_instruction (X : Txt K mg T B) (vs : List V) (H : Hp) (Q : VK) (E : XK) (h : spTake T vs H Q E) : t_take_instruction K T { nx := fun _ H' => Q .non H', rt := Q } (start N_take_instruction vs) H := by
  obtain ⟨s, L, i, e, rfl, R, he, hp, hf, k⟩ := h
  refine q_asg (evE_frames X R he (ev_var rfl)) fun H1 e1 => ?_
  refine q_while (fun m σ' H' => ∃ (fr : List (Nat × Nat)) (v : Option V), fr.length = m ∧ σ' = [some (.ref (L.at_ (.exe i))), some (.ref (L.at_ (.frs i))), v] ∧ Go T s L H (setE s i { e with frames := fr }) L H' ∧ takeI (progAt s) e.frames = takeI (progAt s) fr ∧ FrOk s fr) e.frames.length
    ⟨e.frames, none, rfl, rfl, by rw [show ({ e with frames := e.frames } : Exe) = e from rfl, setE_same he]; exact Go.ex R e1, rfl, hf⟩ fun m σ' H' ⟨fr, v, hm, hs, G, ht, hf2⟩ => ?_
  subst hs
  have R2 := G.rep
  have he2 : (setE s i { e with frames := fr }).executions[i]? = some { e with frames := fr } := setE_at he
  have hfrs : H' (L.at_ (.frs i)) = some (.lst (refs L (.frm i) fr.length)) := R2.frs he2
  refine ⟨decide (0 < fr.length), et_is (et_test (ev_op (ev_len (ev_var rfl) (sq_of hfrs)) (ev_c (v := .int ((0 : Nat) : Int))) rv_I0)) (by rw [refs_len, nat_lt]), fun hb H3 e3 => ?_, fun hb H3 e3 => ?_⟩
  · have h0 := of_decide_eq_true hb
    cases fr with
    | nil => simp at h0
    | cons f r =>
      have R3 := R2.ex e3
      have hm1 : f.1 < s.methods.length := hf2.meth f List.mem_cons_self
      have hm2 := meth_some hm1
      have G3 := G.trans (Go.ex R2 e3)
      have htop : (f :: r).reverse[r.length]? = some f := top_frame rfl
      have hlt : f.2 % 2 = 0 := hf2.even f List.mem_cons_self
      refine ⟨fun σ2 H2 => ∃ m', m' < m ∧ ∃ (fr : List (Nat × Nat)) (v : Option V), fr.length = m' ∧ σ2 = [some (.ref (L.at_ (.exe i))), some (.ref (L.at_ (.frs i))), v] ∧ Go T s L H (setE s i { e with frames := fr }) L H2 ∧ takeI (progAt s) e.frames = takeI (progAt s) fr ∧ FrOk s fr, fun σ2 H2 q => q, ?_⟩
      refine q_asg (ev_op (ev_var rfl) (ev_un (ev_c (v := .int 1)) ru_neg) (rv_ixL (sq_of (e3 _ _ hfrs)) atI_lastR)) fun H4 e4 => ?_
      have R4 := R3.ex e4
      have G4 := G3.trans (Go.ex R3 e4)
      have hprog : (setE s i { e with frames := f :: r }).methods[f.1]? = some (methAt s f.1) := hm2
      have hlen : ∀ H5, Ex H4 H5 → Ev (tCB (Evl.rLenS K) (tCons (tFld K (tVar 2) "program") tNil)) [some (V.ref (L.at_ (.exe i))), some (V.ref (L.at_ (.frs i))), some (V.ref (L.at_ (.frm i r.length)))] H5 (.int ((progAt s f.1).length : Int)) := fun H5 e5 =>
        ev_is (ev_len (evF_program X (R4.ex e5) he2 htop (ev_var rfl)) (sq_of ((R4.ex e5).prog hprog))) (by rw [intL_len]; rfl)
      refine q_when (b := decide (f.2 < (progAt s f.1).length)) (et_is (et_test (ev_op (evF_position X R4 he2 htop (ev_var rfl)) (hlen H4 (Ex.refl H4)) rv_I0)) (nat_lt _ _)) (fun hb2 H5 e5 => ?_) fun hb2 H5 e5 => ?_
      · have hl := of_decide_eq_true hb2
        have ht2 : takeI (progAt s) (f :: r) = (some ((progAt s f.1).getD f.2 0, (progAt s f.1).getD (f.2 + 1) 0), (f.1, f.2 + 2) :: r) := by
          obtain ⟨f1, f2⟩ := f
          exact if_pos hl
        have hev := hp.even f.1 hm1
        have R5 := R4.ex e5
        refine aF_position (D := { nx := _, ct := _, bk := _, rt := Q }) X R5 he2 rfl (x := 2) (ev_c (v := .int ((2 : Nat) : Int))) (ev_var rfl) fun H6 g6 => ?_
        have R6 := g6.rep
        have he6 : (setE (setE s i { e with frames := f :: r }) i { e with frames := (f.1, f.2 + 2) :: r }).executions[i]? = some { e with frames := (f.1, f.2 + 2) :: r } := setE_at he2
        have hpos : Ev (tFld K (tVar 2) "position") [some (V.ref (L.at_ (.exe i))), some (V.ref (L.at_ (.frs i))), some (V.ref (L.at_ (.frm i r.length)))] H6 (.int ((f.2 + 2 : Nat) : Int)) := evF_position (f := (f.1, f.2 + 2)) X R6 he6 (top_frame rfl) (ev_var rfl)
        have hpg : Ev (tFld K (tVar 2) "program") [some (V.ref (L.at_ (.exe i))), some (V.ref (L.at_ (.frs i))), some (V.ref (L.at_ (.frm i r.length)))] H6 (.ref (L.at_ (.prog f.1))) := evF_program (f := (f.1, f.2 + 2)) X R6 he6 (top_frame rfl) (ev_var rfl)
        have hlst : SqL K H6 (L.at_ (.prog f.1)) (intL (progAt s f.1)) := sq_of (R6.prog hprog)
        have i0 : f.2 + 1 < (progAt s f.1).length := by omega
        have g0 : (progAt s f.1)[f.2]? = some ((progAt s f.1).getD f.2 0) := by rw [List.getD_eq_getElem?_getD, List.getElem?_eq_getElem hl]; rfl
        have g1 : (progAt s f.1)[f.2 + 1]? = some ((progAt s f.1).getD (f.2 + 1) 0) := by rw [List.getD_eq_getElem?_getD, List.getElem?_eq_getElem i0]; rfl
        have GG := ((G4.trans (Go.ex R4 e5)).trans g6)
        rw [setE_set] at GG
        have kk := k
        rw [ht, ht2] at kk
        have kq := kk H6 GG
        refine s_retU (xs := [.int (((progAt s f.1).getD f.2 0 : Nat) : Int), .int (((progAt s f.1).getD (f.2 + 1) 0 : Nat) : Int)]) (eu_tup (ea_cons (ev_op hpg (ev_is (ev_op hpos (ev_c (v := .int 2)) rv_I0) (w := .int ((f.2 : Nat) : Int)) (congrArg V.int (by omega))) (rv_ixL hlst (atI_nat (intL_get g0))))
          (ea_cons (ev_op hpg (ev_is (ev_op hpos (ev_c (v := .int 1)) rv_I0) (w := .int ((f.2 + 1 : Nat) : Int)) (congrArg V.int (by omega))) (rv_ixL hlst (atI_nat (intL_get g1)))) ea_nil)) (by show 2 ≤ 100000; decide)) fun p H7 hp7 e7 h7 => ?_
        exact kq p H7 hp7 e7 h7
      · have hl := of_decide_eq_false hb2
        have R5 := R4.ex e5
        have ht2 : takeI (progAt s) (f :: r) = takeI (progAt s) r := by
          obtain ⟨f1, f2⟩ := f
          exact takeI_skip hl
        have h5 : H5 (L.at_ (.frs i)) = some (.lst (refs L (.frm i) (r.length + 1))) := R5.frs he2
        refine ⟨_, rfl, .inl ⟨rfl, _, sq_of h5⟩, L.at_ (.frs i), _, .ref (L.at_ (.frm i r.length)), rfl, rfl, h5, by rw [refs_len]; exact refs_get (Nat.lt_succ_self _), ?_⟩
        rw [refs_pop]
        have GG := (G4.trans (Go.ex R4 e5)).trans (Go.pop (e' := { e with frames := r }) R5 he2 rfl rfl rfl rfl rfl)
        rw [setE_set] at GG
        exact ⟨r.length, by rw [← hm]; exact Nat.lt_succ_self _, r, _, rfl, rfl, GG, ht.trans ht2, ⟨fun g hg => hf2.meth g (List.mem_cons_of_mem _ hg), fun g hg => hf2.even g (List.mem_cons_of_mem _ hg)⟩⟩
  · have h0 := of_decide_eq_false hb
    have hnil : fr = [] := List.eq_nil_of_length_eq_zero (by omega)
    subst hnil
    have kk := k
    rw [ht] at kk
    exact s_ret ev_c fun H4 e4 => kk H4 (G.trans ((Go.ex R2 e3).trans (Go.ex (R2.ex e3) e4)))
end
end Kc
/-! the program's defs of executions as functions -/
namespace KM
def at2 (s : Srv) (i : Nat) (e : Exe) (g : List Nat) : Srv := { s with executions := s.executions.set i e, registers := g }
def endReq (s : Srv) (r st : Nat) : Srv := setR s r { reqAt s r with status := some st, finishedAt := s.now }
def endAll (s : Srv) (st : Nat) (l : List Nat) : Srv := l.foldl (fun t r => endReq t r st) s
def minL : List Nat → Nat
  | [] => 0
  | [x] => x
  | x :: r => min x (minL r)
theorem minL_le : ∀ {l : List Nat} {y : Nat}, y ∈ l → minL l ≤ y
  | [x], y, h => by
    rw [List.mem_singleton] at h
    rw [h]
    exact Nat.le_refl _
  | x :: z :: r, y, h => by
    show min x (minL (z :: r)) ≤ y
    rcases List.mem_cons.mp h with q | q
    · rw [q]
      exact Nat.min_le_left _ _
    · exact Nat.le_trans (Nat.min_le_right _ _) (minL_le q)
theorem minL_mem : ∀ {l : List Nat}, l ≠ [] → minL l ∈ l
  | [x], _ => List.mem_singleton.mpr rfl
  | x :: z :: r, _ => by
    show min x (minL (z :: r)) ∈ x :: z :: r
    have q := minL_mem (l := z :: r) (by simp)
    rcases Nat.le_total x (minL (z :: r)) with h | h
    · rw [Nat.min_eq_left h]
      exact List.mem_cons_self
    · rw [Nat.min_eq_right h]
      exact List.mem_cons_of_mem _ q
def deadlineOf (s : Srv) (i : Nat) : Nat := minL ((waitingOn s i).map fun r => (reqAt s r).deadline)
def leD (s : Srv) (i j : Nat) : Bool := decide (deadlineOf s i < deadlineOf s j ∨ (deadlineOf s i = deadlineOf s j ∧ i ≤ j))
def orderOf (s : Srv) : List Nat := if s.discipline = 1 then (inState s 0).mergeSort (leD s) else if s.discipline = 2 then (inState s 0).reverse else inState s 0
def finishE (s : Srv) (i st : Nat) : Srv := setE s i { exeAt s i with state := 2, status := st, finishedAt := s.now }
/-- resume, told what the execution did -/
def afterRun (s : Srv) (i : Nat) (e : Exe) (g : List Nat) : Option Nat → Srv
  | none => at2 s i e g
  | some st => endAll (finishE { at2 s i e g with average := s.average + (s.now - e.startedAt) - s.average / 8 } i st) st (waitingOn s i)
def ran (s : Srv) (i : Nat) : Exe × List Nat × Option Nat := run (progAt s) s.now (101 - (exeAt s i).executed) (exeAt s i) s.registers
def resume (s : Srv) (i : Nat) : Srv := afterRun s i (ran s i).1 (ran s i).2.1 (ran s i).2.2
def startE (s : Srv) (i : Nat) : Srv := setE s i { exeAt s i with state := 1, startedAt := s.now }
def fill : Nat → Srv → Srv
  | 0, s => s
  | n + 1, s => match orderOf s with
    | [] => s
    | i :: _ => if freeSlot s = true then fill n (resume (startE s i) i) else s
def fillSlots (s : Srv) : Srv := fill (inState s 0).length s
def dropped (s : Srv) (i : Nat) : Srv := setE s i { exeAt s i with state := 3, finishedAt := s.now }
def abandon (s : Srv) (i : Nat) : Srv := if (exeAt s i).state = 0 then dropped s i else if (exeAt s i).key = 0 then finishE s i 1 else s
def leave (s : Srv) (r st i : Nat) : Srv :=
  let t := endReq s r st
  fillSlots (if waitingOn t i = [] then abandon t i else t)
/-! ### what stays -/
/-- all but executions, requests, registers and the average -/
structure Stay (s t : Srv) : Prop where
  limit : t.limit = s.limit
  queueLimit : t.queueLimit = s.queueLimit
  discipline : t.discipline = s.discipline
  shedding : t.shedding = s.shedding
  lifetime : t.lifetime = s.lifetime
  now : t.now = s.now
  methods : t.methods = s.methods
  clients : t.clients = s.clients
  ne : t.executions.length = s.executions.length
  nr : t.requests.length = s.requests.length
  graceEnd : t.graceEnd = s.graceEnd
  graceOver : t.graceOver = s.graceOver
theorem Stay.refl (s : Srv) : Stay s s := ⟨rfl, rfl, rfl, rfl, rfl, rfl, rfl, rfl, rfl, rfl, rfl, rfl⟩
theorem Stay.trans {s t u : Srv} (a : Stay s t) (b : Stay t u) : Stay s u := ⟨b.1.trans a.1, b.2.trans a.2, b.3.trans a.3, b.4.trans a.4, b.5.trans a.5, b.6.trans a.6, b.7.trans a.7, b.8.trans a.8, b.9.trans a.9, b.10.trans a.10, b.11.trans a.11, b.12.trans a.12⟩
theorem stay_setE (s : Srv) (i : Nat) (e : Exe) : Stay s (setE s i e) := ⟨rfl, rfl, rfl, rfl, rfl, rfl, rfl, rfl, List.length_set .., rfl, rfl, rfl⟩
theorem stay_at2 (s : Srv) (i : Nat) (e : Exe) (g : List Nat) : Stay s (at2 s i e g) := ⟨rfl, rfl, rfl, rfl, rfl, rfl, rfl, rfl, List.length_set .., rfl, rfl, rfl⟩
theorem stay_setR (s : Srv) (i : Nat) (e : Req) : Stay s (setR s i e) := ⟨rfl, rfl, rfl, rfl, rfl, rfl, rfl, rfl, rfl, List.length_set .., rfl, rfl⟩
theorem stay_endAll (st : Nat) : ∀ (l : List Nat) (s : Srv), Stay s (endAll s st l)
  | [], s => Stay.refl s
  | r :: l, s => (stay_setR s r _).trans (stay_endAll st l (endReq s r st))
theorem endAll_exes (st : Nat) : ∀ (l : List Nat) (s : Srv), (endAll s st l).executions = s.executions
  | [], _ => rfl
  | r :: l, s => endAll_exes st l (endReq s r st)
theorem endAll_regs (st : Nat) : ∀ (l : List Nat) (s : Srv), (endAll s st l).registers = s.registers
  | [], _ => rfl
  | r :: l, s => endAll_regs st l (endReq s r st)
theorem endAll_avg (st : Nat) : ∀ (l : List Nat) (s : Srv), (endAll s st l).average = s.average
  | [], _ => rfl
  | r :: l, s => endAll_avg st l (endReq s r st)
theorem stay_avg (s : Srv) (a : Nat) : Stay s { s with average := a } := ⟨rfl, rfl, rfl, rfl, rfl, rfl, rfl, rfl, rfl, rfl, rfl, rfl⟩
theorem stay_after (s : Srv) (i : Nat) (e : Exe) (g : List Nat) (o : Option Nat) : Stay s (afterRun s i e g o) := by
  cases o with
  | none => exact stay_at2 s i e g
  | some st => exact (((stay_at2 s i e g).trans (stay_avg _ _)).trans (stay_setE _ i _)).trans (stay_endAll st _ _)
theorem stay_resume (s : Srv) (i : Nat) : Stay s (resume s i) := stay_after s i _ _ _
theorem stay_start (s : Srv) (i : Nat) : Stay s (startE s i) := stay_setE s i _
theorem stay_fill : ∀ (n : Nat) (s : Srv), Stay s (fill n s)
  | 0, s => Stay.refl s
  | n + 1, s => by
    rw [fill]
    split
    · exact Stay.refl s
    · split
      · exact ((stay_start s _).trans (stay_resume _ _)).trans (stay_fill n _)
      · exact Stay.refl s
theorem setOff {α : Type} {l : List α} {i j : Nat} {x : α} (h : j ≠ i) : (l.set i x)[j]? = l[j]? := List.getElem?_set_ne (Ne.symm h)
theorem setOn {α : Type} {l : List α} {i : Nat} {x : α} (h : i < l.length) : (l.set i x)[i]? = some x := by
  rw [List.getElem?_set_self h]
theorem exeAt_eq {s t : Srv} {i : Nat} (h : t.executions[i]? = s.executions[i]?) : exeAt t i = exeAt s i := by
  unfold exeAt
  rw [List.getD_eq_getElem?_getD, List.getD_eq_getElem?_getD, h]
theorem exeAt_of {s : Srv} {i : Nat} {e : Exe} (h : s.executions[i]? = some e) : exeAt s i = e := by
  unfold exeAt
  rw [List.getD_eq_getElem?_getD, h]
  rfl
theorem reqAt_of {s : Srv} {i : Nat} {e : Req} (h : s.requests[i]? = some e) : reqAt s i = e := by
  unfold reqAt
  rw [List.getD_eq_getElem?_getD, h]
  rfl
theorem after_off {s : Srv} {i j : Nat} {e : Exe} {g : List Nat} {o : Option Nat} (h : j ≠ i) : (afterRun s i e g o).executions[j]? = s.executions[j]? := by
  cases o with
  | none => exact setOff h
  | some st =>
    unfold afterRun
    rw [endAll_exes]
    exact (setOff h).trans (setOff h)
theorem after_at {s : Srv} {i : Nat} {e : Exe} {g : List Nat} {o : Option Nat} (h : i < s.executions.length) : (afterRun s i e g o).executions[i]? = some (match o with
    | none => e
    | some st => { e with state := 2, status := st, finishedAt := s.now }) := by
  cases o with
  | none => exact setOn h
  | some st =>
    unfold afterRun
    rw [endAll_exes]
    have h2 : i < (s.executions.set i e).length := by rw [List.length_set]; exact h
    have q : exeAt { at2 s i e g with average := s.average + (s.now - e.startedAt) - s.average / 8 } i = e := exeAt_of (setOn h)
    show ((s.executions.set i e).set i _)[i]? = _
    rw [setOn h2]
    unfold finishE at *
    rw [q]
    rfl
theorem run_keeps {pr : Nat → List Nat} {now : Nat} : ∀ (n : Nat) (e : Exe) (g : List Nat), (run pr now n e g).1.client = e.client ∧ (run pr now n e g).1.key = e.key ∧ (run pr now n e g).1.method = e.method ∧ (run pr now n e g).1.payload = e.payload ∧ (run pr now n e g).1.state = e.state ∧ (run pr now n e g).1.status = e.status ∧ (run pr now n e g).1.startedAt = e.startedAt ∧ (run pr now n e g).1.finishedAt = e.finishedAt
  | 0, e, g => ⟨rfl, rfl, rfl, rfl, rfl, rfl, rfl, rfl⟩
  | n + 1, e, g => by
    rw [run]
    split
    · exact ⟨rfl, rfl, rfl, rfl, rfl, rfl, rfl, rfl⟩
    · split
      · exact ⟨rfl, rfl, rfl, rfl, rfl, rfl, rfl, rfl⟩
      · split
        · exact ⟨rfl, rfl, rfl, rfl, rfl, rfl, rfl, rfl⟩
        · split
          · exact ⟨rfl, rfl, rfl, rfl, rfl, rfl, rfl, rfl⟩
          · split
            · exact run_keeps n _ g
            · split
              · exact ⟨rfl, rfl, rfl, rfl, rfl, rfl, rfl, rfl⟩
              · exact run_keeps n _ _
end KM
namespace KM
/-- what a client asks for -/
structure AskV where
  client : Nat
  token : Nat
  method : Nat
  timeout : Nat
  key : Nat
  payload : List Nat
def newExe (a : AskV) : Exe := ⟨a.client, a.key, a.method, a.payload, 0, 0, 0, 0, 0, 0, [], [(a.method, 0)]⟩
def queueExe (s : Srv) (a : AskV) : Srv := { s with executions := s.executions ++ [newExe a] }
end KM
/-! new objects: what each __init__ promises -/
namespace Kc
open PySem PySem.Spec PyProof.Rows L2 KM Evl
/-- all but x stays -/
def Off (x : Addr) (H H2 : Hp) : Prop := ∀ b o, b ≠ x → H b = some o → H2 b = some o
theorem Off.refl {x : Addr} {H : Hp} : Off x H H := fun _ _ _ h => h
theorem Off.trans {x : Addr} {H H1 H2 : Hp} (a : Off x H H1) (b : Off x H1 H2) : Off x H H2 := fun c o n h => b c o n (a c o n h)
theorem Off.ex {x : Addr} {H H1 : Hp} (e : Ex H H1) : Off x H H1 := fun b o _ h => e b o h
theorem Off.upd {x : Addr} {H H1 : Hp} {o : HO} (e : Off x H H1) : Off x H (upd H1 x o) := fun b u n h => by
  rw [upd_ne n]
  exact e b u n h
theorem put_new {k : Str} {x : V} : ∀ {ns : List Str} {vs : List V}, ns.findIdx? (k == ·) = none → ns.length = vs.length → putF k x (ns.zip vs) = (ns ++ [k]).zip (vs ++ [x])
  | [], [], _, _ => rfl
  | [], _ :: _, _, h => by cases h
  | _ :: _, [], _, h => by cases h
  | n :: ns, v :: vs, h, hl => by
    rw [List.findIdx?_cons] at h
    rw [List.zip_cons_cons, putF]
    cases e : k == n with
    | true =>
      rw [e] at h
      cases h
    | false =>
      rw [e] at h
      have z : ¬ n = k := fun z => by
        rw [z, beq_self_eq_true] at e
        cases e
      rw [if_neg z]
      cases q : ns.findIdx? (k == ·) with
      | none =>
        rw [put_new q (Nat.succ.inj hl)]
        rfl
      | some j =>
        rw [q] at h
        cases h
section
variable {K : PySem.W.Frag} {σ : L2.St} {H : Hp} {ta tv : TE} {v y : V} {D : Ends} {x C d : Addr} {ns : List Str} {vs : List V} {k : Str} {tz : TS}
/-- a field of a new object -/
theorem s_new (hv : Ev tv σ H y) (ha : σ[0]? = some (some (.ref x))) (h : H x = some (.ins C d (ns.zip vs))) (c : Cls K C) (n : NoAttr K C k) (hk : ns.findIdx? (k == ·) = none) (hl : ns.length = vs.length) (hz : ns.length < 20)
    (q : ∀ H1, Off x H H1 → H1 x = some (.ins C d ((ns ++ [k]).zip (vs ++ [y]))) → D.nx σ H1) : sFld K (tVar 0) tv k D σ H :=
  s_fld hv (ev_var ha) h c n (zip_len (by omega)) fun H1 e => by
    rw [put_new hk hl]
    exact q _ (Off.ex e).upd upd_same
theorem q_new (hv : Ev tv σ H y) (ha : σ[0]? = some (some (.ref x))) (h : H x = some (.ins C d (ns.zip vs))) (c : Cls K C) (n : NoAttr K C k) (hk : ns.findIdx? (k == ·) = none) (hl : ns.length = vs.length) (hz : ns.length < 20)
    (q : ∀ H1, Off x H H1 → H1 x = some (.ins C d ((ns ++ [k]).zip (vs ++ [y]))) → tz D σ H1) : tSeq (sFld K (tVar 0) tv k) tz D σ H := s_new (D := { D with nx := tz D }) hv ha h c n hk hl hz q
theorem s_newL {xs : List V} (hv : EvL tv σ H xs) (ha : σ[0]? = some (some (.ref x))) (h : H x = some (.ins C d (ns.zip vs))) (c : Cls K C) (n : NoAttr K C k) (hk : ns.findIdx? (k == ·) = none) (hl : ns.length = vs.length) (hz : ns.length < 20)
    (q : ∀ p H1, H p = none → Off x H H1 → H1 p = some (.lst xs) → H1 x = some (.ins C d ((ns ++ [k]).zip (vs ++ [.ref p]))) → D.nx σ H1) : sFld K (tVar 0) tv k D σ H :=
  hv H (Ex.refl H) _ fun p H1 hp e h1 => ⟨.ref x, ha, x, C, d, _, rfl, e x _ h, c, n, zip_len (by omega), by
    rw [put_new hk hl]
    refine q p _ hp (Off.ex e).upd ?_ upd_same
    rw [upd_ne fun z => by rw [z, h] at hp; cases hp]
    exact h1⟩
theorem q_newL {xs : List V} (hv : EvL tv σ H xs) (ha : σ[0]? = some (some (.ref x))) (h : H x = some (.ins C d (ns.zip vs))) (c : Cls K C) (n : NoAttr K C k) (hk : ns.findIdx? (k == ·) = none) (hl : ns.length = vs.length) (hz : ns.length < 20)
    (q : ∀ p H1, H p = none → Off x H H1 → H1 p = some (.lst xs) → H1 x = some (.ins C d ((ns ++ [k]).zip (vs ++ [.ref p]))) → tz D σ H1) : tSeq (sFld K (tVar 0) tv k) tz D σ H := s_newL (D := { D with nx := tz D }) hv ha h c n hk hl hz q
end
/-- C(..) gives a new object with these fields -/
def EvI (te : TE) (σ : L2.St) (H : Hp) (C : Addr) (fs : List (Str × V)) : Prop := ∀ H1, Ex H H1 → ∀ Q : VK, (∀ p d H2, H1 p = none → Ex H1 H2 → H2 p = some (.ins C d fs) → Q (.ref p) H2) → te σ H1 Q
/-- an __init__ that fills its object -/
def Born (x C d : Addr) (fs : List (Str × V)) (H : Hp) (Q : VK) : Prop := ∀ H2, Off x H H2 → H2 x = some (.ins C d fs) → Q .non H2
theorem made_ex {H H2 : Hp} {x dx : Addr} {o o' : HO} (hx : H x = none) (hd : H dx = none) (e : Off x (upd (upd H dx o) x o') H2) : Ex H H2 := fun b u h => by
  have n1 : b ≠ x := fun z => by rw [z, hx] at h; cases h
  have n2 : b ≠ dx := fun z => by rw [z, hd] at h; cases h
  refine e b u n1 ?_
  rw [upd_ne n1, upd_ne n2]
  exact h
section
variable {K : PySem.W.Frag} {mg : Str → Option Value} {T : Cls7} {B : Blt} {σ : L2.St} {H : Hp} {D : Ends}
theorem ei_make {C : Addr} {sp : Sp} {ta : TA} {vs : List V} {fs : List (Str × V)} {E : XK} (ha : EvA ta σ H vs) (hs : ∀ x d H1 Q, H1 x = some (.ins C d []) → (∀ b o, b ≠ x → H b = some o → H1 b = some o) → Born x C d fs H1 Q → sp (.ref x :: vs) H1 Q E) : EvI (tMake C sp [] E ta) σ H C fs := fun H1 e Q q =>
  ha H1 e _ fun H2 e2 x dx hx hd ne => by
    rw [List.append_nil]
    refine hs x dx _ _ upd_same (fun b o n h => ?_) fun H3 o3 h3 => ⟨rfl, q x dx H3 (fresh_back e2 hx) (e2.trans (made_ex hx hd o3)) h3⟩
    have h2 := e2 _ _ (e _ _ h)
    rw [upd_ne n, upd_ne fun z => by rw [z, hd] at h2; cases h2]
    exact h2
theorem s_asgI {te : TE} {i : Nat} {C : Addr} {fs : List (Str × V)} (h : EvI te σ H C fs) (k : ∀ p d H1, H p = none → Ex H H1 → H1 p = some (.ins C d fs) → D.nx (σ.set i (some (.ref p))) H1) : tAsg te (gName i) D σ H := h H (Ex.refl H) _ k
theorem q_asgI {te : TE} {tz : TS} {i : Nat} {C : Addr} {fs : List (Str × V)} (h : EvI te σ H C fs) (k : ∀ p d H1, H p = none → Ex H H1 → H1 p = some (.ins C d fs) → tz D (σ.set i (some (.ref p))) H1) : tSeq (tAsg te (gName i)) tz D σ H := s_asgI (D := { D with nx := tz D }) h k
/-- a field of a new object: a list of one new object -/
theorem s_newI {te : TE} {x C d C2 : Addr} {ns : List Str} {vs : List V} {k : Str} {fs : List (Str × V)} (hv : EvI te σ H C2 fs) (ha : σ[0]? = some (some (.ref x))) (h : H x = some (.ins C d (ns.zip vs))) (c : Cls K C) (n : NoAttr K C k) (hk : ns.findIdx? (k == ·) = none) (hl : ns.length = vs.length) (hz : ns.length < 20)
    (q : ∀ f0 df fr H1 H2, H f0 = none → Ex H H1 → H1 f0 = some (.ins C2 df fs) → H1 fr = none → H2 = upd (upd H1 fr (.lst [.ref f0])) x (.ins C d ((ns ++ [k]).zip (vs ++ [.ref fr]))) → D.nx σ H2) : sFld K (tVar 0) (tLst (tCons te tNil)) k D σ H :=
  hv H (Ex.refl H) _ fun f0 df H1 hf0 e h1 => ⟨by show 1 ≤ sizeLine; exact sz_of (by decide), fun fr hfr => ⟨.ref x, ha, x, C, d, _, rfl, (by
    rw [upd_ne fun z => by rw [← z, e _ _ h] at hfr; cases hfr]
    exact e _ _ h), c, n, zip_len (by omega), by
    rw [put_new hk hl]
    exact q f0 df fr H1 _ hf0 e h1 hfr rfl⟩⟩
/-! Frame -/
def spFrame (T : Cls7) : Sp := fun vs H Q _ => ∃ (x d : Addr) (pr : V), vs = [.ref x, pr] ∧ H x = some (.ins T.F d []) ∧ Born x T.F d (nF.zip [pr, .int 0]) H Q
theorem rd_Frame (X : Txt K mg T B) (vs : List V) (H : Hp) (Q : VK) (E : XK) (h : spFrame T vs H Q E) : t_Frame K T { nx := fun _ H' => Q .non H', rt := Q } (start N_Frame vs) H := by
  obtain ⟨x, d, pr, rfl, hx, k⟩ := h
  refine q_new (ns := []) (vs := []) (ev_var (v := pr) rfl) rfl hx X.clF (X.nF _ inF_program) (by decide +kernel) rfl (by decide) fun H1 o1 h1 => ?_
  refine s_new (ev_c (v := .int 0)) rfl h1 X.clF (X.nF _ inF_position) (by decide +kernel) rfl (by decide) fun H2 o2 h2 => ?_
  exact k H2 (o1.trans o2) h2
theorem ei_Frame {ta : TE} {pr : V} {E : XK} (ha : Ev ta σ H pr) : EvI (tMake T.F (spFrame T) [] E (tCons ta tNil)) σ H T.F (nF.zip [pr, .int 0]) :=
  ei_make (ea_cons ha ea_nil) fun x d H1 Q hx _ b => ⟨x, d, pr, rfl, hx, b⟩
/-! Request -/
def spRequest (T : Cls7) : Sp := fun vs H Q _ => ∃ (x d : Addr) (n c a dl : V), vs = [.ref x, n, c, a, dl] ∧ H x = some (.ins T.R d []) ∧ Born x T.R d (nR.zip [n, c, a, dl, .non, .int 0, .non, .int 0, .int 0]) H Q
theorem rd_Request (X : Txt K mg T B) (vs : List V) (H : Hp) (Q : VK) (E : XK) (h : spRequest T vs H Q E) : t_Request K T { nx := fun _ H' => Q .non H', rt := Q } (start N_Request vs) H := by
  obtain ⟨x, d, n, c, a, dl, rfl, hx, k⟩ := h
  refine q_new (ns := []) (vs := []) (ev_var (v := n) rfl) rfl hx X.clR (X.nR _ inR_number) (by decide +kernel) rfl (by decide) fun H1 o1 h1 => ?_
  refine q_new (ev_var (v := c) rfl) rfl h1 X.clR (X.nR _ inR_client) (by decide +kernel) rfl (by decide) fun H2 o2 h2 => ?_
  refine q_new (ev_var (v := a) rfl) rfl h2 X.clR (X.nR _ inR_arrived_at) (by decide +kernel) rfl (by decide) fun H3 o3 h3 => ?_
  refine q_new (ev_var (v := dl) rfl) rfl h3 X.clR (X.nR _ inR_deadline) (by decide +kernel) rfl (by decide) fun H4 o4 h4 => ?_
  refine q_new (ev_c (v := .non)) rfl h4 X.clR (X.nR _ inR_execution) (by decide +kernel) rfl (by decide) fun H5 o5 h5 => ?_
  refine q_new (ev_c (v := .int 0)) rfl h5 X.clR (X.nR _ inR_joined) (by decide +kernel) rfl (by decide) fun H6 o6 h6 => ?_
  refine q_new (ev_c (v := .non)) rfl h6 X.clR (X.nR _ inR_status) (by decide +kernel) rfl (by decide) fun H7 o7 h7 => ?_
  refine q_new (ev_c (v := .int 0)) rfl h7 X.clR (X.nR _ inR_finished_at) (by decide +kernel) rfl (by decide) fun H8 o8 h8 => ?_
  refine s_new (ev_c (v := .int 0)) rfl h8 X.clR (X.nR _ inR_retry_delay) (by decide +kernel) rfl (by decide) fun H9 o9 h9 => ?_
  exact k H9 (((((((o1.trans o2).trans o3).trans o4).trans o5).trans o6).trans o7).trans (o8.trans o9)) h9
theorem ei_Request {ta : TA} {n c a dl : V} {E : XK} (ha : EvA ta σ H [n, c, a, dl]) : EvI (tMake T.R (spRequest T) [] E ta) σ H T.R (nR.zip [n, c, a, dl, .non, .int 0, .non, .int 0, .int 0]) :=
  ei_make ha fun x d H1 Q hx _ b => ⟨x, d, n, c, a, dl, rfl, hx, b⟩
/-! Method -/
def spMethod (T : Cls7) : Sp := fun vs H Q _ => ∃ (x d : Addr) (c r p : V), vs = [.ref x, c, r, p] ∧ H x = some (.ins T.M d []) ∧ Born x T.M d (nM.zip [c, r, p]) H Q
theorem rd_Method (X : Txt K mg T B) (vs : List V) (H : Hp) (Q : VK) (E : XK) (h : spMethod T vs H Q E) : t_Method K T { nx := fun _ H' => Q .non H', rt := Q } (start N_Method vs) H := by
  obtain ⟨x, d, c, r, p, rfl, hx, k⟩ := h
  refine q_new (ns := []) (vs := []) (ev_var (v := c) rfl) rfl hx X.clM (X.nM _ inM_cost) (by decide +kernel) rfl (by decide) fun H1 o1 h1 => ?_
  refine q_new (ev_var (v := r) rfl) rfl h1 X.clM (X.nM _ inM_roles) (by decide +kernel) rfl (by decide) fun H2 o2 h2 => ?_
  refine s_new (ev_var (v := p) rfl) rfl h2 X.clM (X.nM _ inM_program) (by decide +kernel) rfl (by decide) fun H3 o3 h3 => ?_
  exact k H3 ((o1.trans o2).trans o3) h3
theorem ei_Method {ta : TA} {c r p : V} {E : XK} (ha : EvA ta σ H [c, r, p]) : EvI (tMake T.M (spMethod T) [] E ta) σ H T.M (nM.zip [c, r, p]) :=
  ei_make ha fun x d H1 Q hx _ b => ⟨x, d, c, r, p, rfl, hx, b⟩
/-! Client -/
def spClient (T : Cls7) : Sp := fun vs H Q _ => ∃ (x d : Addr) (t r n : V) (cp : Nat) (rf : V), vs = [.ref x, t, r, .int (cp : Int), rf, n] ∧ H x = some (.ins T.C d []) ∧ Born x T.C d (nC.zip [t, r, .int (cp : Int), rf, .int ((cp * 1000 : Nat) : Int), n]) H Q
theorem rd_Client (X : Txt K mg T B) (vs : List V) (H : Hp) (Q : VK) (E : XK) (h : spClient T vs H Q E) : t_Client K T { nx := fun _ H' => Q .non H', rt := Q } (start N_Client vs) H := by
  obtain ⟨x, d, t, r, n, cp, rf, rfl, hx, k⟩ := h
  refine q_new (ns := []) (vs := []) (ev_var (v := t) rfl) rfl hx X.clC (X.nC _ inC_token) (by decide +kernel) rfl (by decide) fun H1 o1 h1 => ?_
  refine q_new (ev_var (v := r) rfl) rfl h1 X.clC (X.nC _ inC_roles) (by decide +kernel) rfl (by decide) fun H2 o2 h2 => ?_
  refine q_new (ev_var (v := .int (cp : Int)) rfl) rfl h2 X.clC (X.nC _ inC_capacity) (by decide +kernel) rfl (by decide) fun H3 o3 h3 => ?_
  refine q_new (ev_var (v := rf) rfl) rfl h3 X.clC (X.nC _ inC_refill) (by decide +kernel) rfl (by decide) fun H4 o4 h4 => ?_
  refine q_new (y := .int ((cp * 1000 : Nat) : Int)) (ev_is (ev_op (ev_var (v := .int (cp : Int)) rfl) (ev_c (v := .int 1000)) (rv_I (.inr ⟨by omega, by omega⟩))) (by rw [Int.natCast_mul]; rfl)) rfl h4 X.clC (X.nC _ inC_quota) (by decide +kernel) rfl (by decide) fun H5 o5 h5 => ?_
  refine s_new (ev_var (v := n) rfl) rfl h5 X.clC (X.nC _ inC_quota_at) (by decide +kernel) rfl (by decide) fun H6 o6 h6 => ?_
  exact k H6 (((((o1.trans o2).trans o3).trans o4).trans o5).trans o6) h6
theorem ei_Client {ta : TA} {t r n : V} {cp : Nat} {rf : V} {E : XK} (ha : EvA ta σ H [t, r, .int (cp : Int), rf, n]) : EvI (tMake T.C (spClient T) [] E ta) σ H T.C (nC.zip [t, r, .int (cp : Int), rf, .int ((cp * 1000 : Nat) : Int), n]) :=
  ei_make ha fun x d H1 Q hx _ b => ⟨x, d, t, r, n, cp, rf, rfl, hx, b⟩
/-! Ask -/
def vA (a : AskV) (p : Addr) : List V := [.int (a.client : Int), .int (a.token : Int), .int (a.method : Int), .int (a.timeout : Int), .int (a.key : Int), .ref p]
/-- an ask at an address, its payload's list at another -/
structure AskAt (T : Cls7) (H : Hp) (x p : Addr) (a : AskV) : Prop where
  it : ∃ d, H x = some (.ins T.A d (nA.zip (vA a p)))
  pay : H p = some (.lst (intL a.payload))
theorem AskAt.ex {H H1 : Hp} {x p : Addr} {a : AskV} (A : AskAt T H x p a) (e : Ex H H1) : AskAt T H1 x p a := by
  obtain ⟨⟨d, h⟩, h2⟩ := A
  exact ⟨⟨d, e _ _ h⟩, e _ _ h2⟩
section
variable {x p : Addr} {a : AskV} {ta : TE}
theorem inA_client : ("client" : Str) ∈ Kc.nA := by decide +kernel
theorem inA_token : ("token" : Str) ∈ Kc.nA := by decide +kernel
theorem inA_method : ("method" : Str) ∈ Kc.nA := by decide +kernel
theorem inA_timeout : ("timeout" : Str) ∈ Kc.nA := by decide +kernel
theorem inA_key : ("key" : Str) ∈ Kc.nA := by decide +kernel
theorem inA_payload : ("payload" : Str) ∈ Kc.nA := by decide +kernel
theorem ixA_client : nA.findIdx? (("client" : Str) == ·) = some 0 := by decide +kernel
theorem ixA_token : nA.findIdx? (("token" : Str) == ·) = some 1 := by decide +kernel
theorem ixA_method : nA.findIdx? (("method" : Str) == ·) = some 2 := by decide +kernel
theorem ixA_timeout : nA.findIdx? (("timeout" : Str) == ·) = some 3 := by decide +kernel
theorem ixA_key : nA.findIdx? (("key" : Str) == ·) = some 4 := by decide +kernel
theorem ixA_payload : nA.findIdx? (("payload" : Str) == ·) = some 5 := by decide +kernel
theorem evA_client (X : Txt K mg T B) (A : AskAt T H x p a) (ha : Ev ta σ H (.ref x)) : Ev (tFld K ta "client") σ H (.int ((a.client : Nat) : Int)) := by
  obtain ⟨⟨d, h⟩, _⟩ := A
  exact ev_fld ha h X.clA (X.nA _ inA_client) ((look_zip ixA_client (Nat.le_refl _)).trans rfl)
theorem evA_token (X : Txt K mg T B) (A : AskAt T H x p a) (ha : Ev ta σ H (.ref x)) : Ev (tFld K ta "token") σ H (.int ((a.token : Nat) : Int)) := by
  obtain ⟨⟨d, h⟩, _⟩ := A
  exact ev_fld ha h X.clA (X.nA _ inA_token) ((look_zip ixA_token (Nat.le_refl _)).trans rfl)
theorem evA_method (X : Txt K mg T B) (A : AskAt T H x p a) (ha : Ev ta σ H (.ref x)) : Ev (tFld K ta "method") σ H (.int ((a.method : Nat) : Int)) := by
  obtain ⟨⟨d, h⟩, _⟩ := A
  exact ev_fld ha h X.clA (X.nA _ inA_method) ((look_zip ixA_method (Nat.le_refl _)).trans rfl)
theorem evA_timeout (X : Txt K mg T B) (A : AskAt T H x p a) (ha : Ev ta σ H (.ref x)) : Ev (tFld K ta "timeout") σ H (.int ((a.timeout : Nat) : Int)) := by
  obtain ⟨⟨d, h⟩, _⟩ := A
  exact ev_fld ha h X.clA (X.nA _ inA_timeout) ((look_zip ixA_timeout (Nat.le_refl _)).trans rfl)
theorem evA_key (X : Txt K mg T B) (A : AskAt T H x p a) (ha : Ev ta σ H (.ref x)) : Ev (tFld K ta "key") σ H (.int ((a.key : Nat) : Int)) := by
  obtain ⟨⟨d, h⟩, _⟩ := A
  exact ev_fld ha h X.clA (X.nA _ inA_key) ((look_zip ixA_key (Nat.le_refl _)).trans rfl)
theorem evA_payload (X : Txt K mg T B) (A : AskAt T H x p a) (ha : Ev ta σ H (.ref x)) : Ev (tFld K ta "payload") σ H (.ref p) := by
  obtain ⟨⟨d, h⟩, _⟩ := A
  exact ev_fld ha h X.clA (X.nA _ inA_payload) ((look_zip ixA_payload (Nat.le_refl _)).trans rfl)
end
/-! Execution -/
def spExecution (T : Cls7) : Sp := fun vs H Q _ => ∃ (x d ak p : Addr) (n pr : V) (a : AskV), vs = [.ref x, n, .ref ak, pr] ∧ H x = some (.ins T.E d []) ∧ ak ≠ x ∧ AskAt T H ak p a ∧
  ∀ H2 em fr f0 df, H em = none → H fr = none → H f0 = none → em ≠ fr → em ≠ f0 → fr ≠ f0 → Off x H H2 → H2 em = some (.lst []) → H2 fr = some (.lst [.ref f0]) → H2 f0 = some (.ins T.F df (nF.zip [pr, .int 0])) →
    H2 x = some (.ins T.E d (nE.zip [n, .int (a.client : Int), .int (a.key : Int), .int (a.method : Int), .ref p, .int 0, .int 0, .int 0, .int 0, .int 0, .int 0, .ref em, .ref fr])) → Q .non H2
theorem AskAt.off {H H1 : Hp} {x ak p : Addr} {a : AskV} (A : AskAt T H ak p a) (o : Off x H H1) (n : ak ≠ x) (h : ∃ C d fs, H x = some (.ins C d fs)) : AskAt T H1 ak p a := by
  obtain ⟨⟨d, q⟩, h2⟩ := A
  obtain ⟨C, d', fs, hx⟩ := h
  exact ⟨⟨d, o _ _ n q⟩, o _ _ (fun z => by rw [z, hx] at h2; cases h2) h2⟩
theorem rd_Execution (X : Txt K mg T B) (vs : List V) (H : Hp) (Q : VK) (E : XK) (h : spExecution T vs H Q E) : t_Execution K T (spFrame T) { nx := fun _ H' => Q .non H', rt := Q } (start N_Execution vs) H := by
  obtain ⟨x, d, ak, p, n, pr, a, rfl, hx, ne, A, k⟩ := h
  have hn : ∀ {q : Addr}, H q = none → q ≠ x := fun hq z => by rw [z, hx] at hq; cases hq
  refine q_new (ns := []) (vs := []) (ev_var (v := n) rfl) rfl hx X.clE (X.nE _ inE_number) (by decide +kernel) rfl (by decide) fun H1 o1 h1 => ?_
  have A1 := A.off o1 ne ⟨_, _, _, hx⟩
  refine q_new (evA_client X A1 (ev_var rfl)) rfl h1 X.clE (X.nE _ inE_client) (by decide +kernel) rfl (by decide) fun H2 o2 h2 => ?_
  have A2 := A1.off o2 ne ⟨_, _, _, h1⟩
  refine q_new (evA_key X A2 (ev_var rfl)) rfl h2 X.clE (X.nE _ inE_key) (by decide +kernel) rfl (by decide) fun H3 o3 h3 => ?_
  have A3 := A2.off o3 ne ⟨_, _, _, h2⟩
  refine q_new (evA_method X A3 (ev_var rfl)) rfl h3 X.clE (X.nE _ inE_method) (by decide +kernel) rfl (by decide) fun H4 o4 h4 => ?_
  have A4 := A3.off o4 ne ⟨_, _, _, h3⟩
  refine q_new (evA_payload X A4 (ev_var rfl)) rfl h4 X.clE (X.nE _ inE_payload) (by decide +kernel) rfl (by decide) fun H5 o5 h5 => ?_
  refine q_new (ev_c (v := .int 0)) rfl h5 X.clE (X.nE _ inE_state) (by decide +kernel) rfl (by decide) fun H6 o6 h6 => ?_
  refine q_new (ev_c (v := .int 0)) rfl h6 X.clE (X.nE _ inE_status) (by decide +kernel) rfl (by decide) fun H7 o7 h7 => ?_
  refine q_new (ev_c (v := .int 0)) rfl h7 X.clE (X.nE _ inE_wakes_at) (by decide +kernel) rfl (by decide) fun H8 o8 h8 => ?_
  refine q_new (ev_c (v := .int 0)) rfl h8 X.clE (X.nE _ inE_started_at) (by decide +kernel) rfl (by decide) fun H9 o9 h9 => ?_
  refine q_new (ev_c (v := .int 0)) rfl h9 X.clE (X.nE _ inE_finished_at) (by decide +kernel) rfl (by decide) fun Ha oa ha => ?_
  refine q_new (ev_c (v := .int 0)) rfl ha X.clE (X.nE _ inE_executed) (by decide +kernel) rfl (by decide) fun Hb ob hb => ?_
  have oAll : Off x H Hb := (((((((((o1.trans o2).trans o3).trans o4).trans o5).trans o6).trans o7).trans o8).trans o9).trans oa).trans ob
  have back : ∀ {G : Hp} {q : Addr}, Off x H G → q ≠ x → G q = none → H q = none := fun {G q} o y hq => by
    cases z : H q with
    | none => rfl
    | some u =>
      rw [o _ _ y z] at hq
      cases hq
  refine q_newL (el_lst ea_nil (by decide)) rfl hb X.clE (X.nE _ inE_emitted) (by decide +kernel) rfl (by decide) fun em Hc hem oc hemc hc => ?_
  have emx : em ≠ x := fun z => by rw [z, hb] at hem; cases hem
  refine s_newI (ei_Frame (ev_var (v := pr) rfl)) rfl hc X.clE (X.nE _ inE_frames) (by decide +kernel) rfl (by decide) fun f0 df fr Hd He hf0 ed hd hfr he => ?_
  · rw [he]
    have f0x : f0 ≠ x := fun z => by rw [z, hc] at hf0; cases hf0
    have frx : fr ≠ x := fun z => by rw [z, ed _ _ hc] at hfr; cases hfr
    have emfr : em ≠ fr := fun z => by rw [← z, ed _ _ hemc] at hfr; cases hfr
    have emf0 : em ≠ f0 := fun z => by rw [← z, hemc] at hf0; cases hf0
    have frf0 : fr ≠ f0 := fun z => by rw [z, hd] at hfr; cases hfr
    have oc2 : Off x H Hc := oAll.trans oc
    have od : Off x H Hd := oc2.trans (Off.ex ed)
    refine k _ em fr f0 df (back oAll emx hem) (back od frx hfr) (back oc2 f0x hf0) emfr emf0 frf0 ((od.trans (Off.ex (Ex.new hfr))).upd) ?_ ?_ ?_ upd_same
    · rw [upd_ne emx, upd_ne emfr]
      exact ed _ _ hemc
    · rw [upd_ne frx, upd_same]
    · rw [upd_ne f0x, upd_ne frf0.symm]
      exact hd
/-! Server -/
def srv0 (l ql di sh lt : Nat) : Srv := ⟨l, ql, di, sh, lt, 0, [], [], [], [], [0, 0, 0, 0], 0, none, false⟩
def spServer (T : Cls7) : Sp := fun vs H Q _ => ∃ (x d : Addr) (l ql di sh lt : Nat), vs = [.ref x, .int (l : Int), .int (ql : Int), .int (di : Int), .int (sh : Int), .int (lt : Int)] ∧ H x = some (.ins T.S d []) ∧
  ∀ H2 (L : Loc), L.at_ .srv = x → L.dx .srv = d → (∀ r, (cont T (srv0 l ql di sh lt) L r).isSome = true → r ≠ .srv → H (L.at_ r) = none) → Off x H H2 → (∀ r o, cont T (srv0 l ql di sh lt) L r = some o → H2 (L.at_ r) = some o) →
    (∀ r r', (cont T (srv0 l ql di sh lt) L r).isSome = true → (cont T (srv0 l ql di sh lt) L r').isSome = true → L.at_ r = L.at_ r' → r = r') → Q .non H2
theorem rv_rep {σ : L2.St} {H : Hp} {te tk : TE} {xs : List V} {k : Nat} (h : EvL te σ H xs) (hk : ∀ H1, Ex H H1 → Ev tk σ H1 (.int (k : Int))) (hz : xs.length * k ≤ 100000) (h2 : k ≤ 1000) : EvL (tOp rRep te tk) σ H (List.replicate k xs).flatten := fun H1 e Q q =>
  h H1 e _ fun p H2 hp e2 hx => hk H2 (e.trans e2) H2 (Ex.refl H2) _ fun H3 e3 => ⟨p, k, xs, rfl, rfl, e3 _ _ hx, by omega, by omega, by rw [Int.toNat_natCast]; exact sz_of hz, fun r hr => by
    rw [Int.toNat_natCast]
    exact q r _ (fresh_back (e2.trans e3) hr) ((e2.trans e3).trans (Ex.new hr)) upd_same⟩
theorem rd_Server (X : Txt K mg T B) (vs : List V) (H : Hp) (Q : VK) (E : XK) (h : spServer T vs H Q E) : t_Server K T { nx := fun _ H' => Q .non H', rt := Q } (start N_Server vs) H := by
  obtain ⟨x, d, l, ql, di, sh, lt, rfl, hx, k⟩ := h
  refine q_new (ns := []) (vs := []) (ev_var (v := .int (l : Int)) rfl) rfl hx X.clS (X.nS _ inS_limit) (by decide +kernel) rfl (by decide) fun H1 o1 h1 => ?_
  refine q_new (ev_var (v := .int (ql : Int)) rfl) rfl h1 X.clS (X.nS _ inS_queue_limit) (by decide +kernel) rfl (by decide) fun H2 o2 h2 => ?_
  refine q_new (ev_var (v := .int (di : Int)) rfl) rfl h2 X.clS (X.nS _ inS_discipline) (by decide +kernel) rfl (by decide) fun H3 o3 h3 => ?_
  refine q_new (ev_var (v := .int (sh : Int)) rfl) rfl h3 X.clS (X.nS _ inS_shedding) (by decide +kernel) rfl (by decide) fun H4 o4 h4 => ?_
  refine q_new (ev_var (v := .int (lt : Int)) rfl) rfl h4 X.clS (X.nS _ inS_lifetime) (by decide +kernel) rfl (by decide) fun H5 o5 h5 => ?_
  refine q_new (ev_c (v := .int 0)) rfl h5 X.clS (X.nS _ inS_now) (by decide +kernel) rfl (by decide) fun H6 o6 h6 => ?_
  refine q_newL (el_lst ea_nil (by decide)) rfl h6 X.clS (X.nS _ inS_methods) (by decide +kernel) rfl (by decide) fun pm H7 fm o7 cm h7 => ?_
  refine q_newL (el_lst ea_nil (by decide)) rfl h7 X.clS (X.nS _ inS_clients) (by decide +kernel) rfl (by decide) fun pc H8 fc o8 cc h8 => ?_
  refine q_newL (el_lst ea_nil (by decide)) rfl h8 X.clS (X.nS _ inS_executions) (by decide +kernel) rfl (by decide) fun pe H9 fe o9 ce h9 => ?_
  refine q_newL (el_lst ea_nil (by decide)) rfl h9 X.clS (X.nS _ inS_requests) (by decide +kernel) rfl (by decide) fun pr Ha fr oa cr ha => ?_
  refine q_newL (rv_rep (k := 4) (el_lst (ea_cons (ev_c (v := .int 0)) ea_nil) (by decide)) (fun _ _ => ev_c (v := .int 4)) (by decide) (by decide)) rfl ha X.clS (X.nS _ inS_registers) (by decide +kernel) rfl (by decide) fun pg Hb fg ob cg hb => ?_
  refine q_new (ev_c (v := .int 0)) rfl hb X.clS (X.nS _ inS_average) (by decide +kernel) rfl (by decide) fun Hc oc hc => ?_
  refine q_new (ev_c (v := .non)) rfl hc X.clS (X.nS _ inS_grace_end) (by decide +kernel) rfl (by decide) fun He oe he => ?_
  refine s_new (ev_c (v := .bl false)) rfl he X.clS (X.nS _ inS_grace_over) (by decide +kernel) rfl (by decide) fun Hd oed hd => ?_
  have od := oe.trans oed
  have back : ∀ {G G' : Hp} {q : Addr}, Off x G G' → q ≠ x → G' q = none → G q = none := fun {G G' q} o y hq => by
    cases z : G q with
    | none => rfl
    | some u =>
      rw [o _ _ y z] at hq
      cases hq
  have mx : pm ≠ x := fun z => by rw [z, h6] at fm; cases fm
  have cx : pc ≠ x := fun z => by rw [z, h7] at fc; cases fc
  have ex : pe ≠ x := fun z => by rw [z, h8] at fe; cases fe
  have rx : pr ≠ x := fun z => by rw [z, h9] at fr; cases fr
  have gx : pg ≠ x := fun z => by rw [z, ha] at fg; cases fg
  have o16 : Off x H H6 := ((((o1.trans o2).trans o3).trans o4).trans o5).trans o6
  have ocd := oc.trans od
  have cm8 := o8 _ _ mx cm
  have cm9 := o9 _ _ mx cm8
  have cma := oa _ _ mx cm9
  have cmb := ob _ _ mx cma
  have cc9 := o9 _ _ cx cc
  have cca := oa _ _ cx cc9
  have ccb := ob _ _ cx cca
  have cea := oa _ _ ex ce
  have ceb := ob _ _ ex cea
  have crb := ob _ _ rx cr
  have mc : pm ≠ pc := fun z => by rw [← z, cm] at fc; cases fc
  have me : pm ≠ pe := fun z => by rw [← z, cm8] at fe; cases fe
  have mr : pm ≠ pr := fun z => by rw [← z, cm9] at fr; cases fr
  have mg_ : pm ≠ pg := fun z => by rw [← z, cma] at fg; cases fg
  have ce_ : pc ≠ pe := fun z => by rw [← z, cc] at fe; cases fe
  have cr_ : pc ≠ pr := fun z => by rw [← z, cc9] at fr; cases fr
  have cg_ : pc ≠ pg := fun z => by rw [← z, cca] at fg; cases fg
  have er : pe ≠ pr := fun z => by rw [← z, ce] at fr; cases fr
  have eg : pe ≠ pg := fun z => by rw [← z, cea] at fg; cases fg
  have rg : pr ≠ pg := fun z => by rw [← z, cr] at fg; cases fg
  have fm0 := back o16 mx fm
  have fc0 := back (o16.trans o7) cx fc
  have fe0 := back ((o16.trans o7).trans o8) ex fe
  have fr0 := back (((o16.trans o7).trans o8).trans o9) rx fr
  have fg0 := back ((((o16.trans o7).trans o8).trans o9).trans oa) gx fg
  obtain ⟨L, hL⟩ : ∃ L : Loc, L = ⟨fun r => match r with | .srv => x | .meths => pm | .clis => pc | .exes => pe | .reqs => pr | .regs => pg | _ => x, fun _ => d⟩ := ⟨_, rfl⟩
  refine k Hd L (by rw [hL]) (by rw [hL]) (fun r hr hs => ?_) ((((((o16.trans o7).trans o8).trans o9).trans oa).trans ob).trans ocd) (fun r o hr => ?_) fun r r' h1 h2 z => ?_
  · cases r <;> first | exact absurd rfl hs | (rw [hL]; assumption) | (simp [cont, srv0] at hr)
  · cases r <;> first | (simp [cont, srv0] at hr; done) | skip
    · rw [← Option.some.inj hr, hL]
      exact hd
    · rw [← Option.some.inj hr, hL]
      exact ocd _ _ mx cmb
    · rw [← Option.some.inj hr, hL]
      exact ocd _ _ cx ccb
    · rw [← Option.some.inj hr, hL]
      exact ocd _ _ ex ceb
    · rw [← Option.some.inj hr, hL]
      exact ocd _ _ rx crb
    · rw [← Option.some.inj hr, hL]
      exact ocd _ _ gx cg
  · rw [hL] at z
    cases r <;> first | (simp [cont, srv0] at h1; done) | skip
    all_goals cases r' <;> first | (simp [cont, srv0] at h2; done) | rfl | (exfalso; first | exact mx z | exact mx z.symm | exact cx z | exact cx z.symm | exact ex z | exact ex z.symm | exact rx z | exact rx z.symm | exact gx z | exact gx z.symm | exact mc z | exact mc z.symm | exact me z | exact me z.symm | exact mr z | exact mr z.symm | exact mg_ z | exact mg_ z.symm | exact ce_ z | exact ce_ z.symm | exact cr_ z | exact cr_ z.symm | exact cg_ z | exact cg_ z.symm | exact er z | exact er z.symm | exact eg z | exact eg z.symm | exact rg z | exact rg z.symm)
/-! slices -/
theorem cut_all (xs : List V) (a b : Nat) (ha : a ≤ b) (h : b ≤ xs.length) : cutV xs (some (a : Int)) (some (b : Int)) = (xs.drop a).take (b - a) := by
  unfold cutV
  rw [HT.sIx_nat, HT.sIx_nat, Nat.min_eq_left h, Nat.min_eq_left (Nat.le_trans ha h)]
theorem cut_from (xs : List V) (a : Nat) (h : a ≤ xs.length) : cutV xs (some (a : Int)) none = xs.drop a := by
  unfold cutV
  rw [HT.sIx_nat, HT.sIx_none, Nat.min_eq_left h, List.take_of_length_le (by rw [List.length_drop]; exact Nat.le_refl _)]
theorem cut_to (xs : List V) (b : Nat) (h : b ≤ xs.length) : cutV xs none (some (b : Int)) = xs.take b := by
  unfold cutV
  rw [HT.sIx_nat, HT.sIx_none, Nat.min_eq_left h, List.drop_zero, Nat.sub_zero]
theorem intL_drop (l : List Nat) (k : Nat) : (intL l).drop k = intL (l.drop k) := by
  unfold intL
  rw [List.map_drop]
theorem intL_take (l : List Nat) (k : Nat) : (intL l).take k = intL (l.take k) := by
  unfold intL
  rw [List.map_take]
/-! Ask -/
def askOf (l : List Nat) : AskV := ⟨l.getD 0 0, l.getD 1 0, l.getD 2 0, l.getD 3 0, l.getD 4 0, l.drop 5⟩
def spAsk (K : PySem.W.Frag) (T : Cls7) : Sp := fun vs H Q _ => ∃ (x d q : Addr) (l : List Nat), vs = [.ref x, .ref q] ∧ H x = some (.ins T.A d []) ∧ q ≠ x ∧ (∀ H1, Off x H H1 → SqL K H1 q (intL l)) ∧ 5 ≤ l.length ∧
  ∀ H2 p, H p = none → Off x H H2 → AskAt T H2 x p (askOf l) → Q .non H2
theorem rd_Ask (X : Txt K mg T B) (vs : List V) (H : Hp) (Q : VK) (E : XK) (h : spAsk K T vs H Q E) : t_Ask K T { nx := fun _ H' => Q .non H', rt := Q } (start N_Ask vs) H := by
  obtain ⟨x, d, q, l, rfl, hx, ne, hq, h5, k⟩ := h
  have g : ∀ i, i < 5 → (intL l)[i]? = some (.int ((l.getD i 0 : Nat) : Int)) := fun i hi => intL_get (by rw [List.getD_eq_getElem?_getD, List.getElem?_eq_getElem (by omega)]; rfl)
  have rd : ∀ (H1 : Hp) (i : Nat), Off x H H1 → i < 5 → Ev (tOp (rIxL K) (tVar 1) (tC (.int (i : Int)))) (start N_Ask [.ref x, .ref q]) H1 (.int ((l.getD i 0 : Nat) : Int)) := fun H1 i o hi =>
    ev_op (ev_var rfl) ev_c (rv_ixL (hq H1 o) (atI_nat (g i hi)))
  refine q_new (ns := []) (vs := []) (rd H 0 Off.refl (by decide)) rfl hx X.clA (X.nA _ inA_client) (by decide +kernel) rfl (by decide) fun H1 o1 h1 => ?_
  refine q_new (rd H1 1 o1 (by decide)) rfl h1 X.clA (X.nA _ inA_token) (by decide +kernel) rfl (by decide) fun H2 o2 h2 => ?_
  have o2' := o1.trans o2
  refine q_new (rd H2 2 o2' (by decide)) rfl h2 X.clA (X.nA _ inA_method) (by decide +kernel) rfl (by decide) fun H3 o3 h3 => ?_
  have o3' := o2'.trans o3
  refine q_new (rd H3 3 o3' (by decide)) rfl h3 X.clA (X.nA _ inA_timeout) (by decide +kernel) rfl (by decide) fun H4 o4 h4 => ?_
  have o4' := o3'.trans o4
  refine q_new (rd H4 4 o4' (by decide)) rfl h4 X.clA (X.nA _ inA_key) (by decide +kernel) rfl (by decide) fun H5 o5 h5' => ?_
  have o5' := o4'.trans o5
  have e0 : cutV (intL l) (some ((5 : Nat) : Int)) none = intL (l.drop 5) := by rw [cut_from _ _ (by rw [intL_len]; exact h5), intL_drop]
  refine s_newL (xs := intL (l.drop 5)) (by
    rw [← e0]
    exact el_sl (ev_var rfl) (eo_some ev_c) eo_none (hq H5 o5')) rfl h5' X.clA (X.nA _ inA_payload) (by decide +kernel) rfl (by decide) fun p H6 fp o6 hp h6 => ?_
  have px : p ≠ x := fun z => by rw [z, h5'] at fp; cases fp
  refine k H6 p ?_ (o5'.trans o6) ⟨⟨d, h6⟩, hp⟩
  cases z : H p with
  | none => rfl
  | some u =>
    rw [o5' _ _ px z] at fp
    cases fp
end
end Kc
/-! executing: the promises -/
namespace Kc
open PySem PySem.Spec PyProof.Rows L2 KM Evl
section
variable {K : PySem.W.Frag} {mg : Str → Option Value} {T : Cls7} {B : Blt} {σ : L2.St} {H : Hp} {ta tb tc te : TE} {D : Ends} {s : Srv} {L : Loc} {i : Nat}
theorem sum_nat (l : List Nat) : (l.map fun (n : Nat) => (n : Int)).sum = ((l.sum : Nat) : Int) := by
  induction l with
  | nil => rfl
  | cons a r ih => rw [List.map_cons, List.sum_cons, ih, List.sum_cons, Int.natCast_add]
theorem ev_sum {p : Addr} {l : List Nat} (ha : Ev ta σ H (.ref p)) (h : H p = some (.lst (intL l))) : Ev (tCB (rSum K) (tCons ta tNil)) σ H (.int ((l.sum : Nat) : Int)) := fun H1 e Q q =>
  ha H1 e _ fun H2 e2 => ⟨p, l.map fun (n : Nat) => (n : Int), rfl, sq_of (by
    have q := e2 _ _ (e _ _ h)
    rw [q, intL, List.map_map]
    rfl), by rw [sum_nat]; exact q H2 e2⟩
theorem intL_set {l : List Nat} {k x : Nat} : (intL l).set k (.int (x : Int)) = intL (l.set k x) := by
  unfold intL
  rw [List.map_set]
/-- xs[k] += e over a list of numbers -/
theorem s_augL {p : Addr} {l : List Nat} {k x y : Nat} {to ti tv : TE} (ho : Ev to σ H (.ref p)) (hi : Ev ti σ H (.int (k : Int))) (h : H p = some (.lst (intL l))) (hx : l[k]? = some x) (hv : Ev tv σ H (.int (y : Int)))
    (q : ∀ H1, Ex H H1 → D.nx σ (upd H1 p (.lst (intL (l.set k (x + y)))))) : tAugS to ti tv (rGetL K) (ipI fun i j => i + j) rSetL D σ H :=
  ho H (Ex.refl H) _ fun H1 e1 => hi H1 e1 _ fun H2 e2 => ⟨p, intL l, k, .int (x : Int), rfl, rfl, sq_of ((e1.trans e2) _ _ h), intL_get hx, hv H2 (e1.trans e2) _ fun H3 e3 =>
    ⟨(x : Int), (y : Int), rfl, rfl, p, intL l, (k : Int), k, rfl, rfl, (((e1.trans e2).trans e3)) _ _ h, ixN_nat (by rw [intL_len]; exact (List.getElem?_eq_some_iff.mp hx).1), by
      have z := q H3 ((e1.trans e2).trans e3)
      rw [← intL_set, Int.natCast_add] at z
      exact z⟩⟩
/-! values_to_emit -/
def spValues (T : Cls7) : Sp := fun vs H Q _ => ∃ (s : Srv) (L : Loc) (i : Nat) (e : Exe) (c a : Nat), vs = [.ref (L.at_ .srv), .ref (L.at_ (.exe i)), .int (c : Int), .int (a : Int)] ∧ Rep T s L H ∧ s.executions[i]? = some e ∧ (c ≠ 1 → c ≠ 2 → a < s.registers.length) ∧
  ∀ H' p, Go T s L H { s with registers := (valuesOf c a e.payload s.registers).2 } L H' → H' p = some (.lst (intL (valuesOf c a e.payload s.registers).1)) → Q (.ref p) H'
theorem rd_values_to_emit (X : Txt K mg T B) (vs : List V) (H : Hp) (Q : VK) (E : XK) (h : spValues T vs H Q E) : t_values_to_emit K T { nx := fun _ H' => Q .non H', rt := Q } (start N_values_to_emit vs) H := by
  obtain ⟨s, L, i, e, c, a, rfl, R, he, ha, k⟩ := h
  unfold valuesOf at k
  refine q_when (et_is (et_test (ev_op (ev_var (v := .int (c : Int)) rfl) (ev_c (v := .int ((1 : Nat) : Int))) (rv_eq rfl))) (nat_eq _ _)) (fun hb H1 e1 => ?_) fun hb H1 e1 => ?_
  · rw [if_pos (eq_of_beq hb)] at k
    refine s_retL (xs := intL [a]) (el_lst (ea_cons (ev_var rfl) ea_nil) (by show 1 ≤ 100000; decide)) fun p H2 hp e2 h2 => k H2 p (Go.ex R (e1.trans e2)) h2
  · have c1 : c ≠ 1 := fun z => by rw [z] at hb; cases hb
    rw [if_neg c1] at k
    have R1 := R.ex e1
    refine q_when (et_is (et_test (ev_op (ev_var (v := .int (c : Int)) rfl) (ev_c (v := .int ((2 : Nat) : Int))) (rv_eq rfl))) (nat_eq _ _)) (fun hb H2 e2 => ?_) fun hb H2 e2 => ?_
    · rw [if_pos (eq_of_beq hb)] at k
      have R2 := R1.ex e2
      refine s_ret (evE_payload X R2 he (ev_var rfl)) fun H3 e3 => k H3 _ (Go.ex R ((e1.trans e2).trans e3)) ((R2.ex e3).pay he)
    · have c2 : c ≠ 2 := fun z => by rw [z] at hb; cases hb
      rw [if_neg c2] at k
      have R2 := R1.ex e2
      have al := ha c1 c2
      have hg : s.registers[a]? = some (s.registers.getD a 0) := by rw [List.getD_eq_getElem?_getD, List.getElem?_eq_getElem al]; rfl
      refine q_when (et_is (et_test (ev_op (ev_var (v := .int (c : Int)) rfl) (ev_c (v := .int ((3 : Nat) : Int))) (rv_eq rfl))) (nat_eq _ _)) (fun hb H3 e3 => ?_) fun hb H3 e3 => ?_
      · rw [if_pos (eq_of_beq hb)] at k
        have R3 := R2.ex e3
        refine s_augL (l := s.registers) (k := a) (evS_registers X R3 (ev_var rfl)) (ev_var rfl) (R3.at_ .regs _ rfl) hg (ev_sum (evE_payload X R3 he (ev_var rfl)) (R3.pay he)) fun H4 e4 => ?_
        have G := (Go.ex R (((e1.trans e2).trans e3).trans e4)).trans (Go.regs (R3.ex e4) (l := s.registers.set a (s.registers.getD a 0 + e.payload.sum)))
        have R5 := G.rep
        refine s_retL (xs := intL [s.registers.getD a 0 + e.payload.sum]) (el_lst (ea_cons (ev_op (evS_registers X R5 (ev_var rfl)) (ev_var rfl) (rv_ixL (sq_of (R5.at_ .regs _ rfl)) (atI_nat (intL_get (set_at hg))))) ea_nil) (by show 1 ≤ 100000; decide)) fun p H6 hp e6 h6 => k H6 p (G.trans (Go.ex R5 e6)) h6
      · have c3 : c ≠ 3 := fun z => by rw [z] at hb; cases hb
        rw [if_neg c3] at k
        have R3 := R2.ex e3
        refine s_retL (xs := intL [s.registers.getD a 0]) (el_lst (ea_cons (ev_op (evS_registers X R3 (ev_var rfl)) (ev_var rfl) (rv_ixL (sq_of (R3.at_ .regs _ rfl)) (atI_nat (intL_get hg)))) ea_nil) (by show 1 ≤ 100000; decide)) fun p H4 hp e4 h4 => k H4 p (Go.ex R (((e1.trans e2).trans e3).trans e4)) h4
/-- xs.extend(ys) -/
theorem s_ext {l b : Addr} {xs zs : List V} (hl : H l = some (.lst xs)) (ha : Ev ta σ H (.ref l)) (hb : Ev te σ H (.ref b)) (h2 : H b = some (.lst zs)) (hz : xs.length + zs.length ≤ 100000) (k : ∀ H1, Ex H H1 → D.nx σ (upd H1 l (.lst (xs ++ zs)))) :
    tDrop (tBM K "list" rExtend ta (tCons te tNil)) D σ H := ha H (Ex.refl H) _ fun H1 e1 =>
  ⟨Or.inl ⟨rfl, xs, sq_of (e1 l _ hl)⟩, hb H1 e1 _ fun H2 e2 => ⟨l, b, xs, zs, rfl, rfl, e2 l _ (e1 l _ hl), e2 b _ (e1 b _ h2), sz_of hz, k H2 (e1.trans e2)⟩⟩
theorem q_ext {tz : TS} {l b : Addr} {xs zs : List V} (hl : H l = some (.lst xs)) (ha : Ev ta σ H (.ref l)) (hb : Ev te σ H (.ref b)) (h2 : H b = some (.lst zs)) (hz : xs.length + zs.length ≤ 100000) (k : ∀ H1, Ex H H1 → tz D σ (upd H1 l (.lst (xs ++ zs)))) :
    tSeq (tDrop (tBM K "list" rExtend ta (tCons te tNil))) tz D σ H := s_ext (D := { D with nx := tz D }) hl ha hb h2 hz k
/-! emit -/
def spEmit (T : Cls7) : Sp := fun vs H Q _ => ∃ (s : Srv) (L : Loc) (i : Nat) (e : Exe) (p : Addr) (l : List Nat), vs = [.ref (L.at_ (.exe i)), .ref p] ∧ Rep T s L H ∧ s.executions[i]? = some e ∧ H p = some (.lst (intL l)) ∧
  ((40 < e.emitted.length + l.length → ∀ H', Ex H H' → Q (.bl false) H') ∧ (¬ 40 < e.emitted.length + l.length → ∀ H', Go T s L H (setE s i { e with emitted := e.emitted ++ l }) L H' → Q (.bl true) H'))
theorem intL_app (l m : List Nat) : intL l ++ intL m = intL (l ++ m) := by
  unfold intL
  rw [List.map_append]
theorem rd_emit (X : Txt K mg T B) (vs : List V) (H : Hp) (Q : VK) (E : XK) (h : spEmit T vs H Q E) : t_emit K T { nx := fun _ H' => Q .non H', rt := Q } (start N_emit vs) H := by
  obtain ⟨s, L, i, e, p, l, rfl, R, he, hp, k1, k2⟩ := h
  refine q_when (b := decide (40 < e.emitted.length + l.length)) (et_is (et_test (ev_op (ev_op (ev_len (evE_emitted X R he (ev_var rfl)) (sq_of (R.emi he))) (ev_len (ev_var rfl) (sq_of hp)) rv_I0) (ev_c (v := .int ((40 : Nat) : Int))) rv_I0)) ?_) (fun hb H1 e1 => ?_) fun hb H1 e1 => ?_
  · rw [intL_len, intL_len, ← Int.natCast_add]
    exact nat_lt _ _
  · exact s_ret ev_c fun H2 e2 => k1 (of_decide_eq_true hb) H2 (e1.trans e2)
  · have hb := of_decide_eq_false hb
    have R1 := R.ex e1
    refine q_ext (R1.emi he) (evE_emitted X R1 he (ev_var rfl)) (ev_var rfl) (e1 _ _ hp) (by rw [intL_len, intL_len]; omega) fun H2 e2 => ?_
    rw [intL_app]
    have R2 := R1.ex e2
    have G := (Go.ex R (e1.trans e2)).trans (Go.emit (e' := { e with emitted := e.emitted ++ l }) R2 he rfl rfl rfl)
    exact s_ret ev_c fun H3 e3 => k2 hb H3 (G.trans (Go.ex G.rep e3))
/-! execute -/
/-- an instruction that the rest of the program can take -/
def goodI (mc c a : Nat) : Prop := (c = 5 → a < mc) ∧ (c ≠ 1 → c ≠ 2 → c ≠ 4 → c ≠ 5 → c ≠ 0 → a < 4) ∧ (c = 0 → a ≤ 10000)
structure InOk (s : Srv) : Prop where
  good : ∀ m, m < s.methods.length → ∀ p, p % 2 = 0 → p < (progAt s m).length → goodI s.methods.length ((progAt s m).getD p 0) ((progAt s m).getD (p + 1) 0)
theorem takeI_fr {s : Srv} : ∀ {fr : List (Nat × Nat)}, FrOk s fr → FrOk s (takeI (progAt s) fr).2 ∧ (takeI (progAt s) fr).2.length ≤ fr.length
  | [], h => ⟨h, Nat.le_refl _⟩
  | (m, p) :: r, h => by
    by_cases hl : p < (progAt s m).length
    · have e : takeI (progAt s) ((m, p) :: r) = (some ((progAt s m).getD p 0, (progAt s m).getD (p + 1) 0), (m, p + 2) :: r) := if_pos hl
      rw [e]
      refine ⟨⟨fun f hf => ?_, fun f hf => ?_⟩, Nat.le_refl _⟩
      · rcases List.mem_cons.mp hf with z | z
        · rw [z]
          exact h.meth (m, p) List.mem_cons_self
        · exact h.meth f (List.mem_cons_of_mem _ z)
      · rcases List.mem_cons.mp hf with z | z
        · rw [z]
          have := h.even (m, p) List.mem_cons_self
          show (p + 2) % 2 = 0
          omega
        · exact h.even f (List.mem_cons_of_mem _ z)
    · rw [takeI_skip hl]
      have z := takeI_fr (s := s) (fr := r) ⟨fun f hf => h.meth f (List.mem_cons_of_mem _ hf), fun f hf => h.even f (List.mem_cons_of_mem _ hf)⟩
      exact ⟨z.1, Nat.le_succ_of_le z.2⟩
theorem takeI_good {s : Srv} (I : InOk s) : ∀ {fr : List (Nat × Nat)} {c a : Nat}, FrOk s fr → (takeI (progAt s) fr).1 = some (c, a) → goodI s.methods.length c a
  | [], _, _, _, q => by cases q
  | (m, p) :: r, c, a, h, q => by
    by_cases hl : p < (progAt s m).length
    · have e : takeI (progAt s) ((m, p) :: r) = (some ((progAt s m).getD p 0, (progAt s m).getD (p + 1) 0), (m, p + 2) :: r) := if_pos hl
      rw [e] at q
      cases q
      exact I.good m (h.meth (m, p) List.mem_cons_self) p (h.even (m, p) List.mem_cons_self) hl
    · rw [takeI_skip hl] at q
      exact takeI_good I ⟨fun f hf => h.meth f (List.mem_cons_of_mem _ hf), fun f hf => h.even f (List.mem_cons_of_mem _ hf)⟩ q
theorem at2_at {e e' : Exe} {g : List Nat} (h : s.executions[i]? = some e) : (at2 s i e' g).executions[i]? = some e' := set_at h
theorem at2_set {e e' : Exe} {g : List Nat} : setE (at2 s i e g) i e' = at2 s i e' g := by
  unfold setE at2
  simp
theorem at2_same {e : Exe} (h : s.executions[i]? = some e) : at2 s i e s.registers = s := by
  have z := setE_same h
  unfold setE at z
  unfold at2
  have q : s.executions.set i e = s.executions := congrArg Srv.executions z
  rw [q]
structure ExOk (s : Srv) (e : Exe) : Prop where
  fr : FrOk s e.frames
  len : e.frames.length ≤ e.executed + 1
  most : e.executed ≤ 100
  emi : e.emitted.length ≤ 40
def spExecute (T : Cls7) : Sp := fun vs H Q _ => ∃ (s : Srv) (L : Loc) (i : Nat) (e : Exe), vs = [.ref (L.at_ .srv), .ref (L.at_ (.exe i))] ∧ Rep T s L H ∧ s.executions[i]? = some e ∧ PrOk s ∧ InOk s ∧ ExOk s e ∧ s.registers.length = 4 ∧
  ∀ L' H', Go T s L H (at2 s i (run (progAt s) s.now (101 - e.executed) e s.registers).1 (run (progAt s) s.now (101 - e.executed) e s.registers).2.1) L' H' → Q (opt (run (progAt s) s.now (101 - e.executed) e s.registers).2.2) H'
theorem valuesOf_regs {c a : Nat} {pay g : List Nat} : (valuesOf c a pay g).2.length = g.length := by
  unfold valuesOf
  repeat' split
  all_goals simp
theorem s_asgCall {sp : Sp} {dvs vs : List V} {E : XK} {ta : TA} {j : Nat} (ha : EvA ta σ H vs) (k : ∀ H1, Ex H H1 → sp (vs ++ dvs) H1 (fun v H2 => D.nx (σ.set j (some v)) H2) E) : tAsg (tCall sp dvs E ta) (gName j) D σ H := ha H (Ex.refl H) _ k
theorem q_asgCall {tz : TS} {sp : Sp} {dvs vs : List V} {E : XK} {ta : TA} {j : Nat} (ha : EvA ta σ H vs) (k : ∀ H1, Ex H H1 → sp (vs ++ dvs) H1 (fun v H2 => tz D (σ.set j (some v)) H2) E) : tSeq (tAsg (tCall sp dvs E ta) (gName j)) tz D σ H := ha H (Ex.refl H) _ k
theorem s_dropCall {sp : Sp} {dvs vs : List V} {E : XK} {ta : TA} (ha : EvA ta σ H vs) (k : ∀ H1, Ex H H1 → sp (vs ++ dvs) H1 (fun _ H2 => D.nx σ H2) E) : tDrop (tCall sp dvs E ta) D σ H := ha H (Ex.refl H) _ k
theorem q_dropCall {tz : TS} {sp : Sp} {dvs vs : List V} {E : XK} {ta : TA} (ha : EvA ta σ H vs) (k : ∀ H1, Ex H H1 → sp (vs ++ dvs) H1 (fun _ H2 => tz D σ H2) E) : tSeq (tDrop (tCall sp dvs E ta)) tz D σ H := ha H (Ex.refl H) _ k
theorem s_retCall {sp : Sp} {dvs vs : List V} {E : XK} {ta : TA} (ha : EvA ta σ H vs) (k : ∀ H1, Ex H H1 → sp (vs ++ dvs) H1 D.rt E) : tRet (tCall sp dvs E ta) D σ H := ha H (Ex.refl H) _ k
theorem Rep.tabAt (R : Rep T s L H) {p : Addr} (h : H p = none) : p ≠ T.P := fun z => by
  obtain ⟨ps, q, _⟩ := R.tab
  rw [z, q] at h
  cases h
theorem Go.tup {s' : Srv} {L' : Loc} {H' : Hp} {p : Addr} {xs : List V} (G : Go T s L H s' L' H') (h : H p = some (.tup xs)) (n : p ≠ T.P) (R : Rep T s L H) : H' p = some (.tup xs) :=
  G.keep p _ h (fun _ z => by cases z) fun r hr z => by
    obtain ⟨o, ho⟩ := Option.isSome_iff_exists.mp hr
    have q := R.at_ r o ho
    rw [← z, h] at q
    have w := cont_own ho
    rw [← Option.some.inj q] at w
    exact w
theorem Go.srvAt {s' : Srv} {L' : Loc} {H' : Hp} (G : Go T s L H s' L' H') : L'.at_ .srv = L.at_ .srv := (G.same .srv trivial rfl).2
theorem Go.exeAt {s' : Srv} {L' : Loc} {H' : Hp} (G : Go T s L H s' L' H') {j : Nat} (h : j < s.executions.length) : L'.at_ (.exe j) = L.at_ (.exe j) := (G.same (.exe j) trivial (by simp only [cont, List.getElem?_eq_getElem h]; rfl)).2
/-- the walk of execute, ahead of each test -/
def ExW (T : Cls7) (s : Srv) (L : Loc) (H : Hp) (i : Nat) (e : Exe) (m : Nat) (σ' : L2.St) (H' : Hp) : Prop :=
  ∃ (L2 : Loc) (e1 : Exe) (g1 : List Nat) (v : V) (x3 x4 : Option V), σ' = [some (.ref (L2.at_ .srv)), some (.ref (L2.at_ (.exe i))), some v, x3, x4] ∧ Go T s L H (at2 s i { e1 with frames := (takeI (progAt s) e1.frames).2 } g1) L2 H' ∧
    (match (takeI (progAt s) e1.frames).1 with
      | none => v = .non
      | some (c, a) => ∃ p : Addr, v = .ref p ∧ p ≠ T.P ∧ H' p = some (.tup [.int (c : Int), .int (a : Int)])) ∧
    run (progAt s) s.now (101 - e.executed) e s.registers = run (progAt s) s.now m e1 g1 ∧ ExOk s e1 ∧ g1.length = 4 ∧ m + e1.executed = 101
theorem exW_take {e e1 : Exe} {g1 : List Nat} {L3 : Loc} {H3 : Hp} {m : Nat} {x2 x3 x4 : Option V} (G : Go T s L H (at2 s i e1 g1) L3 H3) (he : s.executions[i]? = some e) (P : PrOk s) (hr : run (progAt s) s.now (101 - e.executed) e s.registers = run (progAt s) s.now m e1 g1) (ho : ExOk s e1) (hg : g1.length = 4) (hm : m + e1.executed = 101)
    (k : ∀ σ' H', ExW T s L H i e m σ' H' → D.nx σ' H') : tAsg (tCall (spTake T) [] C8.E0 (tCons (tVar 1) tNil)) (gName 2) D [some (.ref (L3.at_ .srv)), some (.ref (L3.at_ (.exe i))), x2, x3, x4] H3 := by
  refine s_asgCall (ea_cons (ev_var rfl) ea_nil) fun H4 e4 => ?_
  have R4 := G.rep.ex e4
  refine ⟨at2 s i e1 g1, L3, i, e1, rfl, R4, at2_at he, ⟨P.even, P.size⟩, ⟨ho.fr.meth, ho.fr.even⟩, fun H5 g5 => ?_⟩
  rw [at2_set] at g5
  have G5 := (G.trans (Go.ex G.rep e4)).trans g5
  show match (takeI (progAt s) e1.frames).1 with
    | none => D.nx _ H5
    | some (c, a) => ∀ p H2, H5 p = none → Ex H5 H2 → H2 p = some (.tup [.int (c : Int), .int (a : Int)]) → D.nx _ H2
  split
  · rename_i q
    exact k _ _ ⟨L3, e1, g1, .non, x3, x4, rfl, G5, by rw [q], hr, ho, hg, hm⟩
  · rename_i c a q
    intro p H6 hp e6 h6
    exact k _ _ ⟨L3, e1, g1, .ref p, x3, x4, rfl, G5.trans (Go.ex G5.rep e6), by rw [q]; exact ⟨p, rfl, G5.rep.tabAt hp, h6⟩, hr, ho, hg, hm⟩
theorem s_appI {l C : Addr} {xs : List V} {fs : List (Str × V)} (hl : H l = some (.lst xs)) (ha : Ev ta σ H (.ref l)) (h : EvI te σ H C fs) (hz : xs.length < 100000) (k : ∀ p d H1, H p = none → Ex H H1 → H1 p = some (.ins C d fs) → D.nx σ (upd H1 l (.lst (xs ++ [.ref p])))) :
    tDrop (tBM K "list" rAppend ta (tCons te tNil)) D σ H := ha H (Ex.refl H) _ fun H1 e1 =>
  ⟨Or.inl ⟨rfl, xs, sq_of (e1 l _ hl)⟩, h H1 e1 _ fun p d H2 hp e2 h2 => ⟨l, xs, .ref p, rfl, rfl, e2 l _ (e1 l _ hl), sz_lt hz, k p d H2 (fresh_back e1 hp) (e1.trans e2) h2⟩⟩
theorem s_ifNotCall2 {sp sp2 : Sp} {dvs dvs2 vs2 : List V} {E E2 : XK} {ta2 : TA} {tu tw : TS} {x : V} (ha : Ev ta σ H x) (ha2 : EvA ta2 σ H vs2)
    (k : ∀ H1, Ex H H1 → sp2 (vs2 ++ dvs2) H1 (fun y H2 => sp ([x, y] ++ dvs) H2 (fun z H3 => ∃ c, z = .bl c ∧ (if (!c) = true then tu D σ H3 else tw D σ H3)) E) E2) :
    tIfS (tNot (tB (tCall sp dvs E (tCons ta (tCons (tCall sp2 dvs2 E2 ta2) tNil))))) tu tw D σ H := ha H (Ex.refl H) _ fun H1 e1 => ha2 H1 e1 _ fun H2 e2 => k H2 (e1.trans e2)
theorem rd_execute (X : Txt K mg T B) (vs : List V) (H : Hp) (Q : VK) (E : XK) (h : spExecute T vs H Q E) : t_execute K T (spFrame T) (spTake T) (spEmit T) (spValues T) { nx := fun _ H' => Q .non H', rt := Q } (start N_execute vs) H := by
  obtain ⟨s, L, i, e, rfl, R, he, P, I, O, hg, k⟩ := h
  have hi : i < s.executions.length := (List.getElem?_eq_some_iff.mp he).1
  have G0 : Go T s L H (at2 s i e s.registers) L H := by rw [at2_same he]; exact Go.refl R
  refine exW_take (m := 101 - e.executed) (D := { nx := _, ct := _, bk := _, rt := Q }) G0 he P rfl O hg (by have := O.most; omega) fun σ1 H1 w1 => ?_
  refine q_while (fun m σ' H' => ExW T s L H i e m σ' H') _ w1 fun m σ' H2 w => ?_
  obtain ⟨L2, e1, g1, v, x3, x4, hs, G, hv, hr, O1, hg1, hm⟩ := w
  subst hs
  have f2 := takeI_fr O1.fr
  cases ht : (takeI (progAt s) e1.frames).1 with
  | none =>
    rw [ht] at hv
    subst hv
    refine ⟨false, et_is (et_test (ev_op (ev_var (v := .non) rfl) ev_c rv_notN)) rfl, (fun hb => by cases hb), fun _ H3 e3 => ?_⟩
    obtain ⟨n, rfl⟩ : ∃ n, m = n + 1 := ⟨m - 1, by have := O1.most; omega⟩
    have hq : run (progAt s) s.now (n + 1) e1 g1 = ({ e1 with frames := (takeI (progAt s) e1.frames).2 }, g1, some 0) := by
      rw [KM.run]
      split
      · rename_i fr q
        rw [q]
      · rename_i c a fr q
        rw [q] at ht
        cases ht
    rw [hr, hq] at k
    exact s_ret (v := .int 0) ev_c fun H4 e4 => k L2 H4 (G.trans (Go.ex G.rep (e3.trans e4)))
  | some ca =>
    obtain ⟨c, a⟩ := ca
    rw [ht] at hv
    obtain ⟨p, rfl, hpT, hp⟩ := hv
    have gd := takeI_good I O1.fr ht
    obtain ⟨n, rfl⟩ : ∃ n, m = n + 1 := ⟨m - 1, by have := O1.most; omega⟩
    obtain ⟨fr, hfr⟩ : ∃ fr, fr = (takeI (progAt s) e1.frames).2 := ⟨_, rfl⟩
    have htk : takeI (progAt s) e1.frames = (some (c, a), fr) := by rw [hfr, ← ht]
    rw [← hfr] at G f2
    have hq : run (progAt s) s.now (n + 1) e1 g1 = (if e1.executed = 100 then ({ e1 with frames := fr }, g1, some 8)
      else if c = 0 then ({ e1 with frames := fr, executed := e1.executed + 1, wakesAt := s.now + a }, g1, none)
      else if c = 4 then ({ e1 with frames := fr, executed := e1.executed + 1 }, g1, some a)
      else if c = 5 then run (progAt s) s.now n { e1 with frames := (a, 0) :: fr, executed := e1.executed + 1 } g1
      else if 40 < e1.emitted.length + (valuesOf c a e1.payload g1).1.length then ({ e1 with frames := fr, executed := e1.executed + 1 }, (valuesOf c a e1.payload g1).2, some 8)
      else run (progAt s) s.now n { e1 with frames := fr, executed := e1.executed + 1, emitted := e1.emitted ++ (valuesOf c a e1.payload g1).1 } (valuesOf c a e1.payload g1).2) := by
      rw [KM.run, htk]
    refine ⟨true, et_is (et_test (ev_op (ev_var (v := .ref p) rfl) ev_c rv_notN)) rfl, fun _ H3 e3 => ?_, (fun hb => by cases hb)⟩
    refine ⟨fun σ2 H2 => ∃ m', m' < n + 1 ∧ ExW T s L H i e m' σ2 H2, fun σ2 H2 q => q, ?_⟩
    have G3 := G.trans (Go.ex G.rep e3)
    have R3 := G3.rep
    have he3 : (at2 s i { e1 with frames := fr } g1).executions[i]? = some { e1 with frames := fr } := at2_at he
    refine q_when (et_is (et_test (ev_op (evE_executed X R3 he3 (ev_var rfl)) (ev_c (v := .int ((100 : Nat) : Int))) (rv_eq rfl))) (nat_eq _ _)) (fun hb H4 e4 => ?_) fun hb H4 e4 => ?_
    · rw [hr, hq, if_pos (eq_of_beq hb)] at k
      exact s_ret (v := .int ((8 : Nat) : Int)) ev_c fun H5 e5 => k L2 H5 (G3.trans (Go.ex R3 (e4.trans e5)))
    · have h100 : e1.executed ≠ 100 := fun z => by
        have hb' : (e1.executed == 100) = false := hb
        rw [z] at hb'
        cases hb'
      rw [if_neg h100] at hq
      have G4 := G3.trans (Go.ex R3 e4)
      have R4 := G4.rep
      refine aE_executed (D := { nx := _, ct := _, bk := _, rt := Q }) X R4 he3 (x := 1) (ev_c (v := .int ((1 : Nat) : Int))) (ev_var rfl) fun H5 g5 => ?_
      rw [at2_set] at g5
      have hp5 := g5.tup (e4 _ _ (e3 _ _ hp)) hpT R4
      have G5 := G4.trans g5
      have R5 := G5.rep
      have he5 : (at2 s i { e1 with frames := fr, executed := e1.executed + 1 } g1).executions[i]? = some { e1 with frames := fr, executed := e1.executed + 1 } := at2_at he
      refine q_pair (ev_var rfl) (st_of hp5) fun H6 e6 => ?_
      have G6 := G5.trans (Go.ex R5 e6)
      have R6 := G6.rep
      have fin : ∀ {e2 : Exe} {g2 : List Nat} {L7 : Loc} {H7 : Hp} {x2 : Option V}, L7.at_ .srv = L2.at_ .srv → L7.at_ (.exe i) = L2.at_ (.exe i) → Go T s L H (at2 s i e2 g2) L7 H7 → run (progAt s) s.now (n + 1) e1 g1 = run (progAt s) s.now n e2 g2 → ExOk s e2 → g2.length = 4 → e2.executed = e1.executed + 1 →
          tAsg (tCall (spTake T) [] C8.E0 (tCons (tVar 1) tNil)) (gName 2) { nx := fun σ2 H2 => ∃ m', m' < n + 1 ∧ ExW T s L H i e m' σ2 H2, ct := fun σ2 H2 => ∃ m', m' < n + 1 ∧ ExW T s L H i e m' σ2 H2, bk := fun σ' H' => tRet (tC (.int 0)) { nx := fun _ H' => Q .non H', rt := Q } σ' H', rt := Q } [some (.ref (L2.at_ .srv)), some (.ref (L2.at_ (.exe i))), x2, some (.int (c : Int)), some (.int (a : Int))] H7 := by
        intro e2 g2 L7 H7 x2 q1 q2 G7 r7 o7 l7 m7
        rw [← q1, ← q2]
        exact exW_take (m := n) G7 he P (hr.trans r7) o7 l7 (by rw [m7]; omega) fun σ8 H8 w8 => ⟨n, Nat.lt_succ_self n, w8⟩
      refine q_when (et_is (et_test (ev_op (ev_var (v := .int (c : Int)) rfl) (ev_c (v := .int ((0 : Nat) : Int))) (rv_eq rfl))) (nat_eq _ _)) (fun hb H7 e7 => ?_) fun hb H7 e7 => ?_
      · have c0 : c = 0 := eq_of_beq hb
        rw [if_pos c0] at hq
        rw [hr, hq] at k
        have R7 := R6.ex e7
        refine wE_wakes_at (D := { nx := _, ct := _, bk := _, rt := Q }) X R7 he5 (x := s.now + a) (ev_is (ev_op (evS_now X R7 (ev_var rfl)) (ev_var (v := .int (a : Int)) rfl) rv_I0) (by rw [Int.natCast_add]; rfl)) (ev_var rfl) fun H8 g8 => ?_
        rw [at2_set] at g8
        dsimp only
        refine s_ret (v := .non) ev_c ?_
        intro H9 e9
        exact k L2 H9 ((G6.trans (Go.ex R6 e7)).trans (g8.trans (Go.ex g8.rep e9)))
      · have c0 : c ≠ 0 := fun z => by rw [z] at hb; cases hb
        rw [if_neg c0] at hq
        have G7 := G6.trans (Go.ex R6 e7)
        have R7 := G7.rep
        refine q_when (et_is (et_test (ev_op (ev_var (v := .int (c : Int)) rfl) (ev_c (v := .int ((4 : Nat) : Int))) (rv_eq rfl))) (nat_eq _ _)) (fun hb H8 e8 => ?_) fun hb H8 e8 => ?_
        · have c4 : c = 4 := eq_of_beq hb
          rw [if_pos c4] at hq
          rw [hr, hq] at k
          exact s_ret (v := .int (a : Int)) (ev_var rfl) fun H9 e9 => k L2 H9 (G7.trans (Go.ex R7 (e8.trans e9)))
        · have c4 : c ≠ 4 := fun z => by rw [z] at hb; cases hb
          rw [if_neg c4] at hq
          have G8 := G7.trans (Go.ex R7 e8)
          have R8 := G8.rep
          refine q_if (et_is (et_test (ev_op (ev_var (v := .int (c : Int)) rfl) (ev_c (v := .int ((5 : Nat) : Int))) (rv_eq rfl))) (nat_eq _ _)) (fun hb H9 e9 => ?_) fun hb H9 e9 => ?_
          · have c5 : c = 5 := eq_of_beq hb
            rw [if_pos c5] at hq
            have G9 := G8.trans (Go.ex R8 e9)
            have R9 := G9.rep
            have ham : a < s.methods.length := gd.1 c5
            have hma := meth_some ham
            have hl1 : fr.length < 100000 := by have := f2.2; have := O1.len; have := O1.most; omega
            refine s_appI (R9.frs he5) (evE_frames X R9 he5 (ev_var rfl)) (ei_Frame (evM_program X R9 (i := a) hma (ev_op (evS_methods X R9 (ev_var rfl)) (ev_var (v := .int (a : Int)) rfl) (rv_ixL (sq_of (R9.at_ .meths _ rfl)) (atI_nat (refs_get ham)))))) (by rw [refs_len]; exact hl1) fun q d Ha hq0 ea ha => ?_
            have gp := Go.push (i := i) (x := { e1 with frames := fr, executed := e1.executed + 1 }) (x' := { e1 with frames := (a, 0) :: fr, executed := e1.executed + 1 }) (f := (a, 0)) R9 ea he5 rfl rfl rfl rfl hq0 ha
            rw [at2_set] at gp
            exact fin (gp.srvAt) (gp.exeAt (by show i < (s.executions.set i _).length; rw [List.length_set]; exact hi)) (G9.trans gp) hq ⟨⟨fun f hf => (List.mem_cons.mp hf).elim (fun z => by rw [z]; exact ham) fun z => f2.1.meth f z, fun f hf => (List.mem_cons.mp hf).elim (fun z => by rw [z]; rfl) fun z => f2.1.even f z⟩, by
              show fr.length + 1 ≤ e1.executed + 1 + 1
              have := f2.2
              have := O1.len
              omega, by
              show e1.executed + 1 ≤ 100
              have := O1.most
              omega, O1.emi⟩ hg1 rfl
          · have c5 : c ≠ 5 := fun z => by rw [z] at hb; cases hb
            rw [if_neg c5] at hq
            have G9 := G8.trans (Go.ex R8 e9)
            refine s_ifNotCall2 (ev_var (v := .ref (L2.at_ (.exe i))) rfl) (ea_cons (ev_var (v := .ref (L2.at_ .srv)) rfl) (ea_cons (ev_var (v := .ref (L2.at_ (.exe i))) rfl) (ea_cons (ev_var (v := .int (c : Int)) rfl) (ea_cons (ev_var (v := .int (a : Int)) rfl) ea_nil)))) fun Ha ea => ?_
            have Ga := G9.trans (Go.ex G9.rep ea)
            refine ⟨at2 s i { e1 with frames := fr, executed := e1.executed + 1 } g1, L2, i, { e1 with frames := fr, executed := e1.executed + 1 }, c, a, rfl, Ga.rep, he5, fun c1 c2 => by
              show a < g1.length
              rw [hg1]
              exact gd.2.1 c1 c2 c4 c5 c0, fun Hb q gb hq1 => ?_⟩
            have Gb := Ga.trans gb
            have heb : (at2 s i { e1 with frames := fr, executed := e1.executed + 1 } (valuesOf c a e1.payload g1).2).executions[i]? = some { e1 with frames := fr, executed := e1.executed + 1 } := at2_at he
            refine ⟨at2 s i { e1 with frames := fr, executed := e1.executed + 1 } (valuesOf c a e1.payload g1).2, L2, i, { e1 with frames := fr, executed := e1.executed + 1 }, q, (valuesOf c a e1.payload g1).1, rfl, Gb.rep, heb, hq1, fun hlt Hc ec => ⟨false, rfl, ?_⟩, fun hlt Hc gc => ⟨true, rfl, ?_⟩⟩
            · rw [if_pos hlt] at hq
              rw [hr, hq] at k
              rw [if_pos (by rfl)]
              refine s_ret (v := .int ((8 : Nat) : Int)) ev_c ?_
              intro Hd ed
              exact k L2 Hd (Gb.trans (Go.ex Gb.rep (ec.trans ed)))
            · rw [if_neg hlt] at hq
              rw [if_neg (by decide)]
              rw [at2_set] at gc
              exact fin rfl rfl (Gb.trans gc) hq ⟨f2.1, by
                show fr.length ≤ e1.executed + 1 + 1
                have := f2.2
                have := O1.len
                omega, by
                show e1.executed + 1 ≤ 100
                have := O1.most
                omega, by
                show (e1.emitted ++ (valuesOf c a e1.payload g1).1).length ≤ 40
                rw [List.length_append]
                have hlt' : ¬ 40 < e1.emitted.length + (valuesOf c a e1.payload g1).1.length := hlt
                omega⟩ (by rw [valuesOf_regs]; exact hg1) rfl
end
end Kc
/-! executions: the promises -/
namespace Kc
open PySem PySem.Spec PyProof.Rows L2 KM Evl
/-- what the heap's rules ask of a server -/
structure Hok (s : Srv) : Prop where
  ne : s.executions.length ≤ 1000
  nr : s.requests.length ≤ 1000
  pr : PrOk s
  ins : InOk s
  regs : s.registers.length = 4
  ex : ∀ (i : Nat) (e : Exe), s.executions[i]? = some e → ExOk s e ∧ e.startedAt ≤ s.now
theorem prOk_of {s t : Srv} (h : PrOk s) (m : t.methods = s.methods) : PrOk t := by
  obtain ⟨a, b⟩ := h
  constructor <;> (unfold progAt methAt at *; rw [m]; assumption)
theorem inOk_of {s t : Srv} (h : InOk s) (m : t.methods = s.methods) : InOk t := by
  obtain ⟨a⟩ := h
  constructor
  unfold progAt methAt at *
  rw [m]
  assumption
theorem frOk_of {s t : Srv} {fr : List (Nat × Nat)} (h : FrOk s fr) (m : t.methods = s.methods) : FrOk t fr := by
  obtain ⟨a, b⟩ := h
  exact ⟨by rw [m]; exact a, b⟩
theorem exOk_of {s t : Srv} {e : Exe} (h : ExOk s e) (m : t.methods = s.methods) : ExOk t e := ⟨frOk_of h.fr m, h.len, h.most, h.emi⟩
theorem Hok.stay {s t : Srv} (h : Hok s) (a : Stay s t) (g : t.registers.length = 4) (e : ∀ (i : Nat) (e : Exe), t.executions[i]? = some e → ExOk s e ∧ e.startedAt ≤ s.now) : Hok t :=
  ⟨by rw [a.ne]; exact h.ne, by rw [a.nr]; exact h.nr, prOk_of h.pr a.methods, inOk_of h.ins a.methods, g, fun i x q => ⟨exOk_of (e i x q).1 a.methods, by rw [a.now]; exact (e i x q).2⟩⟩
section
variable {K : PySem.W.Frag} {mg : Str → Option Value} {T : Cls7} {B : Blt} {σ : L2.St} {H : Hp} {ta tb tc te : TE} {D : Ends} {s : Srv} {L : Loc} {i : Nat}
/-- nothing but a table of code objects may stand there -/
def New (H : Hp) (p : Addr) : Prop := ∀ o, H p = some o → ¬ NT o
theorem new_of {H : Hp} {p : Addr} (h : H p = none) : New H p := fun o q => by
  rw [h] at q
  cases q
/-- an object that was new stays -/
theorem Go.kept {s' : Srv} {L' : Loc} {H0 H' : Hp} {p : Addr} {o : HO} (G : Go T s L H s' L' H') (R0 : Rep T s L H0) (hp : New H0 p) (h : H p = some o) (n : NT o := by intro _ z; cases z) : H' p = some o :=
  G.keep p o h n fun r hr z => by
    obtain ⟨u, hu⟩ := Option.isSome_iff_exists.mp hr
    have q := R0.at_ r u hu
    rw [← z] at q
    exact hp u q (nt_own (cont_own hu))
/-! end_request -/
def spEndReq (T : Cls7) : Sp := fun vs H Q _ => ∃ (s : Srv) (L : Loc) (r st : Nat), vs = [.ref (L.at_ .srv), .ref (L.at_ (.req r)), .int (st : Int)] ∧ Rep T s L H ∧ r < s.requests.length ∧ ∀ H', Go T s L H (endReq s r st) L H' → Q .non H'
theorem setR_set {s : Srv} {i : Nat} {e1 e2 : Req} : setR (setR s i e1) i e2 = setR s i e2 := by
  unfold setR
  simp
theorem rd_end_request (X : Txt K mg T B) (vs : List V) (H : Hp) (Q : VK) (E : XK) (h : spEndReq T vs H Q E) : t_end_request K T { nx := fun _ H' => Q .non H', rt := Q } (start N_end_request vs) H := by
  obtain ⟨s, L, r, st, rfl, R, hr, k⟩ := h
  have h0 := req_some hr
  refine wR_status (D := { nx := _, ct := _, bk := _, rt := Q }) X R h0 (ev_var (v := .int (st : Int)) rfl) (ev_var rfl) fun H1 g1 => ?_
  have R1 := g1.rep
  have h1 : (setR s r { reqAt s r with status := some st }).requests[r]? = some { reqAt s r with status := some st } := set_at h0
  refine wR_finished_at X R1 h1 (evS_now X R1 (ev_var rfl)) (ev_var rfl) fun H2 g2 => ?_
  rw [setR_set] at g2
  exact k H2 (g1.trans g2)
/-! finish -/
def spFinish (T : Cls7) : Sp := fun vs H Q _ => ∃ (s : Srv) (L : Loc) (i st : Nat), vs = [.ref (L.at_ .srv), .ref (L.at_ (.exe i)), .int (st : Int)] ∧ Rep T s L H ∧ i < s.executions.length ∧ ∀ H', Go T s L H (finishE s i st) L H' → Q .non H'
theorem rd_finish (X : Txt K mg T B) (vs : List V) (H : Hp) (Q : VK) (E : XK) (h : spFinish T vs H Q E) : t_finish K T { nx := fun _ H' => Q .non H', rt := Q } (start N_finish vs) H := by
  obtain ⟨s, L, i, st, rfl, R, hi, k⟩ := h
  have h0 := exe_some hi
  refine wE_state (D := { nx := _, ct := _, bk := _, rt := Q }) X R h0 (x := 2) (ev_c (v := .int ((2 : Nat) : Int))) (ev_var rfl) fun H1 g1 => ?_
  have h1 : (setE s i { exeAt s i with state := 2 }).executions[i]? = some { exeAt s i with state := 2 } := set_at h0
  refine wE_status (D := { nx := _, ct := _, bk := _, rt := Q }) X g1.rep h1 (ev_var (v := .int (st : Int)) rfl) (ev_var rfl) fun H2 g2 => ?_
  rw [setE_set] at g2
  have h2 : (setE s i { exeAt s i with state := 2, status := st }).executions[i]? = some { exeAt s i with state := 2, status := st } := set_at h0
  refine wE_finished_at X g2.rep h2 (evS_now X g2.rep (ev_var rfl)) (ev_var rfl) fun H3 g3 => ?_
  rw [setE_set] at g3
  exact k H3 ((g1.trans g2).trans g3)
/-! drop -/
def spDrop (T : Cls7) : Sp := fun vs H Q _ => ∃ (s : Srv) (L : Loc) (i : Nat), vs = [.ref (L.at_ .srv), .ref (L.at_ (.exe i))] ∧ Rep T s L H ∧ i < s.executions.length ∧ ∀ H', Go T s L H (dropped s i) L H' → Q .non H'
theorem rd_drop (X : Txt K mg T B) (vs : List V) (H : Hp) (Q : VK) (E : XK) (h : spDrop T vs H Q E) : t_drop K T { nx := fun _ H' => Q .non H', rt := Q } (start N_drop vs) H := by
  obtain ⟨s, L, i, rfl, R, hi, k⟩ := h
  have h0 := exe_some hi
  refine wE_state (D := { nx := _, ct := _, bk := _, rt := Q }) X R h0 (x := 3) (ev_c (v := .int ((3 : Nat) : Int))) (ev_var rfl) fun H2 g2 => ?_
  have h2 : (setE s i { exeAt s i with state := 3 }).executions[i]? = some { exeAt s i with state := 3 } := set_at h0
  refine wE_finished_at X g2.rep h2 (evS_now X g2.rep (ev_var rfl)) (ev_var rfl) fun H3 g3 => ?_
  rw [setE_set] at g3
  exact k H3 (g2.trans g3)
/-! abandon -/
def spAbandon (T : Cls7) : Sp := fun vs H Q _ => ∃ (s : Srv) (L : Loc) (i : Nat), vs = [.ref (L.at_ .srv), .ref (L.at_ (.exe i))] ∧ Rep T s L H ∧ i < s.executions.length ∧ ∀ H', Go T s L H (abandon s i) L H' → Q .non H'
theorem rd_abandon (X : Txt K mg T B) (vs : List V) (H : Hp) (Q : VK) (E : XK) (h : spAbandon T vs H Q E) : t_abandon K T (spDrop T) (spFinish T) { nx := fun _ H' => Q .non H', rt := Q } (start N_abandon vs) H := by
  obtain ⟨s, L, i, rfl, R, hi, k⟩ := h
  have h0 := exe_some hi
  unfold abandon at k
  refine s_if (et_is (et_test (ev_op (evE_state X R h0 (ev_var rfl)) (ev_c (v := .int ((0 : Nat) : Int))) (rv_eq rfl))) (nat_eq _ _)) (fun hb H1 e1 => ?_) fun hb H1 e1 => ?_
  · rw [if_pos (eq_of_beq hb)] at k
    have R1 := R.ex e1
    refine s_dropCall (ea_cons (ev_var rfl) (ea_cons (ev_var rfl) ea_nil)) fun H3 e3 => ?_
    exact ⟨s, L, i, rfl, R1.ex e3, hi, fun H4 g4 => k H4 ((Go.ex R (e1.trans e3)).trans g4)⟩
  · have hb0 : (exeAt s i).state ≠ 0 := fun z => by rw [z] at hb; cases hb
    rw [if_neg hb0] at k
    have R1 := R.ex e1
    refine s_if (et_is (et_test (ev_op (evE_key X R1 h0 (ev_var rfl)) (ev_c (v := .int ((0 : Nat) : Int))) (rv_eq rfl))) (nat_eq _ _)) (fun hb H2 e2 => ?_) fun hb H2 e2 => ?_
    · rw [if_pos (eq_of_beq hb)] at k
      refine s_dropCall (ea_cons (ev_var rfl) (ea_cons (ev_var rfl) (ea_cons (ev_c (v := .int ((1 : Nat) : Int))) ea_nil))) fun H3 e3 => ?_
      exact ⟨s, L, i, 1, rfl, (R1.ex e2).ex e3, hi, fun H4 g4 => k H4 ((Go.ex R ((e1.trans e2).trans e3)).trans g4)⟩
    · have hb1 : (exeAt s i).key ≠ 0 := fun z => by rw [z] at hb; cases hb
      rw [if_neg hb1] at k
      exact k H2 (Go.ex R (e1.trans e2))
/-! earliest_deadline -/
def spEarliest (T : Cls7) : Sp := fun vs H Q _ => ∃ (s : Srv) (L : Loc) (i : Nat), vs = [.ref (L.at_ .srv), .ref (L.at_ (.exe i))] ∧ Rep T s L H ∧ s.requests.length ≤ 1000 ∧ i < s.executions.length ∧ waitingOn s i ≠ [] ∧ RetV (.int ((deadlineOf s i : Nat) : Int)) H Q
theorem wait_lt {r : Nat} (h : r ∈ waitingOn s i) : r < s.requests.length := open_lt (List.mem_filter.mp h).1
theorem wait_len : (waitingOn s i).length ≤ s.requests.length := Nat.le_trans (List.length_filter_le _ _) (Nat.le_trans (List.length_filter_le _ _) (by rw [List.length_range]; exact Nat.le_refl _))
theorem ev_minN {l : List Nat} (ha : EvL ta σ H (intL l)) (hne : l ≠ []) : Ev (tCB (rMin K) (tCons ta tNil)) σ H (.int ((minL l : Nat) : Int)) := fun H1 e1 Q1 q1 => ha H1 e1 _ fun p H2 hp e2 h2 => ⟨p, l.map fun (n : Nat) => (n : Int), rfl, sq_of (by
    rw [h2, intL, List.map_map]
    rfl), by rw [List.length_map]; exact List.length_pos_iff.mpr hne, fun m hm hy => by
    obtain ⟨x, hx, rfl⟩ := List.mem_map.mp hm
    have e1 : x = minL l := by
      have a1 := minL_le hx
      have a2 := hy _ (List.mem_map.mpr ⟨_, minL_mem hne, rfl⟩)
      omega
    rw [e1]
    exact q1 H2 e2⟩
theorem rd_earliest_deadline (X : Txt K mg T B) (vs : List V) (H : Hp) (Q : VK) (E : XK) (h : spEarliest T vs H Q E) : t_earliest_deadline K T (spWaiting T) { nx := fun _ H' => Q .non H', rt := Q } (start N_earliest_deadline vs) H := by
  obtain ⟨s, L, i, rfl, R, hn, hi, hw, k⟩ := h
  have item : ∀ (j : Nat) (x : V), (reqRefs L (waitingOn s i))[j]? = some x → (waitingOn s i).getD j 0 < s.requests.length ∧ x = .ref (L.at_ (.req ((waitingOn s i).getD j 0))) := fun j x hx => by
    unfold reqRefs at hx
    rw [List.getElem?_map] at hx
    obtain ⟨r, hr, hx⟩ := Option.map_eq_some_iff.mp hx
    rw [List.getD_eq_getElem?_getD, hr]
    exact ⟨wait_lt (List.mem_of_getElem? hr), hx.symm⟩
  have hlen : (waitingOn s i).length ≤ 1000 := Nat.le_trans wait_len hn
  have e0 : given (reqRefs L (waitingOn s i)).length (fun _ => true) (fun j => V.int (((reqAt s ((waitingOn s i).getD j 0)).deadline : Nat) : Int)) = intL ((waitingOn s i).map fun r => (reqAt s r).deadline) := by
    unfold reqRefs
    rw [List.length_map, given_map (waitingOn s i) _ _ (fun _ => true) (fun r => V.int (((reqAt s r).deadline : Nat) : Int)) (fun _ _ _ => rfl) (fun j x hx => by rw [List.getD_eq_getElem?_getD, hx]; rfl), List.filter_eq_self.mpr (fun _ _ => rfl)]
    unfold intL
    rw [List.map_map]
    rfl
  have hl : EvL (tLc (iList K (tCall (spWaiting T) [] C8.E0 (tCons (tVar 0) (tCons (tVar 1) tNil)))) (gName 2) tYes (tFld K (tVar 2) "deadline") [2]) (start N_earliest_deadline [.ref (L.at_ .srv), .ref (L.at_ (.exe i))]) H (intL ((waitingOn s i).map fun r => (reqAt s r).deadline)) := by
    rw [← e0]
    refine el_lcNL (fun _ => true) (fun j => V.int (((reqAt s ((waitingOn s i).getD j 0)).deadline : Nat) : Int)) (el_call (ea_cons (ev_var rfl) (ea_cons (ev_var rfl) ea_nil)) (spl_waiting R hn hi)) (by unfold reqRefs; rw [List.length_map]; omega) (fun x => rfl) (fun j x H1 e1 hx => fun H2 _ Q q => q H2 (Ex.refl H2)) fun j x H1 e1 hx _ => ?_
    obtain ⟨hj, rfl⟩ := item j x hx
    exact evR_deadline X (R.ex e1) (req_some hj) (ev_var rfl)
  have hne : (waitingOn s i).map (fun r => (reqAt s r).deadline) ≠ [] := fun z => hw (List.map_eq_nil_iff.mp z)
  exact s_ret (v := .int ((deadlineOf s i : Nat) : Int)) (ev_minN hl hne) fun H1 e => k H1 e
theorem spv_earliest {s : Srv} {L : Loc} {i : Nat} {H : Hp} (R : Rep T s L H) (hn : s.requests.length ≤ 1000) (hi : i < s.executions.length) (hw : waitingOn s i ≠ []) : SpV (spEarliest T) ([.ref (L.at_ .srv), .ref (L.at_ (.exe i))] ++ []) H (.int ((deadlineOf s i : Nat) : Int)) := fun H1 e Q q E => ⟨s, L, i, rfl, R.ex e, hn, hi, hw, fun H2 e2 => q H2 e2⟩
/-! resume -/
def spResume (T : Cls7) : Sp := fun vs H Q _ => ∃ (s : Srv) (L : Loc) (i : Nat), vs = [.ref (L.at_ .srv), .ref (L.at_ (.exe i))] ∧ Rep T s L H ∧ Hok s ∧ i < s.executions.length ∧ ∀ L' H', Go T s L H (KM.resume s i) L' H' → Q .non H'
theorem ran_started (s : Srv) (i : Nat) : (ran s i).1.startedAt = (exeAt s i).startedAt := (run_keeps _ _ _).2.2.2.2.2.2.1
theorem endAll_app (s : Srv) (st : Nat) (l : List Nat) (r : Nat) : endAll s st (l ++ [r]) = endReq (endAll s st l) r st := by
  unfold endAll
  rw [List.foldl_append]
  rfl
theorem take_next {α : Type} {l : List α} {n : Nat} {x : α} (h : l[n]? = some x) : l.take (n + 1) = l.take n ++ [x] := by
  rw [List.take_add_one, h]
  rfl
theorem rd_resume (X : Txt K mg T B) (vs : List V) (H : Hp) (Q : VK) (E : XK) (h : spResume T vs H Q E) : t_resume K T (spExecute T) (spFinish T) (spWaiting T) (spEndReq T) { nx := fun _ H' => Q .non H', rt := Q } (start N_resume vs) H := by
  obtain ⟨s, L, i, rfl, R, O, hi, k⟩ := h
  have h0 := exe_some hi
  have hx := O.ex i _ h0
  refine q_asgCall (ea_cons (ev_var rfl) (ea_cons (ev_var rfl) ea_nil)) fun H1 e1 => ?_
  refine ⟨s, L, i, exeAt s i, rfl, R.ex e1, h0, O.pr, O.ins, hx.1, O.regs, fun M H2 g2 => ?_⟩
  have G2 := (Go.ex R e1).trans g2
  rw [← G2.srvAt, ← G2.exeAt hi]
  change Go T s L H (at2 s i (ran s i).1 (ran s i).2.1) M H2 at G2
  unfold KM.resume at k
  have hst := ran_started s i
  have hle : (ran s i).1.startedAt ≤ s.now := by rw [hst]; exact hx.2
  change tSeq _ _ _ [some (V.ref (M.at_ .srv)), some (V.ref (M.at_ (.exe i))), some (opt (ran s i).2.2), none, none] H2
  generalize (ran s i).2.2 = o at k ⊢
  generalize (ran s i).2.1 = g at k G2 ⊢
  generalize (ran s i).1 = e at k G2 hle ⊢
  clear g2
  have R2 := G2.rep
  cases o with
  | none =>
    refine q_when (b := true) (et_is (et_test (ev_op (ev_var (v := .non) rfl) ev_c rv_isN)) rfl) (fun _ H3 e3 => ?_) fun hb => by cases hb
    exact k M H3 (G2.trans (Go.ex R2 e3))
  | some st =>
    refine q_when (b := false) (et_is (et_test (ev_op (ev_var (v := .int (st : Int)) rfl) ev_c rv_isN)) rfl) (fun hb => by cases hb) fun _ H3 e3 => ?_
    have R3 := R2.ex e3
    have he : (at2 s i e g).executions[i]? = some e := at2_at h0
    refine q_asg (v := .int ((s.now - e.startedAt : Nat) : Int)) (ev_is (ev_op (evS_now X R3 (ev_var rfl)) (evE_started_at X R3 he (ev_var rfl)) rv_I0) (congrArg V.int (by
      show (s.now : Int) - (e.startedAt : Int) = _
      omega))) fun H4 e4 => ?_
    have R4 := R3.ex e4
    refine wS_average (D := { nx := _, ct := _, bk := _, rt := Q }) X R4 (x := s.average + (s.now - e.startedAt) - s.average / 8) (ev_is (ev_op (ev_op (evS_average X R4 (ev_var rfl)) (ev_var (v := .int ((s.now - e.startedAt : Nat) : Int)) rfl) rv_I0) (ev_op (evS_average X R4 (ev_var rfl)) (ev_c (v := .int 8)) (rv_I ⟨by decide, by decide⟩)) rv_I0) (congrArg V.int (by
      show ((s.average : Int) + ((s.now - e.startedAt : Nat) : Int)) - (s.average : Int) / 8 = _
      omega))) (ev_var rfl) fun H5 g5 => ?_
    have G5 := ((G2.trans (Go.ex R2 e3)).trans (Go.ex R3 e4)).trans g5
    change Go T s L H { at2 s i e g with average := s.average + (s.now - e.startedAt) - s.average / 8 } M H5 at G5
    unfold afterRun at k
    have hl5 : i < ({ at2 s i e g with average := s.average + (s.now - e.startedAt) - s.average / 8 } : Srv).executions.length := by
      show i < (s.executions.set i e).length
      rw [List.length_set]
      exact hi
    generalize hs5 : ({ at2 s i e g with average := s.average + (s.now - e.startedAt) - s.average / 8 } : Srv) = s5 at k G5 hl5
    have hw5 : waitingOn (finishE s5 i st) i = waitingOn s i := by rw [← hs5]; rfl
    have hn5 : (finishE s5 i st).requests.length = s.requests.length := by rw [← hs5]; rfl
    refine q_dropCall (ea_cons (ev_var rfl) (ea_cons (ev_var rfl) (ea_cons (ev_var (v := .int (st : Int)) rfl) ea_nil))) fun H6 e6 => ?_
    refine ⟨s5, M, i, st, rfl, G5.rep.ex e6, hl5, fun H7 g7 => ?_⟩
    have G7 := (G5.trans (Go.ex G5.rep e6)).trans g7
    have R7 := G7.rep
    have hl7 : i < (finishE s5 i st).executions.length := by
      show i < (s5.executions.set i _).length
      rw [List.length_set]
      exact hl5
    have hl : EvL (tCall (spWaiting T) [] C8.E0 (tCons (tVar 0) (tCons (tVar 1) tNil))) [some (V.ref (M.at_ .srv)), some (V.ref (M.at_ (.exe i))), some (.int (st : Int)), some (.int ((s.now - e.startedAt : Nat) : Int)), none] H7 (reqRefs M (waitingOn s i)) := by
      rw [← hw5]
      exact el_call (ea_cons (ev_var rfl) (ea_cons (ev_var rfl) ea_nil)) (spl_waiting R7 (by rw [hn5]; exact O.nr) hl7)
    refine s_forNL hl (fun p n σ' H' => H7 p = none ∧ ∃ (v : Option V) (H8 : Hp), σ' = [some (V.ref (M.at_ .srv)), some (V.ref (M.at_ (.exe i))), some (.int (st : Int)), some (.int ((s.now - e.startedAt : Nat) : Int)), v] ∧ Ex H7 H8 ∧ H8 p = some (.lst (reqRefs M (waitingOn s i))) ∧ Go T (finishE s5 i st) M H8 (endAll (finishE s5 i st) st ((waitingOn s i).take n)) M H')
      (fun p H8 hp e8 h8 => ⟨hp, none, H8, rfl, e8, h8, Go.refl (R7.ex e8)⟩) (fun p n σ' H' _ ⟨hp, v, H8, _, e8, h8, g8⟩ => sq_of (g8.kept R7 (new_of hp) h8)) (fun p n x σ' H' hx ⟨hp, v, H8, hs, e8, h8, g8⟩ => ?_) fun p σ' H' ⟨hp, v, H8, hs, e8, h8, g8⟩ => ?_
    · unfold reqRefs at hx
      rw [List.getElem?_map] at hx
      obtain ⟨r, hr, hx⟩ := Option.map_eq_some_iff.mp hx
      subst hx
      subst hs
      show tDrop _ _ _ _
      refine s_dropCall (ea_cons (ev_var rfl) (ea_cons (ev_var rfl) (ea_cons (ev_var (v := .int (st : Int)) rfl) ea_nil))) fun H9 e9 => ?_
      refine ⟨_, M, r, st, rfl, g8.rep.ex e9, ?_, fun Ha ga => ⟨hp, _, H8, rfl, e8, h8, ?_⟩⟩
      · rw [(stay_endAll st _ _).nr, hn5]
        exact wait_lt (List.mem_of_getElem? hr)
      · rw [take_next hr, endAll_app]
        exact (g8.trans (Go.ex g8.rep e9)).trans ga
    · unfold reqRefs at g8
      rw [List.length_map, List.take_length] at g8
      exact k M H' (G7.trans ((Go.ex R7 e8).trans g8))
end
end Kc
/-! starting_order: its lambda -/
namespace Kc
open PySem PySem.Spec PyProof.Rows L2 KM Evl
/-- a def of the module whose code object is known -/
structure DefT (K : PySem.W.Frag) (mg : Str → Option Value) (x : Str) (st : Stmt) (f c : Addr) : Prop where
  ex : ∃ (oc : Value) (od : Option Addr) (kV doc pm : Value) (an : Option Addr) (ct : Value) (osl : Array (Option Value)),
    K.lookup f = some ⟨oc, od, .func (PySem.W.fnOf x x (C8.fnArgs st) (C8.fnBody st) (C8.fnScope st) .none kV doc pm an (.ref c) ct), osl⟩ ∧ PySem.W.codeIn K (.ref c) x = true
  mgf : mg x = some (.ref f)
  kp : PySem.W.keepIn K (.ref f) = true
section
variable {P : Program} {w : World} {K : PySem.W.Frag} {mg : Str → Option Value} {base : Heap} {T : Cls7} {B : Blt}
theorem calT {x : Str} {st : Stmt} {f c : Addr} {N ps : List Str} {k : Nat} {sp : Sp} (F : DefT K mg x st f c) (S : FnScope N ps (C8.fnScope st)) (len : ∀ vs H Q E, sp vs H Q E → vs.length = ps.length)
    (hb : ∀ (kV doc pm : Value) (an : Option Addr) (cdv ct : Value) (us : List Value), us.length = ps.length → bindArgs (PySem.W.fnOf x x (C8.fnArgs st) (C8.fnBody st) (C8.fnScope st) .none kV doc pm an cdv ct) ⟨us, []⟩ = pure (ps.zip us))
    (hbody : ∀ (A : Around) (outer : List Env) (s : Shared) (H : Hp) (vs : List V) (Q : VK) (E : XK), Room k (A.deeper (envOfC x (C8.fnScope st) s.heap.objs.size f (.ref c))) → sp vs H Q E →
      ∃ t, PSs (cxOf C8.CX0 P w K mg base N x (C8.fnScope st) f (.ref c) A outer s H E).nox (C8.fnBody st) t ∧ t { nx := fun _ H' => Q .non H', rt := Q } (start N vs) H) : C8.Cal P w K mg base (k + 1) x sp [] := by
  obtain ⟨oc, od, kV, doc, pm, an, ct, osl, lk, hcd⟩ := F.ex
  exact ⟨f, _, ps, [], fn_of lk hcd S len fun A outer s H vs Q E hr hsp => by
    obtain ⟨t, h, q⟩ := hbody A outer s H vs Q E hr hsp
    exact ⟨t, h.nox, q⟩, F.mgf, F.kp, .all (hb kV doc pm an (.ref c) ct), .nil⟩
theorem lam_qual : (("starting_order" : Str) ++ ".<locals>." ++ "<lambda>" : Str) = lamQ := by decide +kernel
abbrev N_lam : List Str := ["execution", "server"]
def t_lam (K : PySem.W.Frag) (sp_earliest : Sp) : TE := tTup (tCons (tCall sp_earliest [] C8.E0 (tCons (tVar 1) (tCons (tVar 0) tNil))) (tCons (tFld K (tVar 0) "number") tNil))
def t_starting_order (K : PySem.W.Frag) (T : Cls7) (sp_in_state sp_earliest : Sp) : TS := tSeq (tAsg (tCall sp_in_state [] C8.E0 (tCons (tVar 0) (tCons (tC (.int 0)) tNil))) (gName 1))
  (tSeq (tIfS (tTest (tOp rEq (tFld K (tVar 0) "discipline") (tC (.int 1)))) (tRet (tSortLam K [(T.P, lamQ)] N_lam [0] (t_lam K sp_earliest) (tCons (tVar 1) tNil))) tNext)
  (tSeq (tIfS (tTest (tOp rEq (tFld K (tVar 0) "discipline") (tC (.int 2)))) (tRet (tListRev K (tVar 1))) tNext)
  (tRet (tVar 1))))
theorem cal_starting_order {f c : Addr} {sp sp_in_state sp_earliest : Sp} (F : DefT K mg "starting_order" s_starting_order f c) (TB : LamX.TabB base mg c T.P) (X : Txt K mg T B) (c_in_state : C8.Cal P w K mg base 1 "in_state" sp_in_state []) (c_earliest : C8.Cal P w K mg base 3 "earliest_deadline" sp_earliest [])
    (len : ∀ vs H Q E, sp vs H Q E → vs.length = 1) (rd : ∀ vs H Q E, sp vs H Q E → t_starting_order K T sp_in_state sp_earliest { nx := fun _ H' => Q .non H', rt := Q } (start N_starting_order vs) H) : C8.Cal P w K mg base 6 "starting_order" sp [] :=
  calT F sc_starting_order len (fun kV doc pm an cdv ct us h => by
    obtain ⟨u, rfl⟩ : ∃ u, us = [u] := by
      match us, h with
      | [u], _ => exact ⟨u, rfl⟩
    rfl) fun A outer s0 H vs Q E hr h => ⟨t_starting_order K T sp_in_state sp_earliest, (pss_cons (ps_set (i := 1) sc_starting_order.nd rfl (Or.inl rfl) (C8.pe_c c_in_state hr (by decide) (by rfl) (pa_cons (pv 0) (pa_cons (C8.pe_gc (by rfl) X.g_QUEUED) pa_nil))))
      (pss_cons (ps_if (pt_cmpR op_eq (pe_fld (pv 0) rfl) (C8.pe_gc (by rfl) X.g_SMALLEST_DEADLINE) (nomark _)) (pss_one (ps_ret
        (pe_sortLam (k := 3) (T := [(T.P, lamQ)]) (c := c) (P := T.P) (N := N_lam) (a := "execution") (fr := ["server"]) (js := [0]) (by rfl) X.b_sorted (pa_cons (pv 1) pa_nil) TB (by rfl) (List.mem_singleton.mpr (Prod.ext rfl lam_qual)) (fun p hp _ => by rw [List.mem_singleton.mp hp]; exact lam_qual.symm) hr
          (NdefX.nscope_by (by decide +kernel)) (by rfl) (by rfl) (by rfl) (fun _ _ _ _ _ _ => by rfl) (fun A2 outer2 s2 H2 f2 c2 hr2 => pe_tup (pa_cons (C8.pe_c c_earliest hr2 (by decide) (by rfl) (pa_cons (pv 1) (pa_cons (pv 0) pa_nil))) (pa_cons (pe_fld (pv 0) rfl) pa_nil)))))) pss_nil)
      (pss_cons (ps_if (pt_cmpR op_eq (pe_fld (pv 0) rfl) (C8.pe_gc (by rfl) X.g_GREATEST_NUMBER) (nomark _)) (pss_one (ps_ret (pe_listRev (by rfl) (by rfl) X.b_list (by rfl) X.b_reversed (pv 1)))) pss_nil)
      (pss_one (ps_ret (pv 1)))))), rd vs H Q E h⟩
/-- every queued execution has an open request -/
def WaitOk (s : Srv) : Prop := ∀ i, i < s.executions.length → (exeAt s i).state = 0 → waitingOn s i ≠ []
theorem inState_mem {s : Srv} {st i : Nat} : i ∈ inState s st ↔ i < s.executions.length ∧ (exeAt s i).state = st := by
  unfold inState
  rw [List.mem_filter, List.mem_range, beq_iff_eq]
theorem byKey_refs {s : Srv} {L : Loc} (q : List Nat) : byKey ((exeRefs L q).zip (q.map fun i => (((deadlineOf s i : Nat) : Int), ((i : Nat) : Int)))) = exeRefs L (q.mergeSort (leD s)) := by
  unfold byKey exeRefs
  rw [List.zip_map', ← List.map_mergeSort (r := leD s) (f := fun i => (V.ref (L.at_ (.exe i)), (((deadlineOf s i : Nat) : Int), ((i : Nat) : Int)))), List.map_map]
  · rfl
  · intro a _ b _
    unfold leD leK
    rw [decide_eq_decide]
    dsimp only
    constructor <;> (intro h; omega)
theorem e_sort {σ : L2.St} {H : Hp} {ta tb : TE} {Tt : List (Addr × Str)} {N : List Str} {js : List Nat} {q : Addr} {xs : List V} {ks : List (Int × Int)} {Q : VK} (ha : Ev ta σ H (.ref q)) (hx : SqL K H q xs) (hl : xs.length = ks.length) (hT : LamX.Tabs Tt H)
    (k : ∀ H0 H1, Ex H H0 → LamX.ExtN H0 H1 → LamX.Tabs Tt H1 → (∀ (i : Nat) (x : V) (q : Int × Int) (H' : Hp), xs[i]? = some x → ks[i]? = some q → Ex H1 H' → tb (NdefX.startF N [x] (js.map (NdefX.slotAt σ))) H' fun v H'' => Ex H1 H'' ∧ ∃ p, v = .ref p ∧ H'' p = some (.tup [.int q.1, .int q.2])) ∧
      ∀ H' p, Ex H1 H' → H' p = none → Q (.ref p) (upd H' p (.lst (byKey (xs.zip ks))))) : tSortLam K Tt N js tb (tCons ta tNil) σ H Q :=
  ha H (Ex.refl H) _ fun H0 e => ⟨q, xs, ks, rfl, ex_l e hx, hl, hT.ext e, fun H1 n t => k H0 H1 e n t⟩
/-! starting_order -/
def spOrder (T : Cls7) : Sp := fun vs H Q _ => ∃ (s : Srv) (L : Loc), vs = [.ref (L.at_ .srv)] ∧ Rep T s L H ∧ s.executions.length ≤ 1000 ∧ s.requests.length ≤ 1000 ∧ WaitOk s ∧
  ∀ p H', Go T s L H s L H' → New H p → H' p = some (.lst (exeRefs L (orderOf s))) → Q (.ref p) H'
theorem exn_new {H0 H1 H2 : Hp} {p : Addr} (e : LamX.ExtN H0 H1) (e2 : Ex H1 H2) (h : H2 p = none) : New H0 p := fun o q n => by
  rw [e2 _ _ (e _ _ q n)] at h
  cases h
theorem rd_starting_order (X : Txt K mg T B) (vs : List V) (H : Hp) (Q : VK) (E : XK) (h : spOrder T vs H Q E) : t_starting_order K T (spInState T) (spEarliest T) { nx := fun _ H' => Q .non H', rt := Q } (start N_starting_order vs) H := by
  obtain ⟨s, L, rfl, R, hn, hr, hw, k⟩ := h
  refine q_asgL (el_call (ea_cons (ev_var rfl) (ea_cons (ev_c (v := .int ((0 : Nat) : Int))) ea_nil)) (spl_in_state R hn)) fun q H1 hq e1 h1 => ?_
  have R1 := R.ex e1
  refine q_when (et_is (et_test (ev_op (evS_discipline X R1 (ev_var rfl)) (ev_c (v := .int ((1 : Nat) : Int))) (rv_eq rfl))) (nat_eq _ _)) (fun hb H2 e2 => ?_) fun hb H2 e2 => ?_
  · have d1 : s.discipline = 1 := eq_of_beq hb
    have eo : orderOf s = (inState s 0).mergeSort (leD s) := if_pos d1
    rw [eo] at k
    have R2 := R1.ex e2
    refine e_sort (ks := (inState s 0).map fun i => (((deadlineOf s i : Nat) : Int), ((i : Nat) : Int))) (ev_var (v := .ref q) rfl) (sq_of (e2 _ _ h1)) (by unfold exeRefs; rw [List.length_map, List.length_map]) (fun p hp => by rw [List.mem_singleton.mp hp]; exact R2.tab) fun H3 H4 e3 n4 t4 => ⟨fun j x kq H5 hx hk e5 => ?_, fun H5 p e5 hp => ?_⟩
    · have G4 : Go T s L H s L H4 := (Go.ex R ((e1.trans e2).trans e3)).trans (Go.exN (R2.ex e3) n4 (t4 _ (List.mem_singleton.mpr rfl)))
      unfold exeRefs at hx
      rw [List.getElem?_map] at hx hk
      obtain ⟨i, hi, rfl⟩ := Option.map_eq_some_iff.mp hx
      rw [hi] at hk
      cases hk
      have hm := inState_mem.mp (List.mem_of_getElem? hi)
      have R5 := G4.rep.ex e5
      have ht : EvU (t_lam K (spEarliest T)) [some (.ref (L.at_ (.exe i))), some (.ref (L.at_ .srv))] H5 [.int ((deadlineOf s i : Nat) : Int), .int ((i : Nat) : Int)] :=
        eu_tup (ea_cons (ev_call (ea_cons (ev_var rfl) (ea_cons (ev_var rfl) ea_nil)) (spv_earliest R5 hr hm.1 (hw i hm.1 hm.2))) (ea_cons (evE_number X R5 (exe_some hm.1) (ev_var rfl)) ea_nil)) (by show 2 ≤ 100000; decide)
      exact ht H5 (Ex.refl H5) _ fun p H6 hp e6 h6 => ⟨e5.trans e6, p, rfl, h6⟩
    · have G4 : Go T s L H s L H4 := (Go.ex R ((e1.trans e2).trans e3)).trans (Go.exN (R2.ex e3) n4 (t4 _ (List.mem_singleton.mpr rfl)))
      rw [byKey_refs]
      refine k p _ (G4.trans (Go.ex G4.rep (e5.trans (Ex.new hp)))) (fun o ho hn => ?_) upd_same
      exact exn_new n4 e5 hp o (((e1.trans e2).trans e3) _ _ ho) hn
  · have d1 : s.discipline ≠ 1 := fun z => by rw [z] at hb; cases hb
    have R2 := R1.ex e2
    refine q_when (et_is (et_test (ev_op (evS_discipline X R2 (ev_var rfl)) (ev_c (v := .int ((2 : Nat) : Int))) (rv_eq rfl))) (nat_eq _ _)) (fun hb H3 e3 => ?_) fun hb H3 e3 => ?_
    · have eo : orderOf s = (inState s 0).reverse := (if_neg d1).trans (if_pos (eq_of_beq hb))
      rw [eo] at k
      have R3 := R2.ex e3
      refine ⟨.ref q, rfl, q, exeRefs L (inState s 0), rfl, sq_of (e3 _ _ (e2 _ _ h1)), fun p hp => ?_⟩
      have er : (exeRefs L (inState s 0)).reverse = exeRefs L (inState s 0).reverse := by
        unfold exeRefs
        rw [List.map_reverse]
      rw [er]
      exact k p _ (Go.ex R (((e1.trans e2).trans e3).trans (Ex.new hp))) (new_of (fresh_back ((e1.trans e2).trans e3) hp)) upd_same
    · have eo : orderOf s = inState s 0 := (if_neg d1).trans (if_neg fun z => by rw [z] at hb; cases hb)
      rw [eo] at k
      exact s_ret (v := .ref q) (ev_var rfl) fun H4 e4 => k q H4 (Go.ex R (((e1.trans e2).trans e3).trans e4)) (new_of hq) (e4 _ _ (e3 _ _ (e2 _ _ h1)))
end
end Kc
/-! fill_slots, leave -/
namespace Kc
open PySem PySem.Spec PyProof.Rows L2 KM Evl
theorem run_ok {s : Srv} (I : InOk s) {now : Nat} : ∀ (n : Nat) (e : Exe) (g : List Nat), ExOk s e → n + e.executed = 101 → ExOk s (KM.run (progAt s) now n e g).1 ∧ (KM.run (progAt s) now n e g).2.1.length = g.length
  | 0, e, g, O, _ => ⟨O, rfl⟩
  | n + 1, e, g, O, hm => by
    have f2 := takeI_fr O.fr
    have f3 := O.len
    have f4 := O.most
    rw [KM.run]
    split
    · rename_i fr q
      rw [q] at f2
      exact ⟨⟨f2.1, by
        show fr.length ≤ e.executed + 1
        have f5 : fr.length ≤ e.frames.length := f2.2
        omega, O.most, O.emi⟩, rfl⟩
    · rename_i c a fr q
      have gd := takeI_good I O.fr (c := c) (a := a) (by rw [q])
      rw [q] at f2
      have f5 : fr.length ≤ e.frames.length := f2.2
      split
      · exact ⟨⟨f2.1, by
          show fr.length ≤ e.executed + 1
          omega, O.most, O.emi⟩, rfl⟩
      · rename_i h100
        have hlen : fr.length ≤ e.executed + 1 + 1 := by omega
        have hmost : e.executed + 1 ≤ 100 := by omega
        split
        · exact ⟨⟨f2.1, hlen, hmost, O.emi⟩, rfl⟩
        · split
          · exact ⟨⟨f2.1, hlen, hmost, O.emi⟩, rfl⟩
          · split
            · rename_i c5
              refine run_ok I n _ g ⟨⟨fun f hf => (List.mem_cons.mp hf).elim (fun z => by rw [z]; exact gd.1 c5) fun z => f2.1.meth f z, fun f hf => (List.mem_cons.mp hf).elim (fun z => by rw [z]; rfl) fun z => f2.1.even f z⟩, ?_, hmost, O.emi⟩ (by show n + (e.executed + 1) = 101; omega)
              show fr.length + 1 ≤ e.executed + 1 + 1
              omega
            · split
              · exact ⟨⟨f2.1, hlen, hmost, O.emi⟩, valuesOf_regs⟩
              · rename_i h40
                have z := run_ok I (now := now) n { e with frames := fr, executed := e.executed + 1, emitted := e.emitted ++ (valuesOf c a e.payload g).1 } (valuesOf c a e.payload g).2 ⟨f2.1, hlen, hmost, by
                  show (e.emitted ++ (valuesOf c a e.payload g).1).length ≤ 40
                  rw [List.length_append]
                  omega⟩ (by show n + (e.executed + 1) = 101; omega)
                exact ⟨z.1, z.2.trans valuesOf_regs⟩
section
variable {s : Srv} {i j : Nat}
theorem start_at (hi : i < s.executions.length) : exeAt (startE s i) i = { exeAt s i with state := 1, startedAt := s.now } := exeAt_of (setOn hi)
theorem start_off (h : j ≠ i) : (startE s i).executions[j]? = s.executions[j]? := setOff h
theorem Hok.start (O : Hok s) (hi : i < s.executions.length) : Hok (startE s i) := by
  refine O.stay (stay_start s i) O.regs fun j e he => ?_
  by_cases z : j = i
  · subst z
    have q := O.ex j _ (exe_some hi)
    have he' : (s.executions.set j { exeAt s j with state := 1, startedAt := s.now })[j]? = some e := he
    rw [setOn hi] at he'
    rw [← Option.some.inj he']
    exact ⟨⟨q.1.fr, q.1.len, q.1.most, q.1.emi⟩, Nat.le_refl _⟩
  · rw [start_off z] at he
    exact O.ex j e he
theorem ran_ok (O : Hok s) (hi : i < s.executions.length) : ExOk s (ran s i).1 ∧ (ran s i).2.1.length = 4 := by
  have q := (O.ex i _ (exe_some hi)).1
  have z := run_ok O.ins (now := s.now) (101 - (exeAt s i).executed) (exeAt s i) s.registers q (by have := q.most; omega)
  rw [O.regs] at z
  exact z
theorem after_regs {e : Exe} {g : List Nat} {o : Option Nat} : (afterRun s i e g o).registers = g := by
  cases o with
  | none => rfl
  | some st =>
    unfold afterRun
    rw [endAll_regs]
    rfl
theorem Hok.resume (O : Hok s) (hi : i < s.executions.length) : Hok (KM.resume s i) := by
  have r := ran_ok O hi
  refine O.stay (stay_resume s i) (by unfold KM.resume; rw [after_regs]; exact r.2) fun j e he => ?_
  unfold KM.resume at he
  by_cases z : j = i
  · subst z
    rw [after_at hi] at he
    have hs : (ran s j).1.startedAt ≤ s.now := by
      rw [ran_started]
      exact (O.ex j _ (exe_some hi)).2
    have r1 := r.1
    cases ho : (ran s j).2.2 with
    | none =>
      rw [ho] at he
      rw [← Option.some.inj he]
      exact ⟨r.1, hs⟩
    | some st =>
      rw [ho] at he
      rw [← Option.some.inj he]
      exact ⟨⟨r1.fr, r1.len, r1.most, r1.emi⟩, hs⟩
  · rw [after_off z] at he
    exact O.ex j e he
theorem ran_state (s : Srv) (i : Nat) : (ran s i).1.state = (exeAt s i).state := (run_keeps _ _ _).2.2.2.2.1
/-- the state of what was resumed -/
theorem resume_at (hi : i < s.executions.length) (h1 : (exeAt s i).state = 1) : (exeAt (KM.resume s i) i).state ≠ 0 := by
  unfold KM.resume
  rw [exeAt_of (after_at hi)]
  cases ho : (ran s i).2.2 with
  | none =>
    show (ran s i).1.state ≠ 0
    rw [ran_state, h1]
    decide
  | some st =>
    show (2 : Nat) ≠ 0
    decide
theorem resume_off (h : j ≠ i) : exeAt (KM.resume s i) j = exeAt s j := exeAt_eq (by unfold KM.resume; exact after_off h)
/-! who waits -/
theorem waitingOn_mem {r : Nat} : r ∈ waitingOn s i ↔ r < s.requests.length ∧ (reqAt s r).status = none ∧ (reqAt s r).execution = some i := by
  unfold waitingOn openReqs
  rw [List.mem_filter, List.mem_filter, List.mem_range, beq_iff_eq, beq_iff_eq]
  constructor
  · rintro ⟨⟨a, b⟩, c⟩
    exact ⟨a, b, c⟩
  · rintro ⟨a, b, c⟩
    exact ⟨⟨a, b⟩, c⟩
theorem waitingOn_eq : waitingOn s i = (List.range s.requests.length).filter fun r => (reqAt s r).status == none && (reqAt s r).execution == some i := by
  unfold waitingOn openReqs
  rw [List.filter_filter]
  congr 1
  funext r
  rw [Bool.and_comm]
theorem waiting_congr {t : Srv} (hl : t.requests.length = s.requests.length) (h : ∀ r, r < s.requests.length → ((reqAt t r).status == none && (reqAt t r).execution == some j) = ((reqAt s r).status == none && (reqAt s r).execution == some j)) : waitingOn t j = waitingOn s j := by
  rw [waitingOn_eq, waitingOn_eq, hl]
  refine List.filter_congr fun r hr => ?_
  exact h r (List.mem_range.mp hr)
theorem reqAt_setOff {r k : Nat} {x : Req} (h : k ≠ r) : reqAt (setR s r x) k = reqAt s k := by
  unfold reqAt setR
  rw [List.getD_eq_getElem?_getD, List.getD_eq_getElem?_getD]
  show ((s.requests.set r x)[k]?).getD req0 = _
  rw [setOff h]
theorem reqAt_setOn {r : Nat} {x : Req} (h : r < s.requests.length) : reqAt (setR s r x) r = x := reqAt_of (setOn h)
theorem waiting_end {r st : Nat} (hr : r < s.requests.length) (h : (reqAt s r).execution ≠ some j) : waitingOn (endReq s r st) j = waitingOn s j := by
  refine waiting_congr (stay_setR s r _).nr fun k hk => ?_
  by_cases z : k = r
  · subst z
    have e : reqAt (endReq s k st) k = { reqAt s k with status := some st, finishedAt := s.now } := reqAt_setOn hr
    rw [e]
    have : ((reqAt s k).execution == some j) = false := beq_eq_false_iff_ne.mpr h
    show (false && _) = _
    rw [this, Bool.and_false]
    first | rfl | (cases ((reqAt s k).status == none) <;> rfl)
  · have e : reqAt (endReq s r st) k = reqAt s k := reqAt_setOff z
    rw [e]
theorem endReq_exec {r st k : Nat} : (reqAt (endReq s r st) k).execution = (reqAt s k).execution := by
  by_cases z : k = r
  · subst z
    by_cases hr : k < s.requests.length
    · have e : reqAt (endReq s k st) k = { reqAt s k with status := some st, finishedAt := s.now } := reqAt_setOn hr
      rw [e]
    · have e : endReq s k st = s := by
        unfold endReq setR
        rw [List.set_eq_of_length_le (by omega)]
      rw [e]
  · have e : reqAt (endReq s r st) k = reqAt s k := reqAt_setOff z
    rw [e]
theorem waiting_endAll {st : Nat} : ∀ (l : List Nat) (s : Srv), (∀ r ∈ l, r < s.requests.length ∧ (reqAt s r).execution ≠ some j) → waitingOn (endAll s st l) j = waitingOn s j
  | [], _, _ => rfl
  | r :: l, s, h => by
    have h0 := h r List.mem_cons_self
    show waitingOn (endAll (endReq s r st) st l) j = _
    rw [waiting_endAll l (endReq s r st) fun k hk => ⟨by rw [show (endReq s r st).requests.length = s.requests.length from (stay_setR s r _).nr]; exact (h k (List.mem_cons_of_mem _ hk)).1, by rw [endReq_exec]; exact (h k (List.mem_cons_of_mem _ hk)).2⟩]
    exact waiting_end h0.1 h0.2
theorem waiting_resume (h : j ≠ i) : waitingOn (KM.resume s i) j = waitingOn s j := by
  unfold KM.resume
  cases (ran s i).2.2 with
  | none => rfl
  | some st =>
    unfold afterRun
    refine (waiting_endAll _ _ fun r hr => ?_).trans rfl
    have hm := waitingOn_mem.mp hr
    exact ⟨hm.1, fun z => h (Option.some.inj (z.symm.trans hm.2.2))⟩
theorem WaitOk.go (W : WaitOk s) (hi : i < s.executions.length) : WaitOk (KM.resume (startE s i) i) := by
  intro j hj hs
  have hi2 : i < (startE s i).executions.length := by rw [(stay_start s i).ne]; exact hi
  rw [((stay_start s i).trans (stay_resume _ i)).ne] at hj
  by_cases z : j = i
  · subst z
    exact absurd hs (resume_at hi2 (by rw [start_at hi]))
  · rw [resume_off z, exeAt_eq (start_off z)] at hs
    rw [waiting_resume z]
    exact W j hj hs
/-- one queued execution fewer -/
theorem queued_go (hi : i ∈ inState s 0) : (inState (KM.resume (startE s i) i) 0).length < (inState s 0).length := by
  have hm := inState_mem.mp hi
  have hi2 : i < (startE s i).executions.length := by rw [(stay_start s i).ne]; exact hm.1
  have e : inState (KM.resume (startE s i) i) 0 = (inState s 0).filter fun j => !(j == i) := by
    unfold inState
    rw [((stay_start s i).trans (stay_resume _ i)).ne, List.filter_filter]
    refine List.filter_congr fun j hj => ?_
    by_cases z : j = i
    · subst z
      have q := resume_at hi2 (by rw [start_at hm.1])
      rw [beq_eq_false_iff_ne.mpr q, beq_self_eq_true]
      rfl
    · rw [resume_off z, exeAt_eq (start_off z), beq_eq_false_iff_ne.mpr z]
      rfl
  rw [e]
  refine List.length_filter_lt_length_iff_exists.mpr ⟨i, hi, ?_⟩
  rw [beq_self_eq_true]
  decide
theorem order_mem : i ∈ orderOf s ↔ i ∈ inState s 0 := by
  unfold orderOf
  split
  · exact (List.mergeSort_perm _ _).mem_iff
  · split
    · exact List.mem_reverse
    · exact Iff.rfl
/-! the walk of fill_slots -/
theorem fill_stop (h : orderOf s = [] ∨ freeSlot s = false) : ∀ n, fill n s = s
  | 0 => rfl
  | n + 1 => by
    rw [KM.fill]
    rcases h with h | h
    · rw [h]
    · split
      · rfl
      · rw [if_neg (by rw [h]; decide)]
theorem fill_step {n : Nat} {r : List Nat} (h : orderOf s = i :: r) (hf : freeSlot s = true) : fill (n + 1) s = fill n (KM.resume (startE s i) i) := by
  rw [KM.fill, h]
  exact if_pos hf
theorem order_len : (orderOf s).length = (inState s 0).length := by
  unfold orderOf
  split
  · exact List.length_mergeSort _
  · split
    · exact List.length_reverse
    · rfl
end
section
variable {K : PySem.W.Frag} {mg : Str → Option Value} {T : Cls7} {B : Blt} {σ : L2.St} {H : Hp} {ta tb tc te : TE} {D : Ends} {s : Srv} {L : Loc} {i : Nat}
def spFill (T : Cls7) : Sp := fun vs H Q _ => ∃ (s : Srv) (L : Loc), vs = [.ref (L.at_ .srv)] ∧ Rep T s L H ∧ Hok s ∧ WaitOk s ∧ ∀ L' H', Go T s L H (fillSlots s) L' H' → Q .non H'
/-- ahead of each turn -/
def FillW (T : Cls7) (s : Srv) (L : Loc) (H : Hp) (m : Nat) (σ' : L2.St) (H' : Hp) : Prop := ∃ (M : Loc) (t : Srv) (p : Addr) (v : Option V), σ' = [some (.ref (M.at_ .srv)), some (.ref p), v] ∧ Go T s L H t M H' ∧ Hok t ∧ WaitOk t ∧ H' p = some (.lst (exeRefs M (orderOf t))) ∧ fill m t = fillSlots s ∧ (inState t 0).length ≤ m
theorem fill_take {M : Loc} {t : Srv} {H1 : Hp} {m : Nat} {x1 v : Option V} (G : Go T s L H t M H1) (O : Hok t) (W : WaitOk t) (hf : fill m t = fillSlots s) (hm : (inState t 0).length ≤ m) (k : ∀ σ' H', FillW T s L H m σ' H' → D.nx σ' H') :
    tAsg (tCall (spOrder T) [] C8.E0 (tCons (tVar 0) tNil)) (gName 1) D [some (.ref (M.at_ .srv)), x1, v] H1 :=
  s_asgCall (ea_cons (ev_var rfl) ea_nil) fun H2 e2 => ⟨t, M, rfl, G.rep.ex e2, O.ne, O.nr, W, fun p H3 g3 _ hp => k _ _ ⟨M, t, p, v, rfl, (G.trans (Go.ex G.rep e2)).trans g3, O, W, hp, hf, hm⟩⟩
theorem rd_fill_slots (X : Txt K mg T B) (vs : List V) (H : Hp) (Q : VK) (E : XK) (h : spFill T vs H Q E) : t_fill_slots K T (spOrder T) (spFree T) (spResume T) { nx := fun _ H' => Q .non H', rt := Q } (start N_fill_slots vs) H := by
  obtain ⟨s, L, rfl, R, O, W, k⟩ := h
  refine fill_take (D := { nx := _, ct := _, bk := _, rt := Q }) (m := (inState s 0).length) (Go.refl R) O W rfl (Nat.le_refl _) fun σ1 H1 w1 => ?_
  refine s_while (fun m σ' H' => FillW T s L H m σ' H') _ w1 fun m σ' H2 w => ?_
  obtain ⟨M, t, p, v, hs, G, O2, W2, hp, hf, hm⟩ := w
  subst hs
  have R2 := G.rep
  refine ⟨decide (0 < (orderOf t).length) && freeSlot t, et_and (et_is (et_test (ev_op (ev_len (ev_var (v := .ref p) rfl) (sq_of hp)) (ev_c (v := .int ((0 : Nat) : Int))) rv_I0)) ?_) fun _ => et_B (ev_call (ea_cons (ev_var rfl) ea_nil) (spv_free R2 O2.ne)), fun hb H3 e3 => ?_, fun hb H3 e3 => ?_⟩
  · unfold exeRefs
    rw [List.length_map]
    exact nat_lt _ _
  · rw [Bool.and_eq_true] at hb
    obtain ⟨hb1, hb2⟩ := hb
    have h0 := of_decide_eq_true hb1
    obtain ⟨i, r, ho⟩ : ∃ i r, orderOf t = i :: r := by
      cases q : orderOf t with
      | nil =>
        rw [q] at h0
        simp at h0
      | cons i r => exact ⟨i, r, rfl⟩
    have hmem : i ∈ inState t 0 := order_mem.mp (by rw [ho]; exact List.mem_cons_self)
    have hi := (inState_mem.mp hmem).1
    obtain ⟨n, rfl⟩ : ∃ n, m = n + 1 := ⟨m - 1, by
      have : (orderOf t).length = (inState t 0).length := order_len
      omega⟩
    refine ⟨fun σ2 H2 => FillW T s L H n σ2 H2, fun σ2 H2 q => ⟨n, Nat.lt_succ_self n, q⟩, ?_⟩
    have R3 := R2.ex e3
    have G3 := G.trans (Go.ex R2 e3)
    refine q_asg (v := .ref (M.at_ (.exe i))) (ev_op (ev_var (v := .ref p) rfl) (ev_c (v := .int 0)) (rv_ixL (sq_of (e3 _ _ hp)) (atI_nat (j := 0) (show (exeRefs M (orderOf t))[0]? = some (.ref (M.at_ (.exe i))) by rw [ho]; rfl)))) fun H4 e4 => ?_
    have R4 := R3.ex e4
    have hx := exe_some hi
    refine wE_state (D := { nx := _, ct := _, bk := _, rt := Q }) X R4 hx (x := 1) (ev_c (v := .int ((1 : Nat) : Int))) (ev_var rfl) fun H5 g5 => ?_
    have hx5 : (setE t i { exeAt t i with state := 1 }).executions[i]? = some { exeAt t i with state := 1 } := set_at hx
    refine wE_started_at (D := { nx := _, ct := _, bk := _, rt := Q }) X g5.rep hx5 (evS_now X g5.rep (ev_var rfl)) (ev_var rfl) fun H6 g6 => ?_
    rw [setE_set] at g6
    have G6 : Go T s L H (startE t i) M H6 := (G3.trans (Go.ex R3 e4)).trans (g5.trans g6)
    have hi6 : i < (startE t i).executions.length := by rw [(stay_start t i).ne]; exact hi
    refine q_dropCall (ea_cons (ev_var rfl) (ea_cons (ev_var rfl) ea_nil)) fun H7 e7 => ?_
    refine ⟨startE t i, M, i, rfl, G6.rep.ex e7, O2.start hi, hi6, fun M2 H8 g8 => ?_⟩
    have G8 := (G6.trans (Go.ex G6.rep e7)).trans g8
    rw [← g8.srvAt]
    refine fill_take (m := n) G8 ((O2.start hi).resume hi6) (W2.go hi) (by rw [← hf]; exact (fill_step ho hb2).symm) (by
      have := queued_go hmem
      omega) fun σ9 H9 w9 => w9
  · have hstop : orderOf t = [] ∨ freeSlot t = false := by
      rw [Bool.and_eq_false_iff] at hb
      rcases hb with z | z
      · left
        have := of_decide_eq_false z
        exact List.eq_nil_of_length_eq_zero (by omega)
      · exact .inr z
    rw [← hf, fill_stop hstop] at k
    exact k M H3 (G.trans (Go.ex R2 e3))
end
end Kc
/-! leave, queue_execution -/
namespace Kc
open PySem PySem.Spec PyProof.Rows L2 KM Evl
section
variable {K : PySem.W.Frag} {mg : Str → Option Value} {T : Cls7} {B : Blt} {σ : L2.St} {H : Hp} {ta tb tc te : TE} {D : Ends} {s : Srv} {L : Loc} {i : Nat}
/-! leave -/
def spLeave (T : Cls7) : Sp := fun vs H Q _ => ∃ (s : Srv) (L : Loc) (r st i : Nat), vs = [.ref (L.at_ .srv), .ref (L.at_ (.req r)), .int (st : Int)] ∧ Rep T s L H ∧ Hok s ∧ WaitOk s ∧ r < s.requests.length ∧ (reqAt s r).execution = some i ∧ i < s.executions.length ∧
  ∀ L' H', Go T s L H (leave s r st i) L' H' → Q .non H'
theorem Hok.endReq (O : Hok s) {r st : Nat} : Hok (endReq s r st) := O.stay (stay_setR s r _) O.regs fun j e he => O.ex j e he
theorem Hok.abandon (O : Hok s) (hi : i < s.executions.length) : Hok (KM.abandon s i) := by
  have q := O.ex i _ (exe_some hi)
  have go : ∀ (e' : Exe), e'.frames = (exeAt s i).frames → e'.executed = (exeAt s i).executed → e'.emitted = (exeAt s i).emitted → e'.startedAt = (exeAt s i).startedAt → Hok (setE s i e') := fun e' h1 h2 h3 h4 => O.stay (stay_setE s i e') O.regs fun j e he => by
    by_cases z : j = i
    · subst z
      have he' : (s.executions.set j e')[j]? = some e := he
      rw [setOn hi] at he'
      rw [← Option.some.inj he']
      exact ⟨⟨by rw [h1]; exact q.1.fr, by rw [h1, h2]; exact q.1.len, by rw [h2]; exact q.1.most, by rw [h3]; exact q.1.emi⟩, by rw [h4]; exact q.2⟩
    · have he' : (s.executions.set i e')[j]? = some e := he
      rw [setOff z] at he'
      exact O.ex j e he'
  unfold KM.abandon
  split
  · exact go _ rfl rfl rfl rfl
  · split
    · exact go _ rfl rfl rfl rfl
    · exact O
theorem stay_abandon (s : Srv) (i : Nat) : Stay s (KM.abandon s i) := by
  unfold KM.abandon
  split
  · exact stay_setE s i _
  · split
    · exact stay_setE s i _
    · exact Stay.refl s
theorem abandon_off {j : Nat} (h : j ≠ i) : exeAt (KM.abandon s i) j = exeAt s j := by
  unfold KM.abandon
  split
  · exact exeAt_eq (setOff h)
  · split
    · exact exeAt_eq (setOff h)
    · rfl
theorem abandon_at (hi : i < s.executions.length) : (exeAt (KM.abandon s i) i).state ≠ 0 := by
  unfold KM.abandon
  split
  · rw [show exeAt (dropped s i) i = _ from exeAt_of (setOn hi)]
    exact fun z => by cases z
  · rename_i h0
    split
    · rw [show exeAt (finishE s i 1) i = _ from exeAt_of (setOn hi)]
      exact fun z => by cases z
    · exact h0
theorem abandon_reqs : (KM.abandon s i).requests = s.requests := by
  unfold KM.abandon
  split
  · rfl
  · split
    · rfl
    · rfl
theorem waiting_reqs {s t : Srv} (h : t.requests = s.requests) (i : Nat) : waitingOn t i = waitingOn s i := by
  unfold waitingOn openReqs reqAt
  rw [h]
/-- leave, ahead of fill_slots -/
def left (s : Srv) (r st i : Nat) : Srv := if waitingOn (endReq s r st) i = [] then KM.abandon (endReq s r st) i else endReq s r st
theorem left_ok {r st : Nat} (O : Hok s) (W : WaitOk s) (hr : r < s.requests.length) (he : (reqAt s r).execution = some i) (hi : i < s.executions.length) : Hok (left s r st i) ∧ WaitOk (left s r st i) := by
  have hi1 : i < (endReq s r st).executions.length := hi
  have w1 : ∀ j, j ≠ i → waitingOn (endReq s r st) j = waitingOn s j := fun j hj => waiting_end hr (by rw [he]; exact fun z => hj (Option.some.inj z).symm)
  unfold left
  split
  · rename_i hw
    refine ⟨O.endReq.abandon hi1, fun j hj hs => ?_⟩
    rw [(stay_abandon _ i).ne] at hj
    rw [waiting_reqs abandon_reqs]
    by_cases z : j = i
    · subst z
      exact absurd hs (abandon_at hi1)
    · rw [abandon_off z] at hs
      rw [w1 j z]
      exact W j hj hs
  · rename_i hw
    refine ⟨O.endReq, fun j hj hs => ?_⟩
    by_cases z : j = i
    · rw [z]
      exact hw
    · rw [w1 j z]
      exact W j hj hs
theorem rd_leave (X : Txt K mg T B) (vs : List V) (H : Hp) (Q : VK) (E : XK) (h : spLeave T vs H Q E) : t_leave K T (spEndReq T) (spWaiting T) (spAbandon T) (spFill T) { nx := fun _ H' => Q .non H', rt := Q } (start N_leave vs) H := by
  obtain ⟨s, L, r, st, i, rfl, R, O, W, hr, he, hi, k⟩ := h
  have LO := left_ok (st := st) O W hr he hi
  refine q_dropCall (ea_cons (ev_var rfl) (ea_cons (ev_var rfl) (ea_cons (ev_var (v := .int (st : Int)) rfl) ea_nil))) fun H1 e1 => ?_
  refine ⟨s, L, r, st, rfl, R.ex e1, hr, fun H2 g2 => ?_⟩
  have G2 := (Go.ex R e1).trans g2
  have R2 := G2.rep
  have O2 : Hok (endReq s r st) := O.endReq
  have hr2 : (endReq s r st).requests[r]? = some { reqAt s r with status := some st, finishedAt := s.now } := setOn hr
  have hi2 : i < (endReq s r st).executions.length := hi
  refine q_asg (v := .ref (L.at_ (.exe i))) (ev_op (evS_executions X R2 (ev_var rfl)) (evR_execution X R2 hr2 (ev_var rfl)) (by
    show RV (rIxL K) _ (opt (reqAt s r).execution) H2 _
    rw [he]
    exact rv_ixL (sq_of (R2.at_ .exes _ rfl)) (atI_nat (refs_get hi2)))) fun H3 e3 => ?_
  have R3 := R2.ex e3
  have fin : ∀ H5, Go T s L H (left s r st i) L H5 → tDrop (tCall (spFill T) [] C8.E0 (tCons (tVar 0) tNil)) { nx := fun _ H' => Q .non H', rt := Q } [some (.ref (L.at_ .srv)), some (.ref (L.at_ (.req r))), some (.int (st : Int)), some (.ref (L.at_ (.exe i)))] H5 := fun H5 G5 =>
    s_dropCall (ea_cons (ev_var rfl) ea_nil) fun H6 e6 => ⟨left s r st i, L, rfl, G5.rep.ex e6, LO.1, LO.2, fun L7 H7 g7 => k L7 H7 ((G5.trans (Go.ex G5.rep e6)).trans g7)⟩
  refine q_when (b := (waitingOn (endReq s r st) i).length == 0) (et_is (et_test (ev_op (ev_lenN (el_call (ea_cons (ev_var rfl) (ea_cons (ev_var rfl) ea_nil)) (spl_waiting R3 (by rw [show (endReq s r st).requests.length = s.requests.length from (stay_setR s r _).nr]; exact O.nr) hi2))) (ev_c (v := .int ((0 : Nat) : Int))) (rv_eq rfl))) (by unfold reqRefs; rw [List.length_map]; exact nat_eq _ _)) (fun hb H4 e4 => ?_) fun hb H4 e4 => ?_
  · have hw : waitingOn (endReq s r st) i = [] := List.eq_nil_of_length_eq_zero (eq_of_beq hb)
    have el : left s r st i = KM.abandon (endReq s r st) i := if_pos hw
    refine s_dropCall (ea_cons (ev_var rfl) (ea_cons (ev_var rfl) ea_nil)) fun H5 e5 => ⟨endReq s r st, L, i, rfl, (R3.ex e4).ex e5, hi2, fun H6 g6 => ?_⟩
    exact fin H6 (by rw [el]; exact (G2.trans (Go.ex R2 ((e3.trans e4).trans e5))).trans g6)
  · have hw : waitingOn (endReq s r st) i ≠ [] := fun z => by rw [z] at hb; cases hb
    have el : left s r st i = endReq s r st := if_neg hw
    exact fin H4 (by rw [el]; exact G2.trans (Go.ex R2 (e3.trans e4)))
/-! a list that nobody owns yet -/
def del (H : Hp) (p : Addr) : Hp := fun b => if b = p then none else H b
theorem del_ne {p b : Addr} (h : b ≠ p) : del H p b = H b := if_neg h
theorem del_same {p : Addr} : del H p p = none := if_pos rfl
theorem del_ex {p : Addr} : Ex (del H p) H := fun b o h => by
  by_cases z : b = p
  · rw [z, del_same] at h
    cases h
  · rwa [del_ne z] at h
theorem del_none {p b : Addr} (h : H b = none) : del H p b = none := by
  by_cases z : b = p
  · rw [z]
    exact del_same
  · rw [del_ne z]
    exact h
/-- p is a list, and none of the server's -/
structure Loose (T : Cls7) (s : Srv) (L : Loc) (H : Hp) (p : Addr) (xs : List V) : Prop where
  lst : H p = some (.lst xs)
  off : ∀ r, (cont T s L r).isSome = true → L.at_ r ≠ p
theorem Rep.del {p : Addr} {xs : List V} (R : Rep T s L H) (l : Loose T s L H p xs) : Rep T s L (del H p) := by
  refine ⟨fun r o h => ?_, R.inj, ?_⟩
  · rw [del_ne (l.off r (by rw [h]; rfl))]
    exact R.at_ r o h
  · obtain ⟨ps, h1, h2, h3⟩ := R.tab
    refine ⟨ps, by rw [del_ne fun z => by rw [z, l.lst] at h1; cases h1]; exact h1, h2, fun pos cv hc => ?_⟩
    obtain ⟨c, e1, e2⟩ := h3 pos cv hc
    exact ⟨c, e1, by rw [del_ne fun z => by rw [z, l.lst] at e2; unfold LamX.CodeO at e2; cases e2]; exact e2⟩
theorem Go.loose {s' : Srv} {L' : Loc} {H' : Hp} {p : Addr} {xs : List V} (G : Go T s L H s' L' H') (l : Loose T s L H p xs) : Loose T s' L' H' p xs := by
  have nt : NT (.lst xs) := fun _ z => by cases z
  refine ⟨G.keep p _ l.lst nt fun r hr z => l.off r hr z.symm, fun r hr z => ?_⟩
  rcases G.own r hr with ⟨r0, k1, k2⟩ | k
  · exact l.off r0 k1 (k2.trans z)
  · exact k _ (by rw [z]; exact l.lst) nt
theorem Go.del {s' : Srv} {L' : Loc} {H' : Hp} {p : Addr} {xs : List V} (G : Go T s L H s' L' H') (l : Loose T s L H p xs) : Go T s L (del H p) s' L' (Kc.del H' p) := by
  have l' := G.loose l
  refine ⟨G.rep.del l', fun b o h n k => ?_, fun r hr => ?_, G.same, fun b o h n => ?_⟩
  · have z : b ≠ p := fun z => by rw [z, del_same] at h; cases h
    rw [del_ne z] at h ⊢
    exact G.keep b o h n k
  · rcases G.own r hr with k | k
    · exact .inl k
    · exact .inr fun o h n => k o (del_ex _ _ h) n
  · have z : b ≠ p := fun z => by rw [z, del_same] at h; cases h
    rw [del_ne z] at h ⊢
    exact G.fresh b o h n
/-! queue_execution -/
def spQueue (T : Cls7) : Sp := fun vs H Q _ => ∃ (s : Srv) (L : Loc) (ak p : Addr) (a : AskV), vs = [.ref (L.at_ .srv), .ref ak] ∧ Rep T s L H ∧ AskAt T H ak p a ∧ Loose T s L H p (intL a.payload) ∧ a.method < s.methods.length ∧ s.executions.length ≤ 1000 ∧
  ∀ L' H', Go T s L (del H p) (queueExe s a) L' H' → Q (.ref (L'.at_ (.exe s.executions.length))) H'
theorem e_Execution {ta : TA} {n pr : V} {ak p : Addr} {a : AskV} {E : XK} {Q : VK} (ha : EvA ta σ H [n, .ref ak, pr]) (A : AskAt T H ak p a)
    (k : ∀ x d em fr f0 df H2, H x = none → H em = none → H fr = none → H f0 = none → x ≠ em → x ≠ fr → x ≠ f0 → em ≠ fr → em ≠ f0 → fr ≠ f0 → Ex H H2 → H2 em = some (.lst []) → H2 fr = some (.lst [.ref f0]) → H2 f0 = some (.ins T.F df (nF.zip [pr, .int 0])) →
      H2 x = some (.ins T.E d (nE.zip [n, .int (a.client : Int), .int (a.key : Int), .int (a.method : Int), .ref p, .int 0, .int 0, .int 0, .int 0, .int 0, .int 0, .ref em, .ref fr])) → Q (.ref x) H2) : tMake T.E (spExecution T) [] E ta σ H Q :=
  ha H (Ex.refl H) _ fun H1 e1 x dx hx hd ne => by
    have e01 : ∀ {q : Addr}, (upd (upd H1 dx (.own x)) x (.ins T.E dx [])) q = none → q ≠ x ∧ H1 q = none := fun {q} h => by
      have n1 : q ≠ x := fun z => by rw [z, upd_same] at h; cases h
      rw [upd_ne n1] at h
      have n2 : q ≠ dx := fun z => by rw [z, upd_same] at h; cases h
      rw [upd_ne n2] at h
      exact ⟨n1, h⟩
    have A1 := A.ex e1
    have A2 : AskAt T (upd (upd H1 dx (.own x)) x (.ins T.E dx [])) ak p a := A1.ex fun b u h => by
      rw [upd_ne (fun z => by rw [z, hx] at h; cases h), upd_ne (fun z => by rw [z, hd] at h; cases h)]
      exact h
    refine ⟨x, dx, ak, p, n, pr, a, rfl, upd_same, fun z => ?_, A2, fun H2 em fr f0 df h1 h2 h3 n1 n2 n3 o2 m1 m2 m3 m4 => ⟨rfl, k x dx em fr f0 df H2 (fresh_back e1 hx) (fresh_back e1 (e01 h1).2) (fresh_back e1 (e01 h2).2) (fresh_back e1 (e01 h3).2) (e01 h1).1.symm (e01 h2).1.symm (e01 h3).1.symm n1 n2 n3 (e1.trans (made_ex hx hd o2)) m1 m2 m3 m4⟩⟩
    obtain ⟨⟨d, h⟩, _⟩ := A1
    rw [z, hx] at h
    cases h
theorem q_Execution {ta : TA} {n pr : V} {ak p : Addr} {a : AskV} {E : XK} {tz : TS} {j : Nat} (ha : EvA ta σ H [n, .ref ak, pr]) (A : AskAt T H ak p a)
    (k : ∀ x d em fr f0 df H2, H x = none → H em = none → H fr = none → H f0 = none → x ≠ em → x ≠ fr → x ≠ f0 → em ≠ fr → em ≠ f0 → fr ≠ f0 → Ex H H2 → H2 em = some (.lst []) → H2 fr = some (.lst [.ref f0]) → H2 f0 = some (.ins T.F df (nF.zip [pr, .int 0])) →
      H2 x = some (.ins T.E d (nE.zip [n, .int (a.client : Int), .int (a.key : Int), .int (a.method : Int), .ref p, .int 0, .int 0, .int 0, .int 0, .int 0, .int 0, .ref em, .ref fr])) → tz D (σ.set j (some (.ref x))) H2) : tSeq (tAsg (tMake T.E (spExecution T) [] E ta) (gName j)) tz D σ H :=
  e_Execution (Q := fun v H2 => tz D (σ.set j (some v)) H2) ha A k
theorem rd_queue_execution (X : Txt K mg T B) (vs : List V) (H : Hp) (Q : VK) (E : XK) (h : spQueue T vs H Q E) : t_queue_execution K T (spExecution T) { nx := fun _ H' => Q .non H', rt := Q } (start N_queue_execution vs) H := by
  obtain ⟨s, L, ak, p, a, rfl, R, A, l, hm, hn, k⟩ := h
  have hma := meth_some hm
  refine q_asg (v := .ref (L.at_ (.prog a.method))) (evM_program X R hma (ev_op (evS_methods X R (ev_var rfl)) (evA_method X A (ev_var rfl)) (rv_ixL (sq_of (R.at_ .meths _ rfl)) (atI_nat (refs_get hm))))) fun H1 e1 => ?_
  have R1 := R.ex e1
  refine q_Execution (H := H1) (p := p) (a := a) (ea_cons (ev_is (ev_len (evS_executions X R1 (ev_var rfl)) (sq_of (R1.at_ .exes _ rfl))) (w := .int (s.executions.length : Int)) (by rw [refs_len])) (ea_cons (ev_var (v := .ref ak) rfl) (ea_cons (ev_var (v := .ref (L.at_ (.prog a.method))) rfl) ea_nil))) (A.ex e1) fun x d em fr f0 df H2 x0 m0 r0 f00 n1 n2 n3 n4 n5 n6 e2 h1 h2 h3 h4 => ?_
  have R2 := R1.ex e2
  have back : ∀ {q : Addr}, H1 q = none → H q = none := fun h => fresh_back e1 h
  have hp : ∀ {q : Addr}, H1 q = none → q ≠ p := fun h z => by rw [z, e1 _ _ l.lst] at h; cases h
  refine q_app (l := L.at_ .exes) (xs := refs L .exe s.executions.length) (v := .ref x) (R2.at_ .exes _ rfl) (evS_executions X R2 (ev_var rfl)) (ev_var rfl) (by rw [refs_len]; omega) fun H3 e3 => ?_
  have GG := Go.addExe (R.del l) (del_ex.trans ((e1.trans e2).trans e3)) (x := newExe a) (f := (a.method, 0)) (p := x) (pa := p) (em := em) (fr := fr) (f0 := f0) (d := d) (df := df) rfl (fun q hq => by
    simp only [List.mem_cons, List.not_mem_nil, or_false] at hq
    rcases hq with rfl | rfl | rfl | rfl | rfl
    · exact del_none (back x0)
    · exact del_same
    · exact del_none (back m0)
    · exact del_none (back r0)
    · exact del_none (back f00)) (by
    simp only [List.nodup_cons, List.mem_cons, List.not_mem_nil, or_false, not_or, not_false_eq_true, List.nodup_nil, and_true]
    exact ⟨⟨hp x0, n1, n2, n3⟩, ⟨(hp m0).symm, (hp r0).symm, (hp f00).symm⟩, ⟨n4, n5⟩, n6⟩) (e3 _ _ h4) (e3 _ _ (e2 _ _ (e1 _ _ l.lst))) (e3 _ _ h1) (e3 _ _ h2) (e3 _ _ h3)
  refine s_ret (v := .ref x) (ev_var rfl) fun H4 e4 => ?_
  have kk := k _ H4 (GG.trans (Go.ex GG.rep e4))
  have ex : (L.putE s.executions.length x p em fr f0 d df).at_ (.exe s.executions.length) = x := by simp [Loc.putE, Loc.put]
  rw [ex] at kk
  exact kk
end
end Kc
/-! calls that only look: the promises -/
namespace KM
def shownOf (r : Req) : Nat := match r.status with
  | none => 0
  | some n => n + 1
def numOf (o : Option Nat) : Nat := match o with
  | none => 0
  | some n => n + 1
def stVal (e : Exe) : Nat := if e.state = 1 then e.wakesAt else if e.state = 2 then e.status else 0
def ints_ (l : List Nat) : List Int := l.map fun (n : Nat) => (n : Int)
def opRequestInfo (s : Srv) (l : List Nat) : Srv × List Int := (s, if s.requests.length ≤ l.getD 0 0 then [-2] else
  let r := reqAt s (l.getD 0 0)
  ints_ [shownOf r, r.client, r.arrivedAt, r.deadline, numOf r.execution, r.joined, r.finishedAt, r.retryDelay])
def opExecutionInfo (s : Srv) (l : List Nat) : Srv × List Int := (s, if s.executions.length ≤ l.getD 0 0 then [-2] else
  let e := exeAt s (l.getD 0 0)
  ints_ [e.client, e.key, e.method, e.state, stVal e, e.startedAt, e.finishedAt, e.executed, (waitingOn s (l.getD 0 0)).length, e.emitted.length])
def opResponse (s : Srv) (l : List Nat) : Srv × List Int := (s, if s.requests.length ≤ l.getD 0 0 then [-2] else if (reqAt s (l.getD 0 0)).status = some 0 then
  let em := (exeAt s ((reqAt s (l.getD 0 0)).execution.getD 0)).emitted
  ints_ (em.length :: em) else [-33])
def opListQueue (s : Srv) (_ : List Nat) : Srv × List Int := (s, ints_ ((orderOf s).length :: orderOf s))
end KM
namespace Kc
open PySem PySem.Spec PyProof.Rows L2 KM Evl
/-- the promise of a call on a server -/
def spOp (T : Cls7) (ok : Srv → List Nat → Prop) (op : Srv → List Nat → Srv × List Int) : Sp := fun vs H Q _ => ∃ (s : Srv) (L : Loc) (q : Addr) (l : List Nat), vs = [.ref (L.at_ .srv), .ref q] ∧ Rep T s L H ∧ Loose T s L H q (intL l) ∧ ok s l ∧
  ∀ L' H' p, Go T s L H (op s l).1 L' H' → New H p → H' p = some (.lst ((op s l).2.map V.int)) → Q (.ref p) H'
section
variable {K : PySem.W.Frag} {mg : Str → Option Value} {T : Cls7} {B : Blt} {σ : L2.St} {H : Hp} {ta tb tc te : TE} {D : Ends} {s : Srv} {L : Loc} {i : Nat}
theorem Go.new {s' : Srv} {L' : Loc} {H' : Hp} {p : Addr} (G : Go T s L H s' L' H') (h : H' p = none) : New H p := fun o q n => by
  obtain ⟨o', q', _⟩ := G.fresh p o q n
  rw [q'] at h
  cases h
theorem s_retGo {s' : Srv} {L' : Loc} {H0 : Hp} {xs : List V} (G : Go T s L H0 s' L' H) (h : EvL te σ H xs) (k : ∀ H' p, Go T s L H0 s' L' H' → New H0 p → H' p = some (.lst xs) → D.rt (.ref p) H') : tRet te D σ H :=
  s_retL h fun p H1 hp e h1 => k H1 p (G.trans (Go.ex G.rep e)) (G.new hp) h1
theorem ints_V (l : List Nat) : (ints_ l).map V.int = intL l := by
  unfold ints_ intL
  rw [List.map_map]
  rfl
theorem ev_num0 {q : Addr} {l : List Nat} (ha : Ev ta σ H (.ref q)) (h : H q = some (.lst (intL l))) (hl : 0 < l.length) : Ev (tOp (rIxL K) ta (tC (.int 0))) σ H (.int ((l.getD 0 0 : Nat) : Int)) :=
  ev_op ha (ev_c (v := .int ((0 : Nat) : Int))) (rv_ixL (sq_of h) (atI_nat (intL_get (by rw [List.getD_eq_getElem?_getD, List.getElem?_eq_getElem hl]; rfl))))
theorem ev_shown (X : Txt K mg T B) {te : TE} (R : Rep T s L H) {r : Req} (h : s.requests[i]? = some r) (ha : Ev te σ H (.ref (L.at_ (.req i)))) : Ev (tIf (tTest (tOp rIsNon (tFld K te "status") (tC .non))) (tC (.int 0)) (tOp rPlus (tFld K te "status") (tC (.int 1)))) σ H (.int ((shownOf r : Nat) : Int)) := by
  refine ev_if (et_is (et_test (ev_op (evR_status X R h ha) ev_c rv_isN)) (opt_non _)) (fun hb => ?_) fun hb => ?_
  · have e : r.status = none := eq_of_beq hb
    exact ev_is (ev_c (v := .int 0)) (by unfold shownOf; rw [e]; rfl)
  · cases e : r.status with
    | none =>
      rw [e] at hb
      cases hb
    | some n =>
      have q := evR_status X R h ha
      rw [e] at q
      exact ev_is (ev_op q (ev_c (v := .int 1)) rv_I0) (by unfold shownOf; rw [e]; rfl)
/-! shown_status -/
def spShown (T : Cls7) : Sp := fun vs H Q _ => ∃ (s : Srv) (L : Loc) (r : Nat), vs = [.ref (L.at_ (.req r))] ∧ Rep T s L H ∧ r < s.requests.length ∧ RetV (.int ((shownOf (reqAt s r) : Nat) : Int)) H Q
theorem rd_shown_status (X : Txt K mg T B) (vs : List V) (H : Hp) (Q : VK) (E : XK) (h : spShown T vs H Q E) : t_shown_status K T { nx := fun _ H' => Q .non H', rt := Q } (start N_shown_status vs) H := by
  obtain ⟨s, L, r, rfl, R, hr, k⟩ := h
  exact s_ret (ev_shown X R (req_some hr) (ev_var rfl)) fun H1 e => k H1 e
theorem spv_shown {r : Nat} (R : Rep T s L H) (hr : r < s.requests.length) : SpV (spShown T) ([.ref (L.at_ (.req r))] ++ []) H (.int ((shownOf (reqAt s r) : Nat) : Int)) := fun H1 e Q q E => ⟨s, L, r, rfl, R.ex e, hr, fun H2 e2 => q H2 e2⟩
/-! state_value -/
def spStVal (T : Cls7) : Sp := fun vs H Q _ => ∃ (s : Srv) (L : Loc) (i : Nat), vs = [.ref (L.at_ (.exe i))] ∧ Rep T s L H ∧ i < s.executions.length ∧ RetV (.int ((stVal (exeAt s i) : Nat) : Int)) H Q
theorem rd_state_value (X : Txt K mg T B) (vs : List V) (H : Hp) (Q : VK) (E : XK) (h : spStVal T vs H Q E) : t_state_value K T { nx := fun _ H' => Q .non H', rt := Q } (start N_state_value vs) H := by
  obtain ⟨s, L, i, rfl, R, hi, k⟩ := h
  have hx := exe_some hi
  unfold stVal at k
  refine q_when (et_is (et_test (ev_op (evE_state X R hx (ev_var rfl)) (ev_c (v := .int ((1 : Nat) : Int))) (rv_eq rfl))) (nat_eq _ _)) (fun hb H1 e1 => ?_) fun hb H1 e1 => ?_
  · rw [if_pos (eq_of_beq hb)] at k
    exact s_ret (evE_wakes_at X (R.ex e1) hx (ev_var rfl)) fun H2 e2 => k H2 (e1.trans e2)
  · rw [if_neg (fun z => by rw [z] at hb; cases hb)] at k
    have R1 := R.ex e1
    refine q_when (et_is (et_test (ev_op (evE_state X R1 hx (ev_var rfl)) (ev_c (v := .int ((2 : Nat) : Int))) (rv_eq rfl))) (nat_eq _ _)) (fun hb H2 e2 => ?_) fun hb H2 e2 => ?_
    · rw [if_pos (eq_of_beq hb)] at k
      exact s_ret (evE_status X (R1.ex e2) hx (ev_var rfl)) fun H3 e3 => k H3 ((e1.trans e2).trans e3)
    · rw [if_neg (fun z => by rw [z] at hb; cases hb)] at k
      exact s_ret (v := .int 0) ev_c fun H3 e3 => k H3 ((e1.trans e2).trans e3)
theorem spv_stVal (R : Rep T s L H) (hi : i < s.executions.length) : SpV (spStVal T) ([.ref (L.at_ (.exe i))] ++ []) H (.int ((stVal (exeAt s i) : Nat) : Int)) := fun H1 e Q q E => ⟨s, L, i, rfl, R.ex e, hi, fun H2 e2 => q H2 e2⟩
/-! request_info -/
theorem ev_numOf {te : TE} {o : Option Nat} (ha : Ev te σ H (opt o)) : Ev (tIf (tTest (tOp rIsNon te (tC .non))) (tC (.int 0)) (tOp rPlus te (tC (.int 1)))) σ H (.int ((numOf o : Nat) : Int)) := by
  refine ev_if (et_is (et_test (ev_op ha ev_c rv_isN)) (opt_non _)) (fun hb => ?_) fun hb => ?_
  · have e : o = none := eq_of_beq hb
    exact ev_is (ev_c (v := .int 0)) (by rw [e]; rfl)
  · cases o with
    | none => cases hb
    | some n => exact ev_is (ev_op ha (ev_c (v := .int 1)) rv_I0) rfl
def one (_ : Srv) (l : List Nat) : Prop := 0 < l.length
theorem rd_request_info (X : Txt K mg T B) (vs : List V) (H : Hp) (Q : VK) (E : XK) (h : spOp T one opRequestInfo vs H Q E) : t_request_info K T (spShown T) { nx := fun _ H' => Q .non H', rt := Q } (start N_request_info vs) H := by
  obtain ⟨s, L, q, l, rfl, R, lo, hl, k⟩ := h
  refine q_asg (ev_num0 (ev_var rfl) lo.lst hl) fun H1 e1 => ?_
  have R1 := R.ex e1
  unfold opRequestInfo at k
  generalize l.getD 0 0 = n at k ⊢
  refine q_when (b := decide (s.requests.length ≤ n)) (et_is (et_test (ev_op (ev_var (v := .int (n : Int)) rfl) (ev_len (evS_requests X R1 (ev_var rfl)) (sq_of (R1.at_ .reqs _ rfl))) rv_I0)) (by rw [refs_len]; exact nat_le _ _)) (fun hb H2 e2 => ?_) fun hb H2 e2 => ?_
  · rw [if_pos (of_decide_eq_true hb)] at k
    exact s_retGo (Go.ex R (e1.trans e2)) (el_lst (ea_cons (ev_c (v := .int (-2))) ea_nil) (by show 1 ≤ 100000; decide)) fun H' p G nw hp => k L H' p G nw hp
  · have hn := of_decide_eq_false hb
    rw [if_neg hn] at k
    have hr : n < s.requests.length := by omega
    have R2 := R1.ex e2
    refine q_asg (v := .ref (L.at_ (.req n))) (ev_op (evS_requests X R2 (ev_var rfl)) (ev_var (v := .int (n : Int)) rfl) (rv_ixL (sq_of (R2.at_ .reqs _ rfl)) (atI_nat (refs_get hr)))) fun H3 e3 => ?_
    have R3 := R2.ex e3
    have h0 := req_some hr
    refine q_asg (v := .int ((numOf (reqAt s n).execution : Nat) : Int)) (ev_numOf (evR_execution X R3 h0 (ev_var rfl))) fun H4 e4 => ?_
    have R4 := R3.ex e4
    refine s_retGo (Go.ex R (((e1.trans e2).trans e3).trans e4)) (xs := intL [shownOf (reqAt s n), (reqAt s n).client, (reqAt s n).arrivedAt, (reqAt s n).deadline, numOf (reqAt s n).execution, (reqAt s n).joined, (reqAt s n).finishedAt, (reqAt s n).retryDelay])
      (el_lst (ea_cons (ev_call (ea_cons (ev_var rfl) ea_nil) (spv_shown R4 hr)) (ea_cons (evR_client X R4 h0 (ev_var rfl)) (ea_cons (evR_arrived_at X R4 h0 (ev_var rfl)) (ea_cons (evR_deadline X R4 h0 (ev_var rfl)) (ea_cons (ev_var rfl) (ea_cons (evR_joined X R4 h0 (ev_var rfl)) (ea_cons (evR_finished_at X R4 h0 (ev_var rfl)) (ea_cons (evR_retry_delay X R4 h0 (ev_var rfl)) ea_nil)))))))) (by show 8 ≤ 100000; decide)) fun H' p G nw hp => k L H' p G nw (by rw [hp, ints_V])
/-! execution_info -/
def oneR (s : Srv) (l : List Nat) : Prop := 0 < l.length ∧ s.requests.length ≤ 1000
theorem rd_execution_info (X : Txt K mg T B) (vs : List V) (H : Hp) (Q : VK) (E : XK) (h : spOp T oneR opExecutionInfo vs H Q E) : t_execution_info K T (spWaiting T) (spStVal T) { nx := fun _ H' => Q .non H', rt := Q } (start N_execution_info vs) H := by
  obtain ⟨s, L, q, l, rfl, R, lo, ⟨hl, hnr⟩, k⟩ := h
  refine q_asg (ev_num0 (ev_var rfl) lo.lst hl) fun H1 e1 => ?_
  have R1 := R.ex e1
  unfold opExecutionInfo at k
  generalize l.getD 0 0 = n at k ⊢
  refine q_when (b := decide (s.executions.length ≤ n)) (et_is (et_test (ev_op (ev_var (v := .int (n : Int)) rfl) (ev_len (evS_executions X R1 (ev_var rfl)) (sq_of (R1.at_ .exes _ rfl))) rv_I0)) (by rw [refs_len]; exact nat_le _ _)) (fun hb H2 e2 => ?_) fun hb H2 e2 => ?_
  · rw [if_pos (of_decide_eq_true hb)] at k
    exact s_retGo (Go.ex R (e1.trans e2)) (el_lst (ea_cons (ev_c (v := .int (-2))) ea_nil) (by show 1 ≤ 100000; decide)) fun H' p G nw hp => k L H' p G nw hp
  · have hn := of_decide_eq_false hb
    rw [if_neg hn] at k
    have hi : n < s.executions.length := by omega
    have R2 := R1.ex e2
    refine q_asg (v := .ref (L.at_ (.exe n))) (ev_op (evS_executions X R2 (ev_var rfl)) (ev_var (v := .int (n : Int)) rfl) (rv_ixL (sq_of (R2.at_ .exes _ rfl)) (atI_nat (refs_get hi)))) fun H3 e3 => ?_
    have R3 := R2.ex e3
    have h0 := exe_some hi
    refine s_retGo (Go.ex R ((e1.trans e2).trans e3)) (xs := intL [(exeAt s n).client, (exeAt s n).key, (exeAt s n).method, (exeAt s n).state, stVal (exeAt s n), (exeAt s n).startedAt, (exeAt s n).finishedAt, (exeAt s n).executed, (waitingOn s n).length, (exeAt s n).emitted.length])
      (el_lst (ea_cons (evE_client X R3 h0 (ev_var rfl)) (ea_cons (evE_key X R3 h0 (ev_var rfl)) (ea_cons (evE_method X R3 h0 (ev_var rfl)) (ea_cons (evE_state X R3 h0 (ev_var rfl)) (ea_cons (ev_call (ea_cons (ev_var rfl) ea_nil) (spv_stVal R3 hi)) (ea_cons (evE_started_at X R3 h0 (ev_var rfl)) (ea_cons (evE_finished_at X R3 h0 (ev_var rfl)) (ea_cons (evE_executed X R3 h0 (ev_var rfl))
        (ea_cons (ev_is (ev_lenN (el_call (ea_cons (ev_var rfl) (ea_cons (ev_var rfl) ea_nil)) (spl_waiting R3 hnr hi))) (w := .int ((waitingOn s n).length : Int)) (by unfold reqRefs; rw [List.length_map])) (ea_cons (ev_is (ev_len (evE_emitted X R3 h0 (ev_var rfl)) (sq_of (R3.emi h0))) (w := .int ((exeAt s n).emitted.length : Int)) (by rw [intL_len])) ea_nil)))))))))) (by show 10 ≤ 100000; decide)) fun H' p G nw hp => k L H' p G nw (by rw [hp, ints_V])
/-! response -/
theorem el_cat {xs ys : List V} {p : Addr} (ha : EvL ta σ H xs) (hb : Ev tb σ H (.ref p)) (hp : H p = some (.lst ys)) (hz : xs.length + ys.length ≤ 100000) : EvL (tOp rCat ta tb) σ H (xs ++ ys) := fun H1 e Q q =>
  ha H1 e _ fun a H2 ha0 e2 h2 => hb H2 (e.trans e2) _ fun H3 e3 => ⟨a, p, xs, ys, rfl, rfl, e3 _ _ h2, e3 _ _ (e2 _ _ (e _ _ hp)), sz_of hz, fun r hr => q r _ (fresh_back (e2.trans e3) hr) ((e2.trans e3).trans (Ex.new hr)) upd_same⟩
/-- what response asks -/
def okR (s : Srv) (l : List Nat) : Prop := 0 < l.length ∧ ∀ r, r < s.requests.length → (reqAt s r).status = some 0 → ∃ i, (reqAt s r).execution = some i ∧ i < s.executions.length ∧ (exeAt s i).emitted.length ≤ 1000
theorem rd_response (X : Txt K mg T B) (vs : List V) (H : Hp) (Q : VK) (E : XK) (h : spOp T okR opResponse vs H Q E) : t_response K T { nx := fun _ H' => Q .non H', rt := Q } (start N_response vs) H := by
  obtain ⟨s, L, q, l, rfl, R, lo, ⟨hl, hok⟩, k⟩ := h
  refine q_asg (ev_num0 (ev_var rfl) lo.lst hl) fun H1 e1 => ?_
  have R1 := R.ex e1
  unfold opResponse at k
  generalize l.getD 0 0 = n at k ⊢
  refine q_when (b := decide (s.requests.length ≤ n)) (et_is (et_test (ev_op (ev_var (v := .int (n : Int)) rfl) (ev_len (evS_requests X R1 (ev_var rfl)) (sq_of (R1.at_ .reqs _ rfl))) rv_I0)) (by rw [refs_len]; exact nat_le _ _)) (fun hb H2 e2 => ?_) fun hb H2 e2 => ?_
  · rw [if_pos (of_decide_eq_true hb)] at k
    exact s_retGo (Go.ex R (e1.trans e2)) (el_lst (ea_cons (ev_c (v := .int (-2))) ea_nil) (by show 1 ≤ 100000; decide)) fun H' p G nw hp => k L H' p G nw hp
  · have hn := of_decide_eq_false hb
    rw [if_neg hn] at k
    have hr : n < s.requests.length := by omega
    have R2 := R1.ex e2
    refine q_asg (v := .ref (L.at_ (.req n))) (ev_op (evS_requests X R2 (ev_var rfl)) (ev_var (v := .int (n : Int)) rfl) (rv_ixL (sq_of (R2.at_ .reqs _ rfl)) (atI_nat (refs_get hr)))) fun H3 e3 => ?_
    have R3 := R2.ex e3
    have h0 := req_some hr
    have hs : scal (opt (reqAt s n).status) (.int ((0 : Nat) : Int)) = true := by cases (reqAt s n).status <;> rfl
    refine q_when (b := !((reqAt s n).status == some 0)) (et_is (et_test (ev_op (evR_status X R3 h0 (ev_var rfl)) (ev_c (v := .int ((0 : Nat) : Int))) (rv_ne hs))) (by rw [opt_eq])) (fun hb H4 e4 => ?_) fun hb H4 e4 => ?_
    · have hne : (reqAt s n).status ≠ some 0 := fun z => by rw [z] at hb; cases hb
      rw [if_neg hne] at k
      exact s_retGo (Go.ex R (((e1.trans e2).trans e3).trans e4)) (el_lst (ea_cons (ev_c (v := .int (-33))) ea_nil) (by show 1 ≤ 100000; decide)) fun H' p G nw hp => k L H' p G nw hp
    · have heq : (reqAt s n).status = some 0 := by
        simpa using hb
      rw [if_pos heq] at k
      obtain ⟨i, hi1, hi2, hi3⟩ := hok n hr heq
      have R4 := R3.ex e4
      have hx := exe_some hi2
      rw [hi1] at k
      refine q_asg (v := .ref (L.at_ (.emi i))) (evE_emitted X R4 hx (ev_op (evS_executions X R4 (ev_var rfl)) (evR_execution X R4 h0 (ev_var rfl)) (by
        rw [hi1]
        exact rv_ixL (sq_of (R4.at_ .exes _ rfl)) (atI_nat (refs_get hi2))))) fun H5 e5 => ?_
      have R5 := R4.ex e5
      refine s_retGo (Go.ex R ((((e1.trans e2).trans e3).trans e4).trans e5)) (xs := intL ((exeAt s i).emitted.length :: (exeAt s i).emitted)) (el_cat (xs := [.int ((exeAt s i).emitted.length : Int)]) (el_lst (ea_cons (ev_is (ev_len (ev_var rfl) (sq_of (R5.emi hx))) (by rw [intL_len])) ea_nil) (by show 1 ≤ 100000; decide)) (ev_var rfl) (R5.emi hx) (by rw [List.length_map]; show 1 + _ ≤ 100000; omega)) fun H' p G nw hp => k L H' p G nw (by rw [hp, ints_V]; rfl)
/-! counted_numbers -/
def spCounted (T : Cls7) : Sp := fun vs H Q _ => ∃ (s : Srv) (L : Loc) (p : Addr) (l : List Nat), vs = [.ref p] ∧ Rep T s L H ∧ H p = some (.lst (exeRefs L l)) ∧ (∀ i ∈ l, i < s.executions.length) ∧ l.length ≤ 1000 ∧ RetL (intL (l.length :: l)) H Q
theorem rd_counted_numbers (X : Txt K mg T B) (vs : List V) (H : Hp) (Q : VK) (E : XK) (h : spCounted T vs H Q E) : t_counted_numbers K T { nx := fun _ H' => Q .non H', rt := Q } (start N_counted_numbers vs) H := by
  obtain ⟨s, L, p, l, rfl, R, hp, hlt, hlen, k⟩ := h
  have item : ∀ (j : Nat) (x : V), (exeRefs L l)[j]? = some x → l.getD j 0 < s.executions.length ∧ x = .ref (L.at_ (.exe (l.getD j 0))) := fun j x hx => by
    unfold exeRefs at hx
    rw [List.getElem?_map] at hx
    obtain ⟨r, hr, hx⟩ := Option.map_eq_some_iff.mp hx
    rw [List.getD_eq_getElem?_getD, hr]
    exact ⟨hlt _ (List.mem_of_getElem? hr), hx.symm⟩
  have e0 : given (exeRefs L l).length (fun _ => true) (fun j => V.int ((l.getD j 0 : Nat) : Int)) = intL l := by
    unfold exeRefs
    rw [List.length_map, given_map l _ _ (fun _ => true) (fun r => V.int ((r : Nat) : Int)) (fun _ _ _ => rfl) (fun j x hx => by rw [List.getD_eq_getElem?_getD, hx]; rfl), List.filter_eq_self.mpr (fun _ _ => rfl)]
    rfl
  have hl : EvL (tLc (iList K (tVar 0)) (gName 1) tYes (tFld K (tVar 1) "number") [1]) (start N_counted_numbers [.ref p]) H (intL l) := by
    rw [← e0]
    refine el_lcL (a := p) (fun _ => true) (fun j => V.int ((l.getD j 0 : Nat) : Int)) (ev_var rfl) (sq_of hp) (by unfold exeRefs; rw [List.length_map]; omega) (fun x => rfl) (fun j x H1 e1 hx => fun H2 _ Q q => q H2 (Ex.refl H2)) fun j x H1 e1 hx _ => ?_
    obtain ⟨hj, rfl⟩ := item j x hx
    exact evE_number X (R.ex e1) (exe_some hj) (ev_var rfl)
  have hc : EvL (tOp rCat (tLst (tCons (tCB (Evl.rLenS K) (tCons (tVar 0) tNil)) tNil)) (tLc (iList K (tVar 0)) (gName 1) tYes (tFld K (tVar 1) "number") [1])) (start N_counted_numbers [.ref p]) H (intL (l.length :: l)) := fun H3 e3 Q1 q1 =>
    (el_lst (ea_cons (ev_is (ev_len (K := K) (ev_var (v := .ref p) rfl) (sq_of hp)) (w := .int (l.length : Int)) (by unfold exeRefs; rw [List.length_map])) ea_nil) (by show 1 ≤ 100000; decide)) H3 e3 _ fun a H4 ha e4 h4 => hl H4 (e3.trans e4) _ fun b H5 hb e5 h5 =>
      ⟨a, b, _, _, rfl, rfl, e5 _ _ h4, h5, sz_of (by rw [intL_len]; show 1 + _ ≤ 100000; omega), fun r hr => q1 r _ (fresh_back (e4.trans e5) hr) ((e4.trans e5).trans (Ex.new hr)) upd_same⟩
  exact s_retL hc fun p H1 hp e h1 => k p H1 hp e h1
theorem spl_counted {p : Addr} {l : List Nat} (R : Rep T s L H) (hp : H p = some (.lst (exeRefs L l))) (hlt : ∀ i ∈ l, i < s.executions.length) (hlen : l.length ≤ 1000) : SpL (spCounted T) ([.ref p] ++ []) H (intL (l.length :: l)) := fun H1 e Q q E => ⟨s, L, p, l, rfl, R.ex e, e _ _ hp, hlt, hlen, fun p H2 hp e2 h2 => q p H2 hp e2 h2⟩
/-! list_queue -/
theorem s_retCC {sp sp2 : Sp} {dvs dvs2 vs : List V} {E E2 : XK} {ta : TA} (ha : EvA ta σ H vs) (k : ∀ H1, Ex H H1 → sp2 (vs ++ dvs2) H1 (fun v H2 => sp ([v] ++ dvs) H2 D.rt E) E2) : tRet (tCall sp dvs E (tCons (tCall sp2 dvs2 E2 ta) tNil)) D σ H := ha H (Ex.refl H) _ fun H1 e => k H1 e
def okQ (s : Srv) (_ : List Nat) : Prop := Hok s ∧ WaitOk s
theorem rd_list_queue (X : Txt K mg T B) (vs : List V) (H : Hp) (Q : VK) (E : XK) (h : spOp T okQ opListQueue vs H Q E) : t_list_queue K T (spCounted T) (spOrder T) { nx := fun _ H' => Q .non H', rt := Q } (start N_list_queue vs) H := by
  obtain ⟨s, L, q, l, rfl, R, lo, ⟨O, W⟩, k⟩ := h
  have hlen : (orderOf s).length ≤ 1000 := by
    rw [order_len]
    exact Nat.le_trans (List.length_filter_le _ _) (by rw [List.length_range]; exact O.ne)
  refine s_retCC (ea_cons (ev_var rfl) ea_nil) fun H1 e1 => ⟨s, L, rfl, R.ex e1, O.ne, O.nr, W, fun p H2 g2 _ hp => ?_⟩
  have G2 := (Go.ex R e1).trans g2
  refine ⟨s, L, p, orderOf s, rfl, G2.rep, hp, fun i hi => (inState_mem.mp (order_mem.mp hi)).1, hlen, fun p' H3 hp' e3 h3 => ?_⟩
  exact k L H3 p' (G2.trans (Go.ex G2.rep e3)) (G2.new hp') (by rw [h3, ← ints_V]; rfl)
end
end Kc
/-! the program's server against the specification's: executions -/
namespace KM
open Kp424 (Server Execution Request Method Customer Progress Settings)
def progE (e : Exe) : Progress := if e.state = 0 then .queued else if e.state = 1 then .running e.wakesAt else if e.state = 2 then .finished e.status else .dropped
def absE (pr : Nat → List Nat) (e : Exe) : Execution := ⟨e.client, e.key, e.method, e.payload, progE e, if e.state = 2 then [] else stackOf pr e.frames, e.executed, e.emitted, e.startedAt, e.finishedAt⟩
def absR (r : Req) : Request := ⟨r.client, r.arrivedAt, r.deadline, r.execution, r.joined == 1, r.status, r.finishedAt, r.retryDelay⟩
def absM (m : Meth) : Method := ⟨m.cost, m.roles, instrs m.program⟩
def absC (c : Cli) : Customer := ⟨c.token, c.roles, c.capacity, c.refill, c.quota, c.quotaAt⟩
/-- g, en: what the specification holds of the grace period -/
def abs (g : Option Nat) (en : Bool) (s : Srv) : Server := ⟨⟨s.limit, s.queueLimit, s.discipline, s.shedding == 1, s.lifetime⟩, s.now, s.methods.map absM, s.clients.map absC, s.executions.map (absE (progAt s)), s.requests.map absR, s.registers, s.average, g, en⟩
section
variable {g : Option Nat} {en : Bool} {s : Srv} {i : Nat}
theorem getD_map {α β : Type} (f : α → β) (l : List α) (a : α) (b : β) (h : f a = b) : (l.map f).getD i b = f (l.getD i a) := by
  rw [List.getD_eq_getElem?_getD, List.getD_eq_getElem?_getD, List.getElem?_map]
  cases l[i]? with
  | none => exact h.symm
  | some x => rfl
theorem abs_exe : Kp424.executionAt (abs g en s) i = absE (progAt s) (exeAt s i) := getD_map _ _ _ _ rfl
theorem abs_req : Kp424.requestAt (abs g en s) i = absR (reqAt s i) := getD_map _ _ _ _ rfl
theorem abs_meth : Kp424.methodAt (abs g en s) i = absM (methAt s i) := getD_map _ _ _ _ rfl
theorem abs_cli : Kp424.customerAt (abs g en s) i = absC (cliAt s i) := getD_map _ _ _ _ rfl
theorem abs_setE {e : Exe} {x : Execution} (h : x = absE (progAt s) e) : Kp424.setExecution (abs g en s) i x = abs g en (setE s i e) := by
  subst h
  unfold Kp424.setExecution abs setE
  rw [List.map_set]
  rfl
theorem abs_setR {r : Req} {x : Request} (h : x = absR r) : Kp424.setRequest (abs g en s) i x = abs g en (setR s i r) := by
  subst h
  unfold Kp424.setRequest abs setR
  rw [List.map_set]
  rfl
theorem abs_queued {pr : Nat → List Nat} {e : Exe} : Kp424.isQueued (absE pr e) = (e.state == 0) := by
  unfold Kp424.isQueued absE progE
  by_cases h : e.state = 0
  · simp [h]
  · by_cases h1 : e.state = 1
    · simp [h, h1]
    · by_cases h2 : e.state = 2
      · simp [h, h1, h2]
      · rw [if_neg h, if_neg h1, if_neg h2, beq_eq_false_iff_ne.mpr h]
        rfl
theorem abs_running {pr : Nat → List Nat} {e : Exe} : Kp424.isRunning (absE pr e) = (e.state == 1) := by
  unfold Kp424.isRunning absE progE
  by_cases h : e.state = 0
  · simp [h]
  · by_cases h1 : e.state = 1
    · simp [h, h1]
    · by_cases h2 : e.state = 2
      · simp [h, h1, h2]
      · simp [h, h1, h2]
theorem abs_queue : Kp424.queuedExecutions (abs g en s) = inState s 0 := by
  unfold Kp424.queuedExecutions inState
  rw [show (abs g en s).executions.length = s.executions.length from List.length_map ..]
  refine List.filter_congr fun j _ => ?_
  rw [abs_exe, abs_queued]
theorem abs_runs : Kp424.runningExecutions (abs g en s) = inState s 1 := by
  unfold Kp424.runningExecutions inState
  rw [show (abs g en s).executions.length = s.executions.length from List.length_map ..]
  refine List.filter_congr fun j _ => ?_
  rw [abs_exe, abs_running]
theorem abs_waiting : Kp424.waiting (abs g en s) i = waitingOn s i := by
  rw [Kc.waitingOn_eq]
  unfold Kp424.waiting
  rw [show (abs g en s).requests.length = s.requests.length from List.length_map ..]
  refine List.filter_congr fun r _ => ?_
  rw [abs_req]
  unfold Kp424.isOpen absR
  cases (reqAt s r).status <;> rfl
theorem abs_endReq {r st : Nat} : Kp424.finishRequest (abs g en s) r st = abs g en (endReq s r st) := by
  unfold Kp424.finishRequest endReq
  refine abs_setR ?_
  rw [abs_req]
  rfl
theorem abs_endAll {st : Nat} : ∀ (l : List Nat) (s : Srv), l.foldl (fun (t : Server) (r : Nat) => Kp424.finishRequest t r st) (abs g en s) = abs g en (endAll s st l)
  | [], _ => rfl
  | r :: l, s => by
    show l.foldl _ (Kp424.finishRequest (abs g en s) r st) = _
    rw [abs_endReq]
    exact abs_endAll l (endReq s r st)
theorem set_set {S : Server} {x y : Execution} : Kp424.setExecution (Kp424.setExecution S i x) i y = Kp424.setExecution S i y := by
  unfold Kp424.setExecution
  simp
theorem exe_set {S : Server} {x : Execution} (h : i < S.executions.length) : Kp424.executionAt (Kp424.setExecution S i x) i = x := by
  unfold Kp424.executionAt Kp424.setExecution
  rw [List.getD_eq_getElem?_getD]
  simp [h]
/-- interpret only looks at the clock and the methods -/
theorem interpret_of {S S' : Server} (h1 : S.now = S'.now) (h2 : S.methods = S'.methods) : ∀ (n : Nat) (regs : List Nat) (e : Execution), Kp424.interpret S n regs e = Kp424.interpret S' n regs e := by
  intro n
  induction n with
  | zero => intro regs e; rfl
  | succ n ih =>
    intro regs e
    rw [Kp424.interpret, Kp424.interpret]
    have hm : ∀ m, Kp424.methodAt S m = Kp424.methodAt S' m := fun m => by unfold Kp424.methodAt; rw [h2]
    simp only [ih, h1, hm]
theorem fin_eq {A : Server} {st : Nat} : Kp424.finishExecution A i st = (Kp424.waiting A i).foldl (fun (t : Server) (r : Nat) => Kp424.finishRequest t r st)
    (Kp424.setExecution { A with average := Kp424.updatedAverage A.average (A.now - (Kp424.executionAt A i).startedAt) } i { Kp424.executionAt A i with progress := .finished st, stack := [], finishedAt := A.now }) := rfl
/-- a running execution goes on; its progress doesn't count -/
theorem abs_resume {pg : Progress} (O : Kc.Hok s) (hi : i < s.executions.length) (h1 : (exeAt s i).state = 1) :
    Kp424.continueExecution (Kp424.setExecution (abs g en s) i { Kp424.executionAt (abs g en s) i with progress := pg }) i = abs g en (resume s i) := by
  have ha : i < (abs g en s).executions.length := by
    rw [show (abs g en s).executions.length = s.executions.length from List.length_map ..]
    exact hi
  obtain ⟨S, hS⟩ : ∃ S, S = Kp424.setExecution (abs g en s) i { Kp424.executionAt (abs g en s) i with progress := pg } := ⟨_, rfl⟩
  rw [← hS]
  have x0 : Kp424.executionAt S i = abs1 (stackOf (progAt s) (exeAt s i).frames) pg (exeAt s i) := by
    rw [hS, exe_set ha, abs_exe]
    unfold absE abs1
    rw [if_neg (by rw [h1]; decide)]
  have hx := (O.ex i _ (exe_some hi)).1
  have hpr : ∀ m, (Kp424.methodAt S m).program = instrs (progAt s m) := fun m => by
    have q : Kp424.methodAt S m = Kp424.methodAt (abs g en s) m := by rw [hS]; rfl
    rw [q, abs_meth]
    rfl
  have hev : ∀ m, (progAt s m).length % 2 = 0 := fun m => by
    by_cases z : m < s.methods.length
    · exact O.pr.even m z
    · have q : methAt s m = meth0 := by
        unfold methAt
        rw [List.getD_eq_getElem?_getD, List.getElem?_eq_none (by omega)]
        rfl
      unfold progAt
      rw [q]
      rfl
  have hnow : S.now = s.now := by rw [hS]; rfl
  have hregs : S.registers = s.registers := by rw [hS]; rfl
  have same := run_same S (progAt s) hpr hev pg 1000 (101 - (exeAt s i).executed) (exeAt s i) s.registers hx.most (Nat.le_refl _) (by have := hx.most; have := hx.len; omega) hx.fr.even
  rw [hnow] at same
  change Same (progAt s) pg (ran s i) _ at same
  unfold Kp424.continueExecution resume
  rw [x0, hregs]
  generalize hI : Kp424.interpret S 1000 s.registers (abs1 (stackOf (progAt s) (exeAt s i).frames) pg (exeAt s i)) = I at same ⊢
  have rs := Kc.ran_state s i
  have rst := Kc.ran_started s i
  generalize hR : ran s i = r at same rs rst ⊢
  obtain ⟨e, g', o⟩ := r
  obtain ⟨x, y, z⟩ := I
  obtain ⟨s1, s2⟩ := same
  try dsimp only at s1 s2 rs rst ⊢
  subst s1
  rw [h1] at rs
  cases o with
  | none =>
    obtain ⟨s2, s3⟩ := s2
    try dsimp only at s2
    subst s2
    subst s3
    show Kp424.setExecution (Kp424.setExecution { S with registers := y } i _) i _ = _
    rw [set_set, hS]
    show Kp424.setExecution (Kp424.setExecution { abs g en s with registers := y } i _) i _ = _
    rw [set_set]
    refine abs_setE (s := { s with registers := y }) (e := e) ?_
    show _ = absE (progAt s) e
    unfold absE abs1 progE
    rw [rs]
    rfl
  | some st =>
    obtain ⟨s2, s3⟩ := s2
    try dsimp only at s2
    subst s3
    show Kp424.finishExecution (Kp424.setExecution { S with registers := y } i x) i st = _
    rw [hS]
    show Kp424.finishExecution (Kp424.setExecution (Kp424.setExecution { abs g en s with registers := y } i _) i x) i st = _
    rw [set_set]
    have ha' : i < ({ abs g en s with registers := y } : Server).executions.length := ha
    obtain ⟨A, hA⟩ : ∃ A, A = Kp424.setExecution { abs g en s with registers := y } i x := ⟨_, rfl⟩
    rw [← hA]
    have xe : Kp424.executionAt A i = x := by rw [hA]; exact exe_set ha'
    have xst : x.startedAt = e.startedAt := congrArg (fun z : Execution => z.startedAt) s2
    have hx' : ({ x with progress := .finished st, stack := [], finishedAt := s.now } : Execution) = absE (progAt s) { e with state := 2, status := st, finishedAt := s.now } := congrArg (fun z : Execution => ({ z with progress := .finished st, finishedAt := s.now } : Execution)) s2
    rw [fin_eq, xe, xst, show Kp424.waiting A i = waitingOn s i by rw [hA]; exact abs_waiting (g := g) (en := en), show A.now = s.now by rw [hA]; rfl, hx']
    unfold afterRun
    rw [← abs_endAll]
    congr 1
    have e5 : exeAt { at2 s i e y with average := s.average + (s.now - e.startedAt) - s.average / 8 } i = e := exeAt_of (setOn hi)
    unfold finishE
    rw [e5, hA]
    show Kp424.setExecution (Kp424.setExecution (abs g en { s with registers := y, average := s.average + (s.now - e.startedAt) - s.average / 8 }) i x) i _ = abs g en (setE (setE { s with registers := y, average := s.average + (s.now - e.startedAt) - s.average / 8 } i e) i _)
    rw [set_set, Kc.setE_set]
    exact abs_setE rfl
end
end KM
/-! the queue against the specification -/
namespace KM
open Kp424 (Server Execution Request Method Customer Progress Settings)
section
variable {g : Option Nat} {en : Bool} {s : Srv} {i : Nat}
theorem abs_start (O : Kc.Hok s) (hi : i < s.executions.length) (h0 : (exeAt s i).state = 0) : Kp424.startExecution (abs g en s) i = abs g en (resume (startE s i) i) := by
  have hi2 : i < (startE s i).executions.length := by rw [(stay_start s i).ne]; exact hi
  have ha : i < (abs g en s).executions.length := by
    rw [show (abs g en s).executions.length = s.executions.length from List.length_map ..]
    exact hi
  have e1 := Kc.start_at hi
  rw [← abs_resume (pg := .running s.now) (O.start hi) hi2 (by rw [e1])]
  have e2 : abs g en (startE s i) = Kp424.setExecution (abs g en s) i (absE (progAt s) { exeAt s i with state := 1, startedAt := s.now }) := (abs_setE rfl).symm
  unfold Kp424.startExecution
  congr 1
  rw [abs_exe (s := s), abs_exe (s := startE s i), e1, e2, set_set]
  congr 1
  unfold absE
  dsimp only
  rw [if_neg (by rw [h0]; decide)]
  rfl
/-! the next to start -/
theorem foldl_min : ∀ {l : List Nat} {a : Nat}, l ≠ [] → l.foldl min a = min a (minL l)
  | [x], a, _ => rfl
  | x :: y :: r, a, _ => by
    show (y :: r).foldl min (min a x) = min a (min x (minL (y :: r)))
    rw [foldl_min (by simp), Nat.min_assoc]
/-- no deadline is past the specification's own bound -/
def DlOk (s : Srv) : Prop := ∀ r, (reqAt s r).deadline ≤ 4294967295
theorem abs_urgency (D : DlOk s) (h : waitingOn s i ≠ []) : Kp424.urgency (abs g en s) i = deadlineOf s i := by
  unfold Kp424.urgency deadlineOf
  rw [abs_waiting]
  have e : (waitingOn s i).map (fun r => (Kp424.requestAt (abs g en s) r).deadline) = (waitingOn s i).map fun r => (reqAt s r).deadline := List.map_congr_left fun r _ => by rw [abs_req]; rfl
  have hne : (waitingOn s i).map (fun r => (reqAt s r).deadline) ≠ [] := fun z => h (List.map_eq_nil_iff.mp z)
  rw [e, foldl_min hne, Nat.min_eq_right]
  obtain ⟨r, _, hr⟩ := List.mem_map.mp (minL_mem hne)
  rw [← hr]
  exact D r
theorem pick_least (u : Nat → Nat) : ∀ (l : List Nat) (b : Nat), l.Pairwise (· < ·) → (∀ j ∈ l, b < j) →
    ∃ r, l.foldl (fun (best : Option Nat) (i : Nat) => match best with
      | none => some i
      | some b => if u i < u b then some i else best) (some b) = some r ∧ (r = b ∨ r ∈ l) ∧ (u r < u b ∨ (u r = u b ∧ r ≤ b)) ∧ ∀ j ∈ l, u r < u j ∨ (u r = u j ∧ r ≤ j)
  | [], b, _, _ => ⟨b, rfl, .inl rfl, .inr ⟨rfl, Nat.le_refl _⟩, fun j hj => by cases hj⟩
  | i :: l, b, hp, hb => by
    rw [List.pairwise_cons] at hp
    have hbi := hb i List.mem_cons_self
    by_cases z : u i < u b
    · obtain ⟨r, h1, h2, h3, h4⟩ := pick_least u l i hp.2 hp.1
      refine ⟨r, ?_, ?_, ?_, fun j hj => ?_⟩
      · rw [List.foldl_cons]
        show l.foldl _ (if u i < u b then some i else some b) = _
        rw [if_pos z]
        exact h1
      · exact .inr (h2.elim (fun q => by rw [q]; exact List.mem_cons_self) (List.mem_cons_of_mem _))
      · omega
      · rcases List.mem_cons.mp hj with q | q
        · rw [q]
          exact h3
        · exact h4 j q
    · obtain ⟨r, h1, h2, h3, h4⟩ := pick_least u l b hp.2 fun j hj => hb j (List.mem_cons_of_mem _ hj)
      refine ⟨r, ?_, ?_, h3, fun j hj => ?_⟩
      · rw [List.foldl_cons]
        show l.foldl _ (if u i < u b then some i else some b) = _
        rw [if_neg z]
        exact h1
      · exact h2.elim .inl fun q => .inr (List.mem_cons_of_mem _ q)
      · rcases List.mem_cons.mp hj with q | q
        · rw [q]
          omega
        · exact h4 j q
theorem inState_sorted {st : Nat} : (inState s st).Pairwise (· < ·) := by
  unfold inState
  exact List.Pairwise.filter _ List.pairwise_lt_range
theorem leD_total (a b : Nat) : (leD s a b || leD s b a) = true := by
  unfold leD
  simp only [Bool.or_eq_true, decide_eq_true_eq]
  omega
theorem leD_trans (a b c : Nat) (h1 : leD s a b = true) (h2 : leD s b c = true) : leD s a c = true := by
  unfold leD at *
  simp only [decide_eq_true_eq] at *
  omega
theorem abs_next (D : DlOk s) (W : Kc.WaitOk s) (hd : s.discipline ≤ 2) : Kp424.nextQueued (abs g en s) = (orderOf s).head? := by
  unfold Kp424.nextQueued orderOf
  rw [abs_queue]
  show (match s.discipline with | 0 => _ | 1 => _ | _ => _) = _
  have hd3 : s.discipline = 0 ∨ s.discipline = 1 ∨ s.discipline = 2 := by omega
  rcases hd3 with z | z | z
  · rw [z]
    rfl
  · rw [z, if_pos rfl]
    have hu : ∀ j ∈ inState s 0, Kp424.urgency (abs g en s) j = deadlineOf s j := fun j hj => abs_urgency D (W j (Kc.inState_mem.mp hj).1 (Kc.inState_mem.mp hj).2)
    cases hq : inState s 0 with
    | nil =>
      rw [List.mergeSort_nil]
      rfl
    | cons b l =>
      have hs := inState_sorted (s := s) (st := 0)
      rw [hq, List.pairwise_cons] at hs
      obtain ⟨r, h1, h2, h3, h4⟩ := pick_least (fun j => Kp424.urgency (abs g en s) j) l b hs.2 hs.1
      have mem : r ∈ inState s 0 := by rw [hq]; exact h2.elim (fun q => by rw [q]; exact List.mem_cons_self) (List.mem_cons_of_mem _)
      have least : ∀ j ∈ inState s 0, leD s r j = true := fun j hj => by
        unfold leD
        rw [decide_eq_true_eq, ← hu r mem, ← hu j hj]
        rw [hq] at hj
        rcases List.mem_cons.mp hj with q | q
        · rw [q]
          exact h3
        · exact h4 j q
      rw [List.foldl_cons]
      refine Eq.trans h1 ?_
      rw [← hq]
      have pm := List.mergeSort_perm (inState s 0) (leD s)
      have ps := List.pairwise_mergeSort (le := leD s) (fun a b c => leD_trans a b c) leD_total (inState s 0)
      cases hm : (inState s 0).mergeSort (leD s) with
      | nil =>
        have := pm.length_eq
        rw [hm, hq] at this
        cases this
      | cons h t =>
        rw [hm] at pm ps
        rw [List.pairwise_cons] at ps
        have hh : h ∈ inState s 0 := pm.mem_iff.mp List.mem_cons_self
        have a1 := least h hh
        have a2 : leD s h r = true := by
          rcases List.mem_cons.mp (pm.mem_iff.mpr mem) with q | q
          · rw [q]
            unfold leD
            simp
          · exact ps.1 r q
        unfold leD at a1 a2
        simp only [decide_eq_true_eq] at a1 a2
        show some r = some h
        congr 1
        omega
  · rw [z, if_neg (by decide), if_pos rfl, List.head?_reverse]
    rfl
/-! filling the slots -/
theorem endReq_dl {r st k : Nat} : (reqAt (endReq s r st) k).deadline = (reqAt s k).deadline := by
  by_cases z : k = r
  · subst z
    by_cases hr : k < s.requests.length
    · have e : reqAt (endReq s k st) k = { reqAt s k with status := some st, finishedAt := s.now } := Kc.reqAt_setOn hr
      rw [e]
    · have e : endReq s k st = s := by
        unfold endReq setR
        rw [List.set_eq_of_length_le (by omega)]
      rw [e]
  · have e : reqAt (endReq s r st) k = reqAt s k := Kc.reqAt_setOff z
    rw [e]
theorem endAll_dl {st k : Nat} : ∀ (l : List Nat) (s : Srv), (reqAt (endAll s st l) k).deadline = (reqAt s k).deadline
  | [], _ => rfl
  | r :: l, s => (endAll_dl l (endReq s r st)).trans endReq_dl
theorem DlOk.resume (D : DlOk s) : DlOk (KM.resume s i) := fun r => by
  unfold KM.resume
  cases (ran s i).2.2 with
  | none => exact D r
  | some st =>
    unfold afterRun
    rw [endAll_dl]
    exact D r
theorem abs_dispatch : ∀ (n m : Nat) (s : Srv), Kc.Hok s → Kc.WaitOk s → DlOk s → s.discipline ≤ 2 → (inState s 0).length < n → (inState s 0).length ≤ m → Kp424.dispatch n (abs g en s) = abs g en (fill m s)
  | 0, _, _, _, _, _, _, h, _ => by omega
  | n + 1, m, s, O, W, D, hd, hn, hm => by
    rw [Kp424.dispatch]
    have e1 : (abs g en s).settings.limit ≤ (Kp424.runningExecutions (abs g en s)).length ↔ freeSlot s = false := by
      rw [abs_runs]
      unfold freeSlot
      rw [decide_eq_false_iff_not]
      show s.limit ≤ _ ↔ _
      omega
    by_cases hf : freeSlot s = true
    · rw [if_neg (fun z => by rw [e1.mp z] at hf; cases hf), abs_next D W hd]
      cases ho : orderOf s with
      | nil =>
        show abs g en s = _
        rw [Kc.fill_stop (.inl ho)]
      | cons i r =>
        have hmem : i ∈ inState s 0 := Kc.order_mem.mp (by rw [ho]; exact List.mem_cons_self)
        have hi := Kc.inState_mem.mp hmem
        have hi2 : i < (startE s i).executions.length := by rw [(stay_start s i).ne]; exact hi.1
        have hlt := Kc.queued_go hmem
        obtain ⟨m, rfl⟩ : ∃ k, m = k + 1 := ⟨m - 1, by omega⟩
        show Kp424.dispatch n (Kp424.startExecution (abs g en s) i) = _
        rw [abs_start O hi.1 hi.2, Kc.fill_step ho hf]
        exact abs_dispatch n m _ ((O.start hi.1).resume hi2) (W.go hi.1) (DlOk.resume (s := startE s i) D) (by rw [((stay_start s i).trans (stay_resume _ i)).discipline]; exact hd) (by omega) (by omega)
    · have hf' : freeSlot s = false := by simpa using hf
      rw [if_pos (e1.mpr hf'), Kc.fill_stop (.inr hf')]
theorem abs_settle (O : Kc.Hok s) (W : Kc.WaitOk s) (D : DlOk s) (hd : s.discipline ≤ 2) : Kp424.settle (abs g en s) = abs g en (fillSlots s) := by
  unfold Kp424.settle fillSlots
  refine abs_dispatch _ _ s O W D hd ?_ (Nat.le_refl _)
  rw [show (abs g en s).executions.length = s.executions.length from List.length_map ..]
  have : (inState s 0).length ≤ s.executions.length := Nat.le_trans (List.length_filter_le _ _) (by rw [List.length_range]; exact Nat.le_refl _)
  omega
theorem abs_abandon (h1 : (exeAt s i).state ≤ 1) : Kp424.abandon (abs g en s) i = if waitingOn s i = [] then abs g en (abandon s i) else abs g en s := by
  unfold Kp424.abandon
  dsimp only
  rw [abs_waiting, abs_exe, abs_queued, abs_running]
  by_cases hw : waitingOn s i = []
  · rw [if_neg (by rw [hw]; simp), if_pos hw]
    unfold abandon
    by_cases z : (exeAt s i).state = 0
    · rw [if_pos (beq_iff_eq.mpr z), if_pos z]
      refine abs_setE ?_
      unfold absE progE
      rw [z]
      rfl
    · have z1 : (exeAt s i).state = 1 := by omega
      rw [if_neg (fun q => z (beq_iff_eq.mp q)), if_neg z]
      by_cases k : (exeAt s i).key = 0
      · have hc : ((exeAt s i).state == 1 && (absE (progAt s) (exeAt s i)).key == 0) = true := by
          show ((exeAt s i).state == 1 && (exeAt s i).key == 0) = true
          rw [z1, k]
          rfl
        rw [if_pos hc, if_pos k]
        exact abs_setE rfl
      · have hc : ¬ ((exeAt s i).state == 1 && (absE (progAt s) (exeAt s i)).key == 0) = true := by
          show ¬ ((exeAt s i).state == 1 && (exeAt s i).key == 0) = true
          rw [beq_eq_false_iff_ne.mpr k, Bool.and_false]
          decide
        rw [if_neg hc, if_neg k]
  · rw [if_pos hw, if_neg hw]
theorem DlOk.left {r st : Nat} (D : DlOk s) : DlOk (Kc.left s r st i) := fun k => by
  unfold Kc.left
  split
  · have e : (reqAt (abandon (endReq s r st) i) k) = reqAt (endReq s r st) k := by unfold reqAt; rw [Kc.abandon_reqs]
    rw [e, endReq_dl]
    exact D k
  · rw [endReq_dl]
    exact D k
theorem abs_leave {r st : Nat} (O : Kc.Hok s) (W : Kc.WaitOk s) (D : DlOk s) (hd : s.discipline ≤ 2) (hr : r < s.requests.length) (he : (reqAt s r).execution = some i) (hi : i < s.executions.length) (h1 : (exeAt s i).state ≤ 1) :
    Kp424.endRequest (abs g en s) r st = abs g en (leave s r st i) := by
  unfold Kp424.endRequest
  dsimp only
  rw [abs_req, abs_endReq]
  show Kp424.settle (match (reqAt s r).execution with | none => _ | some x => _) = _
  rw [he]
  dsimp only
  rw [abs_abandon (s := endReq s r st) h1]
  have LO := Kc.left_ok (st := st) O W hr he hi
  have hdl : (Kc.left s r st i).discipline ≤ 2 := by
    unfold Kc.left
    split
    · rw [(Kc.stay_abandon _ i).discipline]
      exact hd
    · exact hd
  have e : (if waitingOn (endReq s r st) i = [] then abs g en (abandon (endReq s r st) i) else abs g en (endReq s r st)) = abs g en (Kc.left s r st i) := by
    unfold Kc.left
    split <;> rfl
  rw [e, abs_settle LO.1 LO.2 (DlOk.left D) hdl]
  rfl
end
end KM
/-! what a server keeps: requests, times, and how much can still happen -/
namespace Kc
open KM
section
variable {s : Srv} {i j : Nat}
/-! runs -/
theorem run_more {pr : Nat → List Nat} {now : Nat} : ∀ (n : Nat) (e : Exe) (g : List Nat), e.executed ≤ (KM.run pr now n e g).1.executed ∧ ((KM.run pr now n e g).2.2 = none → e.executed < (KM.run pr now n e g).1.executed)
  | 0, e, g => ⟨Nat.le_refl _, fun h => by cases h⟩
  | n + 1, e, g => by
    rw [KM.run]
    split
    · exact ⟨Nat.le_refl _, fun h => by cases h⟩
    · split
      · exact ⟨Nat.le_refl _, fun h => by cases h⟩
      · split
        · exact ⟨Nat.le_succ _, fun _ => Nat.lt_succ_self _⟩
        · split
          · exact ⟨Nat.le_succ _, fun h => by cases h⟩
          · split
            · rename_i c a fr _ _ _ _ _
              have z := run_more (pr := pr) (now := now) n { e with frames := (a, 0) :: fr, executed := e.executed + 1 } g
              exact ⟨Nat.le_trans (Nat.le_succ _) z.1, fun h => Nat.lt_of_lt_of_le (Nat.lt_succ_self _) z.1⟩
            · split
              · exact ⟨Nat.le_succ _, fun h => by cases h⟩
              · rename_i c a fr _ _ _ _ _ _
                have z := run_more (pr := pr) (now := now) n { e with frames := fr, executed := e.executed + 1, emitted := e.emitted ++ (valuesOf c a e.payload g).1 } (valuesOf c a e.payload g).2
                exact ⟨Nat.le_trans (Nat.le_succ _) z.1, fun h => Nat.lt_of_lt_of_le (Nat.lt_succ_self _) z.1⟩
theorem run_wakes (I : InOk s) {now : Nat} : ∀ (n : Nat) (e : Exe) (g : List Nat), FrOk s e.frames → (KM.run (progAt s) now n e g).2.2 = none → now ≤ (KM.run (progAt s) now n e g).1.wakesAt ∧ (KM.run (progAt s) now n e g).1.wakesAt ≤ now + 10000
  | 0, e, g, _ => fun h => by cases h
  | n + 1, e, g, F => by
    have f2 := takeI_fr F
    rw [KM.run]
    split
    · exact fun h => by cases h
    · rename_i c a fr q
      have gd := takeI_good I F (c := c) (a := a) (by rw [q])
      rw [q] at f2
      split
      · exact fun h => by cases h
      · split
        · rename_i c0
          intro _
          have := gd.2.2 c0
          show now ≤ now + a ∧ now + a ≤ now + 10000
          omega
        · split
          · exact fun h => by cases h
          · split
            · rename_i c5
              exact run_wakes I n _ g ⟨fun f hf => (List.mem_cons.mp hf).elim (fun z => by rw [z]; exact gd.1 c5) fun z => f2.1.meth f z, fun f hf => (List.mem_cons.mp hf).elim (fun z => by rw [z]; rfl) fun z => f2.1.even f z⟩
            · split
              · exact fun h => by cases h
              · exact run_wakes I n _ _ f2.1
/-! requests -/
theorem endAll_out {st k : Nat} : ∀ (l : List Nat) (s : Srv), k ∉ l → reqAt (endAll s st l) k = reqAt s k
  | [], _, _ => rfl
  | r :: l, s, h => by
    have h1 : k ≠ r := fun z => h (by rw [z]; exact List.mem_cons_self)
    have h2 : k ∉ l := fun z => h (List.mem_cons_of_mem _ z)
    exact (endAll_out l (endReq s r st) h2).trans (reqAt_setOff h1)
theorem endAll_in {st k : Nat} : ∀ (l : List Nat) (s : Srv), k ∈ l → k < s.requests.length → reqAt (endAll s st l) k = { reqAt s k with status := some st, finishedAt := s.now }
  | r :: l, s, h, hk => by
    have hk' : k < (endReq s r st).requests.length := by rw [show (endReq s r st).requests.length = s.requests.length from (stay_setR s r _).nr]; exact hk
    have e0 : reqAt (endReq s k st) k = { reqAt s k with status := some st, finishedAt := s.now } := reqAt_setOn hk
    by_cases h2 : k ∈ l
    · have z := endAll_in (st := st) l (endReq s r st) h2 hk'
      refine z.trans ?_
      by_cases h1 : k = r
      · rw [← h1, e0]
        rfl
      · rw [show reqAt (endReq s r st) k = reqAt s k from reqAt_setOff h1]
        rfl
    · have h1 : k = r := (List.mem_cons.mp h).resolve_right h2
      refine (endAll_out l (endReq s r st) h2).trans ?_
      rw [← h1]
      exact e0
/-- the requests of a server -/
structure Rok (s : Srv) : Prop where
  op : ∀ r, r < s.requests.length → (reqAt s r).status = none → ∃ i, (reqAt s r).execution = some i ∧ i < s.executions.length ∧ (exeAt s i).state ≤ 1
  ok : ∀ r, r < s.requests.length → (reqAt s r).status = some 0 → ∃ i, (reqAt s r).execution = some i ∧ i < s.executions.length
  jo : ∀ r, r < s.requests.length → (reqAt s r).joined ≤ 1
  dl : ∀ r, r < s.requests.length → (reqAt s r).deadline ≤ s.now + 100000
/-- when running executions wake -/
def Wok (s : Srv) : Prop := ∀ i, i < s.executions.length → (exeAt s i).state = 1 → (exeAt s i).wakesAt ≤ s.now + 10000
theorem resume_req {r : Nat} (hr : r < s.requests.length) : reqAt (KM.resume s i) r = reqAt s r ∨ (r ∈ waitingOn s i ∧ ∃ st, reqAt (KM.resume s i) r = { reqAt s r with status := some st, finishedAt := s.now } ∧ (ran s i).2.2 = some st) := by
  unfold KM.resume
  cases ho : (ran s i).2.2 with
  | none => exact .inl rfl
  | some st =>
    unfold afterRun
    by_cases z : r ∈ waitingOn s i
    · exact .inr ⟨z, st, endAll_in _ _ z hr, rfl⟩
    · exact .inl (endAll_out _ _ z)
theorem resume_open {r : Nat} (hr : r < s.requests.length) (h : (reqAt (KM.resume s i) r).status = none) : reqAt (KM.resume s i) r = reqAt s r := by
  rcases resume_req (s := s) (i := i) hr with z | ⟨_, st, z, _⟩
  · exact z
  · rw [z] at h
    cases h
/-- an execution that ends leaves nobody waiting -/
theorem resume_done {r : Nat} (hr : r < s.requests.length) (h : (reqAt (KM.resume s i) r).status = none) (he : (reqAt s r).execution = some i) (h0 : (reqAt s r).status = none) : (ran s i).2.2 = none := by
  cases ho : (ran s i).2.2 with
  | none => rfl
  | some st =>
    exfalso
    have hm : r ∈ waitingOn s i := waitingOn_mem.mpr ⟨hr, h0, he⟩
    have e : reqAt (KM.resume s i) r = { reqAt s r with status := some st, finishedAt := s.now } := by
      unfold KM.resume
      rw [ho]
      exact endAll_in _ _ hm hr
    rw [e] at h
    cases h
theorem resume_state (hi : i < s.executions.length) (h1 : (exeAt s i).state = 1) : (exeAt (KM.resume s i) i).state = if (ran s i).2.2 = none then 1 else 2 := by
  unfold KM.resume
  rw [exeAt_of (after_at hi)]
  cases (ran s i).2.2 with
  | none =>
    show (ran s i).1.state = _
    rw [ran_state, h1]
    rfl
  | some st => rfl
theorem Rok.resume (R : Rok s) (hi : i < s.executions.length) (h1 : (exeAt s i).state = 1) : Rok (KM.resume s i) := by
  have St := stay_resume s i
  refine ⟨fun r hr h => ?_, fun r hr h => ?_, fun r hr => ?_, fun r hr => ?_⟩
  · rw [St.nr] at hr
    have e := resume_open hr h
    rw [e] at h ⊢
    obtain ⟨j, k1, k2, k3⟩ := R.op r hr h
    refine ⟨j, k1, by rw [St.ne]; exact k2, ?_⟩
    by_cases z : j = i
    · subst z
      rw [resume_state hi h1, resume_done (s := s) hr (by rw [e]; exact h) k1 h, if_pos rfl]
      exact Nat.le_refl _
    · rw [resume_off z]
      exact k3
  · rw [St.nr] at hr
    rw [St.ne]
    rcases resume_req (s := s) (i := i) hr with z | ⟨hm, st, z, _⟩
    · rw [z] at h ⊢
      exact R.ok r hr h
    · rw [z]
      exact ⟨i, (waitingOn_mem.mp hm).2.2, hi⟩
  · rw [St.nr] at hr
    rcases resume_req (s := s) (i := i) hr with z | ⟨hm, st, z, _⟩
    · rw [z]
      exact R.jo r hr
    · rw [z]
      exact R.jo r hr
  · rw [St.nr] at hr
    rw [St.now]
    rcases resume_req (s := s) (i := i) hr with z | ⟨hm, st, z, _⟩
    · rw [z]
      exact R.dl r hr
    · rw [z]
      exact R.dl r hr
theorem Rok.start (R : Rok s) (hi : i < s.executions.length) : Rok (startE s i) := by
  refine ⟨fun r hr h => ?_, fun r hr h => ?_, R.jo, R.dl⟩
  · obtain ⟨j, k1, k2, k3⟩ := R.op r hr h
    refine ⟨j, k1, by rw [(stay_start s i).ne]; exact k2, ?_⟩
    by_cases z : j = i
    · rw [z, start_at hi]
      exact Nat.le_refl _
    · rw [exeAt_eq (start_off z)]
      exact k3
  · obtain ⟨j, k1, k2⟩ := R.ok r hr h
    exact ⟨j, k1, by rw [(stay_start s i).ne]; exact k2⟩
theorem Wok.go (O : Hok s) (W : Wok s) (hi : i < s.executions.length) : Wok (KM.resume (startE s i) i) := by
  have hi2 : i < (startE s i).executions.length := by rw [(stay_start s i).ne]; exact hi
  have St := (stay_start s i).trans (stay_resume _ i)
  intro j hj h
  rw [St.ne] at hj
  rw [St.now]
  by_cases z : j = i
  · subst z
    have hs := resume_state hi2 (by rw [start_at hi])
    have hn : (ran (startE s j) j).2.2 = none := by
      cases q : (ran (startE s j) j).2.2 with
      | none => rfl
      | some st =>
        rw [q, h] at hs
        cases hs
    have e : exeAt (KM.resume (startE s j) j) j = (ran (startE s j) j).1 := by
      unfold KM.resume
      rw [exeAt_of (after_at hi2), hn]
    rw [e]
    have O2 := O.start hi
    exact (run_wakes O2.ins _ _ _ (O2.ex j _ (exe_some hi2)).1.fr hn).2
  · rw [resume_off z, exeAt_eq (start_off z)] at h ⊢
    exact W j hj h
theorem Wok.resume (O : Hok s) (W : Wok s) (hi : i < s.executions.length) : Wok (KM.resume s i) := by
  have St := stay_resume s i
  intro j hj h
  rw [St.ne] at hj
  rw [St.now]
  by_cases z : j = i
  · subst z
    have e0 : exeAt (KM.resume s j) j = (match (ran s j).2.2 with
      | none => (ran s j).1
      | some st => { (ran s j).1 with state := 2, status := st, finishedAt := s.now }) := by
      unfold KM.resume
      exact exeAt_of (after_at hi)
    have hn : (ran s j).2.2 = none := by
      cases q : (ran s j).2.2 with
      | none => rfl
      | some st =>
        rw [e0, q] at h
        cases h
    rw [e0, hn]
    exact (run_wakes O.ins _ _ _ (O.ex j _ (exe_some hi)).1.fr hn).2
  · rw [resume_off z] at h ⊢
    exact W j hj h
end
end Kc
/-! what a server keeps through fill_slots and leave; how much can still happen -/
namespace Kc
open KM
def sumTo : Nat → (Nat → Nat) → Nat
  | 0, _ => 0
  | n + 1, f => sumTo n f + f n
theorem sumTo_le {f h : Nat → Nat} : ∀ {n : Nat}, (∀ i, i < n → f i ≤ h i) → sumTo n f ≤ sumTo n h
  | 0, _ => Nat.le_refl _
  | n + 1, q => Nat.add_le_add (sumTo_le fun i hi => q i (Nat.lt_succ_of_lt hi)) (q n (Nat.lt_succ_self n))
theorem sumTo_lt {f h : Nat → Nat} {k : Nat} : ∀ {n : Nat}, (∀ i, i < n → f i ≤ h i) → k < n → f k < h k → sumTo n f < sumTo n h
  | n + 1, q, hk, hlt => by
    have q1 : ∀ i, i < n → f i ≤ h i := fun i hi => q i (Nat.lt_succ_of_lt hi)
    have q2 := q n (Nat.lt_succ_self n)
    show sumTo n f + f n < sumTo n h + h n
    by_cases z : k = n
    · subst z
      have := sumTo_le q1
      omega
    · have := sumTo_lt (n := n) q1 (by omega) hlt
      omega
theorem sumTo_const {c : Nat} {f : Nat → Nat} : ∀ {n : Nat}, (∀ i, i < n → f i ≤ c) → sumTo n f ≤ n * c
  | 0, _ => Nat.zero_le _
  | n + 1, q => by
    have a := sumTo_const (n := n) fun i hi => q i (Nat.lt_succ_of_lt hi)
    have b := q n (Nat.lt_succ_self n)
    show sumTo n f + f n ≤ (n + 1) * c
    rw [Nat.succ_mul]
    omega
def openW (r : Req) : Nat := if r.status = none then 1 else 0
def exeW (e : Exe) : Nat := if e.state ≤ 1 then 102 - e.executed else 0
/-- how many events there can still be, at most -/
def phi (s : Srv) : Nat := sumTo s.requests.length (fun r => openW (reqAt s r)) + sumTo s.executions.length (fun i => exeW (exeAt s i))
section
variable {s : Srv} {i j : Nat}
theorem phi_le : phi s ≤ s.requests.length + s.executions.length * 102 := by
  unfold phi
  have a := sumTo_const (c := 1) (n := s.requests.length) (f := fun r => openW (reqAt s r)) fun r _ => by
    show openW _ ≤ 1
    unfold openW
    split <;> omega
  have b := sumTo_const (c := 102) (n := s.executions.length) (f := fun i => exeW (exeAt s i)) fun r _ => by
    show exeW _ ≤ 102
    unfold exeW
    split <;> omega
  omega
theorem resume_openW {r : Nat} (hr : r < s.requests.length) : openW (reqAt (KM.resume s i) r) ≤ openW (reqAt s r) := by
  rcases resume_req (s := s) (i := i) hr with z | ⟨_, st, z, _⟩
  · rw [z]
    exact Nat.le_refl _
  · rw [z]
    exact Nat.zero_le _
theorem resume_exeW (O : Hok s) (hi : i < s.executions.length) (h1 : (exeAt s i).state = 1) : exeW (exeAt (KM.resume s i) i) < exeW (exeAt s i) := by
  have hx := (O.ex i _ (exe_some hi)).1
  have e1 : exeW (exeAt s i) = 102 - (exeAt s i).executed := if_pos (by omega)
  have e0 : exeAt (KM.resume s i) i = (match (ran s i).2.2 with
      | none => (ran s i).1
      | some st => { (ran s i).1 with state := 2, status := st, finishedAt := s.now }) := by
    unfold KM.resume
    exact exeAt_of (after_at hi)
  have hm := hx.most
  rw [e0, e1]
  have rm := run_more (pr := progAt s) (now := s.now) (101 - (exeAt s i).executed) (exeAt s i) s.registers
  change (exeAt s i).executed ≤ (ran s i).1.executed ∧ ((ran s i).2.2 = none → (exeAt s i).executed < (ran s i).1.executed) at rm
  cases ho : (ran s i).2.2 with
  | none =>
    have := rm.2 ho
    show exeW (ran s i).1 < _
    unfold exeW
    split <;> omega
  | some st =>
    show (if (2 : Nat) ≤ 1 then _ else 0) < _
    rw [if_neg (by decide)]
    omega
theorem phi_resume (O : Hok s) (hi : i < s.executions.length) (h1 : (exeAt s i).state = 1) : phi (KM.resume s i) < phi s := by
  have St := stay_resume s i
  unfold phi
  rw [St.nr, St.ne]
  have a := sumTo_le (n := s.requests.length) (f := fun r => openW (reqAt (KM.resume s i) r)) (h := fun r => openW (reqAt s r)) fun r hr => resume_openW hr
  have b := sumTo_lt (n := s.executions.length) (k := i) (f := fun j => exeW (exeAt (KM.resume s i) j)) (h := fun j => exeW (exeAt s j)) (fun j hj => by
    by_cases z : j = i
    · rw [z]
      exact Nat.le_of_lt (resume_exeW O hi h1)
    · show exeW (exeAt (KM.resume s i) j) ≤ _
      rw [resume_off z]
      exact Nat.le_refl _) hi (resume_exeW O hi h1)
  omega
theorem phi_start (hi : i < s.executions.length) (h0 : (exeAt s i).state = 0) : phi (startE s i) = phi s := by
  unfold phi
  rw [(stay_start s i).nr, (stay_start s i).ne]
  congr 1
  have e : ∀ j, j < s.executions.length → exeW (exeAt (startE s i) j) = exeW (exeAt s j) := fun j hj => by
    by_cases z : j = i
    · rw [z, start_at hi]
      unfold exeW
      rw [h0]
      rfl
    · rw [exeAt_eq (start_off z)]
  exact Nat.le_antisymm (sumTo_le fun j hj => Nat.le_of_eq (e j hj)) (sumTo_le fun j hj => Nat.le_of_eq (e j hj).symm)
/-- all that is kept -/
structure Aok (s : Srv) : Prop where
  hok : Hok s
  wait : WaitOk s
  req : Rok s
  wake : Wok s
theorem Aok.go (A : Aok s) (hm : i ∈ inState s 0) : Aok (KM.resume (startE s i) i) := by
  have hi := (inState_mem.mp hm).1
  have hi2 : i < (startE s i).executions.length := by rw [(stay_start s i).ne]; exact hi
  exact ⟨(A.hok.start hi).resume hi2, A.wait.go hi, (A.req.start hi).resume hi2 (by rw [start_at hi]), Wok.go A.hok A.wake hi⟩
theorem phi_go (A : Aok s) (hm : i ∈ inState s 0) : phi (KM.resume (startE s i) i) < phi s := by
  have hi := inState_mem.mp hm
  have hi2 : i < (startE s i).executions.length := by rw [(stay_start s i).ne]; exact hi.1
  have z := phi_resume (A.hok.start hi.1) hi2 (by rw [start_at hi.1])
  rw [phi_start hi.1 hi.2] at z
  exact z
theorem fill_ok : ∀ (n : Nat) (s : Srv), Aok s → Aok (KM.fill n s) ∧ phi (KM.fill n s) ≤ phi s
  | 0, s, A => ⟨A, Nat.le_refl _⟩
  | n + 1, s, A => by
    rw [KM.fill]
    split
    · exact ⟨A, Nat.le_refl _⟩
    · rename_i i r ho
      split
      · have hm : i ∈ inState s 0 := order_mem.mp (by rw [ho]; exact List.mem_cons_self)
        have z := fill_ok n _ (A.go hm)
        exact ⟨z.1, Nat.le_trans z.2 (Nat.le_of_lt (phi_go A hm))⟩
      · exact ⟨A, Nat.le_refl _⟩
/-! leave -/
theorem endReq_at {r st : Nat} (hr : r < s.requests.length) : reqAt (endReq s r st) r = { reqAt s r with status := some st, finishedAt := s.now } := reqAt_setOn hr
theorem left_state {r st : Nat} : (left s r st i).executions.length = s.executions.length ∧ (left s r st i).requests = (endReq s r st).requests ∧ (left s r st i).now = s.now ∧ (∀ j, j ≠ i → exeAt (left s r st i) j = exeAt s j) := by
  unfold left
  split
  · exact ⟨(stay_abandon _ i).ne, abandon_reqs, (stay_abandon _ i).now, fun j hj => abandon_off hj⟩
  · exact ⟨rfl, rfl, rfl, fun j _ => rfl⟩
theorem abandon_exe (hi : i < s.executions.length) : (exeAt (KM.abandon s i) i).wakesAt = (exeAt s i).wakesAt ∧ ((exeAt (KM.abandon s i) i).state = (exeAt s i).state ∨ 2 ≤ (exeAt (KM.abandon s i) i).state) ∧ exeW (exeAt (KM.abandon s i) i) ≤ exeW (exeAt s i) := by
  unfold KM.abandon
  split
  · rw [show exeAt (dropped s i) i = _ from exeAt_of (setOn hi)]
    exact ⟨rfl, .inr (show 2 ≤ 3 by decide), Nat.zero_le _⟩
  · split
    · rw [show exeAt (finishE s i 1) i = _ from exeAt_of (setOn hi)]
      exact ⟨rfl, .inr (Nat.le_refl _), Nat.zero_le _⟩
    · exact ⟨rfl, .inl rfl, Nat.le_refl _⟩
theorem left_exe {r st : Nat} (hi : i < s.executions.length) : (exeAt (left s r st i) i).wakesAt = (exeAt s i).wakesAt ∧ ((exeAt (left s r st i) i).state = (exeAt s i).state ∨ 2 ≤ (exeAt (left s r st i) i).state) ∧ exeW (exeAt (left s r st i) i) ≤ exeW (exeAt s i) := by
  unfold left
  split
  · exact abandon_exe (s := endReq s r st) hi
  · exact ⟨rfl, .inl rfl, Nat.le_refl _⟩
theorem left_aok {r st : Nat} (A : Aok s) (hr : r < s.requests.length) (he : (reqAt s r).execution = some i) (hi : i < s.executions.length) : Aok (left s r st i) := by
  have LO := left_ok (st := st) A.hok A.wait hr he hi
  obtain ⟨l1, l2, l3, l4⟩ := left_state (s := s) (i := i) (r := r) (st := st)
  have lx := left_exe (s := s) (r := r) (st := st) hi
  have rq : ∀ k, reqAt (left s r st i) k = reqAt (endReq s r st) k := fun k => by unfold reqAt; rw [l2]
  have nr : (left s r st i).requests.length = s.requests.length := by rw [l2]; exact (stay_setR s r _).nr
  have cases_ : ∀ k, k < s.requests.length → (k = r ∧ reqAt (left s r st i) k = { reqAt s r with status := some st, finishedAt := s.now }) ∨ (k ≠ r ∧ reqAt (left s r st i) k = reqAt s k) := fun k hk => by
    by_cases z : k = r
    · left
      rw [rq, z]
      exact ⟨rfl, endReq_at hr⟩
    · right
      rw [rq]
      exact ⟨z, reqAt_setOff z⟩
  refine ⟨LO.1, LO.2, ⟨fun k hk h => ?_, fun k hk h => ?_, fun k hk => ?_, fun k hk => ?_⟩, fun j hj h => ?_⟩
  · rw [nr] at hk
    rcases cases_ k hk with ⟨_, z⟩ | ⟨ne, z⟩
    · rw [z] at h
      cases h
    · have ho := h
      rw [z] at h ⊢
      obtain ⟨j, k1, k2, k3⟩ := A.req.op k hk h
      refine ⟨j, k1, by rw [l1]; exact k2, ?_⟩
      by_cases q : j = i
      · subst q
        have hw : waitingOn (endReq s r st) j ≠ [] := fun w => by
          have : k ∈ waitingOn (endReq s r st) j := waitingOn_mem.mpr ⟨by rw [show (endReq s r st).requests.length = s.requests.length from (stay_setR s r _).nr]; exact hk, by rw [← rq, z]; exact h, by rw [← rq, z]; exact k1⟩
          rw [w] at this
          cases this
        have e : left s r st j = endReq s r st := if_neg hw
        rw [e]
        exact k3
      · rw [l4 j q]
        exact k3
  · rw [nr] at hk
    rw [l1]
    rcases cases_ k hk with ⟨_, z⟩ | ⟨ne, z⟩
    · rw [z]
      exact ⟨i, he, hi⟩
    · rw [z] at h ⊢
      exact A.req.ok k hk h
  · rw [nr] at hk
    rcases cases_ k hk with ⟨_, z⟩ | ⟨ne, z⟩
    · rw [z]
      exact A.req.jo r hr
    · rw [z]
      exact A.req.jo k hk
  · rw [nr] at hk
    rw [l3]
    rcases cases_ k hk with ⟨_, z⟩ | ⟨ne, z⟩
    · rw [z]
      exact A.req.dl r hr
    · rw [z]
      exact A.req.dl k hk
  · rw [l1] at hj
    rw [l3]
    by_cases q : j = i
    · subst q
      rw [lx.1]
      rcases lx.2.1 with z | z
      · rw [z] at h
        exact A.wake j hi h
      · omega
    · rw [l4 j q] at h ⊢
      exact A.wake j hj h
theorem phi_left {r st : Nat} (hr : r < s.requests.length) (h0 : (reqAt s r).status = none) (hi : i < s.executions.length) : phi (left s r st i) < phi s := by
  obtain ⟨l1, l2, l3, l4⟩ := left_state (s := s) (i := i) (r := r) (st := st)
  have lx := left_exe (s := s) (r := r) (st := st) hi
  have rq : ∀ k, reqAt (left s r st i) k = reqAt (endReq s r st) k := fun k => by unfold reqAt; rw [l2]
  have nr : (left s r st i).requests.length = s.requests.length := by rw [l2]; exact (stay_setR s r _).nr
  unfold phi
  rw [nr, l1]
  have w0 : openW (reqAt (left s r st i) r) = 0 := by rw [rq, endReq_at hr]; rfl
  have w1 : openW (reqAt s r) = 1 := if_pos h0
  have a := sumTo_lt (n := s.requests.length) (k := r) (f := fun k => openW (reqAt (left s r st i) k)) (h := fun k => openW (reqAt s k)) (fun k hk => by
    by_cases z : k = r
    · show openW (reqAt (left s r st i) k) ≤ openW (reqAt s k)
      rw [z, w0]
      exact Nat.zero_le _
    · show openW (reqAt (left s r st i) k) ≤ _
      rw [rq, show reqAt (endReq s r st) k = reqAt s k from reqAt_setOff z]
      exact Nat.le_refl _) hr (by show openW (reqAt (left s r st i) r) < openW (reqAt s r); omega)
  have b := sumTo_le (n := s.executions.length) (f := fun j => exeW (exeAt (left s r st i) j)) (h := fun j => exeW (exeAt s j)) fun j hj => by
    by_cases z : j = i
    · show exeW (exeAt (left s r st i) j) ≤ exeW (exeAt s j)
      rw [z]
      exact lx.2.2
    · show exeW (exeAt (left s r st i) j) ≤ _
      rw [l4 j z]
      exact Nat.le_refl _
  omega
theorem leave_aok {r st : Nat} (A : Aok s) (hr : r < s.requests.length) (he : (reqAt s r).execution = some i) (hi : i < s.executions.length) : Aok (KM.leave s r st i) := (fill_ok _ _ (left_aok A hr he hi)).1
theorem phi_leave {r st : Nat} (A : Aok s) (hr : r < s.requests.length) (he : (reqAt s r).execution = some i) (h0 : (reqAt s r).status = none) (hi : i < s.executions.length) : phi (KM.leave s r st i) < phi s :=
  Nat.lt_of_le_of_lt (fill_ok _ _ (left_aok A hr he hi)).2 (phi_left hr h0 hi)
end
end Kc
/-! calls that add: the promises -/
namespace KM
def newCli (s : Srv) (l : List Nat) : Cli := ⟨l.getD 0 0, l.getD 1 0, l.getD 2 0, l.getD 3 0, l.getD 2 0 * 1000, s.now⟩
def opAddClient (s : Srv) (l : List Nat) : Srv × List Int :=
  if (decide (65535 < l.getD 0 0) || (decide (15 < l.getD 1 0) || (decide (1000 < l.getD 2 0) || decide (1000 < l.getD 3 0)))) = true then (s, [-22])
  else if s.clients.length = 8 then (s, [-28])
  else ({ s with clients := s.clients ++ [newCli s l] }, [(s.clients.length : Int)])
def newMeth (l : List Nat) : Meth := ⟨l.getD 0 0, l.getD 1 0, l.drop 2⟩
def opAddMethod (s : Srv) (l : List Nat) : Srv × List Int :=
  if (!isProg (l.drop 2) s.methods.length || (decide (100 < l.getD 0 0) || decide (15 < l.getD 1 0))) = true then (s, [-22])
  else if s.methods.length = 6 then (s, [-28])
  else ({ s with methods := s.methods ++ [newMeth l] }, [(s.methods.length : Int)])
def opCancel (s : Srv) (l : List Nat) : Srv × List Int :=
  if s.requests.length ≤ l.getD 0 0 then (s, [-2])
  else if (reqAt s (l.getD 0 0)).status ≠ none then (s, [-16])
  else (leave s (l.getD 0 0) 1 ((reqAt s (l.getD 0 0)).execution.getD 0), [0])
def isLimit (n : Nat) : Bool := decide (1 ≤ n) && decide (n ≤ 8)
def badCreate (l : List Nat) : Bool := !isLimit (l.getD 0 0) || (decide (16 < l.getD 1 0) || (decide (2 < l.getD 2 0) || (decide (1 < l.getD 3 0) || decide (100000 < l.getD 4 0))))
end KM
namespace Kc
open PySem PySem.Spec PyProof.Rows L2 KM Evl
section
variable {K : PySem.W.Frag} {mg : Str → Option Value} {T : Cls7} {B : Blt} {σ : L2.St} {H : Hp} {ta tb tc te : TE} {D : Ends} {s : Srv} {L : Loc} {i : Nat}
theorem getD_at {l : List Nat} {k : Nat} (h : k < l.length) : (intL l)[k]? = some (.int ((l.getD k 0 : Nat) : Int)) := intL_get (by rw [List.getD_eq_getElem?_getD, List.getElem?_eq_getElem h]; rfl)
theorem four {l : List Nat} (h : l.length = 4) : l = [l.getD 0 0, l.getD 1 0, l.getD 2 0, l.getD 3 0] := by
  match l, h with
  | [a, b, c, d], _ => rfl
theorem five {l : List Nat} (h : l.length = 5) : l = [l.getD 0 0, l.getD 1 0, l.getD 2 0, l.getD 3 0, l.getD 4 0] := by
  match l, h with
  | [a, b, c, d, e], _ => rfl
theorem gt_nat (a : Nat) (b : Nat) : decide ((b : Int) < (a : Int)) = decide (b < a) := nat_lt b a
def okC (s : Srv) (l : List Nat) : Prop := l.length = 4 ∧ s.clients.length ≤ 1000
theorem rd_add_client (X : Txt K mg T B) (vs : List V) (H : Hp) (Q : VK) (E : XK) (h : spOp T okC opAddClient vs H Q E) : t_add_client K T (spClient T) { nx := fun _ H' => Q .non H', rt := Q } (start N_add_client vs) H := by
  obtain ⟨s, L, q, l, rfl, R, lo, ⟨hl, hn⟩, k⟩ := h
  have e4 := four hl
  unfold opAddClient newCli at k
  have hq := lo.lst
  generalize l.getD 0 0 = a0 at e4 k
  generalize l.getD 1 0 = a1 at e4 k
  generalize l.getD 2 0 = a2 at e4 k
  generalize l.getD 3 0 = a3 at e4 k
  subst e4
  refine ⟨.ref q, rfl, q, intL [a0, a1, a2, a3], rfl, sq_of hq, rfl, _, _, rfl, _, _, rfl, _, _, rfl, _, _, rfl, rfl, ?_⟩
  change tSeq _ _ _ [some (.ref (L.at_ .srv)), some (.ref q), some (.int (a0 : Int)), some (.int (a1 : Int)), some (.int (a2 : Int)), some (.int (a3 : Int))] H
  refine q_when (b := decide (65535 < a0) || (decide (15 < a1) || (decide (1000 < a2) || decide (1000 < a3)))) (et_or (et_is (et_test (ev_op (ev_var (v := .int (a0 : Int)) rfl) (ev_c (v := .int ((65535 : Nat) : Int))) rv_I0)) (gt_nat _ _)) fun _ =>
    et_or (et_is (et_test (ev_op (ev_var (v := .int (a1 : Int)) rfl) (ev_c (v := .int ((15 : Nat) : Int))) rv_I0)) (gt_nat _ _)) fun _ => et_or (et_is (et_test (ev_op (ev_var (v := .int (a2 : Int)) rfl) (ev_c (v := .int ((1000 : Nat) : Int))) rv_I0)) (gt_nat _ _)) fun _ =>
    et_is (et_test (ev_op (ev_var (v := .int (a3 : Int)) rfl) (ev_c (v := .int ((1000 : Nat) : Int))) rv_I0)) (gt_nat _ _)) (fun hb H1 e1 => ?_) fun hb H1 e1 => ?_
  · rw [if_pos hb] at k
    exact s_retGo (Go.ex R e1) (el_lst (ea_cons (ev_c (v := .int (-22))) ea_nil) (by show 1 ≤ 100000; decide)) fun H' p G nw hp => k L H' p G nw hp
  · rw [if_neg (by rw [hb]; decide)] at k
    have R1 := R.ex e1
    refine q_when (b := s.clients.length == 8) (et_is (et_test (ev_op (ev_len (evS_clients X R1 (ev_var rfl)) (sq_of (R1.at_ .clis _ rfl))) (ev_c (v := .int ((8 : Nat) : Int))) (rv_eq rfl))) (by rw [refs_len]; exact nat_eq _ _)) (fun hb H2 e2 => ?_) fun hb H2 e2 => ?_
    · rw [if_pos (eq_of_beq hb)] at k
      exact s_retGo (Go.ex R (e1.trans e2)) (el_lst (ea_cons (ev_c (v := .int (-28))) ea_nil) (by show 1 ≤ 100000; decide)) fun H' p G nw hp => k L H' p G nw hp
    · rw [if_neg (fun z => by rw [z] at hb; cases hb)] at k
      have R2 := R1.ex e2
      refine s_appI (D := { nx := _, ct := _, bk := _, rt := Q }) (R2.at_ .clis _ rfl) (evS_clients X R2 (ev_var rfl)) (ei_Client (ea_cons (ev_var rfl) (ea_cons (ev_var rfl) (ea_cons (ev_var (v := .int (a2 : Int)) rfl) (ea_cons (ev_var rfl) (ea_cons (evS_now X R2 (ev_var rfl)) ea_nil)))))) (by rw [refs_len]; omega) fun p d H3 hp e3 h3 => ?_
      have GG := Go.addCli R2 e3 (r := ⟨a0, a1, a2, a3, a2 * 1000, s.now⟩) hp h3
      have G := (Go.ex R (e1.trans e2)).trans GG
      have R4 := GG.rep
      rw [← GG.srvAt]
      refine s_retGo G (xs := [.int (s.clients.length : Int)]) (el_lst (ea_cons (ev_is (ev_op (ev_len (evS_clients X R4 (ev_var rfl)) (sq_of (R4.at_ .clis _ rfl))) (ev_c (v := .int 1)) rv_I0) (congrArg V.int (by
        rw [refs_len]
        show ((s.clients ++ [_]).length : Int) - 1 = _
        rw [List.length_append]
        show ((s.clients.length + 1 : Nat) : Int) - 1 = _
        omega))) ea_nil) (by show 1 ≤ 100000; decide)) fun H' p' G nw hp' => k _ H' p' G nw hp'
/-! add_method -/
def okM (s : Srv) (l : List Nat) : Prop := 2 ≤ l.length ∧ l.length ≤ 1000 ∧ Hok s ∧ s.methods.length ≤ 1000
theorem rd_add_method (X : Txt K mg T B) (vs : List V) (H : Hp) (Q : VK) (E : XK) (h : spOp T okM opAddMethod vs H Q E) : t_add_method K T (spMethod T) (spProg K) { nx := fun _ H' => Q .non H', rt := Q } (start N_add_method vs) H := by
  obtain ⟨s, L, q, l, rfl, R, lo, ⟨hl, hz, O, hn⟩, k⟩ := h
  have hq := lo.lst
  have s1 : EvL (tSl (rSlL K) (tVar 1) tNoPart (tPart (tC (.int 2)))) (start N_add_method [.ref (L.at_ .srv), .ref q]) H (intL [l.getD 0 0, l.getD 1 0]) := by
    have e0 : cutV (intL l) none (some ((2 : Nat) : Int)) = intL [l.getD 0 0, l.getD 1 0] := by
      rw [cut_to _ _ (by rw [intL_len]; exact hl), intL_take]
      match l, hl with
      | a :: b :: r, _ => rfl
    rw [← e0]
    exact el_sl (ev_var rfl) eo_none (eo_some ev_c) (sq_of hq)
  refine s1 H (Ex.refl H) _ fun p1 H1 hp1 e1 h1 => ⟨p1, _, rfl, sq_of h1, rfl, _, _, rfl, _, _, rfl, rfl, ?_⟩
  change tSeq _ _ _ [some (.ref (L.at_ .srv)), some (.ref q), some (.int ((l.getD 0 0 : Nat) : Int)), some (.int ((l.getD 1 0 : Nat) : Int)), none] H1
  have R1 := R.ex e1
  have e0 : cutV (intL l) (some ((2 : Nat) : Int)) none = intL (l.drop 2) := by rw [cut_from _ _ (by rw [intL_len]; exact hl), intL_drop]
  have s2 : EvL (tSl (rSlL K) (tVar 1) (tPart (tC (.int 2))) tNoPart) [some (.ref (L.at_ .srv)), some (.ref q), some (.int ((l.getD 0 0 : Nat) : Int)), some (.int ((l.getD 1 0 : Nat) : Int)), none] H1 (intL (l.drop 2)) := by
    rw [← e0]
    exact el_sl (ev_var rfl) (eo_some ev_c) eo_none (sq_of (e1 _ _ hq))
  refine q_asgL s2 fun pg H2 hpg e2 h2 => ?_
  have R2 := R1.ex e2
  have mlen : ∀ H3, Ex H2 H3 → Ev (tCB (Evl.rLenS K) (tCons (tFld K (tVar 0) "methods") tNil)) [some (.ref (L.at_ .srv)), some (.ref q), some (.int ((l.getD 0 0 : Nat) : Int)), some (.int ((l.getD 1 0 : Nat) : Int)), some (.ref pg)] H3 (.int (s.methods.length : Int)) := fun H3 e3 =>
    ev_is (ev_len (evS_methods X (R2.ex e3) (ev_var rfl)) (sq_of ((R2.ex e3).at_ .meths _ rfl))) (by rw [refs_len])
  unfold opAddMethod at k
  refine q_when (b := !isProg (l.drop 2) s.methods.length || (decide (100 < l.getD 0 0) || decide (15 < l.getD 1 0))) (et_or (et_not (et_B (ev_call (ea_cons (ev_var rfl) (ea_cons (mlen H2 (Ex.refl H2)) ea_nil)) (spv_prog (sq_of h2) (by rw [List.length_drop]; omega))))) fun _ =>
    et_or (et_is (et_test (ev_op (ev_var (v := .int ((l.getD 0 0 : Nat) : Int)) rfl) (ev_c (v := .int ((100 : Nat) : Int))) rv_I0)) (gt_nat _ _)) fun _ => et_is (et_test (ev_op (ev_var (v := .int ((l.getD 1 0 : Nat) : Int)) rfl) (ev_c (v := .int ((15 : Nat) : Int))) rv_I0)) (gt_nat _ _)) (fun hb H3 e3 => ?_) fun hb H3 e3 => ?_
  · rw [if_pos hb] at k
    exact s_retGo (Go.ex R ((e1.trans e2).trans e3)) (el_lst (ea_cons (ev_c (v := .int (-22))) ea_nil) (by show 1 ≤ 100000; decide)) fun H' p G nw hp => k L H' p G nw hp
  · rw [if_neg (by rw [hb]; decide)] at k
    have R3 := R2.ex e3
    refine q_when (b := s.methods.length == 6) (et_is (et_test (ev_op (mlen H3 e3) (ev_c (v := .int ((6 : Nat) : Int))) (rv_eq rfl))) (nat_eq _ _)) (fun hb H4 e4 => ?_) fun hb H4 e4 => ?_
    · rw [if_pos (eq_of_beq hb)] at k
      exact s_retGo (Go.ex R (((e1.trans e2).trans e3).trans e4)) (el_lst (ea_cons (ev_c (v := .int (-28))) ea_nil) (by show 1 ≤ 100000; decide)) fun H' p G nw hp => k L H' p G nw hp
    · rw [if_neg (fun z => by rw [z] at hb; cases hb)] at k
      have R4 := R3.ex e4
      have e04 := ((e1.trans e2).trans e3).trans e4
      refine s_appI (D := { nx := _, ct := _, bk := _, rt := Q }) (R4.at_ .meths _ rfl) (evS_methods X R4 (ev_var rfl)) (ei_Method (ea_cons (ev_var rfl) (ea_cons (ev_var rfl) (ea_cons (ev_var (v := .ref pg) rfl) ea_nil)))) (by rw [refs_len]; omega) fun p d H5 hp e5 h5 => ?_
      have hpg5 := e5 _ _ (e4 _ _ (e3 _ _ h2))
      have GG := Go.addMeth R (e04.trans e5) (r := newMeth l) (fun i x hx f hf => (O.ex i x hx).1.fr.meth f hf) (fresh_back e04 hp) (fresh_back e1 hpg) (fun z => by rw [z, e4 _ _ (e3 _ _ h2)] at hp; cases hp) h5 hpg5
      have R6 := GG.rep
      rw [← GG.srvAt]
      refine s_retGo GG (xs := [.int (s.methods.length : Int)]) (el_lst (ea_cons (ev_is (ev_op (ev_len (evS_methods X R6 (ev_var rfl)) (sq_of (R6.at_ .meths _ rfl))) (ev_c (v := .int 1)) rv_I0) (congrArg V.int (by
        rw [refs_len]
        show ((s.methods ++ [_]).length : Int) - 1 = _
        rw [List.length_append]
        show ((s.methods.length + 1 : Nat) : Int) - 1 = _
        omega))) ea_nil) (by show 1 ≤ 100000; decide)) fun H' p' G nw hp' => k _ H' p' G nw hp'
/-! cancel -/
def okX (s : Srv) (l : List Nat) : Prop := 0 < l.length ∧ Aok s
theorem rd_cancel (X : Txt K mg T B) (vs : List V) (H : Hp) (Q : VK) (E : XK) (h : spOp T okX opCancel vs H Q E) : t_cancel K T (spLeave T) { nx := fun _ H' => Q .non H', rt := Q } (start N_cancel vs) H := by
  obtain ⟨s, L, q, l, rfl, R, lo, ⟨hl, A⟩, k⟩ := h
  refine q_asg (ev_num0 (ev_var rfl) lo.lst hl) fun H1 e1 => ?_
  have R1 := R.ex e1
  unfold opCancel at k
  generalize l.getD 0 0 = n at k ⊢
  refine q_when (b := decide (s.requests.length ≤ n)) (et_is (et_test (ev_op (ev_var (v := .int (n : Int)) rfl) (ev_len (evS_requests X R1 (ev_var rfl)) (sq_of (R1.at_ .reqs _ rfl))) rv_I0)) (by rw [refs_len]; exact nat_le _ _)) (fun hb H2 e2 => ?_) fun hb H2 e2 => ?_
  · rw [if_pos (of_decide_eq_true hb)] at k
    exact s_retGo (Go.ex R (e1.trans e2)) (el_lst (ea_cons (ev_c (v := .int (-2))) ea_nil) (by show 1 ≤ 100000; decide)) fun H' p G nw hp => k L H' p G nw hp
  · have hn := of_decide_eq_false hb
    rw [if_neg hn] at k
    have hr : n < s.requests.length := by omega
    have R2 := R1.ex e2
    refine q_asg (v := .ref (L.at_ (.req n))) (ev_op (evS_requests X R2 (ev_var rfl)) (ev_var (v := .int (n : Int)) rfl) (rv_ixL (sq_of (R2.at_ .reqs _ rfl)) (atI_nat (refs_get hr)))) fun H3 e3 => ?_
    have R3 := R2.ex e3
    have h0 := req_some hr
    refine q_when (b := !((reqAt s n).status == none)) (et_is (et_test (ev_op (evR_status X R3 h0 (ev_var rfl)) ev_c rv_notN)) (by rw [opt_non])) (fun hb H4 e4 => ?_) fun hb H4 e4 => ?_
    · have hne : (reqAt s n).status ≠ none := fun z => by rw [z] at hb; cases hb
      rw [if_pos hne] at k
      exact s_retGo (Go.ex R (((e1.trans e2).trans e3).trans e4)) (el_lst (ea_cons (ev_c (v := .int (-16))) ea_nil) (by show 1 ≤ 100000; decide)) fun H' p G nw hp => k L H' p G nw hp
    · have heq : (reqAt s n).status = none := by simpa using hb
      rw [if_neg (fun z => z heq)] at k
      obtain ⟨i, k1, k2, k3⟩ := A.req.op n hr heq
      rw [k1] at k
      have R4 := R3.ex e4
      refine q_dropCall (ea_cons (ev_var rfl) (ea_cons (ev_var rfl) (ea_cons (ev_c (v := .int ((1 : Nat) : Int))) ea_nil))) fun H5 e5 => ?_
      refine ⟨s, L, n, 1, i, rfl, R4.ex e5, A.hok, A.wait, hr, k1, k2, fun L6 H6 g6 => ?_⟩
      have G6 := (Go.ex R ((((e1.trans e2).trans e3).trans e4).trans e5)).trans g6
      exact s_retGo G6 (el_lst (ea_cons (ev_c (v := .int 0)) ea_nil) (by show 1 ≤ 100000; decide)) fun H' p G nw hp => k L6 H' p G nw hp
/-! create -/
theorem s_retMake {C : Addr} {sp : Sp} {ta : TA} {vs : List V} {E : XK} (ha : EvA ta σ H vs) (k : ∀ H2 x dx, Ex H H2 → H2 x = none → H2 dx = none → dx ≠ x → sp (.ref x :: (vs ++ [])) (upd (upd H2 dx (.own x)) x (.ins C dx [])) (fun v H3 => v = .non ∧ D.rt (.ref x) H3) E) : tRet (tMake C sp [] E ta) D σ H :=
  ha H (Ex.refl H) _ fun H2 e x dx hx hd ne => k H2 x dx e hx hd ne
def spLimit : Sp := fun vs H Q _ => ∃ n : Nat, vs = [.int (n : Int)] ∧ RetV (.bl (isLimit n)) H Q
theorem rd_is_limit (X : Txt K mg T B) (vs : List V) (H : Hp) (Q : VK) (E : XK) (h : spLimit vs H Q E) : t_is_limit K T { nx := fun _ H' => Q .non H', rt := Q } (start N_is_limit vs) H := by
  obtain ⟨n, rfl, k⟩ := h
  refine s_ret (v := .bl (isLimit n)) ?_ fun H1 e => k H1 e
  exact ev_chain (ev_c (v := .int ((1 : Nat) : Int))) (ev_var rfl) (by rw [← nat_le]; exact rv_I0) (fun _ => ev_c (v := .int ((8 : Nat) : Int))) (fun _ => by rw [← nat_le]; exact rv_I0)
theorem spv_limit {n : Nat} : SpV spLimit ([.int (n : Int)] ++ []) H (.bl (isLimit n)) := fun H1 e Q q E => ⟨n, rfl, fun H2 e2 => q H2 e2⟩
def spCreate (K : PySem.W.Frag) (T : Cls7) : Sp := fun vs H Q _ => ∃ (q : Addr) (l : List Nat), vs = [.ref q] ∧ SqL K H q (intL l) ∧ l.length = 5 ∧ LamX.TabS H T.P lamQ ∧
  (badCreate l = true → RetV .non H Q) ∧ (badCreate l = false → ∀ L' H', Ex H H' → Rep T (srv0 (l.getD 0 0) (l.getD 1 0) (l.getD 2 0) (l.getD 3 0) (l.getD 4 0)) L' H' → (∀ r, (cont T (srv0 (l.getD 0 0) (l.getD 1 0) (l.getD 2 0) (l.getD 3 0) (l.getD 4 0)) L' r).isSome = true → H (L'.at_ r) = none) → Q (.ref (L'.at_ .srv)) H')
theorem rd_create (X : Txt K mg T B) (vs : List V) (H : Hp) (Q : VK) (E : XK) (h : spCreate K T vs H Q E) : t_create K T (spServer T) spLimit { nx := fun _ H' => Q .non H', rt := Q } (start N_create vs) H := by
  obtain ⟨q, l, rfl, hq, hl, tb, k1, k2⟩ := h
  have e5 := five hl
  unfold badCreate at k1 k2
  generalize l.getD 0 0 = a0 at e5 k1 k2
  generalize l.getD 1 0 = a1 at e5 k1 k2
  generalize l.getD 2 0 = a2 at e5 k1 k2
  generalize l.getD 3 0 = a3 at e5 k1 k2
  generalize l.getD 4 0 = a4 at e5 k1 k2
  subst e5
  refine ⟨.ref q, rfl, q, intL [a0, a1, a2, a3, a4], rfl, hq, rfl, _, _, rfl, _, _, rfl, _, _, rfl, _, _, rfl, _, _, rfl, rfl, ?_⟩
  change tSeq _ _ _ [some (.ref q), some (.int (a0 : Int)), some (.int (a1 : Int)), some (.int (a2 : Int)), some (.int (a3 : Int)), some (.int (a4 : Int))] H
  refine q_when (b := !isLimit a0 || (decide (16 < a1) || (decide (2 < a2) || (decide (1 < a3) || decide (100000 < a4))))) (et_or (et_not (et_B (ev_call (ea_cons (ev_var rfl) ea_nil) spv_limit))) fun _ =>
    et_or (et_is (et_test (ev_op (ev_var (v := .int (a1 : Int)) rfl) (ev_c (v := .int ((16 : Nat) : Int))) rv_I0)) (gt_nat _ _)) fun _ =>
    et_or (et_is (et_test (ev_op (ev_var (v := .int (a2 : Int)) rfl) (ev_c (v := .int ((2 : Nat) : Int))) rv_I0)) (gt_nat _ _)) fun _ => et_or (et_is (et_test (ev_op (ev_var (v := .int (a3 : Int)) rfl) (ev_c (v := .int ((1 : Nat) : Int))) rv_I0)) (gt_nat _ _)) fun _ =>
    et_is (et_test (ev_op (ev_var (v := .int (a4 : Int)) rfl) (ev_c (v := .int ((100000 : Nat) : Int))) rv_I0)) (gt_nat _ _)) (fun hb H1 e1 => ?_) fun hb H1 e1 => ?_
  · exact s_ret ev_c fun H2 e2 => k1 hb H2 (e1.trans e2)
  · have kk := k2 hb
    have ha : EvA (tCons (tVar 1) (tCons (tVar 2) (tCons (tVar 3) (tCons (tVar 4) (tCons (tVar 5) tNil))))) [some (.ref q), some (.int (a0 : Int)), some (.int (a1 : Int)), some (.int (a2 : Int)), some (.int (a3 : Int)), some (.int (a4 : Int))] H1 [.int (a0 : Int), .int (a1 : Int), .int (a2 : Int), .int (a3 : Int), .int (a4 : Int)] :=
      ea_cons (ev_var rfl) (ea_cons (ev_var rfl) (ea_cons (ev_var rfl) (ea_cons (ev_var rfl) (ea_cons (ev_var rfl) ea_nil))))
    refine s_retMake ha fun H2 x dx e2 hx hd ne => ?_
    refine ⟨x, dx, a0, a1, a2, a3, a4, rfl, upd_same, fun H3 L l1 l2 fr o3 hat hinj => ⟨rfl, ?_⟩⟩
    have e03 : Ex H H3 := (e1.trans e2).trans (made_ex hx hd o3)
    have := kk L H3 e03 ⟨hat, hinj, tb.ext e03⟩ fun r hr => by
      by_cases z : r = .srv
      · rw [z, l1]
        exact fresh_back (e1.trans e2) hx
      · have f0 := fr r hr z
        have n1 : L.at_ r ≠ x := fun w => by rw [w, upd_same] at f0; cases f0
        rw [upd_ne n1] at f0
        have n2 : L.at_ r ≠ dx := fun w => by rw [w, upd_same] at f0; cases f0
        rw [upd_ne n2] at f0
        exact fresh_back (e1.trans e2) f0
    rw [l1] at this
    exact this
end
end Kc
/-! arrival: the promises -/
namespace KM
def turnAway (s : Srv) (r st d : Nat) : Srv := setR (endReq s r st) r { reqAt s r with status := some st, finishedAt := s.now, retryDelay := d }
def quotaDelay (c : Cli) (quota price : Nat) : Nat := if (c.refill == 0 || decide (c.capacity * 1000 < price)) = true then 0 else (price - quota + c.refill - 1) / c.refill
def isFull (s : Srv) : Bool := !freeSlot s && decide (s.queueLimit ≤ (inState s 0).length)
/-- the status that points 1 to 4 give a request -/
def stranger (s : Srv) (a : AskV) : Option Nat :=
  if (!(s.graceEnd == none)) = true then some 100
  else if (!((cliAt s a.client).token == a.token)) = true then some 16
  else if s.methods.length ≤ a.method then some 12
  else if (!((cliAt s a.client).roles &&& (methAt s a.method).roles == (methAt s a.method).roles)) = true then some 7
  else none
/-- point 5 -/
def joinReq (s : Srv) (r j : Nat) (a : AskV) : Srv :=
  if (!((exeAt s j).method == a.method) || !((exeAt s j).payload == a.payload)) = true then endReq s r 3
  else if (exeAt s j).state = 2 then endReq (setR s r { reqAt s r with execution := some j, joined := 1 }) r (exeAt s j).status
  else setR s r { reqAt s r with execution := some j, joined := 1 }
/-- the errors of a request -/
def reqError (s : Srv) (a : AskV) : Option Int :=
  if s.clients.length ≤ a.client then some (-2)
  else if (decide (a.timeout < 1) || decide (100000 < a.timeout)) = true then some (-22)
  else if (decide (8 < a.payload.length) || decide (1000 < a.payload.foldl max 0)) = true then some (-22)
  else if s.requests.length = 60 then some (-28)
  else none
end KM
namespace Kc
open PySem PySem.Spec PyProof.Rows L2 KM Evl
section
variable {K : PySem.W.Frag} {mg : Str → Option Value} {T : Cls7} {B : Blt} {σ : L2.St} {H : Hp} {ta tb tc te : TE} {D : Ends} {s : Srv} {L : Loc} {i : Nat}
theorem band_nat (a b : Nat) : Builtin.bitAnd (a : Int) (b : Int) = ((a &&& b : Nat) : Int) := by
  have h1 : decide ((0 : Int) ≤ (a : Int)) = true := decide_eq_true (by omega)
  have h2 : decide ((0 : Int) ≤ (b : Int)) = true := decide_eq_true (by omega)
  unfold Builtin.bitAnd
  first
    | rw [h1, h2]; rfl
    | simp
/-! turn_away -/
def spTurn (T : Cls7) : Sp := fun vs H Q _ => ∃ (s : Srv) (L : Loc) (r st d : Nat), vs = [.ref (L.at_ .srv), .ref (L.at_ (.req r)), .int (st : Int), .int (d : Int)] ∧ Rep T s L H ∧ r < s.requests.length ∧ ∀ H', Go T s L H (turnAway s r st d) L H' → Q .non H'
theorem rd_turn_away (X : Txt K mg T B) (vs : List V) (H : Hp) (Q : VK) (E : XK) (h : spTurn T vs H Q E) : t_turn_away K T (spEndReq T) { nx := fun _ H' => Q .non H', rt := Q } (start N_turn_away vs) H := by
  obtain ⟨s, L, r, st, d, rfl, R, hr, k⟩ := h
  refine q_dropCall (ea_cons (ev_var rfl) (ea_cons (ev_var rfl) (ea_cons (ev_var (v := .int (st : Int)) rfl) ea_nil))) fun H1 e1 => ?_
  refine ⟨s, L, r, st, rfl, R.ex e1, hr, fun H2 g2 => ?_⟩
  have G2 := (Go.ex R e1).trans g2
  have h2 : (endReq s r st).requests[r]? = some { reqAt s r with status := some st, finishedAt := s.now } := setOn hr
  refine wR_retry_delay X G2.rep h2 (ev_var (v := .int (d : Int)) rfl) (ev_var rfl) fun H3 g3 => ?_
  exact k H3 (G2.trans g3)
/-! quota_delay -/
def spDelay (T : Cls7) : Sp := fun vs H Q _ => ∃ (s : Srv) (L : Loc) (i quota price : Nat), vs = [.ref (L.at_ (.cli i)), .int (quota : Int), .int (price : Int)] ∧ Rep T s L H ∧ i < s.clients.length ∧ (cliAt s i).refill ≤ 1000 ∧ quota < price ∧ RetV (.int ((quotaDelay (cliAt s i) quota price : Nat) : Int)) H Q
theorem rd_quota_delay (X : Txt K mg T B) (vs : List V) (H : Hp) (Q : VK) (E : XK) (h : spDelay T vs H Q E) : t_quota_delay K T { nx := fun _ H' => Q .non H', rt := Q } (start N_quota_delay vs) H := by
  obtain ⟨s, L, i, quota, price, rfl, R, hi, hrf, hq, k⟩ := h
  have hc := cli_some hi
  unfold quotaDelay at k
  refine q_when (b := (cliAt s i).refill == 0 || decide ((cliAt s i).capacity * 1000 < price)) (et_or (et_is (et_test (ev_op (evC_refill X R hc (ev_var rfl)) (ev_c (v := .int ((0 : Nat) : Int))) (rv_eq rfl))) (nat_eq _ _)) fun _ =>
    et_is (et_test (ev_op (ev_var (v := .int (price : Int)) rfl) (ev_op (evC_capacity X R hc (ev_var rfl)) (ev_c (v := .int 1000)) (rv_I (.inr ⟨by omega, by omega⟩))) rv_I0)) (by
      have e : ((cliAt s i).capacity : Int) * 1000 = (((cliAt s i).capacity * 1000 : Nat) : Int) := by rw [Int.natCast_mul]; rfl
      rw [e]
      exact nat_lt _ _)) (fun hb H1 e1 => ?_) fun hb H1 e1 => ?_
  · rw [if_pos hb] at k
    exact s_ret (v := .int 0) ev_c fun H2 e2 => k H2 (e1.trans e2)
  · rw [if_neg (by rw [hb]; decide)] at k
    have R1 := R.ex e1
    have h0 : (cliAt s i).refill ≠ 0 := fun z => by rw [z] at hb; cases hb
    refine s_ret (v := .int (((price - quota + (cliAt s i).refill - 1) / (cliAt s i).refill : Nat) : Int)) (ev_is (ev_op (ev_op (ev_op (ev_op (ev_var (v := .int (price : Int)) rfl) (ev_var (v := .int (quota : Int)) rfl) rv_I0) (evC_refill X R1 hc (ev_var rfl)) rv_I0) (ev_c (v := .int 1)) rv_I0) (evC_refill X R1 hc (ev_var rfl)) (rv_I ⟨by omega, by omega⟩)) (congrArg V.int ?_)) fun H2 e2 => k H2 (e1.trans e2)
    have e : (price : Int) - (quota : Int) + ((cliAt s i).refill : Int) - 1 = ((price - quota + (cliAt s i).refill - 1 : Nat) : Int) := by omega
    rw [e, Int.natCast_ediv]
/-! is_full -/
def spFull (T : Cls7) : Sp := fun vs H Q _ => ∃ (s : Srv) (L : Loc), vs = [.ref (L.at_ .srv)] ∧ Rep T s L H ∧ s.executions.length ≤ 1000 ∧ RetV (.bl (isFull s)) H Q
theorem rd_is_full (X : Txt K mg T B) (vs : List V) (H : Hp) (Q : VK) (E : XK) (h : spFull T vs H Q E) : t_is_full K T (spFree T) (spInState T) { nx := fun _ H' => Q .non H', rt := Q } (start N_is_full vs) H := by
  obtain ⟨s, L, rfl, R, hn, k⟩ := h
  refine s_ret (v := .bl (isFull s)) (ev_andV (ev_notV (ev_call (ea_cons (ev_var rfl) ea_nil) (spv_free R hn))) fun _ => ev_is (ev_op (ev_lenN (el_call (ea_cons (ev_var rfl) (ea_cons (ev_c (v := .int ((0 : Nat) : Int))) ea_nil)) (spl_in_state R hn))) (evS_queue_limit X R (ev_var rfl)) rv_I0) ?_) fun H1 e => k H1 e
  unfold exeRefs
  rw [List.length_map]
  exact congrArg V.bl (nat_le _ _)
theorem spv_full {s : Srv} {L : Loc} {H : Hp} (R : Rep T s L H) (hn : s.executions.length ≤ 1000) : SpV (spFull T) ([.ref (L.at_ .srv)] ++ []) H (.bl (isFull s)) := fun H1 e Q q E => ⟨s, L, rfl, R.ex e, hn, fun H2 e2 => q H2 e2⟩
/-! status_of_stranger -/
def spStranger (T : Cls7) : Sp := fun vs H Q _ => ∃ (s : Srv) (L : Loc) (x p : Addr) (a : AskV), vs = [.ref (L.at_ .srv), .ref x] ∧ Rep T s L H ∧ AskAt T H x p a ∧ a.client < s.clients.length ∧ RetV (opt (stranger s a)) H Q
theorem rd_status_of_stranger (X : Txt K mg T B) (vs : List V) (H : Hp) (Q : VK) (E : XK) (h : spStranger T vs H Q E) : t_status_of_stranger K T { nx := fun _ H' => Q .non H', rt := Q } (start N_status_of_stranger vs) H := by
  obtain ⟨s, L, x, p, a, rfl, R, A, hc, k⟩ := h
  have h0 := cli_some hc
  unfold stranger at k
  refine q_asg (v := .ref (L.at_ (.cli a.client))) (ev_op (evS_clients X R (ev_var rfl)) (evA_client X A (ev_var rfl)) (rv_ixL (sq_of (R.at_ .clis _ rfl)) (atI_nat (refs_get hc)))) fun H1 e1 => ?_
  have R1 := R.ex e1
  have A1 := A.ex e1
  refine q_when (b := !(s.graceEnd == none)) (et_is (et_test (ev_op (evS_grace_end X R1 (ev_var rfl)) ev_c rv_notN)) (by rw [opt_non])) (fun hb H2 e2 => ?_) fun hb H2 e2 => ?_
  · rw [if_pos hb] at k
    exact s_ret (v := .int 100) ev_c fun H3 e3 => k H3 ((e1.trans e2).trans e3)
  · rw [if_neg (by rw [hb]; decide)] at k
    have R2 := R1.ex e2
    have A2 := A1.ex e2
    refine q_when (b := !((cliAt s a.client).token == a.token)) (et_is (et_test (ev_op (evC_token X R2 h0 (ev_var rfl)) (evA_token X A2 (ev_var rfl)) (rv_ne rfl))) (by rw [nat_eq])) (fun hb H3 e3 => ?_) fun hb H3 e3 => ?_
    · rw [if_pos hb] at k
      exact s_ret (v := .int 16) ev_c fun H4 e4 => k H4 (((e1.trans e2).trans e3).trans e4)
    · rw [if_neg (by rw [hb]; decide)] at k
      have R3 := R2.ex e3
      have A3 := A2.ex e3
      refine q_when (b := decide (s.methods.length ≤ a.method)) (et_is (et_test (ev_op (evA_method X A3 (ev_var rfl)) (ev_len (evS_methods X R3 (ev_var rfl)) (sq_of (R3.at_ .meths _ rfl))) rv_I0)) (by rw [refs_len]; exact nat_le _ _)) (fun hb H4 e4 => ?_) fun hb H4 e4 => ?_
      · rw [if_pos (of_decide_eq_true hb)] at k
        exact s_ret (v := .int 12) ev_c fun H5 e5 => k H5 ((((e1.trans e2).trans e3).trans e4).trans e5)
      · have hm0 := of_decide_eq_false hb
        rw [if_neg hm0] at k
        have hm : a.method < s.methods.length := by omega
        have R4 := R3.ex e4
        have A4 := A3.ex e4
        refine q_asg (v := .int ((methAt s a.method).roles : Int)) (evM_roles X R4 (i := a.method) (meth_some hm) (ev_op (evS_methods X R4 (ev_var rfl)) (evA_method X A4 (ev_var rfl)) (rv_ixL (sq_of (R4.at_ .meths _ rfl)) (atI_nat (refs_get hm))))) fun H5 e5 => ?_
        have R5 := R4.ex e5
        refine q_when (b := !((cliAt s a.client).roles &&& (methAt s a.method).roles == (methAt s a.method).roles)) (et_is (et_test (ev_op (ev_is (ev_op (evC_roles X R5 h0 (ev_var rfl)) (ev_var (v := .int ((methAt s a.method).roles : Int)) rfl) rv_I0) (w := .int (((cliAt s a.client).roles &&& (methAt s a.method).roles : Nat) : Int)) (congrArg V.int (band_nat _ _))) (ev_var (v := .int ((methAt s a.method).roles : Int)) rfl) (rv_ne rfl))) (by rw [nat_eq])) (fun hb H6 e6 => ?_) fun hb H6 e6 => ?_
        · rw [if_pos hb] at k
          exact s_ret (v := .int 7) ev_c fun H7 e7 => k H7 ((((((e1.trans e2).trans e3).trans e4).trans e5).trans e6).trans e7)
        · rw [if_neg (by rw [hb]; decide)] at k
          exact s_ret (v := .non) ev_c fun H7 e7 => k H7 ((((((e1.trans e2).trans e3).trans e4).trans e5).trans e6).trans e7)
theorem spv_stranger {x p : Addr} {a : AskV} (R : Rep T s L H) (A : AskAt T H x p a) (hc : a.client < s.clients.length) : SpV (spStranger T) ([.ref (L.at_ .srv), .ref x] ++ []) H (opt (stranger s a)) := fun H1 e Q q E => ⟨s, L, x, p, a, rfl, R.ex e, A.ex e, hc, fun H2 e2 => q H2 e2⟩
/-! join -/
def datL (l : List Nat) : List PyData := l.map fun (n : Nat) => PyData.int (n : Int)
theorem eqv_nats : ∀ (l m : List Nat), PyData.eqvAll (datL l) (datL m) = (l == m)
  | [], [] => rfl
  | [], _ :: _ => rfl
  | _ :: _, [] => rfl
  | a :: l, b :: m => by
    show (PyData.eqv (.int (a : Int)) (.int (b : Int)) && PyData.eqvAll (datL l) (datL m)) = _
    rw [eqv_nats l m]
    have h : PyData.eqv (.int (a : Int)) (.int (b : Int)) = (a == b) := by
      show ((a : Int) == (b : Int)) = (a == b)
      by_cases z : a = b
      · rw [z, beq_self_eq_true, beq_self_eq_true]
      · rw [beq_eq_false_iff_ne.mpr z, beq_eq_false_iff_ne.mpr (by omega)]
    rw [h]
    rfl
theorem dp_nats {K : PySem.W.Frag} {H : Hp} : ∀ l : List Nat, DpAll K H (intL l) (datL l)
  | [] => .nil
  | _ :: l => .cons (.int _) (dp_nats l)
theorem lay_nats : ∀ l : List Nat, PyData.canLayAll0 (datL l) = true
  | [] => rfl
  | _ :: l => by
    show (true && PyData.canLayAll0 (datL l)) = true
    rw [lay_nats l]
    rfl
theorem depth_nats : ∀ l : List Nat, PyData.depthAll (datL l) ≤ 1
  | [] => Nat.zero_le _
  | a :: l => by
    show max (PyData.depth (.int (a : Int))) (PyData.depthAll (datL l)) ≤ 1
    have h1 := depth_nats l
    have h2 : PyData.depth (.int (a : Int)) ≤ 1 := by
      first | exact Nat.le_refl _ | exact Nat.zero_le _
    exact Nat.max_le.mpr ⟨h2, h1⟩
theorem shaped_nats (l : List Nat) : SeqAt.shaped (.list (datL l)) = true := by
  unfold SeqAt.shaped
  rw [Bool.and_eq_true]
  refine ⟨lay_nats l, decide_eq_true ?_⟩
  show PyData.depthAll (datL l) + 1 ≤ 64
  have := depth_nats l
  omega
theorem rv_neL {p q : Addr} {l m : List Nat} (h1 : H p = some (.lst (intL l))) (h2 : H q = some (.lst (intL m))) : RV (rNeD K) (.ref p) (.ref q) H (.bl (!(l == m))) := fun H1 e Q k =>
  ⟨.list (datL l), .list (datL m), .lst (sq_of (e _ _ h1)) (dp_nats l), .lst (sq_of (e _ _ h2)) (dp_nats m), shaped_nats l, shaped_nats m, by
    have z : PyData.eqv (.list (datL l)) (.list (datL m)) = (l == m) := eqv_nats l m
    rw [z]
    exact k H1 (Ex.refl H1)⟩
def spJoin (T : Cls7) : Sp := fun vs H Q _ => ∃ (s : Srv) (L : Loc) (r j : Nat) (x p : Addr) (a : AskV), vs = [.ref (L.at_ .srv), .ref (L.at_ (.req r)), .ref x, .ref (L.at_ (.exe j))] ∧ Rep T s L H ∧ AskAt T H x p a ∧ r < s.requests.length ∧ j < s.executions.length ∧ ∀ H', Go T s L H (joinReq s r j a) L H' → Q .non H'
theorem rd_join (X : Txt K mg T B) (vs : List V) (H : Hp) (Q : VK) (E : XK) (h : spJoin T vs H Q E) : t_join K T (spEndReq T) { nx := fun _ H' => Q .non H', rt := Q } (start N_join vs) H := by
  obtain ⟨s, L, r, j, x, p, a, rfl, R, A, hr, hj, k⟩ := h
  have hx := exe_some hj
  have h0 := req_some hr
  unfold joinReq at k
  refine q_when (b := !((exeAt s j).method == a.method) || !((exeAt s j).payload == a.payload)) (et_or (et_is (et_test (ev_op (evE_method X R hx (ev_var rfl)) (evA_method X A (ev_var rfl)) (rv_ne rfl))) (by rw [nat_eq])) fun _ =>
    et_test (ev_op (evE_payload X R hx (ev_var rfl)) (evA_payload X A (ev_var rfl)) (rv_neL (R.pay hx) A.pay))) (fun hb H1 e1 => ?_) fun hb H1 e1 => ?_
  · rw [if_pos hb] at k
    refine q_dropCall (ea_cons (ev_var rfl) (ea_cons (ev_var rfl) (ea_cons (ev_c (v := .int ((3 : Nat) : Int))) ea_nil))) fun H2 e2 => ?_
    exact ⟨s, L, r, 3, rfl, (R.ex e1).ex e2, hr, fun H3 g3 => k H3 ((Go.ex R (e1.trans e2)).trans g3)⟩
  · rw [if_neg (by rw [hb]; decide)] at k
    have R1 := R.ex e1
    refine wR_execution (D := { nx := _, ct := _, bk := _, rt := Q }) X R1 h0 (evE_number X R1 hx (ev_var rfl)) (ev_var rfl) fun H2 g2 => ?_
    have h2 : (setR s r { reqAt s r with execution := some j }).requests[r]? = some { reqAt s r with execution := some j } := set_at h0
    refine wR_joined (D := { nx := _, ct := _, bk := _, rt := Q }) X g2.rep h2 (x := 1) (ev_c (v := .int ((1 : Nat) : Int))) (ev_var rfl) fun H3 g3 => ?_
    rw [setR_set] at g3
    have G3 := ((Go.ex R e1).trans g2).trans g3
    have R3 := G3.rep
    refine s_when (et_is (et_test (ev_op (evE_state X R3 (e := exeAt s j) hx (ev_var rfl)) (ev_c (v := .int ((2 : Nat) : Int))) (rv_eq rfl))) (nat_eq _ _)) (fun hb H4 e4 => ?_) fun hb H4 e4 => ?_
    · rw [if_pos (eq_of_beq hb)] at k
      have R4 := R3.ex e4
      refine s_dropCall (ea_cons (ev_var rfl) (ea_cons (ev_var rfl) (ea_cons (evE_status X R4 (e := exeAt s j) hx (ev_var rfl)) ea_nil))) fun H5 e5 => ?_
      exact ⟨_, L, r, _, rfl, R4.ex e5, by rw [(stay_setR s r _).nr]; exact hr, fun H6 g6 => k H6 ((G3.trans (Go.ex R3 (e4.trans e5))).trans g6)⟩
    · rw [if_neg (fun z => by rw [z] at hb; cases hb)] at k
      exact k H4 (G3.trans (Go.ex R3 e4))
/-! request_error -/
def optI (o : Option Int) : V := match o with
  | none => .non
  | some i => .int i
theorem foldl_max_le : ∀ {l : List Nat} {a y : Nat}, y ∈ l ∨ y ≤ a → y ≤ l.foldl max a
  | [], a, y, h => by
    rcases h with h | h
    · cases h
    · exact h
  | x :: l, a, y, h => by
    refine foldl_max_le (l := l) (a := max a x) ?_
    rcases h with h | h
    · rcases List.mem_cons.mp h with q | q
      · right
        rw [q]
        exact Nat.le_max_right _ _
      · exact .inl q
    · right
      exact Nat.le_trans h (Nat.le_max_left _ _)
theorem foldl_max_mem : ∀ {l : List Nat} {a : Nat}, l.foldl max a = a ∨ l.foldl max a ∈ l
  | [], _ => .inl rfl
  | x :: l, a => by
    show List.foldl max (max a x) l = a ∨ _
    rcases foldl_max_mem (l := l) (a := max a x) with h | h
    · rcases Nat.le_total a x with q | q
      · right
        show List.foldl max (max a x) l ∈ x :: l
        rw [h, Nat.max_eq_right q]
        exact List.mem_cons_self
      · left
        rw [h, Nat.max_eq_left q]
    · exact .inr (List.mem_cons_of_mem _ h)
theorem foldl_cast : ∀ (r : List Nat) (n : Nat), (r.map fun (k : Nat) => (k : Int)).foldl max (n : Int) = ((r.foldl max n : Nat) : Int)
  | [], _ => rfl
  | x :: r, n => by
    show (r.map fun (k : Nat) => (k : Int)).foldl max (max (n : Int) (x : Int)) = ((r.foldl max (max n x) : Nat) : Int)
    have e : max (n : Int) (x : Int) = ((max n x : Nat) : Int) := by omega
    rw [e, foldl_cast r (max n x)]
theorem ev_maxN {p : Addr} {l : List Nat} (ha : Ev ta σ H (.ref p)) (h : H p = some (.lst (intL l))) : Ev (tCKw (rMaxI K) (tCons ta tNil) (tCons (tC (.int 0)) tNil)) σ H (.int ((l.foldl max 0 : Nat) : Int)) := fun H1 e Q q =>
  ha H1 e _ fun H2 e2 => ⟨p, l.map fun (n : Nat) => (n : Int), 0, rfl, rfl, sq_of (by
    rw [e2 _ _ (e _ _ h), intL, List.map_map]
    rfl), by
    have z : (match (l.map fun (n : Nat) => (n : Int)) with | [] => (0 : Int) | n :: r => r.foldl max n) = ((l.foldl max 0 : Nat) : Int) := by
      cases l with
      | nil => rfl
      | cons n r =>
        show (r.map fun (k : Nat) => (k : Int)).foldl max (n : Int) = ((r.foldl max (max 0 n) : Nat) : Int)
        rw [foldl_cast, Nat.zero_max]
    exact cast (congrArg (fun i => Q (V.int i) H2) z).symm (q H2 e2)⟩
def spReqErr (T : Cls7) : Sp := fun vs H Q _ => ∃ (s : Srv) (L : Loc) (x p : Addr) (a : AskV), vs = [.ref (L.at_ .srv), .ref x] ∧ Rep T s L H ∧ AskAt T H x p a ∧ RetV (optI (reqError s a)) H Q
theorem rd_request_error (X : Txt K mg T B) (vs : List V) (H : Hp) (Q : VK) (E : XK) (h : spReqErr T vs H Q E) : t_request_error K T { nx := fun _ H' => Q .non H', rt := Q } (start N_request_error vs) H := by
  obtain ⟨s, L, x, p, a, rfl, R, A, k⟩ := h
  unfold reqError at k
  refine q_when (b := decide (s.clients.length ≤ a.client)) (et_is (et_test (ev_op (evA_client X A (ev_var rfl)) (ev_len (evS_clients X R (ev_var rfl)) (sq_of (R.at_ .clis _ rfl))) rv_I0)) (by rw [refs_len]; exact nat_le _ _)) (fun hb H1 e1 => ?_) fun hb H1 e1 => ?_
  · rw [if_pos (of_decide_eq_true hb)] at k
    exact s_ret (v := .int (-2)) ev_c fun H2 e2 => k H2 (e1.trans e2)
  · rw [if_neg (of_decide_eq_false hb)] at k
    have R1 := R.ex e1
    have A1 := A.ex e1
    refine q_when (b := decide (a.timeout < 1) || decide (100000 < a.timeout)) (et_or (et_is (et_test (ev_op (evA_timeout X A1 (ev_var rfl)) (ev_c (v := .int ((1 : Nat) : Int))) rv_I0)) (nat_lt _ _)) fun _ => et_is (et_test (ev_op (evA_timeout X A1 (ev_var rfl)) (ev_c (v := .int ((100000 : Nat) : Int))) rv_I0)) (gt_nat _ _)) (fun hb H2 e2 => ?_) fun hb H2 e2 => ?_
    · rw [if_pos hb] at k
      exact s_ret (v := .int (-22)) ev_c fun H3 e3 => k H3 ((e1.trans e2).trans e3)
    · rw [if_neg (by rw [hb]; decide)] at k
      have R2 := R1.ex e2
      have A2 := A1.ex e2
      refine q_when (b := decide (8 < a.payload.length) || decide (1000 < a.payload.foldl max 0)) (et_or (et_is (et_test (ev_op (ev_len (evA_payload X A2 (ev_var rfl)) (sq_of A2.pay)) (ev_c (v := .int ((8 : Nat) : Int))) rv_I0)) (by rw [intL_len]; exact gt_nat _ _)) fun _ => et_is (et_test (ev_op (ev_maxN (evA_payload X A2 (ev_var rfl)) A2.pay) (ev_c (v := .int ((1000 : Nat) : Int))) rv_I0)) (gt_nat _ _)) (fun hb H3 e3 => ?_) fun hb H3 e3 => ?_
      · rw [if_pos hb] at k
        exact s_ret (v := .int (-22)) ev_c fun H4 e4 => k H4 (((e1.trans e2).trans e3).trans e4)
      · rw [if_neg (by rw [hb]; decide)] at k
        have R3 := R2.ex e3
        refine q_when (b := s.requests.length == 60) (et_is (et_test (ev_op (ev_len (evS_requests X R3 (ev_var rfl)) (sq_of (R3.at_ .reqs _ rfl))) (ev_c (v := .int ((60 : Nat) : Int))) (rv_eq rfl))) (by rw [refs_len]; exact nat_eq _ _)) (fun hb H4 e4 => ?_) fun hb H4 e4 => ?_
        · rw [if_pos (eq_of_beq hb)] at k
          exact s_ret (v := .int (-28)) ev_c fun H5 e5 => k H5 ((((e1.trans e2).trans e3).trans e4).trans e5)
        · rw [if_neg (fun z => by rw [z] at hb; cases hb)] at k
          exact s_ret (v := .non) ev_c fun H5 e5 => k H5 ((((e1.trans e2).trans e3).trans e4).trans e5)
end
end Kc
/-! admit -/
namespace KM
def charge (s : Srv) (c q : Nat) : Srv := setC s c { cliAt s c with quota := q, quotaAt := s.now }
/-- points 6 to 9 without the start of what is queued -/
def queueReq (s : Srv) (r : Nat) (a : AskV) : Srv := setR (queueExe s a) r { reqAt s r with execution := some s.executions.length }
def admitReq (s : Srv) (r : Nat) (a : AskV) : Srv :=
  if quotaNow (cliAt s a.client) s.now < (methAt s a.method).cost * 1000 then turnAway s r 8 (quotaDelay (cliAt s a.client) (quotaNow (cliAt s a.client) s.now) ((methAt s a.method).cost * 1000))
  else if (isFull s || (s.shedding == 1 && decide (a.timeout ≤ estWait s))) = true then turnAway s r 100 (estWait s)
  else fillSlots (queueReq (charge s a.client (quotaNow (cliAt s a.client) s.now - (methAt s a.method).cost * 1000)) r a)
def newReq (s : Srv) (a : AskV) : Req := ⟨a.client, s.now, s.now + a.timeout, none, 0, none, 0, 0⟩
def addReq (s : Srv) (a : AskV) : Srv := { s with requests := s.requests ++ [newReq s a] }
def arriveReq (s : Srv) (a : AskV) : Srv := match stranger s a with
  | some st => endReq (addReq s a) s.requests.length st
  | none => match sharedExe (addReq s a) a.client a.key with
    | none => admitReq (addReq s a) s.requests.length a
    | some j => joinReq (addReq s a) s.requests.length j a
end KM
namespace Kc
open PySem PySem.Spec PyProof.Rows L2 KM Evl
section
variable {K : PySem.W.Frag} {mg : Str → Option Value} {T : Cls7} {B : Blt} {σ : L2.St} {H : Hp} {ta tb tc te : TE} {D : Ends} {s : Srv} {L : Loc} {i : Nat}
/-- the ask and its payload's list, nobody's yet -/
structure AskOff (T : Cls7) (s : Srv) (L : Loc) (H : Hp) (x p : Addr) (a : AskV) : Prop where
  ask : AskAt T H x p a
  offx : ∀ r, (cont T s L r).isSome = true → L.at_ r ≠ x
  offp : ∀ r, (cont T s L r).isSome = true → L.at_ r ≠ p
theorem AskOff.loose {x p : Addr} {a : AskV} (A : AskOff T s L H x p a) : Loose T s L H p (intL a.payload) := ⟨A.ask.pay, A.offp⟩
theorem AskOff.ex {H1 : Hp} {x p : Addr} {a : AskV} (A : AskOff T s L H x p a) (e : Ex H H1) : AskOff T s L H1 x p a := ⟨A.ask.ex e, A.offx, A.offp⟩
theorem Go.keeps {s' : Srv} {L' : Loc} {H' : Hp} {x : Addr} {o : HO} (G : Go T s L H s' L' H') (h : H x = some o) (n : NT o) (off : ∀ r, (cont T s L r).isSome = true → L.at_ r ≠ x) : H' x = some o ∧ ∀ r, (cont T s' L' r).isSome = true → L'.at_ r ≠ x := by
  refine ⟨G.keep x o h n fun r hr z => off r hr z.symm, fun r hr z => ?_⟩
  rcases G.own r hr with ⟨r0, k1, k2⟩ | k
  · exact off r0 k1 (k2.trans z)
  · exact k _ (by rw [z]; exact h) n
theorem AskOff.go {s' : Srv} {L' : Loc} {H' : Hp} {x p : Addr} {a : AskV} (A : AskOff T s L H x p a) (G : Go T s L H s' L' H') : AskOff T s' L' H' x p a := by
  obtain ⟨⟨⟨d, h⟩, h2⟩, o1, o2⟩ := A
  have k1 := G.keeps h (fun _ z => by cases z) o1
  have k2 := G.keeps h2 (fun _ z => by cases z) o2
  exact ⟨⟨⟨d, k1.1⟩, k2.1⟩, k1.2, k2.2⟩
def spAdmit (T : Cls7) : Sp := fun vs H Q _ => ∃ (s : Srv) (L : Loc) (r : Nat) (x p : Addr) (a : AskV), vs = [.ref (L.at_ .srv), .ref (L.at_ (.req r)), .ref x] ∧ Rep T s L H ∧ AskOff T s L H x p a ∧ Hok s ∧ WaitOk s ∧ r < s.requests.length ∧ (reqAt s r).status = none ∧ (reqAt s r).execution = none ∧
  a.client < s.clients.length ∧ a.method < s.methods.length ∧ (cliAt s a.client).refill ≤ 1000 ∧ (cliAt s a.client).quotaAt ≤ s.now ∧ 0 < s.limit ∧ s.limit ≤ 1000 ∧ s.executions.length < 1000 ∧
  ∀ L' H', Go T s L (del H p) (admitReq s r a) L' H' → Q .non H'
theorem setC_set {e1 e2 : Cli} : setC (setC s i e1) i e2 = setC s i e2 := by
  unfold setC
  simp
theorem queue_ok {r : Nat} {a : AskV} (O : Hok s) (W : WaitOk s) (hr : r < s.requests.length) (h1 : (reqAt s r).status = none) (h2 : (reqAt s r).execution = none) (hm : a.method < s.methods.length) (hn : s.executions.length < 1000) : Hok (queueReq s r a) ∧ WaitOk (queueReq s r a) := by
  have len : (queueReq s r a).executions.length = s.executions.length + 1 := by
    show (s.executions ++ [newExe a]).length = _
    rw [List.length_append]
    rfl
  have nr : (queueReq s r a).requests.length = s.requests.length := List.length_set ..
  have old : ∀ j, j < s.executions.length → exeAt (queueReq s r a) j = exeAt s j := fun j hj => exeAt_eq (List.getElem?_append_left hj)
  have rat : reqAt (queueReq s r a) r = { reqAt s r with execution := some s.executions.length } := reqAt_of (setOn hr)
  have roff : ∀ k, k ≠ r → reqAt (queueReq s r a) k = reqAt s k := fun k hk => by
    unfold reqAt
    rw [List.getD_eq_getElem?_getD, List.getD_eq_getElem?_getD]
    show ((s.requests.set r _)[k]?).getD req0 = _
    rw [setOff hk]
  refine ⟨⟨by rw [len]; omega, by rw [nr]; exact O.nr, prOk_of O.pr rfl, inOk_of O.ins rfl, O.regs, fun j e he => ?_⟩, fun j hj hs => ?_⟩
  · have he' : (s.executions ++ [newExe a])[j]? = some e := he
    rcases app_at he' with q | ⟨_, q⟩
    · have z := O.ex j e q
      exact ⟨exOk_of z.1 rfl, z.2⟩
    · rw [q]
      refine ⟨⟨⟨fun f hf => ?_, fun f hf => ?_⟩, Nat.le_refl _, Nat.zero_le _, Nat.zero_le _⟩, Nat.zero_le _⟩
      · rw [List.mem_singleton.mp hf]
        exact hm
      · rw [List.mem_singleton.mp hf]
        rfl
  · rw [len] at hj
    by_cases z : j < s.executions.length
    · rw [old j z] at hs
      have hw := W j z hs
      obtain ⟨k, hk⟩ := List.exists_mem_of_ne_nil _ hw
      have hm := waitingOn_mem.mp hk
      have kr : k ≠ r := fun y => by
        rw [y, h2] at hm
        cases hm.2.2
      have : k ∈ waitingOn (queueReq s r a) j := waitingOn_mem.mpr ⟨by rw [nr]; exact hm.1, by rw [roff k kr]; exact hm.2.1, by rw [roff k kr]; exact hm.2.2⟩
      intro y
      rw [y] at this
      cases this
    · have e : j = s.executions.length := by omega
      have : r ∈ waitingOn (queueReq s r a) j := waitingOn_mem.mpr ⟨by rw [nr]; exact hr, by rw [rat]; exact h1, by rw [rat, e]⟩
      intro y
      rw [y] at this
      cases this
theorem q_fldCall {tz : TS} {sp : Sp} {dvs vs : List V} {E : XK} {ta : TA} {j : Nat} {f f2 : Str} (ha : EvA ta σ H vs) (k : ∀ H1, Ex H H1 → sp (vs ++ dvs) H1 (fun v H2 => tSeq (sFld K (tVar j) (tFld K (tC v) f) f2) tz D σ H2) E) : tSeq (sFld K (tVar j) (tFld K (tCall sp dvs E ta) f) f2) tz D σ H :=
  ha H (Ex.refl H) _ fun H1 e => k H1 e
theorem charge_ok {c q : Nat} (O : Hok s) : Hok (charge s c q) := ⟨O.ne, O.nr, prOk_of O.pr rfl, inOk_of O.ins rfl, O.regs, fun j e he => ⟨exOk_of (O.ex j e he).1 rfl, (O.ex j e he).2⟩⟩
theorem rd_admit (X : Txt K mg T B) (vs : List V) (H : Hp) (Q : VK) (E : XK) (h : spAdmit T vs H Q E) : t_admit K T (spQuota T) (spTurn T) (spDelay T) (spWait T) (spFull T) (spQueue T) (spFill T) { nx := fun _ H' => Q .non H', rt := Q } (start N_admit vs) H := by
  obtain ⟨s, L, r, x, p, a, rfl, R, A, O, W, hr, hs, he, hc, hm, hrf, hqa, hl0, hl1, hn, k⟩ := h
  have h0 := cli_some hc
  unfold admitReq at k
  refine q_asg (v := .ref (L.at_ (.cli a.client))) (ev_op (evS_clients X R (ev_var rfl)) (evA_client X A.ask (ev_var rfl)) (rv_ixL (sq_of (R.at_ .clis _ rfl)) (atI_nat (refs_get hc)))) fun H1 e1 => ?_
  have R1 := R.ex e1
  have A1 := A.ex e1
  refine q_asg (v := .int (((methAt s a.method).cost * 1000 : Nat) : Int)) (ev_is (ev_op (evM_cost X R1 (i := a.method) (meth_some hm) (ev_op (evS_methods X R1 (ev_var rfl)) (evA_method X A1.ask (ev_var rfl)) (rv_ixL (sq_of (R1.at_ .meths _ rfl)) (atI_nat (refs_get hm))))) (ev_c (v := .int 1000)) (rv_I (.inr ⟨by omega, by omega⟩))) (by rw [Int.natCast_mul]; rfl)) fun H2 e2 => ?_
  have R2 := R1.ex e2
  generalize hprice : (methAt s a.method).cost * 1000 = price at k ⊢
  refine q_asg (v := .int ((quotaNow (cliAt s a.client) s.now : Nat) : Int)) (ev_call (ea_cons (ev_var rfl) (ea_cons (evS_now X R2 (ev_var rfl)) ea_nil)) (spv_quota R2 hc hrf hqa)) fun H3 e3 => ?_
  have R3 := R2.ex e3
  generalize hquota : quotaNow (cliAt s a.client) s.now = quota at k ⊢
  have e03 := (e1.trans e2).trans e3
  have A3 := A.ex e03
  -- a way out that leaves the payload's list alone
  have out : ∀ (t : Srv) (H' : Hp), Go T s L H t L H' → Go T s L (del H p) t L H' := fun t H' G => (G.del A.loose).trans (Go.ex (G.del A.loose).rep del_ex)
  refine q_when (b := decide (quota < price)) (et_is (et_test (ev_op (ev_var (v := .int (quota : Int)) rfl) (ev_var (v := .int (price : Int)) rfl) rv_I0)) (nat_lt _ _)) (fun hb H4 e4 => ?_) fun hb H4 e4 => ?_
  · have hlt := of_decide_eq_true hb
    rw [if_pos hlt] at k
    have R4 := R3.ex e4
    have hd : Ev (tCall (spDelay T) [] C8.E0 (tCons (tVar 3) (tCons (tVar 5) (tCons (tVar 4) tNil)))) [some (.ref (L.at_ .srv)), some (.ref (L.at_ (.req r))), some (.ref x), some (.ref (L.at_ (.cli a.client))), some (.int (price : Int)), some (.int (quota : Int)), none] H4 (.int ((quotaDelay (cliAt s a.client) quota price : Nat) : Int)) :=
      ev_call (ea_cons (ev_var rfl) (ea_cons (ev_var rfl) (ea_cons (ev_var rfl) ea_nil))) fun H5 e5 Q q E => ⟨s, L, a.client, quota, price, rfl, R4.ex e5, hc, hrf, hlt, fun H6 e6 => q H6 e6⟩
    refine q_dropCall (ea_cons (ev_var rfl) (ea_cons (ev_var rfl) (ea_cons (ev_c (v := .int ((8 : Nat) : Int))) (ea_cons hd ea_nil)))) fun H5 e5 => ?_
    exact ⟨s, L, r, 8, _, rfl, R4.ex e5, hr, fun H6 g6 => k L H6 (out _ _ ((Go.ex R ((e03.trans e4).trans e5)).trans g6))⟩
  · have hlt := of_decide_eq_false hb
    rw [if_neg hlt] at k
    have R4 := R3.ex e4
    refine q_asg (v := .int ((estWait s : Nat) : Int)) (ev_call (ea_cons (ev_var rfl) ea_nil) (spv_wait R4 O.ne hl0 hl1)) fun H5 e5 => ?_
    have R5 := R4.ex e5
    have e05 := (e03.trans e4).trans e5
    have A5 := A.ex e05
    refine q_when (b := isFull s || (s.shedding == 1 && decide (a.timeout ≤ estWait s))) (et_or (et_B (ev_call (ea_cons (ev_var rfl) ea_nil) (spv_full R5 O.ne))) fun _ => et_and (et_is (et_test (ev_op (evS_shedding X R5 (ev_var rfl)) (ev_c (v := .int ((1 : Nat) : Int))) (rv_eq rfl))) (nat_eq _ _)) fun _ =>
      et_is (et_test (ev_op (evA_timeout X A5.ask (ev_var rfl)) (ev_var (v := .int ((estWait s : Nat) : Int)) rfl) rv_I0)) (nat_le _ _)) (fun hb H6 e6 => ?_) fun hb H6 e6 => ?_
    · rw [if_pos hb] at k
      have R6 := R5.ex e6
      refine q_dropCall (ea_cons (ev_var rfl) (ea_cons (ev_var rfl) (ea_cons (ev_c (v := .int ((100 : Nat) : Int))) (ea_cons (ev_var (v := .int ((estWait s : Nat) : Int)) rfl) ea_nil)))) fun H7 e7 => ?_
      exact ⟨s, L, r, 100, _, rfl, R6.ex e7, hr, fun H8 g8 => k L H8 (out _ _ ((Go.ex R ((e05.trans e6).trans e7)).trans g8))⟩
    · rw [if_neg (by rw [hb]; decide)] at k
      have R6 := R5.ex e6
      refine wC_quota (D := { nx := _, ct := _, bk := _, rt := Q }) X R6 h0 (x := quota - price) (ev_is (ev_op (ev_var (v := .int (quota : Int)) rfl) (ev_var (v := .int (price : Int)) rfl) rv_I0) (congrArg V.int (by omega))) (ev_var rfl) fun H7 g7 => ?_
      have h7 : (setC s a.client { cliAt s a.client with quota := quota - price }).clients[a.client]? = some { cliAt s a.client with quota := quota - price } := set_at h0
      refine wC_quota_at (D := { nx := _, ct := _, bk := _, rt := Q }) X g7.rep h7 (evS_now X g7.rep (ev_var rfl)) (ev_var rfl) fun H8 g8 => ?_
      rw [setC_set] at g8
      have G8 : Go T s L H (charge s a.client (quota - price)) L H8 := (Go.ex R (e05.trans e6)).trans (g7.trans g8)
      have A8 := A.go G8
      have O8 : Hok (charge s a.client (quota - price)) := charge_ok O
      have hm8 : a.method < (charge s a.client (quota - price)).methods.length := hm
      refine q_fldCall (ea_cons (ev_var (v := .ref (L.at_ .srv)) rfl) (ea_cons (ev_var (v := .ref x) rfl) ea_nil)) fun H9 e9 => ?_
      have A9 := A8.ex e9
      refine ⟨charge s a.client (quota - price), L, x, p, a, rfl, G8.rep.ex e9, A9.ask, A9.loose, hm8, O8.ne, fun M Ha ga => ?_⟩
      have Gd : Go T s L (del H p) (queueExe (charge s a.client (quota - price)) a) M Ha := (((G8.trans (Go.ex G8.rep e9))).del A.loose).trans ga
      have Ra := ga.rep
      have hxn : (queueExe (charge s a.client (quota - price)) a).executions[s.executions.length]? = some (newExe a) := app_new
      have hrn : (queueExe (charge s a.client (quota - price)) a).requests[r]? = some (reqAt s r) := req_some (s := s) hr
      have m1 : M.at_ .srv = L.at_ .srv := ga.srvAt
      have m2 : M.at_ (.req r) = L.at_ (.req r) := (ga.same (.req r) trivial (by
        show ((s.requests[r]?).map _).isSome = true
        rw [req_some hr]
        rfl)).2
      rw [← m1, ← m2]
      refine wR_execution (D := { nx := _, ct := _, bk := _, rt := Q }) X Ra hrn (evE_number X Ra (i := s.executions.length) hxn ev_c) (ev_var rfl) fun Hb gb => ?_
      have Gb : Go T s L (del H p) (queueReq (charge s a.client (quota - price)) r a) M Hb := Gd.trans gb
      have QO := queue_ok (s := charge s a.client (quota - price)) (a := a) O8 W hr hs he hm8 hn
      exact s_dropCall (ea_cons (ev_var rfl) ea_nil) fun Hc ec => ⟨_, M, rfl, Gb.rep.ex ec, QO.1, QO.2, fun M2 Hd gd => k M2 Hd ((Gb.trans (Go.ex Gb.rep ec)).trans gd)⟩
/-! arrive -/
theorem add_at {a : AskV} : (addReq s a).requests[s.requests.length]? = some (newReq s a) := app_new
theorem add_old {a : AskV} {k : Nat} (h : k < s.requests.length) : reqAt (addReq s a) k = reqAt s k := by
  unfold reqAt addReq
  rw [List.getD_eq_getElem?_getD, List.getD_eq_getElem?_getD, List.getElem?_append_left h]
theorem add_ok {a : AskV} (O : Hok s) (W : WaitOk s) (hn : s.requests.length < 1000) : Hok (addReq s a) ∧ WaitOk (addReq s a) := by
  have len : (addReq s a).requests.length = s.requests.length + 1 := by
    show (s.requests ++ [_]).length = _
    rw [List.length_append]
    rfl
  refine ⟨⟨O.ne, by rw [len]; omega, prOk_of O.pr rfl, inOk_of O.ins rfl, O.regs, fun j e he => ⟨exOk_of (O.ex j e he).1 rfl, (O.ex j e he).2⟩⟩, fun j hj hs => ?_⟩
  obtain ⟨k, hk⟩ := List.exists_mem_of_ne_nil _ (W j hj hs)
  have hm := waitingOn_mem.mp hk
  have : k ∈ waitingOn (addReq s a) j := waitingOn_mem.mpr ⟨by rw [len]; omega, by rw [add_old hm.1]; exact hm.2.1, by rw [add_old hm.1]; exact hm.2.2⟩
  intro y
  rw [y] at this
  cases this
theorem shared_lt {c kk : Nat} : ∀ {n j : Nat}, sharedUpTo s c kk n = some j → j < n
  | n + 1, j, h => by
    rw [sharedUpTo] at h
    split at h
    · cases h
      exact Nat.lt_succ_self _
    · exact Nat.lt_succ_of_lt (shared_lt h)
def spArrive (T : Cls7) : Sp := fun vs H Q _ => ∃ (s : Srv) (L : Loc) (x p : Addr) (a : AskV), vs = [.ref (L.at_ .srv), .ref x] ∧ Rep T s L H ∧ AskOff T s L H x p a ∧ Hok s ∧ WaitOk s ∧ s.requests.length < 1000 ∧ s.executions.length < 1000 ∧
  a.client < s.clients.length ∧ (cliAt s a.client).refill ≤ 1000 ∧ (cliAt s a.client).quotaAt ≤ s.now ∧ 0 < s.limit ∧ s.limit ≤ 1000 ∧
  ∀ L' H', Go T s L (del H p) (arriveReq s a) L' H' → Q (.ref (L'.at_ (.req s.requests.length))) H'
theorem strange_method {a : AskV} (h : stranger s a = none) : a.method < s.methods.length := by
  unfold stranger at h
  split at h
  · cases h
  · split at h
    · cases h
    · split at h
      · cases h
      · omega
theorem rd_arrive (X : Txt K mg T B) (vs : List V) (H : Hp) (Q : VK) (E : XK) (h : spArrive T vs H Q E) : t_arrive K T (spRequest T) (spStranger T) (spEndReq T) (spShared T) (spAdmit T) (spJoin T) { nx := fun _ H' => Q .non H', rt := Q } (start N_arrive vs) H := by
  obtain ⟨s, L, x, p, a, rfl, R, A, O, W, hnr, hne, hc, hrf, hqa, hl0, hl1, k⟩ := h
  refine q_asgI (ei_Request (ea_cons (ev_is (ev_len (evS_requests X R (ev_var rfl)) (sq_of (R.at_ .reqs _ rfl))) (w := .int (s.requests.length : Int)) (by rw [refs_len])) (ea_cons (evA_client X A.ask (ev_var rfl)) (ea_cons (evS_now X R (ev_var rfl)) (ea_cons (ev_op (evS_now X R (ev_var rfl)) (evA_timeout X A.ask (ev_var rfl)) rv_I0) ea_nil))))) fun rp d H1 hrp e1 h1 => ?_
  have R1 := R.ex e1
  refine q_app (l := L.at_ .reqs) (xs := refs L .req s.requests.length) (v := .ref rp) (R1.at_ .reqs _ rfl) (evS_requests X R1 (ev_var rfl)) (ev_var rfl) (by rw [refs_len]; omega) fun H2 e2 => ?_
  have G2 := Go.addReq R (e1.trans e2) (r := newReq s a) (p := rp) (d := d) hrp (e2 _ _ h1)
  have rpe : (L.put (.req s.requests.length) rp d).at_ (.req s.requests.length) = rp := by simp [Loc.put]
  generalize (L.put (.req s.requests.length) rp d) = M at G2 rpe
  generalize (upd H2 (L.at_ .reqs) (.lst (refs L .req s.requests.length ++ [.ref rp]))) = H3 at G2 ⊢
  have m1 := G2.srvAt
  rw [← m1]
  show tSeq _ _ _ [some (.ref (M.at_ .srv)), some (.ref x), some (.ref rp), none, none] _
  rw [← rpe]
  change Go T s L H (addReq s a) M H3 at G2
  have R3 := G2.rep
  have A3 := A.go G2
  have OK := add_ok (a := a) O W hnr
  have hr3 : s.requests.length < (addReq s a).requests.length := by
    show _ < (s.requests ++ [_]).length
    rw [List.length_append]
    exact Nat.lt_succ_self _
  have rat : reqAt (addReq s a) s.requests.length = newReq s a := reqAt_of add_at
  have hc3 : a.client < (addReq s a).clients.length := hc
  unfold arriveReq at k
  have fin : ∀ (t : Srv) (L' : Loc) (H' : Hp), Go T (addReq s a) M (del H3 p) t L' H' → Go T s L (del H p) t L' H' ∧ L'.at_ (.req s.requests.length) = M.at_ (.req s.requests.length) := fun t L' H' g => ⟨(G2.del A.loose).trans g, (g.same (.req s.requests.length) trivial (by
    show (((addReq s a).requests[s.requests.length]?).map _).isSome = true
    rw [add_at]
    rfl)).2⟩
  have out : ∀ (t : Srv) (L' : Loc) (H' : Hp), Go T (addReq s a) M H3 t L' H' → Go T (addReq s a) M (del H3 p) t L' H' := fun t L' H' G => (G.del A3.loose).trans (Go.ex (G.del A3.loose).rep del_ex)
  refine q_asg (v := opt (stranger s a)) (ev_call (ea_cons (ev_var rfl) (ea_cons (ev_var rfl) ea_nil)) (spv_stranger (s := addReq s a) R3 A3.ask hc3)) fun H4 e4 => ?_
  have R4 := R3.ex e4
  cases hst : stranger s a with
  | some st =>
    rw [hst] at k
    refine q_when (b := true) (et_is (et_test (ev_op (ev_var (v := .int (st : Int)) rfl) ev_c rv_notN)) rfl) (fun _ H5 e5 => ?_) fun hb => by cases hb
    refine q_dropCall (ea_cons (ev_var rfl) (ea_cons (ev_var rfl) (ea_cons (ev_var (v := .int (st : Int)) rfl) ea_nil))) fun H6 e6 => ?_
    refine ⟨addReq s a, M, s.requests.length, st, rfl, (R4.ex e5).ex e6, hr3, fun H7 g7 => ?_⟩
    have G7 := (Go.ex R3 ((e4.trans e5).trans e6)).trans g7
    refine s_ret (v := .ref (M.at_ (.req s.requests.length))) (ev_var rfl) ?_
    intro H8 e8
    exact k M H8 (fin _ _ _ (out _ _ _ (G7.trans (Go.ex G7.rep e8)))).1
  | none =>
    have hm := strange_method hst
    rw [hst] at k
    refine q_when (b := false) (et_is (et_test (ev_op (ev_var (v := .non) rfl) ev_c rv_notN)) rfl) (fun hb => by cases hb) fun _ H5 e5 => ?_
    have e35 := e4.trans e5
    have A5 := A3.ask.ex e35
    have R5 := R4.ex e5
    obtain ⟨o, ho⟩ : ∃ o, o = sharedExe (addReq s a) a.client a.key := ⟨_, rfl⟩
    rw [← ho] at k
    have lt : ∀ j, o = some j → j < s.executions.length := fun j hj => by
      rw [ho] at hj
      unfold sharedExe at hj
      split at hj
      · cases hj
      · exact shared_lt hj
    refine q_asg (v := optE M o) (ev_is (ev_call (ea_cons (ev_var rfl) (ea_cons (evA_client X A5 (ev_var rfl)) (ea_cons (evA_key X A5 (ev_var rfl)) ea_nil))) (spv_shared R5)) (by rw [ho])) fun H7 e7 => ?_
    have e37 := e35.trans e7
    have R7 := R5.ex e7
    have A7 := A3.ex e37
    cases o with
    | none =>
      refine q_if (b := true) (et_is (et_test (ev_op (ev_var (v := .non) rfl) ev_c rv_isN)) rfl) (fun _ H8 e8 => ?_) fun hb => by cases hb
      refine s_dropCall (ea_cons (ev_var rfl) (ea_cons (ev_var rfl) (ea_cons (ev_var rfl) ea_nil))) fun H9 e9 => ?_
      have e39 := (e37.trans e8).trans e9
      refine ⟨addReq s a, M, s.requests.length, x, p, a, rfl, R3.ex e39, A3.ex e39, OK.1, OK.2, hr3, by rw [rat]; rfl, by rw [rat]; rfl, hc3, hm, hrf, hqa, hl0, hl1, hne, fun L' H' g => ?_⟩
      have gg := ((Go.ex R3 e39).del A3.loose).trans g
      refine s_ret (v := .ref (M.at_ (.req s.requests.length))) (ev_var rfl) ?_
      intro Ha ea
      have F := fin _ _ _ (gg.trans (Go.ex gg.rep ea))
      rw [← F.2]
      exact k L' Ha F.1
    | some j =>
      have hj := lt j rfl
      refine q_if (b := false) (et_is (et_test (ev_op (ev_var (v := .ref (M.at_ (.exe j))) rfl) ev_c rv_isN)) rfl) (fun hb => by cases hb) fun _ H8 e8 => ?_
      refine s_dropCall (ea_cons (ev_var rfl) (ea_cons (ev_var rfl) (ea_cons (ev_var rfl) (ea_cons (ev_var (v := .ref (M.at_ (.exe j))) rfl) ea_nil)))) fun H9 e9 => ?_
      have e39 := (e37.trans e8).trans e9
      refine ⟨addReq s a, M, s.requests.length, j, x, p, a, rfl, R3.ex e39, A3.ask.ex e39, hr3, hj, fun H' g => ?_⟩
      have gg := (Go.ex R3 e39).trans g
      refine s_ret (v := .ref (M.at_ (.req s.requests.length))) (ev_var rfl) ?_
      intro Ha ea
      exact k M Ha (fin _ _ _ (out _ _ _ (gg.trans (Go.ex gg.rep ea)))).1
end
end Kc
/-! what is asked of a server, against the specification -/
namespace KM
open Kp424 (Server Execution Request Method Customer Progress Settings)
section
variable {g : Option Nat} {en : Bool} {s : Srv} {i : Nat}
theorem abs_wait : Kp424.estimatedWait (abs g en s) = estWait s := by
  unfold Kp424.estimatedWait estWait
  rw [abs_runs, abs_queue]
  unfold freeSlot
  by_cases h : (inState s 1).length < s.limit
  · exact (if_pos h).trans (if_pos (decide_eq_true h)).symm
  · exact (if_neg h).trans (if_neg (by rw [decide_eq_false h]; decide)).symm
theorem abs_tokens {c : Cli} : Kp424.currentTokens (abs g en s) (absC c) = quotaNow c s.now := rfl
/-- no state but the four -/
def St3 (s : Srv) : Prop := ∀ i, (exeAt s i).state ≤ 3
theorem last_range (p : Nat → Bool) : ∀ n, ((List.range (n + 1)).filter p).getLast? = if p n = true then some n else ((List.range n).filter p).getLast? := fun n => by
  rw [List.range_succ, List.filter_append]
  cases h : p n with
  | true =>
    rw [if_pos rfl]
    simp [h]
  | false =>
    rw [if_neg (by decide)]
    simp [h]
theorem shared_range {c k : Nat} : ∀ n, sharedUpTo s c k n = ((List.range n).filter fun i => isShared s c k (exeAt s i)).getLast?
  | 0 => rfl
  | n + 1 => by
    rw [last_range, sharedUpTo, shared_range n]
theorem abs_shared {c k : Nat} (S : St3 s) : Kp424.findShared (abs g en s) c k = sharedExe s c k := by
  unfold Kp424.findShared sharedExe
  by_cases hk : k = 0
  · rw [if_pos hk, if_pos hk]
  · rw [if_neg hk, if_neg hk, shared_range]
    congr 1
    rw [show (abs g en s).executions.length = s.executions.length from List.length_map ..]
    refine List.filter_congr fun j _ => ?_
    rw [abs_exe]
    unfold isShared joinable absE progE
    have h3 := S j
    generalize exeAt s j = e at h3
    dsimp only
    by_cases h0 : e.state = 0
    · simp [h0, Bool.and_assoc]
    · by_cases h1 : e.state = 1
      · simp [h1, Bool.and_assoc]
      · by_cases h2 : e.state = 2
        · simp only [h2]
          rw [Bool.and_assoc]
          rfl
        · have : e.state = 3 := by omega
          simp [this]
/-- what is shown of a state -/
def stateVal (e : Exe) : Nat := if e.state = 1 then e.wakesAt else if e.state = 2 then e.status else 0
theorem abs_progress {pr : Nat → List Nat} {e : Exe} (h : e.state ≤ 3) : Kp424.progressNumbers (absE pr e) = [e.state, stateVal e] := by
  unfold Kp424.progressNumbers absE progE stateVal
  dsimp only
  by_cases h0 : e.state = 0
  · simp [h0]
  · by_cases h1 : e.state = 1
    · simp [h1]
    · by_cases h2 : e.state = 2
      · simp [h2]
      · have h3 : e.state = 3 := by omega
        simp [h3]
/-! the order of the queue -/
theorem leD_anti {a b : Nat} (h1 : leD s a b = true) (h2 : leD s b a = true) : a = b := by
  unfold leD at *
  simp only [decide_eq_true_eq] at *
  omega
theorem perm_sorted {le : Nat → Nat → Bool} (anti : ∀ a b, le a b = true → le b a = true → a = b) : ∀ {l m : List Nat}, l.Perm m → l.Pairwise (fun a b => le a b = true) → m.Pairwise (fun a b => le a b = true) → l = m
  | [], m, p, _, _ => (List.nil_perm.mp p).symm ▸ rfl
  | a :: l, [], p, _, _ => by
    have := p.length_eq
    cases this
  | a :: l, b :: m, p, h1, h2 => by
    rw [List.pairwise_cons] at h1 h2
    have ha : a ∈ b :: m := p.mem_iff.mp List.mem_cons_self
    have hb : b ∈ a :: l := p.mem_iff.mpr List.mem_cons_self
    have e : a = b := by
      rcases List.mem_cons.mp ha with q | q
      · exact q
      · rcases List.mem_cons.mp hb with r | r
        · exact r.symm
        · exact anti a b (h1.1 b r) (h2.1 a q)
    subst e
    rw [perm_sorted anti ((List.perm_cons a).mp p) h1.2 h2.2]
def dropE (s : Srv) (i : Nat) : Srv := setE s i { exeAt s i with state := 3 }
theorem drop_queue (hi : i < s.executions.length) : inState (dropE s i) 0 = (inState s 0).filter fun j => !(j == i) := by
  unfold inState
  rw [show (dropE s i).executions.length = s.executions.length from (stay_setE s i _).ne, List.filter_filter]
  refine List.filter_congr fun j hj => ?_
  by_cases z : j = i
  · subst z
    rw [show exeAt (dropE s j) j = { exeAt s j with state := 3 } from exeAt_of (setOn hi), beq_self_eq_true]
    rfl
  · rw [show exeAt (dropE s i) j = exeAt s j from exeAt_eq (setOff z), beq_eq_false_iff_ne.mpr z]
    rfl
theorem drop_order {r : List Nat} (hi : i < s.executions.length) (ho : orderOf s = i :: r) : orderOf (dropE s i) = r := by
  have hle : leD (dropE s i) = leD s := rfl
  have hdis : (dropE s i).discipline = s.discipline := rfl
  have hnd : (inState s 0).Nodup := (inState_sorted (s := s) (st := 0)).imp fun h => Nat.ne_of_lt h
  have flt : ∀ {l : List Nat}, (i :: l).Nodup → ((i :: l).filter fun j => !(j == i)) = l := fun {l} h => by
    rw [List.filter_cons, if_neg (by rw [beq_self_eq_true]; decide)]
    rw [List.nodup_cons] at h
    exact List.filter_eq_self.mpr fun j hj => by
      have : j ≠ i := fun z => h.1 (by rw [← z]; exact hj)
      rw [beq_eq_false_iff_ne.mpr this]
      rfl
  unfold orderOf at ho ⊢
  rw [hdis, hle, drop_queue hi]
  by_cases d1 : s.discipline = 1
  · rw [if_pos d1] at ho ⊢
    have pm := List.mergeSort_perm (inState s 0) (leD s)
    have ps := List.pairwise_mergeSort (le := leD s) (fun a b c => leD_trans a b c) leD_total (inState s 0)
    rw [ho] at pm ps
    have hnd2 : (i :: r).Nodup := pm.nodup_iff.mpr hnd
    refine perm_sorted (fun a b => leD_anti (s := s)) ?_ (List.pairwise_mergeSort (le := leD s) (fun a b c => leD_trans a b c) leD_total _) (List.pairwise_cons.mp ps).2
    refine (List.mergeSort_perm _ _).trans ?_
    have q := pm.filter fun j => !(j == i)
    rw [flt hnd2] at q
    exact q.symm
  · rw [if_neg d1] at ho ⊢
    by_cases d2 : s.discipline = 2
    · rw [if_pos d2] at ho ⊢
      rw [← List.filter_reverse, ho]
      exact flt (by rw [← ho]; exact (List.reverse_perm _).nodup_iff.mpr hnd)
    · rw [if_neg d2] at ho ⊢
      rw [ho]
      exact flt (by rw [← ho]; exact hnd)
theorem abs_order : ∀ (n : Nat) (s : Srv), Kc.WaitOk s → DlOk s → s.discipline ≤ 2 → (inState s 0).length < n → Kp424.queueOrder n (abs g en s) = orderOf s
  | 0, _, _, _, _, h => by omega
  | n + 1, s, W, D, hd, hn => by
    rw [Kp424.queueOrder, abs_next D W hd]
    cases ho : orderOf s with
    | nil => rfl
    | cons i r =>
      have hmem : i ∈ inState s 0 := Kc.order_mem.mp (by rw [ho]; exact List.mem_cons_self)
      have hi := Kc.inState_mem.mp hmem
      show i :: Kp424.queueOrder n (Kp424.setExecution (abs g en s) i { Kp424.executionAt (abs g en s) i with progress := .dropped }) = i :: r
      have e : Kp424.setExecution (abs g en s) i { Kp424.executionAt (abs g en s) i with progress := .dropped } = abs g en (dropE s i) := by
        refine abs_setE ?_
        rw [abs_exe]
        unfold absE progE
        rw [hi.2]
        rfl
      rw [e, abs_order n (dropE s i) ?_ D hd ?_, drop_order hi.1 ho]
      · intro j hj hs
        rw [show (dropE s i).executions.length = s.executions.length from (stay_setE s i _).ne] at hj
        by_cases z : j = i
        · subst z
          rw [show exeAt (dropE s j) j = { exeAt s j with state := 3 } from exeAt_of (setOn hi.1)] at hs
          cases hs
        · rw [show exeAt (dropE s i) j = exeAt s j from exeAt_eq (setOff z)] at hs
          exact W j hj hs
      · rw [drop_queue hi.1]
        have : ((inState s 0).filter fun j => !(j == i)).length < (inState s 0).length := List.length_filter_lt_length_iff_exists.mpr ⟨i, hmem, by rw [beq_self_eq_true]; decide⟩
        omega
/-! programs -/
theorem abs_instr {mc c a : Nat} (hm : mc ≤ 6) : (match c with
      | 0 => decide (a ≤ 10000)
      | 1 => decide (a ≤ 1000)
      | 2 => a == 0
      | 3 => decide (a < Kp424.registerCount)
      | 4 => Kp424.inRange 1 16 a
      | 5 => decide (a < mc)
      | 6 => decide (a < Kp424.registerCount)
      | _ => false) = isInstr c a mc := by
  unfold isInstr
  match c with
  | 0 => simp [bnds]
  | 1 => simp [bnds]
  | 2 =>
    rw [Bool.eq_iff_iff]
    simp [bnds]
  | 3 =>
    show decide (a < 4) = (decide (0 ≤ a) && decide (a ≤ 3))
    rw [Bool.eq_iff_iff, Bool.and_eq_true, decide_eq_true_eq, decide_eq_true_eq, decide_eq_true_eq]
    omega
  | 4 => simp [bnds, Kp424.inRange]
  | 5 =>
    rw [Bool.eq_iff_iff]
    simp [bnds]
    omega
  | 6 =>
    show decide (a < 4) = (decide (0 ≤ a) && decide (a ≤ 3))
    rw [Bool.eq_iff_iff, Bool.and_eq_true, decide_eq_true_eq, decide_eq_true_eq, decide_eq_true_eq]
    omega
  | c + 7 => simp
/-- the program's check of a program is the specification's reading of it -/
theorem abs_parse {mc : Nat} (hm : mc ≤ 6) : ∀ (l : List Nat), l.length % 2 = 0 → Kp424.parseProgram mc l = if allInstr mc l = true then some (instrs l) else none
  | [], _ => rfl
  | [x], h => by simp at h
  | c :: a :: r, h => by
    have hr : r.length % 2 = 0 := by
      simp only [List.length_cons] at h
      omega
    have key : Kp424.parseProgram mc (c :: a :: r) = if isInstr c a mc = true then (Kp424.parseProgram mc r).map (fun more => ⟨c, a⟩ :: more) else none := by
      rw [← abs_instr hm]
      rfl
    rw [key, abs_parse hm r hr]
    show _ = if (isInstr c a mc && allInstr mc r) = true then some (⟨c, a⟩ :: instrs r) else none
    cases isInstr c a mc <;> cases allInstr mc r <;> rfl
theorem parse_odd {mc : Nat} (hm : mc ≤ 6) : ∀ (l : List Nat), l.length % 2 = 1 → Kp424.parseProgram mc l = none
  | [x], _ => rfl
  | c :: a :: r, h => by
    have hr : r.length % 2 = 1 := by
      simp only [List.length_cons] at h
      omega
    have key : Kp424.parseProgram mc (c :: a :: r) = if isInstr c a mc = true then (Kp424.parseProgram mc r).map (fun more => ⟨c, a⟩ :: more) else none := by
      rw [← abs_instr hm]
      rfl
    rw [key, parse_odd hm r hr]
    cases isInstr c a mc <;> rfl
theorem instrs_len : ∀ (l : List Nat), l.length % 2 = 0 → (instrs l).length = l.length / 2
  | [], _ => rfl
  | [x], h => by simp at h
  | c :: a :: r, h => by
    have hr : r.length % 2 = 0 := by
      simp only [List.length_cons] at h
      omega
    show (instrs r).length + 1 = _
    rw [instrs_len r hr]
    simp only [List.length_cons]
    omega
end
end KM
/-! events: mirror functions, against the specification -/
namespace KM
open Kp424 (Server Execution Request Method Customer Progress Settings Event)
abbrev E3 := Nat × Nat × Nat
def graceEv (s : Srv) : List E3 := match s.graceEnd with
  | some t => if s.graceOver = true then [] else [(t, 2, 0)]
  | none => []
def runEv (s : Srv) : List E3 := (inState s 1).map fun i => ((exeAt s i).wakesAt, 0, i)
def dlEv (s : Srv) : List E3 := (openReqs s).map fun r => ((reqAt s r).deadline, 1, r)
def evsOf (s : Srv) : List E3 := runEv s ++ (dlEv s ++ graceEv s)
def bef (a b : E3) : Bool := decide (a.1 < b.1) || (a.1 == b.1 && (decide (a.2.1 < b.2.1) || (a.2.1 == b.2.1 && decide (a.2.2 < b.2.2))))
def leastE (x : E3) (l : List E3) : E3 := l.foldl (fun b e => if bef e b = true then e else b) x
def nextEv (s : Srv) : Option E3 := match evsOf s with
  | [] => none
  | x :: l => some (leastE x l)
/-- all that is left ends -/
def endE (now : Nat) (e : Exe) : Exe := if e.state = 0 then { e with state := 3, finishedAt := now } else if e.state = 1 then { e with state := 2, status := 1, finishedAt := now } else e
def endR (now : Nat) (r : Req) : Req := if r.status = none then { r with status := some 1, finishedAt := now } else r
def endGrace (s : Srv) : Srv := { s with graceOver := true, executions := s.executions.map (endE s.now), requests := s.requests.map (endR s.now) }
def toNow (s : Srv) (t : Nat) : Srv := { s with now := max s.now t }
def happenS (s : Srv) (e : E3) : Srv :=
  if e.2.1 = 0 then fillSlots (resume (toNow s e.1) e.2.2)
  else if e.2.1 = 1 then leave (toNow s e.1) e.2.2 4 ((reqAt s e.2.2).execution.getD 0)
  else endGrace (toNow s e.1)
def advLoop (m : Nat) : Nat → Srv → Nat → Srv × Nat
  | 0, s, f => (s, f)
  | n + 1, s, f => match nextEv s with
    | none => (s, f)
    | some e => if e.1 ≤ m then advLoop m n (happenS s e) (f + 1) else (s, f)
def setNow (s : Srv) (t : Nat) : Srv := { s with now := t }
def fireS (s : Srv) : Srv := match nextEv s with
  | none => s
  | some e => happenS s e
def runS : Nat → Srv → Srv
  | 0, s => s
  | n + 1, s => runS n (fireS s)
/-! against the specification -/
def toE (e : E3) : Event := ⟨e.1, e.2.1, e.2.2⟩
abbrev absS (s : Srv) : Server := abs s.graceEnd s.graceOver s
theorem absS_of {s t : Srv} (h : Stay s t) : absS t = abs s.graceEnd s.graceOver t := by
  unfold absS
  rw [h.graceEnd, h.graceOver]
theorem filterMap_if {α : Type} {p : Nat → Bool} {f : Nat → α} : ∀ l : List Nat, l.filterMap (fun i => if p i = true then some (f i) else none) = (l.filter p).map f
  | [] => rfl
  | i :: l => by
    rw [List.filterMap_cons, List.filter_cons, filterMap_if l]
    cases h : p i <;> simp
section
variable {g : Option Nat} {en : Bool} {s : Srv} {i : Nat}
theorem run_ev : ((List.range (abs g en s).executions.length).filterMap fun i => match (Kp424.executionAt (abs g en s) i).progress with
    | .running t => some (Event.mk t 0 i)
    | _ => none) = (runEv s).map toE := by
  unfold runEv inState
  rw [show (abs g en s).executions.length = s.executions.length from List.length_map .., List.map_map, ← filterMap_if]
  refine congrArg (fun f => List.filterMap f (List.range s.executions.length)) ?_
  funext i
  rw [abs_exe]
  unfold absE progE
  dsimp only
  by_cases h : (exeAt s i).state = 0
  · simp [h]
  · by_cases h1 : (exeAt s i).state = 1
    · simp [h, h1, toE]
    · by_cases h2 : (exeAt s i).state = 2
      · simp [h, h1, h2]
      · simp [h, h1, h2]
theorem dl_ev : ((List.range (abs g en s).requests.length).filterMap fun i => if Kp424.isOpen (Kp424.requestAt (abs g en s) i) then some (Event.mk (Kp424.requestAt (abs g en s) i).deadline 1 i) else none) = (dlEv s).map toE := by
  unfold dlEv openReqs
  rw [show (abs g en s).requests.length = s.requests.length from List.length_map .., List.map_map, ← filterMap_if]
  refine congrArg (fun f => List.filterMap f (List.range s.requests.length)) ?_
  funext i
  rw [abs_req]
  have e : Kp424.isOpen (absR (reqAt s i)) = ((reqAt s i).status == none) := by
    unfold Kp424.isOpen absR
    cases (reqAt s i).status <;> rfl
  rw [e]
  rfl
theorem abs_events : Kp424.events (absS s) = (evsOf s).map toE := by
  unfold Kp424.events evsOf
  rw [List.map_append, List.map_append, ← List.append_assoc]
  refine congr (congrArg _ (congr (congrArg _ run_ev) dl_ev)) ?_
  unfold graceEv
  show (match s.graceEnd with | some t => if s.graceOver = true then [] else [Event.mk t 2 0] | none => []) = _
  cases s.graceEnd with
  | none => rfl
  | some t => cases s.graceOver <;> rfl
theorem bef_toE (a b : E3) : Kp424.before (toE a) (toE b) = bef a b := rfl
theorem fold_some {l : List E3} {x : E3} : (l.map toE).foldl (fun (best : Option Event) (e : Event) => match best with
    | none => some e
    | some b => if Kp424.before e b then some e else best) (some (toE x)) = some (toE (leastE x l)) := by
  unfold leastE
  induction l generalizing x with
  | nil => rfl
  | cons y l ih =>
    rw [List.map_cons, List.foldl_cons, List.foldl_cons, ← ih]
    congr 1
    show (if Kp424.before (toE y) (toE x) = true then some (toE y) else some (toE x)) = _
    rw [bef_toE]
    split <;> rfl
theorem abs_nextEv : Kp424.nextEvent (absS s) = (nextEv s).map toE := by
  unfold Kp424.nextEvent nextEv
  rw [abs_events]
  cases evsOf s with
  | nil => rfl
  | cons x l =>
    rw [List.map_cons, List.foldl_cons]
    exact fold_some
theorem leastE_mem {l : List E3} : ∀ {x : E3}, leastE x l = x ∨ leastE x l ∈ l := by
  unfold leastE
  induction l with
  | nil => exact fun {x} => .inl rfl
  | cons y l ih =>
    intro x
    rw [List.foldl_cons]
    rcases ih (x := if bef y x = true then y else x) with h | h
    · by_cases z : bef y x = true
      · rw [if_pos z] at h ⊢
        right
        rw [h]
        exact List.mem_cons_self
      · rw [if_neg z] at h ⊢
        exact .inl h
    · exact .inr (List.mem_cons_of_mem _ h)
theorem bef_le {a b : E3} (h : bef a b = true) : a.1 ≤ b.1 := by
  unfold bef at h
  simp only [Bool.or_eq_true, decide_eq_true_eq, Bool.and_eq_true, beq_iff_eq] at h
  omega
theorem bef_no {a b : E3} (h : ¬ bef a b = true) : b.1 ≤ a.1 := by
  unfold bef at h
  simp only [Bool.or_eq_true, decide_eq_true_eq, Bool.and_eq_true, beq_iff_eq] at h
  omega
theorem leastE_le {l : List E3} : ∀ {x y : E3}, y ∈ x :: l → (leastE x l).1 ≤ y.1 := by
  unfold leastE
  induction l with
  | nil =>
    intro x y h
    rw [List.mem_singleton.mp h]
    exact Nat.le_refl _
  | cons z l ih =>
    intro x y h
    rw [List.foldl_cons]
    by_cases q : bef z x = true
    · rw [if_pos q]
      rcases List.mem_cons.mp h with w | w
      · rw [w]
        exact Nat.le_trans (ih List.mem_cons_self) (bef_le q)
      · exact ih w
    · rw [if_neg q]
      rcases List.mem_cons.mp h with w | w
      · rw [w]
        exact ih List.mem_cons_self
      · rcases List.mem_cons.mp w with v | v
        · rw [v]
          exact Nat.le_trans (ih List.mem_cons_self) (bef_no q)
        · exact ih (List.mem_cons_of_mem _ v)
/-- what the next event is -/
theorem next_mem {e : E3} (h : nextEv s = some e) : e ∈ evsOf s := by
  unfold nextEv at h
  cases q : evsOf s with
  | nil =>
    rw [q] at h
    cases h
  | cons x l =>
    rw [q] at h
    rw [← Option.some.inj h]
    rcases leastE_mem (l := l) (x := x) with z | z
    · rw [z]
      exact List.mem_cons_self
    · exact List.mem_cons_of_mem _ z
theorem next_le {e y : E3} (h : nextEv s = some e) (hy : y ∈ evsOf s) : e.1 ≤ y.1 := by
  unfold nextEv at h
  cases q : evsOf s with
  | nil =>
    rw [q] at hy
    cases hy
  | cons x l =>
    rw [q] at h hy
    rw [← Option.some.inj h]
    exact leastE_le hy
theorem ev_cases {e : E3} (h : e ∈ evsOf s) : (e.2.1 = 0 ∧ e.2.2 < s.executions.length ∧ (exeAt s e.2.2).state = 1 ∧ e.1 = (exeAt s e.2.2).wakesAt) ∨ (e.2.1 = 1 ∧ e.2.2 < s.requests.length ∧ (reqAt s e.2.2).status = none ∧ e.1 = (reqAt s e.2.2).deadline) ∨
    (e.2.1 = 2 ∧ e.2.2 = 0 ∧ s.graceEnd = some e.1 ∧ s.graceOver = false) := by
  unfold evsOf at h
  rcases List.mem_append.mp h with q | q
  · unfold runEv at q
    obtain ⟨i, hi, rfl⟩ := List.mem_map.mp q
    have := Kc.inState_mem.mp hi
    exact .inl ⟨rfl, this.1, this.2, rfl⟩
  · rcases List.mem_append.mp q with q | q
    · unfold dlEv openReqs at q
      obtain ⟨i, hi, rfl⟩ := List.mem_map.mp q
      have hm := List.mem_filter.mp hi
      exact .inr (.inl ⟨rfl, List.mem_range.mp hm.1, eq_of_beq hm.2, rfl⟩)
    · unfold graceEv at q
      split at q
      · rename_i t ht
        split at q
        · cases q
        · rename_i ho
          rw [List.mem_singleton.mp q]
          exact .inr (.inr ⟨rfl, rfl, ht, by simpa using ho⟩)
      · cases q
end
end KM
/-! what every server keeps from call to call -/
namespace KM
open Kp424 (Server Execution Request Method Customer Progress Settings Event)
open Kc (Aok Hok WaitOk Rok Wok phi)
/-- no slot is wasted -/
def Full (s : Srv) : Prop := inState s 0 = [] ∨ freeSlot s = false
structure Base (s : Srv) : Prop where
  dis : s.discipline ≤ 2
  lim0 : 1 ≤ s.limit
  lim1 : s.limit ≤ 8
  mc : s.methods.length ≤ 6
  cc : s.clients.length ≤ 8
  rc : s.requests.length ≤ 60
  ec : s.executions.length ≤ s.requests.length
  cli : ∀ c ∈ s.clients, c.capacity ≤ 1000 ∧ c.refill ≤ 1000 ∧ c.quotaAt ≤ s.now
  grace : ∀ t, s.graceEnd = some t → t ≤ s.now + 100000
structure Inv (k : Nat) (s : Srv) : Prop where
  a : Aok s
  b : Base s
  st3 : St3 s
  full : Full s
  now : s.now ≤ k
section
variable {s t : Srv} {i k : Nat}
theorem Base.stay (B : Base s) (h : Stay s t) : Base t :=
  ⟨by rw [h.discipline]; exact B.dis, by rw [h.limit]; exact B.lim0, by rw [h.limit]; exact B.lim1, by rw [h.methods]; exact B.mc, by rw [h.clients]; exact B.cc, by rw [h.nr]; exact B.rc, by rw [h.ne, h.nr]; exact B.ec, by rw [h.clients, h.now]; exact B.cli, by rw [h.graceEnd, h.now]; exact B.grace⟩
theorem Inv.dl (I : Inv k s) (hk : k ≤ 4000000000) : DlOk s := fun r => by
  by_cases z : r < s.requests.length
  · have := I.a.req.dl r z
    have := I.now
    omega
  · have e : reqAt s r = req0 := by
      unfold reqAt
      rw [List.getD_eq_getElem?_getD, List.getElem?_eq_none (by omega)]
      rfl
    rw [e]
    exact Nat.zero_le _
theorem Inv.up {j : Nat} (I : Inv k s) (h : k ≤ j) : Inv j s := ⟨I.a, I.b, I.st3, I.full, Nat.le_trans I.now h⟩
/-! states -/
theorem St3.setE (S : St3 s) {e : Exe} (h : e.state ≤ 3) : St3 (setE s i e) := fun j => by
  by_cases z : j = i
  · subst z
    by_cases q : j < s.executions.length
    · rw [show exeAt (KM.setE s j e) j = e from exeAt_of (setOn q)]
      exact h
    · rw [show exeAt (KM.setE s j e) j = exeAt s j from exeAt_eq (by show (s.executions.set j e)[j]? = _; rw [List.set_eq_of_length_le (by omega)])]
      exact S j
  · rw [show exeAt (KM.setE s i e) j = exeAt s j from exeAt_eq (setOff z)]
    exact S j
theorem St3.of (S : St3 s) (h : t.executions = s.executions) : St3 t := fun j => by
  unfold exeAt
  rw [h]
  exact S j
theorem St3.resume (S : St3 s) : St3 (resume s i) := by
  unfold KM.resume
  have hs := Kc.ran_state s i
  have h3 := S i
  cases (ran s i).2.2 with
  | none => exact (St3.setE S (by rw [hs]; exact h3) : St3 (KM.setE s i (ran s i).1)).of rfl
  | some st =>
    have a : St3 (KM.setE s i (ran s i).1) := St3.setE S (by rw [hs]; exact h3)
    have b : St3 { at2 s i (ran s i).1 (ran s i).2.1 with average := s.average + (s.now - (ran s i).1.startedAt) - s.average / 8 } := a.of rfl
    have c : St3 (finishE { at2 s i (ran s i).1 (ran s i).2.1 with average := s.average + (s.now - (ran s i).1.startedAt) - s.average / 8 } i st) := St3.setE b (by show 2 ≤ 3; omega)
    exact c.of (endAll_exes _ _ _)
theorem St3.start (S : St3 s) : St3 (startE s i) := St3.setE S (by show 1 ≤ 3; omega)
theorem St3.fill : ∀ (n : Nat) {s : Srv}, St3 s → St3 (fill n s)
  | 0, s, S => S
  | n + 1, s, S => by
    rw [KM.fill]
    split
    · exact S
    · split
      · exact St3.fill n S.start.resume
      · exact S
theorem St3.left {r st : Nat} (S : St3 s) : St3 (Kc.left s r st i) := by
  unfold Kc.left
  have S1 : St3 (endReq s r st) := S.of rfl
  split
  · unfold KM.abandon
    split
    · exact St3.setE S1 (by show 3 ≤ 3; omega)
    · split
      · exact St3.setE S1 (by show 2 ≤ 3; omega)
      · exact S1
  · exact S1
theorem leave_eq {r st : Nat} : leave s r st i = fillSlots (Kc.left s r st i) := rfl
/-! slots -/
theorem fill_full : ∀ (n : Nat) (s : Srv), (inState s 0).length ≤ n → Full (fill n s)
  | 0, s, h => by
    have z : (inState s 0).length = 0 := by omega
    exact .inl (show inState s 0 = [] from List.eq_nil_of_length_eq_zero z)
  | n + 1, s, h => by
    rw [KM.fill]
    split
    · rename_i ho
      left
      have z := Kc.order_len (s := s)
      rw [ho] at z
      exact List.eq_nil_of_length_eq_zero z.symm
    · rename_i i r ho
      split
      · have hm : i ∈ inState s 0 := Kc.order_mem.mp (by rw [ho]; exact List.mem_cons_self)
        have := Kc.queued_go hm
        exact fill_full n _ (by omega)
      · rename_i hf
        exact .inr (by simpa using hf)
theorem full_fill : Full (fillSlots s) := fill_full _ _ (Nat.le_refl _)
theorem stay_left {r st : Nat} : Stay s (Kc.left s r st i) := by
  unfold Kc.left
  split
  · exact (stay_setR s r _).trans (Kc.stay_abandon _ i)
  · exact stay_setR s r _
theorem stay_leave {r st : Nat} : Stay s (leave s r st i) := stay_left.trans (stay_fill _ _)
/-! time passes -/
theorem aok_toNow (A : Aok s) (u : Nat) : Aok (toNow s u) := by
  have le : s.now ≤ max s.now u := Nat.le_max_left _ _
  refine ⟨⟨A.hok.ne, A.hok.nr, Kc.prOk_of A.hok.pr rfl, Kc.inOk_of A.hok.ins rfl, A.hok.regs, fun j e h => ⟨Kc.exOk_of (A.hok.ex j e h).1 rfl, Nat.le_trans (A.hok.ex j e h).2 le⟩⟩, A.wait, ⟨A.req.op, A.req.ok, A.req.jo, fun r hr => ?_⟩, fun j hj h => ?_⟩
  · have := A.req.dl r hr
    show (reqAt s r).deadline ≤ max s.now u + 100000
    omega
  · have := A.wake j hj h
    show (exeAt s j).wakesAt ≤ max s.now u + 10000
    omega
theorem base_toNow (B : Base s) (u : Nat) : Base (toNow s u) := by
  have le : s.now ≤ max s.now u := Nat.le_max_left _ _
  refine ⟨B.dis, B.lim0, B.lim1, B.mc, B.cc, B.rc, B.ec, fun c hc => ?_, fun t ht => ?_⟩
  · have := B.cli c hc
    exact ⟨this.1, this.2.1, Nat.le_trans this.2.2 le⟩
  · have := B.grace t ht
    show t ≤ max s.now u + 100000
    omega
theorem inv_toNow {u : Nat} (I : Inv k s) (h : u ≤ k) : Inv k (toNow s u) := ⟨aok_toNow I.a u, base_toNow I.b u, I.st3.of rfl, I.full, Nat.max_le.mpr ⟨I.now, h⟩⟩
theorem aok_resume (A : Aok s) (hi : i < s.executions.length) (h1 : (exeAt s i).state = 1) : Aok (resume s i) := by
  refine ⟨A.hok.resume hi, fun j hj h => ?_, A.req.resume hi h1, Kc.Wok.resume A.hok A.wake hi⟩
  rw [(stay_resume s i).ne] at hj
  by_cases z : j = i
  · subst z
    exact absurd h (Kc.resume_at hi h1)
  · rw [Kc.resume_off z] at h
    rw [Kc.waiting_resume z]
    exact A.wait j hj h
/-! the end of the grace period -/
theorem endE_state {now : Nat} {e : Exe} (h : e.state ≤ 3) : 2 ≤ (endE now e).state ∧ (endE now e).state ≤ 3 := by
  unfold endE
  split
  · exact ⟨by show 2 ≤ 3; omega, by show 3 ≤ 3; omega⟩
  · split
    · exact ⟨by show 2 ≤ 2; omega, by show 2 ≤ 3; omega⟩
    · omega
theorem grace_exe (hi : i < s.executions.length) : exeAt (endGrace s) i = endE s.now (exeAt s i) := exeAt_of (by
  show (s.executions.map _)[i]? = _
  rw [List.getElem?_map, exe_some hi]
  rfl)
theorem grace_req (hi : i < s.requests.length) : reqAt (endGrace s) i = endR s.now (reqAt s i) := reqAt_of (by
  show (s.requests.map _)[i]? = _
  rw [List.getElem?_map, req_some hi]
  rfl)
theorem grace_ne : (endGrace s).executions.length = s.executions.length := List.length_map ..
theorem grace_nr : (endGrace s).requests.length = s.requests.length := List.length_map ..
theorem endE_keep {now : Nat} {e : Exe} : (endE now e).frames = e.frames ∧ (endE now e).executed = e.executed ∧ (endE now e).emitted = e.emitted ∧ (endE now e).startedAt = e.startedAt ∧ (endE now e).wakesAt = e.wakesAt := by
  unfold endE
  split
  · exact ⟨rfl, rfl, rfl, rfl, rfl⟩
  · split <;> exact ⟨rfl, rfl, rfl, rfl, rfl⟩
theorem endR_keep {now : Nat} {r : Req} : (endR now r).execution = r.execution ∧ (endR now r).joined = r.joined ∧ (endR now r).deadline = r.deadline ∧ (endR now r).status ≠ none ∧ ((endR now r).status = some 0 → r.status = some 0) := by
  unfold endR
  split
  · exact ⟨rfl, rfl, rfl, (fun z => by cases z), (fun z => by cases z)⟩
  · rename_i h
    exact ⟨rfl, rfl, rfl, h, id⟩
theorem aok_grace (A : Aok s) (S : St3 s) : Aok (endGrace s) := by
  have no : ∀ j, j < s.executions.length → 2 ≤ (exeAt (endGrace s) j).state := fun j hj => by
    rw [grace_exe hj]
    exact (endE_state (S j)).1
  refine ⟨⟨by rw [grace_ne]; exact A.hok.ne, by rw [grace_nr]; exact A.hok.nr, Kc.prOk_of A.hok.pr rfl, Kc.inOk_of A.hok.ins rfl, A.hok.regs, fun j e h => ?_⟩, fun j hj h => ?_, ⟨fun r hr h => ?_, fun r hr h => ?_, fun r hr => ?_, fun r hr => ?_⟩, fun j hj h => ?_⟩
  · have h' : (s.executions.map (endE s.now))[j]? = some e := h
    rw [List.getElem?_map] at h'
    obtain ⟨e0, h0, rfl⟩ := Option.map_eq_some_iff.mp h'
    obtain ⟨z1, z2⟩ := A.hok.ex j e0 h0
    obtain ⟨k1, k2, k3, k4, k5⟩ := endE_keep (now := s.now) (e := e0)
    exact ⟨⟨by rw [k1]; exact Kc.frOk_of z1.fr rfl, by rw [k1, k2]; exact z1.len, by rw [k2]; exact z1.most, by rw [k3]; exact z1.emi⟩, by rw [k4]; exact z2⟩
  · rw [grace_ne] at hj
    have := no j hj
    omega
  · rw [grace_nr] at hr
    rw [grace_req hr] at h
    exact absurd h endR_keep.2.2.2.1
  · rw [grace_nr] at hr
    rw [grace_req hr] at h ⊢
    rw [endR_keep.1, grace_ne]
    exact A.req.ok r hr (endR_keep.2.2.2.2 h)
  · rw [grace_nr] at hr
    rw [grace_req hr, endR_keep.2.1]
    exact A.req.jo r hr
  · rw [grace_nr] at hr
    rw [grace_req hr, endR_keep.2.2.1]
    exact A.req.dl r hr
  · rw [grace_ne] at hj
    have := no j hj
    omega
theorem st3_grace (S : St3 s) : St3 (endGrace s) := fun j => by
  by_cases z : j < s.executions.length
  · rw [grace_exe z]
    exact (endE_state (S j)).2
  · rw [show exeAt (endGrace s) j = exe0 from by unfold exeAt; rw [List.getD_eq_getElem?_getD, List.getElem?_eq_none (by rw [grace_ne]; omega)]; rfl]
    exact Nat.le_refl _
theorem full_grace (S : St3 s) : Full (endGrace s) := .inl (List.filter_eq_nil_iff.mpr fun j hj => by
  have hj' := List.mem_range.mp hj
  rw [grace_ne] at hj'
  rw [grace_exe hj']
  have := (endE_state (now := s.now) (S j)).1
  intro z
  have := beq_iff_eq.mp z
  omega)
theorem inv_grace (I : Inv k s) : Inv k (endGrace s) :=
  ⟨aok_grace I.a I.st3, ⟨I.b.dis, I.b.lim0, I.b.lim1, I.b.mc, I.b.cc, by rw [grace_nr]; exact I.b.rc, by rw [grace_ne, grace_nr]; exact I.b.ec, I.b.cli, I.b.grace⟩, st3_grace I.st3, full_grace I.st3, I.now⟩
/-! an event -/
theorem ev_bound (I : Inv k s) {e : E3} (h : nextEv s = some e) : e.1 ≤ s.now + 100000 := by
  rcases ev_cases (next_mem h) with ⟨_, a, b, c⟩ | ⟨_, a, b, c⟩ | ⟨_, _, c, _⟩
  · have := I.a.wake _ a b
    omega
  · have := I.a.req.dl _ a
    omega
  · exact I.b.grace _ c
theorem inv_happen (I : Inv k s) {e : E3} (h : nextEv s = some e) (hk : e.1 ≤ k) : Inv k (happenS s e) := by
  have J := inv_toNow (u := e.1) I hk
  unfold happenS
  rcases ev_cases (next_mem h) with ⟨k0, a, b, c⟩ | ⟨k1, a, b, c⟩ | ⟨k2, _, c, _⟩
  · rw [if_pos k0]
    have A := aok_resume (s := toNow s e.1) J.a a b
    have St := (stay_resume (toNow s e.1) e.2.2).trans (stay_fill (inState (resume (toNow s e.1) e.2.2) 0).length _)
    exact ⟨(Kc.fill_ok _ _ A).1, J.b.stay St, St3.fill _ J.st3.resume, full_fill, by show (fillSlots _).now ≤ k; unfold fillSlots; rw [St.now]; exact J.now⟩
  · rw [if_neg (by omega), if_pos k1]
    obtain ⟨j, h1, h2, h3⟩ := J.a.req.op _ a b
    rw [show (reqAt s e.2.2).execution = some j from h1]
    have A := Kc.leave_aok (st := 4) J.a (r := e.2.2) a h1 h2
    exact ⟨A, J.b.stay stay_leave, St3.fill _ J.st3.left, full_fill, by show (leave _ _ _ _).now ≤ k; rw [stay_leave.now]; exact J.now⟩
  · rw [if_neg (by omega), if_neg (by omega)]
    exact inv_grace J
/-- how many events there can still be -/
def phi2 (s : Srv) : Nat := phi s + (graceEv s).length
theorem graceEv_stay (h : Stay s t) : graceEv t = graceEv s := by
  unfold graceEv
  rw [h.graceEnd, h.graceOver]
theorem phi_grace (S : St3 s) : phi (endGrace s) ≤ phi s := by
  unfold Kc.phi
  rw [grace_nr, grace_ne]
  refine Nat.add_le_add (Kc.sumTo_le fun r hr => ?_) (Kc.sumTo_le fun j hj => ?_)
  · rw [grace_req hr]
    unfold Kc.openW
    rw [if_neg endR_keep.2.2.2.1]
    exact Nat.zero_le _
  · rw [grace_exe hj]
    unfold Kc.exeW
    have := (endE_state (now := s.now) (S j)).1
    rw [if_neg (by omega)]
    exact Nat.zero_le _
theorem phi2_happen (I : Inv k s) {e : E3} (h : nextEv s = some e) (hk : e.1 ≤ k) : phi2 (happenS s e) < phi2 s := by
  have J := inv_toNow (u := e.1) I hk
  have p0 : phi (toNow s e.1) = phi s := rfl
  unfold happenS phi2
  rcases ev_cases (next_mem h) with ⟨k0, a, b, c⟩ | ⟨k1, a, b, c⟩ | ⟨k2, _, c, d⟩
  · rw [if_pos k0]
    have A := aok_resume (s := toNow s e.1) J.a a b
    have St := (stay_resume (toNow s e.1) e.2.2).trans (stay_fill (inState (resume (toNow s e.1) e.2.2) 0).length _)
    have z := Kc.phi_resume (s := toNow s e.1) J.a.hok a b
    have f := (Kc.fill_ok (inState (resume (toNow s e.1) e.2.2) 0).length _ A).2
    have g : graceEv (fillSlots (resume (toNow s e.1) e.2.2)) = graceEv s := graceEv_stay (s := toNow s e.1) St
    rw [g]
    have f' : phi (fillSlots (resume (toNow s e.1) e.2.2)) ≤ phi (resume (toNow s e.1) e.2.2) := f
    omega
  · rw [if_neg (by omega), if_pos k1]
    obtain ⟨j, h1, h2, h3⟩ := J.a.req.op _ a b
    rw [show (reqAt s e.2.2).execution = some j from h1]
    have z := Kc.phi_leave (st := 4) J.a (r := e.2.2) a h1 b h2
    have g : graceEv (leave (toNow s e.1) e.2.2 4 ((some j).getD 0)) = graceEv s := graceEv_stay (s := toNow s e.1) stay_leave
    rw [g]
    have z' : phi (leave (toNow s e.1) e.2.2 4 ((some j).getD 0)) < phi (toNow s e.1) := z
    omega
  · rw [if_neg (by omega), if_neg (by omega)]
    have z := phi_grace (s := toNow s e.1) J.st3
    have g1 : graceEv (endGrace (toNow s e.1)) = [] := by
      unfold graceEv endGrace toNow
      dsimp only
      rw [c]
      rfl
    have g2 : (graceEv s).length = 1 := by
      unfold graceEv
      rw [c, d]
      rfl
    rw [g1, g2]
    show phi (endGrace (toNow s e.1)) + 0 < _
    omega
theorem phi2_le (I : Inv k s) : phi2 s ≤ 6181 := by
  have a := Kc.phi_le (s := s)
  have b := I.b.rc
  have c := I.b.ec
  have d : (graceEv s).length ≤ 1 := by
    unfold graceEv
    split
    · split
      · exact Nat.zero_le _
      · exact Nat.le_refl _
    · exact Nat.zero_le _
  unfold phi2
  omega
/-! against the specification -/
theorem abs_toNow {u : Nat} : absS (toNow s u) = { absS s with now := max s.now u } := rfl
theorem abs_continue (O : Hok s) (hi : i < s.executions.length) (h1 : (exeAt s i).state = 1) : Kp424.continueExecution (absS s) i = absS (resume s i) := by
  rw [absS_of (stay_resume s i), ← abs_resume (g := s.graceEnd) (en := s.graceOver) (pg := (Kp424.executionAt (absS s) i).progress) O hi h1]
  congr 1
  unfold Kp424.setExecution
  have e : (absS s).executions.set i { Kp424.executionAt (absS s) i with progress := (Kp424.executionAt (absS s) i).progress } = (absS s).executions := by
    have hl : i < (absS s).executions.length := by
      rw [show (absS s).executions.length = s.executions.length from List.length_map ..]
      exact hi
    refine List.ext_getElem? fun j => ?_
    by_cases z : j = i
    · subst z
      rw [setOn hl]
      unfold Kp424.executionAt
      rw [List.getD_eq_getElem?_getD, List.getElem?_eq_getElem hl]
      rfl
    · rw [setOff z]
  rw [e]
theorem abs_settleS (I : Aok s) (D : DlOk s) (hd : s.discipline ≤ 2) : Kp424.settle (absS s) = absS (fillSlots s) := by
  rw [absS_of (t := fillSlots s) (stay_fill _ _)]
  exact abs_settle I.hok I.wait D hd
theorem abs_grace (S : St3 s) : Kp424.endGrace (absS s) = absS (endGrace s) := by
  unfold Kp424.endGrace absS abs endGrace
  dsimp only
  rw [List.map_map, List.map_map, List.map_map, List.map_map]
  have e1 : s.executions.map ((fun e => if Kp424.isQueued e = true then { e with progress := .dropped, finishedAt := s.now } else if Kp424.isRunning e = true then { e with progress := .finished Kp424.statusCancelled, stack := [], finishedAt := s.now } else e) ∘ absE (progAt s)) = s.executions.map (absE (progAt s) ∘ endE s.now) := by
    refine List.map_congr_left fun e he => ?_
    show (if Kp424.isQueued (absE (progAt s) e) = true then { absE (progAt s) e with progress := .dropped, finishedAt := s.now } else if Kp424.isRunning (absE (progAt s) e) = true then { absE (progAt s) e with progress := .finished Kp424.statusCancelled, stack := [], finishedAt := s.now } else absE (progAt s) e) = absE (progAt s) (endE s.now e)
    rw [abs_queued, abs_running]
    unfold endE
    by_cases h0 : e.state = 0
    · rw [if_pos (by rw [h0]; rfl), if_pos h0]
      unfold absE progE
      rw [h0]
      rfl
    · rw [if_neg (by rw [beq_eq_false_iff_ne.mpr h0]; decide), if_neg h0]
      by_cases h1 : e.state = 1
      · rw [if_pos (by rw [h1]; rfl), if_pos h1]
        rfl
      · rw [if_neg (by rw [beq_eq_false_iff_ne.mpr h1]; decide), if_neg h1]
  have e2 : s.requests.map ((fun r => if Kp424.isOpen r = true then { r with status := some Kp424.statusCancelled, finishedAt := s.now } else r) ∘ absR) = s.requests.map (absR ∘ endR s.now) := by
    refine List.map_congr_left fun r hr => ?_
    show (if Kp424.isOpen (absR r) = true then { absR r with status := some Kp424.statusCancelled, finishedAt := s.now } else absR r) = absR (endR s.now r)
    unfold endR
    cases h : r.status with
    | none =>
      rw [if_pos (by unfold Kp424.isOpen absR; rw [h]; rfl), if_pos rfl]
      rfl
    | some st =>
      rw [if_neg (by simp [Kp424.isOpen, absR, h]), if_neg (fun z => by cases z)]
  rw [e1, e2]
  rfl
theorem abs_happen (I : Inv k s) (hk : k ≤ 4000000000) {e : E3} (h : nextEv s = some e) (he : e.1 ≤ k) : Kp424.fire { absS s with now := max (absS s).now (toE e).time } (toE e) = absS (happenS s e) := by
  have J := inv_toNow (u := e.1) I he
  have D := J.dl hk
  show Kp424.fire (absS (toNow s e.1)) (toE e) = _
  unfold Kp424.fire happenS
  rcases ev_cases (next_mem h) with ⟨k0, a, b, c⟩ | ⟨k1, a, b, c⟩ | ⟨k2, _, c, d⟩
  · rw [if_pos k0, show (toE e).kind = 0 from k0]
    show Kp424.settle (Kp424.continueExecution (absS (toNow s e.1)) e.2.2) = _
    rw [abs_continue (s := toNow s e.1) J.a.hok a b]
    exact abs_settleS (aok_resume (s := toNow s e.1) J.a a b) (DlOk.resume D) (by rw [(stay_resume _ _).discipline]; exact J.b.dis)
  · rw [if_neg (by omega), if_pos k1, show (toE e).kind = 1 from k1]
    obtain ⟨j, h1, h2, h3⟩ := J.a.req.op _ a b
    rw [show (reqAt s e.2.2).execution = some j from h1]
    show Kp424.endRequest (absS (toNow s e.1)) e.2.2 4 = absS (leave (toNow s e.1) e.2.2 4 j)
    rw [absS_of stay_leave]
    exact abs_leave J.a.hok J.a.wait D J.b.dis a h1 h2 h3
  · rw [if_neg (by omega), if_neg (by omega), show (toE e).kind = 2 from k2]
    exact abs_grace J.st3
theorem abs_until {m : Nat} (hm : m ≤ 4000000000) : ∀ (n fuel : Nat) (s : Srv) (f : Nat), Inv m s → phi2 s ≤ n → phi2 s < fuel → Kp424.fireUntil m fuel (absS s) f = (absS (setNow (advLoop m n s f).1 m), (advLoop m n s f).2) := by
  intro n
  induction n with
  | zero =>
    intro fuel s f I h1 h2
    obtain ⟨q, rfl⟩ : ∃ q, fuel = q + 1 := ⟨fuel - 1, by omega⟩
    rw [Kp424.fireUntil, abs_nextEv]
    cases hn : nextEv s with
    | none => rfl
    | some e =>
      show (if (toE e).time ≤ m then _ else _) = _
      by_cases z : e.1 ≤ m
      · have := phi2_happen I hn z
        omega
      · rw [if_neg (show ¬ (toE e).time ≤ m from z)]
        rfl
  | succ n ih =>
    intro fuel s f I h1 h2
    obtain ⟨q, rfl⟩ : ∃ q, fuel = q + 1 := ⟨fuel - 1, by omega⟩
    rw [Kp424.fireUntil, abs_nextEv, advLoop]
    cases hn : nextEv s with
    | none => rfl
    | some e =>
      show (if (toE e).time ≤ m then _ else _) = _
      dsimp only
      by_cases z : e.1 ≤ m
      · rw [if_pos (show (toE e).time ≤ m from z), if_pos z]
        have lt := phi2_happen I hn z
        have e1 := abs_happen I hm hn z
        rw [show Kp424.fire { absS s with now := max (absS s).now (toE e).time } (toE e) = absS (happenS s e) from e1]
        exact ih q (happenS s e) (f + 1) (inv_happen I hn z) (by omega) (by omega)
      · rw [if_neg (show ¬ (toE e).time ≤ m from z), if_neg z]
        rfl
theorem inv_adv {m : Nat} : ∀ (n : Nat) (s : Srv) (f : Nat), Inv m s → Inv m (advLoop m n s f).1
  | 0, s, f, I => I
  | n + 1, s, f, I => by
    rw [advLoop]
    cases hn : nextEv s with
    | none => exact I
    | some e =>
      dsimp only
      by_cases z : e.1 ≤ m
      · rw [if_pos z]
        exact inv_adv n _ _ (inv_happen I hn z)
      · rw [if_neg z]
        exact I
/-- the loop has come to its end -/
theorem adv_stop {m : Nat} : ∀ (n : Nat) (s : Srv) (f : Nat), Inv m s → phi2 s ≤ n → ∀ e, nextEv (advLoop m n s f).1 = some e → ¬ e.1 ≤ m
  | 0, s, f, I, h, e, he => fun z => by
    have := phi2_happen I he z
    omega
  | n + 1, s, f, I, h, e, he => by
    rw [advLoop] at he
    cases hn : nextEv s with
    | none =>
      rw [hn] at he
      rw [show nextEv s = some e from he] at hn
      cases hn
    | some x =>
      rw [hn] at he
      dsimp only at he
      by_cases z : x.1 ≤ m
      · rw [if_pos z] at he
        have lt := phi2_happen I hn z
        exact adv_stop n _ _ (inv_happen I hn z) (by omega) e he
      · rw [if_neg z] at he
        rw [show nextEv s = some e from he] at hn
        rw [Option.some.inj hn]
        exact z
theorem inv_setNow {m : Nat} (I : Inv m s) : Inv m (setNow s m) := by
  have z := inv_toNow (u := m) I (Nat.le_refl _)
  have e : toNow s m = setNow s m := by
    unfold toNow setNow
    rw [Nat.max_eq_right I.now]
  rw [← e]
  exact z
theorem inv_fire (I : Inv k s) : Inv (k + 100000) (fireS s) := by
  unfold fireS
  cases hn : nextEv s with
  | none => exact I.up (by omega)
  | some e =>
    have := ev_bound I hn
    have := I.now
    exact inv_happen (I.up (by omega)) hn (by omega)
theorem abs_fire (I : Inv k s) (hk : k ≤ 3000000000) : Kp424.fireNext (absS s) = absS (fireS s) := by
  unfold Kp424.fireNext fireS
  rw [abs_nextEv]
  cases hn : nextEv s with
  | none => rfl
  | some e =>
    have := ev_bound I hn
    have := I.now
    exact abs_happen (I.up (j := k + 100000) (by omega)) (by omega) hn (by omega)
theorem inv_run : ∀ (n : Nat) {k : Nat} {s : Srv}, Inv k s → Inv (k + n * 100000) (runS n s)
  | 0, k, s, I => by
    rw [Nat.zero_mul, Nat.add_zero]
    exact I
  | n + 1, k, s, I => by
    have z := inv_run n (inv_fire I)
    rw [Nat.add_mul]
    have e : k + (n * 100000 + 1 * 100000) = k + 100000 + n * 100000 := by omega
    rw [e]
    exact z
theorem abs_run : ∀ (n : Nat) {k : Nat} {s : Srv}, Inv k s → k + n * 100000 ≤ 3000000000 → (List.replicate n 0).foldl (fun (t : Server) (_ : Nat) => Kp424.fireNext t) (absS s) = absS (runS n s)
  | 0, k, s, I, h => rfl
  | n + 1, k, s, I, h => by
    rw [List.replicate_succ, List.foldl_cons, abs_fire I (by omega)]
    exact abs_run n (inv_fire I) (by omega)
end
end KM
/-! lists of new objects; the next event -/
namespace Kc
open PySem PySem.Spec PyProof.Rows L2 KM Evl
section
variable {K : PySem.W.Frag} {mg : Str → Option Value} {T : Cls7} {B : Blt} {σ : L2.St} {H : Hp} {ta tb tc te : TE} {D : Ends} {s : Srv} {L : Loc} {i : Nat}
/-- a new object of which O is true -/
def EvN (te : TE) (σ : L2.St) (H : Hp) (O : HO → Prop) : Prop := ∀ H1, Ex H H1 → ∀ Q : VK, (∀ p o H2, H1 p = none → Ex H1 H2 → H2 p = some o → O o → Q (.ref p) H2) → te σ H1 Q
theorem en_U {xs : List V} (h : EvU te σ H xs) : EvN te σ H (fun o => o = .tup xs) := fun H1 e Q q => h H1 e _ fun p H2 hp e2 h2 => q p _ H2 hp e2 h2 rfl
/-- D is a new list of new objects -/
structure NewL (H0 H : Hp) (Dl : Addr) (O : Nat → HO → Prop) (ps : List Addr) : Prop where
  dl : H0 Dl = none
  ex : Ex H0 H
  lst : H Dl = some (.lst (ps.map V.ref))
  nd : ps.Nodup
  item : ∀ k p, ps[k]? = some p → H0 p = none ∧ p ≠ Dl ∧ ∃ o, O k o ∧ H p = some o
theorem NewL.up {H0 H H1 : Hp} {Dl : Addr} {O : Nat → HO → Prop} {ps : List Addr} (n : NewL H0 H Dl O ps) (e : Ex H H1) : NewL H0 H1 Dl O ps := ⟨n.dl, n.ex.trans e, e _ _ n.lst, n.nd, fun k p h => by
  obtain ⟨a, b, o, c, d⟩ := n.item k p h
  exact ⟨a, b, o, c, e _ _ d⟩⟩
theorem NewL.back {H00 H0 H : Hp} {Dl : Addr} {O : Nat → HO → Prop} {ps : List Addr} (n : NewL H0 H Dl O ps) (e : Ex H00 H0) : NewL H00 H Dl O ps := ⟨fresh_back e n.dl, e.trans n.ex, n.lst, n.nd, fun k p h => by
  obtain ⟨a, b, o, c, d⟩ := n.item k p h
  exact ⟨fresh_back e a, b, o, c, d⟩⟩
/-- one more object at the list's end -/
theorem NewL.push {H0 H H1 : Hp} {Dl p : Addr} {o : HO} {O : Nat → HO → Prop} {ps : List Addr} (n : NewL H0 H Dl O ps) (hp : H p = none) (e : Ex H H1) (h1 : H1 p = some o) (ho : O ps.length o) : NewL H0 (upd H1 Dl (.lst (ps.map V.ref ++ [.ref p]))) Dl O (ps ++ [p]) := by
  have pd : p ≠ Dl := fun z => by rw [z, n.lst] at hp; cases hp
  refine ⟨n.dl, Ex.mut (n.ex.trans e) n.dl, by rw [upd_same, List.map_append]; rfl, ?_, fun k q h => ?_⟩
  · rw [List.nodup_append]
    refine ⟨n.nd, by simp, fun a ha b hb => ?_⟩
    rw [List.mem_singleton.mp hb]
    intro z
    obtain ⟨k, hk⟩ := List.mem_iff_getElem?.mp ha
    obtain ⟨_, _, o', _, d⟩ := n.item k a hk
    rw [z, hp] at d
    cases d
  · rcases app_at h with z | ⟨z1, z2⟩
    · obtain ⟨a, b, o', c, d⟩ := n.item k q z
      exact ⟨a, b, o', c, by rw [upd_ne b]; exact e _ _ d⟩
    · rw [z1, z2]
      exact ⟨fresh_back n.ex hp, pd, o, ho, by rw [upd_ne pd]; exact h1⟩
/-- a comprehension of new objects, over a list -/
theorem el_lcN {a : Addr} {xs : List V} {tl : TE} {j : Nat} {vs : List Nat} (O : Nat → HO → Prop) (h : Ev tl σ H (.ref a)) (hx : SqL K H a xs) (hz : xs.length ≤ 40000) (hw : ∀ x, wipe ((wipe σ vs).set j (some x)) vs = wipe σ vs)
    (he : ∀ (i : Nat) (x : V) H1, Ex H H1 → xs[i]? = some x → EvN te ((wipe σ vs).set j (some x)) H1 (O i)) {H0 : Hp} (e : Ex H H0) {Q : VK} (q : ∀ Dl ps H2, NewL H0 H2 Dl O ps → ps.length = xs.length → Q (.ref Dl) H2) : tLc (iList K tl) (gName j) tYes te vs σ H0 Q :=
  h H0 e _ fun H1 e1 => ⟨a, rfl, ⟨xs, ex_l (e.trans e1) hx⟩, fun Dl hD =>
    lc_list (xs := xs) (fun i H' => ∃ ps, NewL H1 H' Dl O ps ∧ ps.length = i) ⟨[], ⟨hD, Ex.new hD, upd_same, List.nodup_nil, fun k p h => by simp at h⟩, rfl⟩ (fun i H' _ ⟨ps, n, _⟩ => ex_l ((e.trans e1).trans n.ex) hx)
      (fun i x H' hi ⟨ps, n, hl⟩ => ⟨hw x, he i x H' ((e.trans e1).trans n.ex) hi H' (Ex.refl H') _ fun p o H2 hp e2 h2 ho => ⟨ps.map V.ref, e2 _ _ n.lst, by
        rw [List.length_map, hl]
        have := (List.getElem?_eq_some_iff.mp hi).1
        exact sz_lt (by omega), ps ++ [p], n.push hp e2 h2 (by rw [hl]; exact ho), by rw [List.length_append, hl]; rfl⟩⟩)
      (fun H' ⟨ps, n, hl⟩ => q Dl ps H' (n.back e1) hl)⟩
/-- over a new list -/
theorem el_lcNN {xs : List V} {tl : TE} {j : Nat} {vs : List Nat} (O : Nat → HO → Prop) (h : EvL tl σ H xs) (hz : xs.length ≤ 40000) (hw : ∀ x, wipe ((wipe σ vs).set j (some x)) vs = wipe σ vs)
    (he : ∀ (i : Nat) (x : V) H1, Ex H H1 → xs[i]? = some x → EvN te ((wipe σ vs).set j (some x)) H1 (O i)) {H0 : Hp} (e : Ex H H0) {Q : VK} (q : ∀ Dl ps H2, NewL H0 H2 Dl O ps → ps.length = xs.length → Q (.ref Dl) H2) : tLc (iList K tl) (gName j) tYes te vs σ H0 Q :=
  h H0 e _ fun a H1 ha e1 hx => ⟨a, rfl, ⟨xs, sq_of hx⟩, fun Dl hD =>
    lc_list (xs := xs) (fun i H' => ∃ ps, NewL H1 H' Dl O ps ∧ ps.length = i) ⟨[], ⟨hD, Ex.new hD, upd_same, List.nodup_nil, fun k p h => by simp at h⟩, rfl⟩ (fun i H' _ ⟨ps, n, _⟩ => sq_of (n.ex a _ hx))
      (fun i x H' hi ⟨ps, n, hl⟩ => ⟨hw x, he i x H' ((e.trans e1).trans n.ex) hi H' (Ex.refl H') _ fun p o H2 hp e2 h2 ho => ⟨ps.map V.ref, e2 _ _ n.lst, by
        rw [List.length_map, hl]
        have := (List.getElem?_eq_some_iff.mp hi).1
        exact sz_lt (by omega), ps ++ [p], n.push hp e2 h2 (by rw [hl]; exact ho), by rw [List.length_append, hl]; rfl⟩⟩)
      (fun H' ⟨ps, n, hl⟩ => q Dl ps H' (n.back e1) hl)⟩
end
end Kc
/-! upcoming_event -/
namespace Kc
open PySem PySem.Spec PyProof.Rows L2 KM Evl
open PySem.W (Tup minOf)
def trip (e : E3) : List V := [.int (e.1 : Int), .int (e.2.1 : Int), .int (e.2.2 : Int)]
def tripI (e : E3) : List Int := [(e.1 : Int), (e.2.1 : Int), (e.2.2 : Int)]
theorem lt_trip (a b : E3) : PySem.W.DatumOrd.lt (Tup.mk (tripI a)) (Tup.mk (tripI b)) = bef a b := by
  show PySem.W.listLt (tripI a) (tripI b) = _
  unfold tripI bef
  simp only [PySem.W.listLt]
  have h1 : ((a.1 : Int) = (b.1 : Int)) ↔ (a.1 = b.1) := by omega
  have h2 : ((a.2.1 : Int) = (b.2.1 : Int)) ↔ (a.2.1 = b.2.1) := by omega
  have h3 : ((a.2.2 : Int) = (b.2.2 : Int)) ↔ (a.2.2 = b.2.2) := by omega
  have l1 : PySem.W.DatumOrd.lt (a.1 : Int) (b.1 : Int) = decide (a.1 < b.1) := nat_lt _ _
  have l2 : PySem.W.DatumOrd.lt (a.2.1 : Int) (b.2.1 : Int) = decide (a.2.1 < b.2.1) := nat_lt _ _
  have l3 : PySem.W.DatumOrd.lt (a.2.2 : Int) (b.2.2 : Int) = decide (a.2.2 < b.2.2) := nat_lt _ _
  rw [l1, l2, l3, Bool.eq_iff_iff]
  simp only [h1, h2, h3, Bool.or_eq_true, Bool.and_eq_true, decide_eq_true_eq, beq_iff_eq]
  by_cases z1 : a.1 = b.1
  · rw [if_pos z1]
    by_cases z2 : a.2.1 = b.2.1
    · rw [if_pos z2]
      by_cases z3 : a.2.2 = b.2.2
      · rw [if_pos z3]
        constructor
        · intro h
          cases h
        · intro h
          omega
      · rw [if_neg z3, decide_eq_true_eq]
        omega
    · rw [if_neg z2, decide_eq_true_eq]
      omega
  · rw [if_neg z1, decide_eq_true_eq]
    omega
theorem leastT_trip : ∀ (l : List E3) (e : E3), leastT (tripI e) (l.map tripI) = tripI (leastE e l) := by
  intro l
  induction l with
  | nil => intro e; rfl
  | cons y l ih =>
    intro e
    unfold leastT minOf leastE at *
    rw [List.map_cons, List.map_cons, List.foldl_cons, List.foldl_cons, lt_trip]
    by_cases h : bef y e = true
    · rw [if_pos h, if_pos h]
      exact ih y
    · rw [if_neg h, if_neg h]
      exact ih e
/-- the list of events, new; what lies in it is new -/
structure TupL (H0 H : Hp) (Dl : Addr) (es : List E3) (ps : List Addr) : Prop where
  dl : H0 Dl = none
  ex : Ex H0 H
  lst : H Dl = some (.lst (ps.map V.ref))
  len : ps.length = es.length
  item : ∀ (k : Nat) (p : Addr), ps[k]? = some p → p ≠ Dl ∧ H0 p = none ∧ ∃ e, es[k]? = some e ∧ H p = some (.tup (trip e))
section
variable {K : PySem.W.Frag} {mg : Str → Option Value} {T : Cls7} {B : Blt} {σ : L2.St} {H : Hp} {ta tb tc te : TE} {D : Ends} {s : Srv} {L : Loc} {i : Nat}
theorem TupL.of {H0 H : Hp} {Dl : Addr} {es : List E3} {ps : List Addr} (n : NewL H0 H Dl (fun k o => ∃ e, es[k]? = some e ∧ o = .tup (trip e)) ps) (hl : ps.length = es.length) : TupL H0 H Dl es ps := ⟨n.dl, n.ex, n.lst, hl, fun k p h => by
  obtain ⟨a, b, o, ⟨e, c1, c2⟩, d⟩ := n.item k p h
  exact ⟨b, a, e, c1, by rw [d, c2]⟩⟩
theorem TupL.up {H0 H H1 : Hp} {Dl : Addr} {es : List E3} {ps : List Addr} (n : TupL H0 H Dl es ps) (e : Ex H H1) : TupL H0 H1 Dl es ps := ⟨n.dl, n.ex.trans e, e _ _ n.lst, n.len, fun k p h => by
  obtain ⟨a, b, x, c, d⟩ := n.item k p h
  exact ⟨a, b, x, c, e _ _ d⟩⟩
theorem TupL.cat {H0 H H1 H2 : Hp} {Dl D2 : Addr} {es es2 : List E3} {ps ps2 : List Addr} (n : TupL H0 H Dl es ps) (e : Ex H H1) (m : TupL H1 H2 D2 es2 ps2) : TupL H0 (upd H2 Dl (.lst (ps.map V.ref ++ ps2.map V.ref))) Dl (es ++ es2) (ps ++ ps2) := by
  have n1 := n.up e
  refine ⟨n.dl, Ex.mut (n1.ex.trans m.ex) n.dl, by rw [upd_same, List.map_append], by rw [List.length_append, List.length_append, n.len, m.len], fun k p h => ?_⟩
  by_cases z : k < ps.length
  · rw [List.getElem?_append_left z] at h
    obtain ⟨a, b, x, c, d⟩ := n1.item k p h
    exact ⟨a, b, x, by rw [List.getElem?_append_left (by rw [← n.len]; exact z)]; exact c, by rw [upd_ne a]; exact m.ex _ _ d⟩
  · rw [List.getElem?_append_right (by omega)] at h
    obtain ⟨a, b, x, c, d⟩ := m.item _ p h
    have pd : p ≠ Dl := fun y => by rw [y, n1.lst] at b; cases b
    exact ⟨pd, fresh_back n1.ex b, x, by rw [List.getElem?_append_right (by rw [← n.len]; omega), ← n.len]; exact c, by rw [upd_ne pd]; exact d⟩
theorem TupL.one {H0 H H1 : Hp} {Dl p : Addr} {es : List E3} {e : E3} {ps : List Addr} (n : TupL H0 H Dl es ps) (e1 : Ex H H1) (hp : H p = none) (h1 : H1 p = some (.tup (trip e))) : TupL H0 (upd H1 Dl (.lst (ps.map V.ref ++ [.ref p]))) Dl (es ++ [e]) (ps ++ [p]) := by
  have n1 := n.up e1
  have pd : p ≠ Dl := fun y => by rw [y, n.lst] at hp; cases hp
  refine ⟨n.dl, Ex.mut n1.ex n.dl, by rw [upd_same, List.map_append]; rfl, by rw [List.length_append, List.length_append, n.len]; rfl, fun k q h => ?_⟩
  rcases app_at h with z | ⟨z1, z2⟩
  · obtain ⟨a, b, x, c, d⟩ := n1.item k q z
    exact ⟨a, b, x, app_old c, by rw [upd_ne a]; exact d⟩
  · rw [z2]
    exact ⟨pd, fresh_back n.ex hp, e, by rw [z1, n.len]; exact app_new, by rw [upd_ne pd]; exact h1⟩
theorem q_asgLcNN {xs : List V} {tl : TE} {j k : Nat} {vs : List Nat} {tz : TS} (O : Nat → HO → Prop) (h : EvL tl σ H xs) (hz : xs.length ≤ 40000) (hw : ∀ x, wipe ((wipe σ vs).set j (some x)) vs = wipe σ vs)
    (he : ∀ (i : Nat) (x : V) H1, Ex H H1 → xs[i]? = some x → EvN te ((wipe σ vs).set j (some x)) H1 (O i)) (q : ∀ Dl ps H2, NewL H H2 Dl O ps → ps.length = xs.length → tz D (σ.set k (some (.ref Dl))) H2) : tSeq (tAsg (tLc (iList K tl) (gName j) tYes te vs) (gName k)) tz D σ H :=
  el_lcNN (Q := fun v H2 => tz D (σ.set k (some v)) H2) O h hz hw he (Ex.refl H) q
theorem q_extLcNN {xs zs : List V} {l : Addr} {tl : TE} {j : Nat} {vs : List Nat} {tz : TS} (O : Nat → HO → Prop) (hl : H l = some (.lst zs)) (ha : Ev ta σ H (.ref l)) (h : EvL tl σ H xs) (hz : xs.length ≤ 40000) (hz2 : zs.length ≤ 40000) (hw : ∀ x, wipe ((wipe σ vs).set j (some x)) vs = wipe σ vs)
    (he : ∀ (i : Nat) (x : V) H1, Ex H H1 → xs[i]? = some x → EvN te ((wipe σ vs).set j (some x)) H1 (O i)) (q : ∀ H1 Dl ps H2, Ex H H1 → NewL H1 H2 Dl O ps → ps.length = xs.length → tz D σ (upd H2 l (.lst (zs ++ ps.map V.ref)))) :
    tSeq (tDrop (tBM K "list" rExtend ta (tCons (tLc (iList K tl) (gName j) tYes te vs) tNil))) tz D σ H := ha H (Ex.refl H) _ fun H1 e1 =>
  ⟨Or.inl ⟨rfl, zs, sq_of (e1 l _ hl)⟩, el_lcNN (Q := fun v H2 => rExtend (.ref l) [v] H2 fun _ H3 => tz D σ H3) O h hz hw he e1 fun Dl ps H2 n hn => ⟨l, Dl, zs, _, rfl, rfl, n.ex _ _ (e1 l _ hl), n.lst, by
    rw [List.length_map, hn]
    exact sz_of (by omega), q H1 Dl ps H2 e1 n hn⟩⟩
/-! upcoming_event -/
def spUpcoming (T : Cls7) : Sp := fun vs H Q _ => ∃ (s : Srv) (L : Loc), vs = [.ref (L.at_ .srv)] ∧ Rep T s L H ∧ s.executions.length ≤ 1000 ∧ s.requests.length ≤ 1000 ∧ (nextEv s = none → RetV .non H Q) ∧
  ∀ e, nextEv s = some e → ∀ p H1, H p = none → Ex H H1 → H1 p = some (.tup (trip e)) → Q (.ref p) H1
theorem dpAll_of {H : Hp} : ∀ {xs : List V} {ds : List PyData}, xs.length = ds.length → (∀ (k : Nat) (x : V) (d : PyData), xs[k]? = some x → ds[k]? = some d → Dp K H x d) → DpAll K H xs ds
  | [], [], _, _ => .nil
  | [], _ :: _, h, _ => by cases h
  | _ :: _, [], h, _ => by cases h
  | x :: xs, d :: ds, h, k => .cons (k 0 x d rfl rfl) (dpAll_of (Nat.succ.inj h) fun n y e h1 h2 => k (n + 1) y e h1 h2)
theorem ret_min {H0 : Hp} {Dl : Addr} {es : List E3} {ps : List Addr} {j : Nat} (n : TupL H0 H Dl es ps) (ha : σ[j]? = some (some (.ref Dl))) (k0 : es = [] → RetV .non H D.rt) (k1 : ∀ x l, es = x :: l → ∀ p H1, H0 p = none → Ex H H1 → H1 p = some (.tup (trip (leastE x l))) → D.rt (.ref p) H1) :
    tRet (tCKw (rMinT K) (tCons (tVar j) tNil) (tCons (tC .non) tNil)) D σ H :=
  (ev_var (v := .ref Dl) ha) H (Ex.refl H) _ fun H1 e1 => ⟨Dl, ps.map V.ref, es.map tripI, .non, rfl, rfl, sq_of (e1 _ _ n.lst), by
    refine dpAll_of (by simp [n.len]) fun k x d hx hd => ?_
    rw [List.getElem?_map] at hx
    obtain ⟨p, hp, rfl⟩ := Option.map_eq_some_iff.mp hx
    obtain ⟨_, _, e, he, ht⟩ := n.item k p hp
    rw [List.map_map, List.getElem?_map, he] at hd
    cases hd
    exact .tup (st_of (e1 _ _ ht)) (.cons (.int _) (.cons (.int _) (.cons (.int _) .nil))), fun z => k0 (List.map_eq_nil_iff.mp z) H1 e1, fun t r k x ht hx hk => by
    cases es with
    | nil => cases ht
    | cons e l =>
      rw [List.map_cons] at ht
      cases ht
      rw [leastT_trip] at hk
      rw [List.getElem?_map] at hx hk
      obtain ⟨p, hp, rfl⟩ := Option.map_eq_some_iff.mp hx
      obtain ⟨_, pn, e', he, ht⟩ := n.item k p hp
      rw [he] at hk
      have inj : e' = leastE e l := by
        have z := Option.some.inj hk
        unfold tripI at z
        simp only [List.cons.injEq, and_true] at z
        obtain ⟨z1, z2, z3⟩ := z
        refine Prod.ext (by omega) (Prod.ext (by omega) (by omega))
      exact k1 e l rfl p H1 pn e1 (by rw [← inj]; exact e1 _ _ ht)⟩
theorem rd_upcoming_event (X : Txt K mg T B) (vs : List V) (H : Hp) (Q : VK) (E : XK) (h : spUpcoming T vs H Q E) : t_upcoming_event K T (spInState T) (spOpen T) { nx := fun _ H' => Q .non H', rt := Q } (start N_upcoming_event vs) H := by
  obtain ⟨s, L, rfl, R, hn, hr, k0, k1⟩ := h
  have l1 : (inState s 1).length ≤ 1000 := Nat.le_trans (List.length_filter_le _ _) (by rw [List.length_range]; exact hn)
  have l2 : (openReqs s).length ≤ 1000 := Nat.le_trans (List.length_filter_le _ _) (by rw [List.length_range]; exact hr)
  refine q_asgLcNN (fun k o => ∃ e, (runEv s)[k]? = some e ∧ o = .tup (trip e)) (el_call (ea_cons (ev_var rfl) (ea_cons (ev_c (v := .int ((1 : Nat) : Int))) ea_nil)) (spl_in_state R hn)) (by unfold exeRefs; rw [List.length_map]; omega) (fun x => rfl) (fun k x H1 e1 hx => ?_) fun Dl ps H1 n1 hl1 => ?_
  · unfold exeRefs at hx
    rw [List.getElem?_map] at hx
    obtain ⟨i, hi, rfl⟩ := Option.map_eq_some_iff.mp hx
    have hm := inState_mem.mp (List.mem_of_getElem? hi)
    have R1 := R.ex e1
    have z := en_U (eu_tup (ta := tCons (tFld K (tVar 2) "wakes_at") (tCons (tC (.int 0)) (tCons (tFld K (tVar 2) "number") tNil))) (ea_cons (evE_wakes_at X R1 (exe_some hm.1) (ev_var rfl)) (ea_cons (ev_c (v := .int ((0 : Nat) : Int))) (ea_cons (evE_number X R1 (exe_some hm.1) (ev_var (σ := [some (.ref (L.at_ .srv)), none, some (.ref (L.at_ (.exe i))), none]) rfl)) ea_nil))) (by show 3 ≤ 100000; decide))
    exact fun H2 e2 Q2 q2 => z H2 e2 Q2 fun p o H3 hp e3 h3 ho => q2 p o H3 hp e3 h3 ⟨((exeAt s i).wakesAt, 0, i), by unfold runEv; rw [List.getElem?_map, hi]; rfl, ho⟩
  · have t1 : TupL H H1 Dl (runEv s) ps := TupL.of n1 (by rw [hl1]; unfold exeRefs runEv; rw [List.length_map, List.length_map])
    have R1 := R.ex t1.ex
    refine q_extLcNN (fun k o => ∃ e, (dlEv s)[k]? = some e ∧ o = .tup (trip e)) t1.lst (ev_var rfl) (el_call (ea_cons (ev_var rfl) ea_nil) (spl_open R1 hr)) (by unfold reqRefs; rw [List.length_map]; omega) (by rw [List.length_map, t1.len]; unfold runEv; rw [List.length_map]; omega) (fun x => rfl) (fun k x H2 e2 hx => ?_) fun H2 D2 ps2 H3 e2 n2 hl2 => ?_
    · unfold reqRefs at hx
      rw [List.getElem?_map] at hx
      obtain ⟨i, hi, rfl⟩ := Option.map_eq_some_iff.mp hx
      have hm := open_lt (List.mem_of_getElem? hi)
      have R2 := R1.ex e2
      have z := en_U (eu_tup (ta := tCons (tFld K (tVar 3) "deadline") (tCons (tC (.int 1)) (tCons (tFld K (tVar 3) "number") tNil))) (ea_cons (evR_deadline X R2 (req_some hm) (ev_var rfl)) (ea_cons (ev_c (v := .int ((1 : Nat) : Int))) (ea_cons (evR_number X R2 (req_some hm) (ev_var (σ := [some (.ref (L.at_ .srv)), some (.ref Dl), none, some (.ref (L.at_ (.req i)))]) rfl)) ea_nil))) (by show 3 ≤ 100000; decide))
      exact fun H3 e3 Q2 q2 => z H3 e3 Q2 fun p o H4 hp e4 h4 ho => q2 p o H4 hp e4 h4 ⟨((reqAt s i).deadline, 1, i), by unfold dlEv; rw [List.getElem?_map, hi]; rfl, ho⟩
    · have t2 : TupL H2 H3 D2 (dlEv s) ps2 := TupL.of n2 (by rw [hl2]; unfold reqRefs dlEv; rw [List.length_map, List.length_map])
      have t3 := t1.cat e2 t2
      generalize hH4 : upd H3 Dl (.lst (ps.map V.ref ++ ps2.map V.ref)) = H4 at t3 ⊢
      have R4 := R.ex t3.ex
      -- behind the third statement
      have fin : ∀ (es : List E3) (qs : List Addr) (H5 : Hp), es = evsOf s → TupL H H5 Dl es qs → tRet (tCKw (rMinT K) (tCons (tVar 1) tNil) (tCons (tC .non) tNil)) { nx := fun _ H' => Q .non H', rt := Q } [some (.ref (L.at_ .srv)), some (.ref Dl), none, none] H5 := fun es qs H5 he t5 => by
        refine ret_min t5 rfl (fun z => ?_) fun x l hx p H6 hp e6 h6 => ?_
        · have zn : nextEv s = none := by
            unfold nextEv
            rw [← he, z]
          exact fun H6 e6 => k0 zn H6 (t5.ex.trans e6)
        · refine k1 (leastE x l) ?_ p H6 hp (t5.ex.trans e6) h6
          unfold nextEv
          rw [← he, hx]
      refine q_when (b := !(s.graceEnd == none) && !s.graceOver) (et_and (et_is (et_test (ev_op (evS_grace_end X R4 (ev_var rfl)) ev_c rv_notN)) (by rw [opt_non])) fun _ => et_not (et_B (evS_grace_over X R4 (ev_var rfl)))) (fun hb H5 e5 => ?_) fun hb H5 e5 => ?_
      · rw [Bool.and_eq_true] at hb
        obtain ⟨hb1, hb2⟩ := hb
        cases hg : s.graceEnd with
        | none =>
          rw [hg] at hb1
          cases hb1
        | some t =>
          have ho : s.graceOver = false := by simpa using hb2
          have t5 := t3.up e5
          have R5 := R4.ex e5
          have ge := evS_grace_end X R5 (σ := [some (.ref (L.at_ .srv)), some (.ref Dl), none, none]) (ta := tVar 0) (ev_var rfl)
          rw [hg] at ge
          refine s_appU (xs := (ps ++ ps2).map V.ref) t5.lst (ev_var rfl) (eu_tup (ea_cons ge (ea_cons (ev_c (v := .int ((2 : Nat) : Int))) (ea_cons (ev_c (v := .int ((0 : Nat) : Int))) ea_nil))) (by show 3 ≤ 100000; decide)) (by
            rw [List.length_map, t5.len, List.length_append]
            unfold runEv dlEv
            rw [List.length_map, List.length_map]
            omega) fun p H6 hp e6 h6 => ?_
          have t6 := t5.one e6 hp (e := (t, 2, 0)) h6
          refine fin _ _ _ ?_ t6
          unfold evsOf
          have g0 : graceEv s = [(t, 2, 0)] := by
            unfold graceEv
            rw [hg, ho]
            rfl
          rw [g0, List.append_assoc]
      · refine fin _ _ H5 ?_ (t3.up e5)
        unfold evsOf
        have g0 : graceEv s = [] := by
          unfold graceEv
          cases hg : s.graceEnd with
          | none => rfl
          | some t =>
            rw [hg] at hb
            have : s.graceOver = true := by
              cases q : s.graceOver with
              | true => rfl
              | false =>
                rw [q] at hb
                cases hb
            show (if s.graceOver = true then [] else _) = []
            rw [if_pos this]
        rw [g0, List.append_nil]
end
end Kc
/-! end_grace -/
namespace KM
def mapE (s : Srv) (l : List Nat) (h : Exe → Exe) : Srv := l.foldl (fun t i => setE t i (h (exeAt t i))) s
def dE (now : Nat) (e : Exe) : Exe := { e with state := 3, finishedAt := now }
def fE (now : Nat) (e : Exe) : Exe := { e with state := 2, status := 1, finishedAt := now }
theorem drop_fold : ∀ (l : List Nat) (s : Srv), l.foldl dropped s = mapE s l (dE s.now)
  | [], _ => rfl
  | i :: l, s => drop_fold l (dropped s i)
theorem fin_fold : ∀ (l : List Nat) (s : Srv), l.foldl (fun t i => finishE t i 1) s = mapE s l (fE s.now)
  | [], _ => rfl
  | i :: l, s => fin_fold l (finishE s i 1)
theorem end_fold (st : Nat) (l : List Nat) (s : Srv) : l.foldl (fun t r => endReq t r st) s = endAll s st l := rfl
theorem stay_mapE (h : Exe → Exe) : ∀ (l : List Nat) (s : Srv), Stay s (mapE s l h)
  | [], s => Stay.refl s
  | i :: l, s => (stay_setE s i _).trans (stay_mapE h l (setE s i (h (exeAt s i))))
theorem mapE_rest (h : Exe → Exe) : ∀ (l : List Nat) (s : Srv), (mapE s l h).requests = s.requests ∧ (mapE s l h).registers = s.registers ∧ (mapE s l h).average = s.average
  | [], s => ⟨rfl, rfl, rfl⟩
  | i :: l, s => mapE_rest h l (setE s i (h (exeAt s i)))
theorem mapE_at (h : Exe → Exe) {j : Nat} : ∀ (l : List Nat) (s : Srv), l.Nodup → j < s.executions.length → exeAt (mapE s l h) j = if j ∈ l then h (exeAt s j) else exeAt s j
  | [], s, _, _ => rfl
  | i :: l, s, nd, hj => by
    rw [List.nodup_cons] at nd
    have hj' : j < (setE s i (h (exeAt s i))).executions.length := by rw [(stay_setE s i _).ne]; exact hj
    show exeAt (mapE (setE s i (h (exeAt s i))) l h) j = _
    rw [mapE_at h l _ nd.2 hj']
    by_cases z : j = i
    · subst z
      rw [if_neg nd.1, if_pos List.mem_cons_self]
      exact exeAt_of (setOn hj)
    · have e : exeAt (setE s i (h (exeAt s i))) j = exeAt s j := exeAt_eq (setOff z)
      rw [e]
      by_cases m : j ∈ l
      · rw [if_pos m, if_pos (List.mem_cons_of_mem _ m)]
      · rw [if_neg m, if_neg fun q => (List.mem_cons.mp q).elim z m]
/-- what the program does at the end of the grace period -/
def grace0 (s : Srv) : Srv := { s with graceOver := true }
def grace1 (s : Srv) : Srv := (inState (grace0 s) 0).foldl dropped (grace0 s)
def grace2 (s : Srv) : Srv := (inState (grace1 s) 1).foldl (fun t i => finishE t i 1) (grace1 s)
def grace3 (s : Srv) : Srv := (openReqs (grace2 s)).foldl (fun t r => endReq t r 1) (grace2 s)
theorem inState_nodup {s : Srv} {st : Nat} : (inState s st).Nodup := (inState_sorted (s := s) (st := st)).imp fun h => Nat.ne_of_lt h
theorem exe_list {s : Srv} {l : List Exe} (h1 : s.executions.length = l.length) (h2 : ∀ j, j < l.length → exeAt s j = l.getD j exe0) : s.executions = l := by
  refine List.ext_getElem? fun j => ?_
  by_cases z : j < l.length
  · rw [exe_some (by omega), h2 j z, List.getD_eq_getElem?_getD, List.getElem?_eq_getElem z]
    rfl
  · rw [List.getElem?_eq_none (by omega), List.getElem?_eq_none (by omega)]
theorem req_list {s : Srv} {l : List Req} (h1 : s.requests.length = l.length) (h2 : ∀ j, j < l.length → reqAt s j = l.getD j req0) : s.requests = l := by
  refine List.ext_getElem? fun j => ?_
  by_cases z : j < l.length
  · rw [req_some (by omega), h2 j z, List.getD_eq_getElem?_getD, List.getElem?_eq_getElem z]
    rfl
  · rw [List.getElem?_eq_none (by omega), List.getElem?_eq_none (by omega)]
theorem getD_map' {α β : Type} {f : α → β} {l : List α} {a : α} {b : β} {j : Nat} (h : j < l.length) : (l.map f).getD j b = f (l.getD j a) := by
  rw [List.getD_eq_getElem?_getD, List.getD_eq_getElem?_getD, List.getElem?_map, List.getElem?_eq_getElem h]
  rfl
theorem srv_eq {s t : Srv} (h : Stay s t) (h1 : t.executions = s.executions) (h2 : t.requests = s.requests) (h3 : t.registers = s.registers) (h4 : t.average = s.average) : t = s := by
  obtain ⟨a1, a2, a3, a4, a5, a6, a7, a8, _, _, a11, a12⟩ := h
  cases s
  cases t
  simp only at a1 a2 a3 a4 a5 a6 a7 a8 a11 a12 h1 h2 h3 h4
  subst a1 a2 a3 a4 a5 a6 a7 a8 a11 a12 h1 h2 h3 h4
  rfl
theorem grace_eq (s : Srv) : grace3 s = endGrace s := by
  have s1 : Stay (grace0 s) (grace1 s) := by unfold grace1; rw [drop_fold]; exact stay_mapE _ _ _
  have s2 : Stay (grace1 s) (grace2 s) := by unfold grace2; rw [fin_fold]; exact stay_mapE _ _ _
  have s3 : Stay (grace2 s) (grace3 s) := stay_endAll 1 _ _
  have s03 := (s1.trans s2).trans s3
  have r1 : (grace1 s).requests = s.requests ∧ (grace1 s).registers = s.registers ∧ (grace1 s).average = s.average := by unfold grace1; rw [drop_fold]; exact mapE_rest _ _ _
  have r2 : (grace2 s).requests = (grace1 s).requests ∧ (grace2 s).registers = (grace1 s).registers ∧ (grace2 s).average = (grace1 s).average := by unfold grace2; rw [fin_fold]; exact mapE_rest _ _ _
  have e0 : (grace3 s).executions = (grace2 s).executions := endAll_exes 1 _ _
  have n1 : (grace1 s).now = s.now := s1.now
  have n2 : (grace2 s).now = s.now := s2.now.trans s1.now
  have le1 : (grace1 s).executions.length = s.executions.length := s1.ne
  have le2 : (grace2 s).executions.length = s.executions.length := s2.ne.trans s1.ne
  have ex : (grace3 s).executions = s.executions.map (endE s.now) := by
    rw [e0]
    refine exe_list (by rw [le2, List.length_map]) fun j hj => ?_
    rw [List.length_map] at hj
    rw [getD_map' (a := exe0) hj]
    show exeAt (grace2 s) j = endE s.now (exeAt s j)
    have a1 : exeAt (grace1 s) j = if j ∈ inState (grace0 s) 0 then dE s.now (exeAt s j) else exeAt s j := by
      unfold grace1
      rw [drop_fold]
      exact mapE_at _ _ (grace0 s) inState_nodup hj
    have a2 : exeAt (grace2 s) j = if j ∈ inState (grace1 s) 1 then fE s.now (exeAt (grace1 s) j) else exeAt (grace1 s) j := by
      unfold grace2
      rw [fin_fold, n1]
      exact mapE_at _ _ (grace1 s) inState_nodup (by rw [le1]; exact hj)
    have m1 : j ∈ inState (grace0 s) 0 ↔ (exeAt s j).state = 0 := by
      rw [Kc.inState_mem]
      exact ⟨fun h => h.2, fun h => ⟨hj, h⟩⟩
    have m2 : j ∈ inState (grace1 s) 1 ↔ (exeAt (grace1 s) j).state = 1 := by
      rw [Kc.inState_mem]
      exact ⟨fun h => h.2, fun h => ⟨by rw [le1]; exact hj, h⟩⟩
    unfold endE
    by_cases z0 : (exeAt s j).state = 0
    · rw [if_pos (m1.mpr z0)] at a1
      have : ¬ j ∈ inState (grace1 s) 1 := fun q => by
        have := m2.mp q
        rw [a1] at this
        cases this
      rw [a2, if_neg this, a1, if_pos z0]
      rfl
    · rw [if_neg (fun q => z0 (m1.mp q))] at a1
      rw [if_neg z0]
      by_cases z1 : (exeAt s j).state = 1
      · rw [a2, if_pos (m2.mpr (by rw [a1]; exact z1)), a1, if_pos z1]
        rfl
      · rw [a2, if_neg (fun q => z1 (by rw [← a1]; exact m2.mp q)), a1, if_neg z1]
  have rq : (grace3 s).requests = s.requests.map (endR s.now) := by
    have nr2 : (grace2 s).requests = s.requests := r2.1.trans r1.1
    have ra : ∀ k, reqAt (grace2 s) k = reqAt s k := fun k => by unfold reqAt; rw [nr2]
    refine req_list (by rw [s3.nr, nr2, List.length_map]) fun k hk => ?_
    rw [List.length_map] at hk
    rw [getD_map' (a := req0) hk]
    show reqAt (endAll (grace2 s) 1 (openReqs (grace2 s))) k = endR s.now (reqAt s k)
    have hk2 : k < (grace2 s).requests.length := by rw [nr2]; exact hk
    unfold endR
    by_cases z : (reqAt s k).status = none
    · have m : k ∈ openReqs (grace2 s) := List.mem_filter.mpr ⟨List.mem_range.mpr hk2, by rw [ra, z]; rfl⟩
      rw [if_pos z, Kc.endAll_in _ _ m hk2, ra, n2]
    · have m : k ∉ openReqs (grace2 s) := fun q => z (by
        have := (List.mem_filter.mp q).2
        rw [ra] at this
        exact eq_of_beq this)
      rw [if_neg z, Kc.endAll_out _ _ m, ra]
  refine srv_eq (s := endGrace s) ⟨s03.limit, s03.queueLimit, s03.discipline, s03.shedding, s03.lifetime, s03.now, s03.methods, s03.clients, by rw [ex]; rfl, by rw [rq]; rfl, s03.graceEnd, s03.graceOver⟩ ex rq ?_ ?_
  · show (endAll (grace2 s) 1 _).registers = s.registers
    rw [endAll_regs]
    exact r2.2.1.trans r1.2.1
  · show (endAll (grace2 s) 1 _).average = s.average
    rw [endAll_avg]
    exact r2.2.2.trans r1.2.2
end KM
namespace Kc
open PySem PySem.Spec PyProof.Rows L2 KM Evl
section
variable {K : PySem.W.Frag} {mg : Str → Option Value} {T : Cls7} {B : Blt} {σ : L2.St} {H : Hp} {ta tb tc te : TE} {D : Ends} {s : Srv} {L : Loc} {i : Nat}
/-- a walk over some of the server's objects that changes the server -/
theorem s_forGo {f : Srv → Nat → Srv} {l : List Nat} {mk : Nat → Role} {tl : TE} {j : Nat} {tu : TS} {v0 : Option V} (R : Rep T s L H) (hl : EvL tl σ H (l.map fun i => V.ref (L.at_ (mk i)))) (hσ : σ.set j v0 = σ)
    (body : ∀ (t : Srv) (r n : Nat) (H0 H' : Hp) (D' : Ends), l[n]? = some r → t = (l.take n).foldl f s → Go T s L H0 t L H' → (∀ H'', Go T t L H' (f t r) L H'' → D'.nx (σ.set j (some (.ref (L.at_ (mk r))))) H'') → tu D' (σ.set j (some (.ref (L.at_ (mk r))))) H')
    (k : ∀ H' v, Go T s L H (l.foldl f s) L H' → D.nx (σ.set j v) H') : tFor (iList K tl) (gName j) tu D σ H := by
  refine s_forNL hl (fun p n σ' H' => H p = none ∧ ∃ (v : Option V) (H8 : Hp), σ' = σ.set j v ∧ Ex H H8 ∧ H8 p = some (.lst (l.map fun i => V.ref (L.at_ (mk i)))) ∧ Go T s L H8 ((l.take n).foldl f s) L H')
    (fun p H8 hp e8 h8 => ⟨hp, v0, H8, hσ.symm, e8, h8, Go.refl (R.ex e8)⟩) (fun p n σ' H' _ ⟨hp, v, H8, _, e8, h8, g8⟩ => sq_of (g8.kept R (new_of hp) h8)) (fun p n x σ' H' hx ⟨hp, v, H8, hs, e8, h8, g8⟩ => ?_) fun p σ' H' ⟨hp, v, H8, hs, e8, h8, g8⟩ => ?_
  · rw [List.getElem?_map] at hx
    obtain ⟨r, hr, hx⟩ := Option.map_eq_some_iff.mp hx
    subst hx
    subst hs
    show tu _ ((σ.set j v).set j _) H'
    rw [List.set_set]
    refine body _ r n H8 H' _ hr rfl g8 fun H'' g => ⟨hp, some (.ref (L.at_ (mk r))), H8, rfl, e8, h8, ?_⟩
    have e : (l.take (n + 1)).foldl f s = f ((l.take n).foldl f s) r := by
      rw [take_next hr, List.foldl_append]
      rfl
    rw [e]
    exact g8.trans g
  · rw [List.length_map, List.take_length] at g8
    rw [hs]
    exact k H' v ((Go.ex R e8).trans g8)
theorem q_forGo {f : Srv → Nat → Srv} {l : List Nat} {mk : Nat → Role} {tl : TE} {j : Nat} {tu tz : TS} {v0 : Option V} (R : Rep T s L H) (hl : EvL tl σ H (l.map fun i => V.ref (L.at_ (mk i)))) (hσ : σ.set j v0 = σ)
    (body : ∀ (t : Srv) (r n : Nat) (H0 H' : Hp) (D' : Ends), l[n]? = some r → t = (l.take n).foldl f s → Go T s L H0 t L H' → (∀ H'', Go T t L H' (f t r) L H'' → D'.nx (σ.set j (some (.ref (L.at_ (mk r))))) H'') → tu D' (σ.set j (some (.ref (L.at_ (mk r))))) H')
    (k : ∀ H' v, Go T s L H (l.foldl f s) L H' → tz D (σ.set j v) H') : tSeq (tFor (iList K tl) (gName j) tu) tz D σ H := s_forGo (D := { D with nx := tz D }) R hl hσ body k
/-! end_grace -/
def spGrace (T : Cls7) : Sp := fun vs H Q _ => ∃ (s : Srv) (L : Loc), vs = [.ref (L.at_ .srv)] ∧ Rep T s L H ∧ s.executions.length ≤ 1000 ∧ s.requests.length ≤ 1000 ∧ ∀ H', Go T s L H (endGrace s) L H' → Q .non H'
theorem stay_foldE {f : Srv → Nat → Srv} (hf : ∀ t i, Stay t (f t i)) : ∀ (l : List Nat) (s : Srv), Stay s (l.foldl f s)
  | [], s => Stay.refl s
  | i :: l, s => (hf s i).trans (stay_foldE hf l (f s i))
theorem rd_end_grace (X : Txt K mg T B) (vs : List V) (H : Hp) (Q : VK) (E : XK) (h : spGrace T vs H Q E) : t_end_grace K T (spInState T) (spDrop T) (spFinish T) (spOpen T) (spEndReq T) { nx := fun _ H' => Q .non H', rt := Q } (start N_end_grace vs) H := by
  obtain ⟨s, L, rfl, R, hn, hr, k⟩ := h
  rw [← grace_eq] at k
  refine wS_grace_over (D := { nx := _, ct := _, bk := _, rt := Q }) X R (ev_c (v := .bl true)) (ev_var rfl) fun H1 g1 => ?_
  change Go T s L H (grace0 s) L H1 at g1
  have R1 := g1.rep
  have s1 : Stay (grace0 s) (grace1 s) := stay_foldE (fun t i => stay_setE t i _) _ _
  have s2 : Stay (grace1 s) (grace2 s) := stay_foldE (fun t i => stay_setE t i _) _ _
  refine q_forGo (f := dropped) (l := inState (grace0 s) 0) (mk := .exe) (v0 := none) R1 (el_call (ea_cons (ev_var rfl) (ea_cons (ev_c (v := .int ((0 : Nat) : Int))) ea_nil)) (spl_in_state R1 hn)) rfl (fun t r n H0 H' D' hr ht g k => ?_) fun H2 v g2 => ?_
  · refine s_dropCall (ea_cons (ev_var rfl) (ea_cons (ev_var rfl) ea_nil)) fun H3 e3 => ⟨t, L, r, rfl, g.rep.ex e3, ?_, fun H4 g4 => k H4 ((Go.ex g.rep e3).trans g4)⟩
    rw [ht, (stay_foldE (f := dropped) (fun t i => stay_setE t i _) _ _).ne]
    exact (inState_mem.mp (List.mem_of_getElem? hr)).1
  have G2 : Go T s L H (grace1 s) L H2 := g1.trans g2
  have R2 := G2.rep
  refine q_forGo (f := fun t i => finishE t i 1) (l := inState (grace1 s) 1) (mk := .exe) (v0 := v) R2 (el_call (ea_cons (ev_var rfl) (ea_cons (ev_c (v := .int ((1 : Nat) : Int))) ea_nil)) (spl_in_state R2 (by rw [s1.ne]; exact hn))) rfl (fun t r n H0 H' D' hr ht g k => ?_) fun H3 v g3 => ?_
  · refine s_dropCall (ea_cons (ev_var rfl) (ea_cons (ev_var rfl) (ea_cons (ev_c (v := .int ((1 : Nat) : Int))) ea_nil))) fun H3 e3 => ⟨t, L, r, 1, rfl, g.rep.ex e3, ?_, fun H4 g4 => k H4 ((Go.ex g.rep e3).trans g4)⟩
    rw [ht, (stay_foldE (f := fun t i => finishE t i 1) (fun t i => stay_setE t i _) _ _).ne]
    exact (inState_mem.mp (List.mem_of_getElem? hr)).1
  have G3 : Go T s L H (grace2 s) L H3 := G2.trans g3
  have R3 := G3.rep
  refine s_forGo (f := fun t r => endReq t r 1) (l := openReqs (grace2 s)) (mk := .req) (v0 := none) R3 (el_call (ea_cons (ev_var rfl) ea_nil) (spl_open R3 (by rw [s2.nr, s1.nr]; exact hr))) rfl (fun t r n H0 H' D' hr ht g k => ?_) fun H4 v g4 => ?_
  · refine s_dropCall (ea_cons (ev_var rfl) (ea_cons (ev_var rfl) (ea_cons (ev_c (v := .int ((1 : Nat) : Int))) ea_nil))) fun H3 e3 => ⟨t, L, r, 1, rfl, g.rep.ex e3, ?_, fun H4 g4 => k H4 ((Go.ex g.rep e3).trans g4)⟩
    rw [ht, (stay_foldE (f := fun t r => endReq t r 1) (fun t r => stay_setR t r _) _ _).nr]
    exact open_lt (List.mem_of_getElem? hr)
  exact k H4 (G3.trans g4)
end
end Kc
/-! happen, advance_to, run -/
namespace Kc
open PySem PySem.Spec PyProof.Rows L2 KM Evl
section
variable {K : PySem.W.Frag} {mg : Str → Option Value} {T : Cls7} {B : Blt} {σ : L2.St} {H : Hp} {ta tb tc te : TE} {D : Ends} {s : Srv} {L : Loc} {i : Nat}
theorem q_three {i j k : Nat} {a : Addr} {x y z : V} {tz : TS} (h : Ev te σ H (.ref a)) (hs : SqT K H a [x, y, z]) (q : ∀ H1, Ex H H1 → tz D (((σ.set i (some x)).set j (some y)).set k (some z)) H1) : tSeq (tAsg te (gTup K 3 (gCons (gName i) (gCons (gName j) (gCons (gName k) gNil))))) tz D σ H :=
  h H (Ex.refl H) _ fun H1 e => ⟨a, [x, y, z], rfl, ex_t e hs, rfl, x, _, rfl, y, _, rfl, z, _, rfl, rfl, q H1 e⟩
def spHappen (T : Cls7) : Sp := fun vs H Q _ => ∃ (s : Srv) (L : Loc) (p : Addr) (e : E3) (k : Nat), vs = [.ref (L.at_ .srv), .ref p] ∧ Rep T s L H ∧ H p = some (.tup (trip e)) ∧ Inv k s ∧ nextEv s = some e ∧ e.1 ≤ k ∧ ∀ L' H', Go T s L H (happenS s e) L' H' → Q .non H'
theorem ev_maxN2 {a b : Nat} (ha : Ev ta σ H (.int (a : Int))) (hb : Ev tb σ H (.int (b : Int))) : Ev (tCB Kc.rMax2 (tCons ta (tCons tb tNil))) σ H (.int ((max a b : Nat) : Int)) :=
  ev_is (ev_cb (z := .int (if (b : Int) > (a : Int) then (b : Int) else (a : Int))) (ea_cons ha (ea_cons hb ea_nil)) (fun H1 e Q q => ⟨_, _, rfl, q H1 (Ex.refl H1)⟩)) (congrArg V.int (by split <;> omega))
theorem rd_happen (X : Txt K mg T B) (vs : List V) (H : Hp) (Q : VK) (E : XK) (h : spHappen T vs H Q E) : t_happen K T (spResume T) (spFill T) (spLeave T) (spGrace T) { nx := fun _ H' => Q .non H', rt := Q } (start N_happen vs) H := by
  obtain ⟨s, L, p, e, m, rfl, R, hp, I, he, hm, k⟩ := h
  have J := inv_toNow (u := e.1) I hm
  refine q_three (K := K) (ev_var (v := .ref p) rfl) (st_of hp) fun H1 e1 => ?_
  have R1 := R.ex e1
  refine wS_now (D := { nx := _, ct := _, bk := _, rt := Q }) X R1 (x := max s.now e.1) (ev_maxN2 (evS_now X R1 (ev_var rfl)) (ev_var rfl)) (ev_var rfl) fun H2 g2 => ?_
  change Go T s L H1 (toNow s e.1) L H2 at g2
  have G2 := (Go.ex R e1).trans g2
  have R2 := G2.rep
  unfold happenS at k
  rcases ev_cases (next_mem he) with ⟨k0, a, b, c⟩ | ⟨k1, a, b, c⟩ | ⟨k2, _, c, d⟩
  · rw [if_pos k0] at k
    refine s_if (b := true) (et_is (et_test (ev_op (ev_var (v := .int (e.2.1 : Int)) rfl) (ev_c (v := .int ((0 : Nat) : Int))) (rv_eq rfl))) (by rw [k0]; rfl)) (fun _ H3 e3 => ?_) fun hb => by cases hb
    have R3 := R2.ex e3
    have a' : e.2.2 < (toNow s e.1).executions.length := a
    refine q_dropCall (ea_cons (ev_var rfl) (ea_cons (ev_op (evS_executions X R3 (ev_var rfl)) (ev_var (v := .int (e.2.2 : Int)) rfl) (rv_ixL (sq_of (R3.at_ .exes _ rfl)) (atI_nat (refs_get a')))) ea_nil)) fun H4 e4 => ?_
    refine ⟨toNow s e.1, L, e.2.2, rfl, R3.ex e4, J.a.hok, a', fun M H5 g5 => ?_⟩
    have G5 := (G2.trans (Go.ex R2 (e3.trans e4))).trans g5
    have A := aok_resume (s := toNow s e.1) J.a a b
    rw [← G5.srvAt]
    refine s_dropCall (ea_cons (ev_var rfl) ea_nil) fun H6 e6 => ⟨_, M, rfl, G5.rep.ex e6, A.hok, A.wait, fun M2 H7 g7 => k M2 H7 ((G5.trans (Go.ex G5.rep e6)).trans g7)⟩
  · rw [if_neg (by omega), if_pos k1] at k
    obtain ⟨j, h1, h2, h3⟩ := J.a.req.op _ a b
    rw [show (reqAt s e.2.2).execution = some j from h1] at k
    refine s_if (b := false) (et_is (et_test (ev_op (ev_var (v := .int (e.2.1 : Int)) rfl) (ev_c (v := .int ((0 : Nat) : Int))) (rv_eq rfl))) (by rw [k1]; rfl)) (fun hb => by cases hb) fun _ H3 e3 => ?_
    refine s_if (b := true) (et_is (et_test (ev_op (ev_var (v := .int (e.2.1 : Int)) rfl) (ev_c (v := .int ((1 : Nat) : Int))) (rv_eq rfl))) (by rw [k1]; rfl)) (fun _ H4 e4 => ?_) fun hb => by cases hb
    have R4 := (R2.ex e3).ex e4
    have a' : e.2.2 < (toNow s e.1).requests.length := a
    refine s_dropCall (ea_cons (ev_var rfl) (ea_cons (ev_op (evS_requests X R4 (ev_var rfl)) (ev_var (v := .int (e.2.2 : Int)) rfl) (rv_ixL (sq_of (R4.at_ .reqs _ rfl)) (atI_nat (refs_get a')))) (ea_cons (ev_c (v := .int ((4 : Nat) : Int))) ea_nil))) fun H5 e5 => ?_
    exact ⟨toNow s e.1, L, e.2.2, 4, j, rfl, R4.ex e5, J.a.hok, J.a.wait, a', h1, h2, fun M H6 g6 => k M H6 ((G2.trans (Go.ex R2 ((e3.trans e4).trans e5))).trans g6)⟩
  · rw [if_neg (by omega), if_neg (by omega)] at k
    refine s_if (b := false) (et_is (et_test (ev_op (ev_var (v := .int (e.2.1 : Int)) rfl) (ev_c (v := .int ((0 : Nat) : Int))) (rv_eq rfl))) (by rw [k2]; rfl)) (fun hb => by cases hb) fun _ H3 e3 => ?_
    refine s_if (b := false) (et_is (et_test (ev_op (ev_var (v := .int (e.2.1 : Int)) rfl) (ev_c (v := .int ((1 : Nat) : Int))) (rv_eq rfl))) (by rw [k2]; rfl)) (fun hb => by cases hb) fun _ H4 e4 => ?_
    have R4 := (R2.ex e3).ex e4
    refine s_dropCall (ea_cons (ev_var rfl) ea_nil) fun H5 e5 => ?_
    exact ⟨toNow s e.1, L, rfl, R4.ex e5, J.a.hok.ne, J.a.hok.nr, fun H6 g6 => k L H6 ((G2.trans (Go.ex R2 ((e3.trans e4).trans e5))).trans g6)⟩
/-! advance_to -/
/-- the next event as a value -/
def evV (H : Hp) (o : Option E3) (v : V) : Prop := match o with
  | none => v = .non
  | some e => ∃ p, v = .ref p ∧ H p = some (.tup (trip e))
theorem evV.ex {H1 : Hp} {o : Option E3} {v : V} (h : evV H o v) (e : Ex H H1) : evV H1 o v := by
  cases o with
  | none => exact h
  | some x =>
    obtain ⟨p, h1, h2⟩ := h
    exact ⟨p, h1, e _ _ h2⟩
theorem sp_up (R : Rep T s L H) (O : Hok s) {Q : VK} {E : XK} (k : ∀ v H1, Ex H H1 → evV H1 (nextEv s) v → Q v H1) : spUpcoming T [.ref (L.at_ .srv)] H Q E := by
  refine ⟨s, L, rfl, R, O.ne, O.nr, fun hn H1 e1 => k _ H1 e1 (by rw [hn]; rfl), fun e he p H1 hp e1 h1 => k _ H1 e1 (by rw [he]; exact ⟨p, rfl, h1⟩)⟩
def spAdvTo (T : Cls7) : Sp := fun vs H Q _ => ∃ (s : Srv) (L : Loc) (m : Nat), vs = [.ref (L.at_ .srv), .int (m : Int)] ∧ Rep T s L H ∧ Inv m s ∧ ∀ L' H', Go T s L H (setNow (advLoop m (phi2 s) s 0).1 m) L' H' → Q (.int (((advLoop m (phi2 s) s 0).2 : Nat) : Int)) H'
/-- ahead of each turn -/
def AdvW (T : Cls7) (s : Srv) (L : Loc) (H : Hp) (m n : Nat) (σ' : L2.St) (H' : Hp) : Prop := ∃ (M : Loc) (t : Srv) (f : Nat) (v : V), σ' = [some (.ref (M.at_ .srv)), some (.int (m : Int)), some (.int (f : Int)), some v] ∧ Go T s L H t M H' ∧ Inv m t ∧ evV H' (nextEv t) v ∧ phi2 t ≤ n ∧ advLoop m n t f = advLoop m (phi2 s) s 0
theorem adv_take {M : Loc} {t : Srv} {H1 : Hp} {m n f : Nat} {x3 : Option V} (G : Go T s L H t M H1) (I : Inv m t) (hn : phi2 t ≤ n) (hf : advLoop m n t f = advLoop m (phi2 s) s 0) (k : ∀ σ' H', AdvW T s L H m n σ' H' → D.nx σ' H') :
    tAsg (tCall (spUpcoming T) [] C8.E0 (tCons (tVar 0) tNil)) (gName 3) D [some (.ref (M.at_ .srv)), some (.int (m : Int)), some (.int (f : Int)), x3] H1 :=
  s_asgCall (ea_cons (ev_var rfl) ea_nil) fun H2 e2 => sp_up (G.rep.ex e2) I.a.hok fun v H3 e3 hv => k _ _ ⟨M, t, f, v, rfl, G.trans (Go.ex G.rep (e2.trans e3)), I, hv, hn, hf⟩
theorem adv_end {m n : Nat} {t : Srv} {f : Nat} (h : ∀ e, nextEv t = some e → ¬ e.1 ≤ m) : advLoop m n t f = (t, f) := by
  cases n with
  | zero => rfl
  | succ n =>
    rw [advLoop]
    cases hn : nextEv t with
    | none => rfl
    | some e =>
      dsimp only
      rw [if_neg (h e hn)]
theorem rd_advance_to (X : Txt K mg T B) (vs : List V) (H : Hp) (Q : VK) (E : XK) (h : spAdvTo T vs H Q E) : t_advance_to K T (spUpcoming T) (spHappen T) { nx := fun _ H' => Q .non H', rt := Q } (start N_advance_to vs) H := by
  obtain ⟨s, L, m, rfl, R, I, k⟩ := h
  refine q_asg (v := .int ((0 : Nat) : Int)) ev_c fun H1 e1 => ?_
  refine adv_take (D := { nx := _, ct := _, bk := _, rt := Q }) (s := s) (L := L) (H := H) (n := phi2 s) (f := 0) (Go.ex R e1) I (Nat.le_refl _) rfl fun σ2 H2 w2 => ?_
  refine q_while (fun n σ' H' => AdvW T s L H m n σ' H') _ w2 fun n σ' H3 w => ?_
  obtain ⟨M, t, f, v, hs, G, J, hv, hn, hf⟩ := w
  subst hs
  have R3 := G.rep
  have stop : (∀ e, nextEv t = some e → ¬ e.1 ≤ m) → ∀ H4, Ex H3 H4 → tSeq (sFld K (tVar 0) (tVar 1) "now") (tRet (tVar 2)) { nx := fun _ H' => Q .non H', rt := Q } [some (.ref (M.at_ .srv)), some (.int (m : Int)), some (.int (f : Int)), some v] H4 := fun hh H4 e4 => by
    have R4 := R3.ex e4
    rw [adv_end hh] at hf
    rw [← hf] at k
    refine wS_now (D := { nx := _, ct := _, bk := _, rt := Q }) X R4 (x := m) (ev_var rfl) (ev_var rfl) fun H5 g5 => ?_
    have G5 := (G.trans (Go.ex R3 e4)).trans g5
    exact s_ret (v := .int (f : Int)) (ev_var rfl) fun H6 e6 => k M H6 (G5.trans (Go.ex G5.rep e6))
  cases hne : nextEv t with
  | none =>
    rw [hne] at hv
    obtain rfl : v = .non := hv
    refine ⟨false, ?_, (fun hb => by cases hb), fun _ H4 e4 => stop (fun e he => by rw [hne] at he; cases he) H4 e4⟩
    have z := et_and (a := false) (b := false) (u := tTest (tOp rLe (tOp (rIxT K) (tVar 3) (tC (.int 0))) (tVar 1))) (et_is (et_test (ev_op (ev_var (σ := [some (.ref (M.at_ .srv)), some (.int (m : Int)), some (.int (f : Int)), some .non]) (i := 3) (H := H3) (v := .non) rfl) (ev_c (v := .non)) rv_notN)) rfl) fun hb => by cases hb
    exact z
  | some e =>
    rw [hne] at hv
    obtain ⟨p, rfl, hp⟩ := hv
    refine ⟨true && decide (e.1 ≤ m), et_and (et_is (et_test (ev_op (ev_var (v := .ref p) rfl) ev_c rv_notN)) rfl) fun _ => et_is (et_test (ev_op (ev_op (ev_var (v := .ref p) rfl) (ev_c (v := .int ((0 : Nat) : Int))) (rv_ixT (st_of hp) (atI_nat (j := 0) (v := .int (e.1 : Int)) rfl))) (ev_var (v := .int (m : Int)) rfl) rv_I0)) (nat_le _ _), fun hb H4 e4 => ?_, fun hb H4 e4 => stop (fun e' he' => ?_) H4 e4⟩
    · have hle : e.1 ≤ m := of_decide_eq_true (by simpa using hb)
      have lt := phi2_happen J hne hle
      obtain ⟨n, rfl⟩ : ∃ q, n = q + 1 := ⟨n - 1, by omega⟩
      refine ⟨fun σ2 H2 => AdvW T s L H m n σ2 H2, fun σ2 H2 q => ⟨n, Nat.lt_succ_self n, q⟩, ?_⟩
      have R4 := R3.ex e4
      have G4 := G.trans (Go.ex R3 e4)
      refine q_dropCall (ea_cons (ev_var rfl) (ea_cons (ev_var rfl) ea_nil)) fun H5 e5 => ?_
      refine ⟨t, M, p, e, m, rfl, R4.ex e5, e5 _ _ (e4 _ _ hp), J, hne, hle, fun M2 H6 g6 => ?_⟩
      have G6 := (G4.trans (Go.ex R4 e5)).trans g6
      rw [← g6.srvAt]
      refine q_aug (a := (f : Int)) (b := 1) rfl ev_c fun H7 e7 => ?_
      have e0 : ((f : Int) + 1) = ((f + 1 : Nat) : Int) := by omega
      rw [e0]
      refine adv_take (f := f + 1) (n := n) (G6.trans (Go.ex G6.rep e7)) (inv_happen J hne hle) (by omega) ?_ fun σ9 H9 w9 => w9
      rw [← hf, advLoop, hne]
      dsimp only
      rw [if_pos hle]
    · rw [hne] at he'
      rw [← Option.some.inj he']
      exact of_decide_eq_false (by simpa using hb)
end
end Kc
/-! the other calls: the promises -/
namespace KM
open Kc (Aok)
def n0 (l : List Nat) : Nat := l.getD 0 0
def opNextEvent (s : Srv) (_ : List Nat) : Srv × List Int := (s, match nextEv s with
  | none => [-33]
  | some e => ints_ [e.1, e.2.1, e.2.2])
def opAdvance (s : Srv) (l : List Nat) : Srv × List Int :=
  if 1000000 < l.getD 0 0 then (s, [-22])
  else (setNow (advLoop (s.now + l.getD 0 0) (phi2 s) s 0).1 (s.now + l.getD 0 0), ints_ [(advLoop (s.now + l.getD 0 0) (phi2 s) s 0).2, s.now + l.getD 0 0])
def opRun (s : Srv) (l : List Nat) : Srv × List Int :=
  if 40 < l.getD 0 0 then (s, [-22]) else (runS (l.getD 0 0) s, ints_ [(runS (l.getD 0 0) s).now])
def opShutdown (s : Srv) (l : List Nat) : Srv × List Int :=
  if 100000 < l.getD 0 0 then (s, [-22])
  else if (!(s.graceEnd == none)) = true then (s, [-16])
  else (if l.getD 0 0 = 0 then endGrace { s with graceEnd := some (s.now + l.getD 0 0) } else { s with graceEnd := some (s.now + l.getD 0 0) }, ints_ [(inState s 1).length, (inState s 0).length])
def opSetLimit (s : Srv) (l : List Nat) : Srv × List Int :=
  if (!isLimit (l.getD 0 0)) = true then (s, [-22]) else (fillSlots { s with limit := l.getD 0 0 }, ints_ [s.limit])
def opSetRoles (s : Srv) (l : List Nat) : Srv × List Int :=
  if s.clients.length ≤ l.getD 0 0 then (s, [-2])
  else if 15 < l.getD 1 0 then (s, [-22])
  else (setC s (l.getD 0 0) { cliAt s (l.getD 0 0) with roles := l.getD 1 0 }, ints_ [(cliAt s (l.getD 0 0)).roles])
def opListRunning (s : Srv) (_ : List Nat) : Srv × List Int := (s, ints_ ((inState s 1).length :: inState s 1))
def opRegisters (s : Srv) (_ : List Nat) : Srv × List Int := (s, ints_ (4 :: s.registers))
def opQuota (s : Srv) (l : List Nat) : Srv × List Int := (s, if s.clients.length ≤ l.getD 0 0 then [-2] else
  ints_ [quotaNow (cliAt s (l.getD 0 0)) s.now, (cliAt s (l.getD 0 0)).capacity, (cliAt s (l.getD 0 0)).refill])
def opFindKey (s : Srv) (l : List Nat) : Srv × List Int := (s, if s.clients.length ≤ l.getD 0 0 then [-2] else match sharedExe s (l.getD 0 0) (l.getD 1 0) with
  | none => [-33]
  | some j => ints_ [j, (exeAt s j).state, stVal (exeAt s j)])
def opEstimate (s : Srv) (_ : List Nat) : Srv × List Int := (s, ints_ [estWait s, s.average])
def cntSt (s : Srv) (o : Option Nat) : Nat := s.requests.countP fun r => r.status == o
def opStatistics (s : Srv) (_ : List Nat) : Srv × List Int := (s, ints_ [s.requests.length, cntSt s (some 0), cntSt s (some 100), cntSt s (some 4), cntSt s none, (s.requests.map fun r => r.joined).sum, s.executions.length])
def opStatus (s : Srv) (_ : List Nat) : Srv × List Int := (s, ints_ [s.now, (inState s 1).length, (inState s 0).length, if s.graceEnd = none then 0 else 1, s.methods.length, s.clients.length])
theorem runS_succ : ∀ (n : Nat) (s : Srv), runS (n + 1) s = fireS (runS n s)
  | 0, _ => rfl
  | n + 1, s => by
    show runS (n + 1) (fireS s) = _
    rw [runS_succ n (fireS s)]
    rfl
end KM
namespace Kc
open PySem PySem.Spec PyProof.Rows L2 KM Evl
section
variable {K : PySem.W.Frag} {mg : Str → Option Value} {T : Cls7} {B : Blt} {σ : L2.St} {H : Hp} {ta tb tc te : TE} {D : Ends} {s : Srv} {L : Loc} {i : Nat}
def InvS (s : Srv) : Prop := ∃ k, Inv k s ∧ k ≤ 300000000
/-- what the calls ask -/
def ok0 (s : Srv) (_ : List Nat) : Prop := InvS s
def ok1 (s : Srv) (l : List Nat) : Prop := InvS s ∧ 0 < l.length
def ok2 (s : Srv) (l : List Nat) : Prop := InvS s ∧ l.length = 2
theorem two {l : List Nat} (h : l.length = 2) : l = [l.getD 0 0, l.getD 1 0] := by
  match l, h with
  | [a, b], _ => rfl
theorem el_listT {p : Addr} {xs : List V} (ha : Ev ta σ H (.ref p)) (h : SqT K H p xs) : EvL (tCB (Evl.rListS K) (tCons ta tNil)) σ H xs := fun H1 e Q q =>
  ha H1 e _ fun H2 e2 => ⟨p, xs, rfl, .inr (ex_t (e.trans e2) h), fun l hl => q l _ (fresh_back e2 hl) (e2.trans (Ex.new hl)) upd_same⟩
/-! next_event -/
theorem rd_next_event (X : Txt K mg T B) (vs : List V) (H : Hp) (Q : VK) (E : XK) (h : spOp T ok0 opNextEvent vs H Q E) : t_next_event K T (spUpcoming T) { nx := fun _ H' => Q .non H', rt := Q } (start N_next_event vs) H := by
  obtain ⟨s, L, q, l, rfl, R, lo, ⟨m, I, _⟩, k⟩ := h
  unfold opNextEvent at k
  refine q_asgCall (ea_cons (ev_var rfl) ea_nil) fun H1 e1 => sp_up (R.ex e1) I.a.hok fun v H2 e2 hv => ?_
  have G2 := Go.ex R (e1.trans e2)
  cases hne : nextEv s with
  | none =>
    rw [hne] at hv k
    obtain rfl : v = .non := hv
    refine q_when (b := true) (et_is (et_test (ev_op (ev_var (v := .non) rfl) ev_c rv_isN)) rfl) (fun _ H3 e3 => ?_) fun hb => by cases hb
    exact s_retGo (G2.trans (Go.ex G2.rep e3)) (el_lst (ea_cons (ev_c (v := .int (-33))) ea_nil) (by show 1 ≤ 100000; decide)) fun H' p G nw hp => k L H' p G nw hp
  | some e =>
    rw [hne] at hv k
    obtain ⟨p, rfl, hp⟩ := hv
    refine q_when (b := false) (et_is (et_test (ev_op (ev_var (v := .ref p) rfl) ev_c rv_isN)) rfl) (fun hb => by cases hb) fun _ H3 e3 => ?_
    exact s_retGo (G2.trans (Go.ex G2.rep e3)) (el_listT (K := K) (ev_var rfl) (st_of (e3 _ _ hp))) fun H' p G nw hp => k L H' p G nw hp
/-! advance -/
theorem rd_advance (X : Txt K mg T B) (vs : List V) (H : Hp) (Q : VK) (E : XK) (h : spOp T ok1 opAdvance vs H Q E) : t_advance K T (spAdvTo T) { nx := fun _ H' => Q .non H', rt := Q } (start N_advance vs) H := by
  obtain ⟨s, L, q, l, rfl, R, lo, ⟨⟨m, I, _⟩, hl⟩, k⟩ := h
  refine q_asg (ev_num0 (ev_var rfl) lo.lst hl) fun H1 e1 => ?_
  have R1 := R.ex e1
  unfold opAdvance at k
  generalize l.getD 0 0 = n at k ⊢
  refine q_when (b := decide (1000000 < n)) (et_is (et_test (ev_op (ev_var (v := .int (n : Int)) rfl) (ev_c (v := .int ((1000000 : Nat) : Int))) rv_I0)) (gt_nat _ _)) (fun hb H2 e2 => ?_) fun hb H2 e2 => ?_
  · rw [if_pos (of_decide_eq_true hb)] at k
    exact s_retGo (Go.ex R (e1.trans e2)) (el_lst (ea_cons (ev_c (v := .int (-22))) ea_nil) (by show 1 ≤ 100000; decide)) fun H' p G nw hp => k L H' p G nw hp
  · rw [if_neg (of_decide_eq_false hb)] at k
    have R2 := R1.ex e2
    have J : Inv (s.now + n) s := ⟨I.a, I.b, I.st3, I.full, by omega⟩
    refine q_asgCall (ea_cons (ev_var rfl) (ea_cons (ev_is (ev_op (evS_now X R2 (ev_var rfl)) (ev_var (v := .int (n : Int)) rfl) rv_I0) (w := .int ((s.now + n : Nat) : Int)) (congrArg V.int (by omega))) ea_nil)) fun H3 e3 => ?_
    refine ⟨s, L, s.now + n, rfl, R2.ex e3, J, fun M H4 g4 => ?_⟩
    have G4 := (Go.ex R ((e1.trans e2).trans e3)).trans g4
    rw [← G4.srvAt]
    exact s_retGo G4 (xs := intL [(advLoop (s.now + n) (phi2 s) s 0).2, s.now + n]) (el_lst (ea_cons (ev_var rfl) (ea_cons (evS_now X G4.rep (ev_var rfl)) ea_nil)) (by show 2 ≤ 100000; decide)) fun H' p G nw hp => k M H' p G nw (by rw [hp, ints_V])
/-! run -/
theorem rd_run (X : Txt K mg T B) (vs : List V) (H : Hp) (Q : VK) (E : XK) (h : spOp T ok1 opRun vs H Q E) : t_run K T (spUpcoming T) (spHappen T) { nx := fun _ H' => Q .non H', rt := Q } (start N_run vs) H := by
  obtain ⟨s, L, q, l, rfl, R, lo, ⟨⟨m, I, hm⟩, hl⟩, k⟩ := h
  refine q_asg (ev_num0 (ev_var rfl) lo.lst hl) fun H1 e1 => ?_
  have R1 := R.ex e1
  unfold opRun at k
  generalize l.getD 0 0 = n at k ⊢
  refine q_when (b := decide (40 < n)) (et_is (et_test (ev_op (ev_var (v := .int (n : Int)) rfl) (ev_c (v := .int ((40 : Nat) : Int))) rv_I0)) (gt_nat _ _)) (fun hb H2 e2 => ?_) fun hb H2 e2 => ?_
  · rw [if_pos (of_decide_eq_true hb)] at k
    exact s_retGo (Go.ex R (e1.trans e2)) (el_lst (ea_cons (ev_c (v := .int (-22))) ea_nil) (by show 1 ≤ 100000; decide)) fun H' p G nw hp => k L H' p G nw hp
  · have hn := of_decide_eq_false hb
    rw [if_neg hn] at k
    refine q_forR1 (n := (n : Int)) (ea_cons (ev_var rfl) ea_nil) (by omega) (fun j σ' H' => ∃ (M : Loc) (v3 v4 : Option V), σ' = [some (.ref (M.at_ .srv)), some (.ref q), some (.int (n : Int)), v3, v4] ∧ Go T s L H (runS j s) M H') (fun H3 e3 => ⟨L, none, none, rfl, Go.ex R ((e1.trans e2).trans e3)⟩) (fun j σ' H3 hj ⟨M, v3, v4, hs, G⟩ => ?_) fun σ' H3 ⟨M, v3, v4, hs, G⟩ => ?_
    · subst hs
      have J := inv_run j I
      have R3 := G.rep
      refine q_asgCall (ea_cons (ev_var (v := .ref (M.at_ .srv)) rfl) ea_nil) fun H4 e4 => sp_up (R3.ex e4) J.a.hok fun v H5 e5 hv => ?_
      have G5 := G.trans (Go.ex R3 (e4.trans e5))
      cases hne : nextEv (runS j s) with
      | none =>
        rw [hne] at hv
        obtain rfl : v = .non := hv
        refine s_when (b := false) (et_is (et_test (ev_op (ev_var (v := .non) rfl) ev_c rv_notN)) rfl) (fun hb => by cases hb) fun _ H6 e6 => ⟨M, _, _, rfl, ?_⟩
        have e0 : runS (j + 1) s = runS j s := by
          rw [runS_succ]
          unfold fireS
          rw [hne]
        rw [e0]
        exact G5.trans (Go.ex G5.rep e6)
      | some e =>
        rw [hne] at hv
        obtain ⟨p, rfl, hp⟩ := hv
        refine s_when (b := true) (et_is (et_test (ev_op (ev_var (v := .ref p) rfl) ev_c rv_notN)) rfl) (fun _ H6 e6 => ?_) fun hb => by cases hb
        refine s_dropCall (ea_cons (ev_var rfl) (ea_cons (ev_var rfl) ea_nil)) fun H7 e7 => ?_
        have hb := ev_bound J hne
        have hnow := J.now
        refine ⟨runS j s, M, p, e, m + j * 100000 + 100000, rfl, (G5.rep.ex e6).ex e7, e7 _ _ (e6 _ _ hp), J.up (by omega), hne, by omega, fun M2 H8 g8 => ⟨M2, some (.int (j : Int)), some (.ref p), by rw [g8.srvAt]; rfl, ?_⟩⟩
        have e0 : runS (j + 1) s = happenS (runS j s) e := by
          rw [runS_succ]
          unfold fireS
          rw [hne]
        rw [e0]
        exact (G5.trans (Go.ex G5.rep (e6.trans e7))).trans g8
    · subst hs
      rw [Int.toNat_natCast] at G
      exact s_retGo G (xs := intL [(runS n s).now]) (el_lst (ea_cons (evS_now X G.rep (ev_var rfl)) ea_nil) (by show 1 ≤ 100000; decide)) fun H' p G nw hp => k M H' p G nw (by rw [hp, ints_V])
/-! shutdown -/
theorem loose_new {H1 : Hp} {p : Addr} {xs : List V} (R : Rep T s L H) (hp : H p = none) (h1 : H1 p = some (.lst xs)) : Loose T s L H1 p xs := ⟨h1, fun r hr z => by
  obtain ⟨u, hu⟩ := Option.isSome_iff_exists.mp hr
  have q := R.at_ r u hu
  rw [z, hp] at q
  cases q⟩
theorem hok_of {t : Srv} (O : Hok s) (h1 : t.executions = s.executions) (h2 : t.requests = s.requests) (h3 : t.methods = s.methods) (h4 : t.registers = s.registers) (h5 : t.now = s.now) : Hok t :=
  ⟨by rw [h1]; exact O.ne, by rw [h2]; exact O.nr, prOk_of O.pr h3, inOk_of O.ins h3, by rw [h4]; exact O.regs, fun j e h => by
    rw [h1] at h
    exact ⟨exOk_of (O.ex j e h).1 h3, by rw [h5]; exact (O.ex j e h).2⟩⟩
theorem ev_lenIn (R : Rep T s L H) (hn : s.executions.length ≤ 1000) {st : Nat} (ha : Ev ta σ H (.ref (L.at_ .srv))) : Ev (tCB (Evl.rLenS K) (tCons (tCall (spInState T) [] C8.E0 (tCons ta (tCons (tC (.int (st : Int))) tNil))) tNil)) σ H (.int (((inState s st).length : Nat) : Int)) :=
  ev_is (ev_lenN (el_call (ea_cons ha (ea_cons ev_c ea_nil)) (spl_in_state R hn))) (by unfold exeRefs; rw [List.length_map])
theorem rd_shutdown (X : Txt K mg T B) (vs : List V) (H : Hp) (Q : VK) (E : XK) (h : spOp T ok1 opShutdown vs H Q E) : t_shutdown K T (spInState T) (spGrace T) { nx := fun _ H' => Q .non H', rt := Q } (start N_shutdown vs) H := by
  obtain ⟨s, L, q, l, rfl, R, lo, ⟨⟨m, I, hm⟩, hl⟩, k⟩ := h
  refine q_asg (ev_num0 (ev_var rfl) lo.lst hl) fun H1 e1 => ?_
  have R1 := R.ex e1
  have O := I.a.hok
  unfold opShutdown at k
  generalize l.getD 0 0 = n at k ⊢
  refine q_when (b := decide (100000 < n)) (et_is (et_test (ev_op (ev_var (v := .int (n : Int)) rfl) (ev_c (v := .int ((100000 : Nat) : Int))) rv_I0)) (gt_nat _ _)) (fun hb H2 e2 => ?_) fun hb H2 e2 => ?_
  · rw [if_pos (of_decide_eq_true hb)] at k
    exact s_retGo (Go.ex R (e1.trans e2)) (el_lst (ea_cons (ev_c (v := .int (-22))) ea_nil) (by show 1 ≤ 100000; decide)) fun H' p G nw hp => k L H' p G nw hp
  · rw [if_neg (of_decide_eq_false hb)] at k
    have R2 := R1.ex e2
    refine q_when (b := !(s.graceEnd == none)) (et_is (et_test (ev_op (evS_grace_end X R2 (ev_var rfl)) ev_c rv_notN)) (by rw [opt_non])) (fun hb H3 e3 => ?_) fun hb H3 e3 => ?_
    · rw [if_pos hb] at k
      exact s_retGo (Go.ex R ((e1.trans e2).trans e3)) (el_lst (ea_cons (ev_c (v := .int (-16))) ea_nil) (by show 1 ≤ 100000; decide)) fun H' p G nw hp => k L H' p G nw hp
    · rw [if_neg (by rw [hb]; decide)] at k
      have R3 := R2.ex e3
      have e03 := (e1.trans e2).trans e3
      refine q_asgL (xs := intL [(inState s 1).length, (inState s 0).length]) (el_lst (ea_cons (ev_lenIn (st := 1) R3 O.ne (ev_var rfl)) (ea_cons (ev_lenIn (st := 0) R3 O.ne (ev_var rfl)) ea_nil)) (by show 2 ≤ 100000; decide)) fun p H4 hp e4 h4 => ?_
      have R4 := R3.ex e4
      have pn : New H p := new_of (fresh_back e03 hp)
      refine wS_grace_end (D := { nx := _, ct := _, bk := _, rt := Q }) X R4 (x := s.now + n) (ev_is (ev_op (evS_now X R4 (ev_var rfl)) (ev_var (v := .int (n : Int)) rfl) rv_I0) (congrArg V.int (by omega))) (ev_var rfl) fun H5 g5 => ?_
      have G5 := (Go.ex R (e03.trans e4)).trans g5
      have l5 := g5.loose (loose_new R3 hp h4)
      have R5 := G5.rep
      refine q_when (b := n == 0) (et_is (et_test (ev_op (ev_var (v := .int (n : Int)) rfl) (ev_c (v := .int ((0 : Nat) : Int))) (rv_eq rfl))) (nat_eq _ _)) (fun hb H6 e6 => ?_) fun hb H6 e6 => ?_
      · rw [if_pos (eq_of_beq hb)] at k
        refine s_dropCall (ea_cons (ev_var rfl) ea_nil) fun H7 e7 => ⟨_, L, rfl, (R5.ex e6).ex e7, O.ne, O.nr, fun H8 g8 => ?_⟩
        have G8 := (G5.trans (Go.ex R5 (e6.trans e7))).trans g8
        have l8 := ((Go.ex R5 (e6.trans e7)).trans g8).loose l5
        exact s_ret (v := .ref p) (ev_var rfl) fun H9 e9 => k L H9 p (G8.trans (Go.ex G8.rep e9)) pn (by rw [ints_V]; exact e9 _ _ l8.lst)
      · rw [if_neg (fun z => by rw [z] at hb; cases hb)] at k
        have G6 := G5.trans (Go.ex R5 e6)
        exact s_ret (v := .ref p) (ev_var rfl) fun H9 e9 => k L H9 p (G6.trans (Go.ex G6.rep e9)) pn (by rw [ints_V]; exact e9 _ _ (e6 _ _ l5.lst))
end
end Kc
/-! the other calls, further -/
namespace Kc
open PySem PySem.Spec PyProof.Rows L2 KM Evl
section
variable {K : PySem.W.Frag} {mg : Str → Option Value} {T : Cls7} {B : Blt} {σ : L2.St} {H : Hp} {ta tb tc te : TE} {D : Ends} {s : Srv} {L : Loc} {i : Nat}
/-! set_limit -/
theorem rd_set_limit (X : Txt K mg T B) (vs : List V) (H : Hp) (Q : VK) (E : XK) (h : spOp T ok1 opSetLimit vs H Q E) : t_set_limit K T spLimit (spFill T) { nx := fun _ H' => Q .non H', rt := Q } (start N_set_limit vs) H := by
  obtain ⟨s, L, q, l, rfl, R, lo, ⟨⟨m, I, hm⟩, hl⟩, k⟩ := h
  refine q_asg (ev_num0 (ev_var rfl) lo.lst hl) fun H1 e1 => ?_
  have R1 := R.ex e1
  unfold opSetLimit at k
  generalize l.getD 0 0 = n at k ⊢
  refine q_when (b := !isLimit n) (et_not (et_B (ev_call (ea_cons (ev_var rfl) ea_nil) spv_limit))) (fun hb H2 e2 => ?_) fun hb H2 e2 => ?_
  · rw [if_pos hb] at k
    exact s_retGo (Go.ex R (e1.trans e2)) (el_lst (ea_cons (ev_c (v := .int (-22))) ea_nil) (by show 1 ≤ 100000; decide)) fun H' p G nw hp => k L H' p G nw hp
  · rw [if_neg (by rw [hb]; decide)] at k
    have R2 := R1.ex e2
    refine q_asg (v := .int (s.limit : Int)) (evS_limit X R2 (ev_var rfl)) fun H3 e3 => ?_
    have R3 := R2.ex e3
    refine wS_limit (D := { nx := _, ct := _, bk := _, rt := Q }) X R3 (x := n) (ev_var rfl) (ev_var rfl) fun H4 g4 => ?_
    have G4 := (Go.ex R ((e1.trans e2).trans e3)).trans g4
    refine q_dropCall (ea_cons (ev_var rfl) ea_nil) fun H5 e5 => ⟨{ s with limit := n }, L, rfl, G4.rep.ex e5, hok_of I.a.hok rfl rfl rfl rfl rfl, I.a.wait, fun M H6 g6 => ?_⟩
    have G6 := (G4.trans (Go.ex G4.rep e5)).trans g6
    exact s_retGo G6 (xs := intL [s.limit]) (el_lst (ea_cons (ev_var rfl) ea_nil) (by show 1 ≤ 100000; decide)) fun H' p G nw hp => k M H' p G nw (by rw [hp, ints_V])
/-! set_roles -/
theorem q_unl2 {q : Addr} {a b : Nat} {tz : TS} {j k i : Nat} (hv : σ[i]? = some (some (.ref q))) (hq : H q = some (.lst (intL [a, b]))) (h : tz D ((σ.set j (some (.int (a : Int)))).set k (some (.int (b : Int)))) H) : tSeq (tAsg (tVar i) (gUnl K 2 (gCons (gName j) (gCons (gName k) gNil)))) tz D σ H :=
  ⟨.ref q, hv, q, intL [a, b], rfl, sq_of hq, rfl, _, _, rfl, _, _, rfl, rfl, h⟩
theorem rd_set_roles (X : Txt K mg T B) (vs : List V) (H : Hp) (Q : VK) (E : XK) (h : spOp T ok2 opSetRoles vs H Q E) : t_set_roles K T { nx := fun _ H' => Q .non H', rt := Q } (start N_set_roles vs) H := by
  obtain ⟨s, L, q, l, rfl, R, lo, ⟨⟨m, I, hm⟩, hl⟩, k⟩ := h
  have e2 := two hl
  unfold opSetRoles at k
  have hq := lo.lst
  generalize l.getD 0 0 = n at e2 k
  generalize l.getD 1 0 = r at e2 k
  subst e2
  refine q_unl2 (K := K) (a := n) (b := r) (q := q) rfl hq ?_
  change tSeq _ _ _ [some (.ref (L.at_ .srv)), some (.ref q), some (.int (n : Int)), some (.int (r : Int)), none, none] H
  refine q_when (b := decide (s.clients.length ≤ n)) (et_is (et_test (ev_op (ev_var (v := .int (n : Int)) rfl) (ev_len (evS_clients X R (ev_var rfl)) (sq_of (R.at_ .clis _ rfl))) rv_I0)) (by rw [refs_len]; exact nat_le _ _)) (fun hb H1 e1 => ?_) fun hb H1 e1 => ?_
  · rw [if_pos (of_decide_eq_true hb)] at k
    exact s_retGo (Go.ex R e1) (el_lst (ea_cons (ev_c (v := .int (-2))) ea_nil) (by show 1 ≤ 100000; decide)) fun H' p G nw hp => k L H' p G nw hp
  · have hn := of_decide_eq_false hb
    rw [if_neg hn] at k
    have hc : n < s.clients.length := by omega
    have R1 := R.ex e1
    refine q_when (b := decide (15 < r)) (et_is (et_test (ev_op (ev_var (v := .int (r : Int)) rfl) (ev_c (v := .int ((15 : Nat) : Int))) rv_I0)) (gt_nat _ _)) (fun hb H2 e2 => ?_) fun hb H2 e2 => ?_
    · rw [if_pos (of_decide_eq_true hb)] at k
      exact s_retGo (Go.ex R (e1.trans e2)) (el_lst (ea_cons (ev_c (v := .int (-22))) ea_nil) (by show 1 ≤ 100000; decide)) fun H' p G nw hp => k L H' p G nw hp
    · rw [if_neg (of_decide_eq_false hb)] at k
      have R2 := R1.ex e2
      refine q_asg (v := .ref (L.at_ (.cli n))) (ev_op (evS_clients X R2 (ev_var rfl)) (ev_var (v := .int (n : Int)) rfl) (rv_ixL (sq_of (R2.at_ .clis _ rfl)) (atI_nat (refs_get hc)))) fun H3 e3 => ?_
      have R3 := R2.ex e3
      have h0 := cli_some hc
      refine q_asg (v := .int ((cliAt s n).roles : Int)) (evC_roles X R3 h0 (ev_var rfl)) fun H4 e4 => ?_
      have R4 := R3.ex e4
      refine wC_roles (D := { nx := _, ct := _, bk := _, rt := Q }) X R4 h0 (x := r) (ev_var rfl) (ev_var rfl) fun H5 g5 => ?_
      have G5 := (Go.ex R (((e1.trans e2).trans e3).trans e4)).trans g5
      exact s_retGo G5 (xs := intL [(cliAt s n).roles]) (el_lst (ea_cons (ev_var rfl) ea_nil) (by show 1 ≤ 100000; decide)) fun H' p G nw hp => k L H' p G nw (by rw [hp, ints_V])
/-! list_running -/
theorem rd_list_running (X : Txt K mg T B) (vs : List V) (H : Hp) (Q : VK) (E : XK) (h : spOp T ok0 opListRunning vs H Q E) : t_list_running K T (spCounted T) (spInState T) { nx := fun _ H' => Q .non H', rt := Q } (start N_list_running vs) H := by
  obtain ⟨s, L, q, l, rfl, R, lo, ⟨m, I, hm⟩, k⟩ := h
  have hn := I.a.hok.ne
  have hlen : (inState s 1).length ≤ 1000 := Nat.le_trans (List.length_filter_le _ _) (by rw [List.length_range]; exact hn)
  refine s_retCC (ea_cons (ev_var rfl) (ea_cons (ev_c (v := .int ((1 : Nat) : Int))) ea_nil)) fun H1 e1 => ⟨s, L, 1, rfl, R.ex e1, hn, fun p H2 hp e2 h2 => ?_⟩
  have G2 := Go.ex R (e1.trans e2)
  refine ⟨s, L, p, inState s 1, rfl, G2.rep, h2, fun i hi => (inState_mem.mp hi).1, hlen, fun p' H3 hp' e3 h3 => ?_⟩
  exact k L H3 p' (G2.trans (Go.ex G2.rep e3)) (G2.new hp') (by rw [h3, ← ints_V]; rfl)
/-! registers -/
theorem rd_registers (X : Txt K mg T B) (vs : List V) (H : Hp) (Q : VK) (E : XK) (h : spOp T ok0 opRegisters vs H Q E) : t_registers K T { nx := fun _ H' => Q .non H', rt := Q } (start N_registers vs) H := by
  obtain ⟨s, L, q, l, rfl, R, lo, ⟨m, I, hm⟩, k⟩ := h
  have hg := I.a.hok.regs
  refine s_retGo (Go.refl R) (xs := intL (4 :: s.registers)) (el_cat (xs := [.int ((4 : Nat) : Int)]) (el_lst (ea_cons ev_c ea_nil) (by show 1 ≤ 100000; decide)) (evS_registers X R (ev_var rfl)) (R.at_ .regs _ rfl) (by rw [List.length_map, hg]; show 1 + 4 ≤ 100000; decide)) fun H' p G nw hp => k L H' p G nw (by rw [hp, ← ints_V]; rfl)
/-! quota -/
theorem rd_quota (X : Txt K mg T B) (vs : List V) (H : Hp) (Q : VK) (E : XK) (h : spOp T ok1 opQuota vs H Q E) : t_quota K T (spQuota T) { nx := fun _ H' => Q .non H', rt := Q } (start N_quota vs) H := by
  obtain ⟨s, L, q, l, rfl, R, lo, ⟨⟨m, I, hm⟩, hl⟩, k⟩ := h
  refine q_asg (ev_num0 (ev_var rfl) lo.lst hl) fun H1 e1 => ?_
  have R1 := R.ex e1
  unfold opQuota at k
  generalize l.getD 0 0 = n at k ⊢
  refine q_when (b := decide (s.clients.length ≤ n)) (et_is (et_test (ev_op (ev_var (v := .int (n : Int)) rfl) (ev_len (evS_clients X R1 (ev_var rfl)) (sq_of (R1.at_ .clis _ rfl))) rv_I0)) (by rw [refs_len]; exact nat_le _ _)) (fun hb H2 e2 => ?_) fun hb H2 e2 => ?_
  · rw [if_pos (of_decide_eq_true hb)] at k
    exact s_retGo (Go.ex R (e1.trans e2)) (el_lst (ea_cons (ev_c (v := .int (-2))) ea_nil) (by show 1 ≤ 100000; decide)) fun H' p G nw hp => k L H' p G nw hp
  · have hn := of_decide_eq_false hb
    rw [if_neg hn] at k
    have hc : n < s.clients.length := by omega
    have R2 := R1.ex e2
    refine q_asg (v := .ref (L.at_ (.cli n))) (ev_op (evS_clients X R2 (ev_var rfl)) (ev_var (v := .int (n : Int)) rfl) (rv_ixL (sq_of (R2.at_ .clis _ rfl)) (atI_nat (refs_get hc)))) fun H3 e3 => ?_
    have R3 := R2.ex e3
    have h0 := cli_some hc
    have cb := I.b.cli _ (List.mem_of_getElem? h0)
    exact s_retGo (Go.ex R ((e1.trans e2).trans e3)) (xs := intL [quotaNow (cliAt s n) s.now, (cliAt s n).capacity, (cliAt s n).refill]) (el_lst (ea_cons (ev_call (ea_cons (ev_var rfl) (ea_cons (evS_now X R3 (ev_var rfl)) ea_nil)) (spv_quota R3 hc cb.2.1 cb.2.2)) (ea_cons (evC_capacity X R3 h0 (ev_var rfl)) (ea_cons (evC_refill X R3 h0 (ev_var rfl)) ea_nil))) (by show 3 ≤ 100000; decide)) fun H' p G nw hp => k L H' p G nw (by rw [hp, ints_V])
/-! find_key -/
theorem rd_find_key (X : Txt K mg T B) (vs : List V) (H : Hp) (Q : VK) (E : XK) (h : spOp T ok2 opFindKey vs H Q E) : t_find_key K T (spShared T) (spStVal T) { nx := fun _ H' => Q .non H', rt := Q } (start N_find_key vs) H := by
  obtain ⟨s, L, q, l, rfl, R, lo, ⟨⟨m, I, hm⟩, hl⟩, k⟩ := h
  have e2 := two hl
  unfold opFindKey at k
  have hq := lo.lst
  generalize l.getD 0 0 = n at e2 k
  generalize l.getD 1 0 = r at e2 k
  subst e2
  refine q_unl2 (K := K) (a := n) (b := r) (q := q) rfl hq ?_
  change tSeq _ _ _ [some (.ref (L.at_ .srv)), some (.ref q), some (.int (n : Int)), some (.int (r : Int)), none] H
  refine q_when (b := decide (s.clients.length ≤ n)) (et_is (et_test (ev_op (ev_var (v := .int (n : Int)) rfl) (ev_len (evS_clients X R (ev_var rfl)) (sq_of (R.at_ .clis _ rfl))) rv_I0)) (by rw [refs_len]; exact nat_le _ _)) (fun hb H1 e1 => ?_) fun hb H1 e1 => ?_
  · rw [if_pos (of_decide_eq_true hb)] at k
    exact s_retGo (Go.ex R e1) (el_lst (ea_cons (ev_c (v := .int (-2))) ea_nil) (by show 1 ≤ 100000; decide)) fun H' p G nw hp => k L H' p G nw hp
  · rw [if_neg (of_decide_eq_false hb)] at k
    have R1 := R.ex e1
    refine q_asg (v := optE L (sharedExe s n r)) (ev_call (ea_cons (ev_var rfl) (ea_cons (ev_var rfl) (ea_cons (ev_var rfl) ea_nil))) (spv_shared R1)) fun H2 e2 => ?_
    have R2 := R1.ex e2
    cases ho : sharedExe s n r with
    | none =>
      rw [ho] at k
      refine q_when (b := true) (et_is (et_test (ev_op (ev_var (v := .non) rfl) ev_c rv_isN)) rfl) (fun _ H3 e3 => ?_) fun hb => by cases hb
      exact s_retGo (Go.ex R ((e1.trans e2).trans e3)) (el_lst (ea_cons (ev_c (v := .int (-33))) ea_nil) (by show 1 ≤ 100000; decide)) fun H' p G nw hp => k L H' p G nw hp
    | some j =>
      rw [ho] at k
      have hj : j < s.executions.length := by
        unfold sharedExe at ho
        split at ho
        · cases ho
        · exact shared_lt ho
      refine q_when (b := false) (et_is (et_test (ev_op (ev_var (v := .ref (L.at_ (.exe j))) rfl) ev_c rv_isN)) rfl) (fun hb => by cases hb) fun _ H3 e3 => ?_
      have R3 := R2.ex e3
      have h0 := exe_some hj
      exact s_retGo (Go.ex R ((e1.trans e2).trans e3)) (xs := intL [j, (exeAt s j).state, stVal (exeAt s j)]) (el_lst (ea_cons (evE_number X R3 h0 (ev_var (v := .ref (L.at_ (.exe j))) rfl)) (ea_cons (evE_state X R3 h0 (ev_var (v := .ref (L.at_ (.exe j))) rfl)) (ea_cons (ev_call (ea_cons (ev_var (v := .ref (L.at_ (.exe j))) rfl) ea_nil) (spv_stVal R3 hj)) ea_nil))) (by show 3 ≤ 100000; decide)) fun H' p G nw hp => k L H' p G nw (by rw [hp, ints_V])
/-! estimate -/
theorem rd_estimate (X : Txt K mg T B) (vs : List V) (H : Hp) (Q : VK) (E : XK) (h : spOp T ok0 opEstimate vs H Q E) : t_estimate K T (spWait T) { nx := fun _ H' => Q .non H', rt := Q } (start N_estimate vs) H := by
  obtain ⟨s, L, q, l, rfl, R, lo, ⟨m, I, hm⟩, k⟩ := h
  have b0 := I.b.lim0
  have b1 := I.b.lim1
  exact s_retGo (Go.refl R) (xs := intL [estWait s, s.average]) (el_lst (ea_cons (ev_call (ea_cons (ev_var rfl) ea_nil) (spv_wait R I.a.hok.ne (by omega) (by omega))) (ea_cons (evS_average X R (ev_var rfl)) ea_nil)) (by show 2 ≤ 100000; decide)) fun H' p G nw hp => k L H' p G nw (by rw [hp, ← ints_V]; rfl)
/-! statistics -/
theorem ev_count {p : Addr} {ys : List V} {y : V} (ha : Ev ta σ H (.ref p)) (hp : H p = some (.lst ys)) (hb : Ev tb σ H y) (fy : flatV y = true) (fs : ys.all flatV = true) : Ev (tBM K "list" (rCount K) ta (tCons tb tNil)) σ H (.int ((ys.countP fun z => eqV z y : Nat) : Int)) := fun H1 e Q q =>
  ha H1 e _ fun H2 e2 => ⟨Or.inl ⟨rfl, ys, sq_of (e2 _ _ (e _ _ hp))⟩, hb H2 (e.trans e2) _ fun H3 e3 => ⟨p, ys, y, rfl, rfl, sq_of (e3 _ _ (e2 _ _ (e _ _ hp))), fy, fs, q H3 (e2.trans e3)⟩⟩
theorem ev_sumN {l : List Nat} (ha : EvL ta σ H (intL l)) : Ev (tCB (rSum K) (tCons ta tNil)) σ H (.int ((l.sum : Nat) : Int)) := fun H1 e Q q =>
  ha H1 e _ fun p H2 hp e2 h2 => by
    have z := (ev_sum (K := K) (σ := σ) (ta := tC (.ref p)) (H := H2) (ev_c (v := .ref p)) h2) H2 (Ex.refl H2) Q fun H3 e3 => q H3 (e2.trans e3)
    exact z
def stV (s : Srv) : List V := s.requests.map fun r => opt r.status
theorem stV_flat : (stV s).all flatV = true := by
  unfold stV
  rw [List.all_map, List.all_eq_true]
  intro r _
  show flatV (opt r.status) = true
  cases r.status <;> rfl
theorem stV_count (o : Option Nat) : (stV s).countP (fun z => eqV z (opt o)) = cntSt s o := by
  unfold stV cntSt
  rw [List.countP_map]
  refine List.countP_congr fun r _ => ?_
  show eqV (opt r.status) (opt o) = true ↔ (r.status == o) = true
  cases r.status with
  | none =>
    cases o with
    | none => exact Iff.intro (fun _ => rfl) (fun _ => rfl)
    | some b =>
      constructor
      · intro h
        cases h
      · intro h
        cases h
  | some a =>
    cases o with
    | none =>
      constructor
      · intro h
        cases h
      · intro h
        cases h
    | some b =>
      show ((a : Int) == (b : Int)) = true ↔ (some a == some b) = true
      rw [beq_iff_eq, beq_iff_eq, Option.some.injEq]
      omega
theorem range_map {α β : Type} (l : List α) (a : α) (f : α → β) : (List.range l.length).map (fun i => f (l.getD i a)) = l.map f := by
  refine List.ext_getElem? fun i => ?_
  by_cases z : i < l.length
  · rw [List.getElem?_map, List.getElem?_range z, List.getElem?_map, List.getElem?_eq_getElem z]
    show some (f (l.getD i a)) = some (f l[i])
    rw [List.getD_eq_getElem?_getD, List.getElem?_eq_getElem z]
    rfl
  · rw [List.getElem?_eq_none (by rw [List.length_map, List.length_range]; omega), List.getElem?_eq_none (by rw [List.length_map]; omega)]
theorem el_reqs (X : Txt K mg T B) (R : Rep T s L H) (hn : s.requests.length ≤ 1000) {f : Str} {g : Req → V} (ha : Ev ta σ H (.ref (L.at_ .srv))) {j : Nat} (hw : ∀ x, wipe ((wipe σ [j]).set j (some x)) [j] = wipe σ [j]) (hj : ∀ x, ((wipe σ [j]).set j (some x))[j]? = some (some x))
    (hf : ∀ H1 i, Ex H H1 → i < s.requests.length → Ev (tFld K (tVar j) f) ((wipe σ [j]).set j (some (.ref (L.at_ (.req i))))) H1 (g (reqAt s i))) : EvL (tLc (iList K (tFld K ta "requests")) (gName j) tYes (tFld K (tVar j) f) [j]) σ H (s.requests.map g) := by
  have e0 : given (refs L .req s.requests.length).length (fun _ => true) (fun i => g (reqAt s i)) = s.requests.map g := by
    rw [refs_len]
    unfold given
    rw [List.filter_eq_self.mpr (fun _ _ => rfl)]
    exact range_map s.requests req0 g
  rw [← e0]
  refine el_lcL (a := L.at_ .reqs) (fun _ => true) (fun i => g (reqAt s i)) (evS_requests X R ha) (sq_of (R.at_ .reqs _ rfl)) (by rw [refs_len]; omega) hw (fun i x H1 e1 hx => fun H2 _ Q q => q H2 (Ex.refl H2)) fun i x H1 e1 hx _ => ?_
  obtain ⟨hi, rfl⟩ := refs_at hx
  exact hf H1 i e1 hi
theorem rd_statistics (X : Txt K mg T B) (vs : List V) (H : Hp) (Q : VK) (E : XK) (h : spOp T ok0 opStatistics vs H Q E) : t_statistics K T { nx := fun _ H' => Q .non H', rt := Q } (start N_statistics vs) H := by
  obtain ⟨s, L, q, l, rfl, R, lo, ⟨m, I, hm⟩, k⟩ := h
  have hn := I.a.hok.nr
  refine q_asgL (xs := stV s) (el_reqs X R hn (ev_var rfl) (fun x => rfl) (fun x => rfl) fun H1 i e1 hi => evR_status X (R.ex e1) (req_some hi) (ev_var rfl)) fun p H1 hp e1 h1 => ?_
  have R1 := R.ex e1
  have js : EvL (tLc (iList K (tFld K (tVar 0) "requests")) (gName 3) tYes (tFld K (tVar 3) "joined") [3]) [some (.ref (L.at_ .srv)), some (.ref q), some (.ref p), none] H1 (intL (s.requests.map fun r => r.joined)) := by
    have e0 : intL (s.requests.map fun r => r.joined) = s.requests.map fun r => V.int ((r.joined : Nat) : Int) := by
      unfold intL
      rw [List.map_map]
      rfl
    rw [e0]
    exact el_reqs (g := fun r => V.int ((r.joined : Nat) : Int)) X R1 hn (ev_var rfl) (fun x => rfl) (fun x => rfl) fun H2 i e2 hi => evR_joined X (R1.ex e2) (req_some hi) (ev_var rfl)
  have cnt : ∀ (o : Option Nat) (tb : TE), Ev tb [some (.ref (L.at_ .srv)), some (.ref q), some (.ref p), none] H1 (opt o) → Ev (tBM K "list" (rCount K) (tVar 2) (tCons tb tNil)) [some (.ref (L.at_ .srv)), some (.ref q), some (.ref p), none] H1 (.int ((cntSt s o : Nat) : Int)) := fun o tb hb =>
    ev_is (ev_count (ev_var rfl) h1 hb (by cases o <;> rfl) stV_flat) (by rw [stV_count])
  exact s_retGo (Go.ex R e1) (xs := intL [s.requests.length, cntSt s (some 0), cntSt s (some 100), cntSt s (some 4), cntSt s none, (s.requests.map fun (r : Req) => r.joined).sum, s.executions.length])
    (el_lst (ea_cons (ev_is (ev_len (ev_var (v := .ref p) rfl) (sq_of h1)) (by unfold stV; rw [List.length_map])) (ea_cons (cnt (some 0) _ (ev_c (v := .int ((0 : Nat) : Int)))) (ea_cons (cnt (some 100) _ (ev_c (v := .int ((100 : Nat) : Int)))) (ea_cons (cnt (some 4) _ (ev_c (v := .int ((4 : Nat) : Int)))) (ea_cons (cnt none _ (ev_c (v := .non)))
      (ea_cons (ev_sumN js) (ea_cons (ev_is (ev_len (evS_executions X R1 (ev_var rfl)) (sq_of (R1.at_ .exes _ rfl))) (by rw [refs_len])) ea_nil))))))) (by show 7 ≤ 100000; decide)) fun H' p G nw hp => k L H' p G nw (by rw [hp, ← ints_V]; rfl)
/-! status -/
theorem rd_status (X : Txt K mg T B) (vs : List V) (H : Hp) (Q : VK) (E : XK) (h : spOp T ok0 opStatus vs H Q E) : t_status K T (spInState T) { nx := fun _ H' => Q .non H', rt := Q } (start N_status vs) H := by
  obtain ⟨s, L, q, l, rfl, R, lo, ⟨m, I, hm⟩, k⟩ := h
  have hn := I.a.hok.ne
  refine q_asg (v := .int (((if s.graceEnd = none then 0 else 1 : Nat)) : Int)) (ev_if (b := s.graceEnd == none) (et_is (et_test (ev_op (evS_grace_end X R (ev_var rfl)) ev_c rv_isN)) (opt_non _)) (fun hb => by rw [if_pos (eq_of_beq hb)]; exact ev_c) (fun hb => by rw [if_neg (fun z => by rw [z] at hb; cases hb)]; exact ev_c)) fun H1 e1 => ?_
  have R1 := R.ex e1
  exact s_retGo (Go.ex R e1) (xs := intL [s.now, (inState s 1).length, (inState s 0).length, if s.graceEnd = none then 0 else 1, s.methods.length, s.clients.length])
    (el_lst (ea_cons (evS_now X R1 (ev_var rfl)) (ea_cons (ev_lenIn (st := 1) R1 hn (ev_var rfl)) (ea_cons (ev_lenIn (st := 0) R1 hn (ev_var rfl)) (ea_cons (ev_var rfl) (ea_cons (ev_is (ev_len (evS_methods X R1 (ev_var rfl)) (sq_of (R1.at_ .meths _ rfl))) (by rw [refs_len])) (ea_cons (ev_is (ev_len (evS_clients X R1 (ev_var rfl)) (sq_of (R1.at_ .clis _ rfl))) (by rw [refs_len])) ea_nil)))))) (by show 6 ≤ 100000; decide)) fun H' p G nw hp => k L H' p G nw (by rw [hp, ← ints_V]; rfl)
end
end Kc
/-! an arrival: what it comes to, what it keeps, against the specification -/
namespace KM
open Kp424 (Server Execution Request Method Customer Progress Settings Event)
open Kc (Aok Hok WaitOk Rok Wok phi)
def addR (s : Srv) (r : Req) : Srv := { s with requests := s.requests ++ [r] }
def mkR (s : Srv) (a : AskV) (x : Option Nat) (j : Nat) (st : Option Nat) (fin d : Nat) : Req := ⟨a.client, s.now, s.now + a.timeout, x, j, st, fin, d⟩
def queued (s : Srv) (a : AskV) (q : Nat) : Srv := { s with clients := s.clients.set a.client { cliAt s a.client with quota := q, quotaAt := s.now }, executions := s.executions ++ [newExe a], requests := s.requests ++ [mkR s a (some s.executions.length) 0 none 0 0] }
def arr2 (s : Srv) (a : AskV) : Srv :=
  if quotaNow (cliAt s a.client) s.now < (methAt s a.method).cost * 1000 then addR s (mkR s a none 0 (some 8) s.now (quotaDelay (cliAt s a.client) (quotaNow (cliAt s a.client) s.now) ((methAt s a.method).cost * 1000)))
  else if (isFull s || (s.shedding == 1 && decide (a.timeout ≤ estWait s))) = true then addR s (mkR s a none 0 (some 100) s.now (estWait s))
  else fillSlots (queued s a (quotaNow (cliAt s a.client) s.now - (methAt s a.method).cost * 1000))
def arr1 (s : Srv) (a : AskV) (j : Nat) : Srv :=
  if (!((exeAt s j).method == a.method) || !((exeAt s j).payload == a.payload)) = true then addR s (mkR s a none 0 (some 3) s.now 0)
  else if (exeAt s j).state = 2 then addR s (mkR s a (some j) 1 (some (exeAt s j).status) s.now 0)
  else addR s (mkR s a (some j) 1 none 0 0)
def arr (s : Srv) (a : AskV) : Srv := match stranger s a with
  | some st => addR s (mkR s a none 0 (some st) s.now 0)
  | none => match sharedExe s a.client a.key with
    | some j => arr1 s a j
    | none => arr2 s a
section
variable {s t : Srv} {i k : Nat} {a : AskV}
theorem set_last {α : Type} (l : List α) (x y : α) : (l ++ [x]).set l.length y = l ++ [y] := by
  induction l with
  | nil => rfl
  | cons z l ih => exact congrArg (z :: ·) ih
theorem add_last {r : Req} : setR (addReq s a) s.requests.length r = addR s r := by
  unfold setR addReq addR
  rw [set_last]
theorem add_rat : reqAt (addReq s a) s.requests.length = newReq s a := reqAt_of Kc.add_at
theorem endReq_add {st : Nat} : endReq (addReq s a) s.requests.length st = addR s (mkR s a none 0 (some st) s.now 0) := by
  unfold endReq
  rw [add_last, add_rat]
  rfl
theorem turn_add {st d : Nat} : turnAway (addReq s a) s.requests.length st d = addR s (mkR s a none 0 (some st) s.now d) := by
  unfold turnAway endReq
  rw [Kc.setR_set, add_last, add_rat]
  rfl
theorem shared_add {c key : Nat} : ∀ n, sharedUpTo (addReq s a) c key n = sharedUpTo s c key n
  | 0 => rfl
  | n + 1 => by
    rw [sharedUpTo, sharedUpTo, shared_add n]
    rfl
theorem arrive_eq (s : Srv) (a : AskV) : arriveReq s a = arr s a := by
  unfold arriveReq arr
  cases stranger s a with
  | some st => exact endReq_add
  | none =>
    have e : sharedExe (addReq s a) a.client a.key = sharedExe s a.client a.key := by
      unfold sharedExe
      rw [shared_add]
      rfl
    dsimp only
    rw [e]
    cases sharedExe s a.client a.key with
    | some j =>
      show joinReq (addReq s a) s.requests.length j a = arr1 s a j
      unfold joinReq arr1
      have ee : exeAt (addReq s a) j = exeAt s j := rfl
      rw [ee]
      split
      · exact endReq_add
      · split
        · unfold endReq
          rw [Kc.setR_set, add_last]
          have e2 : reqAt (setR (addReq s a) s.requests.length { reqAt (addReq s a) s.requests.length with execution := some j, joined := 1 }) s.requests.length = { reqAt (addReq s a) s.requests.length with execution := some j, joined := 1 } := Kc.reqAt_setOn (by
            show _ < (s.requests ++ [_]).length
            rw [List.length_append]
            exact Nat.lt_succ_self _)
          rw [e2, add_rat]
          rfl
        · rw [add_last, add_rat]
          rfl
    | none =>
      show admitReq (addReq s a) s.requests.length a = arr2 s a
      unfold admitReq arr2
      have e1 : quotaNow (cliAt (addReq s a) a.client) (addReq s a).now = quotaNow (cliAt s a.client) s.now := rfl
      have e2 : methAt (addReq s a) a.method = methAt s a.method := rfl
      have e3 : isFull (addReq s a) = isFull s := rfl
      have e4 : estWait (addReq s a) = estWait s := rfl
      have e5 : (addReq s a).shedding = s.shedding := rfl
      rw [e1, e2, e3, e4, e5]
      split
      · exact turn_add
      · split
        · exact turn_add
        · congr 1
          unfold queueReq charge setC queueExe setR queued addReq
          dsimp only
          rw [set_last]
          have e6 : reqAt (setC (addReq s a) a.client { cliAt (addReq s a) a.client with quota := quotaNow (cliAt s a.client) s.now - (methAt s a.method).cost * 1000, quotaAt := (addReq s a).now }) s.requests.length = newReq s a := add_rat (s := s) (a := a)
          exact congrArg (fun r : Req => ({ s with clients := s.clients.set a.client { cliAt s a.client with quota := quotaNow (cliAt s a.client) s.now - (methAt s a.method).cost * 1000, quotaAt := s.now }, executions := s.executions ++ [newExe a], requests := s.requests ++ [{ r with execution := some s.executions.length }] } : Srv)) e6
/-! what is kept when a request comes behind the others -/
theorem addR_len {r : Req} : (addR s r).requests.length = s.requests.length + 1 := by
  show (s.requests ++ [r]).length = _
  rw [List.length_append]
  rfl
theorem addR_old {r : Req} {j : Nat} (h : j < s.requests.length) : reqAt (addR s r) j = reqAt s j := by
  unfold reqAt addR
  rw [List.getD_eq_getElem?_getD, List.getD_eq_getElem?_getD, List.getElem?_append_left h]
theorem addR_new {r : Req} : reqAt (addR s r) s.requests.length = r := reqAt_of Kc.app_new
theorem aok_addR (A : Aok s) {r : Req} (hn : s.requests.length < 1000) (h1 : r.status = none → ∃ i, r.execution = some i ∧ i < s.executions.length ∧ (exeAt s i).state ≤ 1) (h2 : r.status = some 0 → ∃ i, r.execution = some i ∧ i < s.executions.length) (h3 : r.joined ≤ 1) (h4 : r.deadline ≤ s.now + 100000) : Aok (addR s r) := by
  have which : ∀ j, j < (addR s r).requests.length → (j < s.requests.length ∧ reqAt (addR s r) j = reqAt s j) ∨ reqAt (addR s r) j = r := fun j hj => by
    rw [addR_len] at hj
    by_cases z : j < s.requests.length
    · exact .inl ⟨z, addR_old z⟩
    · have e : j = s.requests.length := by omega
      right
      rw [e]
      exact addR_new
  refine ⟨⟨A.hok.ne, by rw [addR_len]; omega, Kc.prOk_of A.hok.pr rfl, Kc.inOk_of A.hok.ins rfl, A.hok.regs, fun j e he => ⟨Kc.exOk_of (A.hok.ex j e he).1 rfl, (A.hok.ex j e he).2⟩⟩, fun j hj hs => ?_, ⟨fun j hj h => ?_, fun j hj h => ?_, fun j hj => ?_, fun j hj => ?_⟩, A.wake⟩
  · obtain ⟨q, hq⟩ := List.exists_mem_of_ne_nil _ (A.wait j hj hs)
    have hm := Kc.waitingOn_mem.mp hq
    have : q ∈ waitingOn (addR s r) j := Kc.waitingOn_mem.mpr ⟨by rw [addR_len]; omega, by rw [addR_old hm.1]; exact hm.2.1, by rw [addR_old hm.1]; exact hm.2.2⟩
    intro y
    rw [y] at this
    cases this
  · rcases which j hj with ⟨z, e⟩ | e
    · rw [e] at h ⊢
      exact A.req.op j z h
    · rw [e] at h ⊢
      exact h1 h
  · rcases which j hj with ⟨z, e⟩ | e
    · rw [e] at h ⊢
      exact A.req.ok j z h
    · rw [e] at h ⊢
      exact h2 h
  · rcases which j hj with ⟨z, e⟩ | e
    · rw [e]
      exact A.req.jo j z
    · rw [e]
      exact h3
  · rcases which j hj with ⟨z, e⟩ | e
    · rw [e]
      exact A.req.dl j z
    · rw [e]
      exact h4
theorem inv_addR (I : Inv k s) {r : Req} (hn : s.requests.length < 60) (h1 : r.status = none → ∃ i, r.execution = some i ∧ i < s.executions.length ∧ (exeAt s i).state ≤ 1) (h2 : r.status = some 0 → ∃ i, r.execution = some i ∧ i < s.executions.length) (h3 : r.joined ≤ 1) (h4 : r.deadline ≤ s.now + 100000) : Inv k (addR s r) :=
  ⟨aok_addR I.a (by omega) h1 h2 h3 h4, ⟨I.b.dis, I.b.lim0, I.b.lim1, I.b.mc, I.b.cc, by rw [addR_len]; omega, by rw [addR_len]; exact Nat.le_succ_of_le I.b.ec, I.b.cli, I.b.grace⟩, I.st3.of rfl, I.full, I.now⟩
theorem aok_queued (A : Aok s) {q : Nat} (hn : s.requests.length < 1000) (hne : s.executions.length < 1000) (hm : a.method < s.methods.length) (h4 : s.now + a.timeout ≤ s.now + 100000) : Aok (queued s a q) := by
  have len : (queued s a q).requests.length = s.requests.length + 1 := addR_len (s := s) (r := mkR s a (some s.executions.length) 0 none 0 0)
  have ne : (queued s a q).executions.length = s.executions.length + 1 := by
    show (s.executions ++ [newExe a]).length = _
    rw [List.length_append]
    rfl
  have old : ∀ j, j < s.executions.length → exeAt (queued s a q) j = exeAt s j := fun j hj => exeAt_eq (List.getElem?_append_left hj)
  have new : exeAt (queued s a q) s.executions.length = newExe a := exeAt_of Kc.app_new
  have which : ∀ j, j < (queued s a q).requests.length → (j < s.requests.length ∧ reqAt (queued s a q) j = reqAt s j) ∨ (j = s.requests.length ∧ reqAt (queued s a q) j = mkR s a (some s.executions.length) 0 none 0 0) := fun j hj => by
    rw [len] at hj
    by_cases z : j < s.requests.length
    · exact .inl ⟨z, addR_old (s := s) (r := mkR s a (some s.executions.length) 0 none 0 0) z⟩
    · have e : j = s.requests.length := by omega
      refine .inr ⟨e, ?_⟩
      rw [e]
      exact addR_new (s := s) (r := mkR s a (some s.executions.length) 0 none 0 0)
  have lastR : reqAt (queued s a q) s.requests.length = mkR s a (some s.executions.length) 0 none 0 0 := addR_new (s := s) (r := mkR s a (some s.executions.length) 0 none 0 0)
  have oldR : ∀ j, j < s.requests.length → reqAt (queued s a q) j = reqAt s j := fun j hj => addR_old (s := s) (r := mkR s a (some s.executions.length) 0 none 0 0) hj
  refine ⟨⟨by rw [ne]; omega, by rw [len]; omega, Kc.prOk_of A.hok.pr rfl, Kc.inOk_of A.hok.ins rfl, A.hok.regs, fun j e he => ?_⟩, fun j hj hs => ?_, ⟨fun j hj h => ?_, fun j hj h => ?_, fun j hj => ?_, fun j hj => ?_⟩, fun j hj h => ?_⟩
  · have he' : (s.executions ++ [newExe a])[j]? = some e := he
    rcases Kc.app_at he' with z | ⟨_, z⟩
    · have w := A.hok.ex j e z
      exact ⟨Kc.exOk_of w.1 rfl, w.2⟩
    · rw [z]
      refine ⟨⟨⟨fun f hf => ?_, fun f hf => ?_⟩, Nat.le_refl _, Nat.zero_le _, Nat.zero_le _⟩, Nat.zero_le _⟩
      · rw [List.mem_singleton.mp hf]
        exact hm
      · rw [List.mem_singleton.mp hf]
        rfl
  · rw [ne] at hj
    by_cases z : j < s.executions.length
    · rw [old j z] at hs
      obtain ⟨r, hr⟩ := List.exists_mem_of_ne_nil _ (A.wait j z hs)
      have w := Kc.waitingOn_mem.mp hr
      have : r ∈ waitingOn (queued s a q) j := Kc.waitingOn_mem.mpr ⟨by rw [len]; omega, by rw [oldR r w.1]; exact w.2.1, by rw [oldR r w.1]; exact w.2.2⟩
      intro y
      rw [y] at this
      cases this
    · have e : j = s.executions.length := by omega
      have : s.requests.length ∈ waitingOn (queued s a q) j := Kc.waitingOn_mem.mpr ⟨by rw [len]; omega, by rw [lastR]; rfl, by rw [lastR, e]; rfl⟩
      intro y
      rw [y] at this
      cases this
  · rcases which j hj with ⟨z, e⟩ | ⟨z, e⟩
    · rw [e] at h ⊢
      obtain ⟨i, w1, w2, w3⟩ := A.req.op j z h
      exact ⟨i, w1, by rw [ne]; omega, by rw [old i w2]; exact w3⟩
    · rw [e]
      exact ⟨s.executions.length, rfl, by rw [ne]; omega, by rw [new]; exact Nat.zero_le _⟩
  · rcases which j hj with ⟨z, e⟩ | ⟨z, e⟩
    · rw [e] at h ⊢
      obtain ⟨i, w1, w2⟩ := A.req.ok j z h
      exact ⟨i, w1, by rw [ne]; omega⟩
    · rw [e] at h
      cases h
  · rcases which j hj with ⟨z, e⟩ | ⟨z, e⟩
    · rw [e]
      exact A.req.jo j z
    · rw [e]
      exact Nat.zero_le _
  · rcases which j hj with ⟨z, e⟩ | ⟨z, e⟩
    · rw [e]
      exact A.req.dl j z
    · rw [e]
      exact h4
  · rw [ne] at hj
    by_cases z : j < s.executions.length
    · rw [old j z] at h ⊢
      exact A.wake j z h
    · have e : j = s.executions.length := by omega
      rw [e, new] at h
      cases h
theorem st3_queued (S : St3 s) {q : Nat} : St3 (queued s a q) := fun j => by
  by_cases z : j < s.executions.length
  · rw [show exeAt (queued s a q) j = exeAt s j from exeAt_eq (List.getElem?_append_left z)]
    exact S j
  · by_cases e : j = s.executions.length
    · rw [e, show exeAt (queued s a q) s.executions.length = newExe a from exeAt_of Kc.app_new]
      exact Nat.zero_le _
    · rw [show exeAt (queued s a q) j = exe0 from by unfold exeAt; rw [List.getD_eq_getElem?_getD, List.getElem?_eq_none (by show (s.executions ++ [newExe a]).length ≤ j; rw [List.length_append]; show s.executions.length + 1 ≤ j; omega)]; rfl]
      exact Nat.le_refl _
theorem base_queued (I : Inv k s) {q : Nat} (hn : s.requests.length < 60) : Base (queued s a q) := by
  refine ⟨I.b.dis, I.b.lim0, I.b.lim1, I.b.mc, ?_, ?_, ?_, fun c hc => ?_, I.b.grace⟩
  · show (s.clients.set _ _).length ≤ 8
    rw [List.length_set]
    exact I.b.cc
  · show (s.requests ++ [_]).length ≤ 60
    rw [List.length_append]
    exact hn
  · show (s.executions ++ [_]).length ≤ (s.requests ++ [_]).length
    rw [List.length_append, List.length_append]
    exact Nat.succ_le_succ I.b.ec
  · have hc' : c ∈ s.clients.set a.client { cliAt s a.client with quota := q, quotaAt := s.now } := hc
    rcases List.mem_or_eq_of_mem_set hc' with z | z
    · exact I.b.cli c z
    · rw [z]
      by_cases w : a.client < s.clients.length
      · have u := I.b.cli _ (List.mem_of_getElem? (cli_some w))
        exact ⟨u.1, u.2.1, Nat.le_refl _⟩
      · have e : cliAt s a.client = cli0 := by
          unfold cliAt
          rw [List.getD_eq_getElem?_getD, List.getElem?_eq_none (by omega)]
          rfl
        rw [e]
        exact ⟨Nat.zero_le _, Nat.zero_le _, Nat.le_refl _⟩
theorem shared_some {c key j : Nat} : ∀ {n : Nat}, sharedUpTo s c key n = some j → j < n ∧ isShared s c key (exeAt s j) = true
  | n + 1, h => by
    rw [sharedUpTo] at h
    split at h
    · cases h
      exact ⟨Nat.lt_succ_self _, by assumption⟩
    · have z := shared_some (n := n) h
      exact ⟨Nat.lt_succ_of_lt z.1, z.2⟩
theorem sharedExe_some {c key j : Nat} (h : sharedExe s c key = some j) : j < s.executions.length ∧ isShared s c key (exeAt s j) = true := by
  unfold sharedExe at h
  split at h
  · cases h
  · exact shared_some h
theorem shared_state {c key : Nat} {e : Exe} (h : isShared s c key e = true) : e.state ≠ 3 := by
  intro z
  unfold isShared joinable at h
  rw [z] at h
  simp at h
theorem inv_arr (I : Inv k s) (hn : s.requests.length < 60) (ht : a.timeout ≤ 100000) : Inv k (arr s a) := by
  have dl : ∀ x j st f d, (mkR s a x j st f d).deadline ≤ s.now + 100000 := fun x j st f d => by
    show s.now + a.timeout ≤ _
    omega
  have closed : ∀ st f d, st ≠ 0 → Inv k (addR s (mkR s a none 0 (some st) f d)) := fun st f d h => inv_addR I hn (fun z => by cases z) (fun z => absurd (Option.some.inj z) h) (Nat.zero_le _) (dl _ _ _ _ _)
  unfold arr
  cases hst : stranger s a with
  | some st =>
    refine closed st _ _ fun z => ?_
    unfold stranger at hst
    subst z
    split at hst
    · cases hst
    · split at hst
      · cases hst
      · split at hst
        · cases hst
        · split at hst <;> cases hst
  | none =>
    dsimp only
    cases hsh : sharedExe s a.client a.key with
    | some j =>
      dsimp only
      obtain ⟨j1, j2⟩ := sharedExe_some hsh
      unfold arr1
      split
      · exact closed 3 _ _ (by decide)
      · split
        · exact inv_addR I hn (fun z => by cases z) (fun _ => ⟨j, rfl, j1⟩) (Nat.le_refl _) (dl _ _ _ _ _)
        · rename_i h2
          refine inv_addR I hn (fun _ => ⟨j, rfl, j1, ?_⟩) (fun z => by cases z) (Nat.le_refl _) (dl _ _ _ _ _)
          have := I.st3 j
          have := shared_state j2
          omega
    | none =>
      dsimp only
      unfold arr2
      split
      · exact closed 8 _ _ (by decide)
      · split
        · exact closed 100 _ _ (by decide)
        · have hm := Kc.strange_method hst
          have A := aok_queued (a := a) (q := quotaNow (cliAt s a.client) s.now - (methAt s a.method).cost * 1000) I.a (by omega) (by have := I.b.ec; omega) hm (by omega)
          have F := Kc.fill_ok (inState (queued s a (quotaNow (cliAt s a.client) s.now - (methAt s a.method).cost * 1000)) 0).length _ A
          have St := stay_fill (inState (queued s a (quotaNow (cliAt s a.client) s.now - (methAt s a.method).cost * 1000)) 0).length (queued s a (quotaNow (cliAt s a.client) s.now - (methAt s a.method).cost * 1000))
          exact ⟨F.1, (base_queued I hn).stay St, St3.fill _ (st3_queued I.st3), full_fill, by show (fillSlots _).now ≤ k; unfold fillSlots; rw [St.now]; exact I.now⟩
end
end KM
/-! an arrival against the specification; it changes nothing that was there -/
namespace KM
open Kp424 (Server Execution Request Method Customer Progress Settings Event)
open Kc (Aok Hok WaitOk Rok Wok phi)
section
variable {s t : Srv} {i k : Nat} {a : AskV}
theorem abs_addR {r : Req} : absS (addR s r) = { absS s with requests := (absS s).requests ++ [absR r] } := by
  unfold absS abs addR
  dsimp only
  rw [List.map_append]
  rfl
theorem abs_reject {st d : Nat} : Kp424.reject (absS s) a.client a.timeout st d = absS (addR s (mkR s a none 0 (some st) s.now d)) := by
  rw [abs_addR]
  rfl
theorem abs_newExe {pr : Nat → List Nat} : absE pr (newExe a) = ⟨a.client, a.key, a.method, a.payload, .queued, [instrs (pr a.method)], 0, [], 0, 0⟩ := by
  simp [absE, newExe, progE, stackOf]
theorem abs_queued' {q : Nat} : absS (queued s a q) = { absS s with customers := (absS s).customers.set a.client { Kp424.customerAt (absS s) a.client with tokens := q, updatedAt := s.now }, requests := (absS s).requests ++ [⟨a.client, s.now, s.now + a.timeout, some s.executions.length, false, none, 0, 0⟩], executions := (absS s).executions ++ [⟨a.client, a.key, a.method, a.payload, .queued, [instrs (progAt s a.method)], 0, [], 0, 0⟩] } := by
  rw [abs_cli, ← abs_newExe (pr := progAt s)]
  unfold absS abs queued
  dsimp only
  rw [List.map_append, List.map_append, List.map_set]
  rfl
theorem abs_join {j : Nat} (h3 : (exeAt s j).state ≤ 3) : Kp424.join (absS s) a.client a.timeout j = if (exeAt s j).state = 2 then absS (addR s (mkR s a (some j) 1 (some (exeAt s j).status) s.now 0)) else absS (addR s (mkR s a (some j) 1 none 0 0)) := by
  unfold Kp424.join
  rw [abs_exe]
  unfold absE progE
  dsimp only
  by_cases h0 : (exeAt s j).state = 0
  · rw [if_pos h0, if_neg (by omega), abs_addR]
    rfl
  · by_cases h1 : (exeAt s j).state = 1
    · rw [if_neg h0, if_pos h1, if_neg (by omega), abs_addR]
      rfl
    · by_cases h2 : (exeAt s j).state = 2
      · rw [if_neg h0, if_neg h1, if_pos h2, if_pos h2, abs_addR]
        rfl
      · rw [if_neg h0, if_neg h1, if_neg h2, if_neg h2, abs_addR]
        rfl
theorem free_iff : freeSlot s = false ↔ s.limit ≤ (inState s 1).length := by
  unfold freeSlot
  rw [decide_eq_false_iff_not]
  omega
theorem abs_arr (I : Inv k s) (hk : k ≤ 3000000000) (hn : s.requests.length < 60) (ht : a.timeout ≤ 100000) : Kp424.receive (absS s) a.client a.token a.method a.timeout a.key a.payload = absS (arr s a) := by
  unfold Kp424.receive
  dsimp only
  rw [abs_cli, abs_meth]
  unfold arr stranger
  cases hg : s.graceEnd with
  | some u =>
    rw [if_pos (show (absS s).graceEnd.isSome = true by show s.graceEnd.isSome = true; rw [hg]; rfl), if_pos (show (!((some u : Option Nat) == none)) = true from rfl)]
    exact abs_reject
  | none =>
    rw [if_neg (show ¬ (absS s).graceEnd.isSome = true by show ¬ s.graceEnd.isSome = true; rw [hg]; decide), if_neg (show ¬ (!((none : Option Nat) == none)) = true by decide)]
    by_cases h1 : (cliAt s a.client).token = a.token
    · rw [if_neg (show ¬ (absC (cliAt s a.client)).token ≠ a.token from fun z => z h1), if_neg (show ¬ (!((cliAt s a.client).token == a.token)) = true by rw [h1, beq_self_eq_true]; decide)]
      by_cases h2 : s.methods.length ≤ a.method
      · rw [if_pos (show (absS s).methods.length ≤ a.method by show (s.methods.map absM).length ≤ _; rw [List.length_map]; exact h2), if_pos h2]
        exact abs_reject
      · rw [if_neg (show ¬ (absS s).methods.length ≤ a.method by show ¬ (s.methods.map absM).length ≤ _; rw [List.length_map]; exact h2), if_neg h2]
        have hr : ((absM (methAt s a.method)).roles &&& (absC (cliAt s a.client)).roles) = ((cliAt s a.client).roles &&& (methAt s a.method).roles) := Nat.and_comm _ _
        rw [hr]
        by_cases h3 : ((cliAt s a.client).roles &&& (methAt s a.method).roles) = (methAt s a.method).roles
        · rw [if_neg (show ¬ ((cliAt s a.client).roles &&& (methAt s a.method).roles) ≠ (absM (methAt s a.method)).roles from fun z => z h3), if_neg (show ¬ (!(((cliAt s a.client).roles &&& (methAt s a.method).roles) == (methAt s a.method).roles)) = true by rw [h3, beq_self_eq_true]; decide)]
          dsimp only
          rw [abs_shared I.st3]
          cases hs : sharedExe s a.client a.key with
          | some j =>
            dsimp only
            unfold arr1
            rw [abs_exe]
            by_cases h4 : (exeAt s j).method = a.method ∧ (exeAt s j).payload = a.payload
            · rw [if_neg (show ¬ ((absE (progAt s) (exeAt s j)).method ≠ a.method ∨ (absE (progAt s) (exeAt s j)).payload ≠ a.payload) from fun z => z.elim (fun y => y h4.1) fun y => y h4.2), if_neg (show ¬ (!((exeAt s j).method == a.method) || !((exeAt s j).payload == a.payload)) = true by rw [h4.1, h4.2, beq_self_eq_true, beq_self_eq_true]; decide), abs_join (I.st3 j)]
              split <;> rfl
            · rw [if_pos (show (absE (progAt s) (exeAt s j)).method ≠ a.method ∨ (absE (progAt s) (exeAt s j)).payload ≠ a.payload from by
                by_cases y : (exeAt s j).method = a.method
                · exact .inr fun z => h4 ⟨y, z⟩
                · exact .inl y), if_pos (show (!((exeAt s j).method == a.method) || !((exeAt s j).payload == a.payload)) = true by
                rw [Bool.or_eq_true]
                by_cases y : (exeAt s j).method = a.method
                · right
                  rw [beq_eq_false_iff_ne.mpr fun z => h4 ⟨y, z⟩]
                  rfl
                · left
                  rw [beq_eq_false_iff_ne.mpr y]
                  rfl)]
              exact abs_reject
          | none =>
            dsimp only
            unfold arr2
            have ct : Kp424.currentTokens (absS s) (absC (cliAt s a.client)) = quotaNow (cliAt s a.client) s.now := rfl
            rw [ct]
            by_cases h4 : quotaNow (cliAt s a.client) s.now < (methAt s a.method).cost * 1000
            · rw [if_pos (show quotaNow (cliAt s a.client) s.now < (absM (methAt s a.method)).cost * 1000 from h4), if_pos h4]
              have e : Kp424.quotaDelay (absC (cliAt s a.client)) (quotaNow (cliAt s a.client) s.now) (absM (methAt s a.method)).cost = quotaDelay (cliAt s a.client) (quotaNow (cliAt s a.client) s.now) ((methAt s a.method).cost * 1000) := by
                unfold Kp424.quotaDelay quotaDelay
                by_cases c1 : (cliAt s a.client).refill = 0 ∨ (cliAt s a.client).capacity < (methAt s a.method).cost
                · rw [if_pos (show (absC (cliAt s a.client)).refill = 0 ∨ (absC (cliAt s a.client)).capacity < (absM (methAt s a.method)).cost from c1), if_pos (show ((cliAt s a.client).refill == 0 || decide ((cliAt s a.client).capacity * 1000 < (methAt s a.method).cost * 1000)) = true by
                    rw [Bool.or_eq_true, beq_iff_eq, decide_eq_true_eq]
                    omega)]
                · rw [if_neg (show ¬ ((absC (cliAt s a.client)).refill = 0 ∨ (absC (cliAt s a.client)).capacity < (absM (methAt s a.method)).cost) from c1), if_neg (show ¬ ((cliAt s a.client).refill == 0 || decide ((cliAt s a.client).capacity * 1000 < (methAt s a.method).cost * 1000)) = true by
                    rw [Bool.or_eq_true, beq_iff_eq, decide_eq_true_eq]
                    omega)]
                  rfl
              rw [e]
              exact abs_reject
            · rw [if_neg (show ¬ quotaNow (cliAt s a.client) s.now < (absM (methAt s a.method)).cost * 1000 from h4), if_neg h4]
              have wq : Kp424.estimatedWait (absS s) = estWait s := abs_wait
              rw [wq, abs_runs, abs_queue]
              have lim : (absS s).settings.limit = s.limit := rfl
              have ql : (absS s).settings.queueLimit = s.queueLimit := rfl
              have sh : (absS s).settings.shedding = (s.shedding == 1) := rfl
              rw [lim, ql, sh]
              have full : (isFull s = true) ↔ (s.limit ≤ (inState s 1).length ∧ s.queueLimit ≤ (inState s 0).length) := by
                unfold isFull
                rw [Bool.and_eq_true, decide_eq_true_eq, Bool.not_eq_true', free_iff]
              by_cases h5 : isFull s = true
              · rw [if_pos (full.mp h5), if_pos (show (isFull s || (s.shedding == 1 && decide (a.timeout ≤ estWait s))) = true by rw [h5]; rfl)]
                exact abs_reject
              · rw [if_neg (fun z => h5 (full.mpr z))]
                by_cases h6 : s.shedding = 1 ∧ a.timeout ≤ estWait s
                · rw [if_pos (show (s.shedding == 1) = true ∧ a.timeout ≤ estWait s from ⟨beq_iff_eq.mpr h6.1, h6.2⟩), if_pos (show (isFull s || (s.shedding == 1 && decide (a.timeout ≤ estWait s))) = true by
                    rw [Bool.or_eq_true, Bool.and_eq_true, beq_iff_eq, decide_eq_true_eq]
                    exact .inr h6)]
                  exact abs_reject
                · rw [if_neg (show ¬ ((s.shedding == 1) = true ∧ a.timeout ≤ estWait s) from fun z => h6 ⟨beq_iff_eq.mp z.1, z.2⟩), if_neg (show ¬ (isFull s || (s.shedding == 1 && decide (a.timeout ≤ estWait s))) = true by
                    rw [Bool.or_eq_true, Bool.and_eq_true, beq_iff_eq, decide_eq_true_eq]
                    exact fun z => z.elim h5 h6)]
                  have hst : stranger s a = none := by
                    unfold stranger
                    rw [hg, if_neg (by decide), h1, if_neg (by rw [beq_self_eq_true]; decide), if_neg h2, h3, if_neg (by rw [beq_self_eq_true]; decide)]
                  have hm := Kc.strange_method hst
                  have A := aok_queued (a := a) (q := quotaNow (cliAt s a.client) s.now - (methAt s a.method).cost * 1000) I.a (by omega) (by have := I.b.ec; omega) hm (by omega)
                  have B := base_queued (a := a) (q := quotaNow (cliAt s a.client) s.now - (methAt s a.method).cost * 1000) I hn
                  have D : DlOk (queued s a (quotaNow (cliAt s a.client) s.now - (methAt s a.method).cost * 1000)) := fun r => by
                    by_cases z : r < (queued s a (quotaNow (cliAt s a.client) s.now - (methAt s a.method).cost * 1000)).requests.length
                    · have w := A.req.dl r z
                      have w2 : (queued s a (quotaNow (cliAt s a.client) s.now - (methAt s a.method).cost * 1000)).now = s.now := rfl
                      have w3 := I.now
                      omega
                    · have e : reqAt (queued s a (quotaNow (cliAt s a.client) s.now - (methAt s a.method).cost * 1000)) r = req0 := by
                        unfold reqAt
                        rw [List.getD_eq_getElem?_getD, List.getElem?_eq_none (by omega)]
                        rfl
                      rw [e]
                      exact Nat.zero_le _
                  rw [← abs_settleS A D B.dis]
                  unfold Kp424.accept
                  congr 1
                  rw [abs_queued']
                  unfold Kp424.chargeCustomer
                  dsimp only
                  have e1 : (absS s).executions.length = s.executions.length := List.length_map ..
                  rw [e1]
                  have e2 : Kp424.currentTokens (absS s) (Kp424.customerAt (absS s) a.client) = quotaNow (cliAt s a.client) s.now := by rw [abs_cli]; rfl
                  rw [e2]
                  have e3 : Kp424.methodAt { absS s with customers := (absS s).customers.set a.client { Kp424.customerAt (absS s) a.client with tokens := quotaNow (cliAt s a.client) s.now - (absM (methAt s a.method)).cost * 1000, updatedAt := (absS s).now } } a.method = absM (methAt s a.method) := abs_meth (g := s.graceEnd) (en := s.graceOver) (s := s)
                  rw [e3]
                  rfl
        · rw [if_pos (show ((cliAt s a.client).roles &&& (methAt s a.method).roles) ≠ (absM (methAt s a.method)).roles from h3), if_pos (show (!(((cliAt s a.client).roles &&& (methAt s a.method).roles) == (methAt s a.method).roles)) = true by rw [beq_eq_false_iff_ne.mpr h3]; rfl)]
          exact abs_reject
    · rw [if_pos (show (absC (cliAt s a.client)).token ≠ a.token from h1), if_pos (show (!((cliAt s a.client).token == a.token)) = true by rw [beq_eq_false_iff_ne.mpr h1]; rfl)]
      exact abs_reject
/-! nothing that was there is changed -/
structure Pre (s t : Srv) : Prop where
  meths : t.methods = s.methods
  exes : ∀ (i : Nat) (e : Exe), s.executions[i]? = some e → t.executions[i]? = some e
  reqs : ∀ (i : Nat) (r : Req), s.requests[i]? = some r → t.requests[i]? = some r
theorem pre_addR {r : Req} : Pre s (addR s r) := ⟨rfl, fun _ _ h => h, fun i r h => Kc.app_old h⟩
theorem pre_queued {q : Nat} : Pre s (queued s a q) := ⟨rfl, fun i e h => Kc.app_old h, fun i r h => Kc.app_old h⟩
theorem inState_queued {q st : Nat} (h : st ≠ 0) : inState (queued s a q) st = inState s st := by
  unfold inState
  rw [show (queued s a q).executions.length = s.executions.length + 1 from by show (s.executions ++ [newExe a]).length = _; rw [List.length_append]; rfl, List.range_succ, List.filter_append]
  have e1 : [s.executions.length].filter (fun i => (exeAt (queued s a q) i).state == st) = [] := by
    rw [List.filter_cons, if_neg, List.filter_nil]
    rw [show exeAt (queued s a q) s.executions.length = newExe a from exeAt_of Kc.app_new]
    show ¬ ((0 : Nat) == st) = true
    intro z
    exact h (beq_iff_eq.mp z).symm
  rw [e1, List.append_nil]
  refine List.filter_congr fun i hi => ?_
  rw [show exeAt (queued s a q) i = exeAt s i from exeAt_eq (List.getElem?_append_left (List.mem_range.mp hi))]
theorem inState_queued0 {q : Nat} : inState (queued s a q) 0 = inState s 0 ++ [s.executions.length] := by
  unfold inState
  rw [show (queued s a q).executions.length = s.executions.length + 1 from by show (s.executions ++ [newExe a]).length = _; rw [List.length_append]; rfl, List.range_succ, List.filter_append]
  have e1 : [s.executions.length].filter (fun i => (exeAt (queued s a q) i).state == 0) = [s.executions.length] := by
    rw [List.filter_cons, if_pos, List.filter_nil]
    rw [show exeAt (queued s a q) s.executions.length = newExe a from exeAt_of Kc.app_new]
    rfl
  rw [e1]
  congr 1
  refine List.filter_congr fun i hi => ?_
  rw [show exeAt (queued s a q) i = exeAt s i from exeAt_eq (List.getElem?_append_left (List.mem_range.mp hi))]
theorem pre_fill (I : Inv k s) {q : Nat} (hf : Full s) : Pre s (fillSlots (queued s a q)) := by
  have fr : freeSlot (queued s a q) = freeSlot s := by
    unfold freeSlot
    rw [inState_queued (by decide)]
    rfl
  cases hs : freeSlot s with
  | false =>
    rw [show fillSlots (queued s a q) = queued s a q from Kc.fill_stop (.inr (by rw [fr, hs])) _]
    exact pre_queued
  | true =>
    have h0 : inState s 0 = [] := by
      rcases hf with z | z
      · exact z
      · rw [hs] at z
        cases z
    have hq : inState (queued s a q) 0 = [s.executions.length] := by rw [inState_queued0, h0]; rfl
    have ho : orderOf (queued s a q) = [s.executions.length] := by
      unfold orderOf
      rw [hq]
      split
      · exact List.mergeSort_singleton _
      · split <;> rfl
    have hi : s.executions.length < (queued s a q).executions.length := by
      show _ < (s.executions ++ [newExe a]).length
      rw [List.length_append]
      exact Nat.lt_succ_self _
    have e : fillSlots (queued s a q) = resume (startE (queued s a q) s.executions.length) s.executions.length := by
      unfold fillSlots
      rw [hq]
      show fill 1 (queued s a q) = _
      rw [Kc.fill_step ho (by rw [fr, hs])]
      rfl
    rw [e]
    have St := (stay_start (queued s a q) s.executions.length).trans (stay_resume _ s.executions.length)
    refine ⟨St.methods, fun i x h => ?_, fun i x h => ?_⟩
    · have lt := (List.getElem?_eq_some_iff.mp h).1
      have ne : i ≠ s.executions.length := by omega
      have z1 : (resume (startE (queued s a q) s.executions.length) s.executions.length).executions[i]? = (startE (queued s a q) s.executions.length).executions[i]? := by
        unfold resume
        exact after_off ne
      rw [z1, Kc.start_off ne]
      exact Kc.app_old h
    · have lt := (List.getElem?_eq_some_iff.mp h).1
      have lt2 : i < (startE (queued s a q) s.executions.length).requests.length := by
        show i < (s.requests ++ [_]).length
        rw [List.length_append]
        omega
      have at0 : reqAt (startE (queued s a q) s.executions.length) i = x := reqAt_of (Kc.app_old (x := mkR s a (some s.executions.length) 0 none 0 0) h)
      have xs : reqAt s i = x := reqAt_of h
      rw [req_some (by rw [(stay_resume _ _).nr]; exact lt2)]
      congr 1
      rcases Kc.resume_req (s := startE (queued s a q) s.executions.length) (i := s.executions.length) lt2 with z | ⟨hm, st, z, _⟩
      · rw [z, at0]
      · exfalso
        have w := Kc.waitingOn_mem.mp hm
        rw [at0, ← xs] at w
        obtain ⟨j, w1, w2, _⟩ := I.a.req.op i lt w.2.1
        rw [w1] at w
        have := Option.some.inj w.2.2
        omega
theorem pre_arr (I : Inv k s) : Pre s (arr s a) := by
  unfold arr
  split
  · exact pre_addR
  · split
    · unfold arr1
      split
      · exact pre_addR
      · split <;> exact pre_addR
    · unfold arr2
      split
      · exact pre_addR
      · split
        · exact pre_addR
        · exact pre_fill I I.full
theorem arr_len (I : Inv k s) : (arr s a).requests.length = s.requests.length + 1 := by
  have q : ∀ q, (fillSlots (queued s a q)).requests.length = s.requests.length + 1 := fun q => by
    rw [show (fillSlots (queued s a q)).requests.length = (queued s a q).requests.length from (stay_fill _ _).nr]
    show (s.requests ++ [_]).length = _
    rw [List.length_append]
    rfl
  unfold arr
  split
  · exact addR_len
  · split
    · unfold arr1
      split
      · exact addR_len
      · split <;> exact addR_len
    · unfold arr2
      split
      · exact addR_len
      · split
        · exact addR_len
        · exact q _
end
end KM
/-! request and preview_request -/
namespace KM
def opRequest (s : Srv) (l : List Nat) : Srv × List Int := match reqError s (Kc.askOf l) with
  | some e => (s, [e])
  | none => (arr s (Kc.askOf l), ints_ [s.requests.length, shownOf (reqAt (arr s (Kc.askOf l)) s.requests.length)])
def opPreview (s : Srv) (l : List Nat) : Srv × List Int := (s, match reqError s (Kc.askOf l) with
  | some e => [e]
  | none => ints_ [shownOf (reqAt (arr s (Kc.askOf l)) s.requests.length)])
end KM
namespace Kc
open PySem PySem.Spec PyProof.Rows L2 KM Evl
section
variable {K : PySem.W.Frag} {mg : Str → Option Value} {T : Cls7} {B : Blt} {σ : L2.St} {H : Hp} {ta tb tc te : TE} {D : Ends} {s : Srv} {L : Loc} {i : Nat}
theorem e_Ask {E : XK} {q : Addr} {l : List Nat} {Q : VK} (ha : Ev ta σ H (.ref q)) (hq : H q = some (.lst (intL l))) (h5 : 5 ≤ l.length)
    (k : ∀ x p H2, H x = none → H p = none → x ≠ p → Ex H H2 → AskAt T H2 x p (askOf l) → Q (.ref x) H2) : tMake T.A (spAsk K T) [] E (tCons ta tNil) σ H Q :=
  (ea_cons ha ea_nil) H (Ex.refl H) _ fun H1 e1 x dx hx hd ne => by
    have q1 := e1 _ _ hq
    have qx : q ≠ x := fun z => by rw [z, hx] at q1; cases q1
    have qd : q ≠ dx := fun z => by rw [z, hd] at q1; cases q1
    refine ⟨x, dx, q, l, rfl, upd_same, qx, fun H2 o => sq_of (o _ _ qx (by rw [upd_ne qx, upd_ne qd]; exact q1)), h5, fun H2 p hp o A => ⟨rfl, k x p H2 (fresh_back e1 hx) ?_ ?_ (e1.trans (made_ex hx hd o)) A⟩⟩
    · have n1 : p ≠ x := fun z => by rw [z, upd_same] at hp; cases hp
      rw [upd_ne n1] at hp
      have n2 : p ≠ dx := fun z => by rw [z, upd_same] at hp; cases hp
      rw [upd_ne n2] at hp
      exact fresh_back e1 hp
    · intro z
      obtain ⟨⟨d, h1⟩, h2⟩ := A
      rw [z, h2] at h1
      cases h1
theorem q_Ask {tz : TS} {E : XK} {q : Addr} {l : List Nat} {j : Nat} (ha : Ev ta σ H (.ref q)) (hq : H q = some (.lst (intL l))) (h5 : 5 ≤ l.length)
    (k : ∀ x p H2, H x = none → H p = none → x ≠ p → Ex H H2 → AskAt T H2 x p (askOf l) → tz D (σ.set j (some (.ref x))) H2) : tSeq (tAsg (tMake T.A (spAsk K T) [] E (tCons ta tNil)) (gName j)) tz D σ H :=
  e_Ask (Q := fun v H2 => tz D (σ.set j (some v)) H2) ha hq h5 k
theorem spv_err {x p : Addr} {a : AskV} (R : Rep T s L H) (A : AskAt T H x p a) : SpV (spReqErr T) ([.ref (L.at_ .srv), .ref x] ++ []) H (optI (reqError s a)) := fun H1 e Q q E => ⟨s, L, x, p, a, rfl, R.ex e, A.ex e, fun H2 e2 => q H2 e2⟩
theorem foldl_max_pay {l : List Nat} (h : ¬ 1000 < l.foldl max 0) : ∀ x ∈ l, x ≤ 1000 := fun x hx => by
  have := foldl_max_le (l := l) (a := 0) (y := x) (.inl hx)
  omega
/-- what a request without an error is -/
theorem err_none {a : AskV} (h : reqError s a = none) : a.client < s.clients.length ∧ 1 ≤ a.timeout ∧ a.timeout ≤ 100000 ∧ a.payload.length ≤ 8 ∧ (∀ x ∈ a.payload, x ≤ 1000) ∧ s.requests.length ≠ 60 := by
  unfold reqError at h
  split at h
  · cases h
  · rename_i h1
    split at h
    · cases h
    · rename_i h2
      split at h
      · cases h
      · rename_i h3
        split at h
        · cases h
        · rename_i h4
          simp only [Bool.or_eq_true, decide_eq_true_eq, not_or] at h2 h3
          exact ⟨by omega, by omega, by omega, by omega, foldl_max_pay h3.2, h4⟩
theorem askOff_new {x p : Addr} {a : AskV} {H2 : Hp} (R : Rep T s L H) (hx : H x = none) (hp : H p = none) (A : AskAt T H2 x p a) : AskOff T s L H2 x p a := by
  have off : ∀ {b : Addr}, H b = none → ∀ r, (cont T s L r).isSome = true → L.at_ r ≠ b := fun {b} hb r hr z => by
    obtain ⟨u, hu⟩ := Option.isSome_iff_exists.mp hr
    have q := R.at_ r u hu
    rw [z, hb] at q
    cases q
  exact ⟨A, off hx, off hp⟩
theorem ex_del {H H2 : Hp} {p : Addr} (e : Ex H H2) (hp : H p = none) : Ex H (del H2 p) := fun b o h => by
  rw [del_ne fun z => by rw [z, hp] at h; cases h]
  exact e _ _ h
def ok5 (s : Srv) (l : List Nat) : Prop := InvS s ∧ 5 ≤ l.length
theorem rd_send_request (X : Txt K mg T B) (vs : List V) (H : Hp) (Q : VK) (E : XK) (h : spOp T ok5 opRequest vs H Q E) : t_send_request K T (spAsk K T) (spReqErr T) (spArrive T) (spShown T) { nx := fun _ H' => Q .non H', rt := Q } (start N_send_request vs) H := by
  obtain ⟨s, L, q, l, rfl, R, lo, ⟨⟨m, I, hm⟩, hl⟩, k⟩ := h
  refine q_Ask (ev_var rfl) lo.lst hl fun x p H1 hx hp xp e1 A1 => ?_
  have R1 := R.ex e1
  unfold opRequest at k
  refine q_asg (v := optI (reqError s (askOf l))) (ev_call (ea_cons (ev_var rfl) (ea_cons (ev_var rfl) ea_nil)) (spv_err R1 A1)) fun H2 e2 => ?_
  have R2 := R1.ex e2
  have e12 := e1.trans e2
  cases he : reqError s (askOf l) with
  | some er =>
    rw [he] at k
    refine q_when (b := true) (et_is (et_test (ev_op (ev_var (v := .int er) rfl) ev_c rv_notN)) rfl) (fun _ H3 e3 => ?_) fun hb => by cases hb
    exact s_retGo (Go.ex R (e12.trans e3)) (el_lst (ea_cons (ev_var (v := .int er) rfl) ea_nil) (by show 1 ≤ 100000; decide)) fun H' p G nw hp => k L H' p G nw hp
  | none =>
    rw [he] at k
    obtain ⟨c1, c2, c3, c4, c5, c6⟩ := err_none he
    refine q_when (b := false) (et_is (et_test (ev_op (ev_var (v := .non) rfl) ev_c rv_notN)) rfl) (fun hb => by cases hb) fun _ H3 e3 => ?_
    have R3 := R2.ex e3
    have rc := I.b.rc
    have ec := I.b.ec
    have l0 := I.b.lim0
    have l1 := I.b.lim1
    have cb := I.b.cli _ (List.mem_of_getElem? (cli_some c1))
    refine q_asgCall (ea_cons (ev_var rfl) (ea_cons (ev_var rfl) ea_nil)) fun H4 e4 => ?_
    have e34 := e3.trans e4
    have A4 := askOff_new R hx hp (A1.ex (e2.trans e34))
    refine ⟨s, L, x, p, askOf l, rfl, R3.ex e4, A4, I.a.hok, I.a.wait, by omega, by omega, c1, cb.2.1, cb.2.2, by omega, by omega, fun M H5 g5 => ?_⟩
    have G5 := (Go.ex R (ex_del (e12.trans e34) hp)).trans g5
    rw [arrive_eq] at G5
    have hr : s.requests.length < (arr s (askOf l)).requests.length := by rw [arr_len I]; exact Nat.lt_succ_self _
    have R5 := G5.rep
    exact s_retGo G5 (xs := intL [s.requests.length, shownOf (reqAt (arr s (askOf l)) s.requests.length)]) (el_lst (ea_cons (evR_number X R5 (req_some hr) (ev_var rfl)) (ea_cons (ev_call (ea_cons (ev_var rfl) ea_nil) (spv_shown R5 hr)) ea_nil)) (by show 2 ≤ 100000; decide)) fun H' p' G nw hp' => k M H' p' G nw (by rw [hp', ← ints_V])
end
end Kc
/-! a request on trial -/
namespace Kc
open PySem PySem.Spec PyProof.Rows L2 KM Evl
section
variable {K : PySem.W.Frag} {mg : Str → Option Value} {T : Cls7} {B : Blt} {σ : L2.St} {H : Hp} {ta tb tc te tv : TE} {D : Ends} {s : Srv} {L : Loc} {i : Nat}
/-! copy_of_client -/
def spCopy (T : Cls7) : Sp := fun vs H Q _ => ∃ (s : Srv) (L : Loc) (i : Nat), vs = [.ref (L.at_ (.cli i))] ∧ Rep T s L H ∧ i < s.clients.length ∧ ∀ p d H2, H p = none → Ex H H2 → H2 p = some (.ins T.C d (nC.zip (vC (cliAt s i)))) → Q (.ref p) H2
theorem rd_copy_of_client (X : Txt K mg T B) (vs : List V) (H : Hp) (Q : VK) (E : XK) (h : spCopy T vs H Q E) : t_copy_of_client K T (spClient T) { nx := fun _ H' => Q .non H', rt := Q } (start N_copy_of_client vs) H := by
  obtain ⟨s, L, i, rfl, R, hi, k⟩ := h
  have h0 := cli_some hi
  refine q_asgI (ei_Client (ea_cons (evC_token X R h0 (ev_var rfl)) (ea_cons (evC_roles X R h0 (ev_var rfl)) (ea_cons (evC_capacity X R h0 (ev_var rfl)) (ea_cons (evC_refill X R h0 (ev_var rfl)) (ea_cons (evC_quota_at X R h0 (ev_var rfl)) ea_nil)))))) fun p d H1 hp e1 h1 => ?_
  have R1 := R.ex e1
  refine s_fld (D := { nx := _, ct := _, bk := _, rt := Q }) (evC_quota X R1 h0 (ev_var rfl)) (ev_var (v := .ref p) rfl) h1 X.clC (X.nC _ inC_quota) (zip_len (by decide)) fun H2 e2 => ?_
  rw [put_zip ixC_quota (Nat.le_refl _)]
  refine s_ret (v := .ref p) (ev_var rfl) fun H3 e3 => k p d H3 hp ((Ex.mut (e1.trans e2) hp).trans e3) (e3 _ _ upd_same)
theorem en_copy (R : Rep T s L H) {E : XK} {ta : TE} (hi : i < s.clients.length) (ha : Ev ta σ H (.ref (L.at_ (.cli i)))) : EvN (tCall (spCopy T) [] E (tCons ta tNil)) σ H (fun o => ∃ d, o = .ins T.C d (nC.zip (vC (cliAt s i)))) := fun H1 e Q q =>
  (ea_cons ha ea_nil) H1 e _ fun H2 e2 => ⟨s, L, i, rfl, R.ex (e.trans e2), hi, fun p d H3 hp e3 h3 => q p _ H3 (fresh_back e2 hp) (e2.trans e3) h3 ⟨d, rfl⟩⟩
/-! copy_for_trial -/
/-- the twin while its fields are set -/
structure Tw (T : Cls7) (H0 H : Hp) (x d : Addr) (vs : List V) : Prop where
  fx : H0 x = none
  ex : Ex H0 H
  at_ : H x = some (.ins T.S d (nS.zip vs))
theorem off_ex {x : Addr} {H0 H H1 : Hp} (fx : H0 x = none) (e : Ex H0 H) (o : Off x H H1) : Ex H0 H1 := fun b u h => o b u (fun z => by rw [z, fx] at h; cases h) (e _ _ h)
variable {H0 : Hp} {x d : Addr} {ws : List V} {f : Str} {n : Nat} {tz : TS} {y : V}
theorem q_tw (X : Txt K mg T B) (t : Tw T H0 H x d ws) (ha : σ[1]? = some (some (.ref x))) (hf : f ∈ Kc.nS) (hx : nS.findIdx? (f == ·) = some n) (hl : nS.length ≤ ws.length) (hv : Ev tv σ H y)
    (k : ∀ H1, Off x H H1 → Tw T H0 H1 x d (ws.set n y) → tz D σ H1) : tSeq (sFld K (tVar 1) tv f) tz D σ H :=
  s_fld (D := { D with nx := tz D }) hv (ev_var (v := .ref x) ha) t.at_ X.clS (X.nS _ hf) (zip_len (by decide)) fun H1 e1 => by
    rw [put_zip hx hl]
    exact k _ (Off.ex e1).upd ⟨t.fx, off_ex t.fx t.ex (Off.ex e1).upd, upd_same⟩
theorem q_twL {xs : List V} (X : Txt K mg T B) (t : Tw T H0 H x d ws) (ha : σ[1]? = some (some (.ref x))) (hf : f ∈ Kc.nS) (hx : nS.findIdx? (f == ·) = some n) (hl : nS.length ≤ ws.length) (hv : EvL tv σ H xs)
    (k : ∀ p H1, H p = none → Off x H H1 → H1 p = some (.lst xs) → Tw T H0 H1 x d (ws.set n (.ref p)) → tz D σ H1) : tSeq (sFld K (tVar 1) tv f) tz D σ H :=
  hv H (Ex.refl H) _ fun p H1 hp e1 h1 => ⟨.ref x, ha, x, T.S, d, _, rfl, e1 _ _ t.at_, X.clS, X.nS _ hf, zip_len (by decide), by
    rw [put_zip hx hl]
    have px : p ≠ x := fun z => by rw [z, t.at_] at hp; cases hp
    exact k p _ hp (Off.ex e1).upd (by rw [upd_ne px]; exact h1) ⟨t.fx, off_ex t.fx t.ex (Off.ex e1).upd, upd_same⟩⟩
theorem q_twP {P : Addr → Hp → Prop} (X : Txt K mg T B) (t : Tw T H0 H x d ws) (ha : σ[1]? = some (some (.ref x))) (hf : f ∈ Kc.nS) (hx : nS.findIdx? (f == ·) = some n) (hl : nS.length ≤ ws.length) (hv : ∀ Q : VK, (∀ p H1, P p H1 → Q (.ref p) H1) → tv σ H Q) (hP : ∀ p H1, P p H1 → Ex H H1)
    (k : ∀ p H1 H2, P p H1 → Off x H1 H2 → Tw T H0 H2 x d (ws.set n (.ref p)) → tz D σ H2) : tSeq (sFld K (tVar 1) tv f) tz D σ H :=
  hv _ fun p H1 hp => ⟨.ref x, ha, x, T.S, d, _, rfl, hP p H1 hp _ _ t.at_, X.clS, X.nS _ hf, zip_len (by decide), by
    rw [put_zip hx hl]
    exact k p H1 _ hp Off.refl.upd ⟨t.fx, off_ex t.fx (t.ex.trans (hP p H1 hp)) Off.refl.upd, upd_same⟩⟩
theorem e_Server {Q : VK} {E : XK} {ta : TA} {l ql di sh lt : Nat} (ha : EvA ta σ H [.int (l : Int), .int (ql : Int), .int (di : Int), .int (sh : Int), .int (lt : Int)]) (k : ∀ x d L0 H2, Tw T H H2 x d (vS L0 (srv0 l ql di sh lt)) → Q (.ref x) H2) : tMake T.S (spServer T) [] E ta σ H Q :=
  ha H (Ex.refl H) _ fun H1 e1 x dx hx hd ne =>
    ⟨x, dx, l, ql, di, sh, lt, rfl, upd_same, fun H2 L0 h1 h2 _ o hat _ => ⟨rfl, k x dx L0 H2 ⟨fresh_back e1 hx, e1.trans (made_ex hx hd o), by
      have z := hat .srv _ rfl
      rw [h1, h2] at z
      exact z⟩⟩⟩
theorem q_Server {E : XK} {ta : TA} {l ql di sh lt j : Nat} (ha : EvA ta σ H [.int (l : Int), .int (ql : Int), .int (di : Int), .int (sh : Int), .int (lt : Int)]) (k : ∀ x d L0 H2, Tw T H H2 x d (vS L0 (srv0 l ql di sh lt)) → tz D (σ.set j (some (.ref x))) H2) : tSeq (tAsg (tMake T.S (spServer T) [] E ta) (gName j)) tz D σ H :=
  e_Server (Q := fun v H2 => tz D (σ.set j (some v)) H2) ha k
/-- what a twin shares -/
def Role.shared : Role → Bool
  | .meth _ => true
  | .prog _ => true
  | .req _ => true
  | .exe _ => true
  | .pay _ => true
  | .emi _ => true
  | .frs _ => true
  | .frm _ _ => true
  | _ => false
/-- a twin of the server -/
structure Twin (T : Cls7) (s : Srv) (L : Loc) (H : Hp) (Lt : Loc) (H2 : Hp) : Prop where
  ex : Ex H H2
  rep : Rep T s Lt H2
  sh : ∀ r, r.shared = true → Lt.at_ r = L.at_ r
  own : ∀ r, r.shared = false → (cont T s Lt r).isSome = true → H (Lt.at_ r) = none
def spTwin (T : Cls7) : Sp := fun vs H Q _ => ∃ (s : Srv) (L : Loc), vs = [.ref (L.at_ .srv)] ∧ Rep T s L H ∧ s.executions.length ≤ 1000 ∧ s.requests.length ≤ 1000 ∧ s.methods.length ≤ 1000 ∧ s.clients.length ≤ 1000 ∧ s.registers.length ≤ 1000 ∧ ∀ Lt H2, Twin T s L H Lt H2 → Q (.ref (Lt.at_ .srv)) H2
def dxOf (H : Hp) (p : Addr) : Addr := match H p with
  | some (.ins _ d _) => d
  | _ => p
theorem rd_copy_for_trial (X : Txt K mg T B) (vs : List V) (H : Hp) (Q : VK) (E : XK) (h : spTwin T vs H Q E) : t_copy_for_trial K T (spServer T) (spCopy T) { nx := fun _ H' => Q .non H', rt := Q } (start N_copy_for_trial vs) H := by
  obtain ⟨s, L, rfl, R, hn, hr, hm, hc, hg, k⟩ := h
  refine q_Server (ea_cons (evS_limit X R (ev_var rfl)) (ea_cons (evS_queue_limit X R (ev_var rfl)) (ea_cons (evS_discipline X R (ev_var rfl)) (ea_cons (evS_shedding X R (ev_var rfl)) (ea_cons (evS_lifetime X R (ev_var rfl)) ea_nil))))) fun x d L0 H1 t1 => ?_
  have R1 := R.ex t1.ex
  refine q_tw (n := 5) X t1 rfl inS_now ixS_now (Nat.le_refl _) (evS_now X R1 (ev_var rfl)) fun H2 o2 t2 => ?_
  have R2 := R.ex t2.ex
  refine q_twL (n := 6) X t2 rfl inS_methods ixS_methods (Nat.le_refl _) (el_list (evS_methods X R2 (ev_var rfl)) (sq_of (R2.at_ .meths _ rfl))) fun pm H3 pm0 o3 pm1 t3 => ?_
  have R3 := R.ex t3.ex
  refine q_twP (n := 7) (P := fun p H' => ∃ ps, NewL H3 H' p (fun k o => ∃ d, o = .ins T.C d (nC.zip (vC (cliAt s k)))) ps ∧ ps.length = s.clients.length) X t3 rfl inS_clients ixS_clients (Nat.le_refl _) (fun Q q => el_lcN (a := L.at_ .clis) (xs := refs L .cli s.clients.length) (fun k o => ∃ d, o = .ins T.C d (nC.zip (vC (cliAt s k)))) (evS_clients X R3 (ev_var rfl)) (sq_of (R3.at_ .clis _ rfl)) (by rw [refs_len]; omega) (fun x => rfl) (fun i x H4 e4 hx => ?_) (Ex.refl _) fun pc ps H4 n4 l4 => q pc H4 ⟨ps, n4, by rw [l4, refs_len]⟩) (fun p H' ⟨ps, n, _⟩ => n.ex) fun pc H4 H5 ⟨ps, n4, l4⟩ o5 t5 => ?_
  · obtain ⟨hi, rfl⟩ := refs_at hx
    exact en_copy (R3.ex e4) hi (ev_var rfl)
  have R5 := R.ex t5.ex
  have ox : Off x H3 H5 := (Off.ex n4.ex).trans o5
  refine q_twL (n := 8) X t5 rfl inS_executions ixS_executions (Nat.le_refl _) (el_list (evS_executions X R5 (ev_var rfl)) (sq_of (R5.at_ .exes _ rfl))) fun pe H6 pe0 o6 pe1 t6 => ?_
  have R6 := R.ex t6.ex
  refine q_twL (n := 9) X t6 rfl inS_requests ixS_requests (Nat.le_refl _) (el_list (evS_requests X R6 (ev_var rfl)) (sq_of (R6.at_ .reqs _ rfl))) fun pr H7 pr0 o7 pr1 t7 => ?_
  have R7 := R.ex t7.ex
  refine q_twL (n := 10) X t7 rfl inS_registers ixS_registers (Nat.le_refl _) (el_list (evS_registers X R7 (ev_var rfl)) (sq_of (R7.at_ .regs _ rfl))) fun pg H8 pg0 o8 pg1 t8 => ?_
  have R8 := R.ex t8.ex
  refine q_tw (n := 11) X t8 rfl inS_average ixS_average (Nat.le_refl _) (evS_average X R8 (ev_var rfl)) fun H9 o9 t9 => ?_
  have R9 := R.ex t9.ex
  refine q_tw (n := 12) X t9 rfl inS_grace_end ixS_grace_end (Nat.le_refl _) (evS_grace_end X R9 (ev_var rfl)) fun Ha oa ta => ?_
  have Ra := R.ex ta.ex
  refine q_tw (n := 13) X ta rfl inS_grace_over ixS_grace_over (Nat.le_refl _) (evS_grace_over X Ra (ev_var rfl)) fun Hb ob tb => ?_
  refine s_ret (v := .ref x) (ev_var rfl) fun Hc ec => ?_
  -- the lists at the end
  have o8c : Off x H8 Hc := ((o9.trans oa).trans ob).trans (Off.ex ec)
  have o7c := o8.trans o8c
  have o6c := o7.trans o7c
  have o5c := o6.trans o6c
  have o4c := o5.trans o5c
  have o3c := (Off.ex n4.ex).trans o4c
  have ne : ∀ {p : Addr} {G : Hp} {ws : List V}, Tw T H G x d ws → G p = none → p ≠ x := fun t h z => by rw [z, t.at_] at h; cases h
  have bk : ∀ {p : Addr} {G : Hp} {ws : List V}, Tw T H G x d ws → G p = none → H p = none := fun t h => fresh_back t.ex h
  have mx := ne t2 pm0
  have cx := ne t3 n4.dl
  have ex := ne t5 pe0
  have rx := ne t6 pr0
  have gx := ne t7 pg0
  have px : ∀ (k : Nat) (p : Addr), ps[k]? = some p → p ≠ x := fun k p h => ne t3 (n4.item k p h).1
  have cm := o3c _ _ mx pm1
  have cc := o4c _ _ cx n4.lst
  have ce := o6c _ _ ex pe1
  have cr := o7c _ _ rx pr1
  have cg := o8c _ _ gx pg1
  have cp : ∀ (k : Nat) (p : Addr), ps[k]? = some p → ∃ d, Hc p = some (.ins T.C d (nC.zip (vC (cliAt s k)))) := fun k p h => by
    obtain ⟨_, _, o, ⟨d, rfl⟩, h1⟩ := n4.item k p h
    exact ⟨d, o4c _ _ (px k p h) h1⟩
  obtain ⟨Lt, hL⟩ : ∃ Lt : Loc, Lt = ⟨fun r => match r with
    | .srv => x
    | .meths => pm
    | .clis => pc
    | .exes => pe
    | .reqs => pr
    | .regs => pg
    | .cli i => ps.getD i x
    | r => L.at_ r, fun r => match r with
    | .srv => d
    | .cli i => dxOf Hc (ps.getD i x)
    | r => L.dx r⟩ := ⟨_, rfl⟩
  have Rc := R.ex (off_ex tb.fx tb.ex (Off.ex ec))
  have psAt : ∀ i, i < s.clients.length → ps[i]? = some (ps.getD i x) := fun i hi => by
    rw [List.getD_eq_getElem?_getD, List.getElem?_eq_getElem (by omega)]
    rfl
  have fr : ∀ r, r.shared = false → (cont T s Lt r).isSome = true → H (Lt.at_ r) = none := fun r hr hs => by
    rw [hL]
    cases r with
    | srv => exact tb.fx
    | meths => exact bk t2 pm0
    | clis => exact bk t3 n4.dl
    | exes => exact bk t5 pe0
    | reqs => exact bk t6 pr0
    | regs => exact bk t7 pg0
    | cli i =>
      have hi : i < s.clients.length := by
        rw [hL] at hs
        simp only [cont, Option.isSome_map] at hs
        obtain ⟨c, hc⟩ := Option.isSome_iff_exists.mp hs
        exact (List.getElem?_eq_some_iff.mp hc).1
      exact bk t3 (n4.item i _ (psAt i hi)).1
    | _ => cases hr
  have shr : ∀ r, r.shared = true → Lt.at_ r = L.at_ r := fun r hr => by
    rw [hL]
    cases r <;> first | rfl | cases hr
  have cs : ∀ r, r.shared = true → cont T s Lt r = cont T s L r := fun r hr => by
    rw [hL]
    cases r <;> first | rfl | cases hr
  have kk := k Lt Hc ⟨off_ex tb.fx tb.ex (Off.ex ec), ⟨fun r o h => ?_, fun r r' h1 h2 z => ?_, Rc.tab⟩, shr, fr⟩
  · rw [hL] at kk
    exact kk
  · by_cases hs : r.shared = true
    · rw [cs r hs] at h
      rw [shr r hs]
      exact Rc.at_ r o h
    · rw [hL] at h ⊢
      cases r with
      | srv =>
        rw [← Option.some.inj h]
        exact ec _ _ tb.at_
      | meths =>
        rw [← Option.some.inj h]
        exact cm
      | clis =>
        rw [← Option.some.inj h]
        refine cc.trans (congrArg (fun l => some (HO.lst l)) ?_)
        unfold refs
        rw [← l4]
        exact (range_map ps x V.ref).symm
      | exes =>
        rw [← Option.some.inj h]
        exact ce
      | reqs =>
        rw [← Option.some.inj h]
        exact cr
      | regs =>
        rw [← Option.some.inj h]
        exact cg
      | cli i =>
        simp only [cont] at h
        obtain ⟨c, hc, h⟩ := Option.map_eq_some_iff.mp h
        have hi := (List.getElem?_eq_some_iff.mp hc).1
        obtain ⟨d', hd⟩ := cp i _ (psAt i hi)
        have e0 : cliAt s i = c := by
          have q := cli_some hi
          rw [hc] at q
          exact (Option.some.inj q).symm
        rw [← h]
        show Hc (ps.getD i x) = some (.ins T.C (dxOf Hc (ps.getD i x)) (nC.zip (vC c)))
        unfold dxOf
        rw [hd, e0]
      | _ => exact absurd rfl hs
  · by_cases hs : r.shared = true
    · by_cases hs' : r'.shared = true
      · rw [shr r hs, shr r' hs'] at z
        rw [cs r hs] at h1
        rw [cs r' hs'] at h2
        exact R.inj r r' h1 h2 z
      · exfalso
        have f' := fr r' (by simpa using hs') h2
        rw [cs r hs] at h1
        obtain ⟨u, hu⟩ := Option.isSome_iff_exists.mp h1
        have q := R.at_ r u hu
        rw [← shr r hs, z, f'] at q
        cases q
    · by_cases hs' : r'.shared = true
      · exfalso
        have f' := fr r (by simpa using hs) h1
        rw [cs r' hs'] at h2
        obtain ⟨u, hu⟩ := Option.isSome_iff_exists.mp h2
        have q := R.at_ r' u hu
        rw [← shr r' hs', ← z, f'] at q
        cases q
      · have nq : ∀ {G : Hp} {p q : Addr} {o : HO}, G p = some o → G q = none → p ≠ q := fun h1 h2 w => by rw [w, h2] at h1; cases h1
        have m5 := ox _ _ mx pm1
        have m6 := o6 _ _ mx m5
        have m7 := o7 _ _ mx m6
        have c5 := o5 _ _ cx n4.lst
        have c6 := o6 _ _ cx c5
        have c7 := o7 _ _ cx c6
        have e7 := o7 _ _ ex pe1
        have m_c := nq pm1 n4.dl
        have m_e := nq m5 pe0
        have m_r := nq m6 pr0
        have m_g := nq m7 pg0
        have c_e := nq c5 pe0
        have c_r := nq c6 pr0
        have c_g := nq c7 pg0
        have e_r := nq pe1 pr0
        have e_g := nq e7 pg0
        have r_g := nq pr1 pg0
        have cl : ∀ j, (cont T s Lt (.cli j)).isSome = true → ps[j]? = some (ps.getD j x) ∧ Lt.at_ (.cli j) = ps.getD j x := fun j h => by
          rw [hL] at h
          simp only [cont, Option.isSome_map] at h
          obtain ⟨c, hc⟩ := Option.isSome_iff_exists.mp h
          exact ⟨psAt j (List.getElem?_eq_some_iff.mp hc).1, by rw [hL]⟩
        have pp : ∀ (k : Nat) (p : Addr), ps[k]? = some p → p ≠ x ∧ p ≠ pm ∧ p ≠ pc ∧ p ≠ pe ∧ p ≠ pr ∧ p ≠ pg := fun k p h => by
          obtain ⟨a, b, o, _, h4⟩ := n4.item k p h
          have n := px k p h
          have q5 := o5 _ _ n h4
          have q6 := o6 _ _ n q5
          have q7 := o7 _ _ n q6
          exact ⟨n, (nq pm1 a).symm, b, nq q5 pe0, nq q6 pr0, nq q7 pg0⟩
        have a1 : Lt.at_ .srv = x := by rw [hL]
        have a2 : Lt.at_ .meths = pm := by rw [hL]
        have a3 : Lt.at_ .clis = pc := by rw [hL]
        have a4 : Lt.at_ .exes = pe := by rw [hL]
        have a5 : Lt.at_ .reqs = pr := by rw [hL]
        have a6 : Lt.at_ .regs = pg := by rw [hL]
        cases r <;> first | exact absurd rfl hs | skip
        case cli i =>
          obtain ⟨b1, b2⟩ := cl i h1
          obtain ⟨p1, p2, p3, p4, p5, p6⟩ := pp i _ b1
          rw [b2] at z
          cases r' <;> first | exact absurd rfl hs' | skip
          case cli j =>
            obtain ⟨b3, b4⟩ := cl j h2
            rw [b4] at z
            have hi := (List.getElem?_eq_some_iff.mp b1).1
            have hj := (List.getElem?_eq_some_iff.mp b3).1
            rw [z] at b1
            have ij : i = j := by
              have y := (List.getElem?_inj hi n4.nd).mp (b1.trans b3.symm)
              exact y
            rw [ij]
          all_goals (simp only [a1, a2, a3, a4, a5, a6] at z; contradiction)
        all_goals (cases r' <;> first | exact absurd rfl hs' | rfl | skip)
        case srv.cli j | meths.cli j | clis.cli j | exes.cli j | reqs.cli j | regs.cli j =>
          obtain ⟨b1, b2⟩ := cl j h2
          obtain ⟨p1, p2, p3, p4, p5, p6⟩ := pp j _ b1
          rw [b2] at z
          simp only [a1, a2, a3, a4, a5, a6] at z
          first | exact absurd z.symm p1 | exact absurd z.symm p2 | exact absurd z.symm p3 | exact absurd z.symm p4 | exact absurd z.symm p5 | exact absurd z.symm p6
        all_goals
          simp only [a1, a2, a3, a4, a5, a6] at z
          exfalso
          first | exact mx z | exact mx z.symm | exact cx z | exact cx z.symm | exact ex z | exact ex z.symm | exact rx z | exact rx z.symm | exact gx z | exact gx z.symm | exact m_c z | exact m_c z.symm | exact m_e z | exact m_e z.symm | exact m_r z | exact m_r z.symm | exact m_g z | exact m_g z.symm | exact c_e z | exact c_e z.symm | exact c_r z | exact c_r z.symm | exact c_g z | exact c_g z.symm | exact e_r z | exact e_r z.symm | exact e_g z | exact e_g z.symm | exact r_g z | exact r_g z.symm
end
end Kc
/-! behind a request on trial the server lies there as before -/
namespace Kc
open PySem PySem.Spec PyProof.Rows L2 KM Evl
section
variable {K : PySem.W.Frag} {mg : Str → Option Value} {T : Cls7} {B : Blt} {σ : L2.St} {H : Hp} {ta tb tc te tv : TE} {D : Ends} {s u : Srv} {L Lt L' : Loc} {H2 H' : Hp} {i : Nat} {p : Addr}
theorem cont_some {r : Role} : (cont T s L r).isSome = (cont T s Lt r).isSome := by
  cases r <;> simp only [cont, Option.isSome_some, Option.isSome_map]
  case frm i j =>
    cases s.executions[i]? with
    | none => rfl
    | some e => simp only [Option.bind_some, Option.isSome_map]
theorem pre_cont (P : Pre s u) {r : Role} (hr : r.shared = true) {o : HO} (h : cont T s L' r = some o) : cont T u L' r = some o := by
  cases r <;> first | (cases hr; done) | simp only [cont, P.meths] at h ⊢
  case meth i => exact h
  case prog i => exact h
  case req i =>
    obtain ⟨x, hx, h⟩ := Option.map_eq_some_iff.mp h
    rw [P.reqs i x hx]
    exact congrArg some h
  case exe i =>
    obtain ⟨x, hx, h⟩ := Option.map_eq_some_iff.mp h
    rw [P.exes i x hx]
    exact congrArg some h
  case pay i =>
    obtain ⟨x, hx, h⟩ := Option.map_eq_some_iff.mp h
    rw [P.exes i x hx]
    exact congrArg some h
  case emi i =>
    obtain ⟨x, hx, h⟩ := Option.map_eq_some_iff.mp h
    rw [P.exes i x hx]
    exact congrArg some h
  case frs i =>
    obtain ⟨x, hx, h⟩ := Option.map_eq_some_iff.mp h
    rw [P.exes i x hx]
    exact congrArg some h
  case frm i j =>
    obtain ⟨x, hx, h⟩ := Option.bind_eq_some_iff.mp h
    rw [P.exes i x hx]
    exact h
def mixL (L L' : Loc) : Loc := ⟨fun r => if r.shared = true then L'.at_ r else L.at_ r, fun r => if r.shared = true then L'.dx r else L.dx r⟩
theorem mix_sh {r : Role} (h : r.shared = true) : (mixL L L').at_ r = L'.at_ r := if_pos h
theorem mix_own {r : Role} (h : r.shared = false) : (mixL L L').at_ r = L.at_ r := if_neg (by rw [h]; decide)
theorem back_go (R : Rep T s L H) (t : Twin T s L H Lt H2) (hp : H p = none) (G : Go T s Lt (del H2 p) u L' H') (P : Pre s u) : Go T s L H s (mixL L L') H' := by
  have ex : Ex H (del H2 p) := ex_del t.ex hp
  -- the server's own objects
  have old : ∀ r, (cont T s L r).isSome = true → ∃ o, cont T s L r = some o ∧ H (L.at_ r) = some o := fun r h => by
    obtain ⟨o, ho⟩ := Option.isSome_iff_exists.mp h
    exact ⟨o, ho, R.at_ r o ho⟩
  have ltOff : ∀ b, (∃ o, H b = some o) → (∀ r, (cont T s L r).isSome = true → r.shared = true → b ≠ L.at_ r) → ∀ r, (cont T s Lt r).isSome = true → b ≠ Lt.at_ r := fun b hb hs r hr z => by
    cases sh : r.shared with
    | true => exact hs r (by rw [cont_some (Lt := Lt)]; exact hr) sh (by rw [z, t.sh r sh])
    | false =>
      obtain ⟨o, ho⟩ := hb
      rw [z, t.own r sh hr] at ho
      cases ho
  have keep : ∀ b o, H b = some o → NT o → (∀ r, (cont T s L r).isSome = true → r.shared = true → b ≠ L.at_ r) → H' b = some o := fun b o h n k => G.keep b o (ex _ _ h) n (ltOff b ⟨o, h⟩ k)
  have ownAt : ∀ r o, r.shared = false → cont T s L r = some o → H' (L.at_ r) = some o := fun r o hr h => keep _ o (R.at_ r o h) (nt_own (cont_own h)) fun r' h' s' z => by
    have e := R.inj r r' (by rw [h]; rfl) h' z
    rw [e, s'] at hr
    cases hr
  have same : ∀ r, r.stable → r.shared = true → (cont T s L r).isSome = true → L'.at_ r = L.at_ r := fun r st sh h => by
    rw [(G.same r st (by rw [cont_some (Lt := L)]; exact h)).2, t.sh r sh]
  have cOwn : ∀ r, r.shared = false → cont T s (mixL L L') r = cont T s L r := fun r hr => by
    cases r <;> first | (cases hr; done) | skip
    case srv => rfl
    case regs => rfl
    case clis => rfl
    case cli i => rfl
    case meths =>
      show some (HO.lst (refs (mixL L L') .meth s.methods.length)) = _
      rw [refs_congr (L := L) (L' := mixL L L') (mk := .meth) (n := s.methods.length) fun i hi => same (.meth i) trivial rfl (by show ((s.methods[i]?).map _).isSome = true; rw [meth_some hi]; rfl)]
      rfl
    case exes =>
      show some (HO.lst (refs (mixL L L') .exe s.executions.length)) = _
      rw [refs_congr (L := L) (L' := mixL L L') (mk := .exe) (n := s.executions.length) fun i hi => same (.exe i) trivial rfl (by show ((s.executions[i]?).map _).isSome = true; rw [exe_some hi]; rfl)]
      rfl
    case reqs =>
      show some (HO.lst (refs (mixL L L') .req s.requests.length)) = _
      rw [refs_congr (L := L) (L' := mixL L L') (mk := .req) (n := s.requests.length) fun i hi => same (.req i) trivial rfl (by show ((s.requests[i]?).map _).isSome = true; rw [req_some hi]; rfl)]
      rfl
  have cSh : ∀ r, r.shared = true → cont T s (mixL L L') r = cont T s L' r := fun r hr => by
    cases r <;> first | (cases hr; done) | rfl
  have uSome : ∀ r, r.shared = true → (cont T s (mixL L L') r).isSome = true → (cont T u L' r).isSome = true := fun r hr h => by
    rw [cSh r hr] at h
    obtain ⟨o, ho⟩ := Option.isSome_iff_exists.mp h
    rw [pre_cont P hr ho]
    rfl
  have lSome : ∀ r, (cont T s (mixL L L') r).isSome = true → (cont T s L r).isSome = true := fun r h => by rw [cont_some (Lt := mixL L L')]; exact h
  -- no object of the twin stands where the server's own stand
  have apart : ∀ r r', r.shared = true → r'.shared = false → (cont T u L' r).isSome = true → (cont T s L r').isSome = true → L'.at_ r ≠ L.at_ r' := fun r r' h1 h2 h3 h4 z => by
    obtain ⟨o, ho, hH⟩ := old r' h4
    rcases G.own r h3 with ⟨r0, k1, k2⟩ | k
    · cases sh : r0.shared with
      | true =>
        rw [t.sh r0 sh] at k2
        have e := R.inj r0 r' (by rw [cont_some (Lt := Lt)]; exact k1) h4 (k2.trans z)
        rw [e, h2] at sh
        cases sh
      | false =>
        have f := t.own r0 sh k1
        rw [k2, z, hH] at f
        cases f
    · exact k o (by rw [z]; exact ex _ _ hH) (nt_own (cont_own ho))
  refine ⟨⟨fun r o h => ?_, fun r r' h1 h2 z => ?_, G.rep.tab⟩, fun b o h n k => keep b o h n fun r hr _ => k r hr, fun r h => ?_, fun r st h => ?_, fun b o h n => G.fresh b o (ex _ _ h) n⟩
  · cases hs : r.shared with
    | true =>
      rw [cSh r hs] at h
      rw [mix_sh hs]
      exact G.rep.at_ r o (pre_cont P hs h)
    | false =>
      rw [cOwn r hs] at h
      rw [mix_own hs]
      exact ownAt r o hs h
  · cases hs : r.shared with
    | true =>
      cases hs' : r'.shared with
      | true =>
        rw [mix_sh hs, mix_sh hs'] at z
        exact G.rep.inj r r' (uSome r hs h1) (uSome r' hs' h2) z
      | false =>
        rw [mix_sh hs, mix_own hs'] at z
        exact absurd z (apart r r' hs hs' (uSome r hs h1) (lSome r' h2))
    | false =>
      cases hs' : r'.shared with
      | true =>
        rw [mix_own hs, mix_sh hs'] at z
        exact absurd z.symm (apart r' r hs' hs (uSome r' hs' h2) (lSome r h1))
      | false =>
        rw [mix_own hs, mix_own hs'] at z
        exact R.inj r r' (lSome r h1) (lSome r' h2) z
  · cases hs : r.shared with
    | false => exact .inl ⟨r, lSome r h, (mix_own hs).symm⟩
    | true =>
      rw [mix_sh hs]
      rcases G.own r (uSome r hs h) with ⟨r0, k1, k2⟩ | k
      · cases sh : r0.shared with
        | true => exact .inl ⟨r0, by rw [cont_some (Lt := Lt)]; exact k1, by rw [← t.sh r0 sh]; exact k2⟩
        | false =>
          right
          intro o ho
          have f := t.own r0 sh k1
          rw [k2, ho] at f
          cases f
      · right
        intro o ho n
        exact k o (ex _ _ ho) n
  · refine ⟨by rw [cont_some (Lt := L)]; exact h, ?_⟩
    cases hs : r.shared with
    | true =>
      rw [mix_sh hs]
      exact same r st hs h
    | false => exact mix_own hs
/-! arrive_on_trial -/
theorem Twin.up {H3 : Hp} (t : Twin T s L H Lt H2) (e : Ex H2 H3) : Twin T s L H Lt H3 := ⟨t.ex.trans e, t.rep.ex e, t.sh, t.own⟩
def spTrial (T : Cls7) : Sp := fun vs H Q _ => ∃ (s : Srv) (L : Loc) (H0 : Hp) (x p : Addr) (a : AskV) (m : Nat), vs = [.ref (L.at_ .srv), .ref x] ∧ Rep T s L H0 ∧ Ex H0 H ∧ H0 x = none ∧ H0 p = none ∧ AskAt T H x p a ∧ Inv m s ∧ reqError s a = none ∧
  ∀ L' L3 H', Rep T (arr s a) L' H' → Go T s L H0 s L3 H' → Q (.ref (L'.at_ (.req s.requests.length))) H'
theorem rd_arrive_on_trial (X : Txt K mg T B) (vs : List V) (H : Hp) (Q : VK) (E : XK) (h : spTrial T vs H Q E) : t_arrive_on_trial K T (spArrive T) (spTwin T) { nx := fun _ H' => Q .non H', rt := Q } (start N_arrive_on_trial vs) H := by
  obtain ⟨s, L, H0, x, p, a, m, rfl, R0, e0, hx, hp, A, I, he, k⟩ := h
  obtain ⟨c1, c2, c3, c4, c5, c6⟩ := err_none he
  have R := R0.ex e0
  have rc := I.b.rc
  have ec := I.b.ec
  have mc := I.b.mc
  have cc := I.b.cc
  have l0 := I.b.lim0
  have l1 := I.b.lim1
  have rg := I.a.hok.regs
  have cb := I.b.cli _ (List.mem_of_getElem? (cli_some c1))
  have step1 : ∀ Q2 : VK, (∀ Lt H2, Twin T s L H Lt H2 → Q2 (.ref (Lt.at_ .srv)) H2) → tCall (spTwin T) [] C8.E0 (tCons (tVar 0) tNil) (start N_arrive_on_trial [.ref (L.at_ .srv), .ref x]) H Q2 := fun Q2 q2 =>
    (ea_cons (ev_var (v := .ref (L.at_ .srv)) rfl) ea_nil) H (Ex.refl H) _ fun H1 e1 => ⟨s, L, rfl, R.ex e1, by omega, by omega, by omega, by omega, by omega, fun Lt H2 t => q2 Lt H2 ⟨e1.trans t.ex, t.rep, t.sh, fun r h1 h2 => fresh_back e1 (t.own r h1 h2)⟩⟩
  refine step1 _ fun Lt H2 t => ?_
  refine ⟨.ref x, rfl, ?_⟩
  have A2 := A.ex t.ex
  -- the twin as one over the heap ahead of the ask
  have t0 : Twin T s L H0 Lt H2 := ⟨e0.trans t.ex, t.rep, t.sh, fun r h1 h2 => fresh_back e0 (t.own r h1 h2)⟩
  have offx : ∀ (b : Addr), H0 b = none → (∃ o, H b = some o) → ∀ r, (cont T s Lt r).isSome = true → Lt.at_ r ≠ b := fun b hb hb2 r hr z => by
    cases sh : r.shared with
    | true =>
      rw [t.sh r sh] at z
      have hr' : (cont T s L r).isSome = true := by rw [cont_some (Lt := Lt)]; exact hr
      obtain ⟨o, ho⟩ := Option.isSome_iff_exists.mp hr'
      have q := R0.at_ r o ho
      rw [z, hb] at q
      cases q
    | false =>
      obtain ⟨o, ho⟩ := hb2
      have f := t.own r sh hr
      rw [z, ho] at f
      cases f
  have AO : AskOff T s Lt H2 x p a := ⟨A2, offx x hx (by obtain ⟨⟨d, h⟩, _⟩ := A; exact ⟨_, h⟩), offx p hp ⟨_, A.pay⟩⟩
  refine ⟨s, Lt, x, p, a, rfl, t.rep, AO, I.a.hok, I.a.wait, by omega, by omega, c1, cb.2.1, cb.2.2, by omega, by omega, fun L' H' g => ?_⟩
  rw [arrive_eq] at g
  exact k L' (mixL L L') H' g.rep (back_go R0 t0 hp g (pre_arr I))
theorem e_CC {sp sp2 : Sp} {dvs dvs2 vs : List V} {E E2 : XK} {ta : TA} {Q : VK} (ha : EvA ta σ H vs) (k : ∀ H1, Ex H H1 → sp2 (vs ++ dvs2) H1 (fun v H2 => sp ([v] ++ dvs) H2 Q E) E2) : tCall sp dvs E (tCons (tCall sp2 dvs2 E2 ta) tNil) σ H Q := ha H (Ex.refl H) _ fun H1 e => k H1 e
theorem rd_preview_request (X : Txt K mg T B) (vs : List V) (H : Hp) (Q : VK) (E : XK) (h : spOp T ok5 opPreview vs H Q E) : t_preview_request K T (spAsk K T) (spReqErr T) (spShown T) (spTrial T) { nx := fun _ H' => Q .non H', rt := Q } (start N_preview_request vs) H := by
  obtain ⟨s, L, q, l, rfl, R, lo, ⟨⟨m, I, hm⟩, hl⟩, k⟩ := h
  refine q_Ask (ev_var rfl) lo.lst hl fun x p H1 hx hp xp e1 A1 => ?_
  have R1 := R.ex e1
  unfold opPreview at k
  refine q_asg (v := optI (reqError s (askOf l))) (ev_call (ea_cons (ev_var rfl) (ea_cons (ev_var rfl) ea_nil)) (spv_err R1 A1)) fun H2 e2 => ?_
  have R2 := R1.ex e2
  have e12 := e1.trans e2
  cases he : reqError s (askOf l) with
  | some er =>
    rw [he] at k
    refine q_when (b := true) (et_is (et_test (ev_op (ev_var (v := .int er) rfl) ev_c rv_notN)) rfl) (fun _ H3 e3 => ?_) fun hb => by cases hb
    exact s_retGo (Go.ex R (e12.trans e3)) (el_lst (ea_cons (ev_var (v := .int er) rfl) ea_nil) (by show 1 ≤ 100000; decide)) fun H' p G nw hp => k L H' p G nw hp
  | none =>
    rw [he] at k
    refine q_when (b := false) (et_is (et_test (ev_op (ev_var (v := .non) rfl) ev_c rv_notN)) rfl) (fun hb => by cases hb) fun _ H3 e3 => ?_
    have e13 := e12.trans e3
    have step : ∀ Q2 : VK, (∀ L' L3 H', Rep T (arr s (askOf l)) L' H' → Go T s L H s L3 H' → Q2 (.int ((shownOf (reqAt (arr s (askOf l)) s.requests.length) : Nat) : Int)) H') → tCall (spShown T) [] C8.E0 (tCons (tCall (spTrial T) [] C8.E0 (tCons (tVar 0) (tCons (tVar 2) tNil))) tNil) [some (.ref (L.at_ .srv)), some (.ref q), some (.ref x), some .non] H3 Q2 := fun Q2 q2 =>
      e_CC (ea_cons (ev_var (v := .ref (L.at_ .srv)) rfl) (ea_cons (ev_var (v := .ref x) rfl) ea_nil)) fun H4 e4 => ⟨s, L, H, x, p, askOf l, m, rfl, R, e13.trans e4, hx, hp, A1.ex ((e2.trans e3).trans e4), I, he, fun L' L3 H' R' G' =>
        ⟨arr s (askOf l), L', s.requests.length, rfl, R', by rw [arr_len I]; exact Nat.lt_succ_self _, fun H5 e5 => q2 L' L3 H5 (R'.ex e5) (G'.trans (Go.ex G'.rep e5))⟩⟩
    refine step _ fun L' L3 H' R' G' => ?_
    refine ⟨by show 1 ≤ sizeLine; exact sz_of (by decide), fun pp hpp => ?_⟩
    exact k L3 _ pp (G'.trans (Go.ex G'.rep (Ex.new hpp))) (G'.new hpp) (by rw [upd_same, ints_V]; rfl)
end
end Kc
/-! look, perform -/
namespace KM
def stepS (n : Nat) : Srv → List Nat → Srv × List Int := match n with
  | 1 => opAddMethod
  | 2 => opAddClient
  | 3 => opRequest
  | 4 => opCancel
  | 5 => opAdvance
  | 6 => opNextEvent
  | 7 => opRun
  | 8 => opRequestInfo
  | 9 => opResponse
  | 10 => opExecutionInfo
  | 11 => opListQueue
  | 12 => opListRunning
  | 13 => opRegisters
  | 14 => opQuota
  | 15 => opFindKey
  | 16 => opShutdown
  | 17 => opSetLimit
  | 18 => opSetRoles
  | 19 => opEstimate
  | 20 => opPreview
  | 21 => opStatistics
  | _ => opStatus
/-- how many numbers a call has -/
def shapeOk (n : Nat) (l : List Nat) : Prop := match n with
  | 1 => 2 ≤ l.length ∧ l.length ≤ 1000
  | 2 => l.length = 4
  | 3 => 5 ≤ l.length
  | 6 => True
  | 11 => True
  | 12 => True
  | 13 => True
  | 15 => l.length = 2
  | 18 => l.length = 2
  | 19 => True
  | 20 => 5 ≤ l.length
  | 21 => True
  | 22 => True
  | _ => 0 < l.length
end KM
namespace Kc
open PySem PySem.Spec PyProof.Rows L2 KM Evl
def okOf (n : Nat) : Srv → List Nat → Prop := match n with
  | 1 => okM
  | 2 => okC
  | 3 => ok5
  | 4 => okX
  | 6 => ok0
  | 8 => one
  | 9 => okR
  | 10 => oneR
  | 11 => okQ
  | 12 => ok0
  | 13 => ok0
  | 15 => ok2
  | 18 => ok2
  | 19 => ok0
  | 20 => ok5
  | 21 => ok0
  | 22 => ok0
  | _ => ok1
theorem okR_of {s : Srv} (I : InvS s) {l : List Nat} (h : 0 < l.length) : okR s l := by
  obtain ⟨m, I, _⟩ := I
  refine ⟨h, fun r hr h0 => ?_⟩
  obtain ⟨i, h1, h2⟩ := I.a.req.ok r hr h0
  have := (I.a.hok.ex i _ (exe_some h2)).1.emi
  exact ⟨i, h1, h2, by omega⟩
theorem ok_of {n : Nat} {s : Srv} {l : List Nat} (I : InvS s) (h : shapeOk n l) (h1 : 1 ≤ n) (h2 : n ≤ 22) : okOf n s l := by
  have J := I
  obtain ⟨m, K, _⟩ := J
  have mc := K.b.mc
  have cc := K.b.cc
  have nr := K.a.hok.nr
  match n, h1, h2 with
  | 1, _, _ => exact ⟨h.1, h.2, K.a.hok, by omega⟩
  | 2, _, _ => exact ⟨h, by omega⟩
  | 3, _, _ => exact ⟨I, h⟩
  | 4, _, _ => exact ⟨h, K.a⟩
  | 5, _, _ => exact ⟨I, h⟩
  | 6, _, _ => exact I
  | 7, _, _ => exact ⟨I, h⟩
  | 8, _, _ => exact h
  | 9, _, _ => exact okR_of I h
  | 10, _, _ => exact ⟨h, nr⟩
  | 11, _, _ => exact ⟨K.a.hok, K.a.wait⟩
  | 12, _, _ => exact I
  | 13, _, _ => exact I
  | 14, _, _ => exact ⟨I, h⟩
  | 15, _, _ => exact ⟨I, h⟩
  | 16, _, _ => exact ⟨I, h⟩
  | 17, _, _ => exact ⟨I, h⟩
  | 18, _, _ => exact ⟨I, h⟩
  | 19, _, _ => exact I
  | 20, _, _ => exact ⟨I, h⟩
  | 21, _, _ => exact I
  | 22, _, _ => exact I
  | n + 23, _, h => exact absurd h (by omega)
abbrev opN : List (Nat × Str) := [(1, "add_method"), (2, "add_client"), (3, "send_request"), (4, "cancel"), (5, "advance"), (7, "run"), (16, "shutdown"), (17, "set_limit"), (18, "set_roles"), (20, "preview_request")]
abbrev viewN : List (Nat × Str) := [(6, "next_event"), (8, "request_info"), (9, "response"), (10, "execution_info"), (11, "list_queue"), (12, "list_running"), (13, "registers"), (14, "quota"), (15, "find_key"), (19, "estimate"), (21, "statistics"), (22, "status")]
def spN (T : Cls7) (n : Nat) : Sp := spOp T (okOf n) (stepS n)
def tabN (T : Cls7) (l : List (Nat × Str)) : List (Str × Sp) := l.map fun e => (e.2, spN T e.1)
theorem lookup_tab {T : Cls7} : ∀ {l : List (Nat × Str)} {e : Nat × Str}, (l.map fun e => e.2).Nodup → e ∈ l → (tabN T l).lookup e.2 = some (spN T e.1)
  | [], _, _, h => by cases h
  | d :: l, e, nd, h => by
    rw [List.map_cons, List.nodup_cons] at nd
    show ((d.2, spN T d.1) :: tabN T l).lookup e.2 = _
    rw [List.lookup_cons]
    rcases List.mem_cons.mp h with z | z
    · rw [z, beq_self_eq_true]
    · have ne : (e.2 == d.2) = false := beq_eq_false_iff_ne.mpr fun w => nd.1 (by rw [← w]; exact List.mem_map.mpr ⟨e, z, rfl⟩)
      rw [ne]
      exact lookup_tab nd.2 z
theorem tab_lookup {T : Cls7} : ∀ {l : List (Nat × Str)} {x : Str} {sp : Sp}, (tabN T l).lookup x = some sp → ∃ e ∈ l, e.2 = x ∧ sp = spN T e.1
  | [], _, _, h => by cases h
  | d :: l, x, sp, h => by
    have h' : ((d.2, spN T d.1) :: tabN T l).lookup x = some sp := h
    rw [List.lookup_cons] at h'
    cases q : x == d.2 with
    | true =>
      rw [q] at h'
      exact ⟨d, List.mem_cons_self, (eq_of_beq q).symm, (Option.some.inj h').symm⟩
    | false =>
      rw [q] at h'
      obtain ⟨e, h1, h2, h3⟩ := tab_lookup h'
      exact ⟨e, List.mem_cons_of_mem _ h1, h2, h3⟩
def nameOf (K : PySem.W.Frag) (f : Addr) : Option Str := match K.lookup f with
  | some o => match o.data with
    | .func fd => some fd.name
    | _ => none
  | none => none
open Classical in
noncomputable def SOf (K : PySem.W.Frag) (mg : Str → Option Value) (tab : List (Str × Sp)) (f : Addr) : Option Sp := match nameOf K f with
  | some n => if mg n = some (.ref f) then tab.lookup n else none
  | none => none
/-- a function of the module, by its name -/
structure Named (K : PySem.W.Frag) (mg : Str → Option Value) (x : Str) (f : Addr) : Prop where
  nm : nameOf K f = some x
  mgf : mg x = some (.ref f)
section
variable {P : Program} {w : World} {K : PySem.W.Frag} {mg : Str → Option Value} {base : Heap} {T : Cls7} {B : Blt} {σ : L2.St} {H : Hp} {ta tb tc te tv : TE} {D : Ends} {s u : Srv} {L Lt L' : Loc} {H2 H' : Hp} {i : Nat} {p : Addr}
theorem SOf_get {x : Str} {f : Addr} {tab : List (Str × Sp)} (N : Named K mg x f) : SOf K mg tab f = tab.lookup x := by
  unfold SOf
  rw [N.nm]
  exact if_pos N.mgf
theorem SOf_held {l : List (Nat × Str)} {k : Nat} (h : ∀ e ∈ l, C8.Cal P w K mg base k e.2 (spN T e.1) []) (f : Addr) (sp : Sp) (q : SOf K mg (tabN T l) f = some sp) : Held P w K mg base k f sp := by
  unfold SOf at q
  split at q
  · rename_i n hn
    split at q
    · rename_i hm
      obtain ⟨e, h1, h2, h3⟩ := tab_lookup q
      obtain ⟨f', fd, ps, ds, F, m, kp, b, d⟩ := (h e h1).ex
      rw [h2, hm] at m
      cases m
      cases d
      rw [h3]
      exact ⟨fd, ps, F, kp, b⟩
    · cases q
  · cases q
/-- the two dicts of calls -/
structure DictN (K : PySem.W.Frag) (mg : Str → Option Value) (a : Addr) (l : List (Nat × Str)) : Prop where
  it : ∃ (es : Array DictEntry) (n : Nat), K.lookup a = some ⟨.type "dict", none, .dict es n, #[]⟩ ∧ KeysI es.toList ∧ (∀ e ∈ l, ∃ f, findBy Value.isInt es ((e.1 : Nat) : Int) = some (.ref f) ∧ Named K mg e.2 f) ∧
    ∀ i : Nat, i ≤ 22 → (l.map fun e => e.1).contains i = false → findBy Value.isInt es (i : Int) = none
theorem rv_inI {a : Addr} {l : List (Nat × Str)} (d : DictN K mg a l) {n : Nat} (hn : n ≤ 22) : RV (rInI K) (.int (n : Int)) (.ref a) H (.bl ((l.map fun e => e.1).contains n)) := fun H1 e Q q => by
  obtain ⟨es, m, h1, h2, h3, h4⟩ := d.it
  refine ⟨a, (n : Int), es, m, rfl, rfl, h1, h2, ?_⟩
  have z : (findBy Value.isInt es (n : Int)).isSome = (l.map fun e => e.1).contains n := by
    cases c : (l.map fun e => e.1).contains n with
    | false => rw [h4 n hn c]; rfl
    | true =>
      obtain ⟨e, he, hen⟩ := List.mem_map.mp (List.contains_iff_mem.mp c)
      obtain ⟨f, hf, _⟩ := h3 e he
      rw [← hen, hf]
      rfl
  rw [z]
  exact q H1 (Ex.refl H1)
/-- d[n](server, numbers) -/
theorem call_dict {a : Addr} {l : List (Nat × Str)} {j n : Nat} {v : V} {tz : TS} (d : DictN K mg a l) (nd : (l.map fun e => e.2).Nodup) (hn : (l.map fun e => e.1).contains n = true) (h1 : σ[1]? = some (some (.int (n : Int)))) (hj : ∀ f : Addr, (σ.set 3 (some (.ref f)))[3]? = some (some (.ref f))) {vs : List V}
    (ha : ∀ f : Addr, EvA (tCons (tVar 0) (tCons (tVar 2) tNil)) (σ.set 3 (some (.ref f))) H vs) (k : ∀ H1, Ex H H1 → spN T n vs H1 D.rt (fun _ _ _ => False)) :
    tSeq (tAsg (tOp (rIxI K) (tC (.ref a)) (tVar 1)) (gName 3)) (tRet (tCallA 3 (SOf K mg (tabN T l)) (tCons (tVar 0) (tCons (tVar 2) tNil)))) D σ H := by
  obtain ⟨es, m, k1, k2, k3, k4⟩ := d.it
  obtain ⟨e, he, hen⟩ := List.mem_map.mp (List.contains_iff_mem.mp hn)
  obtain ⟨f, hf, N⟩ := k3 e he
  have hen' : e.1 = n := hen
  subst hen'
  refine q_asg (v := .ref f) (ev_op (ev_c (v := .ref a)) (ev_var h1) fun H1 e1 Q q => ⟨a, _, es, m, .ref f, .ref f, rfl, rfl, k1, k2, hf, rfl, q H1 (Ex.refl H1)⟩) fun H1 e1 => ?_
  refine ⟨f, spN T e.1, hj f, by rw [SOf_get N]; exact lookup_tab nd he, ?_⟩
  exact (ha f) H1 e1 _ fun H2 e2 => k H2 (e1.trans e2)
def spLook (T : Cls7) : Sp := fun vs H Q _ => ∃ (s : Srv) (L : Loc) (n : Nat) (q : Addr) (l : List Nat), vs = [.ref (L.at_ .srv), .int (n : Int), .ref q] ∧ Rep T s L H ∧ Loose T s L H q (intL l) ∧ InvS s ∧ shapeOk n l ∧ 1 ≤ n ∧ n ≤ 22 ∧ (viewN.map fun e => e.1).contains n = true ∧
  ∀ L' H' p, Go T s L H (stepS n s l).1 L' H' → New H p → H' p = some (.lst ((stepS n s l).2.map V.int)) → Q (.ref p) H'
theorem new_ex {H1 : Hp} {p : Addr} (h : New H1 p) (e : Ex H H1) : New H p := fun o q n => h o (e _ _ q) n
theorem view_nd : (viewN.map fun e => e.2).Nodup := by decide +kernel
theorem op_nd : (opN.map fun e => e.2).Nodup := by decide +kernel
theorem rd_look (X : Txt K mg T B) (d : DictN K mg B.views viewN) (vs : List V) (H : Hp) (Q : VK) (E : XK) (h : spLook T vs H Q E) : t_look K T B (SOf K mg (tabN T viewN)) { nx := fun _ H' => Q .non H', rt := Q } (start N_look vs) H := by
  obtain ⟨s, L, n, q, l, rfl, R, lo, I, hs, h1, h2, hv, k⟩ := h
  refine call_dict (v := .non) (tz := tNext) (j := 3) d view_nd hv rfl (fun f => rfl) (fun f => ea_cons (ev_var (v := .ref (L.at_ .srv)) rfl) (ea_cons (ev_var (v := .ref q) rfl) ea_nil)) fun H1 e1 => ?_
  exact ⟨s, L, q, l, rfl, R.ex e1, ⟨e1 _ _ lo.lst, lo.off⟩, ok_of I hs h1 h2, fun L' H' p G nw hp => k L' H' p ((Go.ex R e1).trans G) (new_ex nw e1) hp⟩
def spPerform (T : Cls7) : Sp := fun vs H Q _ => ∃ (s : Srv) (L : Loc) (n : Nat) (q : Addr) (l : List Nat), vs = [.ref (L.at_ .srv), .int (n : Int), .ref q] ∧ Rep T s L H ∧ Loose T s L H q (intL l) ∧ InvS s ∧ shapeOk n l ∧ 1 ≤ n ∧ n ≤ 22 ∧
  ∀ L' H' p, Go T s L H (stepS n s l).1 L' H' → New H p → H' p = some (.lst ((stepS n s l).2.map V.int)) → Q (.ref p) H'
theorem split_n {n : Nat} (h1 : 1 ≤ n) (h2 : n ≤ 22) (h : (opN.map fun e => e.1).contains n = false) : (viewN.map fun e => e.1).contains n = true := by
  have key : ∀ n : Fin 23, 1 ≤ n.val → ((opN.map fun e => e.1).contains n.val = false) → (viewN.map fun e => e.1).contains n.val = true := by decide
  exact key ⟨n, by omega⟩ h1 h
theorem rd_perform (X : Txt K mg T B) (d : DictN K mg B.ops opN) (vs : List V) (H : Hp) (Q : VK) (E : XK) (h : spPerform T vs H Q E) : t_perform K T B (SOf K mg (tabN T opN)) (spLook T) { nx := fun _ H' => Q .non H', rt := Q } (start N_perform vs) H := by
  obtain ⟨s, L, n, q, l, rfl, R, lo, I, hs, h1, h2, k⟩ := h
  refine q_when (b := (opN.map fun e => e.1).contains n) (et_test (ev_op (ev_var (v := .int (n : Int)) rfl) (ev_c (v := .ref B.ops)) (rv_inI d h2))) (fun hb H1 e1 => ?_) fun hb H1 e1 => ?_
  · refine call_dict (v := .non) (tz := tNext) (j := 3) d op_nd hb rfl (fun f => rfl) (fun f => ea_cons (ev_var (v := .ref (L.at_ .srv)) rfl) (ea_cons (ev_var (v := .ref q) rfl) ea_nil)) fun H2 e2 => ?_
    have e12 := e1.trans e2
    exact ⟨s, L, q, l, rfl, R.ex e12, ⟨e12 _ _ lo.lst, lo.off⟩, ok_of I hs h1 h2, fun L' H' p G nw hp => k L' H' p ((Go.ex R e12).trans G) (new_ex nw e12) hp⟩
  · refine s_retCall (ea_cons (ev_var rfl) (ea_cons (ev_var rfl) (ea_cons (ev_var rfl) ea_nil))) fun H2 e2 => ?_
    have e12 := e1.trans e2
    exact ⟨s, L, n, q, l, rfl, R.ex e12, ⟨e12 _ _ lo.lst, lo.off⟩, I, hs, h1, h2, split_n h1 h2 hb, fun L' H' p G nw hp => k L' H' p ((Go.ex R e12).trans G) (new_ex nw e12) hp⟩
end
end Kc
/-! a call on a server: what is kept -/
namespace KM
open Kp424 (Server Execution Request Method Customer Progress Settings Event)
open Kc (Aok Hok WaitOk Rok Wok phi)
section
variable {s t : Srv} {i k n : Nat} {l : List Nat}
/-! a new method -/
def addM (s : Srv) (m : Meth) : Srv := { s with methods := s.methods ++ [m] }
theorem prog_old {m : Meth} {j : Nat} (h : j < s.methods.length) : progAt (addM s m) j = progAt s j := by
  unfold progAt methAt addM
  rw [List.getD_eq_getElem?_getD, List.getD_eq_getElem?_getD, List.getElem?_append_left h]
theorem prog_new {m : Meth} : progAt (addM s m) s.methods.length = m.program := by
  unfold progAt methAt addM
  rw [List.getD_eq_getElem?_getD, Kc.app_new]
  rfl
theorem addM_len {m : Meth} : (addM s m).methods.length = s.methods.length + 1 := by
  show (s.methods ++ [m]).length = _
  rw [List.length_append]
  rfl
theorem instr_at {mc : Nat} {l : List Nat} (he : l.length % 2 = 0) (ha : allInstr mc l = true) : ∀ j, 2 * j ≤ l.length → allInstr mc (l.drop (2 * j)) = true ∧ ∀ p, p % 2 = 0 → p < 2 * j → isInstr (l.getD p 0) (l.getD (p + 1) 0) mc = true
  | 0, _ => ⟨ha, fun p _ h => by omega⟩
  | j + 1, h => by
    obtain ⟨h1, h2⟩ := instr_at he ha j (by omega)
    have g1 : l[2 * j]? = some (l.getD (2 * j) 0) := by rw [List.getD_eq_getElem?_getD, List.getElem?_eq_getElem (by omega)]; rfl
    have g2 : l[2 * j + 1]? = some (l.getD (2 * j + 1) 0) := by rw [List.getD_eq_getElem?_getD, List.getElem?_eq_getElem (by omega)]; rfl
    rw [Kc.allInstr_drop l j _ _ g1 g2, Bool.and_eq_true] at h1
    refine ⟨h1.2, fun p hp hlt => ?_⟩
    by_cases z : p < 2 * j
    · exact h2 p hp z
    · have e : p = 2 * j := by omega
      rw [e]
      exact h1.1
theorem good_of {mc c a : Nat} (h : isInstr c a mc = true) : Kc.goodI (mc + 1) c a := by
  unfold isInstr at h
  split at h
  · cases h
  · rename_i h7
    split at h
    · cases h
    · rename_i h5
      rw [Bool.and_eq_true, decide_eq_true_eq, decide_eq_true_eq] at h
      rw [Bool.and_eq_true, beq_iff_eq, decide_eq_true_eq] at h5
      have c7 : c = 0 ∨ c = 1 ∨ c = 2 ∨ c = 3 ∨ c = 4 ∨ c = 5 ∨ c = 6 := by omega
      refine ⟨fun z => by omega, fun a1 a2 a3 a4 a5 => ?_, fun z => ?_⟩
      · rcases c7 with z | z | z | z | z | z | z
        · exact absurd z a5
        · exact absurd z a1
        · exact absurd z a2
        · rw [z] at h
          have : a ≤ 3 := h.2
          omega
        · exact absurd z a3
        · exact absurd z a4
        · rw [z] at h
          have : a ≤ 3 := h.2
          omega
      · rw [z] at h
        exact h.2
theorem good_up {mc c a : Nat} (h : Kc.goodI mc c a) : Kc.goodI (mc + 1) c a := ⟨fun z => Nat.lt_succ_of_lt (h.1 z), h.2.1, h.2.2⟩
theorem inv_addM (I : Inv k s) {m : Meth} (hl : s.methods.length < 6) (hp : isProg m.program s.methods.length = true) : Inv k (addM s m) := by
  unfold isProg at hp
  split at hp
  · cases hp
  · rename_i hc
    rw [Bool.or_eq_true, beq_iff_eq, decide_eq_true_eq, not_or] at hc
    have he : m.program.length % 2 = 0 := by omega
    have ia := (instr_at he hp (m.program.length / 2) (by omega)).2
    have cases_ : ∀ j, j < (addM s m).methods.length → (j < s.methods.length ∧ progAt (addM s m) j = progAt s j) ∨ progAt (addM s m) j = m.program := fun j hj => by
      rw [addM_len] at hj
      by_cases z : j < s.methods.length
      · exact .inl ⟨z, prog_old z⟩
      · have e : j = s.methods.length := by omega
        right
        rw [e]
        exact prog_new
    have P : Kc.PrOk (addM s m) := ⟨fun j hj => by
      rcases cases_ j hj with ⟨z, e⟩ | e
      · rw [e]
        exact I.a.hok.pr.even j z
      · rw [e]
        exact he, fun j hj => by
      rcases cases_ j hj with ⟨z, e⟩ | e
      · rw [e]
        exact I.a.hok.pr.size j z
      · rw [e]
        omega⟩
    have Q : Kc.InOk (addM s m) := ⟨fun j hj p hp2 hlt => by
      rw [addM_len]
      rcases cases_ j hj with ⟨z, e⟩ | e
      · rw [e] at hlt ⊢
        exact good_up (I.a.hok.ins.good j z p hp2 hlt)
      · rw [e] at hlt ⊢
        exact good_of (ia p hp2 (by omega))⟩
    refine ⟨⟨⟨I.a.hok.ne, I.a.hok.nr, P, Q, I.a.hok.regs, fun j e h => ?_⟩, I.a.wait, ⟨I.a.req.op, I.a.req.ok, I.a.req.jo, I.a.req.dl⟩, I.a.wake⟩, ⟨I.b.dis, I.b.lim0, I.b.lim1, by rw [addM_len]; omega, I.b.cc, I.b.rc, I.b.ec, I.b.cli, I.b.grace⟩, I.st3.of rfl, I.full, I.now⟩
    have z := I.a.hok.ex j e h
    exact ⟨⟨⟨fun f hf => by rw [addM_len]; exact Nat.lt_succ_of_lt (z.1.fr.meth f hf), z.1.fr.even⟩, z.1.len, z.1.most, z.1.emi⟩, z.2⟩
theorem abs_addM (O : Hok s) {m : Meth} : absS (addM s m) = { absS s with methods := (absS s).methods ++ [absM m] } := by
  unfold absS abs
  have e1 : (addM s m).methods.map absM = s.methods.map absM ++ [absM m] := by
    show (s.methods ++ [m]).map absM = _
    rw [List.map_append]
    rfl
  have e2 : (addM s m).executions.map (absE (progAt (addM s m))) = s.executions.map (absE (progAt s)) := by
    refine List.map_congr_left fun e he => ?_
    obtain ⟨j, hj⟩ := List.mem_iff_getElem?.mp he
    have z := (O.ex j e hj).1.fr.meth
    unfold absE stackOf
    have : e.frames.map (fun f => (instrs (progAt (addM s m) f.1)).drop (f.2 / 2)) = e.frames.map fun f => (instrs (progAt s f.1)).drop (f.2 / 2) := List.map_congr_left fun f hf => by rw [prog_old (z f hf)]
    rw [this]
  rw [e1, e2]
  rfl
/-! a new client -/
theorem inv_addClient (I : Inv k s) {c : Cli} (hl : s.clients.length < 8) (h1 : c.capacity ≤ 1000) (h2 : c.refill ≤ 1000) (h3 : c.quotaAt ≤ s.now) : Inv k { s with clients := s.clients ++ [c] } := by
  refine ⟨⟨⟨I.a.hok.ne, I.a.hok.nr, Kc.prOk_of I.a.hok.pr rfl, Kc.inOk_of I.a.hok.ins rfl, I.a.hok.regs, fun j e h => ⟨Kc.exOk_of (I.a.hok.ex j e h).1 rfl, (I.a.hok.ex j e h).2⟩⟩, I.a.wait, ⟨I.a.req.op, I.a.req.ok, I.a.req.jo, I.a.req.dl⟩, I.a.wake⟩, ⟨I.b.dis, I.b.lim0, I.b.lim1, I.b.mc, ?_, I.b.rc, I.b.ec, fun d hd => ?_, I.b.grace⟩, I.st3.of rfl, I.full, I.now⟩
  · show (s.clients ++ [c]).length ≤ 8
    rw [List.length_append]
    exact hl
  · have hd' : d ∈ s.clients ++ [c] := hd
    rcases List.mem_append.mp hd' with z | z
    · exact I.b.cli d z
    · rw [List.mem_singleton.mp z]
      exact ⟨h1, h2, h3⟩
theorem aok_of (A : Aok s) (h1 : t.executions = s.executions) (h2 : t.requests = s.requests) (h3 : t.methods = s.methods) (h4 : t.registers = s.registers) (h5 : t.now = s.now) : Aok t := by
  have e : ∀ j, exeAt t j = exeAt s j := fun j => by unfold exeAt; rw [h1]
  have r : ∀ j, reqAt t j = reqAt s j := fun j => by unfold reqAt; rw [h2]
  refine ⟨Kc.hok_of A.hok h1 h2 h3 h4 h5, fun j hj hs => ?_, ⟨fun j hj h => ?_, fun j hj h => ?_, fun j hj => ?_, fun j hj => ?_⟩, fun j hj h => ?_⟩
  · rw [Kc.waiting_reqs h2]
    rw [h1] at hj
    rw [e] at hs
    exact A.wait j hj hs
  · rw [h2] at hj
    rw [r] at h ⊢
    obtain ⟨i, a, b, c⟩ := A.req.op j hj h
    exact ⟨i, a, by rw [h1]; exact b, by rw [e]; exact c⟩
  · rw [h2] at hj
    rw [r] at h ⊢
    obtain ⟨i, a, b⟩ := A.req.ok j hj h
    exact ⟨i, a, by rw [h1]; exact b⟩
  · rw [h2] at hj
    rw [r]
    exact A.req.jo j hj
  · rw [h2] at hj
    rw [r, h5]
    exact A.req.dl j hj
  · rw [h1] at hj
    rw [e] at h ⊢
    rw [h5]
    exact A.wake j hj h
theorem inv_leave (I : Inv k s) {r st : Nat} (hr : r < s.requests.length) (he : (reqAt s r).execution = some i) (hi : i < s.executions.length) : Inv k (leave s r st i) :=
  ⟨Kc.leave_aok I.a hr he hi, I.b.stay stay_leave, St3.fill _ I.st3.left, full_fill, by rw [stay_leave.now]; exact I.now⟩
theorem inv_limit (I : Inv k s) (h : isLimit n = true) : Inv k (fillSlots { s with limit := n }) := by
  unfold isLimit at h
  rw [Bool.and_eq_true, decide_eq_true_eq, decide_eq_true_eq] at h
  have A : Aok { s with limit := n } := aok_of I.a rfl rfl rfl rfl rfl
  have St := stay_fill (inState { s with limit := n } 0).length { s with limit := n }
  have B : Base { s with limit := n } := ⟨I.b.dis, h.1, h.2, I.b.mc, I.b.cc, I.b.rc, I.b.ec, I.b.cli, I.b.grace⟩
  exact ⟨(Kc.fill_ok _ _ A).1, B.stay St, St3.fill _ (I.st3.of rfl), full_fill, by show (fillSlots _).now ≤ k; unfold fillSlots; rw [St.now]; exact I.now⟩
theorem inv_shut (I : Inv k s) (h : n ≤ 100000) : Inv k { s with graceEnd := some (s.now + n) } :=
  ⟨aok_of I.a rfl rfl rfl rfl rfl, ⟨I.b.dis, I.b.lim0, I.b.lim1, I.b.mc, I.b.cc, I.b.rc, I.b.ec, I.b.cli, fun t ht => by
    cases ht
    show s.now + n ≤ s.now + 100000
    omega⟩, I.st3.of rfl, I.full, I.now⟩
theorem inv_roles (I : Inv k s) {c : Nat} (hc : c < s.clients.length) {r : Nat} : Inv k (setC s c { cliAt s c with roles := r }) := by
  refine ⟨aok_of I.a rfl rfl rfl rfl rfl, ⟨I.b.dis, I.b.lim0, I.b.lim1, I.b.mc, ?_, I.b.rc, I.b.ec, fun d hd => ?_, I.b.grace⟩, I.st3.of rfl, I.full, I.now⟩
  · show (s.clients.set _ _).length ≤ 8
    rw [List.length_set]
    exact I.b.cc
  · have hd' : d ∈ s.clients.set c { cliAt s c with roles := r } := hd
    rcases List.mem_or_eq_of_mem_set hd' with z | z
    · exact I.b.cli d z
    · rw [z]
      have w := I.b.cli _ (List.mem_of_getElem? (cli_some hc))
      exact w
/-- every call keeps what servers keep -/
theorem inv_step (I : Inv k s) (hs : shapeOk n l) (h1 : 1 ≤ n) (h2 : n ≤ 22) : Inv (k + 4000000) (stepS n s l).1 := by
  have U : Inv (k + 4000000) s := I.up (by omega)
  match n, h1, h2 with
  | 1, _, _ =>
    show Inv _ (opAddMethod s l).1
    unfold opAddMethod
    split
    · exact U
    · rename_i hc
      split
      · exact U
      · rename_i h6
        rw [Bool.or_eq_true, Bool.not_eq_true', not_or] at hc
        have := I.b.mc
        exact inv_addM U (m := newMeth l) (by omega) (show isProg (l.drop 2) s.methods.length = true by simpa using hc.1)
  | 2, _, _ =>
    show Inv _ (opAddClient s l).1
    unfold opAddClient
    split
    · exact U
    · rename_i hc
      split
      · exact U
      · rename_i h8
        simp only [Bool.or_eq_true, decide_eq_true_eq, not_or] at hc
        have := I.b.cc
        exact inv_addClient U (c := newCli s l) (by omega) (by show l.getD 2 0 ≤ 1000; omega) (by show l.getD 3 0 ≤ 1000; omega) (Nat.le_refl _)
  | 3, _, _ =>
    show Inv _ (opRequest s l).1
    unfold opRequest
    cases he : reqError s (Kc.askOf l) with
    | some e => exact U
    | none =>
      obtain ⟨c1, c2, c3, c4, c5, c6⟩ := Kc.err_none he
      have := I.b.rc
      exact inv_arr U (by omega) c3
  | 4, _, _ =>
    show Inv _ (opCancel s l).1
    unfold opCancel
    split
    · exact U
    · rename_i hr
      split
      · exact U
      · rename_i hst
        have hst' : (reqAt s (l.getD 0 0)).status = none := by
          cases q : (reqAt s (l.getD 0 0)).status with
          | none => rfl
          | some v => exact absurd (by rw [q]; intro z; cases z) hst
        obtain ⟨j, q1, q2, q3⟩ := I.a.req.op _ (by omega) hst'
        show Inv _ (leave s (l.getD 0 0) 1 ((reqAt s (l.getD 0 0)).execution.getD 0))
        rw [q1]
        exact inv_leave U (by omega) q1 q2
  | 5, _, _ =>
    show Inv _ (opAdvance s l).1
    unfold opAdvance
    split
    · exact U
    · rename_i hd
      have hn := I.now
      have J : Inv (s.now + l.getD 0 0) s := ⟨I.a, I.b, I.st3, I.full, by omega⟩
      exact (inv_setNow (inv_adv (phi2 s) s 0 J)).up (by omega)
  | 6, _, _ => exact U
  | 7, _, _ =>
    show Inv _ (opRun s l).1
    unfold opRun
    split
    · exact U
    · rename_i hd
      refine (inv_run (l.getD 0 0) I).up ?_
      have : l.getD 0 0 * 100000 ≤ 40 * 100000 := Nat.mul_le_mul_right _ (by omega)
      omega
  | 8, _, _ => exact U
  | 9, _, _ => exact U
  | 10, _, _ => exact U
  | 11, _, _ => exact U
  | 12, _, _ => exact U
  | 13, _, _ => exact U
  | 14, _, _ => exact U
  | 15, _, _ => exact U
  | 16, _, _ =>
    show Inv _ (opShutdown s l).1
    unfold opShutdown
    split
    · exact U
    · rename_i hg
      split
      · exact U
      · dsimp only
        split
        · exact inv_grace (inv_shut U (by omega))
        · exact inv_shut U (by omega)
  | 17, _, _ =>
    show Inv _ (opSetLimit s l).1
    unfold opSetLimit
    split
    · exact U
    · rename_i hl
      exact inv_limit U (by simpa using hl)
  | 18, _, _ =>
    show Inv _ (opSetRoles s l).1
    unfold opSetRoles
    split
    · exact U
    · rename_i hc
      split
      · exact U
      · exact inv_roles U (by omega)
  | 19, _, _ => exact U
  | 20, _, _ => exact U
  | 21, _, _ => exact U
  | 22, _, _ => exact U
  | n + 23, _, h => exact absurd h (by omega)
end
end KM
/-! each call on a server against the specification -/
namespace KM
open Kp424 (Server Execution Request Method Customer Progress Settings Event Call State Ans)
open Kc (Aok Hok WaitOk Rok Wok phi)
def out (y : State × Ans) : State × List Int := (y.1, y.2.num :: y.2.nums)
section
variable {s t : Srv} {i k n : Nat} {l : List Nat}
theorem nr_abs : (absS s).requests.length = s.requests.length := List.length_map ..
theorem ne_abs : (absS s).executions.length = s.executions.length := List.length_map ..
theorem nc_abs : (absS s).customers.length = s.clients.length := List.length_map ..
theorem nm_abs : (absS s).methods.length = s.methods.length := List.length_map ..
theorem isC : Kp424.isClient (absS s) i = decide (i < s.clients.length) := by
  unfold Kp424.isClient
  rw [nc_abs]
theorem isR : Kp424.isRequest (absS s) i = decide (i < s.requests.length) := by
  unfold Kp424.isRequest
  rw [nr_abs]
theorem opt_num (o : Option Nat) : Kp424.optionNumber o = numOf o := by
  cases o <;> rfl
theorem shown_num (r : Req) : Kp424.optionNumber (absR r).status = shownOf r := by
  unfold shownOf absR
  cases r.status <;> rfl
theorem ans_nat (v : Nat) (m : List Nat) : (Kp424.natResult v m).num :: (Kp424.natResult v m).nums = ints_ (v :: m) := rfl
section
variable {α : Type} {p q : Nat} {x y : α}
theorem ifA (h : p < q) : (if decide (p < q) = false then x else y) = y := if_neg (by rw [decide_eq_false_iff_not]; exact fun z => z h)
theorem ifA' (h : ¬ p < q) : (if decide (p < q) = false then x else y) = x := if_pos (decide_eq_false h)
theorem ifB (h : p < q) : (if q ≤ p then x else y) = y := if_neg (by omega)
theorem ifB' (h : ¬ p < q) : (if q ≤ p then x else y) = x := if_pos (by omega)
theorem ifC (h : p < q) : (if decide (p < q) = true then x else y) = x := if_pos (decide_eq_true h)
theorem ifC' (h : ¬ p < q) : (if decide (p < q) = true then x else y) = y := if_neg (by rw [decide_eq_true_eq]; exact h)
end
/-! one by one -/
theorem sp_addMethod (I : Inv k s) {a b : Nat} {r : List Nat} : out (Kp424.step (some (absS s)) (.addMethod a b r)) = (some (absS (opAddMethod s (a :: b :: r)).1), (opAddMethod s (a :: b :: r)).2) := by
  have mc := I.b.mc
  unfold Kp424.step opAddMethod
  dsimp only
  rw [nm_abs]
  show out _ = _
  have e0 : (a :: b :: r).drop 2 = r := rfl
  have e1 : (a :: b :: r).getD 0 0 = a := rfl
  have e2 : (a :: b :: r).getD 1 0 = b := rfl
  rw [e0, e1, e2]
  by_cases hodd : r.length % 2 = 1
  · rw [parse_odd mc r hodd]
    have hp : isProg r s.methods.length = false := by
      unfold isProg
      rw [if_pos (by rw [Bool.or_eq_true, beq_iff_eq]; exact .inl hodd)]
    rw [if_pos (by rw [hp]; rfl)]
    rfl
  · have hev : r.length % 2 = 0 := by omega
    rw [abs_parse mc r hev]
    cases ha : allInstr s.methods.length r with
    | false =>
      rw [if_neg (by decide)]
      have hp : isProg r s.methods.length = false := by
        unfold isProg
        split
        · rfl
        · exact ha
      rw [if_pos (by rw [hp]; rfl)]
      rfl
    | true =>
      rw [if_pos rfl]
      dsimp only
      rw [instrs_len r hev]
      by_cases h16 : r.length ≤ 16
      · have hp : isProg r s.methods.length = true := by
          unfold isProg
          rw [if_neg (by rw [Bool.or_eq_true, beq_iff_eq, decide_eq_true_eq]; omega)]
          exact ha
        rw [hp]
        by_cases hc : a ≤ 100 ∧ b ≤ 15
        · rw [if_neg (show ¬ (decide (a ≤ 100) && decide (b ≤ 15) && decide (r.length / 2 ≤ 8)) = false by
            simp only [Bool.and_eq_false_iff, decide_eq_false_iff_not]
            omega), if_neg (show ¬ (!true || (decide (100 < a) || decide (15 < b))) = true by
            simp only [Bool.not_true, Bool.false_or, Bool.or_eq_true, decide_eq_true_eq]
            omega)]
          by_cases h6 : s.methods.length = 6
          · rw [if_pos (show 6 ≤ s.methods.length by omega), if_pos h6]
            rfl
          · rw [if_neg (show ¬ 6 ≤ s.methods.length by omega), if_neg h6]
            have q := abs_addM I.a.hok (m := newMeth (a :: b :: r))
            refine Prod.ext ?_ rfl
            show some _ = some (absS (addM s (newMeth (a :: b :: r))))
            rw [q]
            rfl
        · rw [if_pos (show (decide (a ≤ 100) && decide (b ≤ 15) && decide (r.length / 2 ≤ 8)) = false by
            simp only [Bool.and_eq_false_iff, decide_eq_false_iff_not]
            omega), if_pos (show (!true || (decide (100 < a) || decide (15 < b))) = true by
            simp only [Bool.not_true, Bool.false_or, Bool.or_eq_true, decide_eq_true_eq]
            omega)]
          rfl
      · have hp : isProg r s.methods.length = false := by
          unfold isProg
          rw [if_pos (by rw [Bool.or_eq_true, decide_eq_true_eq]; exact .inr (by omega))]
        rw [if_pos (show (decide (a ≤ 100) && decide (b ≤ 15) && decide (r.length / 2 ≤ 8)) = false by
            simp only [Bool.and_eq_false_iff, decide_eq_false_iff_not]
            omega), if_pos (show (!isProg r s.methods.length || (decide (100 < a) || decide (15 < b))) = true by rw [hp]; rfl)]
        rfl
theorem sp_addClient (I : Inv k s) {a b c d : Nat} : out (Kp424.step (some (absS s)) (.addClient a b c d)) = (some (absS (opAddClient s [a, b, c, d]).1), (opAddClient s [a, b, c, d]).2) := by
  have cc := I.b.cc
  unfold Kp424.step opAddClient
  dsimp only
  rw [nc_abs]
  have e0 : [a, b, c, d].getD 0 0 = a := rfl
  have e1 : [a, b, c, d].getD 1 0 = b := rfl
  have e2 : [a, b, c, d].getD 2 0 = c := rfl
  have e3 : [a, b, c, d].getD 3 0 = d := rfl
  rw [e0, e1, e2, e3]
  by_cases h : a ≤ 65535 ∧ b ≤ 15 ∧ c ≤ 1000 ∧ d ≤ 1000
  · rw [if_neg (show ¬ (decide (a ≤ 65535) && decide (b ≤ 15) && decide (c ≤ 1000) && decide (d ≤ 1000)) = false by
      simp only [Bool.and_eq_false_iff, decide_eq_false_iff_not]
      omega), if_neg (show ¬ (decide (65535 < a) || (decide (15 < b) || (decide (1000 < c) || decide (1000 < d)))) = true by
      simp only [Bool.or_eq_true, decide_eq_true_eq]
      omega)]
    by_cases h8 : s.clients.length = 8
    · rw [if_pos (show 8 ≤ s.clients.length by omega), if_pos h8]
      rfl
    · rw [if_neg (show ¬ 8 ≤ s.clients.length by omega), if_neg h8]
      refine Prod.ext ?_ rfl
      show some _ = some _
      congr 1
      unfold absS abs
      dsimp only
      rw [List.map_append]
      rfl
  · rw [if_pos (show (decide (a ≤ 65535) && decide (b ≤ 15) && decide (c ≤ 1000) && decide (d ≤ 1000)) = false by
      simp only [Bool.and_eq_false_iff, decide_eq_false_iff_not]
      omega), if_pos (show (decide (65535 < a) || (decide (15 < b) || (decide (1000 < c) || decide (1000 < d)))) = true by
      simp only [Bool.or_eq_true, decide_eq_true_eq]
      omega)]
    rfl
/-- the errors of a request -/
theorem valid_iff {d : Nat} {p : List Nat} : Kp424.validRequest d p = true ↔ (1 ≤ d ∧ d ≤ 100000) ∧ p.length ≤ 8 ∧ ∀ x ∈ p, x ≤ 1000 := by
  unfold Kp424.validRequest Kp424.inRange
  rw [Bool.and_eq_true, Bool.and_eq_true, Bool.and_eq_true, decide_eq_true_eq, decide_eq_true_eq, decide_eq_true_eq, List.all_eq_true]
  simp only [decide_eq_true_eq, and_assoc]
theorem max_iff {p : List Nat} : (1000 < p.foldl max 0) ↔ ¬ ∀ x ∈ p, x ≤ 1000 := by
  constructor
  · intro h g
    rcases Kc.foldl_max_mem (l := p) (a := 0) with z | z
    · omega
    · have := g _ z
      omega
  · intro h
    by_cases z : 1000 < p.foldl max 0
    · exact z
    · exact absurd (Kc.foldl_max_pay z) h
theorem err_spec (I : Inv k s) {c t m d key : Nat} {p : List Nat} {α : Type} (A B C : α) (D : α) :
    (if Kp424.isClient (absS s) c = false then A else if Kp424.validRequest d p = false then B else if Kp424.maxRequests ≤ (absS s).requests.length then C else D) = (match reqError s ⟨c, t, m, d, key, p⟩ with
      | some e => if e = -2 then A else if e = -22 then B else C
      | none => D) := by
  have rc := I.b.rc
  unfold reqError
  rw [isC, nr_abs]
  dsimp only
  by_cases h1 : c < s.clients.length
  · rw [ifA h1, ifB h1]
    by_cases h2 : 1 ≤ d ∧ d ≤ 100000
    · rw [if_neg (show ¬ (decide (d < 1) || decide (100000 < d)) = true by rw [Bool.or_eq_true, decide_eq_true_eq, decide_eq_true_eq]; omega)]
      by_cases h3 : p.length ≤ 8 ∧ ∀ x ∈ p, x ≤ 1000
      · rw [if_neg (show ¬ Kp424.validRequest d p = false by rw [valid_iff.mpr ⟨h2, h3⟩]; decide), if_neg (show ¬ (decide (8 < p.length) || decide (1000 < p.foldl max 0)) = true by
          rw [Bool.or_eq_true, decide_eq_true_eq, decide_eq_true_eq, max_iff]
          exact fun z => z.elim (fun y => by omega) fun y => y h3.2)]
        by_cases h4 : s.requests.length = 60
        · rw [if_pos (show Kp424.maxRequests ≤ s.requests.length by rw [h4]; exact Nat.le_refl _), if_pos h4]
          rfl
        · rw [if_neg (show ¬ Kp424.maxRequests ≤ s.requests.length from fun z => h4 (Nat.le_antisymm rc z)), if_neg h4]
      · have hv : Kp424.validRequest d p = false := by
          cases q : Kp424.validRequest d p with
          | false => rfl
          | true => exact absurd (valid_iff.mp q).2 h3
        rw [if_pos hv, if_pos (show (decide (8 < p.length) || decide (1000 < p.foldl max 0)) = true by
          rw [Bool.or_eq_true, decide_eq_true_eq, decide_eq_true_eq, max_iff]
          by_cases y : p.length ≤ 8
          · exact .inr fun z => h3 ⟨y, z⟩
          · exact .inl (by omega))]
        rfl
    · have hv : Kp424.validRequest d p = false := by
        cases q : Kp424.validRequest d p with
        | false => rfl
        | true => exact absurd (valid_iff.mp q).1 h2
      rw [if_pos hv, if_pos (show (decide (d < 1) || decide (100000 < d)) = true by rw [Bool.or_eq_true, decide_eq_true_eq, decide_eq_true_eq]; omega)]
      rfl
  · rw [ifA' h1, ifB' h1]
    rfl
theorem err_codes {a : AskV} {e : Int} (h : reqError s a = some e) : e = -2 ∨ e = -22 ∨ e = -28 := by
  unfold reqError at h
  split at h
  · exact .inl (Option.some.inj h).symm
  · split at h
    · exact .inr (.inl (Option.some.inj h).symm)
    · split at h
      · exact .inr (.inl (Option.some.inj h).symm)
      · split at h
        · exact .inr (.inr (Option.some.inj h).symm)
        · cases h
theorem sp_request (I : Inv k s) (hk : k ≤ 3000000000) {c t m d key : Nat} {p : List Nat} : out (Kp424.step (some (absS s)) (.request c t m d key p)) = (some (absS (opRequest s (c :: t :: m :: d :: key :: p)).1), (opRequest s (c :: t :: m :: d :: key :: p)).2) := by
  unfold Kp424.step opRequest
  dsimp only
  have ea : Kc.askOf (c :: t :: m :: d :: key :: p) = ⟨c, t, m, d, key, p⟩ := rfl
  rw [ea, err_spec I (t := t) (m := m) (key := key)]
  cases he : reqError s ⟨c, t, m, d, key, p⟩ with
  | some e =>
    dsimp only
    rcases err_codes he with z | z | z <;> (rw [z]; rfl)
  | none =>
    dsimp only
    obtain ⟨c1, c2, c3, c4, c5, c6⟩ := Kc.err_none he
    have rc := I.b.rc
    have q := abs_arr (a := ⟨c, t, m, d, key, p⟩) I hk (by omega) c3
    dsimp only at q
    rw [q, nr_abs, abs_req, shown_num]
    rfl
theorem sp_preview (I : Inv k s) (hk : k ≤ 3000000000) {c t m d key : Nat} {p : List Nat} : out (Kp424.step (some (absS s)) (.previewRequest c t m d key p)) = (some (absS (opPreview s (c :: t :: m :: d :: key :: p)).1), (opPreview s (c :: t :: m :: d :: key :: p)).2) := by
  unfold Kp424.step opPreview
  dsimp only
  have ea : Kc.askOf (c :: t :: m :: d :: key :: p) = ⟨c, t, m, d, key, p⟩ := rfl
  rw [ea, err_spec I (t := t) (m := m) (key := key)]
  cases he : reqError s ⟨c, t, m, d, key, p⟩ with
  | some e =>
    dsimp only
    rcases err_codes he with z | z | z <;> (rw [z]; rfl)
  | none =>
    dsimp only
    obtain ⟨c1, c2, c3, c4, c5, c6⟩ := Kc.err_none he
    have rc := I.b.rc
    have q := abs_arr (a := ⟨c, t, m, d, key, p⟩) I hk (by omega) c3
    dsimp only at q
    rw [q]
    have e2 : Kp424.lastStatus (absS (arr s ⟨c, t, m, d, key, p⟩)) = shownOf (reqAt (arr s ⟨c, t, m, d, key, p⟩) s.requests.length) := by
      unfold Kp424.lastStatus
      have e3 : (absS (arr s ⟨c, t, m, d, key, p⟩)).requests.getLast? = some (absR (reqAt (arr s ⟨c, t, m, d, key, p⟩) s.requests.length)) := by
        show ((arr s ⟨c, t, m, d, key, p⟩).requests.map absR).getLast? = _
        rw [List.getLast?_eq_getElem?, List.length_map, arr_len I, Nat.add_sub_cancel, List.getElem?_map, req_some (by rw [arr_len I]; exact Nat.lt_succ_self _)]
        rfl
      rw [e3]
      exact shown_num _
    rw [e2]
    rfl
theorem sp_cancel (I : Inv k s) (hk : k ≤ 3000000000) {a : Nat} : out (Kp424.step (some (absS s)) (.cancel a)) = (some (absS (opCancel s [a]).1), (opCancel s [a]).2) := by
  unfold Kp424.step opCancel
  dsimp only
  have e0 : [a].getD 0 0 = a := rfl
  rw [e0, isR, abs_req]
  by_cases h : a < s.requests.length
  · rw [ifA h, ifB h]
    cases hs : (reqAt s a).status with
    | some v =>
      rw [if_neg (show ¬ Kp424.isOpen (absR (reqAt s a)) = true by simp [Kp424.isOpen, absR, hs]), if_pos (show (some v : Option Nat) ≠ none from fun z => by cases z)]
      rfl
    | none =>
      rw [if_pos (show Kp424.isOpen (absR (reqAt s a)) = true by simp [Kp424.isOpen, absR, hs]), if_neg (show ¬ (none : Option Nat) ≠ none from fun z => z rfl)]
      obtain ⟨j, h1, h2, h3⟩ := I.a.req.op a h hs
      rw [h1]
      have q := abs_leave (g := s.graceEnd) (en := s.graceOver) (st := 1) I.a.hok I.a.wait (I.dl (by omega)) I.b.dis h h1 h2 h3
      refine Prod.ext ?_ rfl
      show some _ = some (absS (leave s a 1 j))
      rw [absS_of stay_leave]
      exact congrArg some q
  · rw [ifA' h, ifB' h]
    rfl
theorem sp_advance (I : Inv k s) (hk : k ≤ 3000000000) {a : Nat} : out (Kp424.step (some (absS s)) (.advance a)) = (some (absS (opAdvance s [a]).1), (opAdvance s [a]).2) := by
  unfold Kp424.step opAdvance
  dsimp only
  have e0 : [a].getD 0 0 = a := rfl
  rw [e0]
  by_cases h : 1000000 < a
  · rw [if_pos h, if_pos h]
    rfl
  · rw [if_neg h, if_neg h]
    have hn := I.now
    have J : Inv (s.now + a) s := ⟨I.a, I.b, I.st3, I.full, by omega⟩
    have q := abs_until (m := s.now + a) (by omega) (phi2 s) 10000 s 0 J (Nat.le_refl _) (by have := phi2_le I; omega)
    have e1 : (absS s).now = s.now := rfl
    rw [e1, q]
    rfl
theorem sp_nextEvent : out (Kp424.step (some (absS s)) .nextEvent) = (some (absS (opNextEvent s l).1), (opNextEvent s l).2) := by
  unfold Kp424.step opNextEvent
  dsimp only
  rw [abs_nextEv]
  cases nextEv s <;> rfl
theorem sp_run (I : Inv k s) (hk : k ≤ 2000000000) {a : Nat} : out (Kp424.step (some (absS s)) (.run a)) = (some (absS (opRun s [a]).1), (opRun s [a]).2) := by
  unfold Kp424.step opRun
  dsimp only
  have e0 : [a].getD 0 0 = a := rfl
  rw [e0]
  by_cases h : 40 < a
  · rw [if_pos h, if_pos h]
    rfl
  · rw [if_neg h, if_neg h]
    have : a * 100000 ≤ 40 * 100000 := Nat.mul_le_mul_right _ (by omega)
    rw [abs_run a I (by omega)]
    rfl
theorem sp_requestInfo (I : Inv k s) {a : Nat} : out (Kp424.step (some (absS s)) (.requestInfo a)) = (some (absS (opRequestInfo s [a]).1), (opRequestInfo s [a]).2) := by
  unfold Kp424.step opRequestInfo
  dsimp only
  have e0 : [a].getD 0 0 = a := rfl
  rw [e0, isR, abs_req]
  by_cases h : a < s.requests.length
  · rw [ifC h, ifB h, shown_num, opt_num]
    have j := I.a.req.jo a h
    refine Prod.ext rfl ?_
    have e1 : (if (absR (reqAt s a)).joined = true then 1 else 0) = (reqAt s a).joined := by
      show (if ((reqAt s a).joined == 1) = true then 1 else 0) = _
      rcases Nat.le_one_iff_eq_zero_or_eq_one.mp j with z | z <;> rw [z] <;> rfl
    rw [e1]
    rfl
  · rw [ifC' h, ifB' h]
    rfl
theorem sp_response {a : Nat} : out (Kp424.step (some (absS s)) (.response a)) = (some (absS (opResponse s [a]).1), (opResponse s [a]).2) := by
  unfold Kp424.step opResponse
  dsimp only
  have e0 : [a].getD 0 0 = a := rfl
  rw [e0, isR, abs_req]
  by_cases h : a < s.requests.length
  · rw [ifA h, ifB h]
    by_cases hs : (reqAt s a).status = some 0
    · rw [if_pos (show (absR (reqAt s a)).status = some Kp424.statusOk from hs), if_pos hs, abs_exe]
      rfl
    · rw [if_neg (show ¬ (absR (reqAt s a)).status = some Kp424.statusOk from hs), if_neg hs]
      rfl
  · rw [ifA' h, ifB' h]
    rfl
theorem stVal_eq (e : Exe) : stateVal e = stVal e := rfl
theorem sp_executionInfo (I : Inv k s) {a : Nat} : out (Kp424.step (some (absS s)) (.executionInfo a)) = (some (absS (opExecutionInfo s [a]).1), (opExecutionInfo s [a]).2) := by
  unfold Kp424.step opExecutionInfo
  dsimp only
  have e0 : [a].getD 0 0 = a := rfl
  rw [e0, ne_abs, abs_exe]
  by_cases h : a < s.executions.length
  · rw [if_pos h, ifB h, abs_progress (I.st3 a), abs_waiting]
    rfl
  · rw [if_neg h, ifB' h]
    rfl
theorem sp_listQueue (I : Inv k s) (hk : k ≤ 3000000000) : out (Kp424.step (some (absS s)) .listQueue) = (some (absS (opListQueue s l).1), (opListQueue s l).2) := by
  unfold Kp424.step opListQueue
  dsimp only
  rw [ne_abs, abs_order _ s I.a.wait (I.dl (by omega)) I.b.dis (by
    have : (inState s 0).length ≤ s.executions.length := Nat.le_trans (List.length_filter_le _ _) (by rw [List.length_range]; exact Nat.le_refl _)
    omega)]
  rfl
theorem sp_listRunning : out (Kp424.step (some (absS s)) .listRunning) = (some (absS (opListRunning s l).1), (opListRunning s l).2) := by
  unfold Kp424.step opListRunning
  dsimp only
  rw [abs_runs]
  rfl
theorem sp_registers (I : Inv k s) : out (Kp424.step (some (absS s)) .registers) = (some (absS (opRegisters s l).1), (opRegisters s l).2) := by
  unfold Kp424.step opRegisters Kp424.listResult
  dsimp only
  have e : (absS s).registers.length = 4 := I.a.hok.regs
  rw [e]
  rfl
theorem sp_quota {a : Nat} : out (Kp424.step (some (absS s)) (.quota a)) = (some (absS (opQuota s [a]).1), (opQuota s [a]).2) := by
  unfold Kp424.step opQuota
  dsimp only
  have e0 : [a].getD 0 0 = a := rfl
  rw [e0, isC, abs_cli]
  by_cases h : a < s.clients.length
  · rw [ifC h, ifB h]
    rfl
  · rw [ifC' h, ifB' h]
    rfl
theorem sp_findKey (I : Inv k s) {a b : Nat} : out (Kp424.step (some (absS s)) (.findKey a b)) = (some (absS (opFindKey s [a, b]).1), (opFindKey s [a, b]).2) := by
  unfold Kp424.step opFindKey
  dsimp only
  have e0 : [a, b].getD 0 0 = a := rfl
  have e1 : [a, b].getD 1 0 = b := rfl
  rw [e0, e1, isC, abs_shared I.st3]
  by_cases h : a < s.clients.length
  · rw [ifA h, ifB h]
    cases sharedExe s a b with
    | none => rfl
    | some j =>
      dsimp only
      rw [abs_exe, abs_progress (I.st3 j)]
      rfl
  · rw [ifA' h, ifB' h]
    rfl
theorem sp_shutdown (I : Inv k s) {a : Nat} : out (Kp424.step (some (absS s)) (.shutdown a)) = (some (absS (opShutdown s [a]).1), (opShutdown s [a]).2) := by
  unfold Kp424.step opShutdown
  dsimp only
  have e0 : [a].getD 0 0 = a := rfl
  rw [e0]
  by_cases h : 100000 < a
  · rw [if_pos h, if_pos h]
    rfl
  · rw [if_neg h, if_neg h]
    cases hg : s.graceEnd with
    | some u =>
      rw [if_pos (show (absS s).graceEnd.isSome = true by show s.graceEnd.isSome = true; rw [hg]; rfl), if_pos (show (!((some u : Option Nat) == none)) = true from rfl)]
      rfl
    | none =>
      rw [if_neg (show ¬ (absS s).graceEnd.isSome = true by show ¬ s.graceEnd.isSome = true; rw [hg]; decide), if_neg (show ¬ (!((none : Option Nat) == none)) = true by decide), abs_runs, abs_queue]
      have e1 : ({ absS s with graceEnd := some ((absS s).now + a) } : Server) = absS { s with graceEnd := some (s.now + a) } := rfl
      rw [e1]
      by_cases z : a = 0
      · rw [if_pos z, if_pos z, abs_grace (inv_shut I (by omega)).st3]
        rfl
      · rw [if_neg z, if_neg z]
        rfl
theorem sp_setLimit (I : Inv k s) (hk : k ≤ 3000000000) {a : Nat} : out (Kp424.step (some (absS s)) (.setLimit a)) = (some (absS (opSetLimit s [a]).1), (opSetLimit s [a]).2) := by
  unfold Kp424.step opSetLimit
  dsimp only
  have e0 : [a].getD 0 0 = a := rfl
  rw [e0]
  have e1 : Kp424.inRange 1 8 a = isLimit a := rfl
  rw [e1]
  cases h : isLimit a with
  | false => rfl
  | true =>
    rw [if_neg (by decide), if_neg (by decide)]
    have q := abs_settleS (s := { s with limit := a }) (aok_of I.a rfl rfl rfl rfl rfl) (I.dl (by omega)) I.b.dis
    refine Prod.ext ?_ rfl
    exact congrArg some q
theorem sp_setRoles {a b : Nat} : out (Kp424.step (some (absS s)) (.setRoles a b)) = (some (absS (opSetRoles s [a, b]).1), (opSetRoles s [a, b]).2) := by
  unfold Kp424.step opSetRoles
  dsimp only
  have e0 : [a, b].getD 0 0 = a := rfl
  have e1 : [a, b].getD 1 0 = b := rfl
  rw [e0, e1, isC, abs_cli]
  by_cases h : a < s.clients.length
  · rw [ifA h, ifB h]
    by_cases h2 : 15 < b
    · rw [if_pos h2, if_pos h2]
      rfl
    · rw [if_neg h2, if_neg h2]
      refine Prod.ext ?_ rfl
      show some _ = some _
      congr 1
      unfold absS abs setC
      dsimp only
      rw [List.map_set]
      rfl
  · rw [ifA' h, ifB' h]
    rfl
theorem sp_estimate : out (Kp424.step (some (absS s)) .estimate) = (some (absS (opEstimate s l).1), (opEstimate s l).2) := by
  unfold Kp424.step opEstimate
  dsimp only
  rw [abs_wait]
  rfl
theorem sum_joined : ∀ {q : List Req}, (∀ r ∈ q, r.joined ≤ 1) → (q.map fun r => r.joined).sum = q.countP fun r => r.joined == 1
  | [], _ => rfl
  | r :: q, h => by
    have a := sum_joined (q := q) fun x hx => h x (List.mem_cons_of_mem _ hx)
    have b := h r List.mem_cons_self
    rw [List.map_cons, List.sum_cons, List.countP_cons, a]
    rcases Nat.le_one_iff_eq_zero_or_eq_one.mp b with z | z
    · rw [z]
      simp
    · rw [z]
      simp
      omega
theorem sp_statistics (I : Inv k s) : out (Kp424.step (some (absS s)) .statistics) = (some (absS (opStatistics s l).1), (opStatistics s l).2) := by
  unfold Kp424.step opStatistics
  dsimp only
  have c1 : ∀ o : Option Nat, ((absS s).requests.countP fun r => r.status == o) = cntSt s o := fun o => by
    show ((s.requests.map absR).countP _) = _
    rw [List.countP_map]
    rfl
  have c2 : (absS s).requests.countP Kp424.isOpen = cntSt s none := by
    show ((s.requests.map absR).countP _) = _
    rw [List.countP_map]
    unfold cntSt
    refine List.countP_congr fun r _ => ?_
    show Kp424.isOpen (absR r) = true ↔ (r.status == none) = true
    unfold Kp424.isOpen absR
    cases r.status <;> simp
  have c3 : (absS s).requests.countP Request.joined = (s.requests.map fun r => r.joined).sum := by
    rw [sum_joined fun r hr => by
      obtain ⟨j, hj⟩ := List.mem_iff_getElem?.mp hr
      have := I.a.req.jo j (List.getElem?_eq_some_iff.mp hj).1
      rw [reqAt_of hj] at this
      exact this]
    show ((s.requests.map absR).countP _) = _
    rw [List.countP_map]
    rfl
  rw [nr_abs, ne_abs, c2, c3, c1 (some 0), c1 (some Kp424.statusRefused), c1 (some Kp424.statusDeadline)]
  rfl
theorem sp_status : out (Kp424.step (some (absS s)) .status) = (some (absS (opStatus s l).1), (opStatus s l).2) := by
  unfold Kp424.step opStatus
  dsimp only
  rw [abs_runs, abs_queue, nm_abs, nc_abs]
  have e : (if (absS s).graceEnd.isSome = true then 1 else 0) = if s.graceEnd = none then 0 else 1 := by
    show (if s.graceEnd.isSome = true then 1 else 0) = _
    cases s.graceEnd <;> rfl
  rw [e]
  rfl
end
end KM
/-! the calls handed in: one list, told as parts -/
namespace KM
def enc (c : Nat × List Nat) : List Nat := c.1 :: c.2.length :: (c.2 ++ [0])
def castL (l : List Nat) : List Int := l.map fun (n : Nat) => (n : Int)
theorem toNat_cast : ∀ {l : List Int}, (∀ x ∈ l, 0 ≤ x) → castL (l.map Int.toNat) = l
  | [], _ => rfl
  | x :: l, h => by
    show ((x.toNat : Int)) :: castL (l.map Int.toNat) = _
    rw [toNat_cast fun y hy => h y (List.mem_cons_of_mem _ hy), Int.toNat_of_nonneg (h x List.mem_cons_self)]
/-- what is asked of a call lets it have no rows -/
theorem asked_row {p : Int} {ns : List Int} {xs : List (List Int)} (h : Kp424Neutral.asked1 ((p :: ns) :: xs) = true) : xs = [] := by
  cases xs with
  | nil => rfl
  | cons x r =>
    exfalso
    unfold Kp424Neutral.asked1 at h
    split at h <;> simp_all
theorem rows_nil {k : Nat} {t u : List Int} (h : PyFlat.rows k t = some ([], u)) : k = 0 ∧ u = t := by
  cases k with
  | zero =>
    unfold PyFlat.rows at h
    simp at h
    exact ⟨rfl, h.symm⟩
  | succ k =>
    exfalso
    unfold PyFlat.rows at h
    split at h
    · cases h
    · split at h
      · cases h
      · simp at h
theorem call_enc {p : Int} {r : List Int} {c : List (List Int)} {t : List Int} (h : PyWide.call (p :: r) = some (c, t)) (ha : Kp424Neutral.asked1 c = true) (hn : ∀ x ∈ p :: r, 0 ≤ x) :
    ∃ ns : List Int, c = [p :: ns] ∧ r = (ns.length : Int) :: (ns ++ 0 :: t) := by
  simp only [PyWide.call] at h
  split at h
  · cases h
  · cases h
  · rename_i ns k t' hrow
    split at h
    · rename_i hk
      split at h
      · cases h
      · rename_i xs u hrows
        cases h
        have hx := asked_row ha
        subst hx
        obtain ⟨k0, rfl⟩ := rows_nil hrows
        have k1 : k = 0 := by omega
        subst k1
        refine ⟨ns, rfl, ?_⟩
        unfold PyFlat.row at hrow
        split at hrow
        · cases hrow
        · rename_i n r'
          split at hrow
          · rename_i hc
            simp only [Option.some.injEq, Prod.mk.injEq] at hrow
            obtain ⟨h1, h2⟩ := hrow
            have hl : (ns.length : Int) = n := by
              rw [← h1, List.length_take, Nat.min_eq_left hc.2]
              omega
            rw [hl, ← h2, ← h1, List.take_append_drop]
          · cases hrow
    · cases h
theorem calls_enc : ∀ (f : Nat) (xs : List Int) (cs : List (List (List Int))), PyWide.calls f xs = some cs → cs.all Kp424Neutral.asked1 = true → (∀ x ∈ xs, 0 ≤ x) →
    ∃ parts : List (Nat × List Nat), xs = castL (parts.flatMap enc) ∧ cs = parts.map fun c => [(c.1 : Int) :: castL c.2]
  | _, [], cs, h, _, _ => by
    unfold PyWide.calls at h
    cases h
    exact ⟨[], rfl, rfl⟩
  | 0, x :: xs, cs, h, _, _ => by
    unfold PyWide.calls at h
    cases h
  | f + 1, p :: r, cs, h, ha, hn => by
    unfold PyWide.calls at h
    split at h
    · cases h
    · rename_i c t hc
      split at h
      · cases h
      · rename_i cs' hcs
        cases h
        rw [List.all_cons, Bool.and_eq_true] at ha
        obtain ⟨ns, e1, e2⟩ := call_enc hc ha.1 hn
        have hnr : ∀ x ∈ r, 0 ≤ x := fun x hx => hn x (List.mem_cons_of_mem _ hx)
        have hns : ∀ x ∈ ns, 0 ≤ x := fun x hx => hnr x (by rw [e2]; simp [hx])
        have ht : ∀ x ∈ t, 0 ≤ x := fun x hx => hnr x (by rw [e2]; simp [hx])
        obtain ⟨parts, e3, e4⟩ := calls_enc f t cs' hcs ha.2 ht
        have hp := hn p List.mem_cons_self
        refine ⟨(p.toNat, ns.map Int.toNat) :: parts, ?_, ?_⟩
        · rw [List.flatMap_cons]
          unfold castL
          rw [List.map_append]
          have e5 : List.map (fun (n : Nat) => (n : Int)) (enc (p.toNat, ns.map Int.toNat)) = p :: (ns.length : Int) :: (ns ++ [0]) := by
            show ((p.toNat : Int)) :: (((ns.map Int.toNat).length : Int)) :: List.map (fun (n : Nat) => (n : Int)) (ns.map Int.toNat ++ [0]) = _
            rw [List.map_append, Int.toNat_of_nonneg hp, List.length_map]
            have := toNat_cast hns
            unfold castL at this
            rw [this]
            rfl
          rw [e5, e2]
          have e3' : List.map (fun (n : Nat) => (n : Int)) (parts.flatMap enc) = t := e3.symm
          rw [e3']
          simp
        · rw [List.map_cons, e1, e4]
          show _ = [((p.toNat : Int)) :: castL (ns.map Int.toNat)] :: _
          rw [toNat_cast hns, Int.toNat_of_nonneg hp]
end KM
/-! the calls one behind another -/
namespace KM
open Kp424 (Server Execution Request Method Customer Progress Settings Event Call State Ans)
/-- how many numbers a call may have -/
def lenOk (n m : Nat) : Prop := match n with
  | 0 => m = 5
  | 1 => 2 ≤ m ∧ m ≤ 18
  | 2 => m = 4
  | 3 => 5 ≤ m ∧ m ≤ 21
  | 4 => m = 1
  | 5 => m = 1
  | 6 => m = 0
  | 7 => m = 1
  | 8 => m = 1
  | 9 => m = 1
  | 10 => m = 1
  | 11 => m = 0
  | 12 => m = 0
  | 13 => m = 0
  | 14 => m = 1
  | 15 => m = 2
  | 16 => m = 1
  | 17 => m = 1
  | 18 => m = 2
  | 19 => m = 0
  | 20 => 5 ≤ m ∧ m ≤ 21
  | 21 => m = 0
  | 22 => m = 0
  | _ => False
theorem castL_len (l : List Nat) : (castL l).length = l.length := List.length_map ..
theorem asked_len {n : Nat} {l : List Nat} (h : Kp424Neutral.asked1 [(n : Int) :: castL l] = true) : lenOk n l.length := by
  unfold Kp424Neutral.asked1 at h
  split at h
  all_goals first
    | (cases h; done)
    | (rename_i heq
       simp only [List.cons.injEq, and_true] at heq
       obtain ⟨hn, hl⟩ := heq
       have hlen := congrArg List.length hl
       rw [castL_len] at hlen
       simp only [List.length_cons, List.length_nil] at hlen
       have e := congrArg Int.toNat hn
       rw [Int.toNat_natCast] at e
       subst e
       first
         | exact hlen
         | (simp only [Bool.and_eq_true, decide_eq_true_eq] at h
            refine ⟨?_, ?_⟩ <;> omega))
theorem len_22 {n m : Nat} (h : lenOk n m) : n ≤ 22 := by
  by_cases z : n ≤ 22
  · exact z
  · exfalso
    obtain ⟨q, rfl⟩ : ∃ q, n = q + 23 := ⟨n - 23, by omega⟩
    exact h
theorem shape_of {n : Nat} {l : List Nat} (h : lenOk n l.length) (h1 : 1 ≤ n) : shapeOk n l := by
  have h2 := len_22 h
  match n, h1, h2, h with
  | 1, _, _, h => exact ⟨h.1, by have := h.2; omega⟩
  | 2, _, _, h => exact h
  | 3, _, _, h => exact h.1
  | 4, _, _, h => exact (by have : l.length = 1 := h; omega : 0 < l.length)
  | 5, _, _, h => exact (by have : l.length = 1 := h; omega : 0 < l.length)
  | 6, _, _, h => trivial
  | 7, _, _, h => exact (by have : l.length = 1 := h; omega : 0 < l.length)
  | 8, _, _, h => exact (by have : l.length = 1 := h; omega : 0 < l.length)
  | 9, _, _, h => exact (by have : l.length = 1 := h; omega : 0 < l.length)
  | 10, _, _, h => exact (by have : l.length = 1 := h; omega : 0 < l.length)
  | 11, _, _, h => trivial
  | 12, _, _, h => trivial
  | 13, _, _, h => trivial
  | 14, _, _, h => exact (by have : l.length = 1 := h; omega : 0 < l.length)
  | 15, _, _, h => exact h
  | 16, _, _, h => exact (by have : l.length = 1 := h; omega : 0 < l.length)
  | 17, _, _, h => exact (by have : l.length = 1 := h; omega : 0 < l.length)
  | 18, _, _, h => exact h
  | 19, _, _, h => trivial
  | 20, _, _, h => exact h.1
  | 21, _, _, h => trivial
  | 22, _, _, h => trivial
  | n + 23, _, h, _ => exact absurd h (by omega)
/-- a call, on a server or none -/
def playC (st : Option Srv) (c : Nat × List Nat) : Option Srv × List Int :=
  if c.1 = 0 then (if badCreate c.2 = true then (st, [-22]) else (some (Kc.srv0 (c.2.getD 0 0) (c.2.getD 1 0) (c.2.getD 2 0) (c.2.getD 3 0) (c.2.getD 4 0)), [0]))
  else match st with
    | none => (none, [-11])
    | some s => (some (stepS c.1 s c.2).1, (stepS c.1 s c.2).2)
def playA : Option Srv → List (Nat × List Nat) → List Int
  | _, [] => []
  | st, c :: r => ((playC st c).2.length : Int) :: (playC st c).2 ++ playA (playC st c).1 r
def absO : Option Srv → State
  | none => none
  | some s => some (absS s)
section
variable {s : Srv} {k n : Nat} {l : List Nat}
theorem one_of {l : List Nat} (h : l.length = 1) : ∃ a, l = [a] := by
  match l, h with
  | [a], _ => exact ⟨a, rfl⟩
theorem two_of {l : List Nat} (h : l.length = 2) : ∃ a b, l = [a, b] := by
  match l, h with
  | [a, b], _ => exact ⟨a, b, rfl⟩
theorem five_of {l : List Nat} (h : 5 ≤ l.length) : ∃ a b c d e r, l = a :: b :: c :: d :: e :: r := by
  match l, h with
  | a :: b :: c :: d :: e :: r, _ => exact ⟨a, b, c, d, e, r, rfl⟩
theorem cast_back : ∀ l : List Nat, (castL l).map Int.toNat = l
  | [] => rfl
  | a :: l => congrArg (a :: ·) (cast_back l)
/-- how the specification reads a call -/
theorem step_read {st : State} {c : List (List Int)} {x : Call} (h : Kp424Neutral.callOf c = some x) : Kp424Neutral.step st c = out (Kp424.step st x) := by
  unfold Kp424Neutral.step
  rw [h]
  rfl
theorem read_1 {a b : Nat} {r : List Nat} : Kp424Neutral.callOf [((1 : Nat) : Int) :: castL (a :: b :: r)] = some (.addMethod a b r) := by
  show some (Call.addMethod a b ((castL r).map Int.toNat)) = _
  rw [cast_back]
theorem read_3 {a b c d e : Nat} {r : List Nat} : Kp424Neutral.callOf [((3 : Nat) : Int) :: castL (a :: b :: c :: d :: e :: r)] = some (.request a b c d e r) := by
  show some (Call.request a b c d e ((castL r).map Int.toNat)) = _
  rw [cast_back]
theorem read_20 {a b c d e : Nat} {r : List Nat} : Kp424Neutral.callOf [((20 : Nat) : Int) :: castL (a :: b :: c :: d :: e :: r)] = some (.previewRequest a b c d e r) := by
  show some (Call.previewRequest a b c d e ((castL r).map Int.toNat)) = _
  rw [cast_back]
theorem step_some (I : Inv k s) (hk : k ≤ 2000000000) (h : lenOk n l.length) (h1 : 1 ≤ n) : Kp424Neutral.step (some (absS s)) [(n : Int) :: castL l] = (some (absS (stepS n s l).1), (stepS n s l).2) := by
  have h2 := len_22 h
  match n, h1, h2, h with
  | 1, _, _, h =>
    match l, h with
    | a :: b :: r, _ => exact (step_read read_1).trans (sp_addMethod I)
  | 2, _, _, h =>
    match l, h with
    | [a, b, c, d], _ => exact (step_read (x := .addClient a b c d) rfl).trans (sp_addClient I)
  | 3, _, _, h =>
    obtain ⟨a, b, c, d, e, r, rfl⟩ := five_of h.1
    exact (step_read read_3).trans (sp_request I (by omega))
  | 4, _, _, h =>
    obtain ⟨a, rfl⟩ := one_of h
    exact (step_read (x := .cancel a) rfl).trans (sp_cancel I (by omega))
  | 5, _, _, h =>
    obtain ⟨a, rfl⟩ := one_of h
    exact (step_read (x := .advance a) rfl).trans (sp_advance I (by omega))
  | 6, _, _, h =>
    obtain rfl := List.eq_nil_of_length_eq_zero h
    exact (step_read (x := .nextEvent) rfl).trans (sp_nextEvent (l := []))
  | 7, _, _, h =>
    obtain ⟨a, rfl⟩ := one_of h
    exact (step_read (x := .run a) rfl).trans (sp_run I hk)
  | 8, _, _, h =>
    obtain ⟨a, rfl⟩ := one_of h
    exact (step_read (x := .requestInfo a) rfl).trans (sp_requestInfo I)
  | 9, _, _, h =>
    obtain ⟨a, rfl⟩ := one_of h
    exact (step_read (x := .response a) rfl).trans sp_response
  | 10, _, _, h =>
    obtain ⟨a, rfl⟩ := one_of h
    exact (step_read (x := .executionInfo a) rfl).trans (sp_executionInfo I)
  | 11, _, _, h =>
    obtain rfl := List.eq_nil_of_length_eq_zero h
    exact (step_read (x := .listQueue) rfl).trans (sp_listQueue (l := []) I (by omega))
  | 12, _, _, h =>
    obtain rfl := List.eq_nil_of_length_eq_zero h
    exact (step_read (x := .listRunning) rfl).trans (sp_listRunning (l := []))
  | 13, _, _, h =>
    obtain rfl := List.eq_nil_of_length_eq_zero h
    exact (step_read (x := .registers) rfl).trans (sp_registers (l := []) I)
  | 14, _, _, h =>
    obtain ⟨a, rfl⟩ := one_of h
    exact (step_read (x := .quota a) rfl).trans sp_quota
  | 15, _, _, h =>
    obtain ⟨a, b, rfl⟩ := two_of h
    exact (step_read (x := .findKey a b) rfl).trans (sp_findKey I)
  | 16, _, _, h =>
    obtain ⟨a, rfl⟩ := one_of h
    exact (step_read (x := .shutdown a) rfl).trans (sp_shutdown I)
  | 17, _, _, h =>
    obtain ⟨a, rfl⟩ := one_of h
    exact (step_read (x := .setLimit a) rfl).trans (sp_setLimit I (by omega))
  | 18, _, _, h =>
    obtain ⟨a, b, rfl⟩ := two_of h
    exact (step_read (x := .setRoles a b) rfl).trans sp_setRoles
  | 19, _, _, h =>
    obtain rfl := List.eq_nil_of_length_eq_zero h
    exact (step_read (x := .estimate) rfl).trans (sp_estimate (l := []))
  | 20, _, _, h =>
    obtain ⟨a, b, c, d, e, r, rfl⟩ := five_of h.1
    exact (step_read read_20).trans (sp_preview I (by omega))
  | 21, _, _, h =>
    obtain rfl := List.eq_nil_of_length_eq_zero h
    exact (step_read (x := .statistics) rfl).trans (sp_statistics (l := []) I)
  | 22, _, _, h =>
    obtain rfl := List.eq_nil_of_length_eq_zero h
    exact (step_read (x := .status) rfl).trans (sp_status (l := []))
  | n + 23, _, h, _ => exact absurd h (by omega)
end
end KM
/-! the calls one behind another, against the specification -/
namespace KM
open Kp424 (Server Execution Request Method Customer Progress Settings Event Call State Ans)
section
variable {s : Srv} {st : Option Srv} {k n : Nat} {l : List Nat}
theorem step_none (h : lenOk n l.length) (h1 : 1 ≤ n) : Kp424Neutral.step none [(n : Int) :: castL l] = (none, [-11]) := by
  have h2 := len_22 h
  match n, h1, h2, h with
  | 1, _, _, h =>
    match l, h with
    | a :: b :: r, _ => exact (step_read read_1).trans rfl
  | 2, _, _, h =>
    match l, h with
    | [a, b, c, d], _ => exact (step_read (x := .addClient a b c d) rfl).trans rfl
  | 3, _, _, h =>
    obtain ⟨a, b, c, d, e, r, rfl⟩ := five_of h.1
    exact (step_read read_3).trans rfl
  | 4, _, _, h =>
    obtain ⟨a, rfl⟩ := one_of h
    exact (step_read (x := .cancel a) rfl).trans rfl
  | 5, _, _, h =>
    obtain ⟨a, rfl⟩ := one_of h
    exact (step_read (x := .advance a) rfl).trans rfl
  | 6, _, _, h =>
    obtain rfl := List.eq_nil_of_length_eq_zero h
    exact (step_read (x := .nextEvent) rfl).trans rfl
  | 7, _, _, h =>
    obtain ⟨a, rfl⟩ := one_of h
    exact (step_read (x := .run a) rfl).trans rfl
  | 8, _, _, h =>
    obtain ⟨a, rfl⟩ := one_of h
    exact (step_read (x := .requestInfo a) rfl).trans rfl
  | 9, _, _, h =>
    obtain ⟨a, rfl⟩ := one_of h
    exact (step_read (x := .response a) rfl).trans rfl
  | 10, _, _, h =>
    obtain ⟨a, rfl⟩ := one_of h
    exact (step_read (x := .executionInfo a) rfl).trans rfl
  | 11, _, _, h =>
    obtain rfl := List.eq_nil_of_length_eq_zero h
    exact (step_read (x := .listQueue) rfl).trans rfl
  | 12, _, _, h =>
    obtain rfl := List.eq_nil_of_length_eq_zero h
    exact (step_read (x := .listRunning) rfl).trans rfl
  | 13, _, _, h =>
    obtain rfl := List.eq_nil_of_length_eq_zero h
    exact (step_read (x := .registers) rfl).trans rfl
  | 14, _, _, h =>
    obtain ⟨a, rfl⟩ := one_of h
    exact (step_read (x := .quota a) rfl).trans rfl
  | 15, _, _, h =>
    obtain ⟨a, b, rfl⟩ := two_of h
    exact (step_read (x := .findKey a b) rfl).trans rfl
  | 16, _, _, h =>
    obtain ⟨a, rfl⟩ := one_of h
    exact (step_read (x := .shutdown a) rfl).trans rfl
  | 17, _, _, h =>
    obtain ⟨a, rfl⟩ := one_of h
    exact (step_read (x := .setLimit a) rfl).trans rfl
  | 18, _, _, h =>
    obtain ⟨a, b, rfl⟩ := two_of h
    exact (step_read (x := .setRoles a b) rfl).trans rfl
  | 19, _, _, h =>
    obtain rfl := List.eq_nil_of_length_eq_zero h
    exact (step_read (x := .estimate) rfl).trans rfl
  | 20, _, _, h =>
    obtain ⟨a, b, c, d, e, r, rfl⟩ := five_of h.1
    exact (step_read read_20).trans rfl
  | 21, _, _, h =>
    obtain rfl := List.eq_nil_of_length_eq_zero h
    exact (step_read (x := .statistics) rfl).trans rfl
  | 22, _, _, h =>
    obtain rfl := List.eq_nil_of_length_eq_zero h
    exact (step_read (x := .status) rfl).trans rfl
  | n + 23, _, h, _ => exact absurd h (by omega)
theorem bad_iff {a b c d e : Nat} : badCreate [a, b, c, d, e] = true ↔ (Kp424.inRange 1 8 a && decide (b ≤ 16) && decide (c ≤ 2) && decide (d ≤ 1) && decide (e ≤ 100000)) = false := by
  show (!isLimit a || (decide (16 < b) || (decide (2 < c) || (decide (1 < d) || decide (100000 < e))))) = true ↔ _
  have e1 : Kp424.inRange 1 8 a = isLimit a := rfl
  rw [e1]
  cases isLimit a with
  | false => exact Iff.intro (fun _ => rfl) (fun _ => rfl)
  | true =>
    simp only [Bool.not_true, Bool.false_or, Bool.true_and, Bool.or_eq_true, decide_eq_true_eq, Bool.and_eq_false_iff, decide_eq_false_iff_not]
    omega
theorem playC_some (z : n ≠ 0) : playC (some s) (n, l) = (some (stepS n s l).1, (stepS n s l).2) := if_neg z
theorem playC_none (z : n ≠ 0) : playC none (n, l) = (none, [-11]) := if_neg z
theorem step_create (h : l.length = 5) : Kp424Neutral.step (absO st) [((0 : Nat) : Int) :: castL l] = (absO (playC st (0, l)).1, (playC st (0, l)).2) := by
  match l, h with
  | [a, b, c, d, e], _ =>
    refine (step_read (x := .create a b c d e) rfl).trans ?_
    have hp : playC st (0, [a, b, c, d, e]) = if badCreate [a, b, c, d, e] = true then (st, [-22]) else (some (Kc.srv0 a b c d e), [0]) := if_pos rfl
    rw [hp]
    unfold Kp424.step
    dsimp only
    by_cases z : badCreate [a, b, c, d, e] = true
    · rw [if_pos (bad_iff.mp z), if_pos z]
      rfl
    · rw [if_neg (fun w => z (bad_iff.mpr w)), if_neg z]
      rfl
theorem step_play (hI : ∀ s, st = some s → Inv k s) (hk : k ≤ 2000000000) {c : Nat × List Nat} (h : lenOk c.1 c.2.length) : Kp424Neutral.step (absO st) [(c.1 : Int) :: castL c.2] = (absO (playC st c).1, (playC st c).2) := by
  obtain ⟨n, l⟩ := c
  by_cases z : n = 0
  · subst z
    exact step_create h
  · cases st with
    | none =>
      rw [playC_none z]
      exact step_none h (by omega)
    | some s =>
      rw [playC_some z]
      exact step_some (hI s rfl) hk h (by omega)
theorem inv_srv0 (h : badCreate l = false) : Inv 0 (Kc.srv0 (l.getD 0 0) (l.getD 1 0) (l.getD 2 0) (l.getD 3 0) (l.getD 4 0)) := by
  unfold badCreate isLimit at h
  simp only [Bool.or_eq_false_iff, Bool.not_eq_false', Bool.and_eq_true, decide_eq_true_eq, decide_eq_false_iff_not] at h
  refine ⟨⟨⟨Nat.zero_le _, Nat.zero_le _, ⟨fun m hm => absurd hm (Nat.not_lt_zero m), fun m hm => absurd hm (Nat.not_lt_zero m)⟩, ⟨fun m hm => absurd hm (Nat.not_lt_zero m)⟩, rfl, fun j e he => ?_⟩, fun j hj => absurd hj (Nat.not_lt_zero j), ⟨fun r hr => absurd hr (Nat.not_lt_zero r), fun r hr => absurd hr (Nat.not_lt_zero r), fun r hr => absurd hr (Nat.not_lt_zero r), fun r hr => absurd hr (Nat.not_lt_zero r)⟩, fun j hj => absurd hj (Nat.not_lt_zero j)⟩, ⟨?_, h.1.1, h.1.2, Nat.zero_le _, Nat.zero_le _, Nat.zero_le _, Nat.le_refl _, fun c hc => ?_, fun t ht => ?_⟩, fun j => ?_, .inl rfl, Nat.le_refl _⟩
  · have he' : ([] : List Exe)[j]? = some e := he
    cases he'
  · have := h.2.2.1
    show l.getD 2 0 ≤ 2
    omega
  · have hc' : c ∈ ([] : List Cli) := hc
    cases hc'
  · cases ht
  · show (([] : List Exe).getD j exe0).state ≤ 3
    exact Nat.le_refl _
theorem inv_play (hI : ∀ s, st = some s → Inv k s) {c : Nat × List Nat} (h : lenOk c.1 c.2.length) : ∀ s, (playC st c).1 = some s → Inv (k + 4000000) s := by
  obtain ⟨n, l⟩ := c
  intro s hs
  by_cases z : n = 0
  · subst z
    have hp : playC st (0, l) = if badCreate l = true then (st, [-22]) else (some (Kc.srv0 (l.getD 0 0) (l.getD 1 0) (l.getD 2 0) (l.getD 3 0) (l.getD 4 0)), [0]) := if_pos rfl
    rw [hp] at hs
    split at hs
    · exact (hI s hs).up (by omega)
    · rename_i hb
      cases hs
      exact (inv_srv0 (by simpa using hb)).up (by omega)
  · cases st with
    | none =>
      rw [playC_none z] at hs
      cases hs
    | some t =>
      rw [playC_some z] at hs
      cases hs
      exact inv_step (hI t rfl) (shape_of h (by omega)) (by omega) (len_22 h)
theorem play_spec : ∀ (parts : List (Nat × List Nat)) (st : Option Srv) (k : Nat), (∀ s, st = some s → Inv k s) → k + parts.length * 4000000 ≤ 2000000000 → (∀ c ∈ parts, lenOk c.1 c.2.length) →
    PyFlat.told (PyFlat.played Kp424Neutral.step (absO st) (parts.map fun c => [(c.1 : Int) :: castL c.2])) = playA st parts
  | [], _, _, _, _, _ => rfl
  | c :: r, st, k, hI, hk, h => by
    rw [List.length_cons] at hk
    have hc := h c List.mem_cons_self
    have e := step_play hI (by omega) hc
    have z := play_spec r (playC st c).1 (k + 4000000) (inv_play hI hc) (by omega) fun d hd => h d (List.mem_cons_of_mem _ hd)
    rw [List.map_cons, PyFlat.played, e]
    dsimp only
    unfold PyFlat.told at z ⊢
    rw [List.flatMap_cons, z]
    rfl
/-! how long an answer is -/
theorem inState_le {st : Nat} : (inState s st).length ≤ s.executions.length := Nat.le_trans (List.length_filter_le _ _) (by rw [List.length_range]; exact Nat.le_refl _)
theorem ints_len (l : List Nat) : (ints_ l).length = l.length := List.length_map ..
theorem ans_len (I : Inv k s) (h1 : 1 ≤ n) (h2 : n ≤ 22) : (stepS n s l).2.length ≤ 100 := by
  have rc := I.b.rc
  have ec := I.b.ec
  have one : ∀ x : Int, [x].length ≤ 100 := fun x => by show 1 ≤ 100; decide
  match n, h1, h2 with
  | 1, _, _ =>
    show (opAddMethod s l).2.length ≤ 100
    unfold opAddMethod
    split
    · exact one _
    · split <;> exact one _
  | 2, _, _ =>
    show (opAddClient s l).2.length ≤ 100
    unfold opAddClient
    split
    · exact one _
    · split <;> exact one _
  | 3, _, _ =>
    show (opRequest s l).2.length ≤ 100
    unfold opRequest
    split
    · exact one _
    · show 2 ≤ 100
      decide
  | 4, _, _ =>
    show (opCancel s l).2.length ≤ 100
    unfold opCancel
    split
    · exact one _
    · split <;> exact one _
  | 5, _, _ =>
    show (opAdvance s l).2.length ≤ 100
    unfold opAdvance
    split
    · exact one _
    · show 2 ≤ 100
      decide
  | 6, _, _ =>
    show (opNextEvent s l).2.length ≤ 100
    unfold opNextEvent
    dsimp only
    split
    · exact one _
    · show 3 ≤ 100
      decide
  | 7, _, _ =>
    show (opRun s l).2.length ≤ 100
    unfold opRun
    split
    · exact one _
    · show 1 ≤ 100
      decide
  | 8, _, _ =>
    show (opRequestInfo s l).2.length ≤ 100
    unfold opRequestInfo
    dsimp only
    split
    · exact one _
    · show 8 ≤ 100
      decide
  | 9, _, _ =>
    show (opResponse s l).2.length ≤ 100
    unfold opResponse
    dsimp only
    split
    · exact one _
    · split
      · rename_i h0 h1
        obtain ⟨i, g1, g2⟩ := I.a.req.ok _ (by omega) h1
        have := (I.a.hok.ex i _ (exe_some g2)).1.emi
        rw [ints_len, List.length_cons, g1]
        show (exeAt s i).emitted.length + 1 ≤ 100
        omega
      · exact one _
  | 10, _, _ =>
    show (opExecutionInfo s l).2.length ≤ 100
    unfold opExecutionInfo
    dsimp only
    split
    · exact one _
    · show 10 ≤ 100
      decide
  | 11, _, _ =>
    show (ints_ ((orderOf s).length :: orderOf s)).length ≤ 100
    have := inState_le (s := s) (st := 0)
    rw [ints_len, List.length_cons, Kc.order_len]
    omega
  | 12, _, _ =>
    show (ints_ ((inState s 1).length :: inState s 1)).length ≤ 100
    have := inState_le (s := s) (st := 1)
    rw [ints_len, List.length_cons]
    omega
  | 13, _, _ =>
    show (ints_ (4 :: s.registers)).length ≤ 100
    rw [ints_len, List.length_cons, I.a.hok.regs]
    decide
  | 14, _, _ =>
    show (opQuota s l).2.length ≤ 100
    unfold opQuota
    dsimp only
    split
    · exact one _
    · show 3 ≤ 100
      decide
  | 15, _, _ =>
    show (opFindKey s l).2.length ≤ 100
    unfold opFindKey
    dsimp only
    split
    · exact one _
    · split
      · exact one _
      · show 3 ≤ 100
        decide
  | 16, _, _ =>
    show (opShutdown s l).2.length ≤ 100
    unfold opShutdown
    split
    · exact one _
    · split
      · exact one _
      · show 2 ≤ 100
        decide
  | 17, _, _ =>
    show (opSetLimit s l).2.length ≤ 100
    unfold opSetLimit
    split
    · exact one _
    · show 1 ≤ 100
      decide
  | 18, _, _ =>
    show (opSetRoles s l).2.length ≤ 100
    unfold opSetRoles
    split
    · exact one _
    · split
      · exact one _
      · show 1 ≤ 100
        decide
  | 19, _, _ =>
    show 2 ≤ 100
    decide
  | 20, _, _ =>
    show (opPreview s l).2.length ≤ 100
    unfold opPreview
    dsimp only
    split
    · exact one _
    · show 1 ≤ 100
      decide
  | 21, _, _ =>
    show 7 ≤ 100
    decide
  | 22, _, _ =>
    show 6 ≤ 100
    decide
  | n + 23, _, h => exact absurd h (by omega)
theorem playC_len (hI : ∀ s, st = some s → Inv k s) {c : Nat × List Nat} (h : lenOk c.1 c.2.length) : (playC st c).2.length ≤ 100 := by
  obtain ⟨n, l⟩ := c
  have one : ∀ x : Int, [x].length ≤ 100 := fun x => by show 1 ≤ 100; decide
  by_cases z : n = 0
  · subst z
    have hp : playC st (0, l) = if badCreate l = true then (st, [-22]) else (some (Kc.srv0 (l.getD 0 0) (l.getD 1 0) (l.getD 2 0) (l.getD 3 0) (l.getD 4 0)), [0]) := if_pos rfl
    rw [hp]
    split <;> exact one _
  · cases st with
    | none =>
      rw [playC_none z]
      exact one _
    | some t =>
      rw [playC_some z]
      exact ans_len (hI t rfl) (by omega) (len_22 h)
end
end KM
/-! split_calls: the promise -/
namespace Kc
open PySem PySem.Spec PyProof.Rows L2 KM Evl
/-- the parts in the heap: a list of pairs of a number and a list -/
def PartsAt (H0 H : Hp) (p : Addr) (parts : List (Nat × List Nat)) : Prop := ∃ ts : List Addr, H0 p = none ∧ H p = some (.lst (ts.map V.ref)) ∧ ts.length = parts.length ∧
  ∀ (i : Nat) (t : Addr) (c : Nat × List Nat), ts[i]? = some t → parts[i]? = some c → ∃ q, H0 q = none ∧ H0 t = none ∧ q ≠ p ∧ t ≠ p ∧ H t = some (.tup [.int (c.1 : Int), .ref q]) ∧ H q = some (.lst (intL c.2))
theorem flat_at {parts : List (Nat × List Nat)} {n : Nat} {c : Nat × List Nat} (h : parts[n]? = some c) : parts.flatMap enc = (parts.take n).flatMap enc ++ (enc c ++ (parts.drop (n + 1)).flatMap enc) := by
  obtain ⟨hn, hc⟩ := List.getElem?_eq_some_iff.mp h
  have e : parts = parts.take n ++ c :: parts.drop (n + 1) := by
    rw [← hc, ← List.drop_eq_getElem_cons hn, List.take_append_drop]
  exact (congrArg (List.flatMap enc) e).trans (by rw [List.flatMap_append, List.flatMap_cons])
theorem flat_len : ∀ parts : List (Nat × List Nat), parts.length ≤ (parts.flatMap enc).length
  | [] => Nat.le_refl _
  | c :: r => by
    have := flat_len r
    rw [List.flatMap_cons, List.length_append]
    have h : 1 ≤ (enc c).length := by
      unfold enc
      simp
    simp only [List.length_cons]
    omega
theorem flat_take {parts : List (Nat × List Nat)} {n : Nat} {c : Nat × List Nat} (h : parts[n]? = some c) : (parts.take (n + 1)).flatMap enc = (parts.take n).flatMap enc ++ enc c := by
  rw [take_next h, List.flatMap_append, List.flatMap_cons, List.flatMap_nil, List.append_nil]
section
variable {K : PySem.W.Frag} {mg : Str → Option Value} {T : Cls7} {B : Blt} {σ : L2.St} {H : Hp} {ta tb tc te : TE} {D : Ends}
theorem q_appTL {tz : TS} {l : Addr} {xs ys : List V} {v : V} {t1 t2 : TE} (hl : H l = some (.lst xs)) (ha : Ev ta σ H (.ref l)) (h1 : Ev t1 σ H v) (h2 : EvL t2 σ H ys) (hz : xs.length < 100000)
    (k : ∀ t q H1, H q = none → H t = none → t ≠ q → Ex H H1 → H1 q = some (.lst ys) → H1 t = some (.tup [v, .ref q]) → tz D σ (upd H1 l (.lst (xs ++ [.ref t])))) :
    tSeq (tDrop (tBM K "list" rAppend ta (tCons (tTup (tCons t1 (tCons t2 tNil))) tNil))) tz D σ H := ha H (Ex.refl H) _ fun H1 e1 =>
  ⟨Or.inl ⟨rfl, xs, sq_of (e1 l _ hl)⟩, h1 H1 e1 _ fun H2 e2 => h2 H2 (e1.trans e2) _ fun q H3 hq e3 h3 => ⟨sz_of (by show 2 ≤ 100000; decide), fun t ht =>
    have e13 := (e1.trans e2).trans e3
    ⟨l, xs, .ref t, rfl, rfl, (by rw [upd_ne fun z => by rw [← z, e13 _ _ hl] at ht; cases ht]; exact e13 _ _ hl), sz_lt hz, k t q _ (fresh_back (e1.trans e2) hq) (fresh_back e13 ht) (fun z => by rw [z, h3] at ht; cases ht) (e13.trans (Ex.new ht)) (by rw [upd_ne fun z => by rw [← z, h3] at ht; cases ht]; exact h3) upd_same⟩⟩⟩
def spSplit (K : PySem.W.Frag) : Sp := fun vs H Q _ => ∃ (a : Addr) (parts : List (Nat × List Nat)), vs = [.ref a] ∧ SqL K H a (intL (parts.flatMap enc)) ∧ (parts.flatMap enc).length ≤ 10000 ∧ ∀ H' p, Ex H H' → PartsAt H H' p parts → Q (.ref p) H'
theorem rd_split_calls (X : Txt K mg T B) (vs : List V) (H : Hp) (Q : VK) (E : XK) (h : spSplit K vs H Q E) : t_split_calls K T { nx := fun _ H' => Q .non H', rt := Q } (start N_split_calls vs) H := by
  obtain ⟨a, parts, rfl, hs, hz, k⟩ := h
  refine q_asgL (xs := []) (el_lst ea_nil (by decide)) fun p H1 hp e1 h1 => ?_
  refine q_asg (v := .int ((0 : Nat) : Int)) ev_c fun H2 e2 => ?_
  refine q_while (fun m σ' H' => ∃ (n : Nat) (ts : List Addr) (x3 x4 : Option V), n + m = parts.length ∧ σ' = [some (.ref a), some (.ref p), some (.int ((((parts.take n).flatMap enc).length : Nat) : Int)), x3, x4] ∧ Ex H H' ∧ H' p = some (.lst (ts.map V.ref)) ∧ ts.length = n ∧
    ∀ (i : Nat) (t : Addr) (c : Nat × List Nat), ts[i]? = some t → parts[i]? = some c → ∃ q, H q = none ∧ H t = none ∧ q ≠ p ∧ t ≠ p ∧ H' t = some (.tup [.int (c.1 : Int), .ref q]) ∧ H' q = some (.lst (intL c.2))) parts.length
    ⟨0, [], none, none, Nat.zero_add _, rfl, e1.trans e2, e2 _ _ h1, rfl, fun i t c hi => by simp at hi⟩ fun m σ' H3 ⟨n, ts, x3, x4, hm, hσ, e3, hp3, hts, hin⟩ => ?_
  subst hσ
  have hs3 := ex_l e3 hs
  obtain ⟨pos, hpos⟩ : ∃ pos, pos = ((parts.take n).flatMap enc).length := ⟨_, rfl⟩
  rw [← hpos]
  refine ⟨decide (pos < (parts.flatMap enc).length), et_is (et_test (ev_op (ev_var (v := .int (pos : Int)) rfl) (ev_len (ev_var rfl) hs3) rv_I0)) (by rw [intL_len]; exact nat_lt _ _), fun hb H4 e4 => ?_, fun hb H4 e4 => ?_⟩
  · have hlt := of_decide_eq_true hb
    have hn : n < parts.length := by
      by_cases z : n < parts.length
      · exact z
      · rw [hpos, List.take_of_length_le (by omega)] at hlt
        omega
    obtain ⟨c, hc⟩ : ∃ c, parts[n]? = some c := ⟨_, List.getElem?_eq_getElem hn⟩
    have fa := flat_at hc
    have ft := flat_take hc
    have hlen : ((parts.take (n + 1)).flatMap enc).length = pos + (c.2.length + 3) := by
      rw [ft, List.length_append, ← hpos]
      unfold enc
      simp
    have hbound : pos + (c.2.length + 3) ≤ (parts.flatMap enc).length := by
      rw [fa, List.length_append, ← hpos, List.length_append]
      unfold enc
      simp
    have g0 : (parts.flatMap enc)[pos]? = some c.1 := by
      rw [fa, List.getElem?_append_right (by omega), ← hpos, Nat.sub_self]
      rfl
    have g1 : (parts.flatMap enc)[pos + 1]? = some c.2.length := by
      rw [fa, List.getElem?_append_right (by omega), ← hpos, Nat.add_sub_cancel_left]
      rfl
    have g2 : ((parts.flatMap enc).drop (pos + 2)).take c.2.length = c.2 := by
      rw [fa, List.drop_append, ← hpos, List.drop_of_length_le (by omega), List.nil_append, Nat.add_sub_cancel_left]
      show List.take _ (c.2 ++ [0] ++ _) = _
      rw [List.append_assoc, List.take_append_of_le_length (Nat.le_refl _), List.take_length]
    refine ⟨fun σ2 H2 => ∃ m', m' < m ∧ ∃ (n : Nat) (ts : List Addr) (x3 x4 : Option V), n + m' = parts.length ∧ σ2 = [some (.ref a), some (.ref p), some (.int ((((parts.take n).flatMap enc).length : Nat) : Int)), x3, x4] ∧ Ex H H2 ∧ H2 p = some (.lst (ts.map V.ref)) ∧ ts.length = n ∧
      ∀ (i : Nat) (t : Addr) (c : Nat × List Nat), ts[i]? = some t → parts[i]? = some c → ∃ q, H q = none ∧ H t = none ∧ q ≠ p ∧ t ≠ p ∧ H2 t = some (.tup [.int (c.1 : Int), .ref q]) ∧ H2 q = some (.lst (intL c.2)), fun σ2 H2 q => q, ?_⟩
    refine q_asg (v := .int ((pos + 2 : Nat) : Int)) (ev_is (ev_op (ev_var (v := .int (pos : Int)) rfl) (ev_c (v := .int 2)) rv_I0) (congrArg V.int (by omega))) fun H5 e5 => ?_
    have hs5 := ex_l (K := K) e5 (ex_l e4 hs3)
    refine q_asg (v := .int ((pos + 2 + c.2.length : Nat) : Int)) (ev_is (ev_op (ev_var (v := .int ((pos + 2 : Nat) : Int)) rfl) (ev_op (ev_var (v := .ref a) rfl) (ev_is (ev_op (ev_var (v := .int (pos : Int)) rfl) (ev_c (v := .int 1)) rv_I0) (w := .int ((pos + 1 : Nat) : Int)) (congrArg V.int (by omega))) (rv_ixL hs5 (atI_nat (intL_get g1)))) rv_I0) (congrArg V.int (by omega))) fun H6 e6 => ?_
    have hs6 := ex_l (K := K) e6 hs5
    have e36 := (e4.trans e5).trans e6
    have sl : EvL (tSl (rSlL K) (tVar 0) (tPart (tVar 3)) (tPart (tVar 4))) [some (.ref a), some (.ref p), some (.int (pos : Int)), some (.int ((pos + 2 : Nat) : Int)), some (.int ((pos + 2 + c.2.length : Nat) : Int))] H6 (intL c.2) := by
      have e0 : cutV (intL (parts.flatMap enc)) (some ((pos + 2 : Nat) : Int)) (some ((pos + 2 + c.2.length : Nat) : Int)) = intL c.2 := by
        rw [cut_all _ _ _ (by omega) (by rw [intL_len]; omega), intL_drop, intL_take, Nat.add_sub_cancel_left, g2]
      rw [← e0]
      exact el_sl (ev_var rfl) (eo_some (ev_var rfl)) (eo_some (ev_var rfl)) hs6
    refine q_appTL (e36 _ _ hp3) (ev_var rfl) (ev_op (ev_var (v := .ref a) rfl) (ev_var (v := .int (pos : Int)) rfl) (rv_ixL hs6 (atI_nat (intL_get g0)))) sl (by have := flat_len parts; rw [List.length_map]; omega) fun t q H7 hq ht htq e7 h7q h7t => ?_
    have qp : q ≠ p := fun z => by rw [z, e36 _ _ hp3] at hq; cases hq
    have tp : t ≠ p := fun z => by rw [z, e36 _ _ hp3] at ht; cases ht
    refine s_asg (v := .int ((pos + (c.2.length + 3) : Nat) : Int)) (ev_is (ev_op (ev_var (v := .int ((pos + 2 + c.2.length : Nat) : Int)) rfl) (ev_c (v := .int 1)) rv_I0) (congrArg V.int (by omega))) fun H8 e8 => ?_
    have e37 := e36.trans e7
    refine ⟨m - 1, by omega, n + 1, ts ++ [t], _, _, by omega, by rw [hlen]; rfl, ((e3.trans e37).mut hp).trans e8, e8 _ _ (by rw [upd_same, List.map_append]; rfl), by rw [List.length_append, hts]; rfl, fun i t' c' hi hc' => ?_⟩
    by_cases z : i < ts.length
    · rw [List.getElem?_append_left z] at hi
      obtain ⟨q', u1, u2, w1, w2, w3, w4⟩ := hin i t' c' hi hc'
      exact ⟨q', u1, u2, w1, w2, e8 _ _ (by rw [upd_ne w2]; exact e37 _ _ w3), e8 _ _ (by rw [upd_ne w1]; exact e37 _ _ w4)⟩
    · have hi' := (List.getElem?_eq_some_iff.mp hi).1
      rw [List.length_append] at hi'
      have hin2 : i = n := by
        have : [t].length = 1 := rfl
        omega
      subst hin2
      rw [List.getElem?_append_right (by omega), hts, Nat.sub_self] at hi
      cases hi
      rw [hc] at hc'
      cases hc'
      exact ⟨q, fresh_back (e3.trans e36) hq, fresh_back (e3.trans e36) ht, qp, tp, e8 _ _ (by rw [upd_ne tp]; exact h7t), e8 _ _ (by rw [upd_ne qp]; exact h7q)⟩
  · have hge := of_decide_eq_false hb
    have hn : n = parts.length := by
      by_cases z : n < parts.length
      · exfalso
        have fa := flat_at (List.getElem?_eq_getElem z)
        apply hge
        rw [fa, List.length_append, ← hpos, List.length_append]
        unfold enc
        simp
        omega
      · omega
    refine s_ret (v := .ref p) (ev_var rfl) fun H5 e5 => k H5 p ((e3.trans e4).trans e5) ⟨ts, hp, e5 _ _ (e4 _ _ hp3), by rw [hts, hn], fun i t c hi hc => ?_⟩
    obtain ⟨q, u1, u2, w1, w2, w3, w4⟩ := hin i t c hi hc
    exact ⟨q, u1, u2, w1, w2, e5 _ _ (e4 _ _ w3), e5 _ _ (e4 _ _ w4)⟩
end
end Kc
/-! answers -/
namespace Kc
open PySem PySem.Spec PyProof.Rows L2 KM Evl
section
variable {K : PySem.W.Frag} {mg : Str → Option Value} {T : Cls7} {B : Blt} {σ : L2.St} {H : Hp} {ta tb tc te tv : TE} {D : Ends} {s : Srv} {L L' : Loc} {H' : Hp}
/-- between two calls: no server or one, apart from all that stood in H3 -/
structure SAt (T : Cls7) (H3 : Hp) (fl : Addr) (H : Hp) (st : Option Srv) (v : V) : Prop where
  tab : LamX.TabS H T.P lamQ
  prot : ∀ b o, b ≠ fl → H3 b = some o → NT o → H b = some o
  fl3 : ∃ xs, H3 fl = some (.lst xs)
  fl1 : ∃ xs, H fl = some (.lst xs)
  it : match st with
    | none => v = .non
    | some s => ∃ L, v = .ref (L.at_ .srv) ∧ Rep T s L H ∧ ∀ r, (cont T s L r).isSome = true → ∀ o, H3 (L.at_ r) = some o → ¬ NT o
variable {H3 : Hp} {fl : Addr} {st : Option Srv} {v : V}
theorem nt_lst {xs : List V} : NT (.lst xs) := fun _ z => by cases z
theorem SAt.ex (S : SAt T H3 fl H st v) (e : Ex H H') : SAt T H3 fl H' st v := by
  refine ⟨S.tab.ext e, fun b o n h k => e _ _ (S.prot b o n h k), S.fl3, ⟨S.fl1.choose, e _ _ S.fl1.choose_spec⟩, ?_⟩
  have h := S.it
  cases st with
  | none => exact h
  | some s =>
    obtain ⟨L, h1, h2, h3⟩ := h
    exact ⟨L, h1, h2.ex e, h3⟩
theorem SAt.srv (S : SAt T H3 fl H (some s) v) : ∃ L, v = .ref (L.at_ .srv) ∧ Rep T s L H ∧ ∀ r, (cont T s L r).isSome = true → ∀ o, H3 (L.at_ r) = some o → ¬ NT o := S.it
/-- another server behind a call -/
theorem SAt.go {s' : Srv} (S : SAt T H3 fl H (some s) v) (h3 : ∀ r, (cont T s L r).isSome = true → ∀ o, H3 (L.at_ r) = some o → ¬ NT o) (G : Go T s L H s' L' H') : SAt T H3 fl H' (some s') (.ref (L'.at_ .srv)) := by
  obtain ⟨xs3, f3⟩ := S.fl3
  obtain ⟨xs1, f1⟩ := S.fl1
  have pr : ∀ b o, H b = some o → NT o → (∃ u, H3 b = some u ∧ NT u) → H' b = some o := fun b o h n ⟨u, hu, nu⟩ => G.keep b o h n fun r hr z => h3 r hr u (by rw [← z]; exact hu) nu
  refine ⟨G.rep.tab, fun b o n h k => pr b o (S.prot b o n h k) k ⟨o, h, k⟩, S.fl3, ⟨xs1, pr fl _ f1 nt_lst ⟨_, f3, nt_lst⟩⟩, ?_⟩
  show ∃ L0 : Loc, (V.ref (L'.at_ .srv)) = .ref (L0.at_ .srv) ∧ _
  refine ⟨L', rfl, G.rep, fun r hr o h n => ?_⟩
  rcases G.own r hr with ⟨r0, k1, k2⟩ | k
  · exact h3 r0 k1 o (by rw [k2]; exact h) n
  · by_cases z : L'.at_ r = fl
    · exact k _ (by rw [z]; exact f1) nt_lst
    · exact k o (S.prot _ o z h n) n
/-- a new server -/
theorem SAt.new {s' : Srv} (S : SAt T H3 fl H st v) (e : Ex H H') (R : Rep T s' L' H') (fr : ∀ r, (cont T s' L' r).isSome = true → H (L'.at_ r) = none) : SAt T H3 fl H' (some s') (.ref (L'.at_ .srv)) := by
  have S' := S.ex e
  refine ⟨S'.tab, S'.prot, S'.fl3, S'.fl1, ?_⟩
  show ∃ L0 : Loc, (V.ref (L'.at_ .srv)) = .ref (L0.at_ .srv) ∧ _
  refine ⟨L', rfl, R, fun r hr o h n => ?_⟩
  have f := fr r hr
  by_cases z : L'.at_ r = fl
  · obtain ⟨xs, hx⟩ := S.fl1
    rw [z, hx] at f
    cases f
  · rw [S.prot _ o z h n] at f
    cases f
/-- the answers' list grows -/
theorem SAt.flat {ys : List V} (S : SAt T H3 fl H st v) : SAt T H3 fl (upd H fl (.lst ys)) st v := by
  obtain ⟨xs3, f3⟩ := S.fl3
  obtain ⟨xs1, f1⟩ := S.fl1
  refine ⟨tabS_upd S.tab f1 trivial, fun b o n h k => by rw [upd_ne n]; exact S.prot b o n h k, S.fl3, ⟨ys, upd_same⟩, ?_⟩
  have h := S.it
  cases st with
  | none => exact h
  | some s =>
    obtain ⟨L, h1, h2, h3⟩ := h
    refine ⟨L, h1, ⟨fun r o q => ?_, h2.inj, tabS_upd h2.tab f1 trivial⟩, h3⟩
    have ne : L.at_ r ≠ fl := fun z => h3 r (by rw [q]; rfl) _ (by rw [z]; exact f3) nt_lst
    rw [upd_ne ne]
    exact h2.at_ r o q
theorem el_if {b : Bool} {tt : TT} {xs : List V} (h : EvT tt σ H b) (h1 : b = true → EvL ta σ H xs) (h2 : b = false → EvL tb σ H xs) : EvL (tIf tt ta tb) σ H xs := fun H1 e Q q => h H1 e _ fun H2 e2 => by
  cases b with
  | true =>
    show ta σ H2 Q
    exact h1 rfl H2 (e.trans e2) Q fun p H3 hp e3 h3 => q p H3 (fresh_back e2 hp) (e2.trans e3) h3
  | false =>
    show tb σ H2 Q
    exact h2 rfl H2 (e.trans e2) Q fun p H3 hp e3 h3 => q p H3 (fresh_back e2 hp) (e2.trans e3) h3
theorem q_forP {P : Addr → Hp → Prop} {tl : TE} {g : TG} {tu tz : TS} (hv : ∀ Q : VK, (∀ p H1, P p H1 → Q (.ref p) H1) → tl σ H Q)
    (k : ∀ p H1, P p H1 → ∃ xs : List V, SqL K H1 p xs ∧ ∃ Pv : Nat → L2.St → Hp → Prop, Pv 0 σ H1 ∧ (∀ i σ' H', i ≤ xs.length → Pv i σ' H' → SqL K H' p xs) ∧ (∀ i x σ' H', xs[i]? = some x → Pv i σ' H' → g x σ' H' fun σ2 H2 => tu { D with nx := Pv (i + 1), ct := Pv (i + 1), bk := tz D } σ2 H2) ∧ ∀ σ' H', Pv xs.length σ' H' → tz D σ' H') :
    tSeq (tFor (iList K tl) g tu) tz D σ H :=
  hv _ fun p H1 hp => by
    obtain ⟨xs, h1, Pv, h0, hl, hs, hd⟩ := k p H1 hp
    exact ⟨p, rfl, ⟨xs, h1⟩, for_list (D := { D with nx := tz D }) Pv h0 hl hs hd⟩
abbrev finT (K : PySem.W.Frag) : TS := tSeq (tDrop (tBM K "list" rAppend (tVar 2) (tCons (tCB (Evl.rLenS K) (tCons (tVar 6) tNil)) tNil))) (tDrop (tBM K "list" rExtend (tVar 2) (tCons (tVar 6) tNil)))
theorem V_len (l : List Int) : (l.map V.int).length = l.length := List.length_map ..
theorem ans_fin {a q p' : Addr} {n : Nat} {v5 : Option V} {acc ans : List Int} (S : SAt T H3 fl H st v) (hf : H fl = some (.lst (acc.map V.int))) (hp : H p' = some (.lst (ans.map V.int))) (ne : p' ≠ fl) (ha : acc.length ≤ 50000) (hn : ans.length ≤ 1000)
    (k : ∀ H2, SAt T H3 fl H2 st v → H2 fl = some (.lst ((acc ++ ((ans.length : Int) :: ans)).map V.int)) → D.nx [some (.ref a), some v, some (.ref fl), some (.int (n : Int)), some (.ref q), v5, some (.ref p')] H2) :
    finT K D [some (.ref a), some v, some (.ref fl), some (.int (n : Int)), some (.ref q), v5, some (.ref p')] H := by
  refine q_app (v := .int (ans.length : Int)) hf (ev_var rfl) (ev_is (ev_len (ev_var (v := .ref p') rfl) (sq_of hp)) (by rw [V_len])) (by rw [V_len]; omega) fun H1 e1 => ?_
  have S1 := (S.ex e1).flat (ys := acc.map V.int ++ [V.int (ans.length : Int)])
  have hp1 : upd H1 fl (.lst (acc.map V.int ++ [V.int (ans.length : Int)])) p' = some (.lst (ans.map V.int)) := by rw [upd_ne ne]; exact e1 _ _ hp
  refine s_ext (xs := acc.map V.int ++ [V.int (ans.length : Int)]) (zs := ans.map V.int) upd_same (ev_var (v := .ref fl) rfl) (ev_var (v := .ref p') rfl) hp1 (by
    rw [List.length_append, V_len, V_len]
    show acc.length + 1 + ans.length ≤ 100000
    omega) fun H2 e2 => ?_
  refine k _ (S1.ex e2).flat ?_
  rw [upd_same, List.map_append, List.map_cons, List.append_assoc]
  rfl
abbrev crT (K : PySem.W.Frag) (T : Cls7) : TS := tSeq (tAsg (tCall (spCreate K T) [] C8.E0 (tCons (tVar 4) tNil)) (gName 5)) (tSeq (tAsg (tIf (tTest (tOp rIsNon (tVar 5) (tC .non))) (tLst (tCons (tC (.int (-22))) tNil)) (tLst (tCons (tC (.int 0)) tNil))) (gName 6)) (tAsg (tIf (tTest (tOp rIsNon (tVar 5) (tC .non))) (tVar 1) (tVar 5)) (gName 1)))
abbrev bodyT (K : PySem.W.Frag) (T : Cls7) : TS := tSeq (tIfS (tTest (tOp rEq (tVar 3) (tC (.int 0)))) (crT K T) (tIfS (tTest (tOp rIsNon (tVar 1) (tC .non))) (tAsg (tLst (tCons (tC (.int (-11))) tNil)) (gName 6)) (tAsg (tCall (spPerform T) [] C8.E0 (tCons (tVar 1) (tCons (tVar 3) (tCons (tVar 4) tNil)))) (gName 6)))) (finT K)
theorem new_ne {H : Hp} {p fl : Addr} {xs : List V} (h : H fl = some (.lst xs)) (n : New H p) : p ≠ fl := fun z => n _ (by rw [z]; exact h) nt_lst
/-- a turn -/
theorem ans_turn {a q : Addr} {v5 v6 : Option V} {acc : List Int} {c : Nat × List Nat} {k0 : Nat} (S : SAt T H3 fl H st v) (hf : H fl = some (.lst (acc.map V.int))) (hq : H3 q = some (.lst (intL c.2))) (qf : q ≠ fl) (hI : ∀ s, st = some s → Inv k0 s) (hk : k0 ≤ 300000000) (hc : lenOk c.1 c.2.length) (ha : acc.length ≤ 50000)
    (k : ∀ v' v5' v6' H2, SAt T H3 fl H2 (playC st c).1 v' → H2 fl = some (.lst ((acc ++ (((playC st c).2.length : Int) :: (playC st c).2)).map V.int)) → D.nx [some (.ref a), some v', some (.ref fl), some (.int (c.1 : Int)), some (.ref q), v5', v6'] H2) :
    bodyT K T D [some (.ref a), some v, some (.ref fl), some (.int (c.1 : Int)), some (.ref q), v5, v6] H := by
  have hlen := playC_len hI hc
  obtain ⟨n, l⟩ := c
  have hqH : ∀ {H'}, SAt T H3 fl H' st v → H' q = some (.lst (intL l)) := fun S' => S'.prot q _ qf hq nt_lst
  refine q_if (b := n == 0) (et_is (et_test (ev_op (ev_var (v := .int (n : Int)) rfl) (ev_c (v := .int ((0 : Nat) : Int))) (rv_eq rfl))) (nat_eq _ _)) (fun hb H1 e1 => ?_) fun hb H1 e1 => ?_
  · have n0 : n = 0 := eq_of_beq hb
    subst n0
    have S1 := S.ex e1
    have h5 : l.length = 5 := hc
    have hp : playC st (0, l) = if badCreate l = true then (st, [-22]) else (some (srv0 (l.getD 0 0) (l.getD 1 0) (l.getD 2 0) (l.getD 3 0) (l.getD 4 0)), [0]) := if_pos rfl
    refine q_asgCall (ea_cons (ev_var (v := .ref q) rfl) ea_nil) fun H2 e2 => ?_
    have S2 := S1.ex e2
    refine ⟨q, l, rfl, sq_of (hqH S2), h5, S2.tab, fun bad => ?_, fun good L' H4 e4 R4 f4 => ?_⟩
    · intro H4 e4
      rw [hp, if_pos bad] at k
      have S4 := S2.ex e4
      refine q_asgL (xs := [.int (-22)]) (el_if (b := true) (et_is (et_test (ev_op (ev_var (v := .non) rfl) ev_c rv_isN)) rfl) (fun _ => el_lst (ea_cons ev_c ea_nil) (by decide)) fun hb => by cases hb) fun p' H5 hp' e5 h5' => ?_
      have S5 := S4.ex e5
      refine s_asg (v := v) (ev_if (b := true) (et_is (et_test (ev_op (ev_var (v := .non) rfl) ev_c rv_isN)) rfl) (fun _ => ev_var rfl) fun hb => by cases hb) fun H6 e6 => ?_
      have S6 := S5.ex e6
      have e06 := ((((e1.trans e2).trans e4).trans e5).trans e6)
      have pf : p' ≠ fl := fun z => by
        obtain ⟨xs, hx⟩ := S4.fl1
        rw [z, hx] at hp'
        cases hp'
      exact ans_fin (D := D) (n := 0) S6 (e06 _ _ hf) (ans := [-22]) (e6 _ _ h5') pf ha (by show 1 ≤ 1000; decide) fun H7 S7 h7 => k v _ _ H7 S7 h7
    · rw [hp, if_neg (by rw [good]; decide)] at k
      have S4 := S2.new e4 R4 f4
      refine q_asgL (xs := [.int 0]) (el_if (b := false) (et_is (et_test (ev_op (ev_var (v := .ref (L'.at_ .srv)) rfl) ev_c rv_isN)) rfl) (fun hb => by cases hb) fun _ => el_lst (ea_cons ev_c ea_nil) (by decide)) fun p' H5 hp' e5 h5' => ?_
      have S5 := S4.ex e5
      refine s_asg (v := .ref (L'.at_ .srv)) (ev_if (b := false) (et_is (et_test (ev_op (ev_var (v := .ref (L'.at_ .srv)) rfl) ev_c rv_isN)) rfl) (fun hb => by cases hb) fun _ => ev_var rfl) fun H6 e6 => ?_
      have S6 := S5.ex e6
      have e06 := ((((e1.trans e2).trans e4).trans e5).trans e6)
      have pf : p' ≠ fl := fun z => by
        obtain ⟨xs, hx⟩ := S4.fl1
        rw [z, hx] at hp'
        cases hp'
      exact ans_fin (D := D) (n := 0) S6 (e06 _ _ hf) (ans := [0]) (e6 _ _ h5') pf ha (by show 1 ≤ 1000; decide) fun H7 S7 h7 => k _ _ _ H7 S7 h7
  · have n0 : n ≠ 0 := fun z => by rw [z] at hb; cases hb
    have S1 := S.ex e1
    cases st with
    | none =>
      rw [playC_none n0] at k
      obtain rfl : v = .non := S.it
      refine s_if (b := true) (et_is (et_test (ev_op (ev_var (v := .non) rfl) ev_c rv_isN)) rfl) (fun _ H2 e2 => ?_) fun hb => by cases hb
      refine s_asgL (xs := [.int (-11)]) (el_lst (ea_cons ev_c ea_nil) (by decide)) fun p' H5 hp' e5 h5' => ?_
      have S2 := S1.ex e2
      have S5 := S2.ex e5
      have pf : p' ≠ fl := fun z => by
        obtain ⟨xs, hx⟩ := S2.fl1
        rw [z, hx] at hp'
        cases hp'
      exact ans_fin (D := D) (n := n) S5 (e5 _ _ (e2 _ _ (e1 _ _ hf))) (ans := [-11]) h5' pf ha (by show 1 ≤ 1000; decide) fun H7 S7 h7 => k .non _ _ H7 S7 h7
    | some s =>
      rw [playC_some n0] at k
      rw [playC_some n0] at hlen
      obtain ⟨L, rfl, R, h3⟩ := S.srv
      refine s_if (b := false) (et_is (et_test (ev_op (ev_var (v := .ref (L.at_ .srv)) rfl) ev_c rv_isN)) rfl) (fun hb => by cases hb) fun _ H2 e2 => ?_
      refine s_asgCall (ea_cons (ev_var (v := .ref (L.at_ .srv)) rfl) (ea_cons (ev_var (v := .int (n : Int)) rfl) (ea_cons (ev_var (v := .ref q) rfl) ea_nil))) fun H4 e4 => ?_
      have e04 := (e1.trans e2).trans e4
      have S4 := S.ex e04
      have R4 := R.ex e04
      have lo : Loose T s L H4 q (intL l) := ⟨hqH S4, fun r hr z => h3 r hr _ (by rw [z]; exact hq) nt_lst⟩
      refine ⟨s, L, n, q, l, rfl, R4, lo, ⟨k0, hI s rfl, hk⟩, shape_of hc (by omega), by omega, len_22 hc, fun L' H' p' G nw hp' => ?_⟩
      have pf : p' ≠ fl := new_ne (e04 _ _ hf) nw
      have S5 := S4.go h3 G
      have hf5 : H' fl = some (.lst (acc.map V.int)) := by
        obtain ⟨xs3, f3⟩ := S.fl3
        exact G.keep fl _ (e04 _ _ hf) nt_lst fun r hr z => h3 r hr _ (by rw [← z]; exact f3) nt_lst
      have sv : L'.at_ .srv = L.at_ .srv := G.srvAt
      rw [← sv]
      exact ans_fin (D := D) (n := n) S5 hf5 (ans := (stepS n s l).2) hp' pf ha (by dsimp only at hlen; omega) fun H7 S7 h7 => k _ _ _ H7 S7 h7
/-- what answers promises -/
def spAnswers (K : PySem.W.Frag) (T : Cls7) : Sp := fun vs H Q _ => ∃ (a : Addr) (parts : List (Nat × List Nat)), vs = [.ref a] ∧ SqL K H a (intL (parts.flatMap enc)) ∧ (parts.flatMap enc).length ≤ 10000 ∧ parts.length ≤ 60 ∧ (∀ c ∈ parts, lenOk c.1 c.2.length) ∧ LamX.TabS H T.P lamQ ∧
  ∀ H' q, H' q = some (.lst ((playA none parts).map V.int)) → Q (.ref q) H'
/-- the server behind the first n calls -/
def after : Option Srv → List (Nat × List Nat) → Option Srv
  | st, [] => st
  | st, c :: r => after (playC st c).1 r
theorem after_app : ∀ (l : List (Nat × List Nat)) (st : Option Srv) (c : Nat × List Nat), after st (l ++ [c]) = (playC (after st l) c).1
  | [], _, _ => rfl
  | d :: l, st, c => after_app l (playC st d).1 c
theorem playA_app : ∀ (l : List (Nat × List Nat)) (st : Option Srv) (c : Nat × List Nat), playA st (l ++ [c]) = playA st l ++ (((playC (after st l) c).2.length : Int) :: (playC (after st l) c).2)
  | [], st, c => by
    show ((playC st c).2.length : Int) :: (playC st c).2 ++ [] = [] ++ _
    rw [List.append_nil, List.nil_append]
    rfl
  | d :: l, st, c => by
    show ((playC st d).2.length : Int) :: (playC st d).2 ++ playA (playC st d).1 (l ++ [c]) = (((playC st d).2.length : Int) :: (playC st d).2 ++ playA (playC st d).1 l) ++ _
    rw [playA_app l, List.append_assoc]
    rfl
theorem inv_after : ∀ (l : List (Nat × List Nat)) (st : Option Srv) (k : Nat), (∀ s, st = some s → Inv k s) → (∀ c ∈ l, lenOk c.1 c.2.length) → ∀ s, after st l = some s → Inv (k + l.length * 4000000) s
  | [], st, k, hI, _, s, h => (hI s h).up (by omega)
  | c :: l, st, k, hI, hc, s, h => by
    have z := inv_after l (playC st c).1 (k + 4000000) (inv_play hI (hc c List.mem_cons_self)) (fun d hd => hc d (List.mem_cons_of_mem _ hd)) s h
    refine z.up ?_
    rw [List.length_cons]
    omega
theorem playA_len : ∀ (l : List (Nat × List Nat)) (st : Option Srv) (k : Nat), (∀ s, st = some s → Inv k s) → (∀ c ∈ l, lenOk c.1 c.2.length) → (playA st l).length ≤ l.length * 101
  | [], _, _, _, _ => Nat.zero_le _
  | c :: l, st, k, hI, hc => by
    have a := playC_len hI (hc c List.mem_cons_self)
    have b := playA_len l (playC st c).1 (k + 4000000) (inv_play hI (hc c List.mem_cons_self)) fun d hd => hc d (List.mem_cons_of_mem _ hd)
    show (((playC st c).2.length : Int) :: (playC st c).2 ++ playA (playC st c).1 l).length ≤ _
    rw [List.length_append, List.length_cons, List.length_cons]
    omega
theorem rd_answers (X : Txt K mg T B) (vs : List V) (H : Hp) (Q : VK) (E : XK) (h : spAnswers K T vs H Q E) : t_answers K T (spSplit K) (spCreate K T) (spPerform T) { nx := fun _ H' => Q .non H', rt := Q } (start N_answers vs) H := by
  obtain ⟨a, parts, rfl, ha, hz, hn, hc, tab, k⟩ := h
  refine q_asg (v := .non) ev_c fun H1 e1 => ?_
  refine q_asgL (xs := []) (el_lst ea_nil (by decide)) fun fl H2 hfl e2 h2 => ?_
  have e12 := e1.trans e2
  refine q_forP (P := fun p H3 => Ex H2 H3 ∧ PartsAt H2 H3 p parts) (fun Q2 q2 => ?_) fun p H3 ⟨e3, pa⟩ => ?_
  · have step : ∀ (vs : List V), EvA (tCons (tVar 0) tNil) ((List.set (start N_answers [.ref a]) 1 (some .non)).set 2 (some (.ref fl))) H2 vs → vs = [.ref a] → tCall (spSplit K) [] C8.E0 (tCons (tVar 0) tNil) ((List.set (start N_answers [.ref a]) 1 (some .non)).set 2 (some (.ref fl))) H2 Q2 := fun vs hv he => hv H2 (Ex.refl H2) _ fun H4 e4 => by
      rw [he]
      exact ⟨a, parts, rfl, ex_l (e12.trans e4) ha, hz, fun H5 p e5 pa => q2 p H5 ⟨e4.trans e5, by
        obtain ⟨ts, p0, p1, p2, p3⟩ := pa
        exact ⟨ts, fresh_back e4 p0, p1, p2, fun i t c hi hc => by
          obtain ⟨q, u1, u2, u3, u4, u5, u6⟩ := p3 i t c hi hc
          exact ⟨q, fresh_back e4 u1, fresh_back e4 u2, u3, u4, u5, u6⟩⟩⟩⟩
    exact step _ (ea_cons (ev_var (v := .ref a) rfl) ea_nil) rfl
  · obtain ⟨ts, p0, p1, p2, p3⟩ := pa
    have fl3 := e3 _ _ h2
    refine ⟨ts.map V.ref, sq_of p1, fun i σ' H' => ∃ (v : V) (v3 v4 v5 v6 : Option V), σ' = [some (.ref a), some v, some (.ref fl), v3, v4, v5, v6] ∧ SAt T H3 fl H' (after none (parts.take i)) v ∧ H' fl = some (.lst ((playA none (parts.take i)).map V.int)), ?_, ?_, ?_, ?_⟩
    · exact ⟨.non, none, none, none, none, rfl, ⟨tab.ext (e12.trans e3), fun b o _ h _ => h, ⟨_, fl3⟩, ⟨_, fl3⟩, rfl⟩, fl3⟩
    · intro i σ' H' _ ⟨v, v3, v4, v5, v6, _, S, _⟩
      have pf : p ≠ fl := fun z => by rw [z, h2] at p0; cases p0
      exact sq_of (S.prot p _ pf p1 nt_lst)
    · intro i x σ' H' hx ⟨v, v3, v4, v5, v6, hs, S, hf⟩
      rw [List.getElem?_map] at hx
      obtain ⟨t, ht, rfl⟩ := Option.map_eq_some_iff.mp hx
      have hi : i < parts.length := by rw [← p2]; exact (List.getElem?_eq_some_iff.mp ht).1
      obtain ⟨c, hci⟩ : ∃ c, parts[i]? = some c := ⟨_, List.getElem?_eq_getElem hi⟩
      obtain ⟨q, u1, u2, u3, u4, u5, u6⟩ := p3 i t c ht hci
      have qf : q ≠ fl := fun z => by rw [z, h2] at u1; cases u1
      have tf : t ≠ fl := fun z => by rw [z, h2] at u2; cases u2
      subst hs
      have ht' : H' t = some (.tup [.int (c.1 : Int), .ref q]) := S.prot t _ tf u5 fun _ z => by cases z
      refine ⟨t, [.int (c.1 : Int), .ref q], rfl, st_of ht', rfl, .int (c.1 : Int), [.ref q], rfl, .ref q, [], rfl, rfl, ?_⟩
      have cm : c ∈ parts := List.mem_of_getElem? hci
      have tk : parts.take (i + 1) = parts.take i ++ [c] := take_next hci
      have hc' : ∀ d ∈ parts.take i, lenOk d.1 d.2.length := fun d hd => hc d (List.mem_of_mem_take hd)
      have ln : (parts.take i).length ≤ 60 := Nat.le_trans (by rw [List.length_take]; exact Nat.min_le_right _ _) hn
      have hI : ∀ s, after none (parts.take i) = some s → Inv (0 + (parts.take i).length * 4000000) s := inv_after _ none 0 (fun s h => by cases h) hc'
      have hl := playA_len (parts.take i) none 0 (fun s h => by cases h) hc'
      have hk0 : 0 + (parts.take i).length * 4000000 ≤ 300000000 := by omega
      refine ans_turn (a := a) (q := q) (c := c) S hf u6 qf hI hk0 (hc c cm) (by omega) fun v' v5' v6' H4 S4 h4 => ⟨v', _, _, v5', v6', rfl, ?_, ?_⟩
      · rw [tk, after_app]
        exact S4
      · rw [tk, playA_app]
        exact h4
    · intro σ' H' ⟨v, v3, v4, v5, v6, hs, S, hf⟩
      subst hs
      rw [List.length_map, p2, List.take_length] at hf
      exact s_ret (v := .ref fl) (ev_var rfl) fun H4 e4 => k H4 fl (e4 _ _ hf)
end
end Kc
/-! made by gen3.py: all defs put together; what the head must show -/
namespace Kc
open PySem PySem.Spec PyProof.Rows L2 KM Evl
section
variable {P : Program} {w : World} {K : PySem.W.Frag} {mg : Str → Option Value} {base : Heap} {T : Cls7} {B : Blt}
theorem fok_answers {f : Addr} {fd : FuncData} {sp : Sp} (F : C8.Def K mg "answers" s_answers f fd) (X : Txt K mg T B) {sp_split_calls : Sp} (c_split_calls : C8.Cal P w K mg base 1 "split_calls" sp_split_calls []) {sp_create : Sp} (c_create : C8.Cal P w K mg base 3 "create" sp_create []) {sp_perform : Sp} (c_perform : C8.Cal P w K mg base 26 "perform" sp_perform []) (len : ∀ vs H Q E, sp vs H Q E → vs.length = 1)
    (rd : ∀ vs H Q E, sp vs H Q E → t_answers K T sp_split_calls sp_create sp_perform { nx := fun _ H' => Q .non H', rt := Q } (start N_answers vs) H) : FnOk P w K mg base C8.CX0 28 f fd ["calls"] sp :=
  C8.fn0 F.fn sc_answers len fun cdv A outer s0 H vs Q E hr h => ⟨t_answers K T sp_split_calls sp_create sp_perform, (pss_cons (ps_set (i := 1) sc_answers.nd rfl (Or.inl rfl) pe_non)
      (pss_cons (ps_set (i := 2) sc_answers.nd rfl (Or.inl rfl) (pe_lst pa_nil))
      (pss_cons (ps_for PassesOwn.never rfl (pi_list (C8.pe_c c_split_calls hr (by decide) (by rfl) (pa_cons (pv 0) pa_nil))) (pg_tup (by rfl) (pgs_cons (pg_name (i := 3) sc_answers.nd rfl (Or.inl rfl)) (pgs_cons (pg_name (i := 4) sc_answers.nd rfl (Or.inl rfl)) pgs_nil))) (pss_cons (ps_if (pt_cmpR op_eq (pv 3) (C8.pe_gc (by rfl) X.g_CREATE) (nomark _)) (pss_cons (ps_set (i := 5) sc_answers.nd rfl (Or.inl rfl) (C8.pe_c c_create hr (by decide) (by rfl) (pa_cons (pv 4) pa_nil)))
      (pss_cons (ps_set (i := 6) sc_answers.nd rfl (Or.inl rfl) (pe_ifExp (pt_cmpR op_isN (pv 5) pe_non (nomark _)) (pe_lst (pa_cons (C8.pe_gc (by rfl) X.g_OUTSIDE) pa_nil)) (pe_lst (pa_cons pe_int pa_nil))))
      (pss_one (ps_set (i := 1) sc_answers.nd rfl (Or.inl rfl) (pe_ifExp (pt_cmpR op_isN (pv 5) pe_non (nomark _)) (pv 1) (pv 5)))))) (pss_one (ps_if (pt_cmpR op_isN (pv 1) pe_non (nomark _)) (pss_one (ps_set (i := 6) sc_answers.nd rfl (Or.inl rfl) (pe_lst (pa_cons (C8.pe_gc (by rfl) X.g_NO_SERVER) pa_nil)))) (pss_one (ps_set (i := 6) sc_answers.nd rfl (Or.inl rfl) (C8.pe_c c_perform hr (by decide) (by rfl) (pa_cons (pv 1) (pa_cons (pv 3) (pa_cons (pv 4) pa_nil)))))))))
      (pss_cons (ps_expr (pe_bm PySem.F.plainAttrs_list PySem.F.slot_list_append PySem.F.type_list_append mt_append (pv 2) (pa_cons (pe_callB call_len_seq (by rfl) X.b_len (by decide +kernel) (pa_cons (pv 6) pa_nil)) pa_nil)))
      (pss_one (ps_expr (pe_bm PySem.F.plainAttrs_list PySem.F.slot_list_extend PySem.F.type_list_extend mt_extend (pv 2) (pa_cons (pv 6) pa_nil)))))))
      (pss_one (ps_ret (pv 2)))))), rd vs H Q E h⟩
end
/-! ### facts -/
abbrev defL : List (Str × Stmt) := [(("in_state" : Str), s_in_state), (("has_free_slot" : Str), s_has_free_slot), (("open_requests" : Str), s_open_requests), (("waiting_requests" : Str), s_waiting_requests), (("present_quota" : Str), s_present_quota), (("estimated_wait" : Str), s_estimated_wait), (("can_be_joined" : Str), s_can_be_joined), (("shared_execution" : Str), s_shared_execution), (("is_instruction" : Str), s_is_instruction), (("is_program" : Str), s_is_program), (("take_instruction" : Str), s_take_instruction), (("emit" : Str), s_emit), (("values_to_emit" : Str), s_values_to_emit), (("execute" : Str), s_execute), (("end_request" : Str), s_end_request), (("queue_execution" : Str), s_queue_execution), (("earliest_deadline" : Str), s_earliest_deadline), (("starting_order" : Str), s_starting_order), (("finish" : Str), s_finish), (("resume" : Str), s_resume), (("fill_slots" : Str), s_fill_slots), (("drop" : Str), s_drop), (("abandon" : Str), s_abandon), (("leave" : Str), s_leave), (("end_grace" : Str), s_end_grace), (("status_of_stranger" : Str), s_status_of_stranger), (("turn_away" : Str), s_turn_away), (("quota_delay" : Str), s_quota_delay), (("is_full" : Str), s_is_full), (("admit" : Str), s_admit), (("join" : Str), s_join), (("arrive" : Str), s_arrive), (("upcoming_event" : Str), s_upcoming_event), (("happen" : Str), s_happen), (("advance_to" : Str), s_advance_to), (("copy_of_client" : Str), s_copy_of_client), (("copy_for_trial" : Str), s_copy_for_trial), (("arrive_on_trial" : Str), s_arrive_on_trial), (("next_event" : Str), s_next_event), (("shown_status" : Str), s_shown_status), (("request_info" : Str), s_request_info), (("response" : Str), s_response), (("state_value" : Str), s_state_value), (("execution_info" : Str), s_execution_info), (("counted_numbers" : Str), s_counted_numbers), (("list_queue" : Str), s_list_queue), (("list_running" : Str), s_list_running), (("registers" : Str), s_registers), (("quota" : Str), s_quota), (("find_key" : Str), s_find_key), (("estimate" : Str), s_estimate), (("statistics" : Str), s_statistics), (("status" : Str), s_status), (("look" : Str), s_look), (("is_limit" : Str), s_is_limit), (("create" : Str), s_create), (("add_method" : Str), s_add_method), (("add_client" : Str), s_add_client), (("request_error" : Str), s_request_error), (("send_request" : Str), s_send_request), (("preview_request" : Str), s_preview_request), (("cancel" : Str), s_cancel), (("advance" : Str), s_advance), (("run" : Str), s_run), (("shutdown" : Str), s_shutdown), (("set_limit" : Str), s_set_limit), (("set_roles" : Str), s_set_roles), (("perform" : Str), s_perform), (("split_calls" : Str), s_split_calls), (("answers" : Str), s_answers)]
abbrev clsL : List (Str × (Stmt × List Str)) := [(("Server" : Str), (s_Server, nS)), (("Method" : Str), (s_Method, nM)), (("Client" : Str), (s_Client, nC)), (("Frame" : Str), (s_Frame, nF)), (("Execution" : Str), (s_Execution, nE)), (("Request" : Str), (s_Request, nR)), (("Ask" : Str), (s_Ask, nA))]
abbrev conL : List (Str × Int) := [(("ADD_PAYLOAD" : Str), (3 : Int)), (("CALL" : Str), (5 : Int)), (("CANCELLED" : Str), (1 : Int)), (("CREATE" : Str), (0 : Int)), (("DEADLINE_COMES" : Str), (1 : Int)), (("DEADLINE_EXCEEDED" : Str), (4 : Int)), (("DROPPED" : Str), (3 : Int)), (("EMIT" : Str), (1 : Int)), (("EMIT_PAYLOAD" : Str), (2 : Int)), (("END" : Str), (4 : Int)), (("EXHAUSTED" : Str), (8 : Int)), (("FINISHED" : Str), (2 : Int)), (("GRACE_ENDS" : Str), (2 : Int)), (("GREATEST_NUMBER" : Str), (2 : Int)), (("INVALID" : Str), (3 : Int)), (("MOST_CLIENTS" : Str), (8 : Int)), (("MOST_EMITTED" : Str), (40 : Int)), (("MOST_EXECUTED" : Str), (100 : Int)), (("MOST_INSTRUCTIONS" : Str), (8 : Int)), (("MOST_LIMIT" : Str), (8 : Int)), (("MOST_METHODS" : Str), (6 : Int)), (("MOST_PAYLOAD" : Str), (8 : Int)), (("MOST_REQUESTS" : Str), (60 : Int)), (("MOST_ROLES" : Str), (15 : Int)), (("NOTHING_THERE" : Str), ((-33) : Int)), (("NOT_OPEN" : Str), ((-16) : Int)), (("NO_KEY" : Str), (0 : Int)), (("NO_SERVER" : Str), ((-11) : Int)), (("OK" : Str), (0 : Int)), (("OUTSIDE" : Str), ((-22) : Int)), (("PERMISSION_DENIED" : Str), (7 : Int)), (("QUEUED" : Str), (0 : Int)), (("REFUSED" : Str), (100 : Int)), (("REGISTER_COUNT" : Str), (4 : Int)), (("RUNNING" : Str), (1 : Int)), (("SMALLEST_DEADLINE" : Str), (1 : Int)), (("TOO_MANY" : Str), ((-28) : Int)), (("UNAUTHENTICATED" : Str), (16 : Int)), (("UNIMPLEMENTED" : Str), (12 : Int)), (("UNKNOWN" : Str), ((-2) : Int)), (("WAIT" : Str), (0 : Int)), (("WAIT_ENDS" : Str), (0 : Int))]
abbrev builL : List Str := ["len", "min", "max", "sum", "list", "reversed", "sorted", "range"]
abbrev objL : List Str := ["ARGUMENT_BOUNDS", "OPERATIONS", "VIEWS"]
/-- a dict of the top, int keys, functions of the top -/
def dictB (K : PySem.W.Frag) (a : Addr) (l : List (Nat × Str)) : Bool := match K.lookup a with
  | some o => (match o.data with
    | .dict es _ => decide (o.cls = .type "dict") && (o.dict.isNone && (decide (o.slots.size = 0) && (es.toList.all (fun e => match e.key with
        | .int k _ => decide (e.hash = hashInt k)
        | _ => false) && (l.all (fun e => match findBy Value.isInt es ((e.1 : Nat) : Int) with
        | some (.ref f) => decide (f = He.ga K e.2)
        | _ => false) && (List.range 23).all fun i => (l.map fun e => e.1).contains i || (findBy Value.isInt es ((i : Nat) : Int)).isNone))))
    | _ => false)
  | none => false
/-- a tuple of the top -/
def tupA (K : PySem.W.Frag) (a : Addr) : List Value := match K.lookup a with
  | some o => (match o.data with
    | .seq its _ => if o.cls = .type "tuple" then its.toList else []
    | _ => [])
  | none => []
def refA : Value → Addr
  | .ref a => a
  | _ => 0
def isRefB : Value → Bool
  | .ref _ => true
  | _ => false
def intB (v : Value) (n : Nat) : Bool := match v with
  | .int i _ => decide (i = (n : Int))
  | _ => false
def boundB (K : PySem.W.Frag) (a : Addr) : Bool := (tupA K a).all isRefB && (decide ((tupA K a).length = 7) && (List.range 7).all fun i => match tupA K (refA ((tupA K a).getD i .none)) with
  | [x, y] => intB x (bnds.getD i (0, 0)).1 && intB y (bnds.getD i (0, 0)).2
  | _ => false)
def tabA (K : PySem.W.Frag) : Addr × Addr := (PySem.W.tabIn K "starting_order").getD (0, 0)
def chkA (K : PySem.W.Frag) : Bool := (defL.all fun e => (He.Fa.glo e.1).ok K && ((He.Fa.keep e.1).ok K && (He.Fa.code (e.1, none) e.1).ok K)) && ((clsL.all fun e => (He.Fa.glo e.1).ok K && ((He.Fa.cls e.1).ok K && ((He.Fa.mkr e.1).ok K && ((He.Fa.code (e.1, some "__init__") (e.1 ++ ".__init__")).ok K && e.2.2.all fun f => (He.Fa.noat e.1 f).ok K))))
  && ((conL.all fun e => (He.Fa.int e.1 e.2).ok K) && ((builL.all fun x => (He.Fa.free x).ok K) && ((objL.all fun x => (He.Fa.glo x).ok K) && (dictB K (He.ga K "OPERATIONS") opN && (dictB K (He.ga K "VIEWS") viewN && (boundB K (He.ga K "ARGUMENT_BOUNDS") && ((PySem.W.tabIn K "starting_order").isSome && (K.lookup (tabA K).2).isNone))))))))
def obsA (K : PySem.W.Frag) : List He.FnV := defL.map (fun e => He.fnObs K (e.1, none)) ++ clsL.map fun e => He.fnObs K (e.1, some "__init__")
def valA : List He.FnV := defL.map (fun e => (some (e.1, e.1, C8.fnArgs e.2, .stmts (C8.fnBody e.2), C8.fnScope e.2, mainGlobals, [], .none, builtinsNs) : He.FnV)) ++ clsL.map fun e => (some ("__init__", e.1 ++ ".__init__", C8.fnArgs e.2.1, .stmts (C8.fnBody e.2.1), C8.fnScope e.2.1, mainGlobals, [], .none, builtinsNs) : He.FnV)
structure Says (K : PySem.W.Frag) : Prop where
  chk : chkA K = true
  obs : obsA K = valA
section
variable {K : PySem.W.Frag} {h : Heap} {mg : Str → Option Value}
theorem Says.parts (S : Says K) : (∀ e ∈ defL, (He.Fa.glo e.1).ok K = true ∧ (He.Fa.keep e.1).ok K = true ∧ (He.Fa.code (e.1, none) e.1).ok K = true) ∧ (∀ e ∈ clsL, (He.Fa.glo e.1).ok K = true ∧ (He.Fa.cls e.1).ok K = true ∧ (He.Fa.mkr e.1).ok K = true ∧ (He.Fa.code (e.1, some "__init__") (e.1 ++ ".__init__")).ok K = true ∧ ∀ f ∈ e.2.2, (He.Fa.noat e.1 f).ok K = true)
    ∧ (∀ e ∈ conL, (He.Fa.int e.1 e.2).ok K = true) ∧ (∀ x ∈ builL, (He.Fa.free x).ok K = true) ∧ (∀ x ∈ objL, (He.Fa.glo x).ok K = true) ∧ dictB K (He.ga K "OPERATIONS") opN = true ∧ dictB K (He.ga K "VIEWS") viewN = true ∧ boundB K (He.ga K "ARGUMENT_BOUNDS") = true ∧ (PySem.W.tabIn K "starting_order").isSome = true ∧ (K.lookup (tabA K).2).isNone = true := by
  have c := S.chk
  unfold chkA at c
  obtain ⟨c1, c⟩ := He.ba c
  obtain ⟨c2, c⟩ := He.ba c
  obtain ⟨c3, c⟩ := He.ba c
  obtain ⟨c4, c⟩ := He.ba c
  obtain ⟨c5, c⟩ := He.ba c
  obtain ⟨c6, c⟩ := He.ba c
  obtain ⟨c7, c⟩ := He.ba c
  obtain ⟨c8, c⟩ := He.ba c
  obtain ⟨c9, c10⟩ := He.ba c
  refine ⟨fun e he => ?_, fun e he => ?_, List.all_eq_true.mp c3, List.all_eq_true.mp c4, List.all_eq_true.mp c5, c6, c7, c8, c9, c10⟩
  · obtain ⟨a, b⟩ := He.ba (List.all_eq_true.mp c1 e he)
    exact ⟨a, He.ba b⟩
  · obtain ⟨a, b⟩ := He.ba (List.all_eq_true.mp c2 e he)
    obtain ⟨b, d⟩ := He.ba b
    obtain ⟨d, f⟩ := He.ba d
    obtain ⟨f, g⟩ := He.ba f
    exact ⟨a, b, d, f, List.all_eq_true.mp g⟩
/-- a def of the module -/
theorem Says.def_ (S : Says K) (X : K.In h) (G : h.Ns mainGlobals mg) {x : Str} {st : Stmt} (i : Nat) (hi : defL[i]? = some (x, st)) : ∃ fd, C8.Def K mg x st (He.ga K x) fd ∧ fd.defaults = .none := by
  obtain ⟨a, b, c⟩ := S.parts.1 _ (List.mem_of_getElem? hi)
  have hl : i < defL.length := (List.getElem?_eq_some_iff.mp hi).1
  have e := congrArg (fun l : List He.FnV => l[i]?) S.obs
  unfold obsA valA at e
  rw [List.getElem?_append_left (by rw [List.length_map]; exact hl), List.getElem?_append_left (by rw [List.length_map]; exact hl), List.getElem?_map, List.getElem?_map, hi] at e
  obtain ⟨oc, od, osl, kV, doc, pm, an, cdv, ct, lk, hc⟩ := He.fn_ok (d := ⟨(x, none), x, x, C8.fnArgs st, C8.fnBody st, C8.fnScope st⟩) (Option.some.inj e) c
  exact ⟨_, ⟨⟨⟨oc, od, .none, kV, doc, pm, an, cdv, ct, osl, rfl, lk, hc⟩⟩, He.glo_ok X G a, b⟩, rfl⟩
/-- a class's maker -/
theorem Says.init_ (S : Says K) (X : K.In h) (G : h.Ns mainGlobals mg) {x : Str} {st : Stmt} {ns : List Str} (i : Nat) (hi : clsL[i]? = some (x, (st, ns))) : ∃ fd, C8.Fun K "__init__" (x ++ ".__init__") st (He.ma K (He.ga K x) "__init__") fd ∧ fd.defaults = .none ∧ Mk K (He.ga K x) (He.ma K (He.ga K x) "__init__") ∧ mg x = some (.ref (He.ga K x)) ∧ Cls K (He.ga K x) ∧ ∀ f ∈ ns, NoAttr K (He.ga K x) f := by
  obtain ⟨a, b, c, d, n⟩ := S.parts.2.1 _ (List.mem_of_getElem? hi)
  have e := congrArg (fun l : List He.FnV => l[defL.length + i]?) S.obs
  unfold obsA valA at e
  rw [List.getElem?_append_right (by rw [List.length_map]; exact Nat.le_add_right _ _), List.getElem?_append_right (by rw [List.length_map]; exact Nat.le_add_right _ _), List.length_map, List.length_map, Nat.add_sub_cancel_left, List.getElem?_map, List.getElem?_map, hi] at e
  obtain ⟨oc, od, osl, kV, doc, pm, an, cdv, ct, lk, hc⟩ := He.fn_ok (d := ⟨(x, some "__init__"), "__init__", x ++ ".__init__", C8.fnArgs st, C8.fnBody st, C8.fnScope st⟩) (Option.some.inj e) d
  exact ⟨_, ⟨⟨oc, od, .none, kV, doc, pm, an, cdv, ct, osl, rfl, lk, hc⟩⟩, rfl, He.mkr_ok c, He.glo_ok X G a, He.cls_ok b, fun f hf => He.noat_ok (n f hf)⟩
theorem Says.con (S : Says K) (X : K.In h) (G : h.Ns mainGlobals mg) {x : Str} {v : Int} (i : Nat) (hi : conL[i]? = some (x, v)) : ∃ u, mg x = some u ∧ RelV (.int v) u := by
  obtain ⟨t, ht⟩ := He.int_ok X G (S.parts.2.2.1 _ (List.mem_of_getElem? hi))
  exact ⟨_, ht, ⟨t, rfl⟩⟩
theorem Says.free (S : Says K) (X : K.In h) (G : h.Ns mainGlobals mg) {x : Str} (i : Nat) (hi : builL[i]? = some x) : mg x = none := He.free_ok X G (S.parts.2.2.2.1 _ (List.mem_of_getElem? hi))
theorem Says.obj (S : Says K) (X : K.In h) (G : h.Ns mainGlobals mg) {x : Str} (i : Nat) (hi : objL[i]? = some x) : ∃ u, mg x = some u ∧ RelV (.ref (He.ga K x)) u := ⟨_, He.glo_ok X G (S.parts.2.2.2.2.1 _ (List.mem_of_getElem? hi)), rfl⟩
theorem named_of {x : Str} {st : Stmt} {f : Addr} {fd : FuncData} (F : C8.Def K mg x st f fd) : Named K mg x f := by
  obtain ⟨oc, od, dV, kV, doc, pm, an, cdv, ct, osl, rfl, lk, hcd⟩ := F.fn.ex
  refine ⟨?_, F.mgf⟩
  unfold nameOf
  rw [lk]
theorem dict_of {a : Addr} {l : List (Nat × Str)} (c : dictB K a l = true) (hn : ∀ e ∈ l, Named K mg e.2 (He.ga K e.2)) : DictN K mg a l := by
  unfold dictB at c
  split at c
  · rename_i o ho
    split at c
    · rename_i es n hd
      obtain ⟨c1, c⟩ := He.ba c
      obtain ⟨c2, c⟩ := He.ba c
      obtain ⟨c3, c⟩ := He.ba c
      obtain ⟨c4, c⟩ := He.ba c
      obtain ⟨c5, c6⟩ := He.ba c
      obtain ⟨oc, od, dt, sl⟩ := o
      dsimp only at c1 c2 c3 hd
      subst hd
      have e1 : oc = .type "dict" := of_decide_eq_true c1
      have e2 : od = none := by
        cases od with
        | none => rfl
        | some _ => cases c2
      have e3 : sl = #[] := Array.eq_empty_of_size_eq_zero (of_decide_eq_true c3)
      subst e1 e2 e3
      refine ⟨es, n, ho, fun e he => ?_, fun e he => ?_, fun i hi hc => ?_⟩
      · have z := List.all_eq_true.mp c4 e he
        split at z
        · rename_i k t hk
          exact ⟨k, t, hk, of_decide_eq_true z⟩
        · cases z
      · have z := List.all_eq_true.mp c5 e he
        split at z
        · rename_i f hf
          have ef : f = He.ga K e.2 := of_decide_eq_true z
          exact ⟨f, hf, by rw [ef]; exact hn e he⟩
        · cases z
      · have z := List.all_eq_true.mp c6 i (List.mem_range.mpr (by omega))
        rw [hc, Bool.false_or] at z
        exact Option.isNone_iff_eq_none.mp z
    · cases c
  · cases c
theorem tup_sq {a : Addr} {xs : List V} (h : Vals xs (tupA K a)) (hne : tupA K a ≠ []) (hl : (tupA K a).length ≤ 100) (H : Hp) : SqT K H a xs := by
  unfold tupA at h hne hl
  split at h
  · rename_i o ho
    rw [ho] at hne hl
    dsimp only at hne hl
    split at h
    · rename_i its n hd
      rw [hd] at hne hl
      dsimp only at hne hl
      split at h
      · rename_i hc
        rw [if_pos hc] at hl
        exact .inr ⟨o, its, n, ho, hc, hd, sz_of (by rw [← Array.length_toList]; omega), h⟩
      · rename_i hc
        rw [if_neg hc] at hne
        exact absurd rfl hne
    · rename_i hd
      exfalso
      apply hne
      split
      · rename_i its n hd2
        exact absurd hd2 (hd its n)
      · rfl
  · rename_i ho
    rw [ho] at hne
    exact absurd rfl hne
theorem vals_refs : ∀ {us : List Value}, us.all isRefB = true → Vals ((us.map refA).map V.ref) us
  | [], _ => .nil
  | u :: us, h => by
    rw [List.all_cons, Bool.and_eq_true] at h
    refine .cons ?_ (vals_refs h.2)
    cases u <;> first | (cases h.1; done) | rfl
theorem intB_rel {v : Value} {n : Nat} (h : intB v n = true) : RelV (.int (n : Int)) v := by
  unfold intB at h
  split at h
  · rename_i i t
    exact ⟨t, by rw [of_decide_eq_true h]⟩
  · cases h
theorem bound_of {T : Addr} (c : boundB K T = true) {ops views : Addr} : Bounds K ⟨T, ops, views⟩ := by
  unfold boundB at c
  obtain ⟨c1, c⟩ := He.ba c
  obtain ⟨c2, c3⟩ := He.ba c
  have l7 : (tupA K T).length = 7 := of_decide_eq_true c2
  refine ⟨(tupA K T).map refA, fun H => tup_sq (vals_refs c1) (fun z => by rw [z] at l7; cases l7) (by omega) H, by rw [List.length_map]; exact l7, fun i lo hi hb => ?_⟩
  have hi7 : i < 7 := (List.getElem?_eq_some_iff.mp hb).1
  have z := List.all_eq_true.mp c3 i (List.mem_range.mpr hi7)
  have bd : bnds.getD i (0, 0) = (lo, hi) := by rw [List.getD_eq_getElem?_getD, hb]; rfl
  rw [bd] at z
  have gi : (tupA K T)[i]? = some ((tupA K T).getD i .none) := by rw [List.getD_eq_getElem?_getD, List.getElem?_eq_getElem (by omega)]; rfl
  refine ⟨refA ((tupA K T).getD i .none), by rw [List.getElem?_map, gi]; rfl, fun H => ?_⟩
  split at z
  · rename_i x y he
    obtain ⟨z1, z2⟩ := He.ba z
    refine tup_sq (K := K) (a := refA ((tupA K T).getD i .none)) ?_ (by rw [he]; exact fun w => by cases w) (by rw [he]; show 2 ≤ 100; decide) H
    rw [he]
    exact .cons (intB_rel z1) (.cons (intB_rel z2) .nil)
  · cases z
/-- the def of the lambda: its code object is the table's -/
theorem defT_of {x : Str} {st : Stmt} {fd : FuncData} (F : C8.Def K mg x st (He.ga K x) fd) (df : fd.defaults = .none) (g : (He.Fa.glo x).ok K = true) {c Pt : Addr} (t : PySem.W.tabIn K x = some (c, Pt)) : DefT K mg x st (He.ga K x) c := by
  obtain ⟨oc, od, dV, kV, doc, pm, an, cdv, ct, osl, rfl, lk, hcd⟩ := F.fn.ex
  have hd : dV = .none := df
  subst hd
  have e : cdv = .ref c := by
    unfold PySem.W.tabIn at t
    rw [He.eqO_ok g] at t
    dsimp only at t
    rw [lk] at t
    dsimp only at t
    split at t
    · rename_i c2
      split at t
      · split at t
        · cases t
          rfl
        · cases t
      · cases t
    · cases t
  subst e
  exact ⟨⟨oc, od, kV, doc, pm, an, ct, osl, lk, hcd⟩, F.mgf, F.kp⟩
theorem cal_mono {P : Program} {w : World} {base : Heap} {x : Str} {sp : Sp} {dvs : List V} {j k : Nat} (c : C8.Cal P w K mg base j x sp dvs) (h : j ≤ k) : C8.Cal P w K mg base k x sp dvs := by
  obtain ⟨f, fd, ps, ds, F, a, b, d, e⟩ := c.ex
  exact ⟨f, fd, ps, ds, F.mono h, a, b, d, e⟩
end
/-! ### all together -/
def clsA (K : PySem.W.Frag) : Cls7 := ⟨He.ga K "Server", He.ga K "Method", He.ga K "Client", He.ga K "Frame", He.ga K "Execution", He.ga K "Request", He.ga K "Ask", (tabA K).2⟩
def bltA (K : PySem.W.Frag) : Blt := ⟨He.ga K "ARGUMENT_BOUNDS", He.ga K "OPERATIONS", He.ga K "VIEWS"⟩
theorem txt_of {K : PySem.W.Frag} {h : Heap} {mg : Str → Option Value} (S : Says K) (X : K.In h) (G : h.Ns mainGlobals mg) : Txt K mg (clsA K) (bltA K) := by
  obtain ⟨_, _, _, _, _, cS, nS⟩ := S.init_ X G 0 (x := "Server") (st := s_Server) (ns := nS) rfl
  obtain ⟨_, _, _, _, _, cM, nM⟩ := S.init_ X G 1 (x := "Method") (st := s_Method) (ns := nM) rfl
  obtain ⟨_, _, _, _, _, cC, nC⟩ := S.init_ X G 2 (x := "Client") (st := s_Client) (ns := nC) rfl
  obtain ⟨_, _, _, _, _, cF, nF⟩ := S.init_ X G 3 (x := "Frame") (st := s_Frame) (ns := nF) rfl
  obtain ⟨_, _, _, _, _, cE, nE⟩ := S.init_ X G 4 (x := "Execution") (st := s_Execution) (ns := nE) rfl
  obtain ⟨_, _, _, _, _, cR, nR⟩ := S.init_ X G 5 (x := "Request") (st := s_Request) (ns := nR) rfl
  obtain ⟨_, _, _, _, _, cA, nA⟩ := S.init_ X G 6 (x := "Ask") (st := s_Ask) (ns := nA) rfl
  exact {
    clS := cS
    clM := cM
    clC := cC
    clF := cF
    clE := cE
    clR := cR
    clA := cA
    nS := nS
    nM := nM
    nC := nC
    nF := nF
    nE := nE
    nR := nR
    nA := nA
    g_ADD_PAYLOAD := S.con X G 0 rfl
    g_CALL := S.con X G 1 rfl
    g_CANCELLED := S.con X G 2 rfl
    g_CREATE := S.con X G 3 rfl
    g_DEADLINE_COMES := S.con X G 4 rfl
    g_DEADLINE_EXCEEDED := S.con X G 5 rfl
    g_DROPPED := S.con X G 6 rfl
    g_EMIT := S.con X G 7 rfl
    g_EMIT_PAYLOAD := S.con X G 8 rfl
    g_END := S.con X G 9 rfl
    g_EXHAUSTED := S.con X G 10 rfl
    g_FINISHED := S.con X G 11 rfl
    g_GRACE_ENDS := S.con X G 12 rfl
    g_GREATEST_NUMBER := S.con X G 13 rfl
    g_INVALID := S.con X G 14 rfl
    g_MOST_CLIENTS := S.con X G 15 rfl
    g_MOST_EMITTED := S.con X G 16 rfl
    g_MOST_EXECUTED := S.con X G 17 rfl
    g_MOST_INSTRUCTIONS := S.con X G 18 rfl
    g_MOST_LIMIT := S.con X G 19 rfl
    g_MOST_METHODS := S.con X G 20 rfl
    g_MOST_PAYLOAD := S.con X G 21 rfl
    g_MOST_REQUESTS := S.con X G 22 rfl
    g_MOST_ROLES := S.con X G 23 rfl
    g_NOTHING_THERE := S.con X G 24 rfl
    g_NOT_OPEN := S.con X G 25 rfl
    g_NO_KEY := S.con X G 26 rfl
    g_NO_SERVER := S.con X G 27 rfl
    g_OK := S.con X G 28 rfl
    g_OUTSIDE := S.con X G 29 rfl
    g_PERMISSION_DENIED := S.con X G 30 rfl
    g_QUEUED := S.con X G 31 rfl
    g_REFUSED := S.con X G 32 rfl
    g_REGISTER_COUNT := S.con X G 33 rfl
    g_RUNNING := S.con X G 34 rfl
    g_SMALLEST_DEADLINE := S.con X G 35 rfl
    g_TOO_MANY := S.con X G 36 rfl
    g_UNAUTHENTICATED := S.con X G 37 rfl
    g_UNIMPLEMENTED := S.con X G 38 rfl
    g_UNKNOWN := S.con X G 39 rfl
    g_WAIT := S.con X G 40 rfl
    g_WAIT_ENDS := S.con X G 41 rfl
    g_ARGUMENT_BOUNDS := S.obj X G 0 rfl
    g_OPERATIONS := S.obj X G 1 rfl
    g_VIEWS := S.obj X G 2 rfl
    b_len := S.free X G 0 rfl
    b_min := S.free X G 1 rfl
    b_max := S.free X G 2 rfl
    b_sum := S.free X G 3 rfl
    b_list := S.free X G 4 rfl
    b_reversed := S.free X G 5 rfl
    b_sorted := S.free X G 6 rfl
    b_range := S.free X G 7 rfl
  }
theorem fn_answers {P : Program} {w : World} {K : PySem.W.Frag} {h base : Heap} {mg : Str → Option Value} (S : Says K) (X0 : K.In h) (G0 : h.Ns mainGlobals mg) (XB : K.In base) (GB : base.Ns mainGlobals mg) (TB : LamX.TabB base mg (tabA K).1 (tabA K).2) {fd : FuncData} (FA : C8.Def K mg "answers" s_answers (He.ga K "answers") fd) :
    FnOk P w K mg base C8.CX0 30 (He.ga K "answers") fd ["calls"] (spAnswers K (clsA K)) := by
  have X := txt_of S X0 G0
  have tb : PySem.W.tabIn K "starting_order" = some ((tabA K).1, (tabA K).2) := by
    have z := S.parts.2.2.2.2.2.2.2.2.1
    unfold tabA
    cases q : PySem.W.tabIn K "starting_order" with
    | none => rw [q] at z; cases z
    | some y => rfl
  generalize hT : clsA K = T at X
  generalize hB : bltA K = B at X
  obtain ⟨_, F_Server, d_Server, M_Server, g_Server, _, _⟩ := S.init_ X0 G0 0 (x := "Server") (st := s_Server) (ns := nS) rfl
  have m_Server : C8.Mak P w K mg base 1 "Server" T.S (spServer T) [] := by
    have tc : T.S = He.ga K "Server" := by rw [← hT]; rfl
    have M' : Mk K T.S (He.ma K (He.ga K "Server") "__init__") := by rw [tc]; exact M_Server
    have g' : mg "Server" = some (.ref T.S) := by rw [tc]; exact g_Server
    exact mak_Server F_Server (F_Server.binds d_Server (fun _ _ _ _ _ _ us hl => match us, hl with | [_, _, _, _, _, _], _ => rfl)) M' g' X (fun vs H Q E h => by obtain ⟨_, _, _, _, _, _, _, rfl, _⟩ := h; rfl) (fun vs H Q E h => rd_Server X vs H Q E h)
  obtain ⟨_, F_Method, d_Method, M_Method, g_Method, _, _⟩ := S.init_ X0 G0 1 (x := "Method") (st := s_Method) (ns := nM) rfl
  have m_Method : C8.Mak P w K mg base 1 "Method" T.M (spMethod T) [] := by
    have tc : T.M = He.ga K "Method" := by rw [← hT]; rfl
    have M' : Mk K T.M (He.ma K (He.ga K "Method") "__init__") := by rw [tc]; exact M_Method
    have g' : mg "Method" = some (.ref T.M) := by rw [tc]; exact g_Method
    exact mak_Method F_Method (F_Method.binds d_Method (fun _ _ _ _ _ _ us hl => match us, hl with | [_, _, _, _], _ => rfl)) M' g' X (fun vs H Q E h => by obtain ⟨_, _, _, _, _, rfl, _⟩ := h; rfl) (fun vs H Q E h => rd_Method X vs H Q E h)
  obtain ⟨_, F_Client, d_Client, M_Client, g_Client, _, _⟩ := S.init_ X0 G0 2 (x := "Client") (st := s_Client) (ns := nC) rfl
  have m_Client : C8.Mak P w K mg base 1 "Client" T.C (spClient T) [] := by
    have tc : T.C = He.ga K "Client" := by rw [← hT]; rfl
    have M' : Mk K T.C (He.ma K (He.ga K "Client") "__init__") := by rw [tc]; exact M_Client
    have g' : mg "Client" = some (.ref T.C) := by rw [tc]; exact g_Client
    exact mak_Client F_Client (F_Client.binds d_Client (fun _ _ _ _ _ _ us hl => match us, hl with | [_, _, _, _, _, _], _ => rfl)) M' g' X (fun vs H Q E h => by obtain ⟨_, _, _, _, _, _, _, rfl, _⟩ := h; rfl) (fun vs H Q E h => rd_Client X vs H Q E h)
  obtain ⟨_, F_Frame, d_Frame, M_Frame, g_Frame, _, _⟩ := S.init_ X0 G0 3 (x := "Frame") (st := s_Frame) (ns := nF) rfl
  have m_Frame : C8.Mak P w K mg base 1 "Frame" T.F (spFrame T) [] := by
    have tc : T.F = He.ga K "Frame" := by rw [← hT]; rfl
    have M' : Mk K T.F (He.ma K (He.ga K "Frame") "__init__") := by rw [tc]; exact M_Frame
    have g' : mg "Frame" = some (.ref T.F) := by rw [tc]; exact g_Frame
    exact mak_Frame F_Frame (F_Frame.binds d_Frame (fun _ _ _ _ _ _ us hl => match us, hl with | [_, _], _ => rfl)) M' g' X (fun vs H Q E h => by obtain ⟨_, _, _, rfl, _⟩ := h; rfl) (fun vs H Q E h => rd_Frame X vs H Q E h)
  obtain ⟨_, F_Execution, d_Execution, M_Execution, g_Execution, _, _⟩ := S.init_ X0 G0 4 (x := "Execution") (st := s_Execution) (ns := nE) rfl
  have m_Execution : C8.Mak P w K mg base 3 "Execution" T.E (spExecution T) [] := by
    have tc : T.E = He.ga K "Execution" := by rw [← hT]; rfl
    have M' : Mk K T.E (He.ma K (He.ga K "Execution") "__init__") := by rw [tc]; exact M_Execution
    have g' : mg "Execution" = some (.ref T.E) := by rw [tc]; exact g_Execution
    exact mak_Execution F_Execution (F_Execution.binds d_Execution (fun _ _ _ _ _ _ us hl => match us, hl with | [_, _, _, _], _ => rfl)) M' g' X m_Frame (fun vs H Q E h => by obtain ⟨_, _, _, _, _, _, _, rfl, _⟩ := h; rfl) (fun vs H Q E h => rd_Execution X vs H Q E h)
  obtain ⟨_, F_Request, d_Request, M_Request, g_Request, _, _⟩ := S.init_ X0 G0 5 (x := "Request") (st := s_Request) (ns := nR) rfl
  have m_Request : C8.Mak P w K mg base 1 "Request" T.R (spRequest T) [] := by
    have tc : T.R = He.ga K "Request" := by rw [← hT]; rfl
    have M' : Mk K T.R (He.ma K (He.ga K "Request") "__init__") := by rw [tc]; exact M_Request
    have g' : mg "Request" = some (.ref T.R) := by rw [tc]; exact g_Request
    exact mak_Request F_Request (F_Request.binds d_Request (fun _ _ _ _ _ _ us hl => match us, hl with | [_, _, _, _, _], _ => rfl)) M' g' X (fun vs H Q E h => by obtain ⟨_, _, _, _, _, _, rfl, _⟩ := h; rfl) (fun vs H Q E h => rd_Request X vs H Q E h)
  obtain ⟨_, F_Ask, d_Ask, M_Ask, g_Ask, _, _⟩ := S.init_ X0 G0 6 (x := "Ask") (st := s_Ask) (ns := nA) rfl
  have m_Ask : C8.Mak P w K mg base 1 "Ask" T.A (spAsk K T) [] := by
    have tc : T.A = He.ga K "Ask" := by rw [← hT]; rfl
    have M' : Mk K T.A (He.ma K (He.ga K "Ask") "__init__") := by rw [tc]; exact M_Ask
    have g' : mg "Ask" = some (.ref T.A) := by rw [tc]; exact g_Ask
    exact mak_Ask F_Ask (F_Ask.binds d_Ask (fun _ _ _ _ _ _ us hl => match us, hl with | [_, _], _ => rfl)) M' g' X (fun vs H Q E h => by obtain ⟨_, _, _, _, rfl, _⟩ := h; rfl) (fun vs H Q E h => rd_Ask X vs H Q E h)
  have c_in_state : C8.Cal P w K mg base 1 "in_state" (spInState T) [] := by
    obtain ⟨_, F, d⟩ := S.def_ X0 G0 0 (x := "in_state") (st := s_in_state) rfl
    exact cal_in_state F (F.fn.binds d (fun _ _ _ _ _ _ us hl => match us, hl with | [_, _], _ => rfl)) X (fun vs H Q E h => by obtain ⟨_, _, _, rfl, _⟩ := h; rfl) (fun vs H Q E h => rd_in_state X vs H Q E h)
  have c_has_free_slot : C8.Cal P w K mg base 2 "has_free_slot" (spFree T) [] := by
    obtain ⟨_, F, d⟩ := S.def_ X0 G0 1 (x := "has_free_slot") (st := s_has_free_slot) rfl
    exact cal_has_free_slot F (F.fn.binds d (fun _ _ _ _ _ _ us hl => match us, hl with | [_], _ => rfl)) X c_in_state (fun vs H Q E h => by obtain ⟨_, _, rfl, _⟩ := h; rfl) (fun vs H Q E h => rd_has_free_slot X vs H Q E h)
  have c_open_requests : C8.Cal P w K mg base 1 "open_requests" (spOpen T) [] := by
    obtain ⟨_, F, d⟩ := S.def_ X0 G0 2 (x := "open_requests") (st := s_open_requests) rfl
    exact cal_open_requests F (F.fn.binds d (fun _ _ _ _ _ _ us hl => match us, hl with | [_], _ => rfl)) X (fun vs H Q E h => by obtain ⟨_, _, rfl, _⟩ := h; rfl) (fun vs H Q E h => rd_open_requests X vs H Q E h)
  have c_waiting_requests : C8.Cal P w K mg base 2 "waiting_requests" (spWaiting T) [] := by
    obtain ⟨_, F, d⟩ := S.def_ X0 G0 3 (x := "waiting_requests") (st := s_waiting_requests) rfl
    exact cal_waiting_requests F (F.fn.binds d (fun _ _ _ _ _ _ us hl => match us, hl with | [_, _], _ => rfl)) X c_open_requests (fun vs H Q E h => by obtain ⟨_, _, _, rfl, _⟩ := h; rfl) (fun vs H Q E h => rd_waiting_requests X vs H Q E h)
  have c_present_quota : C8.Cal P w K mg base 1 "present_quota" (spQuota T) [] := by
    obtain ⟨_, F, d⟩ := S.def_ X0 G0 4 (x := "present_quota") (st := s_present_quota) rfl
    exact cal_present_quota F (F.fn.binds d (fun _ _ _ _ _ _ us hl => match us, hl with | [_, _], _ => rfl)) X (fun vs H Q E h => by obtain ⟨_, _, _, _, rfl, _⟩ := h; rfl) (fun vs H Q E h => rd_present_quota X vs H Q E h)
  have c_estimated_wait : C8.Cal P w K mg base 3 "estimated_wait" (spWait T) [] := by
    obtain ⟨_, F, d⟩ := S.def_ X0 G0 5 (x := "estimated_wait") (st := s_estimated_wait) rfl
    exact cal_estimated_wait F (F.fn.binds d (fun _ _ _ _ _ _ us hl => match us, hl with | [_], _ => rfl)) X c_has_free_slot c_in_state (fun vs H Q E h => by obtain ⟨_, _, rfl, _⟩ := h; rfl) (fun vs H Q E h => rd_estimated_wait X vs H Q E h)
  have c_can_be_joined : C8.Cal P w K mg base 1 "can_be_joined" (spJoinable T) [] := by
    obtain ⟨_, F, d⟩ := S.def_ X0 G0 6 (x := "can_be_joined") (st := s_can_be_joined) rfl
    exact cal_can_be_joined F (F.fn.binds d (fun _ _ _ _ _ _ us hl => match us, hl with | [_, _], _ => rfl)) X (fun vs H Q E h => by obtain ⟨_, _, _, rfl, _⟩ := h; rfl) (fun vs H Q E h => rd_can_be_joined X vs H Q E h)
  have c_shared_execution : C8.Cal P w K mg base 2 "shared_execution" (spShared T) [] := by
    obtain ⟨_, F, d⟩ := S.def_ X0 G0 7 (x := "shared_execution") (st := s_shared_execution) rfl
    exact cal_shared_execution F (F.fn.binds d (fun _ _ _ _ _ _ us hl => match us, hl with | [_, _, _], _ => rfl)) X c_can_be_joined (fun vs H Q E h => by obtain ⟨_, _, _, _, rfl, _⟩ := h; rfl) (fun vs H Q E h => rd_shared_execution X vs H Q E h)
  have Y : Bounds K B := by
    rw [← hB]
    exact bound_of S.parts.2.2.2.2.2.2.2.1
  have c_is_instruction : C8.Cal P w K mg base 1 "is_instruction" (spInstr) [] := by
    obtain ⟨_, F, d⟩ := S.def_ X0 G0 8 (x := "is_instruction") (st := s_is_instruction) rfl
    exact cal_is_instruction F (F.fn.binds d (fun _ _ _ _ _ _ us hl => match us, hl with | [_, _, _], _ => rfl)) X (fun vs H Q E h => by obtain ⟨_, _, _, rfl, _⟩ := h; rfl) (fun vs H Q E h => rd_is_instruction X Y vs H Q E h)
  have c_is_program : C8.Cal P w K mg base 2 "is_program" (spProg K) [] := by
    obtain ⟨_, F, d⟩ := S.def_ X0 G0 9 (x := "is_program") (st := s_is_program) rfl
    exact cal_is_program F (F.fn.binds d (fun _ _ _ _ _ _ us hl => match us, hl with | [_, _], _ => rfl)) X c_is_instruction (fun vs H Q E h => by obtain ⟨_, _, _, rfl, _⟩ := h; rfl) (fun vs H Q E h => rd_is_program X vs H Q E h)
  have c_take_instruction : C8.Cal P w K mg base 1 "take_instruction" (spTake T) [] := by
    obtain ⟨_, F, d⟩ := S.def_ X0 G0 10 (x := "take_instruction") (st := s_take_instruction) rfl
    exact cal_take_instruction F (F.fn.binds d (fun _ _ _ _ _ _ us hl => match us, hl with | [_], _ => rfl)) X (fun vs H Q E h => by obtain ⟨_, _, _, _, rfl, _⟩ := h; rfl) (fun vs H Q E h => rd_take_instruction X vs H Q E h)
  have c_emit : C8.Cal P w K mg base 1 "emit" (spEmit T) [] := by
    obtain ⟨_, F, d⟩ := S.def_ X0 G0 11 (x := "emit") (st := s_emit) rfl
    exact cal_emit F (F.fn.binds d (fun _ _ _ _ _ _ us hl => match us, hl with | [_, _], _ => rfl)) X (fun vs H Q E h => by obtain ⟨_, _, _, _, _, _, rfl, _⟩ := h; rfl) (fun vs H Q E h => rd_emit X vs H Q E h)
  have c_values_to_emit : C8.Cal P w K mg base 1 "values_to_emit" (spValues T) [] := by
    obtain ⟨_, F, d⟩ := S.def_ X0 G0 12 (x := "values_to_emit") (st := s_values_to_emit) rfl
    exact cal_values_to_emit F (F.fn.binds d (fun _ _ _ _ _ _ us hl => match us, hl with | [_, _, _, _], _ => rfl)) X (fun vs H Q E h => by obtain ⟨_, _, _, _, _, _, rfl, _⟩ := h; rfl) (fun vs H Q E h => rd_values_to_emit X vs H Q E h)
  have c_execute : C8.Cal P w K mg base 3 "execute" (spExecute T) [] := by
    obtain ⟨_, F, d⟩ := S.def_ X0 G0 13 (x := "execute") (st := s_execute) rfl
    exact cal_execute F (F.fn.binds d (fun _ _ _ _ _ _ us hl => match us, hl with | [_, _], _ => rfl)) X m_Frame c_take_instruction c_emit c_values_to_emit (fun vs H Q E h => by obtain ⟨_, _, _, _, rfl, _⟩ := h; rfl) (fun vs H Q E h => rd_execute X vs H Q E h)
  have c_end_request : C8.Cal P w K mg base 1 "end_request" (spEndReq T) [] := by
    obtain ⟨_, F, d⟩ := S.def_ X0 G0 14 (x := "end_request") (st := s_end_request) rfl
    exact cal_end_request F (F.fn.binds d (fun _ _ _ _ _ _ us hl => match us, hl with | [_, _, _], _ => rfl)) X (fun vs H Q E h => by obtain ⟨_, _, _, _, rfl, _⟩ := h; rfl) (fun vs H Q E h => rd_end_request X vs H Q E h)
  have c_queue_execution : C8.Cal P w K mg base 5 "queue_execution" (spQueue T) [] := by
    obtain ⟨_, F, d⟩ := S.def_ X0 G0 15 (x := "queue_execution") (st := s_queue_execution) rfl
    exact cal_queue_execution F (F.fn.binds d (fun _ _ _ _ _ _ us hl => match us, hl with | [_, _], _ => rfl)) X m_Execution (fun vs H Q E h => by obtain ⟨_, _, _, _, _, rfl, _⟩ := h; rfl) (fun vs H Q E h => rd_queue_execution X vs H Q E h)
  have c_earliest_deadline : C8.Cal P w K mg base 3 "earliest_deadline" (spEarliest T) [] := by
    obtain ⟨_, F, d⟩ := S.def_ X0 G0 16 (x := "earliest_deadline") (st := s_earliest_deadline) rfl
    exact cal_earliest_deadline F (F.fn.binds d (fun _ _ _ _ _ _ us hl => match us, hl with | [_, _], _ => rfl)) X c_waiting_requests (fun vs H Q E h => by obtain ⟨_, _, _, rfl, _⟩ := h; rfl) (fun vs H Q E h => rd_earliest_deadline X vs H Q E h)
  have c_starting_order : C8.Cal P w K mg base 6 "starting_order" (spOrder T) [] := by
    obtain ⟨_, F, d⟩ := S.def_ X0 G0 17 (x := "starting_order") (st := s_starting_order) rfl
    have tp : T.P = (tabA K).2 := by rw [← hT]; rfl
    exact cal_starting_order (defT_of F d (S.parts.1 _ (List.mem_of_getElem? (i := 17) rfl)).1 tb) (by rw [tp]; exact TB) X c_in_state c_earliest_deadline (fun vs H Q E h => by obtain ⟨_, _, rfl, _⟩ := h; rfl) (fun vs H Q E h => rd_starting_order X vs H Q E h)
  have c_finish : C8.Cal P w K mg base 1 "finish" (spFinish T) [] := by
    obtain ⟨_, F, d⟩ := S.def_ X0 G0 18 (x := "finish") (st := s_finish) rfl
    exact cal_finish F (F.fn.binds d (fun _ _ _ _ _ _ us hl => match us, hl with | [_, _, _], _ => rfl)) X (fun vs H Q E h => by obtain ⟨_, _, _, _, rfl, _⟩ := h; rfl) (fun vs H Q E h => rd_finish X vs H Q E h)
  have c_resume : C8.Cal P w K mg base 4 "resume" (spResume T) [] := by
    obtain ⟨_, F, d⟩ := S.def_ X0 G0 19 (x := "resume") (st := s_resume) rfl
    exact cal_resume F (F.fn.binds d (fun _ _ _ _ _ _ us hl => match us, hl with | [_, _], _ => rfl)) X c_execute c_finish c_waiting_requests c_end_request (fun vs H Q E h => by obtain ⟨_, _, _, rfl, _⟩ := h; rfl) (fun vs H Q E h => rd_resume X vs H Q E h)
  have c_fill_slots : C8.Cal P w K mg base 7 "fill_slots" (spFill T) [] := by
    obtain ⟨_, F, d⟩ := S.def_ X0 G0 20 (x := "fill_slots") (st := s_fill_slots) rfl
    exact cal_fill_slots F (F.fn.binds d (fun _ _ _ _ _ _ us hl => match us, hl with | [_], _ => rfl)) X c_starting_order c_has_free_slot c_resume (fun vs H Q E h => by obtain ⟨_, _, rfl, _⟩ := h; rfl) (fun vs H Q E h => rd_fill_slots X vs H Q E h)
  have c_drop : C8.Cal P w K mg base 1 "drop" (spDrop T) [] := by
    obtain ⟨_, F, d⟩ := S.def_ X0 G0 21 (x := "drop") (st := s_drop) rfl
    exact cal_drop F (F.fn.binds d (fun _ _ _ _ _ _ us hl => match us, hl with | [_, _], _ => rfl)) X (fun vs H Q E h => by obtain ⟨_, _, _, rfl, _⟩ := h; rfl) (fun vs H Q E h => rd_drop X vs H Q E h)
  have c_abandon : C8.Cal P w K mg base 2 "abandon" (spAbandon T) [] := by
    obtain ⟨_, F, d⟩ := S.def_ X0 G0 22 (x := "abandon") (st := s_abandon) rfl
    exact cal_abandon F (F.fn.binds d (fun _ _ _ _ _ _ us hl => match us, hl with | [_, _], _ => rfl)) X c_drop c_finish (fun vs H Q E h => by obtain ⟨_, _, _, rfl, _⟩ := h; rfl) (fun vs H Q E h => rd_abandon X vs H Q E h)
  have c_leave : C8.Cal P w K mg base 8 "leave" (spLeave T) [] := by
    obtain ⟨_, F, d⟩ := S.def_ X0 G0 23 (x := "leave") (st := s_leave) rfl
    exact cal_leave F (F.fn.binds d (fun _ _ _ _ _ _ us hl => match us, hl with | [_, _, _], _ => rfl)) X c_end_request c_waiting_requests c_abandon c_fill_slots (fun vs H Q E h => by obtain ⟨_, _, _, _, _, rfl, _⟩ := h; rfl) (fun vs H Q E h => rd_leave X vs H Q E h)
  have c_end_grace : C8.Cal P w K mg base 2 "end_grace" (spGrace T) [] := by
    obtain ⟨_, F, d⟩ := S.def_ X0 G0 24 (x := "end_grace") (st := s_end_grace) rfl
    exact cal_end_grace F (F.fn.binds d (fun _ _ _ _ _ _ us hl => match us, hl with | [_], _ => rfl)) X c_in_state c_drop c_finish c_open_requests c_end_request (fun vs H Q E h => by obtain ⟨_, _, rfl, _⟩ := h; rfl) (fun vs H Q E h => rd_end_grace X vs H Q E h)
  have c_status_of_stranger : C8.Cal P w K mg base 1 "status_of_stranger" (spStranger T) [] := by
    obtain ⟨_, F, d⟩ := S.def_ X0 G0 25 (x := "status_of_stranger") (st := s_status_of_stranger) rfl
    exact cal_status_of_stranger F (F.fn.binds d (fun _ _ _ _ _ _ us hl => match us, hl with | [_, _], _ => rfl)) X (fun vs H Q E h => by obtain ⟨_, _, _, _, _, rfl, _⟩ := h; rfl) (fun vs H Q E h => rd_status_of_stranger X vs H Q E h)
  have c_turn_away : C8.Cal P w K mg base 2 "turn_away" (spTurn T) [] := by
    obtain ⟨_, F, d⟩ := S.def_ X0 G0 26 (x := "turn_away") (st := s_turn_away) rfl
    exact cal_turn_away F (F.fn.binds d (fun _ _ _ _ _ _ us hl => match us, hl with | [_, _, _, _], _ => rfl)) X c_end_request (fun vs H Q E h => by obtain ⟨_, _, _, _, _, rfl, _⟩ := h; rfl) (fun vs H Q E h => rd_turn_away X vs H Q E h)
  have c_quota_delay : C8.Cal P w K mg base 1 "quota_delay" (spDelay T) [] := by
    obtain ⟨_, F, d⟩ := S.def_ X0 G0 27 (x := "quota_delay") (st := s_quota_delay) rfl
    exact cal_quota_delay F (F.fn.binds d (fun _ _ _ _ _ _ us hl => match us, hl with | [_, _, _], _ => rfl)) X (fun vs H Q E h => by obtain ⟨_, _, _, _, _, rfl, _⟩ := h; rfl) (fun vs H Q E h => rd_quota_delay X vs H Q E h)
  have c_is_full : C8.Cal P w K mg base 3 "is_full" (spFull T) [] := by
    obtain ⟨_, F, d⟩ := S.def_ X0 G0 28 (x := "is_full") (st := s_is_full) rfl
    exact cal_is_full F (F.fn.binds d (fun _ _ _ _ _ _ us hl => match us, hl with | [_], _ => rfl)) X c_has_free_slot c_in_state (fun vs H Q E h => by obtain ⟨_, _, rfl, _⟩ := h; rfl) (fun vs H Q E h => rd_is_full X vs H Q E h)
  have c_admit : C8.Cal P w K mg base 8 "admit" (spAdmit T) [] := by
    obtain ⟨_, F, d⟩ := S.def_ X0 G0 29 (x := "admit") (st := s_admit) rfl
    exact cal_admit F (F.fn.binds d (fun _ _ _ _ _ _ us hl => match us, hl with | [_, _, _], _ => rfl)) X c_present_quota c_turn_away c_quota_delay c_estimated_wait c_is_full c_queue_execution c_fill_slots (fun vs H Q E h => by obtain ⟨_, _, _, _, _, _, rfl, _⟩ := h; rfl) (fun vs H Q E h => rd_admit X vs H Q E h)
  have c_join : C8.Cal P w K mg base 2 "join" (spJoin T) [] := by
    obtain ⟨_, F, d⟩ := S.def_ X0 G0 30 (x := "join") (st := s_join) rfl
    exact cal_join F (F.fn.binds d (fun _ _ _ _ _ _ us hl => match us, hl with | [_, _, _, _], _ => rfl)) X c_end_request (fun vs H Q E h => by obtain ⟨_, _, _, _, _, _, _, rfl, _⟩ := h; rfl) (fun vs H Q E h => rd_join X vs H Q E h)
  have c_arrive : C8.Cal P w K mg base 9 "arrive" (spArrive T) [] := by
    obtain ⟨_, F, d⟩ := S.def_ X0 G0 31 (x := "arrive") (st := s_arrive) rfl
    exact cal_arrive F (F.fn.binds d (fun _ _ _ _ _ _ us hl => match us, hl with | [_, _], _ => rfl)) X m_Request c_status_of_stranger c_end_request c_shared_execution c_admit c_join (fun vs H Q E h => by obtain ⟨_, _, _, _, _, rfl, _⟩ := h; rfl) (fun vs H Q E h => rd_arrive X vs H Q E h)
  have c_upcoming_event : C8.Cal P w K mg base 2 "upcoming_event" (spUpcoming T) [] := by
    obtain ⟨_, F, d⟩ := S.def_ X0 G0 32 (x := "upcoming_event") (st := s_upcoming_event) rfl
    exact cal_upcoming_event F (F.fn.binds d (fun _ _ _ _ _ _ us hl => match us, hl with | [_], _ => rfl)) X c_in_state c_open_requests (fun vs H Q E h => by obtain ⟨_, _, rfl, _⟩ := h; rfl) (fun vs H Q E h => rd_upcoming_event X vs H Q E h)
  have c_happen : C8.Cal P w K mg base 9 "happen" (spHappen T) [] := by
    obtain ⟨_, F, d⟩ := S.def_ X0 G0 33 (x := "happen") (st := s_happen) rfl
    exact cal_happen F (F.fn.binds d (fun _ _ _ _ _ _ us hl => match us, hl with | [_, _], _ => rfl)) X c_resume c_fill_slots c_leave c_end_grace (fun vs H Q E h => by obtain ⟨_, _, _, _, _, rfl, _⟩ := h; rfl) (fun vs H Q E h => rd_happen X vs H Q E h)
  have c_advance_to : C8.Cal P w K mg base 10 "advance_to" (spAdvTo T) [] := by
    obtain ⟨_, F, d⟩ := S.def_ X0 G0 34 (x := "advance_to") (st := s_advance_to) rfl
    exact cal_advance_to F (F.fn.binds d (fun _ _ _ _ _ _ us hl => match us, hl with | [_, _], _ => rfl)) X c_upcoming_event c_happen (fun vs H Q E h => by obtain ⟨_, _, _, rfl, _⟩ := h; rfl) (fun vs H Q E h => rd_advance_to X vs H Q E h)
  have c_copy_of_client : C8.Cal P w K mg base 3 "copy_of_client" (spCopy T) [] := by
    obtain ⟨_, F, d⟩ := S.def_ X0 G0 35 (x := "copy_of_client") (st := s_copy_of_client) rfl
    exact cal_copy_of_client F (F.fn.binds d (fun _ _ _ _ _ _ us hl => match us, hl with | [_], _ => rfl)) X m_Client (fun vs H Q E h => by obtain ⟨_, _, _, rfl, _⟩ := h; rfl) (fun vs H Q E h => rd_copy_of_client X vs H Q E h)
  have c_copy_for_trial : C8.Cal P w K mg base 4 "copy_for_trial" (spTwin T) [] := by
    obtain ⟨_, F, d⟩ := S.def_ X0 G0 36 (x := "copy_for_trial") (st := s_copy_for_trial) rfl
    exact cal_copy_for_trial F (F.fn.binds d (fun _ _ _ _ _ _ us hl => match us, hl with | [_], _ => rfl)) X m_Server c_copy_of_client (fun vs H Q E h => by obtain ⟨_, _, rfl, _⟩ := h; rfl) (fun vs H Q E h => rd_copy_for_trial X vs H Q E h)
  have c_arrive_on_trial : C8.Cal P w K mg base 10 "arrive_on_trial" (spTrial T) [] := by
    obtain ⟨_, F, d⟩ := S.def_ X0 G0 37 (x := "arrive_on_trial") (st := s_arrive_on_trial) rfl
    exact cal_arrive_on_trial F (F.fn.binds d (fun _ _ _ _ _ _ us hl => match us, hl with | [_, _], _ => rfl)) X c_arrive c_copy_for_trial (fun vs H Q E h => by obtain ⟨_, _, _, _, _, _, _, rfl, _⟩ := h; rfl) (fun vs H Q E h => rd_arrive_on_trial X vs H Q E h)
  have c_next_event : C8.Cal P w K mg base 3 "next_event" (spOp T ok0 opNextEvent) [] := by
    obtain ⟨_, F, d⟩ := S.def_ X0 G0 38 (x := "next_event") (st := s_next_event) rfl
    exact cal_next_event F (F.fn.binds d (fun _ _ _ _ _ _ us hl => match us, hl with | [_, _], _ => rfl)) X c_upcoming_event (fun vs H Q E h => by obtain ⟨_, _, _, _, rfl, _⟩ := h; rfl) (fun vs H Q E h => rd_next_event X vs H Q E h)
  have c_shown_status : C8.Cal P w K mg base 1 "shown_status" (spShown T) [] := by
    obtain ⟨_, F, d⟩ := S.def_ X0 G0 39 (x := "shown_status") (st := s_shown_status) rfl
    exact cal_shown_status F (F.fn.binds d (fun _ _ _ _ _ _ us hl => match us, hl with | [_], _ => rfl)) X (fun vs H Q E h => by obtain ⟨_, _, _, rfl, _⟩ := h; rfl) (fun vs H Q E h => rd_shown_status X vs H Q E h)
  have c_request_info : C8.Cal P w K mg base 2 "request_info" (spOp T one opRequestInfo) [] := by
    obtain ⟨_, F, d⟩ := S.def_ X0 G0 40 (x := "request_info") (st := s_request_info) rfl
    exact cal_request_info F (F.fn.binds d (fun _ _ _ _ _ _ us hl => match us, hl with | [_, _], _ => rfl)) X c_shown_status (fun vs H Q E h => by obtain ⟨_, _, _, _, rfl, _⟩ := h; rfl) (fun vs H Q E h => rd_request_info X vs H Q E h)
  have c_response : C8.Cal P w K mg base 1 "response" (spOp T okR opResponse) [] := by
    obtain ⟨_, F, d⟩ := S.def_ X0 G0 41 (x := "response") (st := s_response) rfl
    exact cal_response F (F.fn.binds d (fun _ _ _ _ _ _ us hl => match us, hl with | [_, _], _ => rfl)) X (fun vs H Q E h => by obtain ⟨_, _, _, _, rfl, _⟩ := h; rfl) (fun vs H Q E h => rd_response X vs H Q E h)
  have c_state_value : C8.Cal P w K mg base 1 "state_value" (spStVal T) [] := by
    obtain ⟨_, F, d⟩ := S.def_ X0 G0 42 (x := "state_value") (st := s_state_value) rfl
    exact cal_state_value F (F.fn.binds d (fun _ _ _ _ _ _ us hl => match us, hl with | [_], _ => rfl)) X (fun vs H Q E h => by obtain ⟨_, _, _, rfl, _⟩ := h; rfl) (fun vs H Q E h => rd_state_value X vs H Q E h)
  have c_execution_info : C8.Cal P w K mg base 3 "execution_info" (spOp T oneR opExecutionInfo) [] := by
    obtain ⟨_, F, d⟩ := S.def_ X0 G0 43 (x := "execution_info") (st := s_execution_info) rfl
    exact cal_execution_info F (F.fn.binds d (fun _ _ _ _ _ _ us hl => match us, hl with | [_, _], _ => rfl)) X c_waiting_requests c_state_value (fun vs H Q E h => by obtain ⟨_, _, _, _, rfl, _⟩ := h; rfl) (fun vs H Q E h => rd_execution_info X vs H Q E h)
  have c_counted_numbers : C8.Cal P w K mg base 1 "counted_numbers" (spCounted T) [] := by
    obtain ⟨_, F, d⟩ := S.def_ X0 G0 44 (x := "counted_numbers") (st := s_counted_numbers) rfl
    exact cal_counted_numbers F (F.fn.binds d (fun _ _ _ _ _ _ us hl => match us, hl with | [_], _ => rfl)) X (fun vs H Q E h => by obtain ⟨_, _, _, _, rfl, _⟩ := h; rfl) (fun vs H Q E h => rd_counted_numbers X vs H Q E h)
  have c_list_queue : C8.Cal P w K mg base 7 "list_queue" (spOp T okQ opListQueue) [] := by
    obtain ⟨_, F, d⟩ := S.def_ X0 G0 45 (x := "list_queue") (st := s_list_queue) rfl
    exact cal_list_queue F (F.fn.binds d (fun _ _ _ _ _ _ us hl => match us, hl with | [_, _], _ => rfl)) X c_counted_numbers c_starting_order (fun vs H Q E h => by obtain ⟨_, _, _, _, rfl, _⟩ := h; rfl) (fun vs H Q E h => rd_list_queue X vs H Q E h)
  have c_list_running : C8.Cal P w K mg base 2 "list_running" (spOp T ok0 opListRunning) [] := by
    obtain ⟨_, F, d⟩ := S.def_ X0 G0 46 (x := "list_running") (st := s_list_running) rfl
    exact cal_list_running F (F.fn.binds d (fun _ _ _ _ _ _ us hl => match us, hl with | [_, _], _ => rfl)) X c_counted_numbers c_in_state (fun vs H Q E h => by obtain ⟨_, _, _, _, rfl, _⟩ := h; rfl) (fun vs H Q E h => rd_list_running X vs H Q E h)
  have c_registers : C8.Cal P w K mg base 1 "registers" (spOp T ok0 opRegisters) [] := by
    obtain ⟨_, F, d⟩ := S.def_ X0 G0 47 (x := "registers") (st := s_registers) rfl
    exact cal_registers F (F.fn.binds d (fun _ _ _ _ _ _ us hl => match us, hl with | [_, _], _ => rfl)) X (fun vs H Q E h => by obtain ⟨_, _, _, _, rfl, _⟩ := h; rfl) (fun vs H Q E h => rd_registers X vs H Q E h)
  have c_quota : C8.Cal P w K mg base 2 "quota" (spOp T ok1 opQuota) [] := by
    obtain ⟨_, F, d⟩ := S.def_ X0 G0 48 (x := "quota") (st := s_quota) rfl
    exact cal_quota F (F.fn.binds d (fun _ _ _ _ _ _ us hl => match us, hl with | [_, _], _ => rfl)) X c_present_quota (fun vs H Q E h => by obtain ⟨_, _, _, _, rfl, _⟩ := h; rfl) (fun vs H Q E h => rd_quota X vs H Q E h)
  have c_find_key : C8.Cal P w K mg base 3 "find_key" (spOp T ok2 opFindKey) [] := by
    obtain ⟨_, F, d⟩ := S.def_ X0 G0 49 (x := "find_key") (st := s_find_key) rfl
    exact cal_find_key F (F.fn.binds d (fun _ _ _ _ _ _ us hl => match us, hl with | [_, _], _ => rfl)) X c_shared_execution c_state_value (fun vs H Q E h => by obtain ⟨_, _, _, _, rfl, _⟩ := h; rfl) (fun vs H Q E h => rd_find_key X vs H Q E h)
  have c_estimate : C8.Cal P w K mg base 4 "estimate" (spOp T ok0 opEstimate) [] := by
    obtain ⟨_, F, d⟩ := S.def_ X0 G0 50 (x := "estimate") (st := s_estimate) rfl
    exact cal_estimate F (F.fn.binds d (fun _ _ _ _ _ _ us hl => match us, hl with | [_, _], _ => rfl)) X c_estimated_wait (fun vs H Q E h => by obtain ⟨_, _, _, _, rfl, _⟩ := h; rfl) (fun vs H Q E h => rd_estimate X vs H Q E h)
  have c_statistics : C8.Cal P w K mg base 1 "statistics" (spOp T ok0 opStatistics) [] := by
    obtain ⟨_, F, d⟩ := S.def_ X0 G0 51 (x := "statistics") (st := s_statistics) rfl
    exact cal_statistics F (F.fn.binds d (fun _ _ _ _ _ _ us hl => match us, hl with | [_, _], _ => rfl)) X (fun vs H Q E h => by obtain ⟨_, _, _, _, rfl, _⟩ := h; rfl) (fun vs H Q E h => rd_statistics X vs H Q E h)
  have c_status : C8.Cal P w K mg base 2 "status" (spOp T ok0 opStatus) [] := by
    obtain ⟨_, F, d⟩ := S.def_ X0 G0 52 (x := "status") (st := s_status) rfl
    exact cal_status F (F.fn.binds d (fun _ _ _ _ _ _ us hl => match us, hl with | [_, _], _ => rfl)) X c_in_state (fun vs H Q E h => by obtain ⟨_, _, _, _, rfl, _⟩ := h; rfl) (fun vs H Q E h => rd_status X vs H Q E h)
  have D_look : DictN K mg B.views viewN := by
    rw [← hB]
    refine dict_of (mg := mg) (a := He.ga K "VIEWS") S.parts.2.2.2.2.2.2.1 fun e he => ?_
    simp only [viewN, List.mem_cons, List.not_mem_nil, or_false] at he
    rcases he with rfl | rfl | rfl | rfl | rfl | rfl | rfl | rfl | rfl | rfl | rfl | rfl
    · obtain ⟨_, F, _⟩ := S.def_ X0 G0 38 (x := "next_event") (st := s_next_event) rfl
      exact named_of F
    · obtain ⟨_, F, _⟩ := S.def_ X0 G0 40 (x := "request_info") (st := s_request_info) rfl
      exact named_of F
    · obtain ⟨_, F, _⟩ := S.def_ X0 G0 41 (x := "response") (st := s_response) rfl
      exact named_of F
    · obtain ⟨_, F, _⟩ := S.def_ X0 G0 43 (x := "execution_info") (st := s_execution_info) rfl
      exact named_of F
    · obtain ⟨_, F, _⟩ := S.def_ X0 G0 45 (x := "list_queue") (st := s_list_queue) rfl
      exact named_of F
    · obtain ⟨_, F, _⟩ := S.def_ X0 G0 46 (x := "list_running") (st := s_list_running) rfl
      exact named_of F
    · obtain ⟨_, F, _⟩ := S.def_ X0 G0 47 (x := "registers") (st := s_registers) rfl
      exact named_of F
    · obtain ⟨_, F, _⟩ := S.def_ X0 G0 48 (x := "quota") (st := s_quota) rfl
      exact named_of F
    · obtain ⟨_, F, _⟩ := S.def_ X0 G0 49 (x := "find_key") (st := s_find_key) rfl
      exact named_of F
    · obtain ⟨_, F, _⟩ := S.def_ X0 G0 50 (x := "estimate") (st := s_estimate) rfl
      exact named_of F
    · obtain ⟨_, F, _⟩ := S.def_ X0 G0 51 (x := "statistics") (st := s_statistics) rfl
      exact named_of F
    · obtain ⟨_, F, _⟩ := S.def_ X0 G0 52 (x := "status") (st := s_status) rfl
      exact named_of F
  have A_look : ∀ f sp, SOf K mg (tabN T viewN) f = some sp → Held P w K mg base 23 f sp := by
    refine SOf_held fun e he => ?_
    simp only [viewN, List.mem_cons, List.not_mem_nil, or_false] at he
    rcases he with rfl | rfl | rfl | rfl | rfl | rfl | rfl | rfl | rfl | rfl | rfl | rfl
    · exact cal_mono (j := 3) c_next_event (by decide)
    · exact cal_mono (j := 2) c_request_info (by decide)
    · exact cal_mono (j := 1) c_response (by decide)
    · exact cal_mono (j := 3) c_execution_info (by decide)
    · exact cal_mono (j := 7) c_list_queue (by decide)
    · exact cal_mono (j := 2) c_list_running (by decide)
    · exact cal_mono (j := 1) c_registers (by decide)
    · exact cal_mono (j := 2) c_quota (by decide)
    · exact cal_mono (j := 3) c_find_key (by decide)
    · exact cal_mono (j := 4) c_estimate (by decide)
    · exact cal_mono (j := 1) c_statistics (by decide)
    · exact cal_mono (j := 2) c_status (by decide)
  have c_look : C8.Cal P w K mg base 24 "look" (spLook T) [] := by
    obtain ⟨_, F, d⟩ := S.def_ X0 G0 53 (x := "look") (st := s_look) rfl
    exact cal_look F (F.fn.binds d (fun _ _ _ _ _ _ us hl => match us, hl with | [_, _, _], _ => rfl)) X A_look (fun vs H Q E h => by obtain ⟨_, _, _, _, _, rfl, _⟩ := h; rfl) (fun vs H Q E h => rd_look X D_look vs H Q E h)
  have c_is_limit : C8.Cal P w K mg base 1 "is_limit" (spLimit) [] := by
    obtain ⟨_, F, d⟩ := S.def_ X0 G0 54 (x := "is_limit") (st := s_is_limit) rfl
    exact cal_is_limit F (F.fn.binds d (fun _ _ _ _ _ _ us hl => match us, hl with | [_], _ => rfl)) X (fun vs H Q E h => by obtain ⟨_, rfl, _⟩ := h; rfl) (fun vs H Q E h => rd_is_limit X vs H Q E h)
  have c_create : C8.Cal P w K mg base 3 "create" (spCreate K T) [] := by
    obtain ⟨_, F, d⟩ := S.def_ X0 G0 55 (x := "create") (st := s_create) rfl
    exact cal_create F (F.fn.binds d (fun _ _ _ _ _ _ us hl => match us, hl with | [_], _ => rfl)) X m_Server c_is_limit (fun vs H Q E h => by obtain ⟨_, _, rfl, _⟩ := h; rfl) (fun vs H Q E h => rd_create X vs H Q E h)
  have c_add_method : C8.Cal P w K mg base 3 "add_method" (spOp T okM opAddMethod) [] := by
    obtain ⟨_, F, d⟩ := S.def_ X0 G0 56 (x := "add_method") (st := s_add_method) rfl
    exact cal_add_method F (F.fn.binds d (fun _ _ _ _ _ _ us hl => match us, hl with | [_, _], _ => rfl)) X m_Method c_is_program (fun vs H Q E h => by obtain ⟨_, _, _, _, rfl, _⟩ := h; rfl) (fun vs H Q E h => rd_add_method X vs H Q E h)
  have c_add_client : C8.Cal P w K mg base 3 "add_client" (spOp T okC opAddClient) [] := by
    obtain ⟨_, F, d⟩ := S.def_ X0 G0 57 (x := "add_client") (st := s_add_client) rfl
    exact cal_add_client F (F.fn.binds d (fun _ _ _ _ _ _ us hl => match us, hl with | [_, _], _ => rfl)) X m_Client (fun vs H Q E h => by obtain ⟨_, _, _, _, rfl, _⟩ := h; rfl) (fun vs H Q E h => rd_add_client X vs H Q E h)
  have c_request_error : C8.Cal P w K mg base 1 "request_error" (spReqErr T) [] := by
    obtain ⟨_, F, d⟩ := S.def_ X0 G0 58 (x := "request_error") (st := s_request_error) rfl
    exact cal_request_error F (F.fn.binds d (fun _ _ _ _ _ _ us hl => match us, hl with | [_, _], _ => rfl)) X (fun vs H Q E h => by obtain ⟨_, _, _, _, _, rfl, _⟩ := h; rfl) (fun vs H Q E h => rd_request_error X vs H Q E h)
  have c_send_request : C8.Cal P w K mg base 10 "send_request" (spOp T ok5 opRequest) [] := by
    obtain ⟨_, F, d⟩ := S.def_ X0 G0 59 (x := "send_request") (st := s_send_request) rfl
    exact cal_send_request F (F.fn.binds d (fun _ _ _ _ _ _ us hl => match us, hl with | [_, _], _ => rfl)) X m_Ask c_request_error c_arrive c_shown_status (fun vs H Q E h => by obtain ⟨_, _, _, _, rfl, _⟩ := h; rfl) (fun vs H Q E h => rd_send_request X vs H Q E h)
  have c_preview_request : C8.Cal P w K mg base 11 "preview_request" (spOp T ok5 opPreview) [] := by
    obtain ⟨_, F, d⟩ := S.def_ X0 G0 60 (x := "preview_request") (st := s_preview_request) rfl
    exact cal_preview_request F (F.fn.binds d (fun _ _ _ _ _ _ us hl => match us, hl with | [_, _], _ => rfl)) X m_Ask c_request_error c_shown_status c_arrive_on_trial (fun vs H Q E h => by obtain ⟨_, _, _, _, rfl, _⟩ := h; rfl) (fun vs H Q E h => rd_preview_request X vs H Q E h)
  have c_cancel : C8.Cal P w K mg base 9 "cancel" (spOp T okX opCancel) [] := by
    obtain ⟨_, F, d⟩ := S.def_ X0 G0 61 (x := "cancel") (st := s_cancel) rfl
    exact cal_cancel F (F.fn.binds d (fun _ _ _ _ _ _ us hl => match us, hl with | [_, _], _ => rfl)) X c_leave (fun vs H Q E h => by obtain ⟨_, _, _, _, rfl, _⟩ := h; rfl) (fun vs H Q E h => rd_cancel X vs H Q E h)
  have c_advance : C8.Cal P w K mg base 11 "advance" (spOp T ok1 opAdvance) [] := by
    obtain ⟨_, F, d⟩ := S.def_ X0 G0 62 (x := "advance") (st := s_advance) rfl
    exact cal_advance F (F.fn.binds d (fun _ _ _ _ _ _ us hl => match us, hl with | [_, _], _ => rfl)) X c_advance_to (fun vs H Q E h => by obtain ⟨_, _, _, _, rfl, _⟩ := h; rfl) (fun vs H Q E h => rd_advance X vs H Q E h)
  have c_run : C8.Cal P w K mg base 10 "run" (spOp T ok1 opRun) [] := by
    obtain ⟨_, F, d⟩ := S.def_ X0 G0 63 (x := "run") (st := s_run) rfl
    exact cal_run F (F.fn.binds d (fun _ _ _ _ _ _ us hl => match us, hl with | [_, _], _ => rfl)) X c_upcoming_event c_happen (fun vs H Q E h => by obtain ⟨_, _, _, _, rfl, _⟩ := h; rfl) (fun vs H Q E h => rd_run X vs H Q E h)
  have c_shutdown : C8.Cal P w K mg base 3 "shutdown" (spOp T ok1 opShutdown) [] := by
    obtain ⟨_, F, d⟩ := S.def_ X0 G0 64 (x := "shutdown") (st := s_shutdown) rfl
    exact cal_shutdown F (F.fn.binds d (fun _ _ _ _ _ _ us hl => match us, hl with | [_, _], _ => rfl)) X c_in_state c_end_grace (fun vs H Q E h => by obtain ⟨_, _, _, _, rfl, _⟩ := h; rfl) (fun vs H Q E h => rd_shutdown X vs H Q E h)
  have c_set_limit : C8.Cal P w K mg base 8 "set_limit" (spOp T ok1 opSetLimit) [] := by
    obtain ⟨_, F, d⟩ := S.def_ X0 G0 65 (x := "set_limit") (st := s_set_limit) rfl
    exact cal_set_limit F (F.fn.binds d (fun _ _ _ _ _ _ us hl => match us, hl with | [_, _], _ => rfl)) X c_is_limit c_fill_slots (fun vs H Q E h => by obtain ⟨_, _, _, _, rfl, _⟩ := h; rfl) (fun vs H Q E h => rd_set_limit X vs H Q E h)
  have c_set_roles : C8.Cal P w K mg base 1 "set_roles" (spOp T ok2 opSetRoles) [] := by
    obtain ⟨_, F, d⟩ := S.def_ X0 G0 66 (x := "set_roles") (st := s_set_roles) rfl
    exact cal_set_roles F (F.fn.binds d (fun _ _ _ _ _ _ us hl => match us, hl with | [_, _], _ => rfl)) X (fun vs H Q E h => by obtain ⟨_, _, _, _, rfl, _⟩ := h; rfl) (fun vs H Q E h => rd_set_roles X vs H Q E h)
  have D_perform : DictN K mg B.ops opN := by
    rw [← hB]
    refine dict_of (mg := mg) (a := He.ga K "OPERATIONS") S.parts.2.2.2.2.2.1 fun e he => ?_
    simp only [opN, List.mem_cons, List.not_mem_nil, or_false] at he
    rcases he with rfl | rfl | rfl | rfl | rfl | rfl | rfl | rfl | rfl | rfl
    · obtain ⟨_, F, _⟩ := S.def_ X0 G0 56 (x := "add_method") (st := s_add_method) rfl
      exact named_of F
    · obtain ⟨_, F, _⟩ := S.def_ X0 G0 57 (x := "add_client") (st := s_add_client) rfl
      exact named_of F
    · obtain ⟨_, F, _⟩ := S.def_ X0 G0 59 (x := "send_request") (st := s_send_request) rfl
      exact named_of F
    · obtain ⟨_, F, _⟩ := S.def_ X0 G0 61 (x := "cancel") (st := s_cancel) rfl
      exact named_of F
    · obtain ⟨_, F, _⟩ := S.def_ X0 G0 62 (x := "advance") (st := s_advance) rfl
      exact named_of F
    · obtain ⟨_, F, _⟩ := S.def_ X0 G0 63 (x := "run") (st := s_run) rfl
      exact named_of F
    · obtain ⟨_, F, _⟩ := S.def_ X0 G0 64 (x := "shutdown") (st := s_shutdown) rfl
      exact named_of F
    · obtain ⟨_, F, _⟩ := S.def_ X0 G0 65 (x := "set_limit") (st := s_set_limit) rfl
      exact named_of F
    · obtain ⟨_, F, _⟩ := S.def_ X0 G0 66 (x := "set_roles") (st := s_set_roles) rfl
      exact named_of F
    · obtain ⟨_, F, _⟩ := S.def_ X0 G0 60 (x := "preview_request") (st := s_preview_request) rfl
      exact named_of F
  have A_perform : ∀ f sp, SOf K mg (tabN T opN) f = some sp → Held P w K mg base 25 f sp := by
    refine SOf_held fun e he => ?_
    simp only [opN, List.mem_cons, List.not_mem_nil, or_false] at he
    rcases he with rfl | rfl | rfl | rfl | rfl | rfl | rfl | rfl | rfl | rfl
    · exact cal_mono (j := 3) c_add_method (by decide)
    · exact cal_mono (j := 3) c_add_client (by decide)
    · exact cal_mono (j := 10) c_send_request (by decide)
    · exact cal_mono (j := 9) c_cancel (by decide)
    · exact cal_mono (j := 11) c_advance (by decide)
    · exact cal_mono (j := 10) c_run (by decide)
    · exact cal_mono (j := 3) c_shutdown (by decide)
    · exact cal_mono (j := 8) c_set_limit (by decide)
    · exact cal_mono (j := 1) c_set_roles (by decide)
    · exact cal_mono (j := 11) c_preview_request (by decide)
  have c_perform : C8.Cal P w K mg base 26 "perform" (spPerform T) [] := by
    obtain ⟨_, F, d⟩ := S.def_ X0 G0 67 (x := "perform") (st := s_perform) rfl
    exact cal_perform F (F.fn.binds d (fun _ _ _ _ _ _ us hl => match us, hl with | [_, _, _], _ => rfl)) X c_look A_perform (fun vs H Q E h => by obtain ⟨_, _, _, _, _, rfl, _⟩ := h; rfl) (fun vs H Q E h => rd_perform X D_perform vs H Q E h)
  have c_split_calls : C8.Cal P w K mg base 1 "split_calls" (spSplit K) [] := by
    obtain ⟨_, F, d⟩ := S.def_ X0 G0 68 (x := "split_calls") (st := s_split_calls) rfl
    exact cal_split_calls F (F.fn.binds d (fun _ _ _ _ _ _ us hl => match us, hl with | [_], _ => rfl)) X (fun vs H Q E h => by obtain ⟨_, _, rfl, _⟩ := h; rfl) (fun vs H Q E h => rd_split_calls X vs H Q E h)
  have c_answers := fok_answers (P := P) (w := w) (base := base) (sp := spAnswers K T) FA X c_split_calls c_create c_perform (fun vs H Q E h => by obtain ⟨_, _, rfl, _⟩ := h; rfl) (fun vs H Q E h => rd_answers X vs H Q E h)
  exact c_answers.mono (by decide)
end Kc
/-! the row: what is asked of answers -/
namespace Kc
open PySem PySem.Spec PyProof.Rows L2 KM Evl
theorem cast_V (l : List Nat) : (castL l).map V.int = intL l := by
  unfold castL intL
  rw [List.map_map]
  rfl
theorem parts_of {xs : List Int} (h0 : ∀ x ∈ xs, 0 ≤ x) (h : PyKp424.answers_asked xs = true) : ∃ parts : List (Nat × List Nat), xs = castL (parts.flatMap enc) ∧ parts.length ≤ 60 ∧ (∀ c ∈ parts, lenOk c.1 c.2.length) ∧ PyKp424.answers xs = playA none parts := by
  unfold PyKp424.answers_asked at h
  unfold PyKp424.answers
  cases hc : PyKp424.calls xs with
  | none =>
    rw [hc] at h
    cases h
  | some cs =>
    rw [hc] at h
    dsimp only at h ⊢
    rw [Bool.and_eq_true, Bool.and_eq_true] at h
    obtain ⟨⟨h1, h2⟩, _⟩ := h
    unfold Kp424Neutral.asked at h2
    rw [Bool.and_eq_true, Bool.and_eq_true, decide_eq_true_eq] at h2
    obtain ⟨_, h3, h4⟩ := h2
    obtain ⟨parts, e1, e2⟩ := calls_enc xs.length xs cs hc h4 h0
    have hl : parts.length ≤ 60 := by
      rw [e2, List.length_map] at h3
      exact h3
    have ok : ∀ c ∈ parts, lenOk c.1 c.2.length := fun c hcm => by
      have z := List.all_eq_true.mp h4 [(c.1 : Int) :: castL c.2] (by rw [e2]; exact List.mem_map.mpr ⟨c, hcm, rfl⟩)
      exact asked_len z
    refine ⟨parts, e1, hl, ok, ?_⟩
    rw [e2]
    exact play_spec parts none 0 (fun s z => by cases z) (by omega) ok
theorem spec_at {w : World} {K : PySem.W.Frag} {h : Heap} {mg mb : Str → Option Value} {p : Program} {loose : List Str} {mean : ExcName → Option Value} {fa : Addr} (S : Says K) (X : K.In h) (T : Top p loose mean mg mb h) {d : DefRec} (hr : (recsOf p).find? (fun e => e.name == ("starting_order" : Str)) = some d) (hfa : mg "answers" = some (.ref fa)) :
    SpecAtT PySem.Challenge.rw_keyedcalls_s01_answers w K 30 ["calls"] mg fa h := by
  have tb : PySem.W.tabIn K "starting_order" = some ((tabA K).1, (tabA K).2) := by
    have z := S.parts.2.2.2.2.2.2.2.2.1
    unfold tabA
    cases q : PySem.W.tabIn K "starting_order" with
    | none => rw [q] at z; cases z
    | some y => rfl
  obtain ⟨cd, hP⟩ := PySem.W.tab_of T X hr tb
  obtain ⟨fd, F, df⟩ := S.def_ X T.g 69 (x := "answers") (st := s_answers) rfl
  have e := hfa.symm.trans F.mgf
  cases e
  refine ⟨fd, [((tabA K).1, (tabA K).2)], spAnswers K (clsA K), fun p hp => ?_, fun p hp => ?_, fun p hp => ?_, ?_, fun H xs a hO hwi hask hx => ?_, fun base XB GB TB => fn_answers S X T.g XB GB (TB _ (List.mem_singleton.mpr rfl)) F⟩
  · rw [List.mem_singleton.mp hp]
    exact hP
  · rw [List.mem_singleton.mp hp]
    exact Option.isNone_iff_eq_none.mp S.parts.2.2.2.2.2.2.2.2.2
  · rw [List.mem_singleton.mp hp]
    exact cd
  · obtain ⟨oc, od, dV, kV, doc, pm, an, cdv, ct, osl, rfl, lk, hcd⟩ := F.fn.ex
    have hd : dV = .none := df
    subst hd
    exact fun s us hu => match us, hu with
      | [_], _ => .of_eq rfl
  · cases hx with
    | cons h1 h2 =>
      cases h2
      cases h1 with
      | lst hs ha =>
        have e := L2.ints_dw a.1 _ ha
        subst e
        have q : ((PySem.W.Codec.inLen 0 1440 a.1 && a.1.all (PySem.W.Codec.inInt 0 4294967295)) && true) = true := hwi
        rw [Bool.and_eq_true, Bool.and_eq_true] at q
        have len : a.1.length ≤ 1440 := (PySem.W.Codec.inNat_iff.mp q.1.1).2
        have nn : ∀ x ∈ a.1, 0 ≤ x := fun x hx => by
          have z := List.all_eq_true.mp q.1.2 x hx
          exact (PySem.W.Codec.inInt_iff.mp z).1
        obtain ⟨parts, e1, e2, e3, e4⟩ := parts_of nn hask
        refine ⟨_, parts, rfl, ?_, ?_, e2, e3, ?_, fun H' q hq => ?_⟩
        · rw [← cast_V, ← e1]
          exact hs
        · have z := congrArg List.length e1
          rw [castL_len] at z
          omega
        · exact ⟨#[], hO _ (List.mem_singleton.mpr rfl), by first | trivial | exact .nil | (intro x hx; cases hx) | simp [TriplesOk], fun pos cv hc => by
            first | (cases hc; done) | simp [codeAmong] at hc⟩
        · have r : PySem.Challenge.rw_keyedcalls_s01_answers.ret.enc (PySem.W.Codec.app PySem.Challenge.rw_keyedcalls_s01_answers.args PySem.Challenge.rw_keyedcalls_s01_answers.f a) = .list ((playA none parts).map PySem.W.WData.int) := by
            rw [← e4]
            rfl
          rw [r]
          exact .lst (sq_of hq) (L2.dw_ints _)
end Kc
set_option autoImplicit true
open PySem PySem.W PyProof.Rows
theorem PySem.Challenge.cw_keyedcalls_s01_answers_holds : PySem.Challenge.rw_keyedcalls_s01_answers.Holds := by
  w_on; k_headS; (case hw => exact ⟨[.list [.int 6, .int 0, .int 0]], by decide +kernel, by decide +kernel⟩)
  k_fillS
  refine Kc.walk_specT (r := PySem.Challenge.rw_keyedcalls_s01_answers) (k := 30) (ps := ["calls"]) (by decide +kernel) rfl ⟨rfl, by decide, by decide⟩ (fun w h Y => PySem.W.kIn_of Y) ?F
  case F =>
    intro w mg mb mean fa h Y KX T hmg
    exact Kc.spec_at ⟨by kernel_rfl, by kernel_rfl⟩ KX T rfl hmg
