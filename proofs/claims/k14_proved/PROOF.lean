import PyProof.Rows.All
import Wide.All
import OpenK.AllK
import Wide.FinOn
import HandS.ForMost
import HandS.Exc
import HandS.Style
import HandS.Flow
import HandS.Deep
import HandS.Dict
import HandS.DictTup
import HandS.TupLen
import KE.KeyNested
import KE.KDictKeyed
import HandS.ExcOwn
import HandS.WordsExc
import HandS.CallSlots
import HandS.IsInst
import HandS.ExcIs
import HandS.ExcValue
import HandS.TryOnly
import HandS.Zip
import HandS.AnyAll
import HandS.EndTab
import HandS.Records
import HandS.Nested
import KE.KTupSum
import HandS.TupSets
import HandS.SortRule
import HandS.SortInts
import KE.KDictWalk
import KE.KDictList
import KE.KDictSum
import KE.KDictDisplayH
import HandS.Iter
import KE.GoesMore
import KE.GoesEnum
import HandS.Text
import HandS.FStr
import HandS.RaiseMore
import HandS.TupMul
import PySem.Challenge.RW_matchboards_k14_whole_texts
set_option Elab.async false
set_option linter.all false
set_option maxRecDepth 100000
set_option maxHeartbeats 8000000
/-! Keys: tuples of ints, texts, None and such tuples. -/
namespace DI
open PySem PySem.Spec PyProof.Rows L2
abbrev NK := NestedKey
abbrev KY := List NestedKey
def tkind (P : Program) (w : World) : HeapKind P w KY where
  is := fun h k a => (nestedKind P w).is h (.tup k) a
  hash := fun k => (nestedKind P w).hash (.tup k)
  draws := fun k => (nestedKind P w).draws (.tup k)
  room := (nestedKind P w).room
  inj := fun hx hy => by
    have e := (nestedKind P w).inj hx hy
    injection e
  keeps := fun x ho hd hs => (nestedKind P w).keeps x ho hd hs
  pyHash := fun hu hk h => (nestedKind P w).pyHash hu hk h
  eqBool := fun {A E s x y a b Q} hu hx hy h => (nestedKind P w).eqBool hu hx hy (by
    have e : decide (NestedKey.tup x = NestedKey.tup y) = decide (x = y) := by
      by_cases q : x = y
      · rw [decide_eq_true q, decide_eq_true (by rw [q])]
      · rw [decide_eq_false q, decide_eq_false fun z => q (by injection z)]
    rw [e]; exact h)
  quiet := fun hk h => (nestedKind P w).quiet hk h
theorem tkind_stays {P : Program} {w : World} : (tkind P w).Stays where
  stays := fun hk x => (nestedKind_stays (prog := P) (w := w)).stays hk x
  tuple := fun x => (nestedKind_stays (prog := P) (w := w)).tuple x
theorem tkind_room {P : Program} {w : World} {A : Around} (h : A.units + 64 < cLine) : (tkind P w).room A := by
  show A.units + 8 < cLine
  omega
theorem tkind_room1 {P : Program} {w : World} {A : Around} (h : A.units + 64 < cLine) : (tkind P w).room A.in1 := by
  show A.in1.units + 8 < cLine
  have e : A.in1.units ≤ A.units + 1 := by first | exact Nat.le_refl _ | simp [Around.in1]
  omega
mutual
def NV (K : PySem.W.Frag) (H : Hp) : NestedKey → V → Prop
  | .none, v => v = .non
  | .num i, v => v = .int i
  | .text s, v => v = .str s
  | .tup ks, v => ∃ a vs, v = .ref a ∧ SqT K H a vs ∧ NVs K H ks vs
def NVs (K : PySem.W.Frag) (H : Hp) : List NestedKey → List V → Prop
  | [], vs => vs = []
  | k :: ks, vs => ∃ v r, vs = v :: r ∧ NV K H k v ∧ NVs K H ks r
end
/-- the tuple at b is the key k -/
def KAt (K : PySem.W.Frag) (H : Hp) (b : Addr) (k : KY) : Prop := NestedKey.depthAll k ≤ 7 ∧ ∃ vs, SqT K H b vs ∧ NVs K H k vs
section
variable {K : PySem.W.Frag} {H H' : Hp}
mutual
theorem NV.ext (e : ∀ a vs, SqT K H a vs → SqT K H' a vs) : ∀ {k : NestedKey} {v : V}, NV K H k v → NV K H' k v
  | .none, _, h => by simpa only [NV] using h
  | .num _, _, h => by simpa only [NV] using h
  | .text _, _, h => by simpa only [NV] using h
  | .tup ks, _, h => by
    simp only [NV] at h ⊢
    obtain ⟨a, vs, h1, h2, h3⟩ := h
    exact ⟨a, vs, h1, e _ _ h2, NVs.ext e h3⟩
theorem NVs.ext (e : ∀ a vs, SqT K H a vs → SqT K H' a vs) : ∀ {ks : List NestedKey} {vs : List V}, NVs K H ks vs → NVs K H' ks vs
  | [], _, h => by simpa only [NVs] using h
  | k :: ks, _, h => by
    simp only [NVs] at h ⊢
    obtain ⟨v, r, h1, h2, h3⟩ := h
    exact ⟨v, r, h1, NV.ext e h2, NVs.ext e h3⟩
end
theorem KAt.ext {b : Addr} {k : KY} (e : ∀ a vs, SqT K H a vs → SqT K H' a vs) (h : KAt K H b k) : KAt K H' b k :=
  let ⟨d, vs, h1, h2⟩ := h
  ⟨d, vs, e _ _ h1, NVs.ext e h2⟩
theorem nvs_num : ∀ {ns : List Int} {vs : List V}, NVs K H (ns.map .num) vs → vs = ns.map .int
  | [], _, h => by simpa only [NVs, List.map_nil] using h
  | n :: ns, _, h => by
    simp only [List.map_cons, NVs, NV] at h
    obtain ⟨v, r, rfl, rfl, h3⟩ := h
    rw [nvs_num h3]; rfl
theorem KAt.num {b : Addr} {ns : List Int} (h : KAt K H b (ns.map .num)) : SqT K H b (ns.map .int) := by
  obtain ⟨_, vs, h1, h2⟩ := h
  rw [← nvs_num h2]; exact h1
end
section
variable {X : Cx} {pins : List (Addr × Obj)} {σ : L2.St} {H : Hp} {s : Shared}
mutual
theorem nv_is (I : Inv X pins σ H s) : ∀ {k : NestedKey} {v : V} {u : Value}, NV X.K H k v → RelV v u → NestedIs s.heap k u
  | .none, _, u, h, r => by
    simp only [NV] at h
    subst h
    obtain rfl : u = Value.none := r
    exact .none
  | .num i, _, u, h, r => by
    simp only [NV] at h
    subst h
    obtain ⟨t, rfl⟩ := r
    exact .int i t
  | .text x, _, u, h, r => by
    simp only [NV] at h
    subst h
    obtain ⟨t, rfl⟩ := r
    exact .text x t
  | .tup ks, _, u, h, r => by
    simp only [NV] at h
    obtain ⟨a, vs, rfl, h2, h3⟩ := h
    obtain rfl : u = Value.ref a := r
    obtain ⟨its, rr, ⟨o, h4, h5, n, h6⟩, _⟩ := I.tuple h2
    exact .tup h4 h5 h6 (by rw [List.toList_toArray]; exact nvs_is I h3 rr)
theorem nvs_is (I : Inv X pins σ H s) : ∀ {ks : List NestedKey} {vs : List V} {us : List Value}, NVs X.K H ks vs → Vals vs us → NestedAll s.heap ks us
  | [], _, us, h, r => by
    simp only [NVs] at h
    subst h
    cases r
    exact .nil
  | k :: ks, _, us, h, r => by
    simp only [NVs] at h
    obtain ⟨v, q, rfl, h2, h3⟩ := h
    cases r with
    | cons r1 r2 => exact .cons (nv_is I h2 r1) (nvs_is I h3 r2)
end
/-- such a tuple, however it is held, is a key -/
theorem key (I : Inv X pins σ H s) {b : Addr} {k : KY} (e : KAt X.K H b k) : (tkind X.prog X.w).is s.heap k b := by
  obtain ⟨d, vs, h1, h2⟩ := e
  refine ⟨nv_is I (k := .tup k) (v := .ref b) (by simp only [NV]; exact ⟨b, vs, rfl, h1, h2⟩) rfl, ?_⟩
  show NestedKey.depthAll k + 1 ≤ 8
  omega
theorem key_tup (I : Inv X pins σ H s) {b : Addr} {k : KY} (e : KAt X.K H b k) : ∃ vs, SqT X.K H b vs := let ⟨_, vs, h, _⟩ := e; ⟨vs, h⟩
end
end DI

/-! A dict whose keys are tuples (tracked, locked or written), as a letter of its own: the keys' places and the values beside them. -/
namespace DI
open PySem PySem.Spec PyProof.Rows L2
abbrev KL := List (KY × Addr × V)
def kv (L : KL) : List (KY × V) := L.map fun p => (p.1, p.2.2)
def getL (L : KL) (k : KY) : Option V := valV (kv L) k
def putL (L : KL) (k : KY) (b : Addr) (v : V) : KL :=
  if (getL L k).isSome then L.map fun p => if p.1 = k then (p.1, p.2.1, v) else p else L ++ [(k, b, v)]
abbrev Row (p : KY × Addr × V) (q : KY × Addr × Value) : Prop := p.1 = q.1 ∧ p.2.1 = q.2.1 ∧ RelV p.2.2 q.2.2
def Dic0 (P : Program) (w : World) (h : Heap) (a : Addr) (L : KL) (ep : Nat) : Prop := (a == sysModules) = false ∧ L.length ≤ sizeLine ∧ ∃ xs : List (KY × Addr × Value), Paired Row L xs ∧
  ∃ o es, h.get? a = some o ∧ o.ExactDict ∧ o.data = .dict es ep ∧ es.toList = xs.map (entryOfKey (tkind P w)) ∧ (xs.map (·.1)).Nodup
def DicO (P : Program) (w : World) (a : Addr) (L : KL) (ep : Nat) : HO := .ext fun h => Dic0 P w h a L ep
theorem dic_new {P : Program} {w : World} {H : Hp} {h : Heap} {a : Addr} {L : KL} {ep : Nat} (R : Dic0 P w h a L ep) : ObjOk P w H h a (DicO P w a L ep) := by
  have ⟨_, _, _, _, o, es, ho, _⟩ := R
  refine ⟨R, ⟨o, ho⟩, fun h1 h2 p k => ?_⟩
  obtain ⟨z, z2, xs, r, o', es', ho', r'⟩ := (show Dic0 P w h1 a L ep from p)
  exact ⟨z, z2, xs, r, o', es', k o' ho', r'⟩
theorem val {L : KL} {xs : List (KY × Addr × Value)} (r : Paired Row L xs) (k : KY) : RelO (getL L k) ((atKey xs k).map (·.2)) := by
  unfold getL kv
  induction r with
  | nil => exact True.intro
  | @cons p q ps qs h t ih =>
    obtain ⟨h1, _, h2⟩ := h
    rw [List.map_cons]
    by_cases e : p.1 = k
    · have e' : q.1 = k := h1.symm.trans e
      have b : atKey (q :: qs) k = some q.2 := by simp [atKey, List.find?_cons, e']
      rw [valV_pos e, b]; exact h2
    · have e' : ¬ q.1 = k := fun z => e (h1.trans z)
      have b : atKey (q :: qs) k = atKey qs k := by simp [atKey, List.find?_cons, e']
      rw [valV_neg e, b]; exact ih
theorem repl {L : KL} {xs : List (KY × Addr × Value)} (r : Paired Row L xs) (k : KY) {y : V} {u : Value} (ry : RelV y u) :
    Paired Row (L.map fun p => if p.1 = k then (p.1, p.2.1, y) else p) (xs.map (putAt k u)) := by
  induction r with
  | nil => exact .nil
  | @cons p q ps qs h t ih =>
    rw [List.map_cons, List.map_cons]
    refine .cons ?_ ih
    obtain ⟨h1, h2, h3⟩ := h
    unfold putAt
    by_cases e : p.1 = k
    · rw [if_pos e, if_pos (h1.symm.trans e)]; exact ⟨h1, h2, ry⟩
    · rw [if_neg e, if_neg (fun z => e (h1.trans z))]; exact ⟨h1, h2, h3⟩
theorem put {L : KL} {xs : List (KY × Addr × Value)} (r : Paired Row L xs) (k : KY) {b : Addr} {y : V} {u : Value} (ry : RelV y u) :
    Paired Row (putL L k b y) (storedH xs k b u) := by
  have e : (getL L k).isSome = (atKey xs k).isSome := by rw [(val r k).isSome_eq, Option.isSome_map]
  unfold putL storedH
  rw [e]
  by_cases q : (atKey xs k).isSome = true
  · rw [if_pos q, if_pos q]; exact repl r k ry
  · rw [if_neg q, if_neg q]; exact Paired.snoc r ⟨rfl, rfl, ry⟩
theorem length_putL (L : KL) (k : KY) (b : Addr) (v : V) : (putL L k b v).length ≤ L.length + 1 := by
  unfold putL
  split <;> simp
section
variable {X : Cx} {pins : List (Addr × Obj)} {σ : L2.St} {H : Hp} {s : Shared} {a b : Addr} {L : KL} {ep : Nat} {k : KY} {A : Around} {E : Value → Shared → Prop}
def Keyed (K : PySem.W.Frag) (H : Hp) (L : KL) : Prop := ∀ p ∈ L, KAt K H p.2.1 p.1
theorem full (I : Inv X pins σ H s) (e : H a = some (DicO X.prog X.w a L ep)) (hk : Keyed X.K H L) :
    (a == sysModules) = false ∧ L.length ≤ sizeLine ∧ ∃ xs, Paired Row L xs ∧ ∃ o es, s.heap.get? a = some o ∧ o.ExactDict ∧ o.data = .dict es ep ∧ es.toList = xs.map (entryOfKey (tkind X.prog X.w)) ∧
      s.heap.DictOfH (tkind X.prog X.w) a xs := by
  obtain ⟨z, z2, xs, r, o, es, h1, h2, h3, h4, h5⟩ := (show Dic0 X.prog X.w s.heap a L ep from (I.hok a _ e).1)
  refine ⟨z, z2, xs, r, o, es, h1, h2, h3, h4, o, es, ep, h1, h2, h3, h4, fun x hx => ?_, h5⟩
  have all : ∀ {l : KL} {m : List (KY × Addr × Value)}, Paired Row l m → (∀ p ∈ l, KAt X.K H p.2.1 p.1) → ∀ x ∈ m, (tkind X.prog X.w).is s.heap x.1 x.2.1 := by
    intro l m q
    induction q with
    | nil => intro _ x hx; exact nomatch hx
    | @cons p q ps qs hq t ih =>
      intro hl x hx
      rcases List.mem_cons.mp hx with e | hx
      · subst e
        rw [← hq.1, ← hq.2.1]
        exact key I (hl p List.mem_cons_self)
      · exact ih (fun p hp => hl p (List.mem_cons_of_mem _ hp)) x hx
  exact all r hk x hx
end
section
variable {X : Cx}
/-- d[k], there -/
def rGet (X : Cx) : R2 := fun x y H Q => ∃ a L ep b k v, x = .ref a ∧ y = .ref b ∧ H a = some (DicO X.prog X.w a L ep) ∧ Keyed X.K H L ∧ KAt X.K H b k ∧ getL L k = some v ∧ Q v H
def rIn (X : Cx) (f : Bool → Bool) : R2 := fun y x H Q => ∃ a L ep b k, x = .ref a ∧ y = .ref b ∧ H a = some (DicO X.prog X.w a L ep) ∧ Keyed X.K H L ∧ KAt X.K H b k ∧ Q (.bl (f (getL L k).isSome)) H
theorem ix_dic (hu : X.A.units + 64 < cLine) : IxR X (rGet X) := by
  intro value slice pins s σ H x y v u Q I rx ry h hs
  obtain ⟨a, L, ep, b, k, z, rfl, rfl, ha, hk, hb, hv, q⟩ := h
  cases (show v = Value.ref a from rx)
  cases (show u = Value.ref b from ry)
  obtain ⟨_, _, xs, r, _, _, _, _, _, _, dd⟩ := full I ha hk
  obtain ⟨w', hw, rw'⟩ := RelO.some_of (v := z) (o := (atKey xs k).map (·.2)) (by rw [← hv]; exact val r k)
  obtain ⟨p, hp, hp2⟩ := Option.map_eq_some_iff.mp hw
  have fin : EP X pins σ Q w' { s with toks := s.toks + (tkind X.prog X.w).draws k } := ⟨z, H, I.tok _, rw', q⟩
  exact subscriptTail_builtinR (x := w') dd.typeIs PySem.F.slot_dict_getitem.lookup
    (wpAny_getItem_heap (Q := fun r s' => r = w' ∧ EP X pins σ Q r s') (tkind_room1 hu) (key I hb) dd hp (by rw [hp2]; exact ⟨rfl, fin⟩)) hs
theorem op_in (hu : X.A.units + 64 < cLine) : OpR X (compareOp .In) (rIn X id) := by
  intro pins s σ H y x u v Q I ry rx h
  obtain ⟨a, L, ep, b, k, rfl, rfl, ha, hk, hb, q⟩ := h
  cases (show v = Value.ref a from rx)
  cases (show u = Value.ref b from ry)
  obtain ⟨z, _, xs, r, _, _, _, _, _, _, dd⟩ := full I ha hk
  refine wpAny_in_heap (tkind_room1 hu) (key I hb) z dd ?_
  have e := (val r k).isSome_eq
  rw [Option.isSome_map] at e
  rw [← e]
  exact ⟨.bl (id (getL L k).isSome), H, I.tok _, rfl, q⟩
theorem op_notin (hu : X.A.units + 64 < cLine) : OpR X (compareOp .NotIn) (rIn X not) := by
  intro pins s σ H y x u v Q I ry rx h
  obtain ⟨a, L, ep, b, k, rfl, rfl, ha, hk, hb, q⟩ := h
  cases (show v = Value.ref a from rx)
  cases (show u = Value.ref b from ry)
  obtain ⟨z, _, xs, r, _, _, _, _, _, _, dd⟩ := full I ha hk
  refine wpAny_notIn_heap (tkind_room1 hu) (key I hb) z dd ?_
  have e := (val r k).isSome_eq
  rw [Option.isSome_map] at e
  rw [← e]
  exact ⟨.bl (!(getL L k).isSome), H, I.tok _, rfl, q⟩
/-- d[k] = v -/
theorem set_dic (hu : X.A.units + 64 < cLine) : PSet X (fun x y v H Q => ∃ a L ep b k, x = .ref a ∧ y = .ref b ∧ H a = some (DicO X.prog X.w a L ep) ∧ Keyed X.K H L ∧ KAt X.K H b k ∧ L.length < sizeLine ∧ ∀ ep' : Nat, Q (upd H a (DicO X.prog X.w a (putL L k b v) ep'))) := by
  intro pins s σ H o i v ov iv u Q I ro ri rv h
  obtain ⟨a, L, ep, b, k, rfl, rfl, ha, hk, hb, hl, q⟩ := h
  cases (show ov = Value.ref a from ro)
  cases (show iv = Value.ref b from ri)
  obtain ⟨z, _, xs, r, _, _, _, _, _, _, dd⟩ := full I ha hk
  have hz : xs.length ≤ sizeLine := by rw [← Paired.length r]; omega
  have hl' : (putL L k b v).length ≤ sizeLine := by have := length_putL L k b v; omega
  refine wpAny_setItem_heap (hsz := hz) (tkind_room1 hu) (key I hb) dd fun h' dd' hs => ?_
  obtain ⟨o, es, ep', ho, h2, h3, h4, _, h5⟩ := dd'
  refine ⟨_, ?_, q ep'⟩
  exact d_write I (by rw [ha]; exact True.intro) hs ⟨o, ho⟩ (dic_new ⟨z, hl', _, put r k rv, o, es, ho, h2, h3, h4, h5⟩)
/-- {} -/
theorem pe_new {pos : Pos} : PE X (.Dict [] [] pos) (fun _ H Q => ∀ p, H p = none → Q (.ref p) (upd H p (DicO X.prog X.w p [] 0))) := ⟨fun pins s σ H Q I h =>
  wpAny_Dict_empty ⟨.ref s.heap.objs.size, _, I.laid (a := s.heap.objs.size) (o := DicO X.prog X.w s.heap.objs.size [] 0) (t' := s.toks) (fun _ _ q => Heap.get?_push_of_some _ q) (Nat.le_refl _)
    (dic_new ⟨beq_eq_false_iff_ne.mpr (Ne.symm (Nat.ne_of_lt I.big)), Nat.zero_le _, [], .nil, _, #[], Heap.get?_push_size _ rfl, ⟨rfl, rfl, rfl⟩, rfl, rfl, List.nodup_nil⟩), rfl, h _ (I.hok.fresh (Nat.le_refl _))⟩⟩
end
end DI

/-! A deque of places (tuples, as a rule), with items: the letter, popleft, append, truth, deque([x]). -/
namespace DQ
open PySem PySem.Spec PyProof.Rows L2
theorem slot_append : Slot "collections.deque" "append" "collections.deque.append" :=
  .of (owner := "collections.deque") (n := "append") (by rw [typeLookup_type, builtinLookup_eq_fast]; kernel_rfl) (by decide +kernel) (by decide +kernel) (by decide +kernel)
    (by first | exact .inl (by decide +kernel) | exact .inr (by decide +kernel)) (by rw [isSubtype_type]; kernel_rfl)
theorem slot_popleft : Slot "collections.deque" "popleft" "collections.deque.popleft" :=
  .of (owner := "collections.deque") (n := "popleft") (by rw [typeLookup_type, builtinLookup_eq_fast]; kernel_rfl) (by decide +kernel) (by decide +kernel) (by decide +kernel)
    (by first | exact .inl (by decide +kernel) | exact .inr (by decide +kernel)) (by rw [isSubtype_type]; kernel_rfl)
theorem entry_append : entryFor table "collections.deque.append" = some Builtin.«collections.deque.append» := entryFor_of_tree (by kernel_rfl)
theorem entry_popleft : entryFor table "collections.deque.popleft" = some Builtin.«collections.deque.popleft» := entryFor_of_tree (by kernel_rfl)
theorem entry_extend : entryFor table "collections.deque.extend" = some Builtin.«collections.deque.extend» := entryFor_of_tree (by kernel_rfl)
theorem entry_loop : entryFor table "collections.deque.extend.loop" = some Builtin.«collections.deque.extend.loop» := entryFor_of_tree (by kernel_rfl)
theorem args_append (a x : Value) : argsOk "collections.deque.append" ⟨[a, x], []⟩ := by unfold argsOk; kernel_rfl
theorem args_popleft (a : Value) : argsOk "collections.deque.popleft" ⟨[a], []⟩ := by unfold argsOk; kernel_rfl
theorem args_init1 (a x : Value) : argsOk "collections.deque.__init__" ⟨[a, x], []⟩ := by unfold argsOk; kernel_rfl
theorem plainAttrs : PlainAttrs "collections.deque" :=
  ⟨⟨"collections.deque.__getattribute__", by rw [typeLookup_type, builtinLookup_eq_fast]; kernel_rfl, by decide +kernel⟩, by rw [typeLookup_type, builtinLookup_eq_fast]; kernel_rfl⟩
theorem ty_append : typeOf (.builtin "collections.deque.append") = pure (.type "method_descriptor") := by first | kernel_rfl | rfl
theorem ty_popleft : typeOf (.builtin "collections.deque.popleft") = pure (.type "method_descriptor") := by first | kernel_rfl | rfl

/-- the record of a deque: no bound, its count of changes, its items' places -/
def dqv (n : Int) (as : List Addr) : Array Value := #[Value.none, rawInt n] ++ (as.map Value.ref).toArray
theorem dqv_size (n : Int) (as : List Addr) : (dqv n as).size = as.length + 2 := by
  unfold dqv
  rw [Array.size_append]
  show 2 + (as.map Value.ref).length = _
  rw [List.length_map]; omega
theorem dqv_items (n : Int) (as : List Addr) : (dqv n as).extract 2 (dqv n as).size = (as.map Value.ref).toArray := by
  rw [dqv_size]; unfold dqv
  apply Array.ext'
  simp [List.take_of_length_le]
theorem dqv_0 (n : Int) (as : List Addr) : (dqv n as)[0]? = some Value.none := by unfold dqv; simp
theorem dqv_1 (n : Int) (as : List Addr) : (dqv n as)[1]? = some (rawInt n) := by unfold dqv; simp
theorem dqv_g (n : Int) (as : List Addr) : (dqv n as).getD 0 Value.none = Value.none := by
  unfold dqv; simp [Array.getD]
theorem dqv_nil : dqv 0 [] = dq0 := by unfold dqv dq0; simp
abbrev DqR (n : Int) (as : List Addr) : Obj := recObj "collections.deque" (dqv n as)
def DqO (a : Addr) (n : Int) (as : List Addr) : HO := RecO a "collections.deque" (dqv n as)
section
variable {prog : Program} {w : World} {A : Around} {E : Value → Shared → Prop} {s : Shared} {a : Addr} {n : Int} {as bs : List Addr}
theorem state_ok {Q : Int → Shared → Prop} (hl : s.heap.get? a = some (DqR n as)) (h : Q n s) : wpAny (model prog w) A (Builtin.Deque.state (.ref a)) Q E s := by
  unfold Builtin.Deque.state
  exact wpAny_bind (wpAny_field hl rfl (dqv_1 n as) (wpAny_pure h))
theorem maxlen_ok {Q : Option Nat → Shared → Prop} (hl : s.heap.get? a = some (DqR n as)) (h : Q none s) : wpAny (model prog w) A (Builtin.Deque.maxlen (.ref a)) Q E s := by
  unfold Builtin.Deque.maxlen
  exact wpAny_bind (wpAny_field hl rfl (dqv_0 n as) (wpAny_pure h))
theorem items_ok {Q : Array Value → Shared → Prop} (hl : s.heap.get? a = some (DqR n as)) (h : Q (as.map Value.ref).toArray s) : wpAny (model prog w) A (Builtin.Deque.items (.ref a)) Q E s := by
  unfold Builtin.Deque.items
  refine wpAny_bind (wpAny_fieldsOf hl rfl (wpAny_pure ?_))
  rw [dqv_items]; exact h
theorem size_ok {Q : Nat → Shared → Prop} (hl : s.heap.get? a = some (DqR n as)) (h : Q as.length s) : wpAny (model prog w) A (Builtin.Deque.size (.ref a)) Q E s := by
  unfold Builtin.Deque.size
  refine wpAny_bind (wpAny_fieldsOf hl rfl (wpAny_pure ?_))
  rw [dqv_size]; exact h
theorem change_ok {Q : Unit → Shared → Prop} {f : Array Value → Array Value} (hl : s.heap.get? a = some (DqR n as)) (hf : f (as.map Value.ref).toArray = (bs.map Value.ref).toArray) (hz : bs.length ≤ sizeLine)
    (h : ∀ h', h'.get? a = some (DqR (n + 1) bs) → Heap.SameBut a s.heap h' → Q () { s with heap := h' }) : wpAny (model prog w) A (Builtin.Deque.change (.ref a) f) Q E s := by
  unfold Builtin.Deque.change
  show wpAny _ _ (Builtin.Deque.state (.ref a) >>= fun k => updateFields a fun vs => #[vs.getD 0 .none, rawInt (if true = true then k + 1 else k)] ++ f (vs.extract 2 vs.size)) _ _ _
  refine wpAny_bind (state_ok hl ?_)
  have e : (#[(dqv n as).getD 0 .none, rawInt (if true = true then n + 1 else n)] ++ f ((dqv n as).extract 2 (dqv n as).size)) = dqv (n + 1) bs := by
    rw [dqv_items, hf, dqv_g, if_pos rfl]; rfl
  refine wpAny_updateFields hl rfl (h _ ?_ (Heap.SameBut.update ..)) ?_
  · rw [Heap.get?_update_self _ hl rfl]
    show some (recObj "collections.deque" (#[(dqv n as).getD 0 .none, rawInt (if true = true then n + 1 else n)] ++ f ((dqv n as).extract 2 (dqv n as).size))) = _
    rw [e]
  · rw [e, dqv_size]; omega
theorem push_ok {Q : Unit → Shared → Prop} {b : Addr} (hl : s.heap.get? a = some (DqR n as)) (hz : as.length < sizeLine)
    (h : ∀ h', h'.get? a = some (DqR (n + 1) (as ++ [b])) → Heap.SameBut a s.heap h' → Q () { s with heap := h' }) : wpAny (model prog w) A (Builtin.Deque.pushRight (.ref a) (.ref b)) Q E s := by
  unfold Builtin.Deque.pushRight
  refine wpAny_bind (change_ok (bs := as ++ [b]) hl (by simp) (by simp; omega) fun h' hg sb => ?_)
  exact wpAny_bind (maxlen_ok hg (wpAny_pure (h h' hg sb)))
end
/-! the rules -/
section
variable {X : Cx}
theorem Inv.dq {pins : List (Addr × Obj)} {σ : L2.St} {H : Hp} {s : Shared} {a : Addr} {n : Int} {as : List Addr} (I : Inv X pins σ H s) (e : H a = some (DqO a n as)) : s.heap.get? a = some (DqR n as) := I.recO e
theorem Inv.dqW {pins : List (Addr × Obj)} {σ : L2.St} {H : Hp} {s : Shared} {a : Addr} {n m : Int} {as bs : List Addr} {h' : Heap} {t' : Nat} (I : Inv X pins σ H s) (e : H a = some (DqO a n as)) (sb : Heap.SameBut a s.heap h')
    (new : h'.get? a = some (DqR m bs)) : Inv X pins σ (upd H a (DqO a m bs)) { s with heap := h', toks := t' } :=
  I.recW e (fun b u hb eu => (sb.2 b hb).trans eu) new
def rAppend : V → List V → Hp → VK → Prop := fun x xs H Q => ∃ a n as b, x = .ref a ∧ xs = [.ref b] ∧ H a = some (DqO a n as) ∧ as.length < sizeLine ∧ Q .non (upd H a (DqO a (n + 1) (as ++ [b])))
theorem mt_append : MtR X "collections.deque.append" rAppend := by
  intro pins s σ H x vs v us Q I rx rv h
  obtain ⟨a, n, as, b, rfl, rfl, hH, hz, q⟩ := h
  cases rx
  obtain ⟨u, rfl, ru⟩ := rv.one
  cases ru
  refine wpAny_call_entry slot_append ⟨_, Inv.dq I hH, rfl⟩ entry_append ?_ (args_append _ _)
  unfold Builtin.«collections.deque.append»
  refine wpAny_bind (wpAny_pure ?_)
  refine wpAny_bind (push_ok (Inv.dq I hH) hz fun h' hg sb => ?_)
  exact wpAny_pure ⟨_, rfl, .non, _, Inv.dqW I hH sb hg, rfl, q⟩
def rPop : V → List V → Hp → VK → Prop := fun x xs H Q => ∃ a n as b, x = .ref a ∧ xs = [] ∧ H a = some (DqO a n (b :: as)) ∧ as.length ≤ sizeLine ∧ Q (.ref b) (upd H a (DqO a (n + 1) as))
theorem mt_popleft : MtR X "collections.deque.popleft" rPop := by
  intro pins s σ H x vs v us Q I rx rv h
  obtain ⟨a, n, as, b, rfl, rfl, hH, hz, q⟩ := h
  cases rx
  cases rv
  refine wpAny_call_entry slot_popleft ⟨_, Inv.dq I hH, rfl⟩ entry_popleft ?_ (args_popleft _)
  unfold Builtin.«collections.deque.popleft»
  refine wpAny_bind (wpAny_pure ?_)
  refine wpAny_bind (items_ok (Inv.dq I hH) ?_)
  rw [List.map_cons]
  show wpAny _ _ (Builtin.Deque.change (.ref a) (·.eraseIdxIfInBounds 0) >>= fun _ => ret (.ref b)) _ _ _
  refine wpAny_bind (change_ok (bs := as) (Inv.dq I hH) (by rw [List.map_cons]; simp [Array.eraseIdxIfInBounds]) hz fun h' hg sb => ?_)
  exact wpAny_pure ⟨_, rfl, .ref b, _, Inv.dqW I hH sb hg, rfl, q⟩
/-- a deque is true as soon as it has an item -/
theorem dq_truthy {prog : Program} {w : World} {A : Around} {E : Value → Shared → Prop} {s : Shared} {l : Addr} {n : Int} {as : List Addr} {Q : Bool → Shared → Prop} (hl : s.heap.get? l = some (DqR n as)) (hz : as.length ≤ sizeLine)
    (h : ∀ t, Q (!as.isEmpty) { s with toks := t }) : wpAny (model prog w) A (truthy (.ref l)) Q E s := by
  have hT : s.TypeIs (.ref l) "collections.deque" := ⟨_, hl, rfl⟩
  have hs : sizeLine < 2 ^ 62 := by decide
  have key : wpAny (model prog w) A (runValue (.builtin "len" ⟨[.ref l], []⟩)) (fun r s' => r = .int as.length (s.toks + 1) ∧ Q (!as.isEmpty) s') E s := by
    refine wpAny_runValue (codeAny_builtin entry_len ?_)
    rw [Around.under_plainId plain_len _]
    refine wpAny_mono (Q := fun fin s' => ∃ r, fin = .done (.ret r) ∧ r = .int as.length (s.toks + 1) ∧ Q (!as.isEmpty) s') ?_ (fun fin s' h' => by obtain ⟨r, rfl, hq⟩ := h'; exact hq) fun _ _ e => e
    unfold Builtin.«len»
    refine wpAny_bind (m := oneArg "len" _) (wpAny_pure ?_)
    refine wpAny_bind (m := callSpecial? (.ref l) (Str.ofString "__len__")) (wpAny_callSpecial?_slot (name := Str.ofString "__len__") hT F.dq_slot_len
      (wpAny_call_entry F.dq_slot_len hT F.dq_entry_len ?_ (F.dq_args_len _)))
    show wpAny _ _ (Builtin.Deque.size (.ref l) >>= fun k => retInt k) _ _ s
    refine wpAny_bind (size_ok hl ?_)
    show wpAny _ _ (retInt ((as.length : Nat) : Int)) _ _ _
    refine wpAny_bind (wpAny_mkInt (wpAny_pure ⟨_, rfl, ?_⟩))
    refine wpAny_bind (wpAny_holding (wpAny_pure ?_))
    refine wpAny_bind (wpAny_letGo ?_)
    show wpAny _ _ (if ((as.length : Nat) : Int) < 0 then _ else _) _ _ _
    rw [if_neg (by omega)]
    show wpAny _ _ (if ((as.length : Nat) : Int) ≥ 2 ^ 63 then _ else _) _ _ _
    rw [if_neg (by omega)]
    exact wpAny_bind (wpAny_mkInt (wpAny_pure ⟨_, rfl, rfl, h _⟩))
  have fin : ((.int as.length (s.toks + 1) : Value) == .int 0 0) = false ∨ True := .inr trivial
  unfold truthy
  first
    | refine wpAny_bind (wpAny_callSpecial?_none (name := Str.ofString "__bool__") hT F.dq_noBool ?_)
    | refine wpAny_bind (wpAny_pure (wpAny_bind (wpAny_callSpecial?_none (name := Str.ofString "__bool__") hT F.dq_noBool ?_)))
  first
    | refine wpAny_bind (wpAny_specialOf (name := Str.ofString "__len__") hT F.dq_slot_len.lookup ?_)
    | refine wpAny_bind (wpAny_pure (wpAny_bind (wpAny_specialOf (name := Str.ofString "__len__") hT F.dq_slot_len.lookup ?_)))
  have last : ∀ s' : Shared, Q (!as.isEmpty) s' → Q (((as.length : Nat) : Int) != 0) s' := by
    intro s' hq
    have e : (((as.length : Nat) : Int) != 0) = !as.isEmpty := by cases as <;> simp <;> omega
    rw [e]; exact hq
  first
    | exact wpAny_bind (wpAny_mono key (fun r s' h' => by obtain ⟨rfl, hq⟩ := h'; exact wpAny_pure (last _ hq)) fun _ _ e => e)
    | exact wpAny_bind (wpAny_pure (wpAny_bind (wpAny_mono key (fun r s' h' => by obtain ⟨rfl, hq⟩ := h'; exact wpAny_pure (last _ hq)) fun _ _ e => e)))
theorem tru_deque : TruR X (fun x H Q => ∃ a n as, x = .ref a ∧ H a = some (DqO a n as) ∧ as.length ≤ sizeLine ∧ Q (!as.isEmpty) H) := by
  intro pins s σ H x v Q I rx h
  obtain ⟨a, n, as, rfl, e, hz, q⟩ := h
  cases rx
  exact dq_truthy (Inv.dq I e) hz fun t => ⟨H, I.tok _, q⟩
end
/-! deque([x]) -/
section
variable {prog : Program} {w : World} {A : Around} {E : Value → Shared → Prop} {s : Shared}
theorem typeCall1 (x : Value) : checkTypeCall "collections.deque" ⟨[x], []⟩ = pure () := by first | kernel_rfl | rfl
theorem newCall1 (x : Value) : checkBuiltinCall "collections.deque.__new__" ⟨[.type "collections.deque", x], []⟩ = pure () := by first | kernel_rfl | rfl
theorem code_new1 {x : Value} {Q₁ : Value → Shared → Prop} (h : Q₁ (.ref s.heap.objs.size) { s with heap := s.heap.push (recObj "collections.deque" dq0) }) :
    codeAny (model prog w) A (.call (.builtin "collections.deque.__new__") ⟨[.type "collections.deque", x], []⟩) (wants Q₁ E) s := by
  refine codeAny_call_builtin F.dq_plain_new F.dq_entry_new (wpAny_of_eq (newCall1 x) ?_)
  unfold Builtin.«collections.deque.__new__»
  refine wpAny_bind ?_
  unfold Builtin.Deque.newArgs
  refine wpAny_bind (wpAny_of_eq (a := true) rfl ?_)
  refine PySem.W.KFB.if_not rfl ?_
  refine wpAny_bind (wpAny_of_eq (a := true) F.dq_sub ?_)
  refine PySem.W.KFB.if_not rfl ?_
  refine wpAny_pure ?_
  refine wpAny_bind ?_
  unfold Builtin.Deque.new
  rw [if_neg (show ¬ (#[] : Array Value).size > sizeLine by decide)]
  refine wpAny_bind (wpAny_pure ?_)
  exact dq_made (wpAny_pure h)
theorem plain_extend : plainId "collections.deque.extend" = true := by decide +kernel
theorem plain_loop : plainId "collections.deque.extend.loop" = true := by decide +kernel
theorem quiet_loop (a : Args) : (Code.builtin "collections.deque.extend.loop" a).quiet = true := by first | rfl | kernel_rfl | (simp [Code.quiet]; decide +kernel)
theorem loop_end {q i l : Addr} {n : Int} {as : List Addr} {items : Array Value} {k : Nat} {R : Result → Shared → Prop} (hh : A.handled = none) (hit : s.heap.IsListIter i l k) (hl : s.heap.IsList l items) (hx : items[k]? = none)
    (h : ∀ h', Heap.ExtBut i s.heap h' → R (.ok (.ret .none)) { s with heap := h' }) :
    codeAny (model prog w) A (.builtin "collections.deque.extend.loop" ⟨[.ref q, .ref i, .none], []⟩) R s := by
  refine codeAny_builtin entry_loop ?_
  rw [Around.under_plainId plain_loop _]
  unfold Builtin.«collections.deque.extend.loop»
  refine wpAny_bind (wpAny_pure ?_)
  exact wpAny_bind (wpAny_pyNext_list_end hh hit hl hx fun h' e => wpAny_pure (h h' e))
theorem loop_item {q i l b : Addr} {n : Int} {as : List Addr} {items : Array Value} {k : Nat} {R : Result → Shared → Prop} (hit : s.heap.IsListIter i l k) (hl : s.heap.IsList l items) (hx : items[k]? = some (.ref b))
    (hq : s.heap.get? q = some (DqR n as)) (hqi : q ≠ i) (hql : q ≠ l) (hil : i ≠ l) (hz : as.length < sizeLine)
    (h : ∀ h', h'.IsListIter i l (k + 1) → h'.get? q = some (DqR (n + 1) (as ++ [b])) → (∀ c u, c ≠ q → c ≠ i → s.heap.get? c = some u → h'.get? c = some u) →
      codeAny (model prog w) A (.builtin "collections.deque.extend.loop" ⟨[.ref q, .ref i, .none], []⟩) R { s with heap := h' }) :
    codeAny (model prog w) A (.builtin "collections.deque.extend.loop" ⟨[.ref q, .ref i, .none], []⟩) R s := by
  refine codeAny_builtin entry_loop ?_
  rw [Around.under_plainId plain_loop _]
  unfold Builtin.«collections.deque.extend.loop»
  refine wpAny_bind (wpAny_pure ?_)
  refine wpAny_bind (wpAny_pyNext_list_item hit hl hx fun h1 hit1 sb1 => ?_)
  have hq1 : h1.get? q = some (DqR n as) := (sb1.2 q hqi).trans hq
  show wpAny _ _ (field (.ref q) 0 >>= _) _ _ _
  refine wpAny_bind (wpAny_field hq1 rfl (dqv_0 n as) ?_)
  show wpAny _ _ (Builtin.Deque.maxlen (.ref q) >>= _) _ _ _
  refine wpAny_bind (maxlen_ok hq1 ?_)
  show wpAny _ _ (Builtin.Deque.pushRight (.ref q) (.ref b) >>= _) _ _ _
  refine wpAny_bind (push_ok hq1 hz fun h2 hq2 sb2 => ?_)
  refine wpAny_pure ⟨quiet_loop _, h h2 ?_ hq2 fun c u c1 c2 e => (sb2.2 c c1).trans ((sb1.2 c c2).trans e)⟩
  exact hit1.at fun o ho => (sb2.2 i (Ne.symm hqi)).trans ho
theorem extend1 {q l b : Addr} {Q : Unit → Shared → Prop} (hh : A.handled = none) (hl : s.heap.IsList l #[.ref b]) (hq : s.heap.get? q = some (DqR 0 [])) (hql : q ≠ l)
    (h : ∀ h', h'.get? q = some (DqR 1 [b]) → (∀ c u, c ≠ q → s.heap.get? c = some u → h'.get? c = some u) → Q () { s with heap := h' }) :
    wpAny (model prog w) A (Builtin.Deque.extend (.ref q) (.ref l)) Q E s := by
  unfold Builtin.Deque.extend
  have hlq : (Value.ref q == Value.ref l) = false := by
    have : ¬ (Value.ref q = Value.ref l) := fun z => hql (Value.ref.inj z)
    exact beq_eq_false_iff_ne.mpr this
  have hqs : q < s.heap.objs.size := Heap.lt_size hq
  have hls : l < s.heap.objs.size := by obtain ⟨o, ho, _⟩ := id hl; exact Heap.lt_size ho
  refine wpAny_bind (wpAny_runValue (codeAny_builtin entry_extend ?_))
  rw [Around.under_plainId plain_extend _]
  unfold Builtin.«collections.deque.extend»
  refine wpAny_bind (wpAny_pure ?_)
  show wpAny _ _ (if (Value.ref q == Value.ref l) = true then _ else _) _ _ _
  rw [if_neg (by rw [hlq]; exact Bool.false_ne_true)]
  show wpAny _ _ (field (.ref q) 0 >>= _) _ _ _
  refine wpAny_bind (wpAny_field hq rfl (dqv_0 0 []) ?_)
  refine wpAny_bind (wpAny_pyIter_list hl ?_)
  refine wpAny_pure ⟨quiet_loop _, ?_⟩
  have it0 : (s.heap.push { cls := .type "list_iterator", data := .fields #[.ref l, .int 0 0] }).get? s.heap.objs.size = some { cls := .type "list_iterator", data := .fields #[.ref l, .int 0 0] } := Heap.get?_push_size _ rfl
  have hit : (s.heap.push { cls := .type "list_iterator", data := .fields #[.ref l, .int 0 0] }).IsListIter s.heap.objs.size l 0 := ⟨_, it0, rfl, rfl⟩
  refine loop_item (l := l) (items := #[.ref b]) (k := 0) (b := b) (n := 0) (as := []) hit (hl.at fun o ho => Heap.get?_push_of_some _ ho) rfl (Heap.get?_push_of_some _ hq) (Nat.ne_of_lt hqs) hql (Ne.symm (Nat.ne_of_lt hls)) (by decide) fun h1 hit1 hq1 k1 => ?_
  have hl1 : h1.IsList l #[.ref b] := hl.at fun o ho => k1 l o (Ne.symm hql) (Nat.ne_of_lt hls) (Heap.get?_push_of_some _ ho)
  refine loop_end (n := 0) (as := []) hh hit1 hl1 rfl fun h2 e2 => ?_
  refine wpAny_pure (h h2 (e2 q _ (Nat.ne_of_lt hqs) hq1) fun c u hc e => ?_)
  have hcs : c < s.heap.objs.size := Heap.lt_size e
  exact e2 c u (Nat.ne_of_lt hcs) (k1 c u hc (Nat.ne_of_lt hcs) (Heap.get?_push_of_some _ e))
theorem call1 {l b : Addr} {Q : Value → Shared → Prop} (hh : A.handled = none) (hl : s.heap.IsList l #[.ref b])
    (h : ∀ h', h'.get? s.heap.objs.size = some (DqR 1 [b]) → (∀ c u, s.heap.get? c = some u → h'.get? c = some u) → Q (.ref s.heap.objs.size) { s with heap := h' }) :
    wpAny (model prog w) A (call (.type "collections.deque") [.ref l]) Q E s := by
  have hls : l < s.heap.objs.size := by obtain ⟨o, ho, _⟩ := id hl; exact Heap.lt_size ho
  refine callType_codes (Q₁ := fun obj s₁ => obj = .ref s.heap.objs.size ∧ s₁ = { s with heap := s.heap.push (recObj "collections.deque" dq0) }) F.dq_called (typeCall1 _) F.dq_entry_init (code_new1 ⟨rfl, rfl⟩) ?_
  rintro obj s₁ ⟨rfl, rfl⟩
  have hg : (s.heap.push (recObj "collections.deque" dq0)).get? s.heap.objs.size = some (recObj "collections.deque" dq0) := Heap.get?_push_size _ rfl
  refine ⟨⟨_, hg, rfl⟩, args_init1 _ _, ?_⟩
  unfold Builtin.«collections.deque.__init__»
  show wpAny _ _ (setField (.ref s.heap.objs.size) 0 .none >>= fun _ => Builtin.Deque.clear (.ref s.heap.objs.size) >>= fun _ => Builtin.Deque.extend (.ref s.heap.objs.size) (.ref l) >>= fun _ => ret .none) _ _ _
  refine wpAny_bind (wpAny_setField_rec (a := s.heap.objs.size) (vs := dq0) hg (by rw [dq0_size]; decide) fun h' hg' sb => ?_)
  rw [dq0_set] at hg'
  have old : ∀ c u, s.heap.get? c = some u → h'.get? c = some u := fun c u e => (sb.2 c (Nat.ne_of_lt (Heap.lt_size e))).trans (Heap.get?_push_of_some _ e)
  refine wpAny_bind ?_
  unfold Builtin.Deque.clear
  refine wpAny_bind ?_
  unfold Builtin.Deque.items
  refine wpAny_bind (wpAny_fieldsOf hg' rfl (wpAny_pure ?_))
  show wpAny _ _ (if (dq0.extract 2 dq0.size).size > 0 then _ else _) _ _ _
  rw [if_neg dq0_items]
  refine wpAny_pure ?_
  rw [← dqv_nil] at hg'
  refine wpAny_bind (extend1 (q := s.heap.objs.size) (l := l) (b := b) hh (hl.at fun o ho => old l o ho) hg' (Ne.symm (Nat.ne_of_lt hls)) fun h2 hq2 k2 => ?_)
  exact wpAny_pure ⟨rfl, h h2 hq2 fun c u e => k2 c u (Nat.ne_of_lt (Heap.lt_size e)) (old c u e)⟩
end
section
variable {X : Cx}
def rNew : List V → Hp → VK → Prop := fun xs H Q => ∃ l b, xs = [.ref l] ∧ H l = some (.lst [.ref b]) ∧ ∀ q, H q = none → Q (.ref q) (upd H q (DqO q 1 [b]))
theorem call_deque (hh : X.A.handled = none) : CallR X (.type "collections.deque") rNew := by
  intro pins s σ H xs us Q I r h
  obtain ⟨l, b, rfl, hH, q⟩ := h
  obtain ⟨u, rfl, ru⟩ := r.one
  cases ru
  obtain ⟨z, its, n, rv, hl, e⟩ := I.lstM hH
  obtain ⟨u, rfl, ru⟩ := rv.one
  cases ru
  refine call1 (b := b) hh ⟨_, e, rfl, n, rfl⟩ fun h' hg k => ⟨.ref s.heap.objs.size, _, I.recL (t' := s.toks) (Nat.le_refl _) k hg, rfl, q _ (I.hok.fresh (Nat.le_refl _))⟩
end
end DQ

/-! Lambdas with parameters as values: handed to a def, called there or further on. -/
namespace FV
open PySem PySem.Spec PyProof.Rows L2 LamX NdefX
/-- a lambda's words -/
structure LF where
  qual : Str
  params : Arguments
  body : Expr
  scope : Scope
  N : List Str
  ps : List Str
  fr : List Str
def LF.nf (L : LF) (cl : List (Str × Addr)) (c : Addr) : NF := ⟨"<lambda>", L.qual, L.params, [], L.scope, cl, c⟩
/-- cells stay, whatever the frames -/
theorem cells_un {cl : List (Str × Addr)} {fr : List Str} {ws : List (Option V)} {fs : List Addr} {H H' : Hp} {h h' : Heap} (C : CellsAt cl fr ws h H) (u : Un fs [] H H' h h') : CellsAt cl fr ws h' H' := by
  have kp : ∀ y c, cl.lookup y = some c → ∀ v, h.IsCell c v → h'.IsCell c v := fun y c e v ⟨o, ho, hd⟩ => by
    obtain ⟨sl, q⟩ := u.any ho (C.all y c e).1 (by simp)
    exact ⟨_, q, hd⟩
  refine ⟨C.len, fun y c e => ?_, C.inj, fun i y e => ?_⟩
  · obtain ⟨n, v, z⟩ := C.all y c e
    refine ⟨?_, v, kp y c e v z⟩
    obtain ⟨o, ho, _⟩ := z
    exact u.free c o ho n (by simp)
  · obtain ⟨c, hc, hv⟩ := C.has i y e
    refine ⟨c, hc, fun v ev => ?_⟩
    obtain ⟨x, r, z⟩ := hv v ev
    exact ⟨x, r, kp y c hc _ z⟩
/-- a lambda's object at f, its code object c; its captured cells hold ws -/
structure CloAt (L : LF) (f c : Addr) (ws : List V) (h : Heap) (H : Hp) : Prop where
  un : H f = none
  at_ : ∃ cl pm ctv od sl, h.get? f = some (⟨.type "function", od, .func (PySem.W.kla_fn "<lambda>" L.qual L.params L.body L.scope cl pm (.ref c) ctv), sl⟩ : Obj) ∧ CellsAt cl L.fr (ws.map some) h H
theorem CloAt.later {L : LF} {f c : Addr} {ws : List V} {fs : List Addr} {H H' : Hp} {h h' : Heap} (C : CloAt L f c ws h H) (u : Un fs [] H H' h h') : CloAt L f c ws h' H' := by
  obtain ⟨n, cl, pm, ctv, od, sl, e, k⟩ := C
  obtain ⟨sl', q⟩ := u.any e n (by simp)
  exact ⟨u.free f _ e n (by simp), cl, pm, ctv, od, sl', q, cells_un k u⟩
theorem CloAt.inv {X : Cx} {pins : List (Addr × Obj)} {σ : L2.St} {H : Hp} {s : Shared} {L : LF} {f c : Addr} {ws : List V} (C : CloAt L f c ws X.s_0.heap X.H_0) (I : Inv X pins σ H s) (hx : X.ex = []) : CloAt L f c ws s.heap H := by
  have u := I.base
  rw [hx] at u
  exact C.later u
theorem CloAt.fn {L : LF} {f c : Addr} {ws : List V} {h : Heap} {H : Hp} (C : CloAt L f c ws h H) : PySem.W.FnAt f h := by
  obtain ⟨_, cl, pm, ctv, od, sl, e, _⟩ := C
  exact ⟨_, od, _, sl, e⟩
/-- what a lambda promises -/
structure LOk (P : Program) (w : World) (K : PySem.W.Frag) (mg : Str → Option Value) (base : Heap) (CX : CXT) (k : Nat) (L : LF) (sp : List V → Sp) : Prop where
  len : ∀ ws vs H Q E, sp ws vs H Q E → vs.length = L.ps.length
  run : ∀ (A : Around) (outer : List Env) (s : Shared) (H : Hp) (us : List Value) (vs ws : List V) (f c : Addr) (Q : VK) (E : XK), Room k A → Env0 P w K mg base A outer s H → CloAt L f c ws s.heap H → H c = some (CodeO c L.qual) →
    Vals vs us → sp ws vs H Q E → codeAny (model P w) A (.call (.ref f) ⟨us, []⟩) (CR CX outer P w H s Q E) s
section
variable {CX : CXT} {P : Program} {w : World} {K : PySem.W.Frag} {mg : Str → Option Value} {base : Heap} {L : LF} {k : Nat} {sp : List V → Sp}
/-- THE RULE: a lambda by its body -/
theorem lok_of (S : NScope L.N L.ps L.fr L.scope) (hb : ∀ (cl : List (Str × Addr)) (pm cv ctv : Value) (us : List Value), us.length = L.ps.length → bindArgs (PySem.W.kla_fn "<lambda>" L.qual L.params L.body L.scope cl pm cv ctv) ⟨us, []⟩ = pure (L.ps.zip us))
    (len : ∀ ws vs H Q E, sp ws vs H Q E → vs.length = L.ps.length)
    (hbody : ∀ (A : Around) (outer : List Env) (s : Shared) (H : Hp) (vs ws : List V) (f c : Addr) (cl : List (Str × Addr)) (Q : VK) (E : XK), Room k (A.deeper (envF (L.nf cl c) f s.heap.objs.size)) → sp ws vs H Q E →
      ∃ t, PE (ncx CX P w K mg base L.N (L.nf cl c) f A outer s H E) L.body t ∧ t (startF L.N vs (ws.map some)) H Q) :
    LOk P w K mg base CX (k + 1) L sp := by
  refine ⟨len, fun A outer s H us vs ws f c Q E hr e0 C hc r hsp => ?_⟩
  obtain ⟨n, cl, pm, ctv, od, sl, ho, CC⟩ := C
  have hl := len _ _ _ _ _ hsp
  have lim : s.heap.NoLimit := e0.mod.nolimit.keeps fun b o e => (e0.bs b o e).1
  refine PySem.W.kla_callFunE hr.depth ho rfl S.co S.gen rfl (codeO_at e0.hok hc) ?_
  rw [hb cl pm (.ref c) ctv us (by rw [← r.length]; exact hl)]
  refine wpAny_pure (wpAny_newFunctionEnv S.nocell (fun ⟨n, _⟩ hy => S.par n (List.of_mem_zip hy).1) (fun h₁ hns hsb => ⟨lim.fresh _ hsb, ?_⟩) S.kind)
  show codeAny _ _ (.expr L.body (envF (L.nf cl c) f s.heap.objs.size)) _ _
  have kp : ∀ b o, s.heap.get? b = some o → h₁.get? b = some o := fun b o e => hsb.extBut b o (Nat.ne_of_lt (Heap.lt_size e)) (Heap.get?_push_of_some _ e)
  obtain ⟨t, ht, hq⟩ := hbody A outer s H vs ws f c cl Q E (hr.deeper _) hsp
  have I : Inv (ncx CX P w K mg base L.N (L.nf cl c) f A outer s H E) [] (startF L.N vs (ws.map some)) H { s with heap := h₁, toks := s.toks + (L.ps.zip us).length } := inv_startN (F := L.nf cl c) S hr.hd e0 hl r CC hns kp
  refine PySem.W.kla_codeExpr (wpAny_mono (ht.run [] _ _ H Q I hq) (fun v s' hs => ?_) fun e s' hs => hs)
  obtain ⟨v', H', J, rv, q⟩ := hs
  exact ⟨v', H', J.os, J.bare, J.base, J.hok, rv, q⟩
theorem LOk.mono {j : Nat} (o : LOk P w K mg base CX j L sp) (h : j ≤ k) : LOk P w K mg base CX k L sp := ⟨o.len, fun A outer s H us vs ws f c Q E hr => o.run A outer s H us vs ws f c Q E (hr.mono h)⟩
end
/-! ### calls -/
section
variable {X : Cx} {CX : CXT} {L : LF} {i j k : Nat} {x : Str} {f c : Addr} {ws : List V} {sp : List V → Sp} {E : L2.St → XK} {t : TA} {e : Expr} {es : List Expr} {p pos : Pos}
theorem run_l {pins : List (Addr × Obj)} {σ : L2.St} {H : Hp} {s : Shared} {Q : VK} {us : List Value} {vs : List V} (Fn : LOk X.prog X.w X.K X.mg X.base CX k L sp) (hr : Room k X.A) (hx : PassesAt CX X σ (E σ)) (I : Inv X pins σ H s)
    (C : CloAt L f c ws s.heap H) (hc : H c = some (CodeO c L.qual)) (r : Vals vs us) (q : sp ws vs H Q (E σ)) :
    wpAny (model X.prog X.w) X.A (call (.ref f) us) (EP X pins σ Q) X.xe s := by
  refine wpAny_call (codeAny_mono (Fn.run X.A X.stack s H us vs ws f c Q (E σ) hr I.env0 C hc r q) fun r s' hq => ?_)
  cases r with
  | error e => exact hx pins H s e s' I hq
  | ok fl =>
    cases fl with
    | ret u => exact I.after hq
    | next => exact False.elim hq
    | brk => exact False.elim hq
    | cont => exact False.elim hq
/-- x(..), x a name that holds a lambda handed to this def -/
def tCallV (L : LF) (i : Nat) (f c : Addr) (ws : List V) (sp : List V → Sp) (E : L2.St → XK) (t : TA) : TE := fun σ H Q => σ[i]? = some (some (.ref f)) ∧ t σ H fun vs H1 => H1 c = some (CodeO c L.qual) ∧ sp ws vs H1 Q (E σ)
theorem pe_callV (Fn : LOk X.prog X.w X.K X.mg X.base CX k L sp) (C : CloAt L f c ws X.s_0.heap X.H_0) (hex : X.ex = []) (hr : Room k X.A) (hx : ∀ σ, PassesAt CX X σ (E σ)) (hN : X.N[i]? = some x) (hv : Vis X.env.scope x) (ha : PA X (e :: es) t)
    (hd : (x == ("__debug__" : Str)) = false := by decide) (hcd : (x == ("__classdict__" : Str)) = false := by decide)
    (he : starEach (e :: es) X.env = (false, eval e X.env) :: starEach es X.env := by rfl) (hpl : (backTo pos (starEach es X.env)).any (·.1) = false := by rfl) :
    PE X (.Call (.Name x p) (e :: es) [] pos) (tCallV L i f c ws sp E t) := by
  refine ⟨fun pins s σ H Q I h => ?_⟩
  obtain ⟨hs, ht⟩ := h
  refine wpAny_Call_Name_kw (thn ((pe_var (pos := p) hN hv hd hcd).run pins s σ H (fun v H1 => v = .ref f ∧ H1 = H) I ⟨.ref f, hs, rfl, rfl⟩) fun u s1 ⟨v, H1, I1, r1, q1⟩ => ?_)
  obtain ⟨ev, eH⟩ := q1
  subst ev
  rw [eH] at I1
  obtain rfl : u = Value.ref f := r1
  refine PySem.W.callWith_F (first := []) (C.inv I1 hex).fn (thn (ha.run pos pins s1 σ H _ I1 ht) fun us s2 ⟨vs, H2, I2, r, h1, q⟩ => ⟨(C.inv I2 hex).fn, ?_⟩) he hpl
  show wpAny _ _ (call (.ref f) us) _ _ _
  exact run_l Fn hr (hx σ) I2 (C.inv I2 hex) h1 r q
end
end FV

/-! The making of a lambda, all but the one table kept. -/
namespace FV
open PySem PySem.Spec PyProof.Rows L2 LamX NdefX
/-- all but the table at P stays -/
def ExtT (P : Addr) (H H1 : Hp) : Prop := ∀ b o, b ≠ P → H b = some o → H1 b = some o
section
variable {X : Cx} {pins : List (Addr × Obj)} {σ : L2.St} {H : Hp} {s : Shared}
/-- the lambda's words, as this frame makes it -/
abbrev lq (X : Cx) : Str := X.env.qual ++ "<lambda>"
abbrev lcl (X : Cx) (sc : Scope) : List (Str × Addr) := cloFrom X.env.cells sc.names []
/-- one more entry in the table, its code object tracked -/
theorem grown {T : List (Addr × Str)} {P c1 : Addr} {ps : Array Value} {l c : Int} {q : Str} (hT : Tabs T H) (uq : ∀ z ∈ T, z.1 = P → z.2 = q) (eP : H P = some (.tbl ps)) (ok : TriplesOk ps.toList)
    (al : ∀ (at_ : Pos) (v : Value), codeAmong at_ ps.toList = some v → ∃ d, v = .ref d ∧ H d = some (CodeO d q)) (fresh : H c1 = none) (pos : Pos) :
    let H1 := upd (upd H P (.tbl (ps ++ #[rawInt pos.line, rawInt pos.col, .ref c1]))) c1 (CodeO c1 q)
    ExtT P H H1 ∧ Tabs T H1 := by
  intro H1
  have k : ExtT P H H1 := fun b o hb e => by
    show upd _ c1 _ b = _
    rw [upd_ne (ne_of_none e fresh), upd_ne hb]
    exact e
  have notP : ∀ d, H d = some (CodeO d q) → d ≠ P := fun d e z => by
    rw [z, eP] at e
    exact codeO_ne _ (Option.some.inj e).symm
  refine ⟨k, fun z hz => ?_⟩
  by_cases hb : z.1 = P
  · rw [uq z hz hb, hb]
    have lst : (ps ++ #[rawInt pos.line, rawInt pos.col, .ref c1]).toList = ps.toList ++ [rawInt pos.line, rawInt pos.col, .ref c1] := by simp
    refine ⟨_, (show upd _ c1 _ P = _ by rw [upd_ne (ne_of_none eP fresh), upd_same]), ?_, fun p1 v hv => ?_⟩
    · rw [lst]; exact PySem.TriplesOk_snoc _ _ _ _ ok
    · rw [lst] at hv
      rcases among_app _ ok hv with y | y
      · obtain ⟨d, e1, e2⟩ := al p1 v y
        exact ⟨d, e1, k _ _ (notP d e2) e2⟩
      · exact ⟨c1, y, upd_same⟩
  · obtain ⟨qs, a1, a2, a3⟩ := hT z hz
    refine ⟨qs, k _ _ hb a1, a2, fun p1 v hv => ?_⟩
    obtain ⟨d, e1, e2⟩ := a3 p1 v hv
    refine ⟨d, e1, ?_⟩
    by_cases dP : d = P
    · rw [dP, eP] at e2
      exact absurd (Option.some.inj e2).symm (codeO_ne _)
    · exact k _ _ dP e2
theorem lam_make3 {T : List (Addr × Str)} {c P : Addr} {prm : Arguments} {bd : Expr} {sc : Scope} {pos : Pos} {E Q : Value → Shared → Prop} (J : Inv X pins σ H s) (TB : TabB X.base X.mg c P) (own : X.env.code = .ref c) (mem : (P, lq X) ∈ T)
    (uq : ∀ z ∈ T, z.1 = P → z.2 = lq X) (hT : Tabs T H) (nod : defaultsOf prm X.env = ([], [])) (cap : ∀ y ∈ sc.names, y.2 = .free → ∃ d, X.env.cells.lookup y.1 = some d)
    (go : ∀ (f c1 : Addr) (pm ctv : Value) (H1 : Hp) (s1 : Shared), Inv X pins σ H1 s1 → ExtT P H H1 → Tabs T H1 → s1.heap.get? f = some (PySem.W.kla_obj "<lambda>" (lq X) prm bd sc (lcl X sc) pm c1 ctv) → H1 f = none → f ∉ frs X.stack →
      H1 c1 = some (CodeO c1 (lq X)) → Q (.ref f) s1) : wpAny (model X.prog X.w) X.A (eval (.Lambda prm bd sc pos) X.env) Q E s := by
  obtain ⟨ps, eP, ok, al⟩ := hT _ mem
  refine PySem.W.kla_eval nod ?_
  have objP : s.heap.get? P = some { cls := .none, data := .fields ps } := J.hok P _ eP
  have away : ∀ f, s.heap.objs.size ≤ f → f ∉ frs X.stack := fun f hf z => (List.mem_cons.mp (J.stkSub _ z)).elim (fun e => absurd (e ▸ J.lt) (Nat.not_lt.mpr hf)) (J.nofs hf)
  cases found : codeAmong pos ps.toList with
  | some cv =>
    obtain ⟨d, rfl, hd⟩ := al pos cv found
    refine PySem.W.kla_makeFunctionHit (P := P) (ps := ps) (closure_ok cap) J.ok.glob (J.mod.glob.keeps J.bk) own (TB.code.keeps J.bk) objP ok found (TB.bm.keeps J.bk) fun ctv g tk kp sz => ?_
    refine go g.objs.size d _ ctv H _ (J.kept (t' := tk) fun b o e => Heap.get?_push_of_some _ (kp b o e)) (fun b o _ e => e) hT (Heap.get?_push_size _ rfl) (J.hok.fresh sz) (away _ sz) hd
  | none =>
    refine PySem.W.kla_makeFunction (P := P) (ps := ps) (closure_ok cap) J.ok.glob (J.mod.glob.keeps J.bk) own (TB.code.keeps J.bk) objP ok found TB.gP (TB.bm.keeps J.bk) fun c1 ctv g tk kp ge lt rec tbl => ?_
    obtain ⟨d, oc, vs, t, e0, hoc, hdt, hv⟩ := rec
    cases e0
    have fresh : H c1 = none := J.hok.fresh ge
    have sz : s.heap.objs.size ≤ g.objs.size := Nat.le_trans ge (Nat.le_of_lt lt)
    obtain ⟨k1, k2⟩ := grown (l := 0) (c := 0) hT uq eP ok al fresh pos
    refine go g.objs.size c1 _ ctv _ _ (inv_table (t' := tk) (q := lq X) (more := #[rawInt pos.line, rawInt pos.col, .ref c1]) J eP (fun b o hb e => Heap.get?_push_of_some _ (kp b o hb e)) (Heap.get?_push_of_some _ tbl) ge
      ⟨oc, vs, t, Heap.get?_push_of_some _ hoc, hdt, hv⟩) k1 k2 (Heap.get?_push_size _ rfl) ?_ (away _ sz) upd_same
    rw [upd_ne (Nat.ne_of_gt lt), upd_ne (Nat.ne_of_gt (Nat.lt_of_lt_of_le (Heap.lt_size objP) sz))]
    exact J.hok.fresh sz
end
end FV

/-! A def called with lambdas among its arguments: its promise may speak of them as they stand at the call. -/
namespace FV
open PySem PySem.Spec PyProof.Rows L2 LamX NdefX
/-- a lambda made for a call -/
structure Clo where
  L : LF
  f : Addr
  c : Addr
  ws : List V
def Clo.At (q : Clo) (h : Heap) (H : Hp) : Prop := CloAt q.L q.f q.c q.ws h H ∧ H q.c = some (CodeO q.c q.L.qual)
def Held (X : Cx) (σ : L2.St) (q : Clo) (np : List (Addr × Obj)) : Prop :=
  ∃ cl pm ctv, (q.f, PySem.W.kla_obj "<lambda>" q.L.qual q.L.params q.L.body q.L.scope cl pm q.c ctv) ∈ np ∧ ∀ pins s H, Inv X pins σ H s → CellsAt cl q.L.fr (q.ws.map some) s.heap H
section
variable {X : Cx} {pins np np' : List (Addr × Obj)} {σ : L2.St} {H : Hp} {s : Shared} {q : Clo}
theorem Held.clo (I : Inv X (np ++ pins) σ H s) (h : Held X σ q np) : CloAt q.L q.f q.c q.ws s.heap H := by
  obtain ⟨cl, pm, ctv, hm, hc⟩ := h
  obtain ⟨e, n, _⟩ := I.pin _ (List.mem_append_right _ (List.mem_append_left _ hm))
  exact ⟨n, cl, pm, ctv, none, #[], e, hc _ s H I⟩
theorem Held.mono (h : Held X σ q np) (k : ∀ p ∈ np, p ∈ np') : Held X σ q np' := by
  obtain ⟨cl, pm, ctv, hm, hc⟩ := h
  exact ⟨cl, pm, ctv, k _ hm, hc⟩
theorem Inv.drop (I : Inv X (np ++ pins) σ H s) : Inv X pins σ H s :=
  I.pins_of fun p hp => I.pin p (List.mem_append_right _ (List.mem_append_right _ hp))
end
abbrev TAP := L2.St → Hp → (List V → List Clo → Hp → Prop) → Prop
/-- arguments among which lambdas stand -/
structure PAP (X : Cx) (es : List Expr) (t : TAP) : Prop where
  run : ∀ (pos : Pos) (pins : List (Addr × Obj)) (s : Shared) (σ : L2.St) (H : Hp) (Q : List V → List Clo → Hp → Prop), Inv X pins σ H s → t σ H Q →
    wpAny (model X.prog X.w) X.A (spliced (backTo pos (starEach es X.env))) (fun us s' => ∃ vs new H' np, Inv X (np ++ pins) σ H' s' ∧ Vals vs us ∧ (∀ q ∈ new, Held X σ q np ∨ CloAt q.L q.f q.c q.ws X.s_0.heap X.H_0) ∧ Q vs new H') X.xe s
def tPNil : TAP := fun _ H Q => Q [] [] H
def tPCons (te : TE) (t : TAP) : TAP := fun σ H Q => te σ H fun x H1 => t σ H1 fun xs new H2 => Q (x :: xs) new H2
/-- a lambda: js tells where its captured names stand -/
def tPLam (T : List (Addr × Str)) (P : Addr) (L : LF) (js : List Nat) (t : TAP) : TAP := fun σ H Q => Tabs T H ∧ ∃ ws, js.map (slotAt σ) = ws.map some ∧ ∀ f c H1, ExtT P H H1 → Tabs T H1 → H1 c = some (CodeO c L.qual) →
  t σ H1 fun xs new H2 => Q (.ref f :: xs) (⟨L, f, c, ws⟩ :: new) H2
section
variable {X : Cx} {e : Expr} {es : List Expr} {te : TE} {t : TAP}
theorem pap_nil : PAP X [] tPNil := ⟨fun _ _ _ _ H Q I h => Calls.spliced_nil ⟨[], [], H, [], I, .nil, (fun _ z => nomatch z), h⟩⟩
theorem pap_cons (ha : PE X e te) (hr : PAP X es t) (hs : starEach (e :: es) X.env = (false, eval e X.env) :: starEach es X.env := by rfl) : PAP X (e :: es) (tPCons te t) := by
  refine ⟨fun pos pins s σ H Q I h => ?_⟩
  rw [hs]
  show wpAny _ _ (spliced ((false, eval e X.env) :: backTo pos (starEach es X.env))) _ _ s
  refine Calls.spliced_cons (thn (ha.run pins s σ H _ I h) fun u s1 ⟨x, H1, I1, r1, q1⟩ => ?_)
  exact thn (hr.run pos pins s1 σ H1 _ I1 q1) fun us s2 ⟨xs, new, H2, np, I2, r2, hh, q2⟩ => ⟨x :: xs, new, H2, np, I2, .cons r1 r2, hh, q2⟩
/-- a name that holds a lambda handed to this def, handed on -/
def tPOld (q : Clo) (te : TE) (t : TAP) : TAP := fun σ H Q => te σ H fun x H1 => t σ H1 fun xs new H2 => Q (x :: xs) (q :: new) H2
theorem pap_old {q : Clo} (ha : PE X e te) (hq : CloAt q.L q.f q.c q.ws X.s_0.heap X.H_0) (hr : PAP X es t) (hs : starEach (e :: es) X.env = (false, eval e X.env) :: starEach es X.env := by rfl) : PAP X (e :: es) (tPOld q te t) := by
  refine ⟨fun pos pins s σ H Q I h => ?_⟩
  refine thn ((pap_cons ha hr hs).run pos pins s σ H (fun xs new H2 => Q xs (q :: new) H2) I h) fun us s2 ⟨xs, new, H2, np, I2, r2, hh, q2⟩ => ⟨xs, q :: new, H2, np, I2, r2, fun z hz => ?_, q2⟩
  rcases List.mem_cons.mp hz with e | hm
  · subst e
    exact .inr hq
  · exact hh z hm
theorem pap_lam {T : List (Addr × Str)} {c P : Addr} {L : LF} {js : List Nat} {params : Arguments} {body : Expr} {scope : Scope} {lpos : Pos} (TB : TabB X.base X.mg c P) (hcode : X.env.code = .ref c) (hmT : (P, X.env.qual ++ "<lambda>") ∈ T)
    (hu : ∀ p ∈ T, p.1 = P → p.2 = X.env.qual ++ "<lambda>") (hdef : defaultsOf params X.env = ([], [])) (hq : L.qual = X.env.qual ++ "<lambda>") (hp : L.params = params) (hb : L.body = body) (hsc : L.scope = scope)
    (hfree : ∀ y ∈ scope.names, y.2 = .free → X.env.scope.names.lookup y.1 = some .cell ∨ X.env.scope.names.lookup y.1 = some .free) (hfr : ∀ y ∈ L.fr, (y, NameKind.free) ∈ scope.names) (hjs : js.map (fun j => X.N[j]?) = L.fr.map some)
    (hr : PAP X es t) (hs : starEach (.Lambda params body scope lpos :: es) X.env = (false, eval (.Lambda params body scope lpos) X.env) :: starEach es X.env := by rfl) :
    PAP X (.Lambda params body scope lpos :: es) (tPLam T P L js t) := by
  refine ⟨fun pos pins s σ H Q I h => ?_⟩
  rw [hs]
  show wpAny _ _ (spliced ((false, eval (.Lambda params body scope lpos) X.env) :: backTo pos (starEach es X.env))) _ _ s
  obtain ⟨hT, ws, hws, h⟩ := h
  have hf : ∀ y ∈ scope.names, y.2 = .free → ∃ c, X.env.cells.lookup y.1 = some c := fun y hy e => (hfree y hy e).elim (fun z => I.ok.has _ (.inl z)) fun z => I.ok.has _ (.inr z)
  refine Calls.spliced_cons (lam_make3 I TB hcode hmT hu hT hdef hf fun f c' pm ctv H1 s' I1 eN T1 hof hfn hfr' hco => ?_)
  have nL : f ≠ X.env.locals := fun z => by
    obtain ⟨m, ⟨o, es', ep, ho, hd, _⟩, _⟩ := I1.loc
    rw [← z, hof] at ho
    cases ho
    cases hd
  have nF : f ∉ X.fs := fun z => hfr' (by
    rcases I1.ok.stk with e | ⟨e, hfm⟩
    · rw [e]; exact z
    · rw [e]
      unfold frs
      rw [List.filterMap_cons, hfm]
      exact List.mem_cons_of_mem _ z)
  have I2 : Inv X ((f, PySem.W.kla_obj "<lambda>" (X.env.qual ++ "<lambda>") params body scope (cloFrom X.env.cells scope.names []) pm c' ctv) :: pins) σ H1 s' := I1.pins_of fun p hp => by
    rcases List.mem_cons.mp hp with e | hp
    · subst e
      exact ⟨hof, hfn, nL, nF, fun v z => by cases z⟩
    · exact I1.pin p (List.mem_append_right _ hp)
  refine thn (hr.run pos _ s' σ H1 _ I2 (h f c' H1 eN T1 (by rw [hq]; exact hco))) fun us s2 ⟨xs, new, H2, np, I3, r3, hh, q3⟩ => ?_
  refine ⟨.ref f :: xs, _, H2, np ++ [(f, PySem.W.kla_obj "<lambda>" (X.env.qual ++ "<lambda>") params body scope (cloFrom X.env.cells scope.names []) pm c' ctv)], by rw [List.append_assoc]; exact I3, .cons rfl r3, fun q hq' => ?_, q3⟩
  rcases List.mem_cons.mp hq' with e | hm
  · subst e
    refine .inl ⟨_, pm, ctv, List.mem_append_right _ (by rw [hq, hp, hb, hsc]; exact List.mem_singleton.mpr rfl), fun pins' s' H' J => ?_⟩
    show CellsAt _ L.fr (ws.map some) _ _
    rw [← hws]
    exact cells_of J (Caps.made J.ok hfree hfr hjs)
  · exact (hh q hm).imp (fun z => z.mono fun p hp => List.mem_append_left _ hp) id
end
/-! ### a def's promise of the very state -/
abbrev SpS := Heap → Sp
structure FnOkS (P : Program) (w : World) (K : PySem.W.Frag) (mg : Str → Option Value) (base : Heap) (CX : CXT) (k : Nat) (f : Addr) (fd : FuncData) (ps : List Str) (sp : SpS) : Prop where
  len : ∀ h vs H Q E, sp h vs H Q E → vs.length = ps.length
  run : ∀ (A : Around) (outer : List Env) (s : Shared) (H : Hp) (args : Args) (us : List Value) (vs : List V) (Q : VK) (E : XK), Room k A → Env0 P w K mg base A outer s H → BindsTo s fd args (ps.zip us) → Vals vs us → sp s.heap vs H Q E →
    codeAny (model P w) A (.call (.ref f) args) (CR CX outer P w H s Q E) s
section
variable {CX : CXT} {P : Program} {w : World} {K : PySem.W.Frag} {mg : Str → Option Value} {base : Heap} {k j : Nat} {f : Addr} {name qual : Str} {params : Arguments} {body : List Stmt} {scope : Scope} {dV kV doc pm cdv ct oc : Value} {an od : Option Addr}
    {osl : Array (Option Value)} {N ps : List Str} {sp : SpS} {fd : FuncData}
theorem FnOkS.mono (F : FnOkS P w K mg base CX j f fd ps sp) (h : j ≤ k) : FnOkS P w K mg base CX k f fd ps sp :=
  ⟨F.len, fun A outer s H args us vs Q E hr => F.run A outer s H args us vs Q E (hr.mono h)⟩
theorem fnokS_of (lk : K.lookup f = some ⟨oc, od, .func (PySem.W.fnOf name qual params body scope dV kV doc pm an cdv ct), osl⟩) (hcd : PySem.W.codeIn K cdv qual = true) (S : FnScope N ps scope)
    (len : ∀ h vs H Q E, sp h vs H Q E → vs.length = ps.length)
    (hbody : ∀ (A : Around) (outer : List Env) (s : Shared) (H : Hp) (vs : List V) (Q : VK) (E : XK), Room k (A.deeper (envOfC qual scope s.heap.objs.size f cdv)) → sp s.heap vs H Q E →
      ∃ t, PSs (cxOf CX P w K mg base N qual scope f cdv A outer s H E) body t ∧ t { nx := fun _ H' => Q .non H', rt := Q } (L2.start N vs) H) :
    FnOkS P w K mg base CX (k + 1) f (PySem.W.fnOf name qual params body scope dV kV doc pm an cdv ct) ps sp :=
  ⟨len, fun A outer s H args us vs Q E hr e0 hb r q => run_ofS lk hcd S hr e0 hb r (len _ _ _ _ _ q) fun hr' => hbody A outer s H vs Q E hr' q⟩
end
section
variable {X : Cx} {CX : CXT} {k : Nat} {f : Addr} {fd : FuncData} {ps : List Str} {sp : SpS} {dvs : List V} {ds : List Value} {E : L2.St → XK} {x : Str} {p pos : Pos} {e : Expr} {es : List Expr} {t : TAP}
def tCallS (sp : SpS) (E : L2.St → XK) (t : TAP) : TE := fun σ H Q => t σ H fun vs new H1 => (∀ q ∈ new, H1 q.c = some (CodeO q.c q.L.qual)) ∧ ∀ h, (∀ q ∈ new, q.At h H1) → sp h vs H1 Q (E σ)
/-- g(.., lambda .., ..) -/
theorem pe_callS (hex : X.ex = []) (F : FnOkS X.prog X.w X.K X.mg X.base CX k f fd ps sp) (hr : Room k X.A) (hg : Gl X x) (hm : X.mg x = some (.ref f)) (hk : PySem.W.keepIn X.K (.ref f) = true) (hb : Binds X.K fd ps []) (hx : ∀ σ, PassesAt CX X σ (E σ))
    (ha : PAP X (e :: es) t) (hdb : (x == ("__debug__" : Str)) = false := by decide) (he : starEach (e :: es) X.env = (false, eval e X.env) :: starEach es X.env := by rfl) (hpl : (backTo pos (starEach es X.env)).any (·.1) = false := by rfl) :
    PE X (.Call (.Name x p) (e :: es) [] pos) (tCallS sp E t) := by
  refine ⟨fun pins s σ H Q I h => ?_⟩
  refine wpAny_Call_Name_kw (ld_glob I hg hm ?_ hdb)
  refine PySem.W.callWith_K (h₀ := X.base) I.ok.mod.kin hk (thn (ha.run pos pins s σ H _ I h) fun us s1 ⟨vs, new, H1, np, I1, r, hh, hc, q⟩ => ⟨I1.kIn, ?_⟩) he hpl
  have q1 := q s1.heap fun z hz => ⟨(hh z hz).elim (fun m => m.clo I1) fun m => m.inv I1 hex, hc z hz⟩
  have hl : us.length = ps.length := by rw [← r.length]; exact F.len _ _ _ _ _ q1
  have hb' := hb s1 us I1.kIn (by rw [List.append_nil]; exact hl)
  rw [List.append_nil] at hb'
  refine wpAny_call (codeAny_mono (F.run X.A X.stack s1 H1 ⟨us, []⟩ us vs Q (E σ) hr I1.env0 hb' r q1) fun r s' hq => ?_)
  cases r with
  | error e => exact hx σ _ H1 s1 e s' I1 hq
  | ok fl =>
    cases fl with
    | ret u =>
      obtain ⟨v', H', J, rv, q'⟩ := I1.after hq
      exact ⟨v', H', Inv.drop J, rv, q'⟩
    | next => exact False.elim hq
    | brk => exact False.elim hq
    | cont => exact False.elim hq
end
end FV

/-! A store semantics over the hand layer: values as data (tuples are values), lists at numbered places. -/
namespace MP
open PySem L2

inductive D where
  | non
  | bl (b : Bool)
  | int (i : Int)
  | str (x : Str)
  | tup (xs : List D)
  | ref (n : Nat)
  | exc (k : Nat)
  | clo (n : Nat) (f c : Addr) (ws : List V) (caps : List D)
  | met (g : Nat) (o : Nat)

/-- what a store's objects are seen through: the own classes of exceptions by number, the program and its world (the keys of dicts), the own class with instances -/
structure CL where
  f : Nat → Addr
  P : Program
  w : World
  mv : Nat → Addr
  lam : Nat → FV.LF
  ma : Nat → Addr
  lt : List (Addr × Str)
instance : CoeFun CL fun _ => Nat → Addr := ⟨CL.f⟩

inductive O where
  | lst (xs : List D)
  | rol (xs : List D)
  | dic (kvs : List (DI.KY × D)) (ep : Nat)
  | ins (fs : List (Str × D)) (c : Nat := 0)
  | deq (xs : List D)
  | dki (kvs : List (Key × D))
/-- an object that the program may change -/
def isW : O → Bool
  | .rol _ => false
  | _ => true

abbrev Env := List (Option D)
abbrev Store := List O

/-- an exception object of the class at C, held as a value -/
def ExT (C a : Addr) : HO := .ext fun h => ∃ (oe : Obj) (vs : Array Value), h.get? a = some oe ∧ Zc (.ref C) none oe ∧ oe.data = .fields vs
def RoL (K : PySem.W.Frag) (H : Hp) (a : Addr) (xs : List V) : Prop :=
  (∃ o, H a = some (.frz o (.lst xs))) ∨
    ∃ (o : Obj) (its : Array Value) (n : Nat), K.lookup a = some o ∧ o.cls = .type "list" ∧ o.dict = none ∧ o.data = .seq its n ∧ its.size ≤ sizeLine ∧ Vals xs its.toList
theorem RoL.sq {K : PySem.W.Frag} {H : Hp} {a : Addr} {xs : List V} (h : RoL K H a xs) : SqL K H a xs := by
  rcases h with ⟨o, h⟩ | h
  · exact .inl (.inr ⟨o, h⟩)
  · exact .inr h

mutual
def RV (K : PySem.W.Frag) (cl : CL) (H : Hp) (π : List Addr) : D → V → Prop
  | .non, v => v = .non
  | .bl b, v => v = .bl b
  | .int i, v => v = .int i
  | .str s, v => v = .str s
  | .tup xs, v => ∃ a vs, v = .ref a ∧ SqT K H a vs ∧ RVs K cl H π xs vs
  | .ref n, v => ∃ a, v = .ref a ∧ π[n]? = some a
  | .exc k, v => ∃ a, v = .ref a ∧ H a = some (ExT (cl k) a)
  | .clo n f c ws caps, v => v = .ref f ∧ H c = some (LamX.CodeO c (cl.lam n).qual) ∧ RVs K cl H π caps ws
  | .met g o, v => ∃ p a, v = .ref p ∧ H p = some (.met (cl.ma g) a) ∧ π[o]? = some a
def RVs (K : PySem.W.Frag) (cl : CL) (H : Hp) (π : List Addr) : List D → List V → Prop
  | [], vs => vs = []
  | x :: xs, vs => ∃ v r, vs = v :: r ∧ RV K cl H π x v ∧ RVs K cl H π xs r
end

section
variable {K : PySem.W.Frag} {cl : CL} {H H' H2 : Hp} {π π' π2 : List Addr}

/-- what is known stays known -/
structure Ext (K : PySem.W.Frag) (cl : CL) (H : Hp) (π : List Addr) (H' : Hp) (π' : List Addr) : Prop where
  pre : ∃ r, π' = π ++ r
  tup : ∀ a vs, SqT K H a vs → SqT K H' a vs
  exc : ∀ a k, H a = some (ExT (cl k) a) → H' a = some (ExT (cl k) a)
  cod : ∀ a q, H a = some (LamX.CodeO a q) → H' a = some (LamX.CodeO a q)
  met : ∀ a g o, H a = some (.met g o) → H' a = some (.met g o)
theorem Ext.refl : Ext K cl H π H π := ⟨⟨[], by simp⟩, fun _ _ h => h, fun _ _ h => h, fun _ _ h => h, fun _ _ _ h => h⟩
theorem Ext.trans (a : Ext K cl H π H' π') (b : Ext K cl H' π' H2 π2) : Ext K cl H π H2 π2 := by
  obtain ⟨r, e⟩ := a.pre
  obtain ⟨q, f⟩ := b.pre
  exact ⟨⟨r ++ q, by rw [f, e, List.append_assoc]⟩, fun x vs h => b.tup x vs (a.tup x vs h), fun x k h => b.exc x k (a.exc x k h), fun x q h => b.cod x q (a.cod x q h), fun x g o h => b.met x g o (a.met x g o h)⟩
theorem Ext.at_ (e : Ext K cl H π H' π') {n : Nat} {a : Addr} (h : π[n]? = some a) : π'[n]? = some a := by
  obtain ⟨r, q⟩ := e.pre
  rw [q]
  obtain ⟨hl, _⟩ := List.getElem?_eq_some_iff.mp h
  rw [List.getElem?_append_left hl]
  exact h

mutual
theorem RV.ext (e : Ext K cl H π H' π') : ∀ {d : D} {v : V}, RV K cl H π d v → RV K cl H' π' d v
  | .non, _, h => by simpa only [RV] using h
  | .bl _, _, h => by simpa only [RV] using h
  | .int _, _, h => by simpa only [RV] using h
  | .str _, _, h => by simpa only [RV] using h
  | .tup xs, _, h => by
    simp only [RV] at h ⊢
    obtain ⟨a, vs, h1, h2, h3⟩ := h
    exact ⟨a, vs, h1, e.tup _ _ h2, RVs.ext e h3⟩
  | .ref n, _, h => by
    simp only [RV] at h ⊢
    obtain ⟨a, h1, h2⟩ := h
    exact ⟨a, h1, e.at_ h2⟩
  | .exc k, _, h => by
    simp only [RV] at h ⊢
    obtain ⟨a, h1, h2⟩ := h
    exact ⟨a, h1, e.exc _ _ h2⟩
  | .clo n f c ws caps, _, h => by
    simp only [RV] at h ⊢
    exact ⟨h.1, e.cod _ _ h.2.1, RVs.ext e h.2.2⟩
  | .met g o, _, h => by
    simp only [RV] at h ⊢
    obtain ⟨p, a, h1, h2, h3⟩ := h
    exact ⟨p, a, h1, e.met _ _ _ h2, e.at_ h3⟩
theorem RVs.ext (e : Ext K cl H π H' π') : ∀ {ds : List D} {vs : List V}, RVs K cl H π ds vs → RVs K cl H' π' ds vs
  | [], _, h => by simpa only [RVs] using h
  | x :: xs, _, h => by
    simp only [RVs] at h ⊢
    obtain ⟨v, r, h1, h2, h3⟩ := h
    exact ⟨v, r, h1, RV.ext e h2, RVs.ext e h3⟩
end

theorem RVs.nil : RVs K cl H π [] [] := by simp only [RVs]
theorem RVs.cons {d : D} {ds : List D} {v : V} {vs : List V} (h : RV K cl H π d v) (t : RVs K cl H π ds vs) : RVs K cl H π (d :: ds) (v :: vs) := by
  simp only [RVs]; exact ⟨v, vs, rfl, h, t⟩
theorem RVs.un {d : D} {ds : List D} {vs : List V} (h : RVs K cl H π (d :: ds) vs) : ∃ v r, vs = v :: r ∧ RV K cl H π d v ∧ RVs K cl H π ds r := by
  simpa only [RVs] using h
theorem RVs.un0 {vs : List V} (h : RVs K cl H π [] vs) : vs = [] := by simpa only [RVs] using h
theorem RVs.length : ∀ {ds : List D} {vs : List V}, RVs K cl H π ds vs → vs.length = ds.length
  | [], _, h => by rw [h.un0]; rfl
  | _ :: _, _, h => by
    obtain ⟨v, r, rfl, _, h3⟩ := h.un
    rw [List.length_cons, List.length_cons, RVs.length h3]
theorem RVs.get : ∀ {ds : List D} {vs : List V} {i : Nat} {d : D}, RVs K cl H π ds vs → ds[i]? = some d → ∃ v, vs[i]? = some v ∧ RV K cl H π d v
  | [], _, _, _, _, e => by simp at e
  | _ :: _, _, 0, _, h, e => by
    obtain ⟨v, r, rfl, h2, _⟩ := h.un
    simp at e; subst e
    exact ⟨v, by simp, h2⟩
  | _ :: _, _, i + 1, _, h, e => by
    obtain ⟨v, r, rfl, _, h3⟩ := h.un
    obtain ⟨w, q1, q2⟩ := RVs.get (i := i) h3 (by simpa using e)
    exact ⟨w, by simpa using q1, q2⟩
theorem RVs.get' : ∀ {ds : List D} {vs : List V} {i : Nat} {v : V}, RVs K cl H π ds vs → vs[i]? = some v → ∃ d, ds[i]? = some d ∧ RV K cl H π d v
  | [], _, _, _, h, e => by rw [h.un0] at e; simp at e
  | _ :: _, _, 0, _, h, e => by
    obtain ⟨v, r, rfl, h2, _⟩ := h.un
    simp at e; subst e
    exact ⟨_, by simp, h2⟩
  | _ :: _, _, i + 1, _, h, e => by
    obtain ⟨v, r, rfl, _, h3⟩ := h.un
    obtain ⟨w, q1, q2⟩ := RVs.get' (i := i) h3 (by simpa using e)
    exact ⟨w, by simpa using q1, q2⟩
theorem RVs.append : ∀ {a b : List D} {x y : List V}, RVs K cl H π a x → RVs K cl H π b y → RVs K cl H π (a ++ b) (x ++ y)
  | [], _, _, _, h, q => by rw [h.un0]; exact q
  | _ :: _, _, _, _, h, q => by
    obtain ⟨v, r, rfl, h2, h3⟩ := h.un
    exact .cons h2 (RVs.append h3 q)
theorem RVs.take : ∀ {a : List D} {x : List V} (n : Nat), RVs K cl H π a x → RVs K cl H π (a.take n) (x.take n)
  | _, _, 0, _ => by simp only [List.take_zero]; exact .nil
  | [], _, _ + 1, h => by rw [h.un0]; exact .nil
  | _ :: _, _, n + 1, h => by
    obtain ⟨v, r, rfl, h2, h3⟩ := h.un
    exact .cons h2 (RVs.take n h3)
theorem RVs.drop : ∀ {a : List D} {x : List V} (n : Nat), RVs K cl H π a x → RVs K cl H π (a.drop n) (x.drop n)
  | _, _, 0, h => by simpa using h
  | [], _, _ + 1, h => by rw [h.un0]; exact .nil
  | _ :: _, _, n + 1, h => by
    obtain ⟨v, r, rfl, _, h3⟩ := h.un
    exact RVs.drop n h3
theorem RVs.set {d : D} {v : V} (q : RV K cl H π d v) : ∀ {a : List D} {x : List V} (n : Nat), RVs K cl H π a x → RVs K cl H π (a.set n d) (x.set n v)
  | [], _, _, h => by rw [h.un0]; exact .nil
  | _ :: _, _, 0, h => by
    obtain ⟨_, r, rfl, _, h3⟩ := h.un
    exact .cons q h3
  | _ :: _, _, n + 1, h => by
    obtain ⟨_, r, rfl, h2, h3⟩ := h.un
    exact .cons h2 (RVs.set q n h3)
theorem RVs.rep {a : List D} {x : List V} (h : RVs K cl H π a x) : ∀ n : Nat, RVs K cl H π (List.replicate n a).flatten (List.replicate n x).flatten
  | 0 => .nil
  | n + 1 => by
    rw [List.replicate_succ, List.flatten_cons, List.replicate_succ, List.flatten_cons]
    exact h.append (RVs.rep h n)

/-- the defs that bear generator expressions -/
def tabNames : List Str := ["0"]
/-! ### the store -/
def OR (K : PySem.W.Frag) (cl : CL) (H : Hp) (π : List Addr) (a : Addr) : O → Prop
  | .lst xs => ∃ vs, H a = some (.lst vs) ∧ RVs K cl H π xs vs
  | .rol xs => ∃ vs, RoL K H a vs ∧ RVs K cl H π xs vs
  | .dic kvs ep => ∃ L : DI.KL, H a = some (DI.DicO cl.P cl.w a L ep) ∧ DI.Keyed K H L ∧ L.map (·.1) = kvs.map (·.1) ∧ RVs K cl H π (kvs.map (·.2)) (L.map (·.2.2))
  | .ins fs c => ∃ dx vs, H a = some (.ins (cl.mv c) dx vs) ∧ vs.map (·.1) = fs.map (·.1) ∧ RVs K cl H π (fs.map (·.2)) (vs.map (·.2))
  | .deq xs => ∃ n as, H a = some (DQ.DqO a n as) ∧ as.length ≤ sizeLine ∧ RVs K cl H π xs (as.map V.ref)
  | .dki kvs => ∃ vs : List (Key × V), H a = some (.dK vs) ∧ vs.map (·.1) = kvs.map (·.1) ∧ RVs K cl H π (kvs.map (·.2)) (vs.map (·.2))
structure SR (K : PySem.W.Frag) (cl : CL) (H : Hp) (π : List Addr) (st : Store) : Prop where
  len : π.length = st.length
  at_ : ∀ (n : Nat) (o : O), st[n]? = some o → ∃ a, π[n]? = some a ∧ OR K cl H π a o
  inj : ∀ (m n : Nat) (a : Addr) (o o' : O), st[m]? = some o → st[n]? = some o' → isW o = true → isW o' = true → π[m]? = some a → π[n]? = some a → m = n
  /-- the tables of the code objects of the defs with generator expressions -/
  tab : ∀ x ∈ tabNames, ∀ c P, PySem.W.tabIn K x = some (c, P) → GxR.TabG H P
  /-- the tables of the code objects of the defs with lambdas -/
  tabl : LamX.Tabs cl.lt H
/-- the letters of objects that may be changed -/
def Wr (cl : CL) (a : Addr) (u : HO) : Prop := (∃ vs, u = .lst vs) ∨ (∃ L ep, u = DI.DicO cl.P cl.w a L ep) ∨ (∃ C dx fs, u = .ins C dx fs) ∨ (∃ n as, u = DQ.DqO a n as) ∨ ∃ kvs, u = .dK kvs
theorem heap_with (a C : Addr) : ∃ h : Heap, h.get? a = some { cls := .ref C, data := .fields #[] } := by
  refine ⟨{ objs := (Array.replicate a default).push { cls := .ref C, data := .fields #[] } }, ?_⟩
  unfold Heap.get?
  have z := Array.getElem?_push_size (xs := Array.replicate a (default : Obj)) (x := { cls := .ref C, data := .fields #[] })
  rw [Array.size_replicate] at z
  rw [z]
theorem dic_not_exc {P : Program} {w : World} {a C : Addr} {L : DI.KL} {ep : Nat} : DI.DicO P w a L ep ≠ ExT C a := by
  intro e
  obtain ⟨h, g⟩ := heap_with a C
  have q : (DI.Dic0 P w h a L ep) = ∃ (oe : Obj) (vs : Array Value), h.get? a = some oe ∧ Zc (.ref C) none oe ∧ oe.data = .fields vs := congrFun (HO.ext.inj e) h
  have r : DI.Dic0 P w h a L ep := q.mpr ⟨_, _, g, ⟨rfl, rfl⟩, rfl⟩
  obtain ⟨_, _, _, _, o, es, h1, _, h3, _⟩ := r
  rw [g] at h1
  have h4 := Option.some.inj h1
  rw [← h4] at h3
  exact nomatch h3
theorem dic_ne_tup {P : Program} {w : World} {a : Addr} {L : DI.KL} {ep : Nat} {vs : List V} (z : DI.DicO P w a L ep = .tup vs) : False := by
  unfold DI.DicO at z
  exact HO.noConfusion z
theorem dic_ne_frz {P : Program} {w : World} {a : Addr} {L : DI.KL} {ep : Nat} {o : Obj} {r : HO} (z : DI.DicO P w a L ep = .frz o r) : False := by
  unfold DI.DicO at z
  exact HO.noConfusion z
theorem dic_ne_tbl {P : Program} {w : World} {a : Addr} {L : DI.KL} {ep : Nat} {ps : Array Value} (z : DI.DicO P w a L ep = .tbl ps) : False := by
  unfold DI.DicO at z
  exact HO.noConfusion z
theorem lst_ne_exc {vs : List V} {C a : Addr} (z : HO.lst vs = ExT C a) : False := by
  unfold ExT at z
  exact HO.noConfusion z
theorem ins_ne_exc {fs : List (Str × V)} {D dx C a : Addr} (z : HO.ins D dx fs = ExT C a) : False := by
  unfold ExT at z
  exact HO.noConfusion z
theorem deq_not_exc {a C : Addr} {n : Int} {as : List Addr} : DQ.DqO a n as ≠ ExT C a := by
  intro e
  obtain ⟨h, g⟩ := heap_with a C
  have q : (h.get? a = some (recObj "collections.deque" (DQ.dqv n as))) = ∃ (oe : Obj) (vs : Array Value), h.get? a = some oe ∧ Zc (.ref C) none oe ∧ oe.data = .fields vs := congrFun (HO.ext.inj e) h
  have r : h.get? a = some (recObj "collections.deque" (DQ.dqv n as)) := q.mpr ⟨_, _, g, ⟨rfl, rfl⟩, rfl⟩
  rw [g] at r
  have h4 := congrArg Obj.cls (Option.some.inj r)
  exact nomatch h4
theorem deq_ne_tup {a : Addr} {n : Int} {as : List Addr} {vs : List V} (z : DQ.DqO a n as = .tup vs) : False := by
  unfold DQ.DqO RecO at z
  exact HO.noConfusion z
theorem deq_ne_frz {a : Addr} {n : Int} {as : List Addr} {o : Obj} {r : HO} (z : DQ.DqO a n as = .frz o r) : False := by
  unfold DQ.DqO RecO at z
  exact HO.noConfusion z
theorem deq_ne_tbl {a : Addr} {n : Int} {as : List Addr} {ps : Array Value} (z : DQ.DqO a n as = .tbl ps) : False := by
  unfold DQ.DqO RecO at z
  exact HO.noConfusion z
theorem heap_code (a : Addr) (q : Str) : ∃ h : Heap, h.get? a = some { cls := .none, data := .fields #[.none, .str q 0] } := by
  refine ⟨{ objs := (Array.replicate a default).push { cls := .none, data := .fields #[.none, .str q 0] } }, ?_⟩
  unfold Heap.get?
  have z := Array.getElem?_push_size (xs := Array.replicate a (default : Obj)) (x := { cls := .none, data := .fields #[.none, .str q 0] })
  rw [Array.size_replicate] at z
  rw [z]
theorem dic_not_code {P : Program} {w : World} {a : Addr} {L : DI.KL} {ep : Nat} {q : Str} : DI.DicO P w a L ep ≠ LamX.CodeO a q := by
  intro e
  obtain ⟨h, g⟩ := heap_code a q
  have z : (DI.Dic0 P w h a L ep) = ∃ (oc : Obj) (vs : Array Value) (t : Tok), h.get? a = some oc ∧ oc.data = .fields vs ∧ vs[1]? = some (.str q t) := congrFun (HO.ext.inj e) h
  have r : DI.Dic0 P w h a L ep := z.mpr ⟨_, _, 0, g, rfl, rfl⟩
  obtain ⟨_, _, _, _, o, es, h1, _, h3, _⟩ := r
  rw [g] at h1
  have h4 := Option.some.inj h1
  rw [← h4] at h3
  exact nomatch h3
theorem deq_not_code {a : Addr} {n : Int} {as : List Addr} {q : Str} : DQ.DqO a n as ≠ LamX.CodeO a q := by
  intro e
  obtain ⟨h, g⟩ := heap_code a q
  have z : (h.get? a = some (recObj "collections.deque" (DQ.dqv n as))) = ∃ (oc : Obj) (vs : Array Value) (t : Tok), h.get? a = some oc ∧ oc.data = .fields vs ∧ vs[1]? = some (.str q t) := congrFun (HO.ext.inj e) h
  have r : h.get? a = some (recObj "collections.deque" (DQ.dqv n as)) := z.mpr ⟨_, _, 0, g, rfl, rfl⟩
  rw [g] at r
  have h4 := congrArg Obj.cls (Option.some.inj r)
  exact nomatch h4
theorem Wr.nc {a : Addr} {u : HO} (h : Wr cl a u) (q : Str) : u ≠ LamX.CodeO a q := by
  rcases h with ⟨vs, rfl⟩ | ⟨L, ep, rfl⟩ | ⟨C, dx, fs, rfl⟩ | ⟨m, as, rfl⟩ | ⟨kvs, rfl⟩
  · intro z; unfold LamX.CodeO at z; exact HO.noConfusion z
  · exact dic_not_code
  · intro z; unfold LamX.CodeO at z; exact HO.noConfusion z
  · exact deq_not_code
  · intro z; unfold LamX.CodeO at z; exact HO.noConfusion z
theorem Wr.nm {a : Addr} {u : HO} (h : Wr cl a u) (g o : Addr) : u ≠ .met g o := by
  rcases h with ⟨vs, rfl⟩ | ⟨L, ep, rfl⟩ | ⟨C, dx, fs, rfl⟩ | ⟨m, as, rfl⟩ | ⟨kvs, rfl⟩
  · exact fun z => HO.noConfusion z
  · intro z; unfold DI.DicO at z; exact HO.noConfusion z
  · exact fun z => HO.noConfusion z
  · intro z; unfold DQ.DqO RecO at z; exact HO.noConfusion z
  · exact fun z => HO.noConfusion z
theorem Wr.nx {a : Addr} {u : HO} (h : Wr cl a u) (k : Nat) : u ≠ ExT (cl k) a := by
  rcases h with ⟨vs, rfl⟩ | ⟨L, ep, rfl⟩ | ⟨C, dx, fs, rfl⟩ | ⟨m, as, rfl⟩ | ⟨kvs, rfl⟩
  · exact lst_ne_exc
  · exact dic_not_exc
  · exact ins_ne_exc
  · exact deq_not_exc
  · intro z; unfold ExT at z; exact HO.noConfusion z
theorem Wr.nt {a : Addr} {u : HO} (h : Wr cl a u) (vs : List V) : u ≠ .tup vs := by
  rcases h with ⟨vs, rfl⟩ | ⟨L, ep, rfl⟩ | ⟨C, dx, fs, rfl⟩ | ⟨m, as, rfl⟩ | ⟨kvs, rfl⟩
  · exact fun z => HO.noConfusion z
  · exact dic_ne_tup
  · exact fun z => HO.noConfusion z
  · exact deq_ne_tup
  · exact fun z => HO.noConfusion z
theorem Wr.nf {a : Addr} {u : HO} (h : Wr cl a u) (o : Obj) (r : HO) : u ≠ .frz o r := by
  rcases h with ⟨vs, rfl⟩ | ⟨L, ep, rfl⟩ | ⟨C, dx, fs, rfl⟩ | ⟨m, as, rfl⟩ | ⟨kvs, rfl⟩
  · exact fun z => HO.noConfusion z
  · exact dic_ne_frz
  · exact fun z => HO.noConfusion z
  · exact deq_ne_frz
  · exact fun z => HO.noConfusion z
theorem Wr.nb {a : Addr} {u : HO} (h : Wr cl a u) (ps : Array Value) : u ≠ .tbl ps := by
  rcases h with ⟨vs, rfl⟩ | ⟨L, ep, rfl⟩ | ⟨C, dx, fs, rfl⟩ | ⟨m, as, rfl⟩ | ⟨kvs, rfl⟩
  · exact fun z => HO.noConfusion z
  · exact dic_ne_tbl
  · exact fun z => HO.noConfusion z
  · exact deq_ne_tbl
  · exact fun z => HO.noConfusion z
theorem OR.wr {a : Addr} {o : O} (h : OR K cl H π a o) (w : isW o = true) : ∃ u, H a = some u ∧ Wr cl a u := by
  cases o with
  | lst xs => obtain ⟨vs, h, _⟩ := h; exact ⟨_, h, .inl ⟨_, rfl⟩⟩
  | rol xs => exact absurd w Bool.false_ne_true
  | dic kvs ep => obtain ⟨L, h, _⟩ := h; exact ⟨_, h, .inr (.inl ⟨L, ep, rfl⟩)⟩
  | ins fs c => obtain ⟨dx, vs, h, _⟩ := h; exact ⟨_, h, .inr (.inr (.inl ⟨_, dx, vs, rfl⟩))⟩
  | deq xs => obtain ⟨n, as, h, _⟩ := h; exact ⟨_, h, .inr (.inr (.inr (.inl ⟨n, as, rfl⟩)))⟩
  | dki kvs => obtain ⟨vs, h, _⟩ := h; exact ⟨_, h, .inr (.inr (.inr (.inr ⟨vs, rfl⟩)))⟩
theorem tabG_new {P p : Addr} {o : HO} (h : GxR.TabG H P) (hp : H p = none) : GxR.TabG (upd H p o) P := by
  obtain ⟨ps, h1, h2⟩ := h
  exact ⟨ps, by rw [upd_ne (ne_of_none h1 hp)]; exact h1, h2⟩
theorem tabs_new {T : List (Addr × Str)} {p : Addr} {o : HO} (h : LamX.Tabs T H) (hp : H p = none) : LamX.Tabs T (upd H p o) := h.ext fun b u e => by rw [upd_ne (ne_of_none e hp)]; exact e
theorem tabs_keep {T : List (Addr × Str)} (h : LamX.Tabs T H) (k1 : ∀ p ∈ T, ∀ ps, H p.1 = some (.tbl ps) → H' p.1 = some (.tbl ps)) (k2 : ∀ a q, H a = some (LamX.CodeO a q) → H' a = some (LamX.CodeO a q)) : LamX.Tabs T H' := fun p hp => by
  obtain ⟨ps, h1, h2, h3⟩ := h p hp
  refine ⟨ps, k1 p hp _ h1, h2, fun pos cv hc => ?_⟩
  obtain ⟨c, e1, e2⟩ := h3 pos cv hc
  exact ⟨c, e1, k2 _ _ e2⟩
theorem tabs_wr {T : List (Addr × Str)} {p : Addr} {o u : HO} (h : LamX.Tabs T H) (hp : H p = some u) (w : Wr cl p u) : LamX.Tabs T (upd H p o) :=
  tabs_keep h (fun z _ ps e => by rw [upd_ne (ne_of e hp (fun z => w.nb _ z.symm))]; exact e) fun a q e => by
    by_cases ha : a = p
    · subst ha
      rw [hp] at e
      exact absurd (Option.some.inj e) (w.nc q)
    · rw [upd_ne ha]; exact e
theorem tabG_wr {P p : Addr} {o u : HO} (h : GxR.TabG H P) (hp : H p = some u) (w : Wr cl p u) : GxR.TabG (upd H p o) P := by
  obtain ⟨ps, h1, h2⟩ := h
  exact ⟨ps, by rw [upd_ne (ne_of h1 hp (fun z => w.nb _ z.symm))]; exact h1, h2⟩
structure ER (K : PySem.W.Frag) (cl : CL) (H : Hp) (π : List Addr) (σ : Env) (σV : St) : Prop where
  len : σ.length = σV.length
  at_ : ∀ (i : Nat) (d : D), σ[i]? = some (some d) → ∃ v, σV[i]? = some (some v) ∧ RV K cl H π d v
theorem ER.ext {σ : Env} {σV : St} (h : ER K cl H π σ σV) (e : Ext K cl H π H' π') : ER K cl H' π' σ σV :=
  ⟨h.len, fun i d q => let ⟨v, h1, h2⟩ := h.at_ i d q; ⟨v, h1, h2.ext e⟩⟩
theorem ER.set {σ : Env} {σV : St} (h : ER K cl H π σ σV) {i : Nat} {d : D} {v : V} (r : RV K cl H π d v) : ER K cl H π (σ.set i (some d)) (σV.set i (some v)) := by
  refine ⟨by simp [h.len], fun j e q => ?_⟩
  by_cases hj : i = j
  · subst hj
    have hi : i < σ.length := by
      have := (List.getElem?_eq_some_iff.mp q).1
      simpa using this
    rw [List.getElem?_set_self hi] at q
    cases q
    exact ⟨v, by rw [List.getElem?_set_self (by rw [← h.len]; exact hi)], r⟩
  · rw [List.getElem?_set_ne hj] at q
    obtain ⟨w, q1, q2⟩ := h.at_ j e q
    exact ⟨w, by rw [List.getElem?_set_ne hj]; exact q1, q2⟩
theorem ER.unset {σ : Env} {σV : St} (h : ER K cl H π σ σV) (i : Nat) : ER K cl H π (σ.set i none) (σV.set i none) := by
  refine ⟨by simp [h.len], fun j e q => ?_⟩
  by_cases hj : i = j
  · subst hj
    by_cases hi : i < σ.length
    · rw [List.getElem?_set_self hi] at q; cases q
    · rw [List.getElem?_eq_none (by simpa using hi)] at q; cases q
  · rw [List.getElem?_set_ne hj] at q
    obtain ⟨w, q1, q2⟩ := h.at_ j e q
    exact ⟨w, by rw [List.getElem?_set_ne hj]; exact q1, q2⟩

/-- a tuple that is read stands apart from what is new and from what is a list -/
theorem sqt_new {a p : Addr} {o : HO} {vs : List V} (h : SqT K H a vs) (hp : H p = none) : SqT K (upd H p o) a vs := by
  rcases h with (h | ⟨ob, h⟩) | h
  · exact .inl (.inl (by rw [upd_ne (ne_of_none h hp)]; exact h))
  · exact .inl (.inr ⟨ob, by rw [upd_ne (ne_of_none h hp)]; exact h⟩)
  · exact .inr h
theorem sqt_wr {a p : Addr} {o u : HO} {vs : List V} (h : SqT K H a vs) (hp : H p = some u) (w : Wr cl p u) : SqT K (upd H p o) a vs := by
  rcases h with (h | ⟨ob, h⟩) | h
  · exact .inl (.inl (by rw [upd_ne (ne_of h hp (fun z => w.nt _ z.symm))]; exact h))
  · exact .inl (.inr ⟨ob, by rw [upd_ne (ne_of h hp (fun z => w.nf _ _ z.symm))]; exact h⟩)
  · exact .inr h
theorem Ext.new {p : Addr} {o : HO} (hp : H p = none) (r : List Addr) : Ext K cl H π (upd H p o) (π ++ r) :=
  ⟨⟨r, rfl⟩, fun _ _ h => sqt_new h hp, fun a k h => by rw [upd_ne (ne_of_none h hp)]; exact h, fun a q h => by rw [upd_ne (ne_of_none h hp)]; exact h, fun a g o h => by rw [upd_ne (ne_of_none h hp)]; exact h⟩
theorem Ext.new0 {p : Addr} {o : HO} (hp : H p = none) : Ext K cl H π (upd H p o) π :=
  ⟨⟨[], by simp⟩, fun _ _ h => sqt_new h hp, fun a k h => by rw [upd_ne (ne_of_none h hp)]; exact h, fun a q h => by rw [upd_ne (ne_of_none h hp)]; exact h, fun a g o h => by rw [upd_ne (ne_of_none h hp)]; exact h⟩
theorem Ext.wr {p : Addr} {u o : HO} (hp : H p = some u) (w : Wr cl p u) : Ext K cl H π (upd H p o) π :=
  ⟨⟨[], by simp⟩, fun _ _ h => sqt_wr h hp w, fun a k h => by
    by_cases e : a = p
    · subst e
      rw [hp] at h
      exact absurd (Option.some.inj h) (w.nx k)
    · rw [upd_ne e]; exact h, fun a q h => by
    by_cases e : a = p
    · subst e
      rw [hp] at h
      exact absurd (Option.some.inj h) (w.nc q)
    · rw [upd_ne e]; exact h, fun a g o h => by
    by_cases e : a = p
    · subst e
      rw [hp] at h
      exact absurd (Option.some.inj h) (w.nm g o)
    · rw [upd_ne e]; exact h⟩
theorem Ext.lst {p : Addr} {ws : List V} {o : HO} (hp : H p = some (.lst ws)) : Ext K cl H π (upd H p o) π := Ext.wr hp (.inl ⟨_, rfl⟩)
theorem Keyed_ext {L : DI.KL} (e : Ext K cl H π H' π') (h : DI.Keyed K H L) : DI.Keyed K H' L := fun p hp => (h p hp).ext e.tup
theorem OR.ext {a : Addr} (e : Ext K cl H π H' π') (k : ∀ u, H a = some u → H' a = some u) {o : O} (h : OR K cl H π a o) : OR K cl H' π' a o := by
  cases o with
  | lst xs => obtain ⟨vs, h1, h2⟩ := h; exact ⟨vs, k _ h1, h2.ext e⟩
  | rol xs => obtain ⟨vs, h1, h2⟩ := h; exact ⟨vs, h1.elim (fun ⟨o, z⟩ => .inl ⟨o, k _ z⟩) .inr, h2.ext e⟩
  | dic kvs ep => obtain ⟨L, h1, h2, h3, h4⟩ := h; exact ⟨L, k _ h1, Keyed_ext e h2, h3, h4.ext e⟩
  | ins fs c => obtain ⟨dx, vs, h1, h2, h3⟩ := h; exact ⟨dx, vs, k _ h1, h2, h3.ext e⟩
  | deq xs => obtain ⟨n, as, h1, h2, h3⟩ := h; exact ⟨n, as, k _ h1, h2, h3.ext e⟩
  | dki kvs => obtain ⟨vs, h1, h2, h3⟩ := h; exact ⟨vs, k _ h1, h2, h3.ext e⟩
/-- another object beside -/
theorem SR.new0 {st : Store} {p : Addr} {o : HO} (h : SR K cl H π st) (hp : H p = none) : SR K cl (upd H p o) π st := by
  refine ⟨h.len, fun n u e => ?_, h.inj, fun x hx c P e => tabG_new (h.tab x hx c P e) hp, tabs_new h.tabl hp⟩
  obtain ⟨a, h1, h2⟩ := h.at_ n u e
  exact ⟨a, h1, h2.ext (Ext.new0 hp) fun vs q => by rw [upd_ne (ne_of_none q hp)]; exact q⟩
/-- a new object that may be changed -/
theorem SR.pushO {st : Store} {p : Addr} {o : O} {u : HO} (h : SR K cl H π st) (hp : H p = none) (wo : isW o = true) (r : Ext K cl H π (upd H p u) (π ++ [p]) → OR K cl (upd H p u) (π ++ [p]) p o) :
    Ext K cl H π (upd H p u) (π ++ [p]) ∧ SR K cl (upd H p u) (π ++ [p]) (st ++ [o]) := by
  have e : Ext K cl H π (upd H p u) (π ++ [p]) := Ext.new hp [p]
  have hl := h.len
  have notp : ∀ (m : Nat) (o' : O), st[m]? = some o' → isW o' = true → π[m]? ≠ some p := fun m o' q wq z => by
    obtain ⟨a, h1, h2⟩ := h.at_ m _ q
    rw [h1] at z
    cases z
    obtain ⟨_, q1, _⟩ := h2.wr wq
    rw [hp] at q1
    cases q1
  refine ⟨e, by simp [hl], fun n u' q => ?_, fun m n a y z q1 q2 w1 w2 q3 q4 => ?_, fun x hx c P e => tabG_new (h.tab x hx c P e) hp, tabs_new h.tabl hp⟩
  · by_cases hn : n < st.length
    · rw [List.getElem?_append_left hn] at q
      obtain ⟨a, h1, h2⟩ := h.at_ n u' q
      exact ⟨a, e.at_ h1, h2.ext e fun vs q => by rw [upd_ne (ne_of_none q hp)]; exact q⟩
    · have hn' : n = st.length := by
        have := (List.getElem?_eq_some_iff.mp q).1
        simp at this
        omega
      subst hn'
      rw [List.getElem?_append_right (Nat.le_refl _), Nat.sub_self] at q
      simp at q
      subst q
      exact ⟨p, by rw [List.getElem?_append_right (by omega), hl, Nat.sub_self]; rfl, r e⟩
  · by_cases hm : m < st.length
    · by_cases hn : n < st.length
      · rw [List.getElem?_append_left hm] at q1
        rw [List.getElem?_append_left hn] at q2
        rw [List.getElem?_append_left (by omega)] at q3
        rw [List.getElem?_append_left (by omega)] at q4
        exact h.inj m n a y z q1 q2 w1 w2 q3 q4
      · have hn' : n = st.length := by
          have := (List.getElem?_eq_some_iff.mp q2).1
          simp at this
          omega
        subst hn'
        rw [List.getElem?_append_right (by omega), hl, Nat.sub_self] at q4
        simp at q4
        subst q4
        rw [List.getElem?_append_left hm] at q1
        rw [List.getElem?_append_left (by omega)] at q3
        exact absurd q3 (notp m y q1 w1)
    · have hm' : m = st.length := by
        have := (List.getElem?_eq_some_iff.mp q1).1
        simp at this
        omega
      subst hm'
      rw [List.getElem?_append_right (by omega), hl, Nat.sub_self] at q3
      simp at q3
      subst q3
      by_cases hn : n < st.length
      · rw [List.getElem?_append_left hn] at q2
        rw [List.getElem?_append_left (by omega)] at q4
        exact absurd q4 (notp n z q2 w2)
      · have := (List.getElem?_eq_some_iff.mp q2).1
        simp at this
        omega
theorem SR.push {st : Store} {p : Addr} {xs : List D} {vs : List V} (h : SR K cl H π st) (hp : H p = none) (r : RVs K cl H π xs vs) :
    SR K cl (upd H p (.lst vs)) (π ++ [p]) (st ++ [.lst xs]) := (h.pushO (o := .lst xs) hp rfl fun e => ⟨vs, upd_same, r.ext e⟩).2
/-- an object changed -/
theorem SR.writeO {st : Store} {n : Nat} {a : Addr} {o o' : O} {u' : HO} (h : SR K cl H π st) (hn : st[n]? = some o) (wo : isW o = true) (wo' : isW o' = true) (ha : π[n]? = some a)
    (r : Ext K cl H π (upd H a u') π → OR K cl (upd H a u') π a o') :
    Ext K cl H π (upd H a u') π ∧ SR K cl (upd H a u') π (st.set n o') := by
  obtain ⟨b, h1, h2⟩ := h.at_ n _ hn
  rw [ha] at h1
  cases h1
  obtain ⟨u, hu, wr⟩ := h2.wr wo
  have e : Ext K cl H π (upd H a u') π := Ext.wr hu wr
  have lt : n < st.length := (List.getElem?_eq_some_iff.mp hn).1
  refine ⟨e, by simp [h.len], fun m v q => ?_, fun m k c y z q1 q2 w1 w2 q3 q4 => ?_, fun x hx c P e => tabG_wr (h.tab x hx c P e) hu wr, tabs_wr h.tabl hu wr⟩
  · by_cases hm : n = m
    · subst hm
      rw [List.getElem?_set_self lt] at q
      cases q
      exact ⟨a, ha, r e⟩
    · rw [List.getElem?_set_ne hm] at q
      obtain ⟨c, g1, g2⟩ := h.at_ m v q
      by_cases wv : isW v = true
      · have ne : c ≠ a := fun z => hm (h.inj n m a _ _ hn q wo wv ha (by rw [← z]; exact g1))
        exact ⟨c, g1, g2.ext e fun vs q => by rw [upd_ne ne]; exact q⟩
      · cases v with
        | rol zs =>
          obtain ⟨us, g3, g4⟩ := g2
          refine ⟨c, g1, us, ?_, g4.ext e⟩
          rcases g3 with ⟨o, g3⟩ | g3
          · exact .inl ⟨o, by rw [upd_ne (ne_of g3 hu (fun z => wr.nf _ _ z.symm))]; exact g3⟩
          · exact .inr g3
        | _ => exact absurd rfl wv
  · have back : ∀ (j : Nat) (t : O), (st.set n o')[j]? = some t → isW t = true → ∃ t', st[j]? = some t' ∧ isW t' = true := fun j t q wq => by
      by_cases hj : n = j
      · subst hj; exact ⟨_, hn, wo⟩
      · rw [List.getElem?_set_ne hj] at q; exact ⟨_, q, wq⟩
    obtain ⟨_, p1, p2⟩ := back m _ q1 w1
    obtain ⟨_, p3, p4⟩ := back k _ q2 w2
    exact h.inj m k c _ _ p1 p3 p2 p4 q3 q4
theorem SR.write {st : Store} {n : Nat} {a : Addr} {xs ys : List D} {vs : List V} (h : SR K cl H π st) (hn : st[n]? = some (.lst xs)) (ha : π[n]? = some a) (r : RVs K cl H π ys vs) :
    (∃ ws, H a = some (.lst ws)) ∧ Ext K cl H π (upd H a (.lst vs)) π ∧ SR K cl (upd H a (.lst vs)) π (st.set n (.lst ys)) := by
  obtain ⟨b, h1, ws, h2, h3⟩ := h.at_ n _ hn
  rw [ha] at h1
  cases h1
  exact ⟨⟨ws, h2⟩, h.writeO (o' := .lst ys) hn rfl rfl ha fun e => ⟨vs, upd_same, r.ext e⟩⟩
theorem SR.lst {st : Store} {n : Nat} {xs : List D} (h : SR K cl H π st) (hn : st[n]? = some (.lst xs)) : ∃ a vs, π[n]? = some a ∧ H a = some (.lst vs) ∧ RVs K cl H π xs vs := by
  obtain ⟨a, h1, vs, h2, h3⟩ := h.at_ n _ hn
  exact ⟨a, vs, h1, h2, h3⟩
/-- the items of a list that is read -/
def itemsOf (st : Store) (n : Nat) : Option (List D) := match st[n]? with
  | some (.lst xs) => some xs
  | some (.rol xs) => some xs
  | _ => none
theorem SR.seq {st : Store} {n : Nat} {xs : List D} (h : SR K cl H π st) (hn : itemsOf st n = some xs) : ∃ a vs, π[n]? = some a ∧ SqL K H a vs ∧ RVs K cl H π xs vs := by
  unfold itemsOf at hn
  cases e : st[n]? with
  | none => rw [e] at hn; cases hn
  | some o =>
    rw [e] at hn
    obtain ⟨a, h1, h2⟩ := h.at_ n _ e
    cases o with
    | lst ys => cases hn; obtain ⟨vs, q1, q2⟩ := h2; exact ⟨a, vs, h1, SqL.of q1, q2⟩
    | rol ys => cases hn; obtain ⟨vs, q1, q2⟩ := h2; exact ⟨a, vs, h1, q1.sq, q2⟩
    | dic _ _ => cases hn
    | ins _ _ => cases hn
    | deq _ => cases hn
    | dki _ => cases hn
end
end MP

namespace MP
open PySem L2

abbrev XR := Nat → Store → Prop
abbrev XE := Env → Store → (D → Store → Prop) → XR → Prop
abbrev XT := Env → Store → (Bool → Store → Prop) → XR → Prop
abbrev XA := Env → Store → (List D → Store → Prop) → XR → Prop
abbrev XF := List D → Store → (D → Store → Prop) → XR → Prop
abbrev XO2 := D → D → Store → (D → Store → Prop) → Prop

section
variable (K : PySem.W.Frag) (cl : CL)
/-- what is wanted where an exception is raised -/
def RW (W : WX) (σV : St) (H : Hp) (π : List Addr) (R : XR) : Prop :=
  ∀ c st' H' π', R c st' → Ext K cl H π H' π' → SR K cl H' π' st' → W (.ref (cl c)) none σV H'
def QW (H : Hp) (π : List Addr) (Q : VK) (Q0 : D → Store → Prop) : Prop :=
  ∀ d st' H' π' v, Q0 d st' → Ext K cl H π H' π' → SR K cl H' π' st' → RV K cl H' π' d v → Q v H'
def LE (W : WX) (x : XE) : TE := fun σV H Q => ∃ π σ st Q0 R0, SR K cl H π st ∧ ER K cl H π σ σV ∧ x σ st Q0 R0 ∧ QW K cl H π Q Q0 ∧ RW K cl W σV H π R0
def LT (W : WX) (x : XT) : TT := fun σV H Q => ∃ π σ st Q0 R0, SR K cl H π st ∧ ER K cl H π σ σV ∧ x σ st Q0 R0 ∧
  (∀ b st' H' π', Q0 b st' → Ext K cl H π H' π' → SR K cl H' π' st' → Q b H') ∧ RW K cl W σV H π R0
def LA (W : WX) (x : XA) : TA := fun σV H Q => ∃ π σ st Q0 R0, SR K cl H π st ∧ ER K cl H π σ σV ∧ x σ st Q0 R0 ∧
  (∀ ds st' H' π' vs, Q0 ds st' → Ext K cl H π H' π' → SR K cl H' π' st' → RVs K cl H' π' ds vs → Q vs H') ∧ RW K cl W σV H π R0
/-- a value from another -/
def LO (W : WX) (x : Env → Store → (Option Int → Store → Prop) → XR → Prop) : TO := fun σV H Q => ∃ π σ st Q0 R0, SR K cl H π st ∧ ER K cl H π σ σV ∧ x σ st Q0 R0 ∧
  (∀ o st' H' π', Q0 o st' → Ext K cl H π H' π' → SR K cl H' π' st' → Q o H') ∧ RW K cl W σV H π R0
end

section
variable {K : PySem.W.Frag} {cl : CL} {H H' H2 : Hp} {π π' π2 : List Addr} {W : WX}
theorem RW.ext {σV : St} {R : XR} (h : RW K cl W σV H π R) (e : Ext K cl H π H' π') : RW K cl W σV H' π' R :=
  fun c st' H2 π2 r e2 s => h c st' H2 π2 r (e.trans e2) s
theorem QW.ext {Q : VK} {Q0 : D → Store → Prop} (h : QW K cl H π Q Q0) (e : Ext K cl H π H' π') : QW K cl H' π' Q Q0 :=
  fun d st' H2 π2 v r e2 s q => h d st' H2 π2 v r (e.trans e2) s q
theorem QW.self {Q : VK} {Q0 : D → Store → Prop} (h : QW K cl H π Q Q0) {st : Store} {d : D} {v : V} (s : SR K cl H π st) (r : RV K cl H π d v) (q : Q0 d st) : Q v H :=
  h d st H π v q Ext.refl s r
end

theorem imE {X : Cx} {e : Expr} {t t' : TE} (h : PE X e t) (i : ∀ σ H Q, t' σ H Q → t σ H Q) : PE X e t' :=
  ⟨fun pins s σ H Q I q => h.run pins s σ H Q I (i _ _ _ q)⟩
theorem imT {X : Cx} {e : Expr} {t t' : TT} (h : PT X e t) (i : ∀ σ H Q, t' σ H Q → t σ H Q) : PT X e t' :=
  ⟨fun pins s σ H Q I q => h.run pins s σ H Q I (i _ _ _ q)⟩
theorem imA {X : Cx} {e : List Expr} {t t' : TA} (h : PA X e t) (i : ∀ σ H Q, t' σ H Q → t σ H Q) : PA X e t' :=
  ⟨fun pos pins s σ H Q I q => h.run pos pins s σ H Q I (i _ _ _ q)⟩
theorem imO {X : Cx} {e : Option Expr} {t t' : TO} (h : PO X e t) (i : ∀ σ H Q, t' σ H Q → t σ H Q) : PO X e t' :=
  ⟨fun pins s σ H Q I q => h.run pins s σ H Q I (i _ _ _ q)⟩
theorem imS {X : Cx} {e : Stmt} {t t' : TS} (h : PS X e t) (i : ∀ D σ H, t' D σ H → t D σ H) : PS X e t' :=
  ⟨fun pins s σ H D I q => h.run pins s σ H D I (i _ _ _ q)⟩
theorem imSs {X : Cx} {e : List Stmt} {t t' : TS} (h : PSs X e t) (i : ∀ D σ H, t' D σ H → t D σ H) : PSs X e t' :=
  ⟨fun pins s σ H D I q => h.run pins s σ H D I (i _ _ _ q)⟩

/-! ### names, constants -/
def xVar (i : Nat) : XE := fun σ st Q _ => match σ[i]? with
  | some (some d) => Q d st
  | _ => False
def xC (d : D) : XE := fun _ st Q _ => Q d st

section
variable {X : Cx} {cl : CL} {W : WX}
theorem mp_var (i : Nat) {x : Str} {pos : Pos} (hN : X.N[i]? = some x := by rfl) (hv : Vis X.env.scope x := by first | exact Or.inl rfl | exact Or.inr (Or.inl rfl) | exact Or.inr (Or.inr rfl))
    (hd : (x == ("__debug__" : Str)) = false := by decide) (hcd : (x == ("__classdict__" : Str)) = false := by decide) : PE X (.Name x pos) (LE X.K cl W (xVar i)) := by
  refine imE (pe_var hN hv hd hcd) fun σV H Q ⟨π, σ, st, Q0, R0, hs, he, hx, hq, _⟩ => ?_
  unfold xVar at hx
  split at hx
  · rename_i d e
    obtain ⟨v, h1, h2⟩ := he.at_ i d e
    exact ⟨v, h1, hq.self hs h2 hx⟩
  · exact hx.elim
theorem mp_const {e : Expr} {d : D} {v : V} (h : PE X e (tC v)) (r : ∀ H π, RV X.K cl H π d v) : PE X e (LE X.K cl W (xC d)) :=
  imE h fun σV H Q ⟨π, σ, st, Q0, R0, hs, he, hx, hq, _⟩ => hq.self hs (r H π) hx
theorem mp_int {i : Int} {j : Nat} {pos : Pos} : PE X (.Constant (.int i) j pos) (LE X.K cl W (xC (.int i))) := mp_const pe_int fun _ _ => by simp only [RV]
theorem mp_bl {b : Bool} {j : Nat} {pos : Pos} : PE X (.Constant (.bool b) j pos) (LE X.K cl W (xC (.bl b))) := mp_const pe_bl fun _ _ => by simp only [RV]
theorem mp_non {j : Nat} {pos : Pos} : PE X (.Constant .none j pos) (LE X.K cl W (xC .non)) := mp_const pe_non fun _ _ => by simp only [RV]
theorem mp_str {x : Str} {j : Nat} {pos : Pos} : PE X (.Constant (.str x) j pos) (LE X.K cl W (xC (.str x))) := mp_const pe_str fun _ _ => by simp only [RV]
/-- a constant of the module -/
theorem mp_glob {x : Str} {d : D} {v : V} {u : Value} {pos : Pos} (hg : Gl X x) (hm : X.mg x = some u) (hr : RelV v u) (r : ∀ H π, RV X.K cl H π d v) (hd : (x == ("__debug__" : Str)) = false := by decide) :
    PE X (.Name x pos) (LE X.K cl W (xC d)) := mp_const (pe_glob hg hm hr hd) r

/-! ### operators -/
def Op2 (K : PySem.W.Frag) (cl : CL) (f : XO2) (r : R2) : Prop :=
  ∀ H π st x y vx vy Q Q0, SR K cl H π st → RV K cl H π x vx → RV K cl H π y vy → f x y st Q0 → QW K cl H π Q Q0 → r vx vy H Q
def xBin (f : XO2) (a b : XE) : XE := fun σ st Q R => a σ st (fun x st1 => b σ st1 (fun y st2 => f x y st2 Q) R) R
theorem bin_imp {K : PySem.W.Frag} {f : XO2} {r : R2} {a b : XE} (hr : Op2 K cl f r) {σV : St} {H : Hp} {Q : VK} (h : LE K cl W (xBin f a b) σV H Q) : tOp r (LE K cl W a) (LE K cl W b) σV H Q := by
  obtain ⟨π, σ, st, Q0, R0, hs, he, hx, hq, hw⟩ := h
  refine ⟨π, σ, st, _, R0, hs, he, hx, fun x st1 H1 π1 vx h1 e1 s1 r1 => ?_, hw⟩
  refine ⟨π1, σ, st1, _, R0, s1, he.ext e1, h1, fun y st2 H2 π2 vy h2 e2 s2 r2 => ?_, hw.ext e1⟩
  exact hr H2 π2 st2 x y vx vy Q Q0 s2 (r1.ext e2) r2 h2 (hq.ext (e1.trans e2))
theorem mp_bin {a b : Expr} {op : Operator} {pos : Pos} {f : XO2} {r : R2} {xa xb : XE} (ho : OpR X (binaryOp op) r) (hr : Op2 X.K cl f r) (ha : PE X a (LE X.K cl W xa)) (hb : PE X b (LE X.K cl W xb)) :
    PE X (.BinOp a op b pos) (LE X.K cl W (xBin f xa xb)) := imE (pe_op ho ha hb) fun _ _ _ h => bin_imp hr h
theorem mp_cmp {a b : Expr} {op : CmpOp} {pos : Pos} {f : XO2} {r : R2} {xa xb : XE} (ho : OpR X (compareOp op) r) (hr : Op2 X.K cl f r) (hm : behindInMarks op b = false) (ha : PE X a (LE X.K cl W xa)) (hb : PE X b (LE X.K cl W xb)) :
    PE X (.Compare a [op] [b] pos) (LE X.K cl W (xBin f xa xb)) := imE (pe_cmpR ho ha hb hm) fun _ _ _ h => bin_imp hr h
/-- a value that is a bool, as a test -/
def xB (x : XE) : XT := fun σ st Q R => x σ st (fun d st' => match d with
  | .bl b => Q b st'
  | _ => False) R
theorem test_imp {K : PySem.W.Frag} {x : XE} {t : TE} (ht : ∀ σV H Q, LE K cl W x σV H Q → t σV H Q) {σV : St} {H : Hp} {Q : Bool → Hp → Prop} (h : LT K cl W (xB x) σV H Q) : tTest t σV H Q := by
  obtain ⟨π, σ, st, Q0, R0, hs, he, hx, hq, hw⟩ := h
  refine ht _ _ _ ⟨π, σ, st, _, R0, hs, he, hx, fun d st1 H1 π1 v h1 e1 s1 r1 => ?_, hw⟩
  cases d with
  | bl b =>
    simp only [RV] at r1
    exact ⟨b, r1, hq b st1 H1 π1 h1 e1 s1⟩
  | _ => exact h1.elim
theorem mt_cmp {a b : Expr} {op : CmpOp} {pos : Pos} {f : XO2} {r : R2} {xa xb : XE} (ho : OpR X (compareOp op) r) (hr : Op2 X.K cl f r) (hm : behindInMarks op b = false) (ha : PE X a (LE X.K cl W xa)) (hb : PE X b (LE X.K cl W xb)) :
    PT X (.Compare a [op] [b] pos) (LT X.K cl W (xB (xBin f xa xb))) := imT (pt_cmpR ho ha hb hm) fun _ _ _ h => test_imp (fun _ _ _ h => bin_imp hr h) h

theorem orOp {f : Value → Value → Sem Value} {r r' : R2} (h : OpR X f r) (h' : OpR X f r') : OpR X f (fun x y H Q => r x y H Q ∨ r' x y H Q) :=
  fun pins s σ H x y v u Q I rx ry q => q.elim (h pins s σ H x y v u Q I rx ry) (h' pins s σ H x y v u Q I rx ry)

/-- x + y -/
def dAdd : XO2 := fun x y st Q => match x, y with
  | .int i, .int j => Q (.int (i + j)) st
  | .str a, .str b => a.length + b.length ≤ 16777216 ∧ Q (.str (a ++ b)) st
  | .tup xs, .tup ys => xs ≠ [] ∧ xs.length + ys.length ≤ 16777216 ∧ Q (.tup (xs ++ ys)) st
  | .ref m, .ref n => match st[m]?, st[n]? with
    | some (.lst xs), some (.lst ys) => xs.length + ys.length ≤ 16777216 ∧ Q (.ref st.length) (st ++ [.lst (xs ++ ys)])
    | _, _ => False
  | _, _ => False
def rAdd (K : PySem.W.Frag) : R2 := fun x y H Q => rI0 (fun i j => .int (i + j)) x y H Q ∨ (∃ i j, x = .str i ∧ y = .str j ∧ i.length + j.length ≤ sizeLine ∧ Q (.str (i ++ j)) H) ∨ rCatT K x y H Q ∨ rCat x y H Q
theorem op_addD : OpR X (binaryOp .Add) (rAdd X.K) := orOp op_add (orOp op_add_str (orOp op_catT op_cat))
theorem o2_add {K : PySem.W.Frag} : Op2 K cl dAdd (rAdd K) := by
  intro H π st x y vx vy Q Q0 hs rx ry h hq
  have zl := sizeLine_eq
  cases x with
  | int i =>
    cases y with
    | int j =>
      simp only [RV] at rx ry
      exact .inl ⟨i, j, rx, ry, hq.self hs (by simp only [RV]) h⟩
    | _ => exact h.elim
  | str a =>
    cases y with
    | str b =>
      simp only [RV] at rx ry
      exact .inr (.inl ⟨a, b, rx, ry, by rw [zl]; exact h.1, hq.self hs (by simp only [RV]) h.2⟩)
    | _ => exact h.elim
  | tup xs =>
    cases y with
    | tup ys =>
      simp only [RV] at rx ry
      obtain ⟨a, vs, rfl, t1, r1⟩ := rx
      obtain ⟨b, ws, rfl, t2, r2⟩ := ry
      obtain ⟨h1, h2, h3⟩ := h
      refine .inr (.inr (.inl ⟨a, b, vs, ws, rfl, rfl, t1, t2, fun z => ?_, by rw [zl, r1.length, r2.length]; exact h2, fun z => ?_, fun z p hp => ?_⟩))
      · rw [z] at r1
        have := r1.length
        exact h1 (List.length_eq_zero_iff.mp this.symm)
      · subst z
        have e : ys = [] := List.length_eq_zero_iff.mp r2.length.symm
        subst e
        exact hq _ _ H π _ h3 Ext.refl hs (by simp only [RV, List.append_nil]; exact ⟨a, vs, rfl, t1, r1⟩)
      · have e : Ext K cl H π (upd H p (.tup (vs ++ ws))) π := Ext.new0 hp
        exact hq _ _ _ π _ h3 e (hs.new0 hp) (by simp only [RV]; exact ⟨p, _, rfl, SqT.of upd_same, (r1.append r2).ext e⟩)
    | _ => exact h.elim
  | ref m =>
    cases y with
    | ref n =>
      unfold dAdd at h
      dsimp only at h
      split at h
      · rename_i xs ys e1 e2
        simp only [RV] at rx ry
        obtain ⟨a, rfl, ha⟩ := rx
        obtain ⟨b, rfl, hb⟩ := ry
        obtain ⟨a', vs, q1, q2, q3⟩ := hs.lst e1
        obtain ⟨b', ws, p1, p2, p3⟩ := hs.lst e2
        rw [ha] at q1; cases q1
        rw [hb] at p1; cases p1
        refine .inr (.inr (.inr ⟨a, b, vs, ws, rfl, rfl, q2, p2, by rw [zl, q3.length, p3.length]; exact h.1, fun p hp => ?_⟩))
        exact hq _ _ _ (π ++ [p]) _ h.2 (Ext.new hp [p]) (hs.push hp (q3.append p3)) (by simp only [RV]; exact ⟨p, rfl, by rw [← hs.len, List.getElem?_append_right (Nat.le_refl _), Nat.sub_self]; rfl⟩)
      · exact h.elim
    | _ => exact h.elim
  | _ => cases y <;> exact h.elim

/-- ints alone -/
def dI (C : Int → Int → Prop) (g : Int → Int → D) : XO2 := fun x y st Q => match x, y with
  | .int i, .int j => C i j ∧ Q (g i j) st
  | _, _ => False
theorem o2_I {K : PySem.W.Frag} {C : Int → Int → Prop} {g : Int → Int → D} {gv : Int → Int → V} (hg : ∀ H π i j, RV K cl H π (g i j) (gv i j)) : Op2 K cl (dI C g) (rI C gv) := by
  intro H π st x y vx vy Q Q0 hs rx ry h hq
  cases x with
  | int i =>
    cases y with
    | int j =>
      simp only [RV] at rx ry
      exact ⟨i, j, rx, ry, h.1, hq.self hs (hg _ _ _ _) h.2⟩
    | _ => exact h.elim
  | _ => cases y <;> exact h.elim
def dI0 (g : Int → Int → D) : XO2 := fun x y st Q => match x, y with
  | .int i, .int j => Q (g i j) st
  | _, _ => False
theorem o2_I0 {K : PySem.W.Frag} {g : Int → Int → D} {gv : Int → Int → V} (hg : ∀ H π i j, RV K cl H π (g i j) (gv i j)) : Op2 K cl (dI0 g) (rI0 gv) := by
  intro H π st x y vx vy Q Q0 hs rx ry h hq
  cases x with
  | int i =>
    cases y with
    | int j =>
      simp only [RV] at rx ry
      exact ⟨i, j, rx, ry, hq.self hs (hg _ _ _ _) h⟩
    | _ => exact h.elim
  | _ => cases y <;> exact h.elim
abbrev dSub : XO2 := dI0 fun i j => .int (i - j)
abbrev dFdiv : XO2 := dI CDiv fun i j => .int (i / j)
abbrev dMod : XO2 := dI (fun _ j => 0 < j) fun i j => .int (i % j)
abbrev dPow : XO2 := dI CPow fun i j => .int (i ^ j.toNat)
theorem o2_sub {K : PySem.W.Frag} : Op2 K cl dSub (rI0 fun i j => .int (i - j)) := o2_I0 fun _ _ _ _ => by simp only [RV]
theorem o2_fdiv {K : PySem.W.Frag} : Op2 K cl dFdiv (rI CDiv fun i j => .int (i / j)) := o2_I fun _ _ _ _ => by simp only [RV]
theorem o2_mod {K : PySem.W.Frag} : Op2 K cl dMod (rI (fun _ j => 0 < j) fun i j => .int (i % j)) := o2_I fun _ _ _ _ => by simp only [RV]
theorem o2_pow {K : PySem.W.Frag} : Op2 K cl dPow (rI CPow fun i j => .int (i ^ j.toNat)) := o2_I fun _ _ _ _ => by simp only [RV]
abbrev dLt : XO2 := dI0 fun i j => .bl (decide (i < j))
abbrev dLe : XO2 := dI0 fun i j => .bl (decide (i ≤ j))
abbrev dGt : XO2 := dI0 fun i j => .bl (decide (j < i))
abbrev dGe : XO2 := dI0 fun i j => .bl (decide (j ≤ i))
theorem o2_lt {K : PySem.W.Frag} : Op2 K cl dLt (rI0 fun i j => .bl (decide (i < j))) := o2_I0 fun _ _ _ _ => by simp only [RV]
theorem o2_le {K : PySem.W.Frag} : Op2 K cl dLe (rI0 fun i j => .bl (decide (i ≤ j))) := o2_I0 fun _ _ _ _ => by simp only [RV]
theorem o2_gt {K : PySem.W.Frag} : Op2 K cl dGt (rI0 fun i j => .bl (decide (j < i))) := o2_I0 fun _ _ _ _ => by simp only [RV]
theorem o2_ge {K : PySem.W.Frag} : Op2 K cl dGe (rI0 fun i j => .bl (decide (j ≤ i))) := o2_I0 fun _ _ _ _ => by simp only [RV]

/-- x * y: ints (one of them small), a list times an int -/
def dMul : XO2 := fun x y st Q => match x, y with
  | .int i, .int j => CMul i j ∧ Q (.int (i * j)) st
  | .ref m, .int k => match st[m]? with
    | some (.lst xs) => -(2 ^ 63) ≤ k ∧ k < 2 ^ 63 ∧ xs.length * k.toNat ≤ 16777216 ∧ Q (.ref st.length) (st ++ [.lst (List.replicate k.toNat xs).flatten])
    | _ => False
  | _, _ => False
def rMulD : R2 := fun x y H Q => rI CMul (fun i j => .int (i * j)) x y H Q ∨ rRep x y H Q
theorem op_mulD : OpR X (binaryOp .Mult) rMulD := orOp op_mul op_rep
theorem o2_mul {K : PySem.W.Frag} : Op2 K cl dMul rMulD := by
  intro H π st x y vx vy Q Q0 hs rx ry h hq
  have zl := sizeLine_eq
  cases x with
  | int i =>
    cases y with
    | int j =>
      simp only [RV] at rx ry
      exact .inl ⟨i, j, rx, ry, h.1, hq.self hs (by simp only [RV]) h.2⟩
    | _ => exact h.elim
  | ref m =>
    cases y with
    | int k =>
      unfold dMul at h
      dsimp only at h
      split at h
      · rename_i xs e1
        simp only [RV] at rx ry
        obtain ⟨a, rfl, ha⟩ := rx
        obtain ⟨a', vs, q1, q2, q3⟩ := hs.lst e1
        rw [ha] at q1; cases q1
        obtain ⟨h1, h2, h3, h4⟩ := h
        refine .inr ⟨a, k, vs, rfl, ry, q2, h1, h2, by rw [zl, q3.length]; exact h3, fun p hp => ?_⟩
        exact hq _ _ _ (π ++ [p]) _ h4 (Ext.new hp [p]) (hs.push hp (q3.rep _)) (by simp only [RV]; exact ⟨p, rfl, by rw [← hs.len, List.getElem?_append_right (Nat.le_refl _), Nat.sub_self]; rfl⟩)
      · exact h.elim
    | _ => exact h.elim
  | _ => cases y <;> exact h.elim
end
end MP

namespace MP
open PySem L2

/-! ### data of any depth -/
def optAll {α β : Type} (f : α → Option β) : List α → Option (List β)
  | [] => some []
  | x :: xs => match f x, optAll f xs with
    | some y, some ys => some (y :: ys)
    | _, _ => none
def toP : Nat → Store → D → Option PyData
  | 0, _, _ => none
  | n + 1, st, d => match d with
    | .non => some .none
    | .bl b => some (.bool b)
    | .int i => some (.int i)
    | .str s => some (.str s)
    | .tup xs => (optAll (toP n st) xs).map .tuple
    | .ref k => match itemsOf st k with
      | some xs => (optAll (toP n st) xs).map .list
      | none => none
    | .exc _ => none
    | .clo _ _ _ _ _ => none
    | .met _ _ => none
section
variable {K : PySem.W.Frag} {cl : CL} {H : Hp} {π : List Addr} {st : Store}
theorem dp_of (hs : SR K cl H π st) : ∀ (n : Nat) (d : D) (v : V) (p : PyData), toP n st d = some p → RV K cl H π d v → Dp K H v p
  | 0, _, _, _, h, _ => by simp [toP] at h
  | n + 1, d, v, p, h, r => by
    have all : ∀ (xs : List D) (vs : List V) (ps : List PyData), optAll (toP n st) xs = some ps → RVs K cl H π xs vs → DpAll K H vs ps := by
      intro xs
      induction xs with
      | nil =>
        intro vs ps h r
        rw [r.un0]
        simp [optAll] at h
        subst h
        exact .nil
      | cons x xs ih =>
        intro vs ps h r
        obtain ⟨w, q, rfl, r1, r2⟩ := r.un
        unfold optAll at h
        split at h
        · rename_i y ys e1 e2
          cases h
          exact .cons (dp_of hs n x w y e1 r1) (ih q ys e2 r2)
        · cases h
    cases d with
    | non => simp [toP] at h; simp only [RV] at r; subst h r; exact .non
    | bl b => simp [toP] at h; simp only [RV] at r; subst h r; exact .bl b
    | int i => simp [toP] at h; simp only [RV] at r; subst h r; exact .int i
    | str s => simp [toP] at h; simp only [RV] at r; subst h r; exact .str s
    | tup xs =>
      simp only [toP, Option.map_eq_some_iff] at h
      obtain ⟨ps, h1, rfl⟩ := h
      simp only [RV] at r
      obtain ⟨a, vs, rfl, t, r⟩ := r
      exact .tup t (all xs vs ps h1 r)
    | ref k =>
      simp only [toP] at h
      split at h
      · rename_i xs e
        simp only [Option.map_eq_some_iff] at h
        obtain ⟨ps, h1, rfl⟩ := h
        simp only [RV] at r
        obtain ⟨a, rfl, ha⟩ := r
        obtain ⟨b, vs, q1, q2, q3⟩ := hs.seq e
        rw [ha] at q1; cases q1
        exact .lst q2 (all xs vs ps h1 q3)
      · cases h
    | exc k => simp [toP] at h
    | clo n f c ws caps => simp [toP] at h
    | met g o => simp [toP] at h
end

/-- x == y -/
def dEqB (neg : Bool) : XO2 := fun x y st Q => match x, y with
  | .int i, .int j => Q (.bl (if neg then !decide (i = j) else decide (i = j))) st
  | .str a, .str b => Q (.bl (if neg then !decide (a = b) else decide (a = b))) st
  | x, y => match toP 30 st x, toP 30 st y with
    | some p, some q => SeqAt.shaped p = true ∧ SeqAt.shaped q = true ∧ Q (.bl (if neg then !PyData.eqv p q else PyData.eqv p q)) st
    | _, _ => False
abbrev dEq : XO2 := dEqB false
abbrev dNe : XO2 := dEqB true
def rEqB (K : PySem.W.Frag) (neg : Bool) : R2 := if neg then fun x y H Q => rNe x y H Q ∨ rNeD K x y H Q else fun x y H Q => rEq x y H Q ∨ rEqD K x y H Q
section
variable {X : Cx} {cl : CL} {W : WX}
theorem op_eqB (hu : X.A.units + 64 < cLine) : OpR X (compareOp .Eq) (rEqB X.K false) := orOp op_eq (op_eqD hu)
theorem op_neB (hu : X.A.units + 64 < cLine) : OpR X (compareOp .NotEq) (rEqB X.K true) := orOp op_ne (op_neD hu)
theorem o2_eqB {K : PySem.W.Frag} (neg : Bool) : Op2 K cl (dEqB neg) (rEqB K neg) := by
  intro H π st x y vx vy Q Q0 hs rx ry h hq
  have deep : (match toP 30 st x, toP 30 st y with
    | some p, some q => SeqAt.shaped p = true ∧ SeqAt.shaped q = true ∧ Q0 (.bl (if neg then !PyData.eqv p q else PyData.eqv p q)) st
    | _, _ => False) → rEqB K neg vx vy H Q := by
    intro h
    split at h
    · rename_i p q e1 e2
      obtain ⟨h1, h2, h3⟩ := h
      have d1 := dp_of hs 30 x vx p e1 rx
      have d2 := dp_of hs 30 y vy q e2 ry
      have q3 := hq.self hs (d := .bl (if neg then !PyData.eqv p q else PyData.eqv p q)) (v := .bl (if neg then !PyData.eqv p q else PyData.eqv p q)) (by simp only [RV]) h3
      cases neg with
      | true => exact .inr ⟨p, q, d1, d2, h1, h2, q3⟩
      | false => exact .inr ⟨p, q, d1, d2, h1, h2, q3⟩
    · exact h.elim
  cases x with
  | int i =>
    cases y with
    | int j =>
      simp only [RV] at rx ry
      subst rx ry
      have e : decide (V.int i = V.int j) = decide (i = j) := by simp
      have q3 := hq.self hs (d := .bl (if neg then !decide (i = j) else decide (i = j))) (v := .bl (if neg then !decide (i = j) else decide (i = j))) (by simp only [RV]) h
      cases neg with
      | true => exact .inl ⟨rfl, by rw [e]; exact q3⟩
      | false => exact .inl ⟨rfl, by rw [e]; exact q3⟩
    | _ => exact deep h
  | str i =>
    cases y with
    | str j =>
      simp only [RV] at rx ry
      subst rx ry
      have e : decide (V.str i = V.str j) = decide (i = j) := by simp
      have q3 := hq.self hs (d := .bl (if neg then !decide (i = j) else decide (i = j))) (v := .bl (if neg then !decide (i = j) else decide (i = j))) (by simp only [RV]) h
      cases neg with
      | true => exact .inl ⟨rfl, by rw [e]; exact q3⟩
      | false => exact .inl ⟨rfl, by rw [e]; exact q3⟩
    | _ => exact deep h
  | _ => exact deep h

/-- x is None, x is True -/
def dIs (neg : Bool) : XO2 := fun x y st Q => match y with
  | .non => match x with
    | .non => Q (.bl (!neg)) st
    | _ => Q (.bl neg) st
  | .bl b => match x with
    | .bl a => Q (.bl (if neg then !decide (a = b) else decide (a = b))) st
    | _ => False
  | _ => False
def rIsD (neg : Bool) : R2 := if neg then fun x y H Q => (y = .non ∧ Q (.bl (!decide (x = .non))) H) ∨ rNotB x y H Q else fun x y H Q => (y = .non ∧ Q (.bl (decide (x = .non))) H) ∨ rIsB x y H Q
theorem op_isD : OpR X (compareOp .Is) (rIsD false) := orOp op_isN op_isBl
theorem op_isnD : OpR X (compareOp .IsNot) (rIsD true) := orOp op_notN op_notBl
theorem o2_is {K : PySem.W.Frag} (neg : Bool) : Op2 K cl (dIs neg) (rIsD neg) := by
  intro H π st x y vx vy Q Q0 hs rx ry h hq
  cases y with
  | non =>
    simp only [RV] at ry
    subst ry
    have fin : ∀ b : Bool, (vx = V.non ↔ b = true) → Q0 (.bl (if neg then !b else b)) st → rIsD neg vx .non H Q := by
      intro b hb q
      have q3 := hq.self hs (d := .bl (if neg then !b else b)) (v := .bl (if neg then !b else b)) (by simp only [RV]) q
      have e : decide (vx = V.non) = b := by
        cases b with
        | true => exact decide_eq_true (hb.mpr rfl)
        | false => exact decide_eq_false fun z => by have := hb.mp z; cases this
      cases neg with
      | true => exact .inl ⟨rfl, by rw [e]; exact q3⟩
      | false => exact .inl ⟨rfl, by rw [e]; exact q3⟩
    cases x with
    | non =>
      simp only [RV] at rx
      exact fin true ⟨fun _ => rfl, fun _ => rx⟩ (by cases neg <;> exact h)
    | tup xs =>
      simp only [RV] at rx
      obtain ⟨a, vs, rfl, _⟩ := rx
      exact fin false ⟨(fun z => by cases z), (fun z => by cases z)⟩ (by cases neg <;> exact h)
    | ref n =>
      simp only [RV] at rx
      obtain ⟨a, rfl, _⟩ := rx
      exact fin false ⟨(fun z => by cases z), (fun z => by cases z)⟩ (by cases neg <;> exact h)
    | exc n =>
      simp only [RV] at rx
      obtain ⟨a, rfl, _⟩ := rx
      exact fin false ⟨(fun z => by cases z), (fun z => by cases z)⟩ (by cases neg <;> exact h)
    | clo n f c ws caps =>
      simp only [RV] at rx
      obtain ⟨rfl, _⟩ := rx
      exact fin false ⟨(fun z => by cases z), (fun z => by cases z)⟩ (by cases neg <;> exact h)
    | met g o =>
      simp only [RV] at rx
      obtain ⟨p, a, rfl, _⟩ := rx
      exact fin false ⟨(fun z => by cases z), (fun z => by cases z)⟩ (by cases neg <;> exact h)
    | bl b =>
      simp only [RV] at rx
      subst rx
      exact fin false ⟨(fun z => by cases z), (fun z => by cases z)⟩ (by cases neg <;> exact h)
    | int b =>
      simp only [RV] at rx
      subst rx
      exact fin false ⟨(fun z => by cases z), (fun z => by cases z)⟩ (by cases neg <;> exact h)
    | str b =>
      simp only [RV] at rx
      subst rx
      exact fin false ⟨(fun z => by cases z), (fun z => by cases z)⟩ (by cases neg <;> exact h)
  | bl b =>
    cases x with
    | bl a =>
      simp only [RV] at rx ry
      have q3 := hq.self hs (d := .bl (if neg then !decide (a = b) else decide (a = b))) (v := .bl (if neg then !decide (a = b) else decide (a = b))) (by simp only [RV]) h
      cases neg with
      | true => exact .inr ⟨a, b, rx, ry, q3⟩
      | false => exact .inr ⟨a, b, rx, ry, q3⟩
    | _ => exact h.elim
  | _ => exact h.elim

/-! ### x in y -/
def flatD : D → Bool
  | .non => true
  | .bl _ => true
  | .int _ => true
  | .str _ => true
  | _ => false
def eqFl : D → D → Bool
  | .non, .non => true
  | .bl a, .bl b => a == b
  | .bl a, .int b => (if a then 1 else 0) == b
  | .int a, .bl b => a == (if b then 1 else 0)
  | .int a, .int b => a == b
  | .str a, .str b => a == b
  | _, _ => false
def inFl (x : D) (ys : List D) : Bool := ys.any fun y => eqFl y x
theorem flat_rv {K : PySem.W.Frag} {H : Hp} {π : List Addr} {d : D} {v : V} (r : RV K cl H π d v) (h : flatD d = true) : flatV v = true := by
  cases d <;> simp only [RV] at r <;> first | (subst r; rfl) | cases h
theorem eqFl_rv {K : PySem.W.Frag} {H : Hp} {π : List Addr} {d e : D} {v w : V} (r : RV K cl H π d v) (q : RV K cl H π e w) (h : flatD d = true) (h2 : flatD e = true) : eqV v w = eqFl d e := by
  cases d <;> simp only [RV] at r <;> first | (subst r; (cases e <;> simp only [RV] at q <;> first | (subst q; rfl) | cases h2)) | cases h
theorem all_rv {K : PySem.W.Frag} {H : Hp} {π : List Addr} : ∀ {ds : List D} {vs : List V}, RVs K cl H π ds vs → ds.all flatD = true → vs.all flatV = true
  | [], _, r, _ => by rw [r.un0]; rfl
  | d :: ds, _, r, h => by
    obtain ⟨v, q, rfl, r1, r2⟩ := r.un
    rw [List.all_cons, Bool.and_eq_true] at h ⊢
    exact ⟨flat_rv r1 h.1, all_rv r2 h.2⟩
theorem in_rv {K : PySem.W.Frag} {H : Hp} {π : List Addr} {x : D} {vx : V} (rx : RV K cl H π x vx) (hx : flatD x = true) : ∀ {ds : List D} {vs : List V}, RVs K cl H π ds vs → ds.all flatD = true → inV vx vs = inFl x ds
  | [], _, r, _ => by rw [r.un0]; rfl
  | d :: ds, _, r, h => by
    obtain ⟨v, q, rfl, r1, r2⟩ := r.un
    rw [List.all_cons, Bool.and_eq_true] at h
    have ih := in_rv rx hx r2 h.2
    unfold inV inFl at ih ⊢
    rw [List.any_cons, List.any_cons, ih, eqFl_rv r1 rx h.1 hx]
def dIn (neg : Bool) : XO2 := fun x y st Q => match y with
  | .tup ys => flatD x = true ∧ ys.all flatD = true ∧ Q (.bl (if neg then !inFl x ys else inFl x ys)) st
  | .ref n => match itemsOf st n with
    | some ys => (flatD x = true ∧ ys.all flatD = true ∧ Q (.bl (if neg then !inFl x ys else inFl x ys)) st) ∨
        ∃ d ds, toP 30 st x = some d ∧ toP 30 st (.ref n) = some (.list ds) ∧ SeqAt.shaped d = true ∧ SeqAt.shaped (.list ds) = true ∧
          Q (.bl (if neg then !ds.any fun z => PyData.eqv z d else ds.any fun z => PyData.eqv z d)) st
    | none => False
  | _ => False
def rInB (K : PySem.W.Frag) (neg : Bool) : R2 := fun x y H Q => rIn K neg x y H Q ∨ (if neg then rNotInD K else rInD K) x y H Q
theorem op_inB (hu : X.A.units + 65 < cLine) : OpR X (compareOp .In) (rInB X.K false) := orOp op_in_seq (op_inD hu)
theorem op_ninB (hu : X.A.units + 65 < cLine) : OpR X (compareOp .NotIn) (rInB X.K true) := orOp op_notIn_seq (op_notInD hu)
theorem o2_in {K : PySem.W.Frag} (neg : Bool) : Op2 K cl (dIn neg) (rInB K neg) := by
  intro H π st x y vx vy Q Q0 hs rx ry h hq
  cases y with
  | tup ys =>
    simp only [RV] at ry
    obtain ⟨a, vs, rfl, t, r⟩ := ry
    obtain ⟨h1, h2, h3⟩ := h
    have e := in_rv rx h1 r h2
    refine .inl ⟨a, vs, rfl, .inr t, flat_rv rx h1, all_rv r h2, ?_⟩
    rw [e]
    exact hq.self hs (by simp only [RV]) h3
  | ref n =>
    unfold dIn at h
    dsimp only at h
    split at h
    · rename_i ys e0
      simp only [RV] at ry
      obtain ⟨a, rfl, ha⟩ := ry
      rcases h with ⟨h1, h2, h3⟩ | ⟨d, ds, h1, h2, h3, h4, h5⟩
      · obtain ⟨b, vs, q1, q2, q3⟩ := hs.seq e0
        rw [ha] at q1; cases q1
        have e := in_rv rx h1 q3 h2
        refine .inl ⟨a, vs, rfl, .inl q2, flat_rv rx h1, all_rv q3 h2, ?_⟩
        rw [e]
        exact hq.self hs (by simp only [RV]) h3
      · have d1 := dp_of hs 30 x vx d h1 rx
        have d2 := dp_of hs 30 (.ref n) (.ref a) (.list ds) h2 (by simp only [RV]; exact ⟨a, rfl, ha⟩)
        have q3 := hq.self hs (v := .bl (if neg then !ds.any fun z => PyData.eqv z d else ds.any fun z => PyData.eqv z d)) (by simp only [RV]) h5
        refine .inr ?_
        cases neg with
        | true => exact ⟨d, ds, d1, d2, h3, h4, q3⟩
        | false => exact ⟨d, ds, d1, d2, h3, h4, q3⟩
    · exact h.elim
  | _ => exact h.elim

/-! ### argument lists, tuples, lists -/
def aNil : XA := fun _ st Q _ => Q [] st
def aCons (x : XE) (r : XA) : XA := fun σ st Q R => x σ st (fun d st1 => r σ st1 (fun ds st2 => Q (d :: ds) st2) R) R
theorem ma_nil : PA X [] (LA X.K cl W aNil) := imA pa_nil fun σV H Q ⟨π, σ, st, Q0, R0, hs, he, hx, hq, _⟩ => hq [] st H π [] hx Ext.refl hs .nil
theorem cons_imp {K : PySem.W.Frag} {a : XE} {b : XA} {σV : St} {H : Hp} {Q : List V → Hp → Prop} (h : LA K cl W (aCons a b) σV H Q) : tCons (LE K cl W a) (LA K cl W b) σV H Q := by
  obtain ⟨π, σ, st, Q0, R0, hs, he, hx, hq, hw⟩ := h
  refine ⟨π, σ, st, _, R0, hs, he, hx, fun x st1 H1 π1 vx h1 e1 s1 r1 => ?_, hw⟩
  refine ⟨π1, σ, st1, _, R0, s1, he.ext e1, h1, fun ys st2 H2 π2 vy h2 e2 s2 r2 => ?_, hw.ext e1⟩
  exact hq (x :: ys) st2 H2 π2 (vx :: vy) h2 (e1.trans e2) s2 (.cons (r1.ext e2) r2)
theorem ma_cons {e : Expr} {es : List Expr} {a : XE} {b : XA} (ha : PE X e (LE X.K cl W a)) (hb : PA X es (LA X.K cl W b)) (hs : starEach (e :: es) X.env = (false, eval e X.env) :: starEach es X.env := by rfl) :
    PA X (e :: es) (LA X.K cl W (aCons a b)) := imA (pa_cons ha hb hs) fun _ _ _ h => cons_imp h
def xTup (a : XA) : XE := fun σ st Q R => a σ st (fun ds st1 => ds.length ≤ 16777216 ∧ Q (.tup ds) st1) R
def xLst (a : XA) : XE := fun σ st Q R => a σ st (fun ds st1 => ds.length ≤ 16777216 ∧ Q (.ref st1.length) (st1 ++ [.lst ds])) R
theorem mp_tup {es : List Expr} {k : Nat} {pos : Pos} {a : XA} (h : PA X es (LA X.K cl W a)) : PE X (.Tuple es k pos) (LE X.K cl W (xTup a)) := by
  refine imE (pe_tup h) fun σV H Q ⟨π, σ, st, Q0, R0, hs, he, hx, hq, hw⟩ => ?_
  refine ⟨π, σ, st, _, R0, hs, he, hx, fun ds st1 H1 π1 vs h1 e1 s1 r1 => ⟨by rw [sizeLine_eq, r1.length]; exact h1.1, fun p hp => ?_⟩, hw⟩
  have e : Ext X.K cl H1 π1 (upd H1 p (.tup vs)) π1 := Ext.new0 hp
  exact hq _ _ _ π1 _ h1.2 (e1.trans e) (s1.new0 hp) (by simp only [RV]; exact ⟨p, vs, rfl, SqT.of upd_same, r1.ext e⟩)
theorem mp_lst {es : List Expr} {pos : Pos} {a : XA} (h : PA X es (LA X.K cl W a)) : PE X (.List es pos) (LE X.K cl W (xLst a)) := by
  refine imE (pe_lst h) fun σV H Q ⟨π, σ, st, Q0, R0, hs, he, hx, hq, hw⟩ => ?_
  refine ⟨π, σ, st, _, R0, hs, he, hx, fun ds st1 H1 π1 vs h1 e1 s1 r1 => ⟨by rw [sizeLine_eq, r1.length]; exact h1.1, fun p hp => ?_⟩, hw⟩
  exact hq _ _ _ (π1 ++ [p]) _ h1.2 (e1.trans (Ext.new hp [p])) (s1.push hp r1) (by simp only [RV]; exact ⟨p, rfl, by rw [← s1.len, List.getElem?_append_right (Nat.le_refl _), Nat.sub_self]; rfl⟩)

/-! ### places -/
theorem atI_rv {K : PySem.W.Frag} {H : Hp} {π : List Addr} {ds : List D} {vs : List V} {i : Int} {d : D} (r : RVs K cl H π ds vs) (h : atI ds i = some d) : ∃ v, atI vs i = some v ∧ RV K cl H π d v := by
  unfold atI at h ⊢
  rw [r.length]
  cases e : ixN ds.length i with
  | none => rw [e] at h; cases h
  | some j =>
    rw [e] at h
    obtain ⟨v, h1, h2⟩ := r.get (i := j) (d := d) (by simpa using h)
    exact ⟨v, by simpa using h1, h2⟩
def dIdx : XO2 := fun x y st Q => match x, y with
  | .tup xs, .int i => match atI xs i with
    | some d => Q d st
    | none => False
  | .ref n, .int i => match itemsOf st n with
    | some xs => match atI xs i with
      | some d => Q d st
      | none => False
    | none => False
  | _, _ => False
theorem o2_idx {K : PySem.W.Frag} : Op2 K cl dIdx (fun x y H Q => rIxL K x y H Q ∨ rIxT K x y H Q) := by
  intro H π st x y vx vy Q Q0 hs rx ry h hq
  cases x with
  | tup xs =>
    cases y with
    | int i =>
      unfold dIdx at h
      dsimp only at h
      split at h
      · rename_i d e
        simp only [RV] at rx ry
        obtain ⟨a, vs, rfl, t, r⟩ := rx
        obtain ⟨v, q1, q2⟩ := atI_rv r e
        exact .inr ⟨a, vs, i, v, rfl, ry, t, q1, hq.self hs q2 h⟩
      · exact h.elim
    | _ => exact h.elim
  | ref n =>
    cases y with
    | int i =>
      unfold dIdx at h
      dsimp only at h
      split at h
      · rename_i xs e0
        split at h
        · rename_i d e
          simp only [RV] at rx ry
          obtain ⟨a, rfl, ha⟩ := rx
          obtain ⟨b, vs, p1, p2, p3⟩ := hs.seq e0
          rw [ha] at p1; cases p1
          obtain ⟨v, q1, q2⟩ := atI_rv p3 e
          exact .inl ⟨a, vs, i, v, rfl, ry, p2, q1, hq.self hs q2 h⟩
        · exact h.elim
      · exact h.elim
    | _ => exact h.elim
  | _ => cases y <;> exact h.elim
theorem mp_idx {a b : Expr} {pos : Pos} {xa xb : XE} (ha : PE X a (LE X.K cl W xa)) (hb : PE X b (LE X.K cl W xb)) (hs : PlainIx b := by exact fun _ _ => rfl) :
    PE X (.Subscript a b pos) (LE X.K cl W (xBin dIdx xa xb)) := imE (pe_ix (ix_list.or ix_tup) ha hb hs) fun _ _ _ h => bin_imp o2_idx h

/-- a part of a slice -/
abbrev XO := Env → Store → (Option Int → Store → Prop) → XR → Prop
def oNone : XO := fun _ st Q _ => Q none st
def oSome (x : XE) : XO := fun σ st Q R => x σ st (fun d st1 => match d with
  | .int i => Q (some i) st1
  | _ => False) R
theorem mo_none : PO X none (LO X.K cl W oNone) := imO po_none fun σV H Q ⟨π, σ, st, Q0, R0, hs, he, hx, hq, _⟩ => hq none st H π hx Ext.refl hs
theorem mo_some {e : Expr} {x : XE} (h : PE X e (LE X.K cl W x)) : PO X (some e) (LO X.K cl W (oSome x)) := by
  refine imO (po_some h) fun σV H Q ⟨π, σ, st, Q0, R0, hs, he, hx, hq, hw⟩ => ?_
  refine ⟨π, σ, st, _, R0, hs, he, hx, fun d st1 H1 π1 v h1 e1 s1 r1 => ?_, hw⟩
  cases d with
  | int i =>
    simp only [RV] at r1
    exact ⟨i, r1, hq (some i) st1 H1 π1 h1 e1 s1⟩
  | _ => exact h1.elim
def cutD (xs : List D) (lo hi : Option Int) : List D := (xs.drop (HT.sIx xs.length 0 lo)).take (HT.sIx xs.length xs.length hi - HT.sIx xs.length 0 lo)
theorem cut_rv {K : PySem.W.Frag} {H : Hp} {π : List Addr} {ds : List D} {vs : List V} (r : RVs K cl H π ds vs) (lo hi : Option Int) : RVs K cl H π (cutD ds lo hi) (cutV vs lo hi) := by
  unfold cutD cutV
  rw [r.length]
  exact (r.drop _).take _
def xSl (x : XE) (l h : XO) : XE := fun σ st Q R => x σ st (fun d st1 => l σ st1 (fun lo st2 => h σ st2 (fun hi st3 => match d with
  | .tup xs => ¬ (HT.sIx xs.length 0 lo = 0 ∧ HT.sIx xs.length xs.length hi = xs.length) ∧ Q (.tup (cutD xs lo hi)) st3
  | .ref n => match itemsOf st3 n with
    | some xs => Q (.ref st3.length) (st3 ++ [.lst (cutD xs lo hi)])
    | none => False
  | _ => False) R) R) R
theorem mp_sl {e : Expr} {lo hi : Option Expr} {p2 pos : Pos} {x : XE} {l h : XO} (he : PE X e (LE X.K cl W x)) (hl : PO X lo (LO X.K cl W l)) (hh : PO X hi (LO X.K cl W h)) :
    PE X (.Subscript e (.Slice lo hi none p2) pos) (LE X.K cl W (xSl x l h)) := by
  refine imE (pe_slice (SlR.or sl_tup sl_list) he hl hh) fun σV H Q ⟨π, σ, st, Q0, R0, hs, he, hx, hq, hw⟩ => ?_
  refine ⟨π, σ, st, _, R0, hs, he, hx, fun d st1 H1 π1 v h1 e1 s1 r1 => ?_, hw⟩
  refine ⟨π1, σ, st1, _, R0, s1, he.ext e1, h1, fun o1 st2 H2 π2 h2 e2 s2 => ?_, hw.ext e1⟩
  refine ⟨π2, σ, st2, _, R0, s2, (he.ext e1).ext e2, h2, fun o2 st3 H3 π3 h3 e3 s3 => ?_, (hw.ext e1).ext e2⟩
  have r3 := r1.ext (e2.trans e3)
  have ee := (e1.trans e2).trans e3
  cases d with
  | tup xs =>
    simp only [RV] at r3
    obtain ⟨a, vs, rfl, t, r⟩ := r3
    refine .inl ⟨a, vs, rfl, t, by rw [r.length]; exact h3.1, fun p hp => ?_⟩
    have e : Ext X.K cl H3 π3 (upd H3 p (.tup (cutV vs o1 o2))) π3 := Ext.new0 hp
    exact hq _ _ _ π3 _ h3.2 (ee.trans e) (s3.new0 hp) (by simp only [RV]; exact ⟨p, _, rfl, SqT.of upd_same, (cut_rv r _ _).ext e⟩)
  | ref n =>
    dsimp only at h3
    split at h3
    · rename_i xs e0
      simp only [RV] at r3
      obtain ⟨a, rfl, ha⟩ := r3
      obtain ⟨b, vs, p1, p2, p3⟩ := s3.seq e0
      rw [ha] at p1; cases p1
      refine .inr ⟨a, vs, rfl, p2, fun p hp => ?_⟩
      exact hq _ _ _ (π3 ++ [p]) _ h3 (ee.trans (Ext.new hp [p])) (s3.push hp (cut_rv p3 _ _)) (by simp only [RV]; exact ⟨p, rfl, by rw [← s3.len, List.getElem?_append_right (Nat.le_refl _), Nat.sub_self]; rfl⟩)
    · exact h3.elim
  | _ => exact h3.elim

/-! ### truth -/
def truD (st : Store) : D → Option Bool
  | .non => some false
  | .bl b => some b
  | .int i => some (i != 0)
  | .str s => if s.length ≤ 16777216 then some ((s.length : Int) != 0) else none
  | .tup xs => some (!xs.isEmpty)
  | .ref n => match itemsOf st n with
    | some xs => some (!xs.isEmpty)
    | none => none
  | .exc _ => none
  | .clo _ _ _ _ _ => none
  | .met _ _ => none
theorem tru_rv {K : PySem.W.Frag} {H : Hp} {π : List Addr} {st : Store} {d : D} {v : V} {b : Bool} (hs : SR K cl H π st) (r : RV K cl H π d v) (h : truD st d = some b) : TruV K v H b := by
  have emp : ∀ {ds : List D} {vs : List V}, RVs K cl H π ds vs → vs.isEmpty = ds.isEmpty := fun {ds vs} q => by
    have := q.length
    cases ds <;> cases vs <;> simp at this <;> rfl
  cases d with
  | non => simp only [RV] at r; subst r; simp only [truD, Option.some.injEq] at h; show b = false; exact h.symm
  | bl c => simp only [RV] at r; subst r; simp only [truD, Option.some.injEq] at h; show b = c; exact h.symm
  | int i => simp only [RV] at r; subst r; simp only [truD, Option.some.injEq] at h; exact h.symm
  | str s =>
    simp only [RV] at r; subst r
    simp only [truD] at h
    split at h
    · rename_i hl
      cases h
      exact ⟨by rw [sizeLine_eq]; exact hl, rfl⟩
    · cases h
  | tup xs =>
    simp only [RV] at r
    obtain ⟨a, vs, rfl, t, r⟩ := r
    simp only [truD, Option.some.injEq] at h
    exact .inr (.inl ⟨vs, t, by rw [emp r]; exact h.symm⟩)
  | ref n =>
    simp only [RV] at r
    obtain ⟨a, rfl, ha⟩ := r
    simp only [truD] at h
    split at h
    · rename_i xs e0
      cases h
      obtain ⟨b, vs, p1, p2, p3⟩ := hs.seq e0
      rw [ha] at p1; cases p1
      exact .inl ⟨vs, p2, by rw [emp p3]⟩
    · cases h
  | exc k => cases h
  | clo n f c ws caps => cases h
  | met g o => cases h
def xTru (x : XE) : XT := fun σ st Q R => x σ st (fun d st' => match truD st' d with
  | some b => Q b st'
  | none => False) R
theorem mt_tru {a : Expr} {x : XE} (ha : PE X a (LE X.K cl W x)) (he : ∀ whole, isTrue a X.env whole = (do let v ← whole; standAt a.pos; holding [v] (truthy v)) := by intro _; rfl) : PT X a (LT X.K cl W (xTru x)) := by
  refine imT (pt_truth ha he) fun σV H Q ⟨π, σ, st, Q0, R0, hs, he, hx, hq, hw⟩ => ?_
  refine ⟨π, σ, st, _, R0, hs, he, hx, fun d st1 H1 π1 v h1 e1 s1 r1 => ?_, hw⟩
  dsimp only at h1
  split at h1
  · rename_i b e0
    exact ⟨b, tru_rv s1 r1 e0, hq b st1 H1 π1 h1 e1 s1⟩
  · exact h1.elim
/-- tests: and, or, not -/
def tAndX (a b : XT) : XT := fun σ st Q R => a σ st (fun c st1 => if c = true then b σ st1 Q R else Q false st1) R
def tOrX (a b : XT) : XT := fun σ st Q R => a σ st (fun c st1 => if c = true then Q true st1 else b σ st1 Q R) R
def tNotX (a : XT) : XT := fun σ st Q R => a σ st (fun c st1 => Q (!c) st1) R
abbrev MW (X : Cx) (cl : CL) (W : WX) (e : Expr) (x : XT) : Prop := PW X e (LT X.K cl W x)
theorem imW {X : Cx} {e : Expr} {t t' : TT} (h : PW X e t) (i : ∀ σ H Q, t' σ H Q → t σ H Q) : PW X e t' :=
  ⟨fun wh pins s σ H Q I q => h.run wh pins s σ H Q I (i _ _ _ q)⟩
theorem mw_and1 {a : Expr} {pos : Pos} {x : XT} (h : PT X a (LT X.K cl W x)) : PW X (.BoolOp .And [a] pos) (LT X.K cl W x) := pw_and1 h
theorem mw_or1 {a : Expr} {pos : Pos} {x : XT} (h : PT X a (LT X.K cl W x)) : PW X (.BoolOp .Or [a] pos) (LT X.K cl W x) := pw_or1 h
theorem mw_and {a b : Expr} {rest : List Expr} {pos : Pos} {x y : XT} (ha : PT X a (LT X.K cl W x)) (hb : PW X (.BoolOp .And (b :: rest) pos) (LT X.K cl W y)) : PW X (.BoolOp .And (a :: b :: rest) pos) (LT X.K cl W (tAndX x y)) := by
  refine imW (pw_and ha hb) fun σV H Q ⟨π, σ, st, Q0, R0, hs, he, hx, hq, hw⟩ => ?_
  refine ⟨π, σ, st, _, R0, hs, he, hx, fun c st1 H1 π1 h1 e1 s1 => ?_, hw⟩
  cases c with
  | true => exact iteT ⟨π1, σ, st1, Q0, R0, s1, he.ext e1, by simpa using h1, fun b st2 H2 π2 h2 e2 s2 => hq b st2 H2 π2 h2 (e1.trans e2) s2, hw.ext e1⟩
  | false => exact iteF (hq false st1 H1 π1 (by simpa using h1) e1 s1)
theorem mw_or {a b : Expr} {rest : List Expr} {pos : Pos} {x y : XT} (ha : PT X a (LT X.K cl W x)) (hb : PW X (.BoolOp .Or (b :: rest) pos) (LT X.K cl W y)) : PW X (.BoolOp .Or (a :: b :: rest) pos) (LT X.K cl W (tOrX x y)) := by
  refine imW (pw_or ha hb) fun σV H Q ⟨π, σ, st, Q0, R0, hs, he, hx, hq, hw⟩ => ?_
  refine ⟨π, σ, st, _, R0, hs, he, hx, fun c st1 H1 π1 h1 e1 s1 => ?_, hw⟩
  cases c with
  | false => exact iteF ⟨π1, σ, st1, Q0, R0, s1, he.ext e1, by simpa using h1, fun b st2 H2 π2 h2 e2 s2 => hq b st2 H2 π2 h2 (e1.trans e2) s2, hw.ext e1⟩
  | true => exact iteT (hq true st1 H1 π1 (by simpa using h1) e1 s1)
theorem mt_not {a : Expr} {pos : Pos} {x : XT} (ha : PT X a (LT X.K cl W x)) : PT X (.UnaryOp .Not a pos) (LT X.K cl W (tNotX x)) := by
  refine imT (pt_not ha) fun σV H Q ⟨π, σ, st, Q0, R0, hs, he, hx, hq, hw⟩ => ?_
  exact ⟨π, σ, st, _, R0, hs, he, hx, fun c st1 H1 π1 h1 e1 s1 => hq _ st1 H1 π1 h1 e1 s1, hw⟩
/-- values: and, or, not, by truth -/
def xAnd (a b : XE) : XE := fun σ st Q R => a σ st (fun d st1 => match truD st1 d with
  | some true => b σ st1 Q R
  | some false => Q d st1
  | none => False) R
def xOr (a b : XE) : XE := fun σ st Q R => a σ st (fun d st1 => match truD st1 d with
  | some false => b σ st1 Q R
  | some true => Q d st1
  | none => False) R
def xNot (a : XE) : XE := fun σ st Q R => a σ st (fun d st1 => match truD st1 d with
  | some b => Q (.bl (!b)) st1
  | none => False) R
theorem mp_one {op : BoolOp} {a : Expr} {pos : Pos} {x : XE} (h : PE X a (LE X.K cl W x)) : PE X (.BoolOp op [a] pos) (LE X.K cl W x) := pe_one h
theorem mp_and {a b : Expr} {rest : List Expr} {pos : Pos} {x y : XE} (ha : PE X a (LE X.K cl W x)) (hb : PE X (.BoolOp .And (b :: rest) pos) (LE X.K cl W y)) : PE X (.BoolOp .And (a :: b :: rest) pos) (LE X.K cl W (xAnd x y)) := by
  refine imE (pe_andT ha hb) fun σV H Q ⟨π, σ, st, Q0, R0, hs, he, hx, hq, hw⟩ => ?_
  refine ⟨π, σ, st, _, R0, hs, he, hx, fun d st1 H1 π1 v h1 e1 s1 r1 => ?_, hw⟩
  dsimp only at h1
  split at h1
  · rename_i e0
    exact ⟨true, tru_rv s1 r1 e0, iteT ⟨π1, σ, st1, Q0, R0, s1, he.ext e1, h1, hq.ext e1, hw.ext e1⟩⟩
  · rename_i e0
    exact ⟨false, tru_rv s1 r1 e0, iteF (hq d st1 H1 π1 v h1 e1 s1 r1)⟩
  · exact h1.elim
theorem mp_or {a b : Expr} {rest : List Expr} {pos : Pos} {x y : XE} (ha : PE X a (LE X.K cl W x)) (hb : PE X (.BoolOp .Or (b :: rest) pos) (LE X.K cl W y)) : PE X (.BoolOp .Or (a :: b :: rest) pos) (LE X.K cl W (xOr x y)) := by
  refine imE (pe_orT ha hb) fun σV H Q ⟨π, σ, st, Q0, R0, hs, he, hx, hq, hw⟩ => ?_
  refine ⟨π, σ, st, _, R0, hs, he, hx, fun d st1 H1 π1 v h1 e1 s1 r1 => ?_, hw⟩
  dsimp only at h1
  split at h1
  · rename_i e0
    exact ⟨false, tru_rv s1 r1 e0, iteF ⟨π1, σ, st1, Q0, R0, s1, he.ext e1, h1, hq.ext e1, hw.ext e1⟩⟩
  · rename_i e0
    exact ⟨true, tru_rv s1 r1 e0, iteT (hq d st1 H1 π1 v h1 e1 s1 r1)⟩
  · exact h1.elim
theorem mp_not {a : Expr} {pos : Pos} {x : XE} (ha : PE X a (LE X.K cl W x)) : PE X (.UnaryOp .Not a pos) (LE X.K cl W (xNot x)) := by
  refine imE (pe_notT ha) fun σV H Q ⟨π, σ, st, Q0, R0, hs, he, hx, hq, hw⟩ => ?_
  refine ⟨π, σ, st, _, R0, hs, he, hx, fun d st1 H1 π1 v h1 e1 s1 r1 => ?_, hw⟩
  dsimp only at h1
  split at h1
  · rename_i b e0
    exact ⟨b, tru_rv s1 r1 e0, hq _ st1 H1 π1 _ h1 e1 s1 (by simp only [RV])⟩
  · exact h1.elim
/-- a if t else b -/
def xIf (t : XT) (a b : XE) : XE := fun σ st Q R => t σ st (fun c st1 => if c = true then a σ st1 Q R else b σ st1 Q R) R
theorem mp_if {c a b : Expr} {pos : Pos} {t : XT} {x y : XE} (hc : PT X c (LT X.K cl W t)) (ha : PE X a (LE X.K cl W x)) (hb : PE X b (LE X.K cl W y)) : PE X (.IfExp c a b pos) (LE X.K cl W (xIf t x y)) := by
  refine imE (pe_ifExp hc ha hb) fun σV H Q ⟨π, σ, st, Q0, R0, hs, he, hx, hq, hw⟩ => ?_
  refine ⟨π, σ, st, _, R0, hs, he, hx, fun d st1 H1 π1 h1 e1 s1 => ?_, hw⟩
  cases d with
  | true => exact iteT ⟨π1, σ, st1, Q0, R0, s1, he.ext e1, by simpa using h1, hq.ext e1, hw.ext e1⟩
  | false => exact iteF ⟨π1, σ, st1, Q0, R0, s1, he.ext e1, by simpa using h1, hq.ext e1, hw.ext e1⟩
/-- -x -/
def dNeg (x : XE) : XE := fun σ st Q R => x σ st (fun d st1 => match d with
  | .int i => Q (.int (-i)) st1
  | _ => False) R
theorem mp_neg {a : Expr} {pos : Pos} {x : XE} (ha : PE X a (LE X.K cl W x)) : PE X (.UnaryOp .USub a pos) (LE X.K cl W (dNeg x)) := by
  refine imE (pe_un un_neg ha) fun σV H Q ⟨π, σ, st, Q0, R0, hs, he, hx, hq, hw⟩ => ?_
  refine ⟨π, σ, st, _, R0, hs, he, hx, fun d st1 H1 π1 v h1 e1 s1 r1 => ?_, hw⟩
  cases d with
  | int i =>
    simp only [RV] at r1
    exact ⟨i, r1, hq _ st1 H1 π1 _ h1 e1 s1 (by simp only [RV])⟩
  | _ => exact h1.elim
end
end MP

namespace MP
open PySem L2

/-! ### calls of own defs -/
def xCall (F : XF) (a : XA) : XE := fun σ st Q R => a σ st (fun ds st1 => F ds st1 Q R) R
/-- what a def of the program promises: its meaning F over the store -/
def spX (K : PySem.W.Frag) (cl : CL) (F : XF) (n : Nat) : Sp := fun vs H Q E => ∃ π ds st Q0 R0, SR K cl H π st ∧ RVs K cl H π ds vs ∧ ds.length = n ∧ F ds st Q0 R0 ∧ QW K cl H π Q Q0 ∧
  ∀ c st' H' π', R0 c st' → Ext K cl H π H' π' → SR K cl H' π' st' → E (.ref (cl c)) none H'
section
variable {X : Cx} {cl : CL} {W : WX}
theorem call_imp {K : PySem.W.Frag} {F : XF} {n : Nat} {a : XA} {σV : St} {H : Hp} {Q : VK} (hn : ∀ ds st Q R, F ds st Q R → ds.length = n) (h : LE K cl W (xCall F a) σV H Q) : tCallS (spX K cl F n) (WE W) (LA K cl W a) σV H Q := by
  obtain ⟨π, σ, st, Q0, R0, hs, he, hx, hq, hw⟩ := h
  refine ⟨π, σ, st, _, R0, hs, he, hx, fun ds st1 H1 π1 vs h1 e1 s1 r1 => ?_, hw⟩
  exact ⟨π1, ds, st1, Q0, R0, s1, r1, hn _ _ _ _ h1, h1, hq.ext e1, fun c st' H' π' q e2 s2 => hw c st' H' π' q (e1.trans e2) s2⟩
theorem mp_call {F : XF} {n k : Nat} {f : Addr} {fd : FuncData} {ps : List Str} {x : Str} {p pos : Pos} {e : Expr} {es : List Expr} {a : XA} (G : FnOk X.prog X.w X.K X.mg X.base (L2.CX X.prog X.w) k f fd ps (spX X.K cl F n)) (hn : ∀ ds st Q R, F ds st Q R → ds.length = n)
    (hr : Room k X.A) (hm : X.mg x = some (.ref f)) (hk : PySem.W.keepIn X.K (.ref f) = true) (hb : Binds X.K fd ps []) (tk : Takes X W) (ha : PA X (e :: es) (LA X.K cl W a)) (hg : Gl X x := by rfl)
    (hdb : (x == ("__debug__" : Str)) = false := by decide) (he : starEach (e :: es) X.env = (false, eval e X.env) :: starEach es X.env := by rfl) (hpl : (backTo pos (starEach es X.env)).any (·.1) = false := by rfl) :
    PE X (.Call (.Name x p) (e :: es) [] pos) (LE X.K cl W (xCall F a)) :=
  imE (pe_callS G hr hg hm hk hb (fun σ => passAt tk σ) ha hdb he hpl) fun _ _ _ h => call_imp hn h
theorem mp_call0 {F : XF} {k : Nat} {f : Addr} {fd : FuncData} {ps : List Str} {x : Str} {p pos : Pos} (G : FnOk X.prog X.w X.K X.mg X.base (L2.CX X.prog X.w) k f fd ps (spX X.K cl F 0))
    (hr : Room k X.A) (hm : X.mg x = some (.ref f)) (hk : PySem.W.keepIn X.K (.ref f) = true) (hb : Binds X.K fd ps []) (tk : Takes X W) (hg : Gl X x := by rfl)
    (hdb : (x == ("__debug__" : Str)) = false := by decide) :
    PE X (.Call (.Name x p) [] [] pos) (LE X.K cl W (xCall F aNil)) := by
  refine ⟨fun pins s σV H Q I h => ?_⟩
  obtain ⟨π, σ, st, Q0, R0, hs, he, hx, hq, hw⟩ := h
  refine wpAny_Call_Name_kw (ld_glob I hg hm ?_ hdb)
  exact PySem.W.callWith_K0 I.kIn hk (run_fnS (vs := []) G hr hb (passAt tk σV) I .nil ⟨π, [], st, Q0, R0, hs, .nil, rfl, hx, hq, fun c st' H' π' q e2 s2 => hw c st' H' π' q e2 s2⟩)

/-! ### built-ins -/
def xFun (f : List D → Store → (D → Store → Prop) → Prop) (a : XA) : XE := fun σ st Q R => a σ st (fun ds st1 => f ds st1 Q) R
def FunR (K : PySem.W.Frag) (cl : CL) (f : List D → Store → (D → Store → Prop) → Prop) (r : List V → Hp → VK → Prop) : Prop :=
  ∀ H π st ds vs Q Q0, SR K cl H π st → RVs K cl H π ds vs → f ds st Q0 → QW K cl H π Q Q0 → r vs H Q
theorem fun_imp {K : PySem.W.Frag} {f : List D → Store → (D → Store → Prop) → Prop} {r : List V → Hp → VK → Prop} {a : XA} (hr : FunR K cl f r) {σV : St} {H : Hp} {Q : VK} (h : LE K cl W (xFun f a) σV H Q) : tCB r (LA K cl W a) σV H Q := by
  obtain ⟨π, σ, st, Q0, R0, hs, he, hx, hq, hw⟩ := h
  exact ⟨π, σ, st, _, R0, hs, he, hx, fun ds st1 H1 π1 vs h1 e1 s1 r1 => hr H1 π1 st1 ds vs Q Q0 s1 r1 h1 (hq.ext e1), hw⟩
theorem mp_fun {id : String} {f : List D → Store → (D → Store → Prop) → Prop} {r : List V → Hp → VK → Prop} {x : Str} {p pos : Pos} {e : Expr} {es : List Expr} {a : XA} (hc : CallR X (.builtin id) r) (hr : FunR X.K cl f r) (hm : X.mg x = none) (hv : bootBuiltins x = some (.builtin id))
    (ha : PA X (e :: es) (LA X.K cl W a)) (hg : Gl X x := by rfl) (hn : x ≠ "__name__" := by decide) (hdb : (x == ("__debug__" : Str)) = false := by decide)
    (he : starEach (e :: es) X.env = (false, eval e X.env) :: starEach es X.env := by rfl) (hpl : (backTo pos (starEach es X.env)).any (·.1) = false := by rfl) :
    PE X (.Call (.Name x p) (e :: es) [] pos) (LE X.K cl W (xFun f a)) := imE (pe_callB hc hg hm hv ha hn hdb he hpl) fun _ _ _ h => fun_imp hr h
theorem mp_funT {id : String} {f : List D → Store → (D → Store → Prop) → Prop} {r : List V → Hp → VK → Prop} {x : Str} {p pos : Pos} {e : Expr} {es : List Expr} {a : XA} (hc : CallR X (.type id) r) (hr : FunR X.K cl f r) (hm : X.mg x = none) (hv : bootBuiltins x = some (.type id))
    (ha : PA X (e :: es) (LA X.K cl W a)) (hg : Gl X x := by rfl) (hn : x ≠ "__name__" := by decide) (hdb : (x == ("__debug__" : Str)) = false := by decide)
    (he : starEach (e :: es) X.env = (false, eval e X.env) :: starEach es X.env := by rfl) (hpl : (backTo pos (starEach es X.env)).any (·.1) = false := by rfl) :
    PE X (.Call (.Name x p) (e :: es) [] pos) (LE X.K cl W (xFun f a)) := imE (pe_callTy hc hg hm hv ha hn hdb he hpl) fun _ _ _ h => fun_imp hr h

/-- what stands in a list or tuple -/
def seqD (st : Store) : D → Option (List D)
  | .tup xs => some xs
  | .ref n => itemsOf st n
  | _ => none
theorem seq_rv {K : PySem.W.Frag} {H : Hp} {π : List Addr} {st : Store} {d : D} {v : V} {xs : List D} (hs : SR K cl H π st) (r : RV K cl H π d v) (h : seqD st d = some xs) :
    ∃ a vs, v = .ref a ∧ (SqL K H a vs ∨ SqT K H a vs) ∧ RVs K cl H π xs vs := by
  cases d with
  | tup ys =>
    simp only [RV] at r
    obtain ⟨a, vs, rfl, t, r⟩ := r
    cases h
    exact ⟨a, vs, rfl, .inr t, r⟩
  | ref n =>
    simp only [RV] at r
    obtain ⟨a, rfl, ha⟩ := r
    obtain ⟨b, vs, q1, q2, q3⟩ := hs.seq h
    rw [ha] at q1; cases q1
    exact ⟨a, vs, rfl, .inl q2, q3⟩
  | _ => cases h
theorem RVs.one {K : PySem.W.Frag} {H : Hp} {π : List Addr} {d : D} {vs : List V} (h : RVs K cl H π [d] vs) : ∃ v, vs = [v] ∧ RV K cl H π d v := by
  obtain ⟨v, r, rfl, h1, h2⟩ := h.un
  rw [h2.un0]
  exact ⟨v, rfl, h1⟩
/-- len(x) -/
def fLen : List D → Store → (D → Store → Prop) → Prop := fun ds st Q => match ds with
  | [d] => match seqD st d with
    | some xs => Q (.int xs.length) st
    | none => False
  | _ => False
theorem fr_len {K : PySem.W.Frag} : FunR K cl fLen (fun xs H Q => ∃ p ys, xs = [.ref p] ∧ (SqL K H p ys ∨ SqT K H p ys) ∧ Q (.int ys.length) H) := by
  intro H π st ds vs Q Q0 hs r h hq
  match ds, h with
  | [d], h =>
    unfold fLen at h
    dsimp only at h
    split at h
    · rename_i xs e
      obtain ⟨v, rfl, r1⟩ := r.one
      obtain ⟨a, ws, rfl, q1, q2⟩ := seq_rv hs r1 e
      exact ⟨a, ws, rfl, q1, hq.self hs (by simp only [RV]; rw [q2.length]) h⟩
    · exact h.elim
/-- list(x), tuple(x) -/
def fList : List D → Store → (D → Store → Prop) → Prop := fun ds st Q => match ds with
  | [d] => match seqD st d with
    | some xs => Q (.ref st.length) (st ++ [.lst xs])
    | none => False
  | _ => False
theorem fr_list {K : PySem.W.Frag} : FunR K cl fList (fun xs H Q => ∃ p ys, xs = [.ref p] ∧ (SqL K H p ys ∨ SqT K H p ys) ∧ ∀ l, H l = none → Q (.ref l) (upd H l (.lst ys))) := by
  intro H π st ds vs Q Q0 hs r h hq
  match ds, h with
  | [d], h =>
    unfold fList at h
    dsimp only at h
    split at h
    · rename_i xs e
      obtain ⟨v, rfl, r1⟩ := r.one
      obtain ⟨a, ws, rfl, q1, q2⟩ := seq_rv hs r1 e
      refine ⟨a, ws, rfl, q1, fun p hp => ?_⟩
      exact hq _ _ _ (π ++ [p]) _ h (Ext.new hp [p]) (hs.push hp q2) (by simp only [RV]; exact ⟨p, rfl, by rw [← hs.len, List.getElem?_append_right (Nat.le_refl _), Nat.sub_self]; rfl⟩)
    · exact h.elim
def fTuple : List D → Store → (D → Store → Prop) → Prop := fun ds st Q => match ds with
  | [d] => match seqD st d with
    | some xs => Q (.tup xs) st
    | none => False
  | _ => False
theorem fr_tuple {K : PySem.W.Frag} : FunR K cl fTuple (fun xs H Q => ∃ p ys, xs = [.ref p] ∧ ((SqL K H p ys ∧ ∀ l, H l = none → Q (.ref l) (upd H l (.tup ys))) ∨ (SqT K H p ys ∧ Q (.ref p) H))) := by
  intro H π st ds vs Q Q0 hs r h hq
  match ds, h with
  | [d], h =>
    unfold fTuple at h
    dsimp only at h
    split at h
    · rename_i xs e
      obtain ⟨v, rfl, r1⟩ := r.one
      obtain ⟨a, ws, rfl, q1, q2⟩ := seq_rv hs r1 e
      refine ⟨a, ws, rfl, q1.elim (fun q1 => .inl ⟨q1, fun p hp => ?_⟩) fun q1 => .inr ⟨q1, ?_⟩⟩
      · have e : Ext K cl H π (upd H p (.tup ws)) π := Ext.new0 hp
        exact hq _ _ _ π _ h e (hs.new0 hp) (by simp only [RV]; exact ⟨p, ws, rfl, SqT.of upd_same, q2.ext e⟩)
      · exact hq.self hs (by simp only [RV]; exact ⟨a, ws, rfl, q1, q2⟩) h
    · exact h.elim
/-- the ints of a list -/
def intsD : List D → Option (List Int)
  | [] => some []
  | .int i :: r => match intsD r with
    | some l => some (i :: l)
    | none => none
  | _ :: _ => none
theorem ints_rv {K : PySem.W.Frag} {H : Hp} {π : List Addr} : ∀ {ds : List D} {vs : List V} {ns : List Int}, intsD ds = some ns → RVs K cl H π ds vs → vs = ns.map V.int
  | [], _, _, h, r => by simp [intsD] at h; subst h; rw [r.un0]; rfl
  | .int i :: ds, _, _, h, r => by
    simp only [intsD] at h
    split at h
    · rename_i l e
      cases h
      obtain ⟨v, q, rfl, r1, r2⟩ := r.un
      simp only [RV] at r1
      rw [r1, ints_rv e r2]; rfl
    · cases h
  | .non :: _, _, _, h, _ => by simp [intsD] at h
  | .bl _ :: _, _, _, h, _ => by simp [intsD] at h
  | .str _ :: _, _, _, h, _ => by simp [intsD] at h
  | .tup _ :: _, _, _, h, _ => by simp [intsD] at h
  | .ref _ :: _, _, _, h, _ => by simp [intsD] at h
  | .exc _ :: _, _, _, h, _ => by simp [intsD] at h
  | .clo _ _ _ _ _ :: _, _, _, h, _ => by simp [intsD] at h
  | .met _ _ :: _, _, _, h, _ => by simp [intsD] at h
/-- sum(x) of ints -/
def fSum : List D → Store → (D → Store → Prop) → Prop := fun ds st Q => match ds with
  | [d] => match seqD st d with
    | some xs => match intsD xs with
      | some ns => Q (.int ns.sum) st
      | none => False
    | none => False
  | _ => False
def rSumD (K : PySem.W.Frag) : List V → Hp → VK → Prop := fun vs H Q => ∃ (a : Addr) (ns : List Int), vs = [V.ref a] ∧ (SqL K H a (ns.map V.int) ∨ SqT K H a (ns.map V.int)) ∧ Q (.int ns.sum) H
theorem cr_sumD (hc : X.calm = true) : CallR X (.builtin "sum") (rSumD X.K) := by
  intro pins s σ H vs us Q I r h
  obtain ⟨a, ns, rfl, hs | ht, q⟩ := h
  · exact cr_sum hc pins s σ H _ us Q I r ⟨a, ns, rfl, hs, q⟩
  · have hu := Vals.ref1 r
    subst hu
    obtain ⟨its, rv, tp, _⟩ := I.tuple ht
    have hi := rv.ints
    obtain ⟨xs, hx⟩ := hi.allInts.items
    have hn : PySem.numsOf its.toArray.toList = ns := by rw [show its.toArray.toList = its from rfl, hi.numsOf]
    have tp' : s.heap.IsTuple a its.toArray := tp
    rw [hx] at tp' hn
    rw [PySem.nums_intItems] at hn
    refine PySem.W.ktm_sumG (I.ok.hd hc) tp' fun h' tk t' hk => ?_
    rw [PySem.preSum_eq, List.take_of_length_le (by simp), hn]
    exact ⟨.int ns.sum, H, I.kept (t' := tk) hk, ⟨_, rfl⟩, q⟩
theorem fr_sum {K : PySem.W.Frag} : FunR K cl fSum (rSumD K) := by
  intro H π st ds vs Q Q0 hs r h hq
  match ds, h with
  | [d], h =>
    unfold fSum at h
    dsimp only at h
    split at h
    · rename_i xs e
      split at h
      · rename_i ns e2
        obtain ⟨v, rfl, r1⟩ := r.one
        obtain ⟨a, ws, rfl, q1, q2⟩ := seq_rv hs r1 e
        have := ints_rv e2 q2
        subst this
        exact ⟨a, ns, rfl, q1, hq.self hs (by simp only [RV]) h⟩
      · exact h.elim
    · exact h.elim
/-- min(xs), max(xs) of a list of ints -/
def fMin : List D → Store → (D → Store → Prop) → Prop := fun ds st Q => match ds with
  | [.ref n] => match itemsOf st n with
    | some xs => match intsD xs with
      | some ns => ∃ m, m ∈ ns ∧ (∀ y ∈ ns, m ≤ y) ∧ Q (.int m) st
      | none => False
    | none => False
  | _ => False
theorem fr_min {K : PySem.W.Frag} : FunR K cl fMin (rMin K) := by
  intro H π st ds vs Q Q0 hs r h hq
  match ds, h with
  | [.ref n], h =>
    unfold fMin at h
    dsimp only at h
    split at h
    · rename_i xs e
      split at h
      · rename_i ns e2
        obtain ⟨v, rfl, r1⟩ := r.one
        simp only [RV] at r1
        obtain ⟨a, rfl, ha⟩ := r1
        obtain ⟨b, ws, q1, q2, q3⟩ := hs.seq e
        rw [ha] at q1; cases q1
        have := ints_rv e2 q3
        subst this
        obtain ⟨m, h1, h2, h3⟩ := h
        refine ⟨a, ns, rfl, q2, List.length_pos_of_mem h1, fun m' g1 g2 => ?_⟩
        have : m' = m := Int.le_antisymm (g2 m h1) (h2 m' g1)
        subst this
        exact hq.self hs (by simp only [RV]) h3
      · exact h.elim
    · exact h.elim

/-! ### isinstance -/
def kindD (st : Store) : D → Option String
  | .non => some "NoneType"
  | .bl _ => some "bool"
  | .int _ => some "int"
  | .str _ => some "str"
  | .tup _ => some "tuple"
  | .ref n => match st[n]? with
    | some (.lst _) => some "list"
    | some (.rol _) => some "list"
    | _ => none
  | .exc _ => none
  | .clo _ _ _ _ _ => none
  | .met _ _ => none
theorem kind_rv {K : PySem.W.Frag} {H : Hp} {π : List Addr} {st : Store} {d : D} {v : V} {k : String} (hs : SR K cl H π st) (r : RV K cl H π d v) (h : kindD st d = some k) : TyX K H v (.type k) := by
  cases d with
  | non => simp only [RV] at r; subst r; cases h; exact .base .non
  | bl b => simp only [RV] at r; subst r; cases h; exact .base (.bl _)
  | int b => simp only [RV] at r; subst r; cases h; exact .base (.int _)
  | str b => simp only [RV] at r; subst r; cases h; exact .base (.str _)
  | tup xs =>
    simp only [RV] at r
    obtain ⟨a, vs, rfl, t, _⟩ := r
    cases h
    rcases t with (t | ⟨o, t⟩) | ⟨o, its, n, t, c, _⟩
    · exact .base (.tup t)
    · exact .fTuple t
    · exact .kTuple t c
  | ref n =>
    simp only [RV] at r
    obtain ⟨a, rfl, ha⟩ := r
    simp only [kindD] at h
    cases e : st[n]? with
    | none => rw [e] at h; cases h
    | some o =>
      rw [e] at h
      obtain ⟨b, q1, q2⟩ := hs.at_ n o e
      rw [ha] at q1; cases q1
      cases o with
      | lst xs => cases h; obtain ⟨vs, g, _⟩ := q2; exact .base (.lst g)
      | rol xs =>
        cases h
        obtain ⟨vs, g, _⟩ := q2
        rcases g with ⟨o, g⟩ | ⟨o, its, n, g, c, _⟩
        · exact .base (.frz g)
        · exact .kList g c
      | dic _ _ => cases h
      | ins _ => cases h
      | deq _ => cases h
      | dki _ => cases h
  | exc k => cases h
  | clo n f c ws caps => cases h
  | met g o => cases h
def xIsi (T : String) (x : XE) : XE := fun σ st Q R => x σ st (fun d st1 => match kindD st1 d with
  | some k => match kitB k T with
    | some b => Q (.bl b) st1
    | none => False
  | none => False) R
theorem mp_isi {T : String} {x nm : Str} {p p2 pos : Pos} {e : Expr} {xe : XE} (hm : X.mg "isinstance" = none) (hm2 : X.mg nm = none) (hv2 : bootBuiltins nm = some (.type T)) (he : PE X e (LE X.K cl W xe)) (hv : bootBuiltins "isinstance" = some (.builtin "isinstance") := by decide +kernel) (hg : Gl X "isinstance" := by rfl) (hg2 : Gl X nm := by rfl)
    (hn2 : nm ≠ "__name__" := by decide) (hd2 : (nm == ("__debug__" : Str)) = false := by decide)
    (h1 : starEach [e, .Name nm p2] X.env = (false, eval e X.env) :: starEach [.Name nm p2] X.env := by rfl) (hpl : (backTo pos (starEach [.Name nm p2] X.env)).any (·.1) = false := by rfl) :
    PE X (.Call (.Name "isinstance" p) [e, .Name nm p2] [] pos) (LE X.K cl W (xIsi T xe)) := by
  refine imE (pe_callB call_isi hg hm hv (pa_cons he (pa_cons (pe_bltn (v := .ty T) hg2 hm2 hv2 rfl hn2 hd2) pa_nil (by rfl)) h1) (by decide) (by decide) h1 hpl) fun σV H Q ⟨π, σ, st, Q0, R0, hs, he, hx, hq, hw⟩ => ?_
  refine ⟨π, σ, st, _, R0, hs, he, hx, fun d st1 H1 π1 v h1 e1 s1 r1 => ?_, hw⟩
  dsimp only at h1
  split at h1
  · rename_i k e0
    split at h1
    · rename_i b eb
      exact ⟨v, .ty T, _, _, b, rfl, .ty T, kind_rv s1 r1 e0, kit_ty eb, hq _ st1 H1 π1 _ h1 e1 s1 (by simp only [RV])⟩
    · exact h1.elim
  · exact h1.elim
end
end MP

namespace MP
open PySem L2

structure EI where
  nx : Env → Store → Prop
  rt : D → Store → Prop
  bk : Env → Store → Prop
  ct : Env → Store → Prop
  ex : Nat → Env → Store → Prop
abbrev XS := Env → Store → EI → Prop
abbrev XG := D → Env → Store → (Env → Store → Prop) → Prop

section
variable (K : PySem.W.Frag) (cl : CL)
def NW (H : Hp) (π : List Addr) (k : St → Hp → Prop) (k0 : Env → Store → Prop) : Prop :=
  ∀ σ' st' H' π' σV', k0 σ' st' → Ext K cl H π H' π' → SR K cl H' π' st' → ER K cl H' π' σ' σV' → k σV' H'
def XW (W : WX) (H : Hp) (π : List Addr) (k0 : Nat → Env → Store → Prop) : Prop :=
  ∀ c σ' st' H' π' σV', k0 c σ' st' → Ext K cl H π H' π' → SR K cl H' π' st' → ER K cl H' π' σ' σV' → W (.ref (cl c)) none σV' H'
structure DW (W : WX) (H : Hp) (π : List Addr) (D : Ends) (D0 : EI) : Prop where
  nx : NW K cl H π D.nx D0.nx
  rt : QW K cl H π D.rt D0.rt
  bk : NW K cl H π D.bk D0.bk
  ct : NW K cl H π D.ct D0.ct
  ex : XW K cl W H π D0.ex
def LS (W : WX) (b : XS) : TS := fun D σV H => ∃ π σ st D0, SR K cl H π st ∧ ER K cl H π σ σV ∧ b σ st D0 ∧ DW K cl W H π D D0
def LG (g : XG) : TG := fun v σV H k => ∃ π d σ st k0, SR K cl H π st ∧ ER K cl H π σ σV ∧ RV K cl H π d v ∧ g d σ st k0 ∧ NW K cl H π k k0
def LGs (g : List D → Env → Store → (Env → Store → Prop) → Prop) : TGs := fun vs σV H k => ∃ π ds σ st k0, SR K cl H π st ∧ ER K cl H π σ σV ∧ RVs K cl H π ds vs ∧ g ds σ st k0 ∧ NW K cl H π k k0
end
section
variable {K : PySem.W.Frag} {cl : CL} {W : WX} {H H' : Hp} {π π' : List Addr}
theorem NW.ext {k : St → Hp → Prop} {k0 : Env → Store → Prop} (h : NW K cl H π k k0) (e : Ext K cl H π H' π') : NW K cl H' π' k k0 :=
  fun σ' st' H2 π2 σV' q e2 s r => h σ' st' H2 π2 σV' q (e.trans e2) s r
theorem XW.ext {k0 : Nat → Env → Store → Prop} (h : XW K cl W H π k0) (e : Ext K cl H π H' π') : XW K cl W H' π' k0 :=
  fun c σ' st' H2 π2 σV' q e2 s r => h c σ' st' H2 π2 σV' q (e.trans e2) s r
theorem DW.ext {D : Ends} {D0 : EI} (h : DW K cl W H π D D0) (e : Ext K cl H π H' π') : DW K cl W H' π' D D0 :=
  ⟨h.nx.ext e, h.rt.ext e, h.bk.ext e, h.ct.ext e, h.ex.ext e⟩
theorem XW.at_ {k0 : Nat → Env → Store → Prop} (h : XW K cl W H π k0) {σ : Env} {σV : St} (he : ER K cl H π σ σV) : RW K cl W σV H π (fun c st => k0 c σ st) :=
  fun c st' H2 π2 q e2 s => h c σ st' H2 π2 σV q e2 s (he.ext e2)
theorem NW.self {k : St → Hp → Prop} {k0 : Env → Store → Prop} (h : NW K cl H π k k0) {σ : Env} {σV : St} {st : Store} (hs : SR K cl H π st) (he : ER K cl H π σ σV) (q : k0 σ st) : k σV H :=
  h σ st H π σV q Ext.refl hs he
theorem DW.withNx {D : Ends} {D0 : EI} (h : DW K cl W H π D D0) {k : St → Hp → Prop} {k0 : Env → Store → Prop} (q : NW K cl H π k k0) : DW K cl W H π { D with nx := k } { D0 with nx := k0 } :=
  ⟨q, h.rt, h.bk, h.ct, h.ex⟩
end

section
variable {X : Cx} {cl : CL} {W : WX}
/-! ### blocks -/
def sPass : XS := fun σ st D => D.nx σ st
def sSeq (a b : XS) : XS := fun σ st D => a σ st { D with nx := fun σ1 st1 => b σ1 st1 D }
theorem ms_pass {pos : Pos} : PS X (.Pass pos) (LS X.K cl W sPass) := imS ps_pass fun D σV H ⟨π, σ, st, D0, hs, he, hx, hd⟩ => hd.nx.self hs he hx
theorem mss_nil : PSs X [] (LS X.K cl W sPass) := imSs pss_nil fun D σV H ⟨π, σ, st, D0, hs, he, hx, hd⟩ => hd.nx.self hs he hx
theorem mss_cons {st : Stmt} {rest : List Stmt} {a b : XS} (h1 : PS X st (LS X.K cl W a)) (h2 : PSs X rest (LS X.K cl W b)) : PSs X (st :: rest) (LS X.K cl W (sSeq a b)) := by
  refine imSs (pss_cons h1 h2) fun D σV H ⟨π, σ, st, D0, hs, he, hx, hd⟩ => ?_
  exact ⟨π, σ, st, _, hs, he, hx, hd.withNx fun σ' st' H' π' σV' q e s r => ⟨π', σ', st', D0, s, r, q, hd.ext e⟩⟩
theorem mss_one {st : Stmt} {a : XS} (h1 : PS X st (LS X.K cl W a)) : PSs X [st] (LS X.K cl W a) := pss_one h1
def sBreak : XS := fun σ st D => D.bk σ st
def sCont : XS := fun σ st D => D.ct σ st
theorem ms_break {pos : Pos} : PS X (.Break pos) (LS X.K cl W sBreak) := imS ps_break fun D σV H ⟨π, σ, st, D0, hs, he, hx, hd⟩ => hd.bk.self hs he hx
theorem ms_cont {pos : Pos} : PS X (.Continue pos) (LS X.K cl W sCont) := imS ps_continue fun D σV H ⟨π, σ, st, D0, hs, he, hx, hd⟩ => hd.ct.self hs he hx
/-- an expression alone -/
def sExpr (x : XE) : XS := fun σ st D => x σ st (fun _ st1 => D.nx σ st1) (fun c st1 => D.ex c σ st1)
theorem ms_expr {e : Expr} {pos : Pos} {x : XE} (h : PE X e (LE X.K cl W x)) (hs : swapsWith e none pos.line X.env = pure false := by rfl) : PS X (.Expr e pos) (LS X.K cl W (sExpr x)) := by
  refine imS (ps_expr h hs) fun D σV H ⟨π, σ, st, D0, hs, he, hx, hd⟩ => ?_
  exact ⟨π, σ, st, _, _, hs, he, hx, fun d st1 H1 π1 v h1 e1 s1 r1 => hd.nx σ st1 H1 π1 σV h1 e1 s1 (he.ext e1), hd.ex.at_ he⟩
def sRet (x : XE) : XS := fun σ st D => x σ st D.rt (fun c st1 => D.ex c σ st1)
theorem ms_ret {e : Expr} {pos : Pos} {x : XE} (h : PE X e (LE X.K cl W x)) : PS X (.Return (some e) pos) (LS X.K cl W (sRet x)) := by
  refine imS (ps_ret h) fun D σV H ⟨π, σ, st, D0, hs, he, hx, hd⟩ => ?_
  exact ⟨π, σ, st, _, _, hs, he, hx, hd.rt, hd.ex.at_ he⟩
def sRetN : XS := fun _ st D => D.rt .non st
theorem ms_retN {pos : Pos} : PS X (.Return none pos) (LS X.K cl W sRetN) := by
  refine imS ps_retN fun D σV H ⟨π, σ, st, D0, hs, he, hx, hd⟩ => ?_
  exact hd.rt.self hs (by simp only [RV]) hx
def sIf (t : XT) (a b : XS) : XS := fun σ st D => t σ st (fun c st1 => if c = true then a σ st1 D else b σ st1 D) (fun c st1 => D.ex c σ st1)
theorem ms_if {c : Expr} {a b : List Stmt} {pos : Pos} {t : XT} {x y : XS} (hc : PT X c (LT X.K cl W t)) (ha : PSs X a (LS X.K cl W x)) (hb : PSs X b (LS X.K cl W y)) : PS X (.If c a b pos) (LS X.K cl W (sIf t x y)) := by
  refine imS (ps_if hc ha hb) fun D σV H ⟨π, σ, st, D0, hs, he, hx, hd⟩ => ?_
  refine ⟨π, σ, st, _, _, hs, he, hx, fun d st1 H1 π1 h1 e1 s1 => ?_, hd.ex.at_ he⟩
  cases d with
  | true => exact iteT ⟨π1, σ, st1, D0, s1, he.ext e1, by simpa using h1, hd.ext e1⟩
  | false => exact iteF ⟨π1, σ, st1, D0, s1, he.ext e1, by simpa using h1, hd.ext e1⟩

/-! ### targets, assignments -/
def gN (i : Nat) : XG := fun d σ st k => k (σ.set i (some d)) st
theorem mg_name {i : Nat} {x : Str} {pos : Pos} (hN : X.N.Nodup) (hi : X.N[i]? = some x) (hx : Loc X.env.scope x) (hf : X.fn x = true ∨ X.env.scope.names.lookup x = some .local := by first | exact .inl rfl | exact .inr rfl | assumption) : PG X (.Name x pos) (LG X.K cl (gN i)) := by
  refine ⟨fun pins s σV H v u Q I r h => ?_⟩
  obtain ⟨π, d, σ, st, k0, hs, he, hr, hx', hk⟩ := h
  exact (pg_name hN hi hx hf).run pins s σV H v u Q I r (hk.self hs (he.set hr) hx')
def gsNil : List D → Env → Store → (Env → Store → Prop) → Prop := fun ds σ st k => ds = [] ∧ k σ st
def gsCons (g : XG) (r : List D → Env → Store → (Env → Store → Prop) → Prop) : List D → Env → Store → (Env → Store → Prop) → Prop := fun ds σ st k => match ds with
  | d :: q => g d σ st fun σ1 st1 => r q σ1 st1 k
  | [] => False
theorem mgs_nil : PGs X [] (LGs X.K cl gsNil) := by
  refine ⟨fun pins s σV H vs us Q I r h => ?_⟩
  obtain ⟨π, ds, σ, st, k0, hs, he, hr, ⟨hx, hq⟩, hk⟩ := h
  subst hx
  exact pgs_nil.run pins s σV H vs us Q I r ⟨hr.un0, hk.self hs he hq⟩
theorem mgs_cons {e : Expr} {es : List Expr} {g : XG} {r : List D → Env → Store → (Env → Store → Prop) → Prop} (h1 : PG X e (LG X.K cl g)) (h2 : PGs X es (LGs X.K cl r))
    (hs : (assignEach (e :: es) X.env).map (·.2) = assign e X.env :: (assignEach es X.env).map (·.2) := by rfl) : PGs X (e :: es) (LGs X.K cl (gsCons g r)) := by
  refine ⟨fun pins s σV H vs us Q I rr h => (pgs_cons h1 h2 hs).run pins s σV H vs us Q I rr ?_⟩
  obtain ⟨π, ds, σ, st, k0, hs, he, hr, hx, hk⟩ := h
  cases ds with
  | nil => exact hx.elim
  | cons d q =>
    obtain ⟨v, w, rfl, r1, r2⟩ := hr.un
    refine ⟨v, w, rfl, π, d, σ, st, _, hs, he, r1, hx, fun σ1 st1 H1 π1 σV1 q1 e1 s1 re => ?_⟩
    exact ⟨π1, q, σ1, st1, k0, s1, re, r2.ext e1, q1, hk.ext e1⟩
/-- a, b, .. = a tuple -/
def gT (n : Nat) (r : List D → Env → Store → (Env → Store → Prop) → Prop) : XG := fun d σ st k => match d with
  | .tup xs => xs.length = n ∧ r xs σ st k
  | _ => False
theorem mg_tup {es : List Expr} {k : Nat} {pos : Pos} {n : Nat} {r : List D → Env → Store → (Env → Store → Prop) → Prop} (hc : X.calm = true) (h : PGs X es (LGs X.K cl r))
    (hn : (assignEach es X.env).length = n := by rfl) (hst : (assignEach es X.env).findIdx? (·.1) = none := by rfl) : PG X (.Tuple es k pos) (LG X.K cl (gT n r)) := by
  refine ⟨fun pins s σV H v u Q I rr h' => (pg_tup hc h hn hst).run pins s σV H v u Q I rr ?_⟩
  obtain ⟨π, d, σ, st, k0, hs, he, hr, hx, hk⟩ := h'
  cases d with
  | tup xs =>
    simp only [RV] at hr
    obtain ⟨a, vs, rfl, t, r1⟩ := hr
    exact ⟨a, vs, rfl, t, by rw [r1.length]; exact hx.1, π, xs, σ, st, k0, hs, he, r1, hx.2, hk⟩
  | _ => exact hx.elim
def sAsg (x : XE) (g : XG) : XS := fun σ st D => x σ st (fun d st1 => g d σ st1 D.nx) (fun c st1 => D.ex c σ st1)
theorem asg_imp {K : PySem.W.Frag} {x : XE} {g : XG} {D : Ends} {σV : St} {H : Hp} (h : LS K cl W (sAsg x g) D σV H) : tAsg (LE K cl W x) (LG K cl g) D σV H := by
  obtain ⟨π, σ, st, D0, hs, he, hx, hd⟩ := h
  exact ⟨π, σ, st, _, _, hs, he, hx, fun d st1 H1 π1 v h1 e1 s1 r1 => ⟨π1, d, σ, st1, _, s1, he.ext e1, r1, h1, hd.nx.ext e1⟩, hd.ex.at_ he⟩
theorem ms_asg {tg e : Expr} {pos : Pos} {x : XE} {g : XG} (he : PE X e (LE X.K cl W x)) (hg : PG X tg (LG X.K cl g)) (hs : swapsWithSole [tg] e pos.line X.env = pure false := by rfl) (hw : swappedStores [tg] e X.env = pure none := by rfl)
    (h1 : (assignEach [tg] X.env).map (·.2) = [assign tg X.env] := by rfl) : PS X (.Assign [tg] e pos) (LS X.K cl W (sAsg x g)) := imS (ps_asg he hg hs hw h1) fun _ _ _ h => asg_imp h
abbrev sSet (i : Nat) (x : XE) : XS := sAsg x (gN i)
theorem ms_set {i : Nat} {x : Str} {e : Expr} {te : XE} {pos pos' : Pos} (he : PE X e (LE X.K cl W te)) (hN : X.N.Nodup) (hi : X.N[i]? = some x) (hx : Loc X.env.scope x) (hs : swapsWith e (some (.Name x pos')) pos.line X.env = pure false := by rfl)
    (hf : X.fn x = true ∨ X.env.scope.names.lookup x = some .local := by first | exact .inl rfl | exact .inr rfl | assumption) : PS X (.Assign [.Name x pos'] e pos) (LS X.K cl W (sSet i te)) := by
  refine imS (ps_set hN hi hx he hs hf) fun D σV H h => ?_
  obtain ⟨π, σ, st, D0, hs, he, hx, hd⟩ := h
  exact ⟨π, σ, st, _, _, hs, he, hx, fun d st1 H1 π1 v h1 e1 s1 r1 => hd.nx _ st1 H1 π1 _ h1 e1 s1 ((he.ext e1).set r1), hd.ex.at_ he⟩
/-- a, b = x, y where the machine swaps the stores -/
def sPar (i j : Nat) (a : XA) : XS := fun σ st D => a σ st (fun ds st1 => match ds with
  | [x, y] => D.nx ((σ.set i (some x)).set j (some y)) st1
  | _ => False) (fun c st1 => D.ex c σ st1)
theorem ms_par {i j : Nat} {x y : Str} {a b : Expr} {ta : XA} {px py pt pos : Pos} {kt k2 : Nat} {pt2 : Pos} (ha : PA X [a, b] (LA X.K cl W ta)) (hc : X.calm = true) (hN : X.N.Nodup) (hi : X.N[i]? = some x) (hj : X.N[j]? = some y) (hij : i ≠ j)
    (hx : X.env.scope.names.lookup x = some .local) (hy : X.env.scope.names.lookup y = some .local)
    (hw : swappedStores [.Tuple [.Name x px, .Name y py] kt pt] (.Tuple [a, b] k2 pt2) X.env = pure (some [x, y]))
    (hs : swapsWithSole [.Tuple [.Name x px, .Name y py] kt pt] (.Tuple [a, b] k2 pt2) pos.line X.env = pure false := by rfl) :
    PS X (.Assign [.Tuple [.Name x px, .Name y py] kt pt] (.Tuple [a, b] k2 pt2) pos) (LS X.K cl W (sPar i j ta)) := by
  refine imS (ps_par hc hN hi hj hij hx hy ha hw hs) fun D σV H ⟨π, σ, st, D0, hs, he, hx, hd⟩ => ?_
  refine ⟨π, σ, st, _, _, hs, he, hx, fun ds st1 H1 π1 vs h1 e1 s1 r1 => ?_, hd.ex.at_ he⟩
  try dsimp only at h1
  split at h1
  · rename_i d e
    obtain ⟨v, q, rfl, g1, g2⟩ := r1.un
    obtain ⟨w, q, rfl, g3, g4⟩ := g2.un
    rw [g4.un0]
    exact ⟨v, w, rfl, hd.nx _ st1 H1 π1 _ h1 e1 s1 (((he.ext e1).set g1).set g3)⟩
  · exact h1.elim
def sPar3 (i j l : Nat) (a : XA) : XS := fun σ st D => a σ st (fun ds st1 => match ds with
  | [x, y, z] => D.nx (((σ.set i (some x)).set j (some y)).set l (some z)) st1
  | _ => False) (fun c st1 => D.ex c σ st1)
theorem ms_par3 {i j l : Nat} {x y z : Str} {a b c : Expr} {ta : XA} {px py pz pt pos : Pos} {kt k2 : Nat} {pt2 : Pos} (ha : PA X [a, b, c] (LA X.K cl W ta)) (hc : X.calm = true) (hN : X.N.Nodup) (hi : X.N[i]? = some x) (hj : X.N[j]? = some y) (hl : X.N[l]? = some z) (hij : i ≠ j) (hil : i ≠ l) (hjl : j ≠ l)
    (hx : X.env.scope.names.lookup x = some .local) (hy : X.env.scope.names.lookup y = some .local) (hz : X.env.scope.names.lookup z = some .local)
    (hw : swappedStores [.Tuple [.Name x px, .Name y py, .Name z pz] kt pt] (.Tuple [a, b, c] k2 pt2) X.env = pure (some [x, y, z]))
    (hs : swapsWithSole [.Tuple [.Name x px, .Name y py, .Name z pz] kt pt] (.Tuple [a, b, c] k2 pt2) pos.line X.env = pure false := by rfl) :
    PS X (.Assign [.Tuple [.Name x px, .Name y py, .Name z pz] kt pt] (.Tuple [a, b, c] k2 pt2) pos) (LS X.K cl W (sPar3 i j l ta)) := by
  refine imS (ps_par3 hc hN hi hj hl hij hil hjl hx hy hz ha hw hs) fun D σV H ⟨π, σ, st, D0, hs, he, hx, hd⟩ => ?_
  refine ⟨π, σ, st, _, _, hs, he, hx, fun ds st1 H1 π1 vs h1 e1 s1 r1 => ?_, hd.ex.at_ he⟩
  try dsimp only at h1
  split at h1
  · rename_i d e f
    obtain ⟨v, q, rfl, g1, g2⟩ := r1.un
    obtain ⟨w, q, rfl, g3, g4⟩ := g2.un
    obtain ⟨u, q, rfl, g5, g6⟩ := g4.un
    rw [g6.un0]
    exact ⟨v, w, u, rfl, hd.nx _ st1 H1 π1 _ h1 e1 s1 ((((he.ext e1).set g1).set g3).set g5)⟩
  · exact h1.elim

/-! ### lists changed -/
/-- xs[i] = e -/
def putD (o i v : D) (st : Store) (k : Store → Prop) : Prop := match o, i with
  | .ref n, .int z => match st[n]? with
    | some (.lst xs) => match ixN xs.length z with
      | some j => k (st.set n (.lst (xs.set j v)))
      | none => False
    | _ => False
  | _, _ => False
theorem put_rv {K : PySem.W.Frag} {H : Hp} {π : List Addr} {st : Store} {o i v : D} {vo vi vv : V} {k0 : Store → Prop} {k : Hp → Prop} (hs : SR K cl H π st) (ro : RV K cl H π o vo) (ri : RV K cl H π i vi) (rv : RV K cl H π v vv) (h : putD o i v st k0)
    (hk : ∀ st' H', k0 st' → Ext K cl H π H' π → SR K cl H' π st' → k H') : rSetL vo vi vv H k := by
  unfold putD at h
  split at h
  · split at h
    · rename_i xs e
      split at h
      · rename_i j ej
        simp only [RV] at ro ri
        obtain ⟨a, rfl, ha⟩ := ro
        obtain ⟨b, vs, q1, q2, q3⟩ := hs.lst e
        rw [ha] at q1; cases q1
        obtain ⟨_, w2, w3⟩ := hs.write e ha (q3.set rv j)
        exact ⟨a, vs, _, j, rfl, ri, q2, by rw [q3.length]; exact ej, hk _ _ h w2 w3⟩
      · exact h.elim
    · exact h.elim
  · exact h.elim
def sPut (xo xi x : XE) : XS := fun σ st D => x σ st (fun d st1 => xo σ st1 (fun o st2 => xi σ st2 (fun i st3 => putD o i d st3 fun st4 => D.nx σ st4) (fun c st1 => D.ex c σ st1)) (fun c st1 => D.ex c σ st1)) (fun c st1 => D.ex c σ st1)
theorem ms_put {o i e : Expr} {pos pos' : Pos} {xo xi x : XE} (he : PE X e (LE X.K cl W x)) (ho : PE X o (LE X.K cl W xo)) (hi : PE X i (LE X.K cl W xi)) (hs : swapsWithSole [.Subscript o i pos'] e pos.line X.env = pure false := by rfl) (hw : swappedStores [.Subscript o i pos'] e X.env = pure none := by rfl)
    (h1 : (assignEach [.Subscript o i pos'] X.env).map (·.2) = [assign (.Subscript o i pos') X.env] := by rfl)
    (ha : ∀ v, assign (.Subscript o i pos') X.env v = (do
      let ov ← holding [v] (eval o X.env)
      let iv ← holding [v, ov] (eval i X.env)
      standAt pos'
      holding [v, ov, iv] (setItem ov iv v)
      release [v, ov, iv] []) := by intro _; rfl) : PS X (.Assign [.Subscript o i pos'] e pos) (LS X.K cl W (sPut xo xi x)) := by
  refine imS (ps_asg he (pg_sub ho hi set_list ha) hs hw h1) fun D σV H ⟨π, σ, st, D0, hs, he, hx, hd⟩ => ?_
  refine ⟨π, σ, st, _, _, hs, he, hx, fun d st1 H1 π1 v h1 e1 s1 r1 => ?_, hd.ex.at_ he⟩
  refine ⟨π1, σ, st1, _, _, s1, he.ext e1, h1, fun o st2 H2 π2 vo h2 e2 s2 r2 => ?_, (hd.ex.ext e1).at_ (he.ext e1)⟩
  refine ⟨π2, σ, st2, _, _, s2, (he.ext e1).ext e2, h2, fun i st3 H3 π3 vi h3 e3 s3 r3 => ?_, ((hd.ex.ext e1).ext e2).at_ ((he.ext e1).ext e2)⟩
  exact put_rv s3 (r2.ext e3) r3 (r1.ext (e2.trans e3)) h3 fun st4 H4 q e4 s4 => hd.nx σ st4 H4 π3 σV q (((e1.trans e2).trans e3).trans e4) s4 (he.ext (((e1.trans e2).trans e3).trans e4))
/-- xs[i] of a list, by values -/
theorem pget_list : PGet X (rIxL X.K) := by
  intro pins s σ H o i ov iv Q I ro ri h
  obtain ⟨p, xs, z, v, rfl, rfl, hq, he, q⟩ := h
  cases ro
  obtain ⟨t, rfl⟩ := ri
  obtain ⟨its, r, pl, hz⟩ := I.list hq
  obtain ⟨j, h1, h2, h3, h4, h5⟩ := atI_get he
  obtain ⟨w, ew, rw'⟩ := r.get h2
  have hl := r.length
  have hn := line63
  have zl := sizeLine_eq
  by_cases h0 : 0 ≤ z
  · have hj : z.toNat = j := by
      rw [seqIndex_of h0 h5] at h1
      exact Option.some.inj h1
    exact wpAny_getItem_list pl.isList h0 (by omega) (by rw [hj]; simpa using ew) ⟨v, H, I, rw', q⟩
  · have hj : (z + (its.toArray.size : Int)).toNat = j := by
      rw [seqIndex_neg (by omega) h4] at h1
      rw [List.size_toArray, ← hl]
      exact Option.some.inj h1
    exact wpAny_getItem_list_neg pl.isList (by omega) (by rw [List.size_toArray, ← hl]; exact h4) (by omega) (by rw [hj]; simpa using ew) ⟨v, H, I, rw', q⟩
/-- xs[i] += e, ints -/
def augI (f : Int → Int → Int) (a b : D) (k : D → Prop) : Prop := match a, b with
  | .int i, .int j => k (.int (f i j))
  | _, _ => False
def getD (o i : D) (st : Store) (k : D → Prop) : Prop := match o, i with
  | .ref n, .int z => match itemsOf st n with
    | some xs => match atI xs z with
      | some d => k d
      | none => False
    | none => False
  | _, _ => False
def sAugP (f : Int → Int → Int) (xo xi x : XE) : XS := fun σ st D => xo σ st (fun o st1 => xi σ st1 (fun i st2 => getD o i st2 fun old => x σ st2 (fun d st3 => augI f old d fun new => putD o i new st3 fun st4 => D.nx σ st4) (fun c st1 => D.ex c σ st1)) (fun c st1 => D.ex c σ st1)) (fun c st1 => D.ex c σ st1)
theorem ms_augP {o i e : Expr} {op : Operator} {pos tpos : Pos} {f : Int → Int → Int} {xo xi x : XE} (hp : PIp X op (ipI f)) (ho : PE X o (LE X.K cl W xo)) (hi : PE X i (LE X.K cl W xi)) (he : PE X e (LE X.K cl W x))
    (ha : ∀ ov iv new, augStore i ov iv new = (do holding [new, ov, iv] (setItem ov iv new); release [new, ov, iv] []; pure .next) := by intros; rfl) : PS X (.AugAssign (.Subscript o i tpos) op e pos) (LS X.K cl W (sAugP f xo xi x)) := by
  refine imS (ps_augS ho hi pget_list he hp set_list ha) fun D σV H ⟨π, σ, st, D0, hs, he, hx, hd⟩ => ?_
  refine ⟨π, σ, st, _, _, hs, he, hx, fun o st1 H1 π1 vo h1 e1 s1 r1 => ?_, hd.ex.at_ he⟩
  refine ⟨π1, σ, st1, _, _, s1, he.ext e1, h1, fun i st2 H2 π2 vi h2 e2 s2 r2 => ?_, (hd.ex.ext e1).at_ (he.ext e1)⟩
  unfold getD at h2
  dsimp only at h2
  split at h2
  · rename_i n z
    split at h2
    · rename_i xs e0
      split at h2
      · rename_i old eo
        have ro := r1.ext e2
        have ro' := ro
        simp only [RV] at ro r2
        obtain ⟨a, rfl, ha⟩ := ro
        obtain ⟨b, vs, q1, q2, q3⟩ := s2.seq e0
        rw [ha] at q1; cases q1
        obtain ⟨v, g1, g2⟩ := atI_rv q3 eo
        refine ⟨a, vs, z, v, rfl, r2, q2, g1, ?_⟩
        refine ⟨π2, σ, st2, _, _, s2, (he.ext e1).ext e2, h2, fun d st3 H3 π3 vd h3 e3 s3 r3 => ?_, ((hd.ex.ext e1).ext e2).at_ ((he.ext e1).ext e2)⟩
        unfold augI at h3
        dsimp only at h3
        split at h3
        · rename_i i j
          have g3 := g2.ext e3
          simp only [RV] at g3 r3
          refine ⟨i, j, g3, r3, ?_⟩
          refine put_rv (v := .int (f i j)) s3 (ro'.ext e3) (i := .int z) (by simp only [RV]; exact r2) (by simp only [RV]) h3 fun st4 H4 q e4 s4 => ?_
          exact hd.nx σ st4 H4 π3 σV q (((e1.trans e2).trans e3).trans e4) s4 (he.ext (((e1.trans e2).trans e3).trans e4))
        · exact h3.elim
      · exact h2.elim
    · exact h2.elim
  · exact h2.elim
/-- x += e, ints -/
def sAug (i : Nat) (f : Int → Int → Int) (x : XE) : XS := fun σ st D => match σ[i]? with
  | some (some old) => x σ st (fun d st1 => augI f old d fun new => D.nx (σ.set i (some new)) st1) (fun c st1 => D.ex c σ st1)
  | _ => False
theorem ms_aug {i : Nat} {x : Str} {e : Expr} {te : XE} {op : Operator} {f : Int → Int → Int} {pos pos' : Pos} (ho : PIp X op (ipI f)) (he : PE X e (LE X.K cl W te)) (hN : X.N.Nodup) (hi : X.N[i]? = some x) (hx : Loc X.env.scope x)
    (hf : X.fn x = true ∨ X.env.scope.names.lookup x = some .local := by first | exact .inl rfl | exact .inr rfl | assumption) : PS X (.AugAssign (.Name x pos') op e pos) (LS X.K cl W (sAug i f te)) := by
  refine imS (ps_aug hN hi hx he ho hf) fun D σV H ⟨π, σ, st, D0, hs, he, hx, hd⟩ => ?_
  unfold sAug at hx
  split at hx
  · rename_i old eo
    obtain ⟨v, g1, g2⟩ := he.at_ i old eo
    refine ⟨v, g1, π, σ, st, _, _, hs, he, hx, fun d st1 H1 π1 vd h1 e1 s1 r1 => ?_, hd.ex.at_ he⟩
    unfold augI at h1
    dsimp only at h1
    split at h1
    · rename_i i j
      have g3 := g2.ext e1
      simp only [RV] at g3 r1
      exact ⟨i, j, g3, r1, hd.nx _ st1 H1 π1 _ h1 e1 s1 ((he.ext e1).set (by simp only [RV]))⟩
    · exact h1.elim
  · exact hx.elim
end
end MP

/-! sorted of tuples of d ints in [0, B), any number of them -/
namespace TS
open PySem PyProof.Rows
section
variable {prog : Program} {w : World} {A : Around} {E : Value → Shared → Prop} {s : Shared}
abbrev ltC (r : Value → Int) (v u : Value) : Bool := decide (r v < r u)
theorem swo_rank (r : Value → Int) : SrtO.Swo (ltC r) := by
  refine ⟨fun x y h => ?_, fun x y z h1 h2 => ?_⟩
  · have a := of_decide_eq_true (p := r x < r y) h
    exact decide_eq_false (p := r y < r x) (by omega)
  · have a := of_decide_eq_false (p := r y < r x) h1
    have b := of_decide_eq_false (p := r z < r y) h2
    exact decide_eq_false (p := r z < r x) (by omega)
theorem rank_of {h : Heap} {v : Value} {ns : List Int} {B : Int} (t : TupInts h v ns) : code B (intsOf h v) = code B ns := by rw [t.ints]
theorem tups_cmp {d : Nat} {B : Int} {vs : List Value} {r : Value → Int} (x : TupsOk s.heap d B vs) (hr : ∀ v, v ∈ vs → ∀ ns, TupInts s.heap v ns → r v = code B ns) :
    SrtO.Cmp prog w A s (tuples' true) (fun p => p.1 ∈ vs) (SrtO.lt2 (ltC r)) := by
  intro p q hp hq
  obtain ⟨ns, tp, lp, bp⟩ := x _ hp
  obtain ⟨ms, tq, lq, bq⟩ := x _ hq
  have ep := hr _ hp _ tp
  have eq2 := hr _ hq _ tq
  have hQ' : (fun (b : Bool) (s' : Shared) => s' = s ∧ b = SrtO.lt2 (ltC r) p q) (decide (code B ns < code B ms)) s := ⟨rfl, by show _ = decide (r p.1 < r q.1); rw [ep, eq2]⟩
  obtain ⟨a, xs, e1, ⟨o, ho, hc, n, hdt⟩, i⟩ := tp
  obtain ⟨a', ys, e2, ⟨o', ho', hc', n', hdt'⟩, i'⟩ := tq
  rw [e1, e2]
  refine PySem.W.kat_lt ho hdt ho' hdt' ?_
  have sz : decide (xs.size < ys.size) = false := by
    have l1 := i.length
    have l2 := i'.length
    rw [Array.length_toList] at l1 l2
    exact decide_eq_false (by omega)
  rw [sz]
  exact lex_ints 0 i i' (by omega) bp bq hQ'
theorem tups_sortableO {a : Addr} {d : Nat} {B : Int} {vs : List Value} {r : Value → Int} (hd : 1 ≤ d) (h2 : 2 ≤ vs.length) (x : TupsOk s.heap d B vs) (hr : ∀ v, v ∈ vs → ∀ ns, TupInts s.heap v ns → r v = code B ns)
    (ha : ∀ o, s.heap.get? a = some o → o.cls ≠ .type "tuple") : SrtO.SortableO prog w A s a vs (ltC r) := by
  intro h' keep
  have kp : ∀ b o, s.heap.get? b = some o → o.cls = .type "tuple" → h'.get? b = some o := fun b o e c => keep b o (fun z => by subst z; exact ha o e c) e
  have x' := x.keeps kp
  obtain ⟨fs, k, hl, hi⟩ := firsts_of hd vs x'
  refine ⟨tuples' true, fun Q E hq => ?_, tups_cmp x' fun v hv ns t => ?_⟩
  · refine PySem.W.kat_kind (T := .type "int") k (by omega) (fun f hm => ?_) (by rfl) ?_
    · obtain ⟨y, t, rfl⟩ := hi f hm
      exact PySem.W.Looks.now
    · have e : (Value.type "int" != Value.type "tuple") = true := by first | decide +kernel | rfl | decide
      rw [e]
      exact hq
  · obtain ⟨ns0, t0, _⟩ := x v hv
    have e : ns = ns0 := t.ints.symm.trans (t0.keeps kp).ints
    rw [e]
    exact hr v hv ns0 t0
theorem sorted_tupsO {l : Addr} {vs : List Value} {d : Nat} {B : Int} {Q : Value → Shared → Prop} (hl : s.heap.IsList l vs.toArray) (hz : vs.length ≤ sizeLine) (hd : 1 ≤ d) (x : TupsOk s.heap d B vs)
    (h : ∀ out : List Value, SrtO.Srtd (ltC fun v => code B (intsOf s.heap v)) out → out.Perm vs → Q (.ref (s.heap.objs.size + 1)) { s with heap := sortedAll s.heap vs out.toArray }) :
    wpAny (model prog w) A (call (.builtin "sorted") [.ref l]) Q E s := by
  refine SrtO.sorted_ord (swo_rank fun v => code B (intsOf s.heap v)) hl hz (fun h2 h₁ a ha kk => ?_) fun out hs hb => h out hs hb.perm
  have kp : ∀ b o, s.heap.get? b = some o → o.cls = .type "tuple" → h₁.get? b = some o := fun b o e _ => (kk b o e).2
  refine tups_sortableO (s := { s with heap := h₁ }) hd h2 (x.keeps kp) (fun v hv ns t => ?_) fun o e => ?_
  · obtain ⟨ns0, t0, _⟩ := x v hv
    have e : ns = ns0 := t.ints.symm.trans (t0.keeps kp).ints
    rw [e]
    exact rank_of t0
  · have e' : some o = some (seqObj "list" vs.toArray 0) := e.symm.trans ha
    cases e'
    intro c
    exact absurd (Value.type.inj c) (by decide)
end
end TS
namespace L2
open PySem PySem.Spec PyProof.Rows
/-- sorted(xs), xs a list of tuples of d ints in [0, B), any number of them: a new list of the same, ascending by code B -/
def rSortV (K : PySem.W.Frag) (d : Nat) (B : Int) : List V → Hp → VK → Prop := fun vs H Q => ∃ (a : Addr) (xs : List V), vs = [V.ref a] ∧ SqL K H a xs ∧ (∀ x ∈ xs, ∃ ns, TupI K H x ns ∧ ns.length = d ∧ TS.Bd B ns) ∧
  ∀ (ys : List V) (p : Addr), ys.Perm xs → ys.Pairwise (fun x y => ∀ n m, TupI K H x n → TupI K H y m → TS.code B n ≤ TS.code B m) → H p = none → Q (.ref p) (upd H p (.lst ys))
end L2
namespace L2
open PySem PySem.Spec PyProof.Rows
section
variable {X : Cx}
theorem cr_sortV {d : Nat} {B : Int} (hd : 1 ≤ d) : CallR X (.builtin "sorted") (rSortV X.K d B) := by
  intro pins s σ H vs us Q I r h
  obtain ⟨a, xs, rfl, hs, hx, q⟩ := h
  obtain ⟨its, rv, hl, hz⟩ := I.list hs
  rw [Vals.ref1 r]
  obtain ⟨e1, e2⟩ := bkV_refs rv fun x m => by
    obtain ⟨ns, ⟨t, e, _⟩, _⟩ := hx x m
    exact ⟨t, e⟩
  refine TS.sorted_tupsO (d := d) (B := B) hl.isList (by rw [← rv.length]; exact hz) hd (fun v hv => ?_) fun out h2 h1 => ?_
  · obtain ⟨t, rfl⟩ := e2 v hv
    have hm : V.ref t ∈ xs := by
      rw [e1]
      exact List.mem_map.mpr ⟨_, hv, rfl⟩
    obtain ⟨ns, ⟨t', e, ht⟩, hn, hb⟩ := hx _ hm
    cases e
    exact ⟨ns, tupI_raw I ht, hn, hb⟩
  · obtain ⟨ep, he'⟩ := PyProof.Rows.sortedAll_at s.heap its out.toArray
    have h3 : ∀ u ∈ out, ∃ a, u = Value.ref a := fun u hu => e2 u (h1.mem_iff.mp hu)
    have hp : (out.map bkV).Perm xs := by
      rw [e1]
      exact h1.map bkV
    have hlen : (out.map bkV).length ≤ sizeLine := by
      rw [hp.length_eq]
      exact hz
    refine ⟨.ref _, upd H (s.heap.objs.size + 1) (.lst (out.map bkV)), I.laid (t' := s.toks) (fun _ _ => PyProof.Rows.sortedAll_old) (Nat.le_succ _) ⟨hlen, out, ep, bkV_vals h3, he'⟩, rfl, q _ _ hp ?_ (I.hok.fresh (Nat.le_succ _))⟩
    rw [List.pairwise_map]
    refine List.Pairwise.imp (fun {u v} huv n m hn hm => ?_) h2
    have huv' : TS.code B (TS.intsOf s.heap u) ≤ TS.code B (TS.intsOf s.heap v) := Int.not_lt.mp (of_decide_eq_false (p := TS.code B (TS.intsOf s.heap v) < TS.code B (TS.intsOf s.heap u)) huv)
    obtain ⟨t, et, ht⟩ := hn
    obtain ⟨t', et', ht'⟩ := hm
    have eu := bkV_ref et
    have ev := bkV_ref et'
    have i1 : TS.intsOf s.heap u = n := by
      rw [eu]
      exact (tupI_raw I ht).ints
    have i2 : TS.intsOf s.heap v = m := by
      rw [ev]
      exact (tupI_raw I ht').ints
    rw [← i1, ← i2]
    exact huv'
end
end L2

/-! a dict keyed by tuples: len, sorted, walked. -/
namespace DI
open PySem PyProof.Rows
section
variable {prog : Program} {w : World} {d : Addr} {es : Array DictEntry} {ep : Nat}
theorem src (lo : (d == sysModules) = false) : PySem.W.KdlSrc prog w "dict" d d es.size (fun i v => ∃ hi : i < es.size, v = es[i].key) (fun h => h.DictRaw d es ep) where
  type := fun _ hm => hm.typeIs
  there := fun _ hm => let ⟨_, ho, _⟩ := hm; ⟨Heap.lt_size ho, Heap.lt_size ho⟩
  keep := fun _ _ hm hk => hm.at fun o e => hk d (.inl rfl) o e
  notList := by decide
  notTuple := by decide
  hint := fun _ _ _ _ hm hq => PySem.W.kdl_hint_dict hm.typeIs hq
  iter := fun _ _ hh hm => ⟨_, _, (fun _ _ hq => wpAny_pyIter_dict_raw lo hm hq), Walks.rawKeys hh _ d (let ⟨_, ho, _⟩ := hm; Nat.ne_of_lt (Heap.lt_size ho)) es ep, ⟨⟨_, Heap.get?_push_size _ rfl, rfl, rfl⟩, hm.at fun o e => Heap.get?_push_of_some _ e⟩⟩
end
open PySem.Spec L2 in
/-- sorted of what a source gives, by any order -/
theorem sorted_src {prog : Program} {w : World} {A : Around} {E : Value → Shared → Prop} {s : Shared} {T : String} {r d : Addr} {n : Nat} {P : Nat → Value → Prop} {OK : Heap → Prop} {ltv : Value → Value → Bool} {Q : Value → Shared → Prop}
    (K : PySem.W.KdlSrc prog w T r d n P OK) (hh : A.handled = none) (hok : OK s.heap) (hn : n ≤ sizeLine) (O : SrtO.Swo ltv)
    (hS : ∀ (h₁ : Heap) (tk : Nat) (vs : List Value) (a : Addr), (∀ j v, vs[j]? = some v → P j v) → vs.length = n → h₁.get? a = some (seqObj "list" vs.toArray 0) → (∀ b o, s.heap.get? b = some o → h₁.get? b = some o) → 2 ≤ vs.length →
      SrtO.SortableO prog w A.in1.in1 { s with heap := h₁, toks := tk } a vs ltv)
    (hQ : ∀ (h' h₁ : Heap) (tk : Nat) (vs out : List Value) (p e : Nat), (∀ j v, vs[j]? = some v → P j v) → vs.length = n → SrtO.Srtd ltv out → SrtO.Stb ltv out vs → (∀ b o, s.heap.get? b = some o → h'.get? b = some o) → (∀ b o, h'.get? b = some o → h₁.get? b = some o) → h'.objs.size ≤ p →
      h₁.get? p = some (seqObj "list" out.toArray e) → Q (.ref p) { s with heap := h₁, toks := tk }) :
    wpAny (model prog w) A (call (.builtin "sorted") [.ref r]) Q E s := by
  refine Calls.call_function_entry PyProof.Rows.kind_sorted PyProof.Rows.plain_sorted PyProof.Rows.entry_sorted (PyProof.Rows.args_sorted1 _) ?_
  unfold Builtin.«sorted»
  refine wpAny_bind (m := checkCount "sorted" 1 1 _) (wpAny_pure ?_)
  refine wpAny_bind (PySem.W.kdu_collect (A := A.in1) K hh hok hn fun h' tk acc hk hacc => ?_)
  have hal : acc.toList.length = n := by rw [Array.length_toList, hacc.1]
  have hP : ∀ j v, acc.toList[j]? = some v → P j v := fun j v e => hacc.2 j v (by rw [← Array.getElem?_toList]; exact e)
  refine wpAny_bind (wpAny_newList ?_ (by rw [hal]; exact hn))
  have hoL : (h'.push (seqObj "list" acc.toList.toArray 0)).get? h'.objs.size = some (seqObj "list" acc.toList.toArray 0) := Heap.get?_push_size _ rfl
  have k2 : ∀ b o, s.heap.get? b = some o → (h'.push (seqObj "list" acc.toList.toArray 0)).get? b = some o := fun b o e => Heap.get?_push_of_some _ (hk b o e)
  refine wpAny_bind (wpAny_holding (wpAny_call_entry PyProof.Rows.slot_list_sort ⟨_, hoL, rfl⟩ PyProof.Rows.entry_list_sort
    (SrtO.list_sort_ord (s := { s with heap := h'.push (seqObj "list" acc.toList.toArray 0), toks := tk }) O hoL (by rw [hal]; exact hn) (fun h2 => hS _ tk _ _ hP hal hoL k2 h2) fun out h1 h2 => ⟨_, rfl, ?_⟩) (PyProof.Rows.args_list_sort _)))
  obtain ⟨e', he'⟩ := PyProof.Rows.sortedHeap_at (vs := acc.toList) (out := out.toArray) hoL
  refine wpAny_pure ⟨_, rfl, ?_⟩
  refine hQ h' _ tk acc.toList out _ e' hP hal h1 h2 hk (fun b o e2 => ?_) (Nat.le_refl _) he'
  have hb : b < h'.objs.size := Heap.lt_size e2
  rw [PyProof.Rows.sortedHeap_old (Nat.ne_of_lt hb) (by rw [size_push']; exact Nat.lt_succ_of_lt hb)]
  exact Heap.get?_push_of_some _ e2
section
open PySem.Spec L2
variable {X : Cx}
theorem row_at {L : KL} {xs : List (KY × Addr × Value)} (r : Paired Row L xs) : ∀ j : Nat, (xs[j]?).map (·.2.1) = (L[j]?).map (·.2.1) := by
  induction r with
  | nil => intro j; rfl
  | @cons p q ps qs h t ih =>
    intro j
    cases j with
    | zero => show some q.2.1 = some p.2.1; rw [h.2.1]
    | succ j => simpa using ih j
/-- the keys' objects, as a source tells them, are the places of L in turn -/
theorem keys_are {P : Program} {w : World} {L : KL} {xs : List (KY × Addr × Value)} {es : Array DictEntry} {vs : List Value} (r : Paired Row L xs) (he : es.toList = xs.map (entryOfKey (tkind P w)))
    (hv : ∀ (j : Nat) (v : Value), vs[j]? = some v → ∃ hi : j < es.size, v = es[j].key) (hn : vs.length = es.size) : vs = L.map fun p => Value.ref p.2.1 := by
  have hl : es.size = L.length := by rw [size_of_entries he]; exact (Paired.length r).symm
  apply List.ext_getElem?
  intro j
  rw [List.getElem?_map]
  by_cases q : j < vs.length
  · rw [List.getElem?_eq_getElem q]
    obtain ⟨hi, e⟩ := hv j _ (List.getElem?_eq_getElem q)
    rw [e]
    have e1 := entry_at he j
    rw [Array.getElem?_eq_getElem hi] at e1
    have e2 := row_at r j
    cases h3 : xs[j]? with
    | none => rw [h3] at e1; cases e1
    | some x =>
      rw [h3] at e1 e2
      have e3 := Option.some.inj e1
      rw [e3]
      cases h4 : L[j]? with
      | none => rw [h4] at e2; cases e2
      | some p =>
        rw [h4] at e2
        have e4 : x.2.1 = p.2.1 := Option.some.inj e2
        show some (Value.ref x.2.1) = some (Value.ref p.2.1)
        rw [e4]
  · rw [List.getElem?_eq_none (by omega), List.getElem?_eq_none (by omega)]; rfl
theorem vals_refs : ∀ L : KL, Vals (L.map fun p => V.ref p.2.1) (L.map fun p => Value.ref p.2.1)
  | [] => .nil
  | p :: L => .cons rfl (vals_refs L)
theorem inl_inj : ∀ l m : List Int, l.map (NestedKey.num : Int → NestedKey) = m.map NestedKey.num → l = m
  | [], [], _ => rfl
  | [], _ :: _, e => by simp at e
  | _ :: _, [], e => by simp at e
  | x :: l, y :: m, e => by
    rw [List.map_cons, List.map_cons] at e
    injection e with e1 e2
    rw [NestedKey.num.inj e1, inl_inj l m e2]
theorem perm_map {α β : Type} (f : α → β) {l₁ l₂ : List β} (h : l₁.Perm l₂) : ∀ L : List α, l₂ = L.map f → ∃ L' : List α, L'.Perm L ∧ L'.map f = l₁ := by
  induction h with
  | nil => intro L e; cases L with
    | nil => exact ⟨[], .refl _, rfl⟩
    | cons p L => simp at e
  | cons x _ ih => intro L e; cases L with
    | nil => simp at e
    | cons p L =>
      rw [List.map_cons] at e
      injection e with e1 e2
      obtain ⟨L', h1, h2⟩ := ih L e2
      exact ⟨p :: L', h1.cons p, by rw [List.map_cons, h2, e1]⟩
  | swap x y l => intro L e; match L, e with
    | [], e => simp at e
    | [p], e => simp at e
    | p :: q :: L, e =>
      simp only [List.map_cons] at e
      injection e with e1 e2
      injection e2 with e2 e3
      exact ⟨q :: p :: L, .swap _ _ _, by simp only [List.map_cons]; rw [← e1, ← e2, ← e3]⟩
  | trans _ _ ih1 ih2 =>
    intro L e
    obtain ⟨L2, h1, h2⟩ := ih2 L e
    obtain ⟨L1, h3, h4⟩ := ih1 L2 h2.symm
    exact ⟨L1, h3.trans h1, h4⟩
/-- sorted(d), the keys tuples of n ints in [0, B), any number of them -/
theorem cr_sorted (hc : X.calm = true) {n : Nat} {B : Int} (hd : 1 ≤ n) : CallR X (.builtin "sorted") (fun xs H Q => ∃ a L ep, xs = [.ref a] ∧ H a = some (DicO X.prog X.w a L ep) ∧ Keyed X.K H L ∧ (∀ p ∈ L, ∃ ns : List Int, p.1 = ns.map NestedKey.num ∧ ns.length = n ∧ TS.Bd B ns) ∧
    ∀ (L' : KL) (p : Addr), L'.Perm L → L'.Pairwise (fun x y => ∀ ns ms : List Int, x.1 = ns.map NestedKey.num → y.1 = ms.map NestedKey.num → TS.code B ns ≤ TS.code B ms) → H p = none → Q (.ref p) (upd H p (.lst (L'.map fun p => V.ref p.2.1)))) := by
  intro pins s σ H xs us Q I r h
  obtain ⟨a, L, ep, rfl, ha, hk, hB, q⟩ := h
  rw [Vals.ref1 r]
  obtain ⟨lo, hz, xs, rr, o, es, ho, hex, hdat, hes, _⟩ := full I ha hk
  have hsz : es.size = L.length := by rw [size_of_entries hes]; exact (Paired.length rr).symm
  have tup : ∀ p ∈ L, ∃ ns : List Int, TS.TupInts s.heap (.ref p.2.1) ns ∧ p.1 = ns.map NestedKey.num ∧ ns.length = n ∧ TS.Bd B ns := fun p hp => by
    obtain ⟨ns, e1, e2, e3⟩ := hB p hp
    have t := hk p hp
    rw [e1] at t
    exact ⟨ns, tupI_raw I (ns := ns) t.num, e1, e2, e3⟩
  have tok : ∀ (h₁ : Heap), (∀ b o, s.heap.get? b = some o → h₁.get? b = some o) → TS.TupsOk h₁ n B (L.map fun p => Value.ref p.2.1) := fun h₁ k v hv => by
    obtain ⟨p, hp, rfl⟩ := List.mem_map.mp hv
    obtain ⟨ns, t, _, e2, e3⟩ := tup p hp
    exact ⟨ns, t.keeps fun b o e _ => k b o e, e2, e3⟩
  refine sorted_src (ltv := TS.ltC fun v => TS.code B (TS.intsOf s.heap v)) (src (es := es) (ep := ep) lo) (I.ok.hd hc) ⟨o, ho, hex, hdat⟩ (by rw [hsz]; exact hz) (TS.swo_rank _) (fun h₁ tk vs c hv hn hc' k h2 => ?_) fun h' h₁ tk vs out p e hv hn h1 h2 k k2 hp hat => ?_
  · have ev := keys_are rr hes hv hn
    subst ev
    refine TS.tups_sortableO (s := { s with heap := h₁, toks := tk }) hd h2 (tok h₁ k) (fun v hv' ns t => ?_) fun u e => ?_
    · obtain ⟨p, hp, rfl⟩ := List.mem_map.mp hv'
      obtain ⟨ns0, t0, _⟩ := tup p hp
      have e : ns = ns0 := t.ints.symm.trans (t0.keeps fun b o e _ => k b o e).ints
      rw [e]
      exact TS.rank_of t0
    · have e' : some u = some (seqObj "list" (L.map fun p => Value.ref p.2.1).toArray 0) := e.symm.trans hc'
      cases e'
      intro c
      exact absurd (Value.type.inj c) (by decide)
  · have ev := keys_are rr hes hv hn
    subst ev
    obtain ⟨L', pL, eo⟩ := perm_map (fun p : KY × Addr × V => Value.ref p.2.1) h2.perm L rfl
    have I1 : Inv X pins σ H { s with heap := h', toks := tk } := I.kept k
    have hv2 : Vals (L'.map fun p => V.ref p.2.1) out := by
      rw [← eo]
      exact vals_refs L'
    have hlen : (L'.map fun p => V.ref p.2.1).length ≤ sizeLine := by rw [List.length_map, pL.length_eq]; exact hz
    refine ⟨.ref p, upd H p (.lst (L'.map fun p => V.ref p.2.1)), I1.laid (t' := tk) k2 hp ⟨hlen, out, e, hv2, hat⟩, rfl, q L' p pL ?_ (I1.hok.fresh hp)⟩
    have h1' : (L'.map fun p => Value.ref p.2.1).Pairwise (fun x y => TS.ltC (fun v => TS.code B (TS.intsOf s.heap v)) y x = false) := by rw [eo]; exact h1
    refine (List.pairwise_map.mp h1').imp_of_mem fun {x y} hx hy hxy ns ms e1 e2 => ?_
    obtain ⟨ns', t1, f1, _⟩ := tup x (pL.mem_iff.mp hx)
    obtain ⟨ms', t2, f2, _⟩ := tup y (pL.mem_iff.mp hy)
    have inj : ∀ l m : List Int, l.map (NestedKey.num : Int → NestedKey) = m.map NestedKey.num → l = m := inl_inj
    have g1 : ns = ns' := inj _ _ (e1.symm.trans f1)
    have g2 : ms = ms' := inj _ _ (e2.symm.trans f2)
    rw [g1, g2, ← TS.rank_of (B := B) t1, ← TS.rank_of (B := B) t2]
    exact Int.not_lt.mp (of_decide_eq_false hxy)
end
end DI
namespace DI
open PySem PySem.Spec PyProof.Rows L2
section
variable {X : Cx}
theorem cr_len : CallR X (.builtin "len") (fun xs H Q => ∃ a L ep, xs = [.ref a] ∧ H a = some (DicO X.prog X.w a L ep) ∧ Keyed X.K H L ∧ Q (.int ((L.length : Nat) : Int)) H) := by
  intro pins s σ H xs us Q I r h
  obtain ⟨p, L, ep, rfl, hp, hk, q⟩ := h
  rw [Vals.ref1 r]
  obtain ⟨hd, z, ys, rel, _, _, _, _, _, _, dd⟩ := full I hp hk
  have hl : L.length = ys.length := Paired.length rel
  refine call_len_dictH hd dd (by rw [← hl]; rw [sizeLine_eq] at z; omega) ?_
  rw [← hl]
  exact ⟨.int ((L.length : Nat) : Int), H, I.tok _, ⟨_, rfl⟩, q⟩
def putAll (acc L0 : KL) : KL := L0.foldl (fun acc q => putL acc q.1 q.2.1 q.2.2) acc
theorem merge {L0 : KL} {rs : List (KY × Addr × Value)} (r : Paired Row L0 rs) : ∀ {acc : KL} {xs : List (KY × Addr × Value)}, Paired Row acc xs → Paired Row (putAll acc L0) (storedAllH xs rs) := by
  induction r with
  | nil => intro acc xs h; exact h
  | @cons p q ps qs hq t ih =>
    intro acc xs h
    obtain ⟨h1, h2, h3⟩ := hq
    have z := put h p.1 (b := p.2.1) h3
    rw [h1, h2] at z
    have z2 := ih z
    show Paired Row (putAll (putL acc p.1 p.2.1 p.2.2) ps) (storedAllH (storedH xs q.1 q.2.1 q.2.2) qs)
    rw [h1, h2]
    exact z2
theorem length_putAll : ∀ (L0 acc : KL), (putAll acc L0).length ≤ acc.length + L0.length
  | [], acc => by show acc.length ≤ acc.length + 0; omega
  | p :: L0, acc => by
    have h1 := length_putAll L0 (putL acc p.1 p.2.1 p.2.2)
    have h2 := length_putL acc p.1 p.2.1 p.2.2
    show (putAll (putL acc p.1 p.2.1 p.2.2) L0).length ≤ _
    rw [List.length_cons]; omega
theorem carries {pins : List (Addr × Obj)} {σ : L2.St} {H : Hp} {s : Shared} (I : Inv X pins σ H s) : ∀ {L0 : KL} {ws : List (Value × Value)}, Keyed X.K H L0 → VV (L0.map fun q => (V.ref q.2.1, q.2.2)) ws →
    ∃ rs, CarriesH (tkind X.prog X.w) s.heap ws rs ∧ Paired Row L0 rs
  | [], _, _, r => by rw [List.map_nil] at r; cases r; exact ⟨[], True.intro, .nil⟩
  | p :: L0, _, hk, r => by
    rw [List.map_cons] at r
    cases r with
    | @cons a b as bs h t =>
      obtain ⟨rs, c, q⟩ := carries I (fun z hz => hk z (List.mem_cons_of_mem _ hz)) t
      obtain ⟨b1, b2⟩ := b
      obtain ⟨h1, h2⟩ := h
      exact ⟨(p.1, p.2.1, b2) :: rs, ⟨h1, rfl, key I (hk p List.mem_cons_self), c⟩, .cons ⟨rfl, rfl, h2⟩ q⟩
/-- {k: v, ..} with tuples as keys; the new dict stands empty while the pairs are made -/
def tDispT (X : Cx) (trs : List (TE × TE)) : TE := fun σ H Q => ∀ p, H p = none → tPairs trs σ (upd H p (DicO X.prog X.w p [] 0)) fun ps H2 => H2 p = some (DicO X.prog X.w p [] 0) ∧
  ∃ L0 : KL, ps = L0.map (fun q => (V.ref q.2.1, q.2.2)) ∧ L0.length ≤ 15 ∧ Keyed X.K H2 L0 ∧ ∀ ep : Nat, Q (.ref p) (upd H2 p (DicO X.prog X.w p (putAll [] L0) ep))
theorem pe_dispT {pos : Pos} {keys : List (Option Expr)} {values : List Expr} {trs : List (TE × TE)} (h : PPs X pos keys values trs) (hall : keys.all (·.isSome) = true) (hl : keys.length = values.length) (h0 : keys ≠ [])
    (h15 : keys.length ≤ 15) (hu : X.A.units + 64 < cLine) : PE X (.Dict keys values pos) (tDispT X trs) := by
  refine ⟨fun pins s σ H Q I q => ?_⟩
  have hn := I.hok.fresh (Nat.le_refl s.heap.objs.size)
  have I1 := I.laid (a := s.heap.objs.size) (o := DicO X.prog X.w s.heap.objs.size [] 0) (h' := s.heap.push { cls := .type "dict", data := .dict #[] }) (t' := s.toks) (fun _ _ q => Heap.get?_push_of_some _ q) (Nat.le_refl _)
    (dic_new ⟨beq_eq_false_iff_ne.mpr (Ne.symm (Nat.ne_of_lt I.big)), Nat.zero_le _, [], .nil, _, #[], Heap.get?_push_size _ rfl, ⟨rfl, rfl, rfl⟩, rfl, rfl, List.nodup_nil⟩)
  have hlen := pairTrees_length keys values X.env pos hall hl
  have hne : pairTrees keys values X.env pos ≠ [] := by
    intro he
    rw [he] at hlen
    exact h0 (List.length_eq_zero_iff.mp hlen.symm)
  rw [arm_eval_Dict, zip_pairTrees keys values X.env pos hall hl, dictDisplay_pairs _ hne (by omega)]
  refine wpAny_bind (wpAny_standAt (wpAny_bind (wpAny_subDictH (knd := tkind X.prog X.w) (Q := fun d s' => wpAny (model X.prog X.w) X.A (pure (Value.ref d)) (EP X pins σ Q) X.xe s') (tkind_room hu) (by rw [hlen]; exact h15)
    (thn (h.run pins _ σ _ _ I1 (q _ hn)) fun ws s2 ⟨ps, H2, I2, rel, e, L0, ep, lk, ky, q2⟩ => ?_))))
  subst ep
  obtain ⟨rs, c, rk⟩ := carries I2 ky rel
  obtain ⟨hd, z, xs, r0, _, _, _, _, _, _, dd⟩ := full I2 e (fun p hp => nomatch hp)
  cases r0
  refine ⟨rs, c, dd, fun h' tk dd' hs => wpAny_pure ?_⟩
  have hz : (putAll [] L0).length ≤ sizeLine := by
    have h1 := length_putAll L0 []
    rw [List.length_nil] at h1
    rw [sizeLine_eq]; omega
  obtain ⟨o, es, ep, ho, h2, h3, h4, _, h5⟩ := dd'
  refine ⟨.ref s.heap.objs.size, _, ?_, rfl, q2 ep⟩
  exact d_write I2 (by rw [e]; exact True.intro) hs ⟨o, ho⟩ (dic_new ⟨hd, hz, _, merge rk .nil, o, es, ho, h2, h3, h4, h5⟩)
end
end DI

/-! a dict keyed by tuples, walked by its keys, values or pairs. -/
namespace DI
open PySem PySem.Spec PyProof.Rows L2
section
variable {X : Cx} {pins : List (Addr × Obj)} {σ : L2.St} {H : Hp} {s : Shared} {a : Addr} {L M : KL} {ep : Nat}
theorem ents_inj {P : Program} {w : World} : ∀ {xs ys : List (KY × Addr × Value)}, xs.map (entryOfKey (tkind P w)) = ys.map (entryOfKey (tkind P w)) → xs.map (·.2) = ys.map (·.2)
  | [], [], _ => rfl
  | [], _ :: _, e => by simp at e
  | _ :: _, [], e => by simp at e
  | x :: xs, y :: ys, e => by
    rw [List.map_cons, List.map_cons] at e
    injection e with e1 e2
    have k := congrArg DictEntry.key e1
    have v := congrArg DictEntry.val e1
    have k1 : x.2.1 = y.2.1 := Value.ref.inj k
    have v1 : x.2.2 = y.2.2 := v
    rw [List.map_cons, List.map_cons, ents_inj e2, Prod.ext k1 v1]
theorem rows_inj (I : Inv X pins σ H s) : ∀ {l m : KL} {xs ys : List (KY × Addr × Value)}, Paired Row l xs → Paired Row m ys → Keyed X.K H l → Keyed X.K H m → xs.map (·.2) = ys.map (·.2) → l = m
  | _, _, _, _, .nil, .nil, _, _, _ => rfl
  | _, _, _, _, .nil, .cons _ _, _, _, e => by simp at e
  | _, _, _, _, .cons _ _, .nil, _, _, e => by simp at e
  | _, _, _, _, .cons (a := p) (b := x) h t, .cons (a := q) (b := y) h' t', k, k', e => by
    rw [List.map_cons, List.map_cons] at e
    injection e with e1 e2
    have r := rows_inj I t t' (fun z hz => k z (List.mem_cons_of_mem _ hz)) (fun z hz => k' z (List.mem_cons_of_mem _ hz)) e2
    have a1 : p.2.1 = q.2.1 := by rw [h.2.1, h'.2.1, e1]
    have v1 : p.2.2 = q.2.2 := RelV.inj h.2.2 (by rw [e1]; exact h'.2.2)
    have t1 := k p List.mem_cons_self
    have t2 := k' q List.mem_cons_self
    rw [a1] at t1
    have c1 : p.1 = q.1 := (tkind X.prog X.w).inj (key I t1) (key I t2)
    have pq : p = q := Prod.ext c1 (Prod.ext a1 v1)
    rw [pq, r]
/-- what stands in the dict is told once -/
theorem dic_inj (I : Inv X pins σ H s) (e : H a = some (DicO X.prog X.w a L ep)) (e' : H a = some (DicO X.prog X.w a M ep)) (k : Keyed X.K H L) (k' : Keyed X.K H M) : L = M := by
  obtain ⟨_, _, xs, r, o, es, h1, _, h3, h4, _⟩ := full I e k
  obtain ⟨_, _, ys, r', o', es', g1, _, g3, g4, _⟩ := full I e' k'
  rw [h1] at g1
  cases g1
  rw [h3] at g3
  injection g3 with g3 _
  subst g3
  exact rows_inj I r r' k k' (ents_inj (h4.symm.trans g4))
end
abbrev Has (P : Program) (w : World) (K : PySem.W.Frag) (d : Addr) (ep n : Nat) (H : Hp) (L : KL) : Prop := H d = some (DicO P w d L ep) ∧ Keyed K H L ∧ L.length = n
/-- the walks of n turns over the dict at d, nothing stored meanwhile: keys, values, pairs -/
def Wk (P : Program) (w : World) (K : PySem.W.Frag) (d : Addr) (ep n : Nat) (f : KY × Addr × V → V) : It :=
  ⟨fun i H => (∃ L, Has P w K d ep n H L) ∧ i < n, fun i H x H' => H' = H ∧ ∀ L, Has P w K d ep n H L → ∃ p, L[i]? = some p ∧ x = f p, fun i H => (∃ L, Has P w K d ep n H L) ∧ n ≤ i⟩
def Wp (P : Program) (w : World) (K : PySem.W.Frag) (d : Addr) (ep n : Nat) : It :=
  ⟨fun i H => (∃ L, Has P w K d ep n H L) ∧ i < n, fun i H x H' => ∃ T k v, x = .ref T ∧ H T = none ∧ H' = upd H T (.tup [.ref k, v]) ∧ ∀ L, Has P w K d ep n H L → ∃ p, L[i]? = some p ∧ k = p.2.1 ∧ v = p.2.2,
    fun i H => (∃ L, Has P w K d ep n H L) ∧ n ≤ i⟩
section
variable {P : Program} {w : World} {K : PySem.W.Frag} {tg : Expr} {d : Addr} {ep n : Nat}
/-- the dict as a turn finds it -/
theorem found {X : Cx} {pins : List (Addr × Obj)} {σ : L2.St} {H : Hp} {s : Shared} {L : KL} (I : Inv X pins σ H s) (h : Has X.prog X.w X.K d ep n H L) :
    (d == sysModules) = false ∧ L.length ≤ sizeLine ∧ ∃ xs es, Paired Row L xs ∧ es.toList = xs.map (entryOfKey (tkind X.prog X.w)) ∧ es.size = n ∧ s.heap.DictRaw d es ep := by
  obtain ⟨z, z2, xs, r, o, es, ho, hex, hdat, hes, _⟩ := full I h.1 h.2.1
  exact ⟨z, z2, xs, es, r, hes, by rw [size_of_entries hes, ← Paired.length r]; exact h.2.2, o, ho, hex, hdat⟩
theorem ent {L : KL} {xs : List (KY × Addr × Value)} {es : Array DictEntry} {i : Nat} {P : Program} {w : World} (r : Paired Row L xs) (he : es.toList = xs.map (entryOfKey (tkind P w))) (hi : i < es.size) :
    ∃ p, L[i]? = some p ∧ es[i].key = .ref p.2.1 ∧ RelV p.2.2 es[i].val := by
  have hl : xs.length = es.size := by rw [size_of_entries he]
  have hx : i < xs.length := by omega
  have hL : i < L.length := by rw [Paired.length r]; exact hx
  obtain ⟨q, g1, g2⟩ := paired_get r (List.getElem?_eq_getElem hL)
  have e1 := entry_at he i
  rw [Array.getElem?_eq_getElem hi, g1] at e1
  have e3 := Option.some.inj e1
  exact ⟨L[i], List.getElem?_eq_getElem hL, by rw [e3, g2.2.1]; rfl, by rw [e3]; exact g2.2.2⟩
theorem turn_k (it : Addr) : Turn P w K tg (Wk P w K d ep n fun p => .ref p.2.1) [it] it (fun i h => h.IsKeyIter it d i n ep) where
  mem := List.mem_cons_self
  obj := fun i h ⟨oi, e, _, dd⟩ b hb => by
    rw [List.mem_singleton.mp hb]
    exact ⟨oi, e, fun v z => by rw [dd] at z; cases z⟩
  keep := fun i h h' st k => st.at fun oi e => k it List.mem_cons_self oi e
  item := by
    intro X eP eW eK calm i pins s σ H E I apart now going
    subst eP eW eK
    obtain ⟨⟨L, hL⟩, hi⟩ := going
    obtain ⟨a0, a1, a2, a3, a4, a5⟩ := apart it List.mem_cons_self
    obtain ⟨lo, _, xs, es, rr, hes, hsz, o, ho, hex, hdat⟩ := found I hL
    obtain ⟨p, p1, p2, _⟩ := ent rr hes (i := i) (by omega)
    have e1 : es[i]? = some es[i] := Array.getElem?_eq_getElem (by omega)
    refine next_key_item now ho hdat hsz e1 fun h' now' same => ?_
    have I1 : Inv X pins σ H { s with heap := h' } := I.turned (t' := s.toks) (fun b ob hb e => (same.2 b hb).trans e) a0 a1 a3 a4 a5
    obtain ⟨oi, e, c, dd⟩ := id now'
    refine ⟨_, rfl, go_of (s := { s with heap := h' }) e c dd (by decide) ⟨.ref p.2.1, H, I1, by rw [p2]; rfl, ⟨rfl, fun M hM => ?_⟩, now', fun b hb => (apart b hb).1⟩⟩
    rw [dic_inj I hM.1 hL.1 hM.2.1 hL.2.1]
    exact ⟨p, p1, rfl⟩
  done := by
    intro X eP eW eK calm i pins s σ H E I apart now over
    subst eP eW eK
    obtain ⟨⟨L, hL⟩, hi⟩ := over
    obtain ⟨a0, a1, a2, a3, a4, a5⟩ := apart it List.mem_cons_self
    obtain ⟨lo, _, xs, es, rr, hes, hsz, o, ho, hex, hdat⟩ := found I hL
    exact next_key_end (I.ok.hd calm) now ho hdat hsz hi fun h' same => ⟨rfl, I.turned (t' := s.toks) (fun b ob hb e => same b ob hb e) a0 a1 a3 a4 a5⟩
  self := fun A i s Q E st h => by
    refine wpAny_pyIter_slot st.typeIs F.slot_dict_keyiterator_iter (wpAny_call_entry F.slot_dict_keyiterator_iter st.typeIs F.entry_dict_keyiterator_iter ?_ (F.args_dict_keyiterator_iter_1 _))
    exact wpAny_pure ⟨_, rfl, "dict_keyiterator", _, st.typeIs, F.slot_dict_keyiterator_next.lookup, h⟩
theorem turn_v (it : Addr) : Turn P w K tg (Wk P w K d ep n fun p => p.2.2) [it] it (fun i h => h.IsValIter it d i n ep) where
  mem := List.mem_cons_self
  obj := fun i h ⟨oi, e, _, dd⟩ b hb => by
    rw [List.mem_singleton.mp hb]
    exact ⟨oi, e, fun v z => by rw [dd] at z; cases z⟩
  keep := fun i h h' st k => st.at fun oi e => k it List.mem_cons_self oi e
  item := by
    intro X eP eW eK calm i pins s σ H E I apart now going
    subst eP eW eK
    obtain ⟨⟨L, hL⟩, hi⟩ := going
    obtain ⟨a0, a1, a2, a3, a4, a5⟩ := apart it List.mem_cons_self
    obtain ⟨lo, _, xs, es, rr, hes, hsz, raw⟩ := found I hL
    subst hsz
    obtain ⟨p, p1, _, p3⟩ := ent rr hes hi
    refine wpAny_pyNext_values_item_raw now raw hi fun h' now' same => ?_
    have I1 : Inv X pins σ H { s with heap := h' } := I.turned (t' := s.toks) (fun b ob hb e => (same.2 b hb).trans e) a0 a1 a3 a4 a5
    obtain ⟨oi, e, c, dd⟩ := id now'
    refine ⟨_, rfl, go_of (s := { s with heap := h' }) e c dd (by decide) ⟨p.2.2, H, I1, p3, ⟨rfl, fun M hM => ?_⟩, now', fun b hb => (apart b hb).1⟩⟩
    rw [dic_inj I hM.1 hL.1 hM.2.1 hL.2.1]
    exact ⟨p, p1, rfl⟩
  done := by
    intro X eP eW eK calm i pins s σ H E I apart now over
    subst eP eW eK
    obtain ⟨⟨L, hL⟩, hi⟩ := over
    obtain ⟨a0, a1, a2, a3, a4, a5⟩ := apart it List.mem_cons_self
    obtain ⟨lo, _, xs, es, rr, hes, hsz, raw⟩ := found I hL
    subst hsz
    exact wpAny_pyNext_values_end_raw (I.ok.hd calm) now raw hi fun h' same => ⟨rfl, I.turned (t' := s.toks) (fun b ob hb e => same b ob hb e) a0 a1 a3 a4 a5⟩
  self := fun A i s Q E st h => wpAny_pyIter_valiter st h
theorem turn_p {elts : List Expr} {kk : Nat} {tpos : Pos} (it : Addr) : Turn P w K (.Tuple elts kk tpos) (Wp P w K d ep n) [it] it (fun i h => ∃ ok ov, IsItemIter h it d i n ep ok ov) where
  mem := List.mem_cons_self
  obj := fun i h ⟨ok, ov, e⟩ b hb => by
    rw [List.mem_singleton.mp hb]
    exact ⟨_, e, fun v z => nomatch z⟩
  keep := fun i h h' ⟨ok, ov, e⟩ k => ⟨ok, ov, k it List.mem_cons_self _ e⟩
  item := by
    intro X eP eW eK calm i pins s σ H E I apart now going
    subst eP eW eK
    obtain ⟨⟨L, hL⟩, hi⟩ := going
    obtain ⟨lo, _, xs, es, rr, hes, hsz, raw⟩ := found I hL
    subst hsz
    obtain ⟨p, p1, p2, p3⟩ := ent rr hes hi
    obtain ⟨ok, ov, now⟩ := now
    have small : it < s.heap.objs.size := Heap.lt_size now
    refine wpAny_pyNext_items_item_raw now raw hi fun h' out pair more kept => ?_
    refine ⟨_, rfl, wpAny_letOwnedTupleGo_items (s := { s with heap := h' }) out fun h'' now'' same => ?_⟩
    rw [p2] at pair
    have pair2 : h''.get? s.heap.objs.size = some { cls := .type "tuple", data := .seq #[.ref p.2.1, es[i].val] } := (same.2 _ (Nat.ne_of_gt small)).trans pair
    have new : ObjOk X.prog X.w (upd H s.heap.objs.size (.tup [.ref p.2.1, p.2.2])) h'' s.heap.objs.size (.tup [.ref p.2.1, p.2.2]) :=
      ⟨by show 2 ≤ sizeLine; decide, [.ref p.2.1, es[i].val], .cons rfl (.cons p3 .nil), ⟨_, pair2, rfl, _, rfl⟩⟩
    have I1 : Inv X pins σ (upd H s.heap.objs.size (.tup [.ref p.2.1, p.2.2])) { s with heap := h'' } :=
      I.turnedNew (t' := s.toks) (ch := [it]) (fun b ob hb e => (same.2 b (fun z => hb (by rw [z]; exact List.mem_cons_self))).trans (kept b ob (fun z => hb (by rw [z]; exact List.mem_cons_self)) e)) apart (Nat.le_refl _) new
    refine ⟨.ref s.heap.objs.size, _, I1, rfl, ⟨_, p.2.1, p.2.2, rfl, I.hok.fresh (Nat.le_refl _), rfl, fun M hM => ?_⟩, ⟨_, _, now''⟩, fun b hb => ?_⟩
    · rw [dic_inj I hM.1 hL.1 hM.2.1 hL.2.1]
      exact ⟨p, p1, rfl, rfl⟩
    · rw [List.mem_singleton.mp hb, upd_ne (Nat.ne_of_lt small)]
      exact (apart it List.mem_cons_self).1
  done := by
    intro X eP eW eK calm i pins s σ H E I apart now over
    subst eP eW eK
    obtain ⟨⟨L, hL⟩, hi⟩ := over
    obtain ⟨a0, a1, a2, a3, a4, a5⟩ := apart it List.mem_cons_self
    obtain ⟨lo, _, xs, es, rr, hes, hsz, raw⟩ := found I hL
    subst hsz
    obtain ⟨ok, ov, now⟩ := now
    exact wpAny_pyNext_items_end_raw (I.ok.hd calm) now raw hi fun h' same => ⟨rfl, I.turned (t' := s.toks) (fun b ob hb e => same b ob hb e) a0 a1 a3 a4 a5⟩
  self := fun A i s Q E st h => let ⟨_, _, e⟩ := st; PySem.W.kcp_self e h
end
section
variable {X : Cx} {tg e : Expr} {td : TE} {apos cpos : Pos}
def iWk (X : Cx) (f : KY × Addr × V → V) (td : TE) : TI := fun σ H R => td σ H fun x H1 => ∃ d L ep, x = .ref d ∧ H1 d = some (DicO X.prog X.w d L ep) ∧ Keyed X.K H1 L ∧ R (Wk X.prog X.w X.K d ep L.length f) H1
def iWp (X : Cx) (td : TE) : TI := fun σ H R => td σ H fun x H1 => ∃ d L ep, x = .ref d ∧ H1 d = some (DicO X.prog X.w d L ep) ∧ Keyed X.K H1 L ∧ R (Wp X.prog X.w X.K d ep L.length) H1
theorem pi_dk (he : PE X e td) : PI X tg e (iWk X (fun p => .ref p.2.1) td) := by
  refine ⟨fun pins s σ H R I h => thn (he.run pins s σ H _ I h) fun u s1 ⟨x, H1, I1, rx, d, L, ep, ex, hd, hk, q⟩ => ?_⟩
  subst ex
  obtain rfl : u = Value.ref d := rx
  obtain ⟨lo, _, xs, es, rr, hes, hsz, o, ho, hex, hdat⟩ := found I1 ⟨hd, hk, rfl⟩
  refine iter_keys lo ho hex hdat (pi_one (tk := s1.toks) I1 _ (turn_k _) ⟨_, Heap.get?_push_size _ rfl, rfl, ?_⟩ q)
  rw [hsz] <;> rfl
theorem pi_dv (he : PE X e td) (hbase : attributeBase e "values" X.env (eval e X.env) = eval e X.env := by rfl) (hline : (apos.endLine == cpos.line) = true := by rfl) :
    PI X tg (.Call (.Attribute e "values" apos) [] [] cpos) (iWk X (fun p => p.2.2) td) := by
  refine ⟨fun pins s σ H R I h => wpAny_Call_method (T := "dict") (id := "dict.values") hbase rfl hline F.plainAttrs_dict F.slot_dict_values F.type_dict_values (thn (he.run pins s σ H _ I h) fun u s1 ⟨x, H1, I1, rx, d, L, ep, ex, hd, hk, q⟩ => ?_)⟩
  subst ex
  obtain rfl : u = Value.ref d := rx
  obtain ⟨lo, _, xs, es, rr, hes, hsz, raw⟩ := found I1 ⟨hd, hk, rfl⟩
  have raw2 := raw
  obtain ⟨o, ho, hex, hdat⟩ := raw2
  refine ⟨raw.typeIs, fun b e => ⟨o, by cases e; exact ho, hex.2.1⟩, ?_⟩
  have I2 : Inv X pins σ H1 { s1 with heap := s1.heap.push { cls := .type "dict_values", data := .fields #[.ref d] } } := I1.kept (t' := s1.toks) fun b ob q => Heap.get?_push_of_some _ q
  have fin : wpAny (model X.prog X.w) X.A (pyIter (.ref s1.heap.objs.size)) (PIE X pins σ tg R) X.xe { s1 with heap := s1.heap.push { cls := .type "dict_values", data := .fields #[.ref d] } } := by
    refine wpAny_pyIter_values_raw (d := d) ⟨_, Heap.get?_push_size _ rfl, rfl, rfl⟩ (raw.push _) (pi_one (tk := s1.toks) I2 _ (turn_v _) ⟨_, Heap.get?_push_size _ rfl, rfl, ?_⟩ q)
    rw [hsz] <;> rfl
  show wpAny _ _ (callWith cpos (.builtin "dict.values") [.ref d] [] []) _ X.xe s1
  exact method_meetsIn F.slot_dict_values F.entry_dict_values rfl (PySem.evalArgs_none ⟨rfl, raw.typeIs, F.args_dict_values_1 _, _, meets_dict_values_raw d lo, ⟨es, ep, raw⟩, fin⟩)
theorem pi_dp {elts : List Expr} {kk : Nat} {tpos : Pos} (he : PE X e td) (hbase : attributeBase e "items" X.env (eval e X.env) = eval e X.env := by rfl) (hline : (apos.endLine == cpos.line) = true := by rfl) :
    PI X (.Tuple elts kk tpos) (.Call (.Attribute e "items" apos) [] [] cpos) (iWp X td) := by
  refine ⟨fun pins s σ H R I h => wpAny_Call_method (T := "dict") (id := "dict.items") hbase rfl hline F.plainAttrs_dict F.slot_dict_items F.type_dict_items (thn (he.run pins s σ H _ I h) fun u s1 ⟨x, H1, I1, rx, d, L, ep, ex, hd, hk, q⟩ => ?_)⟩
  subst ex
  obtain rfl : u = Value.ref d := rx
  obtain ⟨lo, _, xs, es, rr, hes, hsz, raw⟩ := found I1 ⟨hd, hk, rfl⟩
  have raw2 := raw
  obtain ⟨o, ho, hex, hdat⟩ := raw2
  refine ⟨raw.typeIs, fun b e => ⟨o, by cases e; exact ho, hex.2.1⟩, ?_⟩
  have I2 : Inv X pins σ H1 { s1 with heap := s1.heap.push { cls := .type "dict_items", data := .fields #[.ref d] } } := I1.kept (t' := s1.toks) fun b ob q => Heap.get?_push_of_some _ q
  have fin : wpAny (model X.prog X.w) X.A (pyIter (.ref s1.heap.objs.size)) (PIE X pins σ (.Tuple elts kk tpos) R) X.xe { s1 with heap := s1.heap.push { cls := .type "dict_items", data := .fields #[.ref d] } } := by
    refine wpAny_pyIter_items_raw (d := d) ⟨_, Heap.get?_push_size _ rfl, rfl, rfl⟩ (raw.push _) (pi_one (tk := s1.toks) I2 _ (turn_p _) ⟨.none, .none, ?_⟩ q)
    rw [hsz]
    exact Heap.get?_push_size _ rfl
  show wpAny _ _ (callWith cpos (.builtin "dict.items") [.ref d] [] []) _ X.xe s1
  exact method_meetsIn F.slot_dict_items F.entry_dict_items rfl (PySem.evalArgs_none ⟨rfl, raw.typeIs, F.args_dict_items_1 _, _, meets_dict_items_raw d lo, ⟨es, ep, raw⟩, fin⟩)
end
end DI

/-! enumerate of a tuple -/
namespace ET
open PySem PySem.Spec PyProof.Rows L2
open Sem (wp)
theorem en_made (l : Addr) (items : Array Value) :
    Meets (Builtin.«enumerate.__new__» ⟨[.type "enumerate", .ref l], []⟩) (fun _ R s => s.heap.IsTuple l items ∧
      R (.ok (.ret (.ref (s.heap.push { cls := .type "tuple_iterator", data := .fields #[.ref l, .int 0 0] }).objs.size)))
        { s with heap := (s.heap.push { cls := .type "tuple_iterator", data := .fields #[.ref l, .int 0 0] }).push { cls := .type "enumerate", data := .fields #[.none, .bool false, .ref s.heap.objs.size, rawInt 0, .none, .none] } }) :=
  .of_wp fun prog w A R s h => by
    obtain ⟨hp, g, d, tk, os⟩ := s
    obtain ⟨hT, h⟩ := h
    have sub := sub_enumerate
    have go : ∀ {A' : Around} {E : Value → Shared → Prop} {Q : Value → Shared → Prop}, Q (.ref hp.objs.size) ⟨hp.push { cls := .type "tuple_iterator", data := .fields #[.ref l, .int 0 0] }, g, d, tk, os⟩ → wpAny (model prog w) A' (pyIter (.ref l)) Q E ⟨hp, g, d, tk, os⟩ :=
      fun q => wpAny_pyIter_tuple (s := ⟨hp, g, d, tk, os⟩) hT q
    wp_walk using go
    refine wpAny_stack_any fun st => wpAny_pure ?_
    split
    · rename_i c _ _ _ _ _
      cases (c == Value.type "enumerate")
      · wp_walk using go
        exact ⟨_, rfl, h⟩
      · wp_walk using go
        exact ⟨_, rfl, h⟩
    · wp_walk using go
      exact ⟨_, rfl, h⟩
section
variable {prog : Program} {w : World} {A : Around} {E : Value → Shared → Prop} {s : Shared}
theorem en_call {l : Addr} {items : Array Value} {Q : Value → Shared → Prop} (hT : s.heap.IsTuple l items)
    (h : ∀ h', IsEnum h' (s.heap.objs.size + 1) s.heap.objs.size 0 .none → h'.IsTupleIter s.heap.objs.size l 0 → h'.objs.size = s.heap.objs.size + 2 →
      (∀ b o, s.heap.get? b = some o → h'.get? b = some o) → Q (.ref (s.heap.objs.size + 1)) { s with heap := h' }) :
    wpAny (model prog w) A (call (.type "enumerate") [.ref l]) Q E s := by
  refine callType_new F.called_enumerate (by decide) (F.typeCall_enumerate_1 _) (F.newCall_enumerate_1 _) (fun obj => F.args_object_init_2 obj _) F.entry_enumerate_new
    (en_made l items) ⟨hT, ?_⟩
  have one : (s.heap.push { cls := .type "tuple_iterator", data := .fields #[.ref l, .int 0 0] }).objs.size = s.heap.objs.size + 1 := Heap.size_push ..
  show _ ∧ _
  rw [one]
  have he : IsEnum ((s.heap.push { cls := .type "tuple_iterator", data := .fields #[.ref l, .int 0 0] }).push
      { cls := .type "enumerate", data := .fields #[.none, .bool false, .ref s.heap.objs.size, rawInt 0, .none, .none] }) (s.heap.objs.size + 1) s.heap.objs.size 0 .none := by
    have z := Heap.get?_push_size (s.heap.push { cls := .type "tuple_iterator", data := .fields #[.ref l, .int 0 0] })
      (o := { cls := .type "enumerate", data := .fields #[.none, .bool false, .ref s.heap.objs.size, rawInt 0, .none, .none] }) rfl
    rw [one] at z; exact z
  refine ⟨⟨_, he, rfl⟩, h _ he ⟨_, Heap.get?_push_of_some _ (Heap.get?_push_size _ rfl), rfl, rfl⟩ (by rw [Heap.size_push, one]) fun b o x => Heap.get?_push_of_some _ (Heap.get?_push_of_some _ x)⟩
end
/-- the tuple at a, each item in a new pair with its number -/
def Iet (K : PySem.W.Frag) (a : Addr) : It :=
  ⟨fun i H => ∃ (xs : List V) (x : V), SqT K H a xs ∧ xs[i]? = some x, fun i H v H' => ∃ T x, v = .ref T ∧ H T = none ∧ H' = upd H T (.tup [.int (i : Nat), x]) ∧ ∀ xs, SqT K H a xs → xs[i]? = some x, fun i H => ∃ xs : List V, SqT K H a xs ∧ xs.length ≤ i⟩
theorem turn_et {P : Program} {w : World} {K : PySem.W.Frag} {elts : List Expr} {kk : Nat} {tpos : Pos} (a e it : Addr) :
    Turn P w K (.Tuple elts kk tpos) (Iet K a) [e, it] e (fun i h => (∃ old, IsEnum h e it ((i : Nat) : Int) old) ∧ h.IsTupleIter it a i ∧ e ≠ it ∧ a ≠ it ∧ a ≠ e) where
  mem := List.mem_cons_self
  obj := fun i h ⟨⟨old, he⟩, ⟨o, ho, _, hd⟩, _⟩ b hb => by
    rcases List.mem_cons.mp hb with z | hb
    · rw [z]; exact ⟨_, he, fun v q => nomatch q⟩
    · rw [List.mem_singleton.mp hb]; exact ⟨o, ho, fun v q => by rw [hd] at q; cases q⟩
  keep := fun i h h' ⟨⟨old, he⟩, hi, ne⟩ k => ⟨⟨old, k e List.mem_cons_self _ he⟩, hi.at fun o q => k it (List.mem_cons_of_mem _ List.mem_cons_self) o q, ne⟩
  item := by
    intro X eP eW eK calm i pins s σ H E I apart now going
    subst eP eW eK
    obtain ⟨⟨old, he⟩, hit, ne1, ne2, ne3⟩ := now
    obtain ⟨xs, x, hq, hx⟩ := going
    obtain ⟨its, rv, p, hz⟩ := I.tuple hq
    obtain ⟨u, hu, ru⟩ := rv.get hx
    have el : e < s.heap.objs.size := Heap.lt_size he
    have il : it < s.heap.objs.size := by obtain ⟨_, q, _⟩ := hit; exact Heap.lt_size q
    have lt : i < its.toArray.size := by
      have := (List.getElem?_eq_some_iff.mp hu).1
      simpa using this
    refine wpAny_pyNext_enum_itemD (Draws.tuple (A := X.A.in1) (I.ok.hd calm) it a ne2 its.toArray) he ⟨hit, p⟩ lt ne1 (by simp [ne1, ne3.symm]) fun y h' tk hy out st' pair more kept => ?_
    have ey : y = u := by
      have z : its.toArray[i]? = some u := by simpa using hu
      rw [z] at hy
      exact (Option.some.inj hy).symm
    subst ey
    refine ⟨_, rfl, wpAny_letOwnedTupleGo_enum (s := { s with heap := h', toks := tk + 1 }) out fun h'' now'' same => ?_⟩
    have pair2 : h''.get? s.heap.objs.size = some { cls := .type "tuple", data := .seq #[.int i tk, y] } := (same.2 _ (Nat.ne_of_gt el)).trans pair
    have new : ObjOk X.prog X.w (upd H s.heap.objs.size (.tup [.int (i : Nat), x])) h'' s.heap.objs.size (.tup [.int (i : Nat), x]) :=
      ⟨by show 2 ≤ sizeLine; decide, [.int i tk, y], .cons ⟨_, rfl⟩ (.cons ru .nil), ⟨_, pair2, rfl, _, rfl⟩⟩
    have out2 : ∀ {b : Addr}, b ∉ [e, it] → b ≠ e ∧ b ≠ it := fun hb => ⟨fun z => hb (by rw [z]; exact List.mem_cons_self), fun z => hb (by rw [z]; exact List.mem_cons_of_mem _ List.mem_cons_self)⟩
    have I1 : Inv X pins σ (upd H s.heap.objs.size (.tup [.int (i : Nat), x])) { s with heap := h'', toks := tk + 1 } :=
      I.turnedNew (ch := [e, it]) (fun b ob hb q => (same.2 b (out2 hb).1).trans (kept b ob (out2 hb).1 (out2 hb).2 q)) apart (Nat.le_refl _) new
    refine ⟨.ref s.heap.objs.size, _, I1, rfl, ⟨_, x, rfl, I.hok.fresh (Nat.le_refl _), rfl, fun ys hy => by rw [I.tuple_inj hy hq]; exact hx⟩, ⟨⟨y, ?_⟩, st'.1.at fun o q => (same.2 it (Ne.symm ne1)).trans q, ne1, ne2, ne3⟩, fun b hb => ?_⟩
    · rw [show ((i + 1 : Nat) : Int) = (i : Int) + 1 by omega]; exact now''
    · have lo : b < s.heap.objs.size := by
        rcases List.mem_cons.mp hb with z | hb
        · rw [z]; exact el
        · rw [List.mem_singleton.mp hb]; exact il
      rw [upd_ne (Nat.ne_of_lt lo)]
      exact (apart b hb).1
  done := by
    intro X eP eW eK calm i pins s σ H E I apart now over
    subst eP eW eK
    obtain ⟨⟨old, he⟩, hit, ne1, ne2, ne3⟩ := now
    obtain ⟨xs, hq, hx⟩ := over
    obtain ⟨its, rv, p, hz⟩ := I.tuple hq
    obtain ⟨a0, a1, a2, a3, a4, a5⟩ := apart it (List.mem_cons_of_mem _ List.mem_cons_self)
    have hl := rv.length
    have none_ : its.toArray[i]? = none := by simp; omega
    have D : Draws X.prog X.w X.A.in1 it [it, a] 0 (fun _ _ => True) (fun _ h => h.IsTupleIter it a i ∧ h.IsTuple a its.toArray) := {
      live := fun _ _ st => let ⟨o, ho, _⟩ := st.1; ⟨o, ho⟩
      frame := fun _ _ _ st k => ⟨st.1.at fun o e => k it (by simp) o e, st.2.at fun o e => k a (by simp) o e⟩
      item := fun _ _ _ _ h => absurd h (Nat.not_lt_zero _)
      done := fun s Q E st hE => wpAny_nextOf_tuple_end (A := X.A.in1) (I.ok.hd calm) st.1 st.2 none_ hE }
    exact wpAny_pyNext_enum_endD D he ⟨hit, p⟩ fun h' same => ⟨rfl, I.turned (t' := s.toks) (fun b o hb q => same b o hb q) a0 a1 a3 a4 a5⟩
  self := fun A i s Q E st h => let ⟨⟨_, he⟩, _⟩ := st; wpAny_pyIter_enum he h
def iEnT (K : PySem.W.Frag) (ta : TA) : TI := fun σ H R => ta σ H fun vs H1 => ∃ a xs, vs = [.ref a] ∧ SqT K H1 a xs ∧ R (Iet K a) H1
theorem pi_enumT {X : Cx} {e : Expr} {ta : TA} {p pos tpos : Pos} {elts : List Expr} {kk : Nat} (hg : Gl X "enumerate") (hm : X.mg "enumerate" = none) (ha : PA X [e] ta) (hs : starEach [e] X.env = [(false, eval e X.env)] := by rfl) :
    PI X (.Tuple elts kk tpos) (.Call (.Name "enumerate" p) [e] [] pos) (iEnT X.K ta) := by
  refine ⟨fun pins s σ H R I h => Call_ (ld_blt I hg hm boot_enumerate (PyProof.Rows.callWith_type1 (thn (ha.run pos pins s σ H _ I h) fun us s1 ⟨vs, H1, I1, r1, a, xs, ex, hq, q⟩ => ?_) hs rfl))⟩
  subst ex
  rw [Vals.ref1 r1]
  obtain ⟨its, rv, pt, hz⟩ := I1.tuple hq
  have big : a < s1.heap.objs.size := by obtain ⟨o, ho, _⟩ := pt; exact Heap.lt_size ho
  refine en_call pt fun h' he hit more kept => wpAny_pyIter_enum he ?_
  have I2 : Inv X pins σ H1 { s1 with heap := h' } := I1.kept (t' := s1.toks) kept
  refine ⟨s1.heap.objs.size + 1, [s1.heap.objs.size + 1, s1.heap.objs.size], _, _, H1, rfl, I2, turn_et a (s1.heap.objs.size + 1) s1.heap.objs.size,
    ⟨⟨.none, he⟩, hit, Nat.succ_ne_self _, Nat.ne_of_lt big, Nat.ne_of_lt (Nat.lt_succ_of_lt big)⟩, fun b hb => ?_, q⟩
  have hle : s1.heap.objs.size ≤ b := by
    rcases List.mem_cons.mp hb with z | hb
    · rw [z]; exact Nat.le_succ _
    · rw [List.mem_singleton.mp hb]; exact Nat.le_refl _
  exact I1.fpOk hle (I1.hok.fresh hle)
end ET

namespace MP
open PySem L2

section
variable {X : Cx} {cl : CL} {W : WX}
/-! ### methods of lists -/
def isLst (st : Store) : D → Bool
  | .ref n => (itemsOf st n).isSome
  | _ => false
theorem lst_ty {K : PySem.W.Frag} {H : Hp} {π : List Addr} {st : Store} {o : D} {vo : V} (hs : SR K cl H π st) (r : RV K cl H π o vo) (h : isLst st o = true) : tyV K "list" vo H := by
  cases o with
  | ref n =>
    simp only [RV] at r
    obtain ⟨a, rfl, ha⟩ := r
    obtain ⟨xs, e⟩ := Option.isSome_iff_exists.mp h
    obtain ⟨b, vs, q1, q2, q3⟩ := hs.seq e
    rw [ha] at q1; cases q1
    exact .inl ⟨rfl, vs, q2⟩
  | _ => cases h
def xMeth (f : D → List D → Store → (D → Store → Prop) → Prop) (xo : XE) (a : XA) : XE := fun σ st Q R => xo σ st (fun o st1 => isLst st1 o = true ∧ a σ st1 (fun ds st2 => f o ds st2 Q) R) R
def MethR (K : PySem.W.Frag) (cl : CL) (f : D → List D → Store → (D → Store → Prop) → Prop) (r : V → List V → Hp → VK → Prop) : Prop :=
  ∀ H π st o ds vo vs Q Q0, SR K cl H π st → RV K cl H π o vo → RVs K cl H π ds vs → f o ds st Q0 → QW K cl H π Q Q0 → r vo vs H Q
theorem mp_meth {name : Str} {id : String} {f : D → List D → Store → (D → Store → Prop) → Prop} {r : V → List V → Hp → VK → Prop} {o e : Expr} {es : List Expr} {apos cpos : Pos} {xo : XE} {a : XA} (slot : PySem.Slot "list" name id) (hty : typeOf (.builtin id) = pure (.type "method_descriptor")) (hm : MtR X id r) (hr : MethR X.K cl f r)
    (ho : PE X o (LE X.K cl W xo)) (ha : PA X (e :: es) (LA X.K cl W a)) (hbase : attributeBase o name X.env (eval o X.env) = eval o X.env := by rfl)
    (hfew : ((backTo cpos (starEach (e :: es) X.env)).all (fun x => !x.1) && (backToKw cpos (keywordEach [] X.env)).all (fun x => x.1.isSome)
      && decide ((e :: es).length + ([] : List Keyword).length + (if ([] : List Keyword).isEmpty then 0 else 1) < 30)) = true := by rfl)
    (hline : (apos.endLine == cpos.line) = true := by rfl) (hs : starEach (e :: es) X.env = (false, eval e X.env) :: starEach es X.env := by rfl) (hpl : (backTo cpos (starEach es X.env)).any (·.1) = false := by rfl) :
    PE X (.Call (.Attribute o name apos) (e :: es) [] cpos) (LE X.K cl W (xMeth f xo a)) := by
  refine imE (pe_bm PySem.F.plainAttrs_list slot hty hm ho ha hbase hfew hline hs hpl) fun σV H Q ⟨π, σ, st, Q0, R0, hs, he, hx, hq, hw⟩ => ?_
  refine ⟨π, σ, st, _, R0, hs, he, hx, fun o st1 H1 π1 vo h1 e1 s1 r1 => ⟨lst_ty s1 r1 h1.1, ?_⟩, hw⟩
  exact ⟨π1, σ, st1, _, R0, s1, he.ext e1, h1.2, fun ds st2 H2 π2 vs h2 e2 s2 r2 => hr H2 π2 st2 o ds vo vs Q Q0 s2 (r1.ext e2) r2 h2 (hq.ext (e1.trans e2)), hw.ext e1⟩
def fApp : D → List D → Store → (D → Store → Prop) → Prop := fun o ds st Q => match o, ds with
  | .ref n, [d] => match st[n]? with
    | some (.lst xs) => xs.length < 16777216 ∧ Q .non (st.set n (.lst (xs ++ [d])))
    | _ => False
  | _, _ => False
theorem mr_app {K : PySem.W.Frag} : MethR K cl fApp rAppend := by
  intro H π st o ds vo vs Q Q0 hs ro rs h hq
  have zl := sizeLine_eq
  unfold fApp at h
  split at h
  · rename_i n d
    split at h
    · rename_i xs e
      simp only [RV] at ro
      obtain ⟨a, rfl, ha⟩ := ro
      obtain ⟨b, ws, q1, q2, q3⟩ := hs.lst e
      rw [ha] at q1; cases q1
      obtain ⟨v, rfl, r1⟩ := rs.one
      obtain ⟨_, w2, w3⟩ := hs.write e ha (q3.append (.cons r1 .nil))
      exact ⟨a, ws, v, rfl, rfl, q2, by rw [zl, q3.length]; exact h.1, hq _ _ _ π _ h.2 w2 w3 (by simp only [RV])⟩
    · exact h.elim
  · exact h.elim
/-- how often x stands in a list of flat things -/
def rCountV (K : PySem.W.Frag) : V → List V → Hp → VK → Prop := fun x xs H Q => ∃ (a : Addr) (ys : List V) (y : V), x = V.ref a ∧ xs = [y] ∧ SqL K H a ys ∧ flatV y = true ∧ ys.all flatV = true ∧ Q (.int ((ys.countP fun z => eqV z y : Nat) : Int)) H
theorem cntU {x : V} : ∀ {xs : List V} {us : List Value}, Vals xs us → xs.all flatV = true → us.countP (eqU x) = xs.countP fun y => eqV y x
  | _, _, .nil, _ => rfl
  | y :: xs, u :: us, .cons r t, f => by
    rw [List.all_cons, Bool.and_eq_true] at f
    rw [List.countP_cons, List.countP_cons, eqU_of r f.1, cntU t f.2]
theorem mt_countV : MtR X "list.count" (rCountV X.K) := by
  intro pins s σ H x xs v us Q I rx rxs h
  obtain ⟨a, ys, y, rfl, rfl, hs, fy, fys, q⟩ := h
  cases rx
  obtain ⟨u, rfl, ry⟩ := rxs.one
  obtain ⟨its, rv, ⟨⟨cls, dd, data, sl⟩, n, ho, hc, hdn, hd⟩, hlen⟩ := I.list hs
  simp only at hc hd
  subst hc hd
  refine PySem.call_meets PySem.F.slot_list_count ⟨_, ho, rfl⟩ PySem.F.entry_list_count (PySem.F.args_list_count_2 _ _) (SeqAt.list_countAt a its.toArray n dd sl u (eqU y)) ⟨ho, fun u' hu' => mem_eqAt ry fy rv fys u' (by simpa using hu'), ?_⟩
  have ec : its.toArray.toList.countP (eqU y) = ys.countP fun z => eqV z y := cntU rv fys
  exact ⟨.int ((ys.countP fun z => eqV z y : Nat) : Int), H, I.tok _, ⟨s.toks, congrArg (fun k : Nat => Value.int (k : Int) s.toks) ec⟩, q⟩
def fCount : D → List D → Store → (D → Store → Prop) → Prop := fun o ds st Q => match o, ds with
  | .ref n, [d] => match itemsOf st n with
    | some xs => flatD d = true ∧ xs.all flatD = true ∧ Q (.int ((xs.countP fun z => eqFl z d : Nat) : Int)) st
    | none => False
  | _, _ => False
theorem cnt_rv {K : PySem.W.Frag} {H : Hp} {π : List Addr} {x : D} {vx : V} (rx : RV K cl H π x vx) (hx : flatD x = true) : ∀ {ds : List D} {vs : List V}, RVs K cl H π ds vs → ds.all flatD = true → vs.countP (fun z => eqV z vx) = ds.countP fun z => eqFl z x
  | [], _, r, _ => by rw [r.un0]; rfl
  | d :: ds, _, r, h => by
    obtain ⟨v, q, rfl, r1, r2⟩ := r.un
    rw [List.all_cons, Bool.and_eq_true] at h
    rw [List.countP_cons, List.countP_cons, cnt_rv rx hx r2 h.2, eqFl_rv r1 rx h.1 hx]
theorem mr_count {K : PySem.W.Frag} : MethR K cl fCount (rCountV K) := by
  intro H π st o ds vo vs Q Q0 hs ro rs h hq
  unfold fCount at h
  split at h
  · rename_i n d
    split at h
    · rename_i xs e
      simp only [RV] at ro
      obtain ⟨a, rfl, ha⟩ := ro
      obtain ⟨b, ws, q1, q2, q3⟩ := hs.seq e
      rw [ha] at q1; cases q1
      obtain ⟨v, rfl, r1⟩ := rs.one
      refine ⟨a, ws, v, rfl, rfl, q2, flat_rv r1 h.1, all_rv q3 h.2.1, ?_⟩
      rw [cnt_rv r1 h.1 q3 h.2.1]
      exact hq.self hs (by simp only [RV]) h.2.2
    · exact h.elim
  · exact h.elim
/-- the first place of x in a list of flat things -/
def fIndex : D → List D → Store → (D → Store → Prop) → Prop := fun o ds st Q => match o, ds with
  | .ref n, [d] => match itemsOf st n with
    | some xs => flatD d = true ∧ xs.all flatD = true ∧ (xs.findIdx? fun z => eqFl z d).isSome = true ∧ Q (.int (((xs.findIdx? fun z => eqFl z d).getD 0 : Nat) : Int)) st
    | none => False
  | _, _ => False
theorem mr_index {K : PySem.W.Frag} : MethR K cl fIndex (rIndex K) := by
  intro H π st o ds vo vs Q Q0 hs ro rs h hq
  unfold fIndex at h
  split at h
  · rename_i n d
    split at h
    · rename_i xs e
      simp only [RV] at ro
      obtain ⟨a, rfl, ha⟩ := ro
      obtain ⟨b, ws, q1, q2, q3⟩ := hs.seq e
      rw [ha] at q1; cases q1
      obtain ⟨v, rfl, r1⟩ := rs.one
      obtain ⟨h1, h2, h3, h4⟩ := h
      obtain ⟨j, ej⟩ := Option.isSome_iff_exists.mp h3
      rw [ej] at h4
      obtain ⟨hj, g1, g2⟩ := List.findIdx?_eq_some_iff_getElem.mp ej
      obtain ⟨w, f1, f2⟩ := q3.get (List.getElem?_eq_getElem hj)
      have fl : ∀ z ∈ xs, flatD z = true := fun z hz => List.all_eq_true.mp h2 z hz
      refine ⟨a, ws, v, j, w, rfl, rfl, q2, flat_rv r1 h1, all_rv q3 h2, f1, ?_, fun m z' hm hz' => ?_, hq.self hs (by simp only [RV, Option.getD_some]) h4⟩
      · rw [eqFl_rv f2 r1 (fl _ (List.getElem_mem hj)) h1]
        exact g1
      · obtain ⟨z, k1, k2⟩ := q3.get' hz'
        have hml : m < xs.length := by omega
        have ez : xs[m] = z := by
          rw [List.getElem?_eq_getElem hml] at k1
          exact Option.some.inj k1
        rw [eqFl_rv k2 r1 (fl z (List.mem_of_getElem? k1)) h1]
        have := g2 m hm
        rw [ez] at this
        simpa using this
    · exact h.elim
  · exact h.elim

/-! ### what is walked -/
inductive IK where
  | lst (n : Nat)
  | tup (xs : List D)
  | rng (lo : Int) (n : Nat)
  | enm (n : Nat)
  | zip (m n : Nat)
  | enmT (xs : List D)
  | zipT (xs ys : List D)
  | dk (n ep c : Nat)
  | dv (n ep c : Nat)
  | dp (n ep c : Nat)
  | txt (z : Str)
def JOk (K : PySem.W.Frag) (cl : CL) (J : It) (H : Hp) (π : List Addr) : IK → Prop
  | .lst n => ∃ a, π[n]? = some a ∧ J = Itl K a
  | .tup xs => ∃ a vs, J = Itt K a ∧ SqT K H a vs ∧ RVs K cl H π xs vs
  | .rng lo n => J = Itr lo n
  | .enm n => ∃ a, π[n]? = some a ∧ J = Ite K a
  | .zip m n => ∃ a b, π[m]? = some a ∧ π[n]? = some b ∧ J = Itz K a b
  | .enmT xs => ∃ a vs, J = ET.Iet K a ∧ SqT K H a vs ∧ RVs K cl H π xs vs
  | .zipT xs ys => ∃ a b vs ws, J = RZ.ItzT K a b ∧ SqT K H a vs ∧ RVs K cl H π xs vs ∧ SqT K H b ws ∧ RVs K cl H π ys ws
  | .dk n ep c => ∃ a, π[n]? = some a ∧ J = DI.Wk cl.P cl.w K a ep c fun p => .ref p.2.1
  | .dv n ep c => ∃ a, π[n]? = some a ∧ J = DI.Wk cl.P cl.w K a ep c fun p => p.2.2
  | .dp n ep c => ∃ a, π[n]? = some a ∧ J = DI.Wp cl.P cl.w K a ep c
  | .txt z => J = Its z
theorem JOk.ext {K : PySem.W.Frag} {J : It} {H H' : Hp} {π π' : List Addr} (e : Ext K cl H π H' π') : ∀ {ik : IK}, JOk K cl J H π ik → JOk K cl J H' π' ik
  | .lst _, ⟨a, h1, h2⟩ => ⟨a, e.at_ h1, h2⟩
  | .tup _, ⟨a, vs, h1, h2, h3⟩ => ⟨a, vs, h1, e.tup _ _ h2, h3.ext e⟩
  | .rng _ _, h => h
  | .enm _, ⟨a, h1, h2⟩ => ⟨a, e.at_ h1, h2⟩
  | .zip _ _, ⟨a, b, h1, h2, h3⟩ => ⟨a, b, e.at_ h1, e.at_ h2, h3⟩
  | .enmT _, ⟨a, vs, h1, h2, h3⟩ => ⟨a, vs, h1, e.tup _ _ h2, h3.ext e⟩
  | .zipT _ _, ⟨a, b, vs, ws, h1, h2, h3, h4, h5⟩ => ⟨a, b, vs, ws, h1, e.tup _ _ h2, h3.ext e, e.tup _ _ h4, h5.ext e⟩
  | .dk _ _ _, ⟨a, h1, h2⟩ => ⟨a, e.at_ h1, h2⟩
  | .dv _ _ _, ⟨a, h1, h2⟩ => ⟨a, e.at_ h1, h2⟩
  | .dp _ _ _, ⟨a, h1, h2⟩ => ⟨a, e.at_ h1, h2⟩
  | .txt _, h => h
/-! a key as data -/
mutual
def nkT : NestedKey → D
  | .none => .non
  | .num i => .int i
  | .text x => .str x
  | .tup ks => .tup (nksT ks)
def nksT : List NestedKey → List D
  | [] => []
  | k :: ks => nkT k :: nksT ks
end
def keyT (k : DI.KY) : D := .tup (nksT k)
theorem nksT_num : ∀ ns : List Int, nksT (ns.map .num) = ns.map D.int
  | [] => by simp only [List.map_nil, nksT]
  | n :: ns => by simp only [List.map_cons, nksT, nkT]; rw [nksT_num ns]
/-- the dict at n, of c pairs, nothing stored since the epoch -/
def dictAt (st : Store) (n ep c : Nat) : Option (List (DI.KY × D)) := match st[n]? with
  | some (.dic kvs ep') => if ep' = ep ∧ kvs.length = c then some kvs else none
  | _ => none
mutual
theorem nkT_rv {K : PySem.W.Frag} {H : Hp} {π : List Addr} : ∀ {k : NestedKey} {v : V}, DI.NV K H k v → RV K cl H π (nkT k) v
  | .none, _, h => by simp only [DI.NV] at h; simp only [nkT, RV]; exact h
  | .num _, _, h => by simp only [DI.NV] at h; simp only [nkT, RV]; exact h
  | .text _, _, h => by simp only [DI.NV] at h; simp only [nkT, RV]; exact h
  | .tup ks, _, h => by
    simp only [DI.NV] at h
    obtain ⟨a, vs, h1, h2, h3⟩ := h
    simp only [nkT, RV]
    exact ⟨a, vs, h1, h2, nksT_rv h3⟩
theorem nksT_rv {K : PySem.W.Frag} {H : Hp} {π : List Addr} : ∀ {ks : List NestedKey} {vs : List V}, DI.NVs K H ks vs → RVs K cl H π (nksT ks) vs
  | [], _, h => by simp only [DI.NVs] at h; simp only [nksT]; rw [h]; exact .nil
  | k :: ks, _, h => by
    simp only [DI.NVs] at h
    obtain ⟨v, r, rfl, h2, h3⟩ := h
    simp only [nksT]
    exact .cons (nkT_rv h2) (nksT_rv h3)
end
theorem keyT_rv {K : PySem.W.Frag} {H : Hp} {π : List Addr} {k : DI.KY} {b : Addr} (h : DI.KAt K H b k) : RV K cl H π (keyT k) (.ref b) := by
  obtain ⟨_, vs, h1, h2⟩ := h
  unfold keyT
  simp only [RV]
  exact ⟨b, vs, rfl, h1, nksT_rv h2⟩
theorem SR.dic {K : PySem.W.Frag} {H : Hp} {π : List Addr} {st : Store} {n ep : Nat} {kvs : List (DI.KY × D)} (hs : SR K cl H π st) (h : st[n]? = some (.dic kvs ep)) :
    ∃ a L, π[n]? = some a ∧ H a = some (DI.DicO cl.P cl.w a L ep) ∧ DI.Keyed K H L ∧ L.map (·.1) = kvs.map (·.1) ∧ RVs K cl H π (kvs.map (·.2)) (L.map (·.2.2)) := by
  obtain ⟨a, h1, L, h2⟩ := hs.at_ n _ h
  exact ⟨a, L, h1, h2⟩
theorem SR.dicAt {K : PySem.W.Frag} {H : Hp} {π : List Addr} {st : Store} {n ep c : Nat} {a : Addr} {kvs : List (DI.KY × D)} (hs : SR K cl H π st) (h : dictAt st n ep c = some kvs) (ha : π[n]? = some a) :
    ∃ L, DI.Has cl.P cl.w K a ep c H L ∧ L.map (·.1) = kvs.map (·.1) ∧ RVs K cl H π (kvs.map (·.2)) (L.map (·.2.2)) ∧ kvs.length = c := by
  unfold dictAt at h
  split at h
  · rename_i kvs' ep' e
    split at h
    · rename_i hc
      cases h
      obtain ⟨rfl, hc⟩ := hc
      obtain ⟨b, L, h1, h2, h3, h4, h5⟩ := hs.dic e
      rw [ha] at h1
      cases h1
      have := congrArg List.length h4
      rw [List.length_map, List.length_map] at this
      exact ⟨L, ⟨h2, h3, this.trans hc⟩, h4, h5, hc⟩
    · cases h
  · cases h
theorem dic_item {K : PySem.W.Frag} {H : Hp} {π : List Addr} {L : DI.KL} {kvs : List (DI.KY × D)} {i : Nat} {q : DI.KY × D} {p : DI.KY × Addr × V} (hk : DI.Keyed K H L) (e : L.map (·.1) = kvs.map (·.1)) (r : RVs K cl H π (kvs.map (·.2)) (L.map (·.2.2)))
    (h : kvs[i]? = some q) (hp : L[i]? = some p) : RV K cl H π (keyT q.1) (.ref p.2.1) ∧ RV K cl H π q.2 p.2.2 := by
  have e1 : p.1 = q.1 := by
    have z := congrArg (fun l => l[i]?) e
    simp only [List.getElem?_map, h, hp, Option.map_some] at z
    exact Option.some.inj z
  obtain ⟨v, g1, g2⟩ := r.get (i := i) (d := q.2) (by rw [List.getElem?_map, h]; rfl)
  rw [List.getElem?_map, hp] at g1
  have g3 : p.2.2 = v := Option.some.inj g1
  exact ⟨by rw [← e1]; exact keyT_rv (hk p (List.mem_of_getElem? hp)), by rw [g3]; exact g2⟩
/-- the item at turn i: none if nothing is known -/
def itemAt (ik : IK) (i : Nat) (st : Store) : Option (Option D) := match ik with
  | .lst n => match itemsOf st n with
    | some xs => some xs[i]?
    | none => none
  | .tup xs => some xs[i]?
  | .rng lo n => if i < n then some (some (.int (lo + i))) else some none
  | .enm n => match itemsOf st n with
    | some xs => match xs[i]? with
      | some d => some (some (.tup [.int i, d]))
      | none => some none
    | none => none
  | .zip m n => match itemsOf st m, itemsOf st n with
    | some xs, some ys => match xs[i]?, ys[i]? with
      | some d, some e => some (some (.tup [d, e]))
      | _, _ => some none
    | _, _ => none
  | .enmT xs => match xs[i]? with
    | some d => some (some (.tup [.int i, d]))
    | none => some none
  | .zipT xs ys => match xs[i]?, ys[i]? with
    | some d, some e => some (some (.tup [d, e]))
    | _, _ => some none
  | .dk n ep c => match dictAt st n ep c with
    | some kvs => some ((kvs[i]?).map fun p => keyT p.1)
    | none => none
  | .dv n ep c => match dictAt st n ep c with
    | some kvs => some ((kvs[i]?).map fun p => p.2)
    | none => none
  | .dp n ep c => match dictAt st n ep c with
    | some kvs => some ((kvs[i]?).map fun p => .tup [keyT p.1, p.2])
    | none => none
  | .txt z => some ((z.cps.toList[i]?).map fun c => .str ⟨#[c]⟩)
section
variable {K : PySem.W.Frag} {J : It} {H : Hp} {π : List Addr} {st : Store} {ik : IK} {i : Nat}
theorem it_go {d : D} (hs : SR K cl H π st) (hj : JOk K cl J H π ik) (h : itemAt ik i st = some (some d)) : J.go i H ∧ ∀ x H', J.yld i H x H' → Ext K cl H π H' π ∧ SR K cl H' π st ∧ RV K cl H' π d x := by
  cases ik with
  | lst n =>
    obtain ⟨a, ha, rfl⟩ := hj
    simp only [itemAt] at h
    split at h
    · rename_i xs e
      obtain ⟨b, vs, q1, q2, q3⟩ := hs.seq e
      rw [ha] at q1; cases q1
      obtain ⟨v, g1, g2⟩ := q3.get (by simpa using h)
      refine ⟨⟨vs, v, q2, g1⟩, fun x H' ⟨e1, e2⟩ => ?_⟩
      subst e1
      have := e2 vs q2
      rw [g1] at this; cases this
      exact ⟨Ext.refl, hs, g2⟩
    · cases h
  | tup xs =>
    obtain ⟨a, vs, rfl, q2, q3⟩ := hj
    simp only [itemAt, Option.some.injEq] at h
    obtain ⟨v, g1, g2⟩ := q3.get h
    refine ⟨⟨vs, v, q2, g1⟩, fun x H' ⟨e1, e2⟩ => ?_⟩
    subst e1
    have := e2 vs q2
    rw [g1] at this; cases this
    exact ⟨Ext.refl, hs, g2⟩
  | rng lo n =>
    cases hj
    simp only [itemAt] at h
    split at h
    · rename_i hi
      cases h
      refine ⟨hi, fun x H' ⟨e1, e2⟩ => ?_⟩
      subst e1
      exact ⟨Ext.refl, hs, by simp only [RV]; exact e2⟩
    · cases h
  | enm n =>
    obtain ⟨a, ha, rfl⟩ := hj
    simp only [itemAt] at h
    split at h
    · rename_i xs e
      split at h
      · rename_i d' e2
        cases h
        obtain ⟨b, vs, q1, q2, q3⟩ := hs.seq e
        rw [ha] at q1; cases q1
        obtain ⟨v, g1, g2⟩ := q3.get e2
        refine ⟨⟨vs, v, q2, g1⟩, fun x H' ⟨T, y, e3, hT, e4, e5⟩ => ?_⟩
        subst e3 e4
        have := e5 vs q2
        rw [g1] at this; cases this
        have ee : Ext K cl H π (upd H T (.tup [.int (i : Nat), v])) π := Ext.new0 hT
        exact ⟨ee, hs.new0 hT, by simp only [RV]; exact ⟨T, _, rfl, SqT.of upd_same, .cons (by simp only [RV]) (.cons (g2.ext ee) .nil)⟩⟩
      · cases h
    · cases h
  | zip m n =>
    obtain ⟨a, b, ha, hb, rfl⟩ := hj
    simp only [itemAt] at h
    split at h
    · rename_i xs ys e e'
      split at h
      · rename_i d1 d2 e2 e3
        cases h
        obtain ⟨a', vs, q1, q2, q3⟩ := hs.seq e
        rw [ha] at q1; cases q1
        obtain ⟨b', ws, p1, p2, p3⟩ := hs.seq e'
        rw [hb] at p1; cases p1
        obtain ⟨v, g1, g2⟩ := q3.get e2
        obtain ⟨w, k1, k2⟩ := p3.get e3
        refine ⟨⟨vs, ws, v, w, q2, p2, g1, k1⟩, fun x H' ⟨T, y, z, f3, hT, f4, f5, f6⟩ => ?_⟩
        subst f3 f4
        have := f5 vs q2
        rw [g1] at this; cases this
        have := f6 ws p2
        rw [k1] at this; cases this
        have ee : Ext K cl H π (upd H T (.tup [v, w])) π := Ext.new0 hT
        exact ⟨ee, hs.new0 hT, by simp only [RV]; exact ⟨T, _, rfl, SqT.of upd_same, .cons (g2.ext ee) (.cons (k2.ext ee) .nil)⟩⟩
      · cases h
    · cases h
  | enmT xs =>
    obtain ⟨a, vs, rfl, q2, q3⟩ := hj
    simp only [itemAt] at h
    split at h
    · rename_i d' e2
      cases h
      obtain ⟨v, g1, g2⟩ := q3.get e2
      refine ⟨⟨vs, v, q2, g1⟩, fun x H' ⟨T, y, e3, hT, e4, e5⟩ => ?_⟩
      subst e3 e4
      have := e5 vs q2
      rw [g1] at this; cases this
      have ee : Ext K cl H π (upd H T (.tup [.int (i : Nat), v])) π := Ext.new0 hT
      exact ⟨ee, hs.new0 hT, by simp only [RV]; exact ⟨T, _, rfl, SqT.of upd_same, .cons (by simp only [RV]) (.cons (g2.ext ee) .nil)⟩⟩
    · cases h
  | zipT xs ys =>
    obtain ⟨a, b, vs, ws, rfl, q2, q3, p2, p3⟩ := hj
    simp only [itemAt] at h
    split at h
    · rename_i d1 d2 e2 e3
      cases h
      obtain ⟨v, g1, g2⟩ := q3.get e2
      obtain ⟨w, k1, k2⟩ := p3.get e3
      refine ⟨⟨vs, ws, v, w, q2, p2, g1, k1⟩, fun x H' ⟨T, y, z, f3, hT, f4, f5, f6⟩ => ?_⟩
      subst f3 f4
      have := f5 vs q2
      rw [g1] at this; cases this
      have := f6 ws p2
      rw [k1] at this; cases this
      have ee : Ext K cl H π (upd H T (.tup [v, w])) π := Ext.new0 hT
      exact ⟨ee, hs.new0 hT, by simp only [RV]; exact ⟨T, _, rfl, SqT.of upd_same, .cons (g2.ext ee) (.cons (k2.ext ee) .nil)⟩⟩
    · cases h
  | dk n ep c =>
    obtain ⟨a, ha, rfl⟩ := hj
    simp only [itemAt] at h
    split at h
    · rename_i kvs e
      obtain ⟨L, hL, k1, k2, k3⟩ := hs.dicAt e ha
      obtain ⟨q, hq, rfl⟩ := Option.map_eq_some_iff.mp (Option.some.inj h)
      have lt : i < c := by rw [← k3]; exact (List.getElem?_eq_some_iff.mp hq).1
      refine ⟨⟨⟨L, hL⟩, lt⟩, fun x H' ⟨e1, e2⟩ => ?_⟩
      subst e1
      obtain ⟨p, g1, rfl⟩ := e2 L hL
      exact ⟨Ext.refl, hs, (dic_item hL.2.1 k1 k2 hq g1).1⟩
    · cases h
  | dv n ep c =>
    obtain ⟨a, ha, rfl⟩ := hj
    simp only [itemAt] at h
    split at h
    · rename_i kvs e
      obtain ⟨L, hL, k1, k2, k3⟩ := hs.dicAt e ha
      obtain ⟨q, hq, rfl⟩ := Option.map_eq_some_iff.mp (Option.some.inj h)
      have lt : i < c := by rw [← k3]; exact (List.getElem?_eq_some_iff.mp hq).1
      refine ⟨⟨⟨L, hL⟩, lt⟩, fun x H' ⟨e1, e2⟩ => ?_⟩
      subst e1
      obtain ⟨p, g1, rfl⟩ := e2 L hL
      exact ⟨Ext.refl, hs, (dic_item hL.2.1 k1 k2 hq g1).2⟩
    · cases h
  | dp n ep c =>
    obtain ⟨a, ha, rfl⟩ := hj
    simp only [itemAt] at h
    split at h
    · rename_i kvs e
      obtain ⟨L, hL, k1, k2, k3⟩ := hs.dicAt e ha
      obtain ⟨q, hq, rfl⟩ := Option.map_eq_some_iff.mp (Option.some.inj h)
      have lt : i < c := by rw [← k3]; exact (List.getElem?_eq_some_iff.mp hq).1
      refine ⟨⟨⟨L, hL⟩, lt⟩, fun x H' ⟨T, k, v, f3, hT, f4, f5⟩ => ?_⟩
      subst f3 f4
      obtain ⟨p, g1, rfl, rfl⟩ := f5 L hL
      obtain ⟨r1, r2⟩ := dic_item hL.2.1 k1 k2 hq g1
      have ee : Ext K cl H π (upd H T (.tup [.ref p.2.1, p.2.2])) π := Ext.new0 hT
      refine ⟨ee, hs.new0 hT, ?_⟩
      simp only [RV]
      exact ⟨T, _, rfl, SqT.of upd_same, .cons (r1.ext ee) (.cons (r2.ext ee) .nil)⟩
    · cases h
  | txt z =>
    cases hj
    simp only [itemAt, Option.some.injEq] at h
    obtain ⟨c, hc, rfl⟩ := Option.map_eq_some_iff.mp h
    have hz : z.cps[i]? = some c := by rw [← Array.getElem?_toList]; exact hc
    refine ⟨(Array.getElem?_eq_some_iff.mp hz).1, fun x H' ⟨e1, c', e2, e3⟩ => ?_⟩
    subst e1 e3
    rw [hz] at e2
    cases e2
    exact ⟨Ext.refl, hs, by simp only [RV]⟩
theorem it_stop (hs : SR K cl H π st) (hj : JOk K cl J H π ik) (h : itemAt ik i st = some none) : J.stop i H := by
  have none_le : ∀ {xs : List D} {vs : List V}, RVs K cl H π xs vs → xs[i]? = none → vs.length ≤ i := fun {xs vs} r q => by
    rw [r.length]
    exact List.getElem?_eq_none_iff.mp q
  cases ik with
  | lst n =>
    obtain ⟨a, ha, rfl⟩ := hj
    simp only [itemAt] at h
    split at h
    · rename_i xs e
      obtain ⟨b, vs, q1, q2, q3⟩ := hs.seq e
      rw [ha] at q1; cases q1
      exact ⟨vs, q2, none_le q3 (by simpa using h)⟩
    · cases h
  | tup xs =>
    obtain ⟨a, vs, rfl, q2, q3⟩ := hj
    simp only [itemAt, Option.some.injEq] at h
    exact ⟨vs, q2, none_le q3 h⟩
  | rng lo n =>
    cases hj
    simp only [itemAt] at h
    split at h
    · cases h
    · rename_i hi
      exact Nat.le_of_not_lt hi
  | enm n =>
    obtain ⟨a, ha, rfl⟩ := hj
    simp only [itemAt] at h
    split at h
    · rename_i xs e
      split at h
      · cases h
      · rename_i e2
        obtain ⟨b, vs, q1, q2, q3⟩ := hs.seq e
        rw [ha] at q1; cases q1
        exact ⟨vs, q2, none_le q3 e2⟩
    · cases h
  | zip m n =>
    obtain ⟨a, b, ha, hb, rfl⟩ := hj
    simp only [itemAt] at h
    split at h
    · rename_i xs ys e e'
      obtain ⟨a', vs, q1, q2, q3⟩ := hs.seq e
      rw [ha] at q1; cases q1
      obtain ⟨b', ws, p1, p2, p3⟩ := hs.seq e'
      rw [hb] at p1; cases p1
      refine ⟨vs, ws, q2, p2, ?_⟩
      cases ex : xs[i]? with
      | none => exact .inl (none_le q3 ex)
      | some x =>
        cases ey : ys[i]? with
        | none => exact .inr (none_le p3 ey)
        | some y => rw [ex, ey] at h; cases h
    · cases h
  | enmT xs =>
    obtain ⟨a, vs, rfl, q2, q3⟩ := hj
    simp only [itemAt] at h
    split at h
    · cases h
    · rename_i e2
      exact ⟨vs, q2, none_le q3 e2⟩
  | zipT xs ys =>
    obtain ⟨a, b, vs, ws, rfl, q2, q3, p2, p3⟩ := hj
    simp only [itemAt] at h
    refine ⟨vs, ws, q2, p2, ?_⟩
    cases ex : xs[i]? with
    | none => exact .inl (none_le q3 ex)
    | some x =>
      cases ey : ys[i]? with
      | none => exact .inr (none_le p3 ey)
      | some y => rw [ex, ey] at h; cases h
  | dk n ep c =>
    obtain ⟨a, ha, rfl⟩ := hj
    simp only [itemAt] at h
    split at h
    · rename_i kvs e
      obtain ⟨L, hL, k1, k2, k3⟩ := hs.dicAt e ha
      have hq := Option.map_eq_none_iff.mp (Option.some.inj h)
      exact ⟨⟨L, hL⟩, by rw [← k3]; exact List.getElem?_eq_none_iff.mp hq⟩
    · cases h
  | dv n ep c =>
    obtain ⟨a, ha, rfl⟩ := hj
    simp only [itemAt] at h
    split at h
    · rename_i kvs e
      obtain ⟨L, hL, k1, k2, k3⟩ := hs.dicAt e ha
      have hq := Option.map_eq_none_iff.mp (Option.some.inj h)
      exact ⟨⟨L, hL⟩, by rw [← k3]; exact List.getElem?_eq_none_iff.mp hq⟩
    · cases h
  | dp n ep c =>
    obtain ⟨a, ha, rfl⟩ := hj
    simp only [itemAt] at h
    split at h
    · rename_i kvs e
      obtain ⟨L, hL, k1, k2, k3⟩ := hs.dicAt e ha
      have hq := Option.map_eq_none_iff.mp (Option.some.inj h)
      exact ⟨⟨L, hL⟩, by rw [← k3]; exact List.getElem?_eq_none_iff.mp hq⟩
    · cases h
  | txt z =>
    cases hj
    simp only [itemAt, Option.some.injEq] at h
    have := List.getElem?_eq_none_iff.mp (Option.map_eq_none_iff.mp h)
    rw [Array.length_toList] at this
    exact this
end
abbrev XI := Env → Store → (IK → Store → Prop) → XR → Prop
def LI (K : PySem.W.Frag) (cl : CL) (W : WX) (x : XI) : TI := fun σV H R => ∃ π σ st Q0 R0, SR K cl H π st ∧ ER K cl H π σ σV ∧ x σ st Q0 R0 ∧
  (∀ ik st' H' π' J, Q0 ik st' → Ext K cl H π H' π' → SR K cl H' π' st' → JOk K cl J H' π' ik → R J H') ∧ RW K cl W σV H π R0
theorem imI {tg e : Expr} {t t' : TI} (h : PI X tg e t) (i : ∀ σ H Q, t' σ H Q → t σ H Q) : PI X tg e t' :=
  ⟨fun pins s σ H Q I q => h.run pins s σ H Q I (i _ _ _ q)⟩
/-- a list | a tuple -/
def iL (x : XE) : XI := fun σ st Q R => x σ st (fun d st1 => match d with
  | .ref n => (itemsOf st1 n).isSome = true ∧ Q (.lst n) st1
  | _ => False) R
theorem mi_list {tg e : Expr} {x : XE} (h : PE X e (LE X.K cl W x)) : PI X tg e (LI X.K cl W (iL x)) := by
  refine imI (pi_list h) fun σV H Q ⟨π, σ, st, Q0, R0, hs, he, hx, hq, hw⟩ => ?_
  refine ⟨π, σ, st, _, R0, hs, he, hx, fun d st1 H1 π1 v h1 e1 s1 r1 => ?_, hw⟩
  cases d with
  | ref n =>
    simp only [RV] at r1
    obtain ⟨a, rfl, ha⟩ := r1
    obtain ⟨xs, e⟩ := Option.isSome_iff_exists.mp h1.1
    obtain ⟨b, vs, q1, q2, q3⟩ := s1.seq e
    rw [ha] at q1; cases q1
    exact ⟨a, rfl, ⟨vs, q2⟩, hq _ st1 H1 π1 _ h1.2 e1 s1 ⟨a, ha, rfl⟩⟩
  | _ => exact h1.elim
/-- a text, sign by sign -/
def iS (x : XE) : XI := fun σ st Q R => x σ st (fun d st1 => match d with
  | .str z => Q (.txt z) st1
  | _ => False) R
theorem mi_str {tg e : Expr} {x : XE} (h : PE X e (LE X.K cl W x)) : PI X tg e (LI X.K cl W (iS x)) := by
  refine imI (pi_str h) fun σV H Q ⟨π, σ, st, Q0, R0, hs, he, hx, hq, hw⟩ => ?_
  refine ⟨π, σ, st, _, R0, hs, he, hx, fun d st1 H1 π1 v h1 e1 s1 r1 => ?_, hw⟩
  cases d with
  | str z =>
    simp only [RV] at r1
    subst r1
    exact ⟨z, rfl, hq _ st1 H1 π1 _ h1 e1 s1 rfl⟩
  | _ => exact h1.elim
def iT (x : XE) : XI := fun σ st Q R => x σ st (fun d st1 => match d with
  | .tup xs => Q (.tup xs) st1
  | _ => False) R
theorem mi_tup {tg e : Expr} {x : XE} (h : PE X e (LE X.K cl W x)) : PI X tg e (LI X.K cl W (iT x)) := by
  refine imI (pi_tup h) fun σV H Q ⟨π, σ, st, Q0, R0, hs, he, hx, hq, hw⟩ => ?_
  refine ⟨π, σ, st, _, R0, hs, he, hx, fun d st1 H1 π1 v h1 e1 s1 r1 => ?_, hw⟩
  cases d with
  | tup xs =>
    simp only [RV] at r1
    obtain ⟨a, vs, rfl, t, r⟩ := r1
    exact ⟨a, rfl, ⟨vs, t⟩, hq _ st1 H1 π1 _ h1 e1 s1 ⟨a, vs, rfl, t, r⟩⟩
  | _ => exact h1.elim
def iR1 (a : XA) : XI := fun σ st Q R => a σ st (fun ds st1 => match ds with
  | [.int j] => -(2 ^ 62) ≤ j ∧ j < 2 ^ 62 ∧ Q (.rng 0 j.toNat) st1
  | _ => False) R
theorem mi_range1 {tg a : Expr} {p pos : Pos} {x : XA} (hm : X.mg "range" = none) (ha : PA X [a] (LA X.K cl W x)) (hg : Gl X "range" := by rfl) (hs : starEach [a] X.env = [(false, eval a X.env)] := by rfl) : PI X tg (.Call (.Name "range" p) [a] [] pos) (LI X.K cl W (iR1 x)) := by
  refine imI (pi_range1 hg hm ha hs) fun σV H Q ⟨π, σ, st, Q0, R0, hs, he, hx, hq, hw⟩ => ?_
  refine ⟨π, σ, st, _, R0, hs, he, hx, fun ds st1 H1 π1 vs h1 e1 s1 r1 => ?_, hw⟩
  try dsimp only at h1
  split at h1
  · rename_i j
    obtain ⟨v, rfl, r⟩ := r1.one
    simp only [RV] at r
    subst r
    exact ⟨j, rfl, h1.1, h1.2.1, hq _ st1 H1 π1 _ h1.2.2 e1 s1 rfl⟩
  · exact h1.elim
def iR2 (a : XA) : XI := fun σ st Q R => a σ st (fun ds st1 => match ds with
  | [.int i, .int j] => -(2 ^ 62) ≤ i ∧ i < 2 ^ 62 ∧ -(2 ^ 62) ≤ j ∧ j < 2 ^ 62 ∧ Q (.rng i (j - i).toNat) st1
  | _ => False) R
theorem mi_range2 {tg a b : Expr} {p pos : Pos} {x : XA} (hm : X.mg "range" = none) (ha : PA X [a, b] (LA X.K cl W x)) (hg : Gl X "range" := by rfl) (hs : starEach [a, b] X.env = [(false, eval a X.env), (false, eval b X.env)] := by rfl) (hs2 : starEach [b] X.env = [(false, eval b X.env)] := by rfl) :
    PI X tg (.Call (.Name "range" p) [a, b] [] pos) (LI X.K cl W (iR2 x)) := by
  refine imI (pi_range2 hg hm ha hs hs2) fun σV H Q ⟨π, σ, st, Q0, R0, hs, he, hx, hq, hw⟩ => ?_
  refine ⟨π, σ, st, _, R0, hs, he, hx, fun ds st1 H1 π1 vs h1 e1 s1 r1 => ?_, hw⟩
  try dsimp only at h1
  split at h1
  · rename_i i j
    obtain ⟨v, q, rfl, g1, g2⟩ := r1.un
    obtain ⟨w, rfl, g3⟩ := g2.one
    simp only [RV] at g1 g3
    subst g1 g3
    exact ⟨i, j, rfl, ⟨h1.1, h1.2.1, h1.2.2.1, h1.2.2.2.1⟩, hq _ st1 H1 π1 _ h1.2.2.2.2 e1 s1 rfl⟩
  · exact h1.elim
def iE (a : XA) : XI := fun σ st Q R => a σ st (fun ds st1 => match ds with
  | [.ref n] => (itemsOf st1 n).isSome = true ∧ Q (.enm n) st1
  | _ => False) R
theorem mi_enum {e : Expr} {p pos tpos : Pos} {elts : List Expr} {kk : Nat} {x : XA} (hm : X.mg "enumerate" = none) (ha : PA X [e] (LA X.K cl W x)) (hg : Gl X "enumerate" := by rfl) (hs : starEach [e] X.env = [(false, eval e X.env)] := by rfl) :
    PI X (.Tuple elts kk tpos) (.Call (.Name "enumerate" p) [e] [] pos) (LI X.K cl W (iE x)) := by
  refine imI (pi_enum hg hm ha hs) fun σV H Q ⟨π, σ, st, Q0, R0, hs, he, hx, hq, hw⟩ => ?_
  refine ⟨π, σ, st, _, R0, hs, he, hx, fun ds st1 H1 π1 vs h1 e1 s1 r1 => ?_, hw⟩
  try dsimp only at h1
  split at h1
  · rename_i n
    obtain ⟨v, rfl, r⟩ := r1.one
    simp only [RV] at r
    obtain ⟨a, rfl, ha⟩ := r
    obtain ⟨xs, e⟩ := Option.isSome_iff_exists.mp h1.1
    obtain ⟨b, ws, q1, q2, q3⟩ := s1.seq e
    rw [ha] at q1; cases q1
    exact ⟨a, ws, rfl, q2, hq _ st1 H1 π1 _ h1.2 e1 s1 ⟨a, ha, rfl⟩⟩
  · exact h1.elim
def iZ (a : XA) : XI := fun σ st Q R => a σ st (fun ds st1 => match ds with
  | [.ref m, .ref n] => (itemsOf st1 m).isSome = true ∧ (itemsOf st1 n).isSome = true ∧ Q (.zip m n) st1
  | _ => False) R
theorem mi_zip {e e2 : Expr} {p pos tpos : Pos} {elts : List Expr} {kk : Nat} {x : XA} (hm : X.mg "zip" = none) (ha : PA X [e, e2] (LA X.K cl W x)) (hg : Gl X "zip" := by rfl)
    (hs : starEach [e, e2] X.env = (false, eval e X.env) :: starEach [e2] X.env := by rfl) (hpl : (backTo pos (starEach [e2] X.env)).any (·.1) = false := by rfl) :
    PI X (.Tuple elts kk tpos) (.Call (.Name "zip" p) [e, e2] [] pos) (LI X.K cl W (iZ x)) := by
  refine imI (pi_zip hg hm ha hs hpl) fun σV H Q ⟨π, σ, st, Q0, R0, hs, he, hx, hq, hw⟩ => ?_
  refine ⟨π, σ, st, _, R0, hs, he, hx, fun ds st1 H1 π1 vs h1 e1 s1 r1 => ?_, hw⟩
  try dsimp only at h1
  split at h1
  · rename_i m n
    obtain ⟨v, q, rfl, g1, g2⟩ := r1.un
    obtain ⟨w, rfl, g3⟩ := g2.one
    simp only [RV] at g1 g3
    obtain ⟨a, rfl, ha⟩ := g1
    obtain ⟨b, rfl, hb⟩ := g3
    obtain ⟨xs, e⟩ := Option.isSome_iff_exists.mp h1.1
    obtain ⟨ys, e'⟩ := Option.isSome_iff_exists.mp h1.2.1
    obtain ⟨a', ws, q1, q2, q3⟩ := s1.seq e
    rw [ha] at q1; cases q1
    obtain ⟨b', us, p1, p2, p3⟩ := s1.seq e'
    rw [hb] at p1; cases p1
    exact ⟨a, b, ws, us, rfl, q2, p2, hq _ st1 H1 π1 _ h1.2.2 e1 s1 ⟨a, b, ha, hb, rfl⟩⟩
  · exact h1.elim

/-- enumerate and zip of tuples; a dict by keys, values, pairs -/
def iET (a : XA) : XI := fun σ st Q R => a σ st (fun ds st1 => match ds with
  | [.tup xs] => Q (.enmT xs) st1
  | _ => False) R
theorem mi_enumT {e : Expr} {p pos tpos : Pos} {elts : List Expr} {kk : Nat} {x : XA} (hm : X.mg "enumerate" = none) (ha : PA X [e] (LA X.K cl W x)) (hg : Gl X "enumerate" := by rfl) (hs : starEach [e] X.env = [(false, eval e X.env)] := by rfl) :
    PI X (.Tuple elts kk tpos) (.Call (.Name "enumerate" p) [e] [] pos) (LI X.K cl W (iET x)) := by
  refine imI (ET.pi_enumT hg hm ha hs) fun σV H Q ⟨π, σ, st, Q0, R0, hs, he, hx, hq, hw⟩ => ?_
  refine ⟨π, σ, st, _, R0, hs, he, hx, fun ds st1 H1 π1 vs h1 e1 s1 r1 => ?_, hw⟩
  try dsimp only at h1
  split at h1
  · rename_i xs
    obtain ⟨v, rfl, r⟩ := r1.one
    simp only [RV] at r
    obtain ⟨a, ws, rfl, t, r⟩ := r
    exact ⟨a, ws, rfl, t, hq _ st1 H1 π1 _ h1 e1 s1 ⟨a, ws, rfl, t, r⟩⟩
  · exact h1.elim
def iZT (a : XA) : XI := fun σ st Q R => a σ st (fun ds st1 => match ds with
  | [.tup xs, .tup ys] => Q (.zipT xs ys) st1
  | _ => False) R
theorem mi_zipT {e e2 : Expr} {p pos tpos : Pos} {elts : List Expr} {kk : Nat} {x : XA} (hm : X.mg "zip" = none) (ha : PA X [e, e2] (LA X.K cl W x)) (hg : Gl X "zip" := by rfl)
    (hs : starEach [e, e2] X.env = (false, eval e X.env) :: starEach [e2] X.env := by rfl) (hpl : (backTo pos (starEach [e2] X.env)).any (·.1) = false := by rfl) :
    PI X (.Tuple elts kk tpos) (.Call (.Name "zip" p) [e, e2] [] pos) (LI X.K cl W (iZT x)) := by
  refine imI (RZ.pi_zipA hg hm ha hs hpl) fun σV H Q ⟨π, σ, st, Q0, R0, hs, he, hx, hq, hw⟩ => ?_
  refine ⟨π, σ, st, _, R0, hs, he, hx, fun ds st1 H1 π1 vs h1 e1 s1 r1 => ?_, hw⟩
  try dsimp only at h1
  split at h1
  · rename_i xs ys
    obtain ⟨v, q, rfl, g1, g2⟩ := r1.un
    obtain ⟨w, rfl, g3⟩ := g2.one
    simp only [RV] at g1 g3
    obtain ⟨a, us, rfl, t, r⟩ := g1
    obtain ⟨b, ws, rfl, t', r'⟩ := g3
    exact ⟨a, b, us, ws, rfl, .inr ⟨t, t', hq _ st1 H1 π1 _ h1 e1 s1 ⟨a, b, us, ws, rfl, t, r, t', r'⟩⟩⟩
  · exact h1.elim
def iD (f : Nat → Nat → Nat → IK) (x : XE) : XI := fun σ st Q R => x σ st (fun d st1 => match d with
  | .ref n => match st1[n]? with
    | some (.dic kvs ep) => Q (f n ep kvs.length) st1
    | _ => False
  | _ => False) R
theorem dic_imp {x : XE} {f : Nat → Nat → Nat → IK} {J : Addr → Nat → Nat → It} {σV : St} {H : Hp} {Q : It → Hp → Prop} (hP : X.prog = cl.P) (hw0 : X.w = cl.w) (hJ : ∀ a n ep c H π, π[n]? = some a → JOk X.K cl (J a ep c) H π (f n ep c)) (h : LI X.K cl W (iD f x) σV H Q) :
    LE X.K cl W x σV H fun v H1 => ∃ d L ep, v = .ref d ∧ H1 d = some (DI.DicO X.prog X.w d L ep) ∧ DI.Keyed X.K H1 L ∧ Q (J d ep L.length) H1 := by
  obtain ⟨π, σ, st, Q0, R0, hs, he, hx, hq, hw⟩ := h
  refine ⟨π, σ, st, _, R0, hs, he, hx, fun d st1 H1 π1 v h1 e1 s1 r1 => ?_, hw⟩
  try dsimp only at h1
  split at h1
  · rename_i n
    split at h1
    · rename_i kvs ep e
      simp only [RV] at r1
      obtain ⟨a, rfl, ha⟩ := r1
      obtain ⟨b, L, g1, g2, g3, g4, g5⟩ := s1.dic e
      rw [ha] at g1; cases g1
      have := congrArg List.length g4
      rw [List.length_map, List.length_map] at this
      exact ⟨a, L, ep, rfl, by rw [hP, hw0]; exact g2, g3, hq _ st1 H1 π1 _ h1 e1 s1 (by rw [← this]; exact hJ a n ep _ _ _ ha)⟩
    · exact h1.elim
  · exact h1.elim
theorem mi_dk {tg e : Expr} {x : XE} (hP : X.prog = cl.P) (hw0 : X.w = cl.w) (he : PE X e (LE X.K cl W x)) : PI X tg e (LI X.K cl W (iD .dk x)) :=
  imI (DI.pi_dk he) fun σV H Q h => dic_imp (f := .dk) (J := fun d ep c => DI.Wk X.prog X.w X.K d ep c fun p => .ref p.2.1) hP hw0 (fun a n ep c H π ha => ⟨a, ha, by rw [hP, hw0]⟩) h
theorem mi_dv {tg e : Expr} {x : XE} {apos cpos : Pos} (hP : X.prog = cl.P) (hw0 : X.w = cl.w) (he : PE X e (LE X.K cl W x)) (hbase : attributeBase e "values" X.env (eval e X.env) = eval e X.env := by rfl) (hline : (apos.endLine == cpos.line) = true := by rfl) :
    PI X tg (.Call (.Attribute e "values" apos) [] [] cpos) (LI X.K cl W (iD .dv x)) :=
  imI (DI.pi_dv he hbase hline) fun σV H Q h => dic_imp (f := .dv) (J := fun d ep c => DI.Wk X.prog X.w X.K d ep c fun p => p.2.2) hP hw0 (fun a n ep c H π ha => ⟨a, ha, by rw [hP, hw0]⟩) h
theorem mi_dp {elts : List Expr} {kk : Nat} {tpos : Pos} {e : Expr} {x : XE} {apos cpos : Pos} (hP : X.prog = cl.P) (hw0 : X.w = cl.w) (he : PE X e (LE X.K cl W x)) (hbase : attributeBase e "items" X.env (eval e X.env) = eval e X.env := by rfl) (hline : (apos.endLine == cpos.line) = true := by rfl) :
    PI X (.Tuple elts kk tpos) (.Call (.Attribute e "items" apos) [] [] cpos) (LI X.K cl W (iD .dp x)) :=
  imI (DI.pi_dp he hbase hline) fun σV H Q h => dic_imp (f := .dp) (J := fun d ep c => DI.Wp X.prog X.w X.K d ep c) hP hw0 (fun a n ep c H π ha => ⟨a, ha, by rw [hP, hw0]⟩) h

/-! ### loops: W says what holds ahead of a turn -/
def loopW (ik : IK) (g : XG) (body : XS) (σ : Env) (st : Store) (D : EI) : Prop :=
  ∃ Wl : Nat → Nat → Env → Store → Prop, (∃ m, Wl 0 m σ st) ∧ ∀ i m σ st, Wl i m σ st →
    (itemAt ik i st = some none ∧ D.nx σ st) ∨ (∃ d, itemAt ik i st = some (some d) ∧ ∃ N : Env → Store → Prop, (∀ σ' st', N σ' st' → ∃ m', m' < m ∧ Wl (i + 1) m' σ' st') ∧
      g d σ st fun σ2 st2 => body σ2 st2 { D with nx := N, ct := N, bk := D.nx })
def sFor (it : XI) (g : XG) (body : XS) : XS := fun σ st D => it σ st (fun ik st1 => loopW ik g body σ st1 D) (fun c st1 => D.ex c σ st1)
theorem ms_for {tg iter : Expr} {body : List Stmt} {pos : Pos} {it : XI} {g : XG} {b : XS} (hp : PassesOwn (model X.prog X.w) X.A X.env X.xe) (hc : X.calm = true) (hi : PI X tg iter (LI X.K cl W it)) (hg : PG X tg (LG X.K cl g)) (hb : PSs X body (LS X.K cl W b))
    (hs : ∀ x, foldedSetIterable iter X.env x = pure x := by intro _; rfl) : PS X (.For tg iter body [] pos) (LS X.K cl W (sFor it g b)) := by
  refine imS (ps_for hp hc hi hg hb hs) fun D σV H ⟨π, σ, st, D0, hs, he, hx, hd⟩ => ?_
  refine ⟨π, σ, st, _, _, hs, he, hx, fun ik st1 H1 π1 J h1 e1 s1 j1 => ?_, hd.ex.at_ he⟩
  obtain ⟨Wl, ⟨m0, w0⟩, turn⟩ := h1
  refine ⟨fun i m σV' H' => ∃ π' σ' st', Ext X.K cl H1 π1 H' π' ∧ SR X.K cl H' π' st' ∧ ER X.K cl H' π' σ' σV' ∧ Wl i m σ' st', ⟨m0, π1, σ, st1, Ext.refl, s1, he.ext e1, w0⟩, ?_⟩
  rintro i m σV' H' ⟨π', σ', st', e2, s2, r2, w2⟩
  have dd := hd.ext (e1.trans e2)
  have j2 := j1.ext e2
  rcases turn i m σ' st' w2 with ⟨stop, q⟩ | ⟨d, hd1, N, hN, step⟩
  · exact .inl ⟨it_stop s2 j2 stop, dd.nx.self s2 r2 q⟩
  · obtain ⟨go, yl⟩ := it_go s2 j2 hd1
    refine .inr ⟨go, fun σ3 H3 => ∃ π3 σi st3, Ext X.K cl H1 π1 H3 π3 ∧ SR X.K cl H3 π3 st3 ∧ ER X.K cl H3 π3 σi σ3 ∧ N σi st3, fun σ3 H3 ⟨π3, σi, st3, e3, s3, r3, n3⟩ => ?_, fun x H4 hy => ?_⟩
    · obtain ⟨m', hm, w3⟩ := hN σi st3 n3
      exact ⟨m', hm, π3, σi, st3, e3, s3, r3, w3⟩
    · obtain ⟨e4, s4, r4⟩ := yl x H4 hy
      refine ⟨π', d, σ', st', _, s4, r2.ext e4, r4, step, fun σ5 st5 H5 π5 σV5 q5 e5 s5 r5 => ?_⟩
      have e6 := (e2.trans e4).trans e5
      have again : NW X.K cl H5 π5 (fun σ3 H3 => ∃ π3 σi st3, Ext X.K cl H1 π1 H3 π3 ∧ SR X.K cl H3 π3 st3 ∧ ER X.K cl H3 π3 σi σ3 ∧ N σi st3) N :=
        fun σ7 st7 H7 π7 σV7 q7 e7 s7 r7 => ⟨π7, σ7, st7, e6.trans e7, s7, r7, q7⟩
      have d5 := hd.ext (e1.trans e6)
      exact ⟨π5, σ5, st5, _, s5, r5, q5, again, d5.rt, d5.nx, again, d5.ex⟩
/-- while -/
def sWhile (t : XT) (body : XS) : XS := fun σ st D => ∃ Wl : Nat → Env → Store → Prop, (∃ m, Wl m σ st) ∧ ∀ m σ st, Wl m σ st →
  t σ st (fun c st1 => if c = true then ∃ N : Env → Store → Prop, (∀ σ' st', N σ' st' → ∃ m', m' < m ∧ Wl m' σ' st') ∧ body σ st1 { D with nx := N, ct := N, bk := D.nx } else D.nx σ st1) (fun c st1 => D.ex c σ st1)
theorem ms_while {c : Expr} {body : List Stmt} {pos : Pos} {t : XT} {b : XS} (hp : PassesOwn (model X.prog X.w) X.A X.env X.xe) (hc : PT X c (LT X.K cl W t)) (hb : PSs X body (LS X.K cl W b)) : PS X (.While c body [] pos) (LS X.K cl W (sWhile t b)) := by
  refine imS (ps_while hp hc hb) fun D σV H ⟨π, σ, st, D0, hs, he, hx, hd⟩ => ?_
  obtain ⟨Wl, ⟨m0, w0⟩, turn⟩ := hx
  refine ⟨fun m σV' H' => ∃ π' σ' st', Ext X.K cl H π H' π' ∧ SR X.K cl H' π' st' ∧ ER X.K cl H' π' σ' σV' ∧ Wl m σ' st', ⟨m0, π, σ, st, Ext.refl, hs, he, w0⟩, ?_⟩
  rintro m σV' H' ⟨π', σ', st', e2, s2, r2, w2⟩
  have dd := hd.ext e2
  refine ⟨π', σ', st', _, _, s2, r2, turn m σ' st' w2, fun b st3 H3 π3 h3 e3 s3 => ?_, dd.ex.at_ r2⟩
  cases b with
  | true =>
    simp only [if_true] at h3
    obtain ⟨N, hN, hb3⟩ := h3
    refine iteT ⟨fun σ4 H4 => ∃ π4 σi st4, Ext X.K cl H π H4 π4 ∧ SR X.K cl H4 π4 st4 ∧ ER X.K cl H4 π4 σi σ4 ∧ N σi st4, fun σ4 H4 ⟨π4, σi, st4, e4, s4, r4, n4⟩ => ?_, ?_⟩
    · obtain ⟨m', hm, w4⟩ := hN σi st4 n4
      exact ⟨m', hm, π4, σi, st4, e4, s4, r4, w4⟩
    · have again : NW X.K cl H3 π3 (fun σ4 H4 => ∃ π4 σi st4, Ext X.K cl H π H4 π4 ∧ SR X.K cl H4 π4 st4 ∧ ER X.K cl H4 π4 σi σ4 ∧ N σi st4) N :=
        fun σ7 st7 H7 π7 σV7 q7 e7 s7 r7 => ⟨π7, σ7, st7, (e2.trans e3).trans e7, s7, r7, q7⟩
      have d3 := dd.ext e3
      exact ⟨π3, σ', st3, _, s3, r2.ext e3, hb3, again, d3.rt, d3.nx, again, d3.ex⟩
  | false =>
    exact iteF ((dd.ext e3).nx.self s3 (r2.ext e3) (by simpa using h3))
end
end MP

namespace MP
open PySem L2

/-! ### slots of a comprehension's own names -/
def wipeD (σ : Env) : List Nat → Env
  | [] => σ
  | v :: vs => (wipeD σ vs).set v none
theorem wipe_set_out {σ : St} {i : Nat} {x : Option V} : ∀ {vs : List Nat}, i ∉ vs → wipe (σ.set i x) vs = (wipe σ vs).set i x
  | [], _ => rfl
  | v :: vs, h => by
    have h1 : i ≠ v := fun e => h (by rw [e]; exact List.mem_cons_self)
    have h2 : i ∉ vs := fun e => h (List.mem_cons_of_mem _ e)
    simp only [wipe]
    rw [wipe_set_out h2, List.set_comm _ _ h1]
theorem wipe_set_in {σ : St} {i : Nat} {x : Option V} : ∀ {vs : List Nat}, i ∈ vs → wipe (σ.set i x) vs = wipe σ vs
  | [], h => by cases h
  | v :: vs, h => by
    simp only [wipe]
    by_cases hv : i ∈ vs
    · rw [wipe_set_in hv]
    · have e : i = v := (List.mem_cons.mp h).resolve_right hv
      subst e
      rw [wipe_set_out hv, List.set_set]
theorem wipe_two (σ : St) : ∀ (vs ws : List Nat), (∀ v ∈ ws, v ∈ vs) → wipe (wipe σ ws) vs = wipe σ vs
  | vs, [], _ => rfl
  | vs, w :: ws, h => by
    simp only [wipe]
    rw [wipe_set_in (h w List.mem_cons_self), wipe_two σ vs ws fun v hv => h v (List.mem_cons_of_mem _ hv)]
theorem ER.wipe {K : PySem.W.Frag} {cl : CL} {H : Hp} {π : List Addr} {σ : Env} {σV : St} (h : ER K cl H π σ σV) : ∀ vs : List Nat, ER K cl H π (wipeD σ vs) (L2.wipe σV vs)
  | [] => h
  | v :: vs => (ER.wipe h vs).unset v

section
variable {X : Cx} {cl : CL} {W : WX}
/-- targets that store own names alone -/
def LGw (K : PySem.W.Frag) (cl : CL) (vs : List Nat) (g : XG) : TG := fun v σV H k => ∃ π d σ st k0, SR K cl H π st ∧ ER K cl H π σ σV ∧ RV K cl H π d v ∧ g d σ st k0 ∧
  ∀ σ' st' H' π' σV', k0 σ' st' → Ext K cl H π H' π' → SR K cl H' π' st' → ER K cl H' π' σ' σV' → wipe σV' vs = wipe σV vs → k σV' H'
def LGws (K : PySem.W.Frag) (cl : CL) (vs : List Nat) (g : List D → Env → Store → (Env → Store → Prop) → Prop) : TGs := fun us σV H k => ∃ π ds σ st k0, SR K cl H π st ∧ ER K cl H π σ σV ∧ RVs K cl H π ds us ∧ g ds σ st k0 ∧
  ∀ σ' st' H' π' σV', k0 σ' st' → Ext K cl H π H' π' → SR K cl H' π' st' → ER K cl H' π' σ' σV' → wipe σV' vs = wipe σV vs → k σV' H'
theorem mgw_name {vs : List Nat} {i : Nat} {x : Str} {pos : Pos} (hN : X.N.Nodup) (hi : X.N[i]? = some x) (hx : Loc X.env.scope x) (hv : i ∈ vs) (hf : X.fn x = true ∨ X.env.scope.names.lookup x = some .local := by first | exact .inl rfl | exact .inr rfl | assumption) : PG X (.Name x pos) (LGw X.K cl vs (gN i)) := by
  refine ⟨fun pins s σV H v u Q I r h => ?_⟩
  obtain ⟨π, d, σ, st, k0, hs, he, hr, hx', hk⟩ := h
  exact (pg_name hN hi hx hf).run pins s σV H v u Q I r (hk _ st H π _ hx' Ext.refl hs (he.set hr) (wipe_set_in hv))
theorem mgws_nil {vs : List Nat} : PGs X [] (LGws X.K cl vs gsNil) := by
  refine ⟨fun pins s σV H us uv Q I r h => ?_⟩
  obtain ⟨π, ds, σ, st, k0, hs, he, hr, ⟨hx, hq⟩, hk⟩ := h
  subst hx
  exact pgs_nil.run pins s σV H us uv Q I r ⟨hr.un0, hk σ st H π σV hq Ext.refl hs he rfl⟩
theorem mgws_cons {vs : List Nat} {e : Expr} {es : List Expr} {g : XG} {r : List D → Env → Store → (Env → Store → Prop) → Prop} (h1 : PG X e (LGw X.K cl vs g)) (h2 : PGs X es (LGws X.K cl vs r))
    (hs : (assignEach (e :: es) X.env).map (·.2) = assign e X.env :: (assignEach es X.env).map (·.2) := by rfl) : PGs X (e :: es) (LGws X.K cl vs (gsCons g r)) := by
  refine ⟨fun pins s σV H us uv Q I rr h => (pgs_cons h1 h2 hs).run pins s σV H us uv Q I rr ?_⟩
  obtain ⟨π, ds, σ, st, k0, hs, he, hr, hx, hk⟩ := h
  cases ds with
  | nil => exact hx.elim
  | cons d q =>
    obtain ⟨v, w, rfl, r1, r2⟩ := hr.un
    refine ⟨v, w, rfl, π, d, σ, st, _, hs, he, r1, hx, fun σ1 st1 H1 π1 σV1 q1 e1 s1 re w1 => ?_⟩
    exact ⟨π1, q, σ1, st1, k0, s1, re, r2.ext e1, q1, fun σ2 st2 H2 π2 σV2 q2 e2 s2 r2 w2 => hk σ2 st2 H2 π2 σV2 q2 (e1.trans e2) s2 r2 (w2.trans w1)⟩
theorem mgw_tup {vs : List Nat} {es : List Expr} {k : Nat} {pos : Pos} {n : Nat} {r : List D → Env → Store → (Env → Store → Prop) → Prop} (hc : X.calm = true) (h : PGs X es (LGws X.K cl vs r))
    (hn : (assignEach es X.env).length = n := by rfl) (hst : (assignEach es X.env).findIdx? (·.1) = none := by rfl) : PG X (.Tuple es k pos) (LGw X.K cl vs (gT n r)) := by
  refine ⟨fun pins s σV H v u Q I rr h' => (pg_tup hc h hn hst).run pins s σV H v u Q I rr ?_⟩
  obtain ⟨π, d, σ, st, k0, hs, he, hr, hx, hk⟩ := h'
  cases d with
  | tup xs =>
    simp only [RV] at hr
    obtain ⟨a, us, rfl, t, r1⟩ := hr
    exact ⟨a, us, rfl, t, by rw [r1.length]; exact hx.1, π, xs, σ, st, k0, hs, he, r1, hx.2, hk⟩
  | _ => exact hx.elim
def tYesX : XT := fun _ st Q _ => Q true st
theorem mts_nil : PTs X [] (LT X.K cl W tYesX) := ⟨fun pins s σV H Q I h => pts_nil.run pins s σV H Q I (by
  obtain ⟨π, σ, st, Q0, R0, hs, he, hx, hq, _⟩ := h
  exact hq true st H π hx Ext.refl hs)⟩
theorem mts_one {c : Expr} {t : XT} (h : PT X c (LT X.K cl W t)) : PTs X [c] (LT X.K cl W t) := pts_one h

/-! ### [e for target in it if t] -/
def botR : XR := fun _ _ => False
def compW (ik : IK) (g : XG) (t : XT) (e : XE) (σ : Env) (n : Nat) (st1 : Store) (Q : D → Store → Prop) : Prop :=
  ∃ Wl : Nat → Nat → Store → Prop, (∃ m, Wl 0 m (st1 ++ [.lst []])) ∧ ∀ k m st, Wl k m st →
    (itemAt ik k st = some none ∧ Q (.ref n) st) ∨ (∃ d, itemAt ik k st = some (some d) ∧ ∃ Nx : Store → Prop, (∀ st', Nx st' → ∃ m', m' < m ∧ Wl (k + 1) m' st') ∧
      g d σ st fun σ2 st2 => t σ2 st2 (fun b st3 => if b = true then e σ2 st3 (fun y st4 => ∃ acc, st4[n]? = some (.lst acc) ∧ acc.length < 16777216 ∧ Nx (st4.set n (.lst (acc ++ [y])))) botR else Nx st3) botR)
def xComp (it : XI) (vs : List Nat) (g : XG) (t : XT) (e : XE) : XE := fun σ st Q R => it σ st (fun ik st1 => compW ik g t e (wipeD σ vs) st1.length st1 Q) R
abbrev W0 : WX := fun _ _ _ _ => False
theorem comp_imp {K : PySem.W.Frag} {it : XI} {vs : List Nat} {g : XG} {t : XT} {e : XE} {σV : St} {H : Hp} {Q : VK} (h : LE K cl W (xComp it vs g t e) σV H Q) :
    tLc (LI K cl W it) (LGw K cl vs g) (LT K cl W0 t) (LE K cl W0 e) vs σV H Q := by
  obtain ⟨π, σ, st, Q0, R0, hs, he, hx, hq, hw⟩ := h
  refine ⟨π, σ, st, _, R0, hs, he, hx, fun ik st1 H1 π1 J h1 e1 s1 j1 => ?_, hw⟩
  intro Dl hDl
  obtain ⟨Wl, ⟨m0, w0⟩, turn⟩ := h1
  have eD : Ext K cl H1 π1 (upd H1 Dl (.lst [])) (π1 ++ [Dl]) := Ext.new hDl [Dl]
  have sD : SR K cl (upd H1 Dl (.lst [])) (π1 ++ [Dl]) (st1 ++ [.lst []]) := s1.push hDl .nil
  have aD : (π1 ++ [Dl])[st1.length]? = some Dl := by rw [← s1.len, List.getElem?_append_right (Nat.le_refl _), Nat.sub_self]; rfl
  refine ⟨fun i m H' => ∃ π' st', Ext K cl (upd H1 Dl (.lst [])) (π1 ++ [Dl]) H' π' ∧ SR K cl H' π' st' ∧ Wl i m st', ⟨m0, π1 ++ [Dl], st1 ++ [.lst []], Ext.refl, sD, w0⟩, ?_⟩
  rintro i m H' ⟨π', st', e2, s2, w2⟩
  have ee := (e1.trans eD).trans e2
  have j2 := j1.ext (eD.trans e2)
  rcases turn i m st' w2 with ⟨stop, q⟩ | ⟨d, hd1, Nx, hN, step⟩
  · exact .inl ⟨it_stop s2 j2 stop, hq _ _ _ _ _ q ee s2 (by simp only [RV]; exact ⟨Dl, rfl, e2.at_ aD⟩)⟩
  · obtain ⟨go, yl⟩ := it_go s2 j2 hd1
    refine .inr ⟨go, fun H3 => ∃ π3 st3, Ext K cl (upd H1 Dl (.lst [])) (π1 ++ [Dl]) H3 π3 ∧ SR K cl H3 π3 st3 ∧ Nx st3, fun H3 ⟨π3, st3, e3, s3, n3⟩ => ?_, fun x H4 hy => ?_⟩
    · obtain ⟨m', hm, w3⟩ := hN st3 n3
      exact ⟨m', hm, π3, st3, e3, s3, w3⟩
    · obtain ⟨e4, s4, r4⟩ := yl x H4 hy
      refine ⟨π', d, wipeD σ vs, st', _, s4, (he.ext (ee.trans e4)).wipe vs, r4, step, fun σ5 st5 H5 π5 σV5 q5 e5 s5 r5 w5 => ⟨w5.trans (wipe_two σV vs vs fun _ h => h), ?_⟩⟩
      refine ⟨π5, σ5, st5, _, _, s5, r5, q5, fun b st6 H6 π6 q6 e6 s6 => ?_, fun _ _ _ _ z _ _ => False.elim z⟩
      have e46 := ((e2.trans e4).trans e5).trans e6
      cases b with
      | true =>
        refine iteT ⟨π6, σ5, st6, _, _, s6, r5.ext e6, (by rw [if_pos rfl] at q6; exact q6), fun y st7 H7 π7 v7 q7 e7 s7 r7 => ?_, fun _ _ _ _ z _ _ => False.elim z⟩
        obtain ⟨acc, g1, g2, g3⟩ := q7
        have e47 := e46.trans e7
        have a7 := e47.at_ aD
        obtain ⟨a, ws, p1, p2, p3⟩ := s7.lst g1
        rw [a7] at p1; cases p1
        obtain ⟨_, k2, k3⟩ := s7.write g1 a7 (p3.append (.cons r7 .nil))
        exact ⟨ws, p2, by rw [sizeLine_eq, p3.length]; exact g2, π7, _, e47.trans k2, k3, g3⟩
      | false => exact iteF ⟨π6, st6, e46, s6, by simpa using q6⟩
theorem mp_comp {elt tg iter : Expr} {ifs : List Expr} {scope : Scope} {own : List (Str × Nat)} {pos : Pos} {it : XI} {g : XG} {t : XT} {e : XE} (hc : X.calm = true) (hN : X.N.Nodup) (hi : PI X tg iter (LI X.K cl W it)) (ok : BlkOk X.N X.env.scope scope own)
    (hg : ∀ (s : Shared) (H : Hp) (C : Addr) (cl' : List (Str × Addr)) (fp : List Addr), PG (X.blk s H scope (compEnvC scope cl' C X.env) fp) tg (LGw X.K cl (own.map (·.2)) g))
    (ht : ∀ (s : Shared) (H : Hp) (C : Addr) (cl' : List (Str × Addr)) (fp : List Addr), PTs (X.blk s H scope (compEnvC scope cl' C X.env) fp) ifs (LT X.K cl W0 t))
    (he : ∀ (s : Shared) (H : Hp) (C : Addr) (cl' : List (Str × Addr)) (fp : List Addr), PE (X.blk s H scope (compEnvC scope cl' C X.env) fp) elt (LE X.K cl W0 e)) (hs : ∀ x, foldedSetIterable iter X.env x = pure x := by intro _; rfl) :
    PE X (.ListComp elt [⟨tg, iter, ifs, 0⟩] scope pos) (LE X.K cl W (xComp it (own.map (·.2)) g t e)) :=
  imE (pe_lc hc hN hi ok hg ht he hs) fun _ _ _ h => comp_imp h
theorem ms_setComp {i : Nat} {y : Str} {py : Pos} {elt tg iter : Expr} {ifs : List Expr} {scope : Scope} {own : List (Str × Nat)} {pos spos : Pos} {it : XI} {g : XG} {t : XT} {e : XE} (hc : X.calm = true) (hN : X.N.Nodup) (hi : PI X tg iter (LI X.K cl W it)) (ok : BlkOk X.N X.env.scope scope own)
    (hg : ∀ (s : Shared) (H : Hp) (C : Addr) (cl' : List (Str × Addr)) (fp : List Addr), PG (X.blk s H scope (compEnvC scope cl' C X.env) fp) tg (LGw X.K cl (own.map (·.2)) g))
    (ht : ∀ (s : Shared) (H : Hp) (C : Addr) (cl' : List (Str × Addr)) (fp : List Addr), PTs (X.blk s H scope (compEnvC scope cl' C X.env) fp) ifs (LT X.K cl W0 t))
    (he : ∀ (s : Shared) (H : Hp) (C : Addr) (cl' : List (Str × Addr)) (fp : List Addr), PE (X.blk s H scope (compEnvC scope cl' C X.env) fp) elt (LE X.K cl W0 e))
    (hy : X.N[i]? = some y) (hyl : X.env.scope.names.lookup y = some .local) (hsw : swapsWith (.ListComp elt [⟨tg, iter, ifs, 0⟩] scope pos) (some (.Name y py)) spos.line X.env = pure true) (hs : ∀ x, foldedSetIterable iter X.env x = pure x := by intro _; rfl) :
    PS X (.Assign [.Name y py] (.ListComp elt [⟨tg, iter, ifs, 0⟩] scope pos) spos) (LS X.K cl W (sSet i (xComp it (own.map (·.2)) g t e))) := by
  refine imS (ps_setLc hc hN hy hyl hsw hi ok hg ht he hs) fun D σV H h => ?_
  obtain ⟨π, σ, st, D0, hs, he, hx, hd⟩ := h
  refine comp_imp ⟨π, σ, st, _, _, hs, he, hx, fun d st1 H1 π1 v h1 e1 s1 r1 => ?_, hd.ex.at_ he⟩
  exact hd.nx _ st1 H1 π1 _ h1 e1 s1 ((he.ext e1).set r1)

/-! ### raise -/
def sRaise (c : Nat) : XS := fun σ st D => D.ex c σ st
theorem ms_raise {c : Nat} {B newId initId : String} {bmB : List Value} {x m : Str} {j : Nat} {p p2 pos pos' : Pos} (F : ExcBaseFacts B newId initId bmB) (q : PySem.W.excIn X.K (cl c) bmB newId = true) (gC : X.mg x = some (.ref (cl c))) (kC : PySem.W.keepIn X.K (.ref (cl c)) = true)
    (r : Raises X (.ref (cl c))) (hc : X.calm = true) (tk : Takes X W) (hg : Gl X x := by rfl) (hdb : (x == ("__debug__" : Str)) = false := by decide) :
    PS X (.Raise (some (.Call (.Name x p) [.Constant (.str m) j p2] [] pos)) none pos') (LS X.K cl W (sRaise c)) := by
  refine imS (ps_raise hc tk (pmk_own F q gC kC r hg hdb)) fun D σV H ⟨π, σ, st, D0, hs, he, hx, hd⟩ => ?_
  exact hd.ex c σ st H π σV hx Ext.refl hs he

/-! ### a def -/
/-- the meaning of a def: its body over the parameters -/
def defX (b : XS) (m n : Nat) : XF := fun ds st Q R => ds.length = n ∧ b (ds.map some ++ List.replicate (m - n) none) st
  { nx := fun _ st' => Q .non st', rt := Q, bk := fun _ _ => False, ct := fun _ _ => False, ex := fun c _ st' => R c st' }
theorem defX_len {b : XS} {m n : Nat} : ∀ ds st Q R, defX b m n ds st Q R → ds.length = n := fun _ _ _ _ h => h.1
theorem start_er {K : PySem.W.Frag} {H : Hp} {π : List Addr} {ds : List D} {vs : List V} {N : List Str} (r : RVs K cl H π ds vs) : ER K cl H π (ds.map some ++ List.replicate (N.length - ds.length) none) (L2.start N vs) := by
  unfold L2.start
  refine ⟨by simp [r.length], fun i d q => ?_⟩
  by_cases hi : i < ds.length
  · rw [List.getElem?_append_left (by simpa using hi), List.getElem?_map, List.getElem?_eq_getElem hi] at q
    simp at q
    obtain ⟨v, h1, h2⟩ := r.get (List.getElem?_eq_getElem hi)
    rw [q] at h2
    exact ⟨v, by rw [List.getElem?_append_left (by rw [List.length_map, r.length]; exact hi), List.getElem?_map, h1]; rfl, h2⟩
  · rw [List.getElem?_append_right (by simpa using hi), List.getElem?_replicate] at q
    split at q <;> cases q
variable {P : Program} {w : World} {K : PySem.W.Frag} {mg : Str → Option Value} {base : Heap}
/-- the wish of a def's body -/
abbrev wD (E : XK) : WX := fun cls d _ H => E cls d H
theorem mp_def {x qual : Str} {st : Stmt} {f : Addr} {fd : FuncData} {N ps : List Str} {k n : Nat} {b : XS} (F : Fun K x qual st f fd) (S : FnScope N ps (defScope st)) (hn : ps.length = n)
    (hb : ∀ (cdv : Value) (A : Around) (outer : List PySem.Env) (s : Shared) (H : Hp) (E : XK), Room k (A.deeper (PyProof.Rows.envOfC qual (defScope st) s.heap.objs.size f cdv)) → Takes (cxOf (L2.CX P w) P w K mg base N qual (defScope st) f cdv A outer s H E) (wD E) →
      PassesOwn (model P w) (cxOf (L2.CX P w) P w K mg base N qual (defScope st) f cdv A outer s H E).A (cxOf (L2.CX P w) P w K mg base N qual (defScope st) f cdv A outer s H E).env (cxOf (L2.CX P w) P w K mg base N qual (defScope st) f cdv A outer s H E).xe →
      PSs (cxOf (L2.CX P w) P w K mg base N qual (defScope st) f cdv A outer s H E) (defBody st) (LS K cl (wD E) b)) : FnOk P w K mg base (L2.CX P w) (k + 1) f fd ps (spX K cl (defX b N.length n) n) := by
  refine F.okX S (fun vs H Q E h => ?_) (fun cdv A outer s H vs Q E hr h => ?_)
  · obtain ⟨π, ds, st', Q0, R0, hs, r, hl, _⟩ := h
    rw [r.length, hl, hn]
  · obtain ⟨π, ds, st', Q0, R0, hs, r, hl, hx, hq, hw⟩ := h
    have tk : Takes (cxOf (L2.CX P w) P w K mg base N qual (defScope st) f cdv A outer s H E) (wD E) := takes_of rfl rfl rfl rfl
    refine ⟨_, hb cdv A outer s H E hr tk (passes_of rfl), π, _, st', _, hs, start_er r, (by rw [hl]; exact hx.2), ⟨fun σ' st' H' π' σV' q e s r => ?_, hq, fun _ _ _ _ _ z _ _ _ => False.elim z, fun _ _ _ _ _ z _ _ _ => False.elim z, fun c σ' st' H' π' σV' q e s _ => hw c st' H' π' q e s⟩⟩
    exact hq .non st' H' π' .non q e s (by simp only [RV])
end
end MP

namespace MP
open PySem L2

section
variable {X : Cx} {pins : List (Addr × Obj)} {σV : St} {H : Hp} {s : Shared}
/-- an exception's object that lay outside is known from now on -/
theorem inv_track {a C : Addr} {oe : Obj} {vs : Array Value} (J : Inv X pins σV H s) (ha : s.heap.get? a = some oe) (hz : Zc (.ref C) none oe) (hd : oe.data = .fields vs) (na : H a = none) (n0 : X.s_0.heap.get? a = none) (nL : a ≠ X.env.locals) (np : ∀ p ∈ X.pn ++ pins, p.1 ≠ a) :
    Inv X pins σV (upd H a (ExT C a)) s := by
  have other : ∀ {b : Addr} {u : HO}, H b = some u → upd H a (ExT C a) b = some u := fun {b u} q => (upd_ne (ne_of_none q na)).trans q
  refine ⟨J.ok, J.os, J.bare, ⟨J.base.keep, J.base.slot, fun b o q n hx => ?_, J.base.there, fun b xs q => other (J.base.tups b xs q), fun b o u q => other (J.base.frzs b o u q), fun b ps q => ?_⟩, J.loc, J.cell, ?_, fun x c q => ?_, fun p hp => ?_, fun b u q => ?_, J.len⟩
  · have nb : b ≠ a := fun z => by rw [z, n0] at q; cases q
    rw [upd_ne nb]
    exact J.base.free b o q n hx
  · obtain ⟨more, e⟩ := J.base.tbls b ps q
    exact ⟨more, other e⟩
  · rw [upd_ne (Ne.symm nL)]
    exact J.free
  · have nc : c ≠ a := fun z => by
      obtain ⟨v, o, ho, hc⟩ := J.cell x c q
      rw [z, ha] at ho
      cases ho
      rw [hd] at hc
      cases hc
    rw [upd_ne nc]
    exact J.freeC x c q
  · obtain ⟨g1, g2, g3, g4, g5⟩ := J.pin p hp
    exact ⟨g1, (upd_ne (np p hp)).trans g2, g3, g4, g5⟩
  · by_cases hb : b = a
    · subst hb
      rw [upd_same] at q
      cases q
      exact ⟨⟨oe, vs, ha, hz, hd⟩, ⟨oe, ha⟩, fun _ _ ⟨o1, w1, f1, f2, f3⟩ k => ⟨o1, w1, k o1 f1, f2, f3⟩⟩
    · rw [upd_ne hb] at q
      exact (J.hok b u q).stay (fun _ _ _ r => r) (fun _ r => other r) fun _ _ r => other r
/-- where an exception at a is handled -/
abbrev hotC (X : Cx) (a : Addr) : Cx := { X with A := X.A.mark (some (.ref a)), calm := false, xe := fun _ _ => False }
theorem hot_ok (ok : X.Ok) (a : Addr) : (hotC X a).Ok :=
  ⟨ok.mod, ok.kind, ok.glob, ok.blt, ok.above, ok.inj, ok.has, ok.cab, (fun z => absurd (show false = true from z) Bool.false_ne_true), ok.frames, ok.stk, ok.exf, ok.bs, ok.bsz, ok.noex, ok.exfs, ok.funs, ok.frf⟩
theorem inv_hot (I : Inv X pins σV H s) (a : Addr) : Inv (hotC X a) pins σV H s := ⟨hot_ok I.ok a, I.os, I.bare, I.base, I.loc, I.cell, I.free, I.freeC, I.pin, I.hok, I.len⟩
theorem inv_cool {a : Addr} (ok : X.Ok) (I : Inv (hotC X a) pins σV H s) : Inv X pins σV H s := ⟨ok, I.os, I.bare, I.base, I.loc, I.cell, I.free, I.freeC, I.pin, I.hok, I.len⟩
end

/-- try: body, except X as n: suite; n is the i-th name -/
def tryE (i : Nat) (D : EI) : EI := { nx := fun σ2 st2 => D.nx (σ2.set i none) st2, rt := D.rt, bk := fun σ2 st2 => D.bk (σ2.set i none) st2, ct := fun σ2 st2 => D.ct (σ2.set i none) st2, ex := fun _ _ _ => False }
def sTry (sub : Nat → Bool) (i : Nat) (body suite : XS) : XS := fun σ st D => body σ st { D with ex := fun c σ1 st1 => if sub c = true then suite (σ1.set i (some (.exc c))) st1 (tryE i D) else D.ex c σ1 st1 }
section
variable {X : Cx} {cl : CL} {W : WX}
theorem ms_try {x n : Str} {cv : Value} {i : Nat} {body suite : List Stmt} {b₀ : Stmt} {np pos pos' : Pos} {sub : Nat → Bool} {tb ts : XS} (hs : X.stack = X.env :: X.outer) (hf : X.env.frame = some X.env.locals) (hex : X.ex = []) (hN : X.N.Nodup) (hi : X.N[i]? = some n) (hln : X.env.kindOf n = some .local)
    (hc : Names X x cv) (hsub : ∀ c, PySem.W.exmOne X.K (.ref (cl c)) cv = some (sub c)) (tk : Takes X W)
    (hb : ∀ (W' : WX) (pn : List (Addr × Obj)) (xe : Value → Shared → Prop), Takes (X.tr pn xe) W' → PassesOwn (model X.prog X.w) X.A X.env xe → PSs (X.tr pn xe) body (LS X.K cl W' tb))
    (hsu : ∀ a : Addr, PSs (hotC X a) (b₀ :: suite) (LS X.K cl W0 ts)) :
    PS X (.Try body [.ExceptHandler (some (.Name x np)) (some n) (b₀ :: suite) pos'] [] [] pos) (LS X.K cl W (sTry sub i tb ts)) := by
  refine ⟨fun pins s σV H D I h => ?_⟩
  obtain ⟨π, σ, st, D0, hs0, he0, hx0, hd0⟩ := h
  have ok := I.ok
  have hfr : X.A.frames = some (X.env :: X.outer) := ok.frames.trans (congrArg some hs)
  let W' : WX := fun cls d σ1 H1 => ∃ c σi st1 π1, cls = .ref (cl c) ∧ d = none ∧ Ext X.K cl H π H1 π1 ∧ SR X.K cl H1 π1 st1 ∧ ER X.K cl H1 π1 σi σ1 ∧
    (if sub c = true then ts (σi.set i (some (.exc c))) st1 (tryE i D0) else D0.ex c σi st1)
  refine wpAny_Try_except ?_
  refine wpAny_mono ((hb W' (X.pn ++ pins) (fun e s₁ => wpAny (model X.prog X.w) X.A (noteFrame e X.env) (fun _ s₂ => wpAny (model X.prog X.w) X.A (setFlight e none) (fun _ s₃ =>
    wpAny (model X.prog X.w) X.A (handleBy e X.env [.ExceptHandler (some (.Name x np)) (some n) (b₀ :: suite) pos']) (SP X pins D) X.xe s₃) X.xe s₂) X.xe s₁) (fun u s' air => ?_) PassesOwn.looking).run [] s σV H D (I.toTry _) ?_) (fun f s1 hsp => ?_) (fun _ _ z => z)
  · obtain ⟨a, B, sI, pins', σ1, H1, cls, d, rfl, J0, ground, up, sky, na, hos, hag, c, σi, st1, π1, rfl, rfl, e1, s1, r1, goal⟩ := air
    have J : Inv X pins σ1 H1 sI := J0.ofTry ok
    have sky' : Sky B (X.env :: X.outer) a (Zc (.ref (cl c)) none) X.env.locals s'.heap := hs ▸ sky
    show wpAny (model X.prog X.w) X.A (noteFrame (.ref a) X.env) _ _ _
    refine Sky.land Zc.steady hfr hf sky' fun h3 fl3 up3 => ?_
    have J3 : Inv X pins σ1 H1 { s' with heap := h3 } := J.landed ground fl3.1 (up.trans up3) hos hag
    obtain ⟨oe, vs, hoe, hzc, hdat⟩ := fl3.there
    have noFr : a ∉ frs (X.env :: X.outer) := fun hm => by
      obtain ⟨_, o', e', hnf⟩ := fl3.2.2.1.mem hm
      rw [hoe] at e'
      cases e'
      exact hnf _ hdat
    have nL : a ≠ X.env.locals := fun z => noFr (List.mem_filterMap.mpr ⟨X.env, List.mem_cons_self, by rw [hf, z]⟩)
    have nB : B.get? a = none := fl3.2.1
    have notI : ∀ o, sI.heap.get? a ≠ some o := fun o z => by
      have := ground a o z (by rw [hs]; exact noFr)
      rw [nB] at this
      cases this
    have n0 : X.s_0.heap.get? a = none := by
      cases q : X.s_0.heap.get? a with
      | none => rfl
      | some o =>
        obtain ⟨o', q'⟩ := J.base.there a o q (by rw [hex]; exact fun z => by cases z)
        exact absurd q' (notI o')
    have npn : ∀ p ∈ X.pn ++ pins, p.1 ≠ a := fun p hp z => by
      obtain ⟨g1, _⟩ := J.pin p hp
      exact notI p.2 (z ▸ g1)
    refine wpAny_handleBy_cons (codeAny_handlers_test ?_) (by intro q; cases q)
    have LTy : PySem.W.Looks (model X.prog X.w) h3 (typeOf (.ref a)) (.ref (cl c)) := fun A Q E s k q => wpAny_typeOf_ref (k _ _ hoe) (by rw [hzc.1]; exact q)
    have LMt := PySem.W.exm_one (M := model X.prog X.w) J3.kIn LTy (hsub c)
    have hotI := inv_hot J3 a
    have test : ∀ {Q : Value → Shared → Prop} {E : Value → Shared → Prop}, Q cv { s' with heap := h3 } → wpAny (model X.prog X.w) (X.A.mark (some (.ref a))) (eval (.Name x np) X.env) Q E { s' with heap := h3 } := fun {Q E} q => by
      obtain ⟨hg, hdbg, hm | ⟨hm, hv, hnn⟩⟩ := hc
      · exact ld_glob (X := hotC X a) hotI hg hm q hdbg
      · exact ld_blt (X := hotC X a) hotI hg hm hv q hnn hdbg
    refine test (LMt.here ?_)
    cases hb1 : sub c with
    | true =>
      rw [hb1, if_pos rfl] at goal
      refine PySem.codeAny_handlers_suite_as ?_
      refine HandSPX.lands_againZ fl3 fun h4 fl4 up4 => ?_
      have J4 : Inv X pins σ1 H1 { s' with heap := h4 } := J.landed ground fl4.1 ((up.trans up3).trans up4) hos hag
      obtain ⟨oe4, vs4, hoe4, hzc4, hdat4⟩ := fl4.there
      have T4 := inv_track J4 hoe4 hzc4 hdat4 na n0 nL npn
      have eT : Ext X.K cl H1 π1 (upd H1 a (ExT (cl c) a)) π1 := Ext.new0 na
      refine store_ok (X := hotC X a) (v := .ref a) (inv_hot T4 a) hN hi (.inl hln) rfl (fun s5 S5 => ?_) (.inr hln)
      have cool : ∀ {σ6 : St} {H6 : Hp} {s6 : Shared} {Q : Shared → Prop}, Inv (hotC X a) pins σ6 H6 s6 → (∀ s7, Inv X pins (σ6.set i none) H6 s7 → Q s7) →
          wpAny (model X.prog X.w) X.A (do bindName X.env n .none; unbindBehindTheSuite X.env n pos') (fun _ s7 => Q s7) X.xe s6 := fun {σ6 H6 s6 Q} S6 hq => gone_ok (inv_cool ok S6) hN hi hln hq
      have dd := hd0.ext (e1.trans eT)
      refine wpAny_mono (((hsu a).run pins s5 (σ1.set i (some (.ref a))) (upd H1 a (ExT (cl c) a)) ⟨fun σ6 H6 => D.nx (σ6.set i none) H6, D.rt, fun σ6 H6 => D.bk (σ6.set i none) H6, fun σ6 H6 => D.ct (σ6.set i none) H6⟩ S5
        ⟨π1, _, st1, _, s1.new0 na, (r1.ext eT).set (d := .exc c) (by simp only [RV]; exact ⟨a, rfl, upd_same⟩), goal, ?_⟩)) (fun f s6 hsp => ?_) (fun _ _ z => False.elim z)
      · exact ⟨fun σ' st' H' π' σV' q e s r => dd.nx _ st' H' π' _ q e s (r.unset i), dd.rt, fun σ' st' H' π' σV' q e s r => dd.bk _ st' H' π' _ q e s (r.unset i), fun σ' st' H' π' σV' q e s r => dd.ct _ st' H' π' _ q e s (r.unset i), fun _ _ _ _ _ _ z _ _ _ => False.elim z⟩
      · cases f with
        | next =>
          obtain ⟨σ6, H6, S6, q6⟩ := hsp
          exact cool S6 fun s7 J7 => ⟨_, _, J7, q6⟩
        | brk =>
          obtain ⟨σ6, H6, S6, q6⟩ := hsp
          exact cool S6 fun s7 J7 => ⟨_, _, J7, q6⟩
        | cont =>
          obtain ⟨σ6, H6, S6, q6⟩ := hsp
          exact cool S6 fun s7 J7 => ⟨_, _, J7, q6⟩
        | ret u =>
          obtain ⟨v6, σ6, H6, S6, r6, q6⟩ := hsp
          exact cool S6 fun s7 J7 => ⟨_, _, _, J7, r6, q6⟩
    | false =>
      rw [hb1] at goal
      rw [if_neg Bool.false_ne_true] at goal
      show wpAny _ X.A (handleBy (.ref a) X.env []) _ _ _
      refine wpAny_handleBy_nil ?_
      obtain ⟨_, _, _, oe5, vs5, T, oT, ts5, hoe5, _, hdat5, h15, _⟩ := id fl3
      have fin : wpAny (model X.prog X.w) X.A (setFlight (.ref a) X.env.frame) (fun _ s4 => wpAny (model X.prog X.w) X.A (throw (.ref a) : Sem Flow) (SP X pins D) X.xe s4) X.xe { s' with heap := h3 } := by
        rw [hf]
        refine HandSPX.setFlight_upZ fl3 fun h4 hh4 up4 => wpAny_throw (tk _ _ ⟨a, B, sI, pins, σ1, H1, .ref (cl c), none, rfl, J, ground, (up.trans up3).trans up4, .inr (.inr ?_), na, hos, hag, ?_⟩)
        · rw [hs]; exact hh4
        · exact hd0.ex c σi st1 H1 π1 σ1 goal e1 s1 r1
      unfold PySem.passOn
      refine wpAny_bind (wpAny_field hoe5 hdat5 h15 ?_)
      rw [if_neg (show ¬ ((Value.ref T == Value.none) = true) from by simp)]
      first
        | exact wpAny_bind (wpAny_pure (wpAny_bind fin))
        | exact wpAny_bind fin
  · refine ⟨π, σ, st, _, hs0, he0, hx0, hd0.nx, hd0.rt, hd0.bk, hd0.ct, fun c σ' st' H' π' σV' q e s r => ?_⟩
    exact ⟨c, σ', st', π', rfl, rfl, e, s, r, q⟩
  · cases f with
    | next =>
      obtain ⟨σ6, H6, J6, q6⟩ := hsp
      exact wpAny_execs_nil ⟨σ6, H6, J6.ofTry ok, q6⟩
    | brk =>
      obtain ⟨σ6, H6, J6, q6⟩ := hsp
      exact ⟨σ6, H6, J6.ofTry ok, q6⟩
    | cont =>
      obtain ⟨σ6, H6, J6, q6⟩ := hsp
      exact ⟨σ6, H6, J6.ofTry ok, q6⟩
    | ret u =>
      obtain ⟨v6, σ6, H6, J6, r6, q6⟩ := hsp
      exact ⟨v6, σ6, H6, J6.ofTry ok, r6, q6⟩
end
end MP

namespace MP
open PySem L2

/-! ### isinstance of an exception that is held -/
def rIsX (K : PySem.W.Frag) : List V → Hp → VK → Prop := fun xs H Q => ∃ (a C : Addr) (c : V) (cv : Value) (b : Bool), xs = [.ref a, c] ∧ H a = some (ExT C a) ∧ ExcC K C ∧ (∀ u, RelV c u → u = cv) ∧ PySem.W.kitOne K (.ref C) cv = some b ∧ Q (.bl b) H
section
variable {X : Cx} {cl : CL} {W : WX}
theorem call_isX : CallR X (.builtin "isinstance") (rIsX X.K) := by
  intro pins s σ H xs us Q I r h
  obtain ⟨a, C, c, cv, b, rfl, ha, ec, hc, hk, q⟩ := h
  obtain ⟨u1, u2, rfl, r1, r2⟩ := vals2 r
  cases r1
  have := hc _ r2
  subst this
  obtain ⟨⟨oe, vs, ho, hz, hd⟩, _⟩ := (show ObjOk X.prog X.w H s.heap a (ExT C a) from I.hok a _ ha)
  obtain ⟨oc, od, oda, osl⟩ := oe
  obtain ⟨h1, h2⟩ := hz
  dsimp only at h1 h2 hd
  subst h1 h2 hd
  have J : PySem.W.InstAt s.heap a _ C none := ⟨ho, rfl, rfl, trivial⟩
  exact PySem.W.kia_one (PySem.W.handS_kitx_exc ec.hg ec.hk ec.hs ec.hd ec.ha ec.hn ec.ht ec.hm) I.kIn J hk (fun z => by cases z) fun tk => ⟨.bl b, H, I.tok tk, rfl, q⟩
def xIsx (sub : Nat → Bool) (x : XE) : XE := fun σ st Q R => x σ st (fun d st1 => match d with
  | .exc k => Q (.bl (sub k)) st1
  | _ => False) R
theorem mp_isx {nm : Str} {p p2 pos : Pos} {e : Expr} {xe : XE} {sub : Nat → Bool} {c : V} {cv : Value} (hE : ∀ k, ExcC X.K (cl k)) (hsub : ∀ k, PySem.W.kitOne X.K (.ref (cl k)) cv = some (sub k)) (hcv : ∀ u, RelV c u → u = cv) (hc : PE X (.Name nm p2) (tC c))
    (hm : X.mg "isinstance" = none) (he : PE X e (LE X.K cl W xe)) (hv : bootBuiltins "isinstance" = some (.builtin "isinstance") := by decide +kernel) (hg : Gl X "isinstance" := by rfl)
    (h1 : starEach [e, .Name nm p2] X.env = (false, eval e X.env) :: starEach [.Name nm p2] X.env := by rfl) (hpl : (backTo pos (starEach [.Name nm p2] X.env)).any (·.1) = false := by rfl) :
    PE X (.Call (.Name "isinstance" p) [e, .Name nm p2] [] pos) (LE X.K cl W (xIsx sub xe)) := by
  refine imE (pe_callB call_isX hg hm hv (pa_cons he (pa_cons hc pa_nil (by rfl)) h1) (by decide) (by decide) h1 hpl) fun σV H Q ⟨π, σ, st, Q0, R0, hs, he, hx, hq, hw⟩ => ?_
  refine ⟨π, σ, st, _, R0, hs, he, hx, fun d st1 H1 π1 v h1 e1 s1 r1 => ?_, hw⟩
  cases d with
  | exc k =>
    simp only [RV] at r1
    obtain ⟨a, rfl, ha⟩ := r1
    exact ⟨a, cl k, c, cv, sub k, rfl, ha, hE k, hcv, hsub k, hq _ st1 H1 π1 _ h1 e1 s1 (by simp only [RV])⟩
  | _ => exact h1.elim
end
end MP

namespace MP
open PySem L2 PySem.Spec PyProof.Rows

/-! ### a call far from any context -/
theorem modKeeps {K : PySem.W.Frag} {mg : Str → Option Value} {h h' : Heap} (M : L2.Mod K mg h) (k : ∀ b o, h.get? b = some o → h'.get? b = some o) : L2.Mod K mg h' :=
  ⟨M.kin.keeps k, M.glob.keeps k, let ⟨mb, h1, h2⟩ := M.blt; ⟨mb, h1.keeps k, h2⟩, M.nolimit.keeps k⟩
theorem keepsTrans {a b c : Shared} (x : Keeps a b) (y : Keeps b c) : Keeps a c := by
  obtain ⟨h, t, rfl, k⟩ := x
  obtain ⟨h2, t2, rfl, k2⟩ := y
  exact ⟨h2, t2, rfl, fun q o e => k2 q o (k q o e)⟩
section
variable {P : Program} {w : World} {K : PySem.W.Frag} {mg : Str → Option Value} {A : Around} {E : Value → Shared → Prop} {s : Shared}

theorem low_fn {x qual : Str} {st : Stmt} {f : Addr} {fd : FuncData} {N ps : List Str} {us : List Value} {Q : Value → Shared → Prop} (M : L2.Mod K mg s.heap) (F : Fun K x qual st f fd) (S : FnScope N ps (defScope st)) (hloc : ∀ y ∈ ps, (defScope st).names.lookup y = some .local)
    (hd : A.depth < recursionLimit) (hl : us.length = ps.length) (hb : Binds K fd ps [])
    (body : ∀ (env : PySem.Env) (s1 : Shared) (m : Str → Option Value), env.scope = defScope st → env.globals = mainGlobals → env.builtins = builtinsNs → L2.Mod K mg s1.heap → s1.heap.Ns env.locals m → (∀ (i : Nat) (y : Str) (u : Value), ps[i]? = some y → us[i]? = some u → m y = some u) → Keeps s s1 →
      ∀ (E' : Value → Shared → Prop), wpAny (model P w) (A.deeper env) (execs (defBody st) env) (fun fl s' => ∃ u, fl = .ret u ∧ Q u s') E' s1) :
    wpAny (model P w) A (call (.ref f) us) Q E s := by
  obtain ⟨oc, od, kV, doc, pm, an, cdv, ct, osl, rfl, lk, hcd⟩ := F.ex
  have hkind : ∀ y ∈ ps.zip us, (defScope st).names.lookup y.1 = some .local ∨ ((defScope st).names.lookup y.1 = some .cell ∧ ((cellsFrom (s.heap.objs.size + 1) (defScope st).names []).lookup y.1).isSome = true) := fun ⟨n, v⟩ hy =>
    .inl (hloc n (List.of_mem_zip hy).1)
  refine wpAny_call ?_
  have hb' := hb s us M.kin (by rw [List.append_nil]; exact hl)
  rw [List.append_nil] at hb'
  refine codeAny_call_function hd (M.kin _ _ lk) rfl S.co S.gen rfl (PySem.W.codeRec_of M.kin hcd) (hb' _ _ _ _ ?_)
  refine wpAny_newFunctionEnv_cells S.kind hkind fun env he s1 x => ?_
  subst he
  refine ⟨M.nolimit.keeps x.toInCall.keep, codeAny_func ?_⟩
  obtain ⟨h1, tk, e1, hk⟩ := x.done
  have hns := x.toInCall.ns
  refine wpAny_mono (body _ s1 _ rfl rfl rfl (modKeeps M (by rw [e1]; exact hk)) hns (fun i y u h1 h2 => ?_) ⟨h1, tk, e1, hk⟩ _) (fun fl s' hq => ?_) fun _ _ z => z
  · have ndP : ps.Nodup := by rw [← S.pre]; exact S.nd.sublist (List.take_sublist _ _)
    exact bindL_get ndP h1 h2 (hloc y (List.mem_of_getElem? h1))
  · obtain ⟨u, rfl, q⟩ := hq
    exact q

/-- reading names -/
theorem low_loc {env : PySem.Env} {x : Str} {pos : Pos} {m : Str → Option Value} {v : Value} {Q : Value → Shared → Prop} (hk : env.scope.kind = .function) (hl : env.scope.names.lookup x = some .local) (hn : s.heap.Ns env.locals m) (hv : m x = some v) (h : Q v s) (hd : (x == ("__debug__" : Str)) = false := by decide) :
    wpAny (model P w) A (eval (.Name x pos) env) Q E s := wpAny_Name (wpAny_loadName_local hk hl hn hv h) hd
theorem low_glob {env : PySem.Env} {x : Str} {pos : Pos} {v : Value} {Q : Value → Shared → Prop} (M : L2.Mod K mg s.heap) (hgl : env.globals = mainGlobals) (hk : env.scope.kind = .function) (hl : env.scope.names.lookup x = some .globalImplicit) (hv : mg x = some v) (h : Q v s) (hd : (x == ("__debug__" : Str)) = false := by decide) :
    wpAny (model P w) A (eval (.Name x pos) env) Q E s :=
  Calls.Name_function_global hk hl (Calls.loadGlobal_global (by rw [hgl]; exact M.glob) hv h) hd
theorem low_blt {env : PySem.Env} {x : Str} {pos : Pos} {v : Value} {Q : Value → Shared → Prop} (M : L2.Mod K mg s.heap) (hgl : env.globals = mainGlobals) (hbl : env.builtins = builtinsNs) (hk : env.scope.kind = .function) (hl : env.scope.names.lookup x = some .globalImplicit) (hm : mg x = none) (hv : bootBuiltins x = some v) (h : Q v s)
    (hn : x ≠ "__name__" := by decide) (hd : (x == ("__debug__" : Str)) = false := by decide) : wpAny (model P w) A (eval (.Name x pos) env) Q E s := by
  obtain ⟨mb, h1, h2⟩ := M.blt
  exact Calls.Name_function_global hk hl (Calls.loadGlobal_builtin (by rw [hgl]; exact M.glob) hm (by rw [hbl]; exact h1) ((h2 x hn).trans hv) h) hd

/-- the type of a flat value -/
def tyF : V → Option String
  | .non => some "NoneType"
  | .bl _ => some "bool"
  | .int _ => some "int"
  | .str _ => some "str"
  | _ => none
theorem kit_low {x : V} {u : Value} {T : String} (rx : RelV x u) (h : tyF x = some T) : PySem.W.KitX K u (.type T) (fun _ => True) ∧ u ≠ .builtin "__main__.__loader__#opaque" := by
  cases x with
  | non => cases h; cases (show u = Value.none from rx); exact ⟨PySem.W.kitx_none, fun z => nomatch z⟩
  | bl y => cases h; cases (show u = Value.bool y from rx); exact ⟨PySem.W.kitx_bool, fun z => nomatch z⟩
  | int y => cases h; obtain ⟨t, q⟩ := (show ∃ t, u = Value.int y t from rx); cases q; exact ⟨PySem.W.kitx_int, fun z => nomatch z⟩
  | str y => cases h; obtain ⟨t, q⟩ := (show ∃ t, u = Value.str y t from rx); cases q; exact ⟨PySem.W.kitx_str, fun z => nomatch z⟩
  | _ => cases h
/-- isinstance(e, T) -/
theorem low_isi {env : PySem.Env} {e : Expr} {nm : Str} {T T' : String} {p p2 pos : Pos} {x : V} {u : Value} {b : Bool} {Q : Value → Shared → Prop} (M : L2.Mod K mg s.heap) (hgl : env.globals = mainGlobals) (hbl : env.builtins = builtinsNs) (hk : env.scope.kind = .function) (hl : env.scope.names.lookup ("isinstance" : Str) = some .globalImplicit) (hl2 : env.scope.names.lookup nm = some .globalImplicit)
    (hm : mg "isinstance" = none) (hm2 : mg nm = none) (hv2 : bootBuiltins nm = some (.type T')) (rx : RelV x u) (ht : tyF x = some T) (hkit : kitB T T' = some b)
    (he : ∀ (Q' : Value → Shared → Prop), Q' u s → wpAny (model P w) A (eval e env) Q' E s) (h : ∀ tk, Q (.bool b) { s with toks := tk })
    (hv : bootBuiltins "isinstance" = some (.builtin "isinstance") := by decide +kernel) (hn2 : nm ≠ "__name__" := by decide) (hd2 : (nm == ("__debug__" : Str)) = false := by decide)
    (h1 : starEach [e, .Name nm p2] env = (false, eval e env) :: starEach [.Name nm p2] env := by rfl) (hpl : (backTo pos (starEach [.Name nm p2] env)).any (·.1) = false := by rfl) :
    wpAny (model P w) A (eval (.Call (.Name "isinstance" p) [e, .Name nm p2] [] pos) env) Q E s := by
  refine wpAny_Call_Name_kw (low_blt M hgl hbl hk hl hm hv ?_)
  refine PyProof.Rows.callWith_builtin1 ?_ h1 hpl
  rw [h1]
  refine Calls.spliced_cons (he _ ?_)
  refine Calls.spliced_cons (low_blt M hgl hbl hk hl2 hm2 hv2 ?_ hn2 hd2)
  refine Calls.spliced_nil ?_
  obtain ⟨Z, hne⟩ := kit_low (K := K) rx ht
  exact PySem.W.kia_one Z M.kin True.intro (kit_ty hkit) hne h

theorem keepsTok (s : Shared) (k : Nat) : Keeps s { s with toks := k } := ⟨s.heap, k, rfl, fun _ _ e => e⟩
theorem keepsRefl (s : Shared) : Keeps s s := keepsTok s s.toks
/-- what is_number_of says of a flat value -/
def numOf (x : V) (xs : List V) : Bool := match x with
  | .int i => xs.any fun y => eqV y (.int i)
  | _ => false
def isIV : V → Bool
  | .int _ => true
  | .bl _ => true
  | _ => false
def isBV : V → Bool
  | .bl _ => true
  | _ => false
theorem kit_flat : ∀ {x : V} {T0 : String}, tyF x = some T0 → kitB T0 "int" = some (isIV x) ∧ kitB T0 "bool" = some (isBV x) := by
  intro x T0 h
  have a1 : kitB "NoneType" "int" = some false := by decide +kernel
  have a2 : kitB "NoneType" "bool" = some false := by decide +kernel
  have a3 : kitB "bool" "int" = some true := by decide +kernel
  have a4 : kitB "bool" "bool" = some true := by decide +kernel
  have a5 : kitB "int" "int" = some true := by decide +kernel
  have a6 : kitB "int" "bool" = some false := by decide +kernel
  have a7 : kitB "str" "int" = some false := by decide +kernel
  have a8 : kitB "str" "bool" = some false := by decide +kernel
  cases x with
  | non => cases h; exact ⟨a1, a2⟩
  | bl y => cases h; exact ⟨a3, a4⟩
  | int y => cases h; exact ⟨a5, a6⟩
  | str y => cases h; exact ⟨a7, a8⟩
  | _ => cases h
/-- the body of is_number_of -/
def numBody (p : Nat → Pos) : List Stmt := [.Return (some (.BoolOp .And [.Call (.Name "isinstance" (p 0)) [.Name "value" (p 1), .Name "int" (p 2)] [] (p 3),
  .UnaryOp .Not (.Call (.Name "isinstance" (p 4)) [.Name "value" (p 5), .Name "bool" (p 6)] [] (p 7)) (p 8), .Compare (.Name "value" (p 9)) [.In] [.Name "allowed" (p 10)] (p 11)] (p 12))) (p 13)]
structure NumSc (sc : Scope) : Prop where
  kind : sc.kind = .function
  v : sc.names.lookup ("value" : Str) = some .local
  a : sc.names.lookup ("allowed" : Str) = some .local
  i : sc.names.lookup ("isinstance" : Str) = some .globalImplicit
  n : sc.names.lookup ("int" : Str) = some .globalImplicit
  b : sc.names.lookup ("bool" : Str) = some .globalImplicit
theorem low_num {st : Stmt} {f : Addr} {fd : FuncData} {N : List Str} {p : Nat → Pos} {x : V} {u : Value} {T : Addr} {js : List V} {Q : Value → Shared → Prop} (M : L2.Mod K mg s.heap) (F : Fun K "is_number_of" "is_number_of" st f fd) (S : FnScope N ["value", "allowed"] (defScope st)) (C : NumSc (defScope st)) (hbd : defBody st = numBody p)
    (hd : A.depth < recursionLimit) (hb : Binds K fd ["value", "allowed"] []) (hT : SqT K (fun _ => none) T js) (fj : js.all flatV = true) (rx : RelV x u) (fx : (tyF x).isSome = true) (m1 : mg "isinstance" = none) (m2 : mg "int" = none) (m3 : mg "bool" = none)
    (h : ∀ s', Keeps s s' → Q (.bool (numOf x js)) s') : wpAny (model P w) A (call (.ref f) [u, .ref T]) Q E s := by
  refine low_fn M F S (fun y hy => ?_) hd rfl hb fun env s1 m e1 e2 e3 M1 hn hm k1 E' => ?_
  · rcases List.mem_cons.mp hy with rfl | hy
    · exact C.v
    · rcases List.mem_cons.mp hy with rfl | hy
      · exact C.a
      · cases hy
  have hv : m "value" = some u := hm 0 _ _ rfl rfl
  have ha : m "allowed" = some (.ref T) := hm 1 _ _ rfl rfl
  have kd : env.scope.kind = .function := by rw [e1]; exact C.kind
  have lv : env.scope.names.lookup ("value" : Str) = some .local := by rw [e1]; exact C.v
  have la : env.scope.names.lookup ("allowed" : Str) = some .local := by rw [e1]; exact C.a
  have li : env.scope.names.lookup ("isinstance" : Str) = some .globalImplicit := by rw [e1]; exact C.i
  have ln : env.scope.names.lookup ("int" : Str) = some .globalImplicit := by rw [e1]; exact C.n
  have lb : env.scope.names.lookup ("bool" : Str) = some .globalImplicit := by rw [e1]; exact C.b
  obtain ⟨T0, hT0⟩ := Option.isSome_iff_exists.mp fx
  rw [hbd]
  unfold numBody
  refine wpAny_execs_cons (wpAny_Return_some ?_)
  have fin : ∀ (b : Bool) (s' : Shared), b = numOf x js → Keeps s s' → ∃ u' : Value, (Flow.ret (.bool b) : Flow) = .ret u' ∧ Q u' s' := fun b s' eb k => ⟨_, rfl, by rw [eb]; exact h s' k⟩
  -- the type decides
  have tests := kit_flat hT0
  refine BoolOp_and (low_isi M1 e2 e3 kd li ln m1 m2 (by decide +kernel) rx hT0 tests.1 (fun Q' q => low_loc kd lv hn hv q) fun tk => ?_)
  refine wpAny_truthy_bool ?_
  have k2 := keepsTrans k1 (keepsTok s1 tk)
  cases hx : isIV x with
  | true =>
    rw [if_pos rfl]
    refine BoolOp_and (UnaryOp_ (low_isi (s := { s1 with toks := tk }) M1 e2 e3 kd li lb m1 m3 (by decide +kernel) rx hT0 tests.2 (fun Q' q => low_loc kd lv hn hv q) fun tk2 => not_of (wpAny_truthy_bool (wpAny_truthy_bool ?_))))
    have k3 := keepsTrans k1 (keepsTok s1 tk2)
    cases hy : isBV x with
    | false =>
      rw [if_pos (by rfl)]
      refine BoolOp_one (wpAny_Compare1 (low_loc kd lv hn hv (low_loc kd la hn ha ?_)))
      obtain ⟨i, rfl⟩ : ∃ i, x = .int i := by
        cases x with
        | int i => exact ⟨i, rfl⟩
        | bl b => cases hy
        | _ => cases hx
      rcases hT with (h0 | ⟨o, h0⟩) | ⟨o, its, n, hlk, hc, hdt, hz, r⟩
      · cases h0
      · cases h0
      · refine SeqAt.in_tupleAt (eqU (.int i)) ⟨o, M1.kin _ _ hlk, hc, n, hdt⟩ (fun w hw => mem_eqAt rx rfl r fj w (by simpa using hw)) (fin _ _ ?_ k3)
        show its.any _ = js.any _
        rw [← any_eqU r fj]
        simp
    | true =>
      rw [if_neg (by decide)]
      refine fin _ _ ?_ k3
      cases x with
      | bl b => rfl
      | _ => cases hy
  | false =>
    rw [if_neg (by decide)]
    refine fin _ _ ?_ k2
    cases x with
    | int i => cases hx
    | bl i => cases hx
    | _ => rfl
end
end MP

namespace MP
open PySem L2 PySem.Spec PyProof.Rows
section
variable {P : Program} {w : World} {K : PySem.W.Frag} {mg : Str → Option Value} {A : Around} {E : Value → Shared → Prop} {s : Shared}
/-- f(e), f(e, e2), far from any context -/
theorem low_call {env : PySem.Env} {x : Str} {f : Addr} {e : Expr} {es : List Expr} {p pos : Pos} {us : List Value} {Q : Value → Shared → Prop} (M : L2.Mod K mg s.heap) (hgl : env.globals = mainGlobals) (hk : env.scope.kind = .function) (hl : env.scope.names.lookup x = some .globalImplicit) (hv : mg x = some (.ref f)) (kp : PySem.W.keepIn K (.ref f) = true)
    (ha : ∀ (pos : Pos) (Q' : List Value → Shared → Prop), Q' us s → wpAny (model P w) A (spliced (backTo pos (starEach (e :: es) env))) Q' E s) (h : wpAny (model P w) A (call (.ref f) us) Q E s) (hd : (x == ("__debug__" : Str)) = false := by decide)
    (he : starEach (e :: es) env = (false, eval e env) :: starEach es env := by rfl) (hpl : (backTo pos (starEach es env)).any (·.1) = false := by rfl) :
    wpAny (model P w) A (eval (.Call (.Name x p) (e :: es) [] pos) env) Q E s := by
  refine wpAny_Call_Name_kw (low_glob M hgl hk hl hv ?_ hd)
  exact PySem.W.callWith_K (h₀ := s.heap) M.kin kp (ha pos _ ⟨M.kin, h⟩) he hpl
def rallyBody (p : Nat → Pos) : List Stmt := [.Return (some (.Call (.Name "is_number_of" (p 0)) [.Name "value" (p 1), .Name "RALLIES" (p 2)] [] (p 3))) (p 4)]
structure RallySc (sc : Scope) : Prop where
  kind : sc.kind = .function
  v : sc.names.lookup ("value" : Str) = some .local
  n : sc.names.lookup ("is_number_of" : Str) = some .globalImplicit
  r : sc.names.lookup ("RALLIES" : Str) = some .globalImplicit
/-- what is known of is_number_of and is_rally -/
structure RallyFacts (K : PySem.W.Frag) (mg : Str → Option Value) (stN stR : Stmt) (fN fR T : Addr) (dN dR : FuncData) : Prop where
  FN : Fun K "is_number_of" "is_number_of" stN fN dN
  FR : Fun K "is_rally" "is_rally" stR fR dR
  SN : ∃ N, FnScope N ["value", "allowed"] (defScope stN)
  SRs : ∃ N, FnScope N ["value"] (defScope stR)
  CN : NumSc (defScope stN)
  CR : RallySc (defScope stR)
  bN : ∃ p, defBody stN = numBody p
  bR : ∃ p, defBody stR = rallyBody p
  uN : Binds K dN ["value", "allowed"] []
  uR : Binds K dR ["value"] []
  hT : SqT K (fun _ => none) T [.int 0, .int 1]
  gN : mg "is_number_of" = some (.ref fN)
  gR : mg "is_rally" = some (.ref fR)
  gT : mg "RALLIES" = some (.ref T)
  m1 : mg "isinstance" = none
  m2 : mg "int" = none
  m3 : mg "bool" = none
def isRal (x : V) : Bool := numOf x [.int 0, .int 1]
theorem low_rally {stN stR : Stmt} {fN fR T : Addr} {dN dR : FuncData} {x : V} {u : Value} {Q : Value → Shared → Prop} (R : RallyFacts K mg stN stR fN fR T dN dR) (M : L2.Mod K mg s.heap) (hd : A.depth + 1 < recursionLimit) (rx : RelV x u) (fx : (tyF x).isSome = true)
    (h : ∀ s', Keeps s s' → Q (.bool (isRal x)) s') : wpAny (model P w) A (call (.ref fR) [u]) Q E s := by
  obtain ⟨N, SR⟩ := R.SRs
  obtain ⟨N2, SN⟩ := R.SN
  obtain ⟨p, hp⟩ := R.bR
  obtain ⟨p2, hp2⟩ := R.bN
  refine low_fn M R.FR SR (fun y hy => ?_) (by omega) rfl R.uR fun env s1 m e1 e2 e3 M1 hn hm k1 E' => ?_
  · rcases List.mem_cons.mp hy with rfl | hy
    · exact R.CR.v
    · cases hy
  have hv : m "value" = some u := hm 0 _ _ rfl rfl
  have kd : env.scope.kind = .function := by rw [e1]; exact R.CR.kind
  have lv : env.scope.names.lookup ("value" : Str) = some .local := by rw [e1]; exact R.CR.v
  have ln : env.scope.names.lookup ("is_number_of" : Str) = some .globalImplicit := by rw [e1]; exact R.CR.n
  have lr : env.scope.names.lookup ("RALLIES" : Str) = some .globalImplicit := by rw [e1]; exact R.CR.r
  rw [hp]
  unfold rallyBody
  refine wpAny_execs_cons (wpAny_Return_some ?_)
  refine low_call M1 e2 kd ln R.gN R.FN.kp (us := [u, .ref T]) (fun pos Q' q => ?_) ?_
  · refine Calls.spliced_cons (low_loc kd lv hn hv ?_)
    exact Calls.spliced_cons (low_glob M1 e2 kd lr R.gT (Calls.spliced_nil q))
  · exact low_num M1 R.FN SN R.CN hp2 (by show A.depth + 1 < _; omega) R.uN R.hT (by rfl) rx fx R.m1 R.m2 R.m3 fun s' k => ⟨_, rfl, h s' (keepsTrans k1 k)⟩
end
end MP

namespace MP
open PySem L2 PySem.Spec PyProof.Rows GxR

/-- the element of a generator expression: a test of the flat value v of the name x -/
def EltL (prog : Program) (w : World) (K : PySem.W.Frag) (mg : Str → Option Value) (scope : Scope) (x : Str) (elt : Expr) (D : Nat) (pb : V → Bool) : Prop :=
  ∀ (cenv : PySem.Env) (A' : Around) (E' : Value → Shared → Prop) (v : V) (u : Value) (s₂ : Shared) (m₂ : Str → Option Value), cenv.scope = scope → cenv.globals = mainGlobals → A'.depth ≤ D → L2.Mod K mg s₂.heap → s₂.heap.Ns cenv.locals m₂ → m₂ x = some u → RelV v u → (tyF v).isSome = true →
    wpAny (model prog w) A' (eval elt cenv) (fun y s₃ => y = .bool (pb v) ∧ Keeps s₂ s₃) E' s₂
/-- the generator g, its tests bs, ready to be walked, in the state s5; H1: what was held before -/
def ReadyL (X : Cx) (pins : List (Addr × Obj)) (σ : L2.St) (H1 : Hp) (P : Addr) (bs : List Bool) (g : Addr) (s5 : Shared) : Prop :=
  ∃ (fp wr : List Addr) (G : Array GenState → Array GenState → Prop) (F : Nat → Value → Prop) (St : Nat → Shared → Prop),
    WalksS X.prog X.w X.A.in1 g fp wr G bs.length F St ∧ St 0 s5 ∧
    TruthOf X.prog X.w X.A.in1 F (fun j => bs[j]?.getD false) ∧
    ∀ s', Moved wr G s5 s' → ∃ H2, Tabbed P H1 H2 ∧ Inv X pins σ H2 s'
theorem valsGet' : ∀ {xs : List V} {us : List Value} {i : Nat} {u : Value}, Vals xs us → us[i]? = some u → ∃ x, xs[i]? = some x ∧ RelV x u
  | _, _, _, _, .nil, e => by simp at e
  | _, _, 0, _, .cons r _, e => by simp at e; subst e; exact ⟨_, rfl, r⟩
  | _, _, i + 1, _, .cons _ t, e => by
    obtain ⟨x, h1, h2⟩ := valsGet' (i := i) t (by simpa using e)
    exact ⟨x, by simpa using h1, h2⟩
section
variable {X : Cx} {pins : List (Addr × Obj)} {σ : L2.St} {H : Hp} {s : Shared}
theorem gen_row {c P : Addr} {elt iter : Expr} {x : Str} {px gpos : Pos} {scope : Scope} {pb : V → Bool} {te : TE} {k : Nat} {Q' : Value → Shared → Prop} {R : List V → Hp → Prop}
    (hr : Room k X.A) (TB : TabB X.base X.mg c P) (hcode : X.env.code = .ref c) (S : GenS X.env scope x) (hi : PE X iter te) (hel : EltL X.prog X.w X.K X.mg scope x elt (X.A.depth + 1) pb)
    (hs : ∀ v, genFold iter X.env v = pure v) (I : Inv X pins σ H s) (h : te σ H fun v H1 => ∃ (a : Addr) (xs : List V), v = .ref a ∧ SqL X.K H1 a xs ∧ (∀ y ∈ xs, (tyF y).isSome = true) ∧ TabG H1 P ∧ R xs H1)
    (hQ : ∀ xs H1 g s5, R xs H1 → ReadyL X pins σ H1 P (xs.map pb) g s5 → Q' (.ref g) s5) :
    wpAny (model X.prog X.w) X.A (eval (.GeneratorExp elt [⟨.Name x px, iter, [], 0⟩] scope gpos) X.env) Q' X.xe s := by
  refine wpAny_GeneratorExp_walksQD hr.hd S.co (closure_ok S.free) S.cell S.dot S.loc S.kind (by have := hr.dp; omega) ?_ hs
  refine thn (hi.run pins s σ H _ I h) fun xv s1 ⟨v, H1, I1, r1, q1⟩ => ?_
  obtain ⟨a, xs, rfl, hL, hfl, ⟨ps, hP, ht⟩, q1⟩ := q1
  cases r1
  obtain ⟨its, rv, pl, hz⟩ := I1.list hL
  have hlen := rv.length
  have hl : s1.heap.IsList a its.toArray := pl.isList
  refine wpAny_pyIter_list hl ?_
  generalize ho : ({ cls := .type "list_iterator", data := .fields #[.ref a, .int 0 0] } : Obj) = o
  have hPs : s1.heap.get? P = some { cls := .none, data := .fields ps } := I1.hok P _ hP
  have hPlt : P < s1.heap.objs.size := Heap.lt_size hPs
  have hP2 : (s1.heap.push o).get? P = some { cls := .none, data := .fields ps } := Heap.get?_push_of_some _ hPs
  have haP : a ≠ P := fun z => by
    obtain ⟨oo, e, hc, n, hd⟩ := id hl
    rw [z, hPs] at e
    cases e
    cases hd
  have hat : a < s1.heap.objs.size := let ⟨_, e, _⟩ := id hl; Heap.lt_size e
  have cd : PySem.W.CodeHd (s1.heap.push o) c P := TB.code.keeps fun b u e => Heap.get?_push_of_some _ (I1.bk b u e)
  have lim2 : (s1.heap.push o).NoLimit := I1.nolimit.push o
  have cont : ∀ (code : Value) (h3 : Heap) (tk : Nat) (ps' : Array Value), Heap.ExtBut P (s1.heap.push o) h3 → (s1.heap.push o).objs.size ≤ h3.objs.size → h3.get? P = some { cls := .none, data := .fields ps' } → (∃ more, ps' = ps ++ more) → TriplesOk ps'.toList →
      wpAny (model X.prog X.w) X.A (builtinsFor X.env.globals X.env.builtins) (fun bi s₄ =>
        ∃ Ia fp wr n₀ Pf St₀ pz F, Value.ref s1.heap.objs.size = .ref Ia ∧ (∀ A' : Around, A'.handled = none → Walks X.prog X.w A' Ia fp wr n₀ Pf St₀) ∧ St₀ 0 s₄.heap ∧ (∀ b ∈ fp, b < s₄.heap.objs.size) ∧ s₄.heap.NoLimit ∧ cStatics ∉ wr ∧
          (∀ href : Heap, (∀ b o, s₄.heap.get? b = some o → href.get? b = some o) →
            QuietGenD X.prog X.w (genEnv scope (cloFrom X.env.cells scope.names []) s₄.heap.objs.size code bi X.env) x [] elt (List.range s₄.heap.objs.size) wr Pf pz F href (X.A.depth + 1) (X.A.units + 8)) ∧
          (∀ a h₅ tk gs, gs.bare = true → s₄.heap.objs.size < a → h₅.objs.size = a + 1 → (∀ b o, s₄.heap.get? b = some o → h₅.get? b = some o) →
            WalksS X.prog X.w X.A.in4 a (a :: s₄.heap.objs.size :: List.range s₄.heap.objs.size) (s₄.heap.objs.size :: wr) (GenOnlyQ s₄.gens.size) (passing pz n₀ 0).length
              (fun j y => ∃ i, (passing pz n₀ 0)[j]? = some i ∧ F i y) (GenAt X.prog X.w X.A.in4 a s₄.gens.size s₄.heap.objs.size (List.range s₄.heap.objs.size) wr pz n₀ F) →
            GenAt X.prog X.w X.A.in4 a s₄.gens.size s₄.heap.objs.size (List.range s₄.heap.objs.size) wr pz n₀ F 0 { s₄ with gens := s₄.gens.push gs, toks := tk, heap := h₅ } →
            Q' (.ref a) { s₄ with gens := s₄.gens.push gs, toks := tk, heap := h₅ })) X.xe { s1 with heap := h3, toks := tk } := by
    intro code h3 tk ps' hx hsz hP3 hmore ht3
    obtain ⟨bm, ob, e1, e2, e3, e4, e5, e6, e7, e8⟩ := TB.bm
    have hcP : cStatics ≠ P := fun e => by
      obtain ⟨_, hns, _⟩ := I1.nolimit
      obtain ⟨o', es, ep, ho, hd, _⟩ := hns
      rw [e, hPs] at ho
      cases ho
      cases hd
    have hcl : cStatics < s1.heap.objs.size := let ⟨_, hns, _⟩ := I1.nolimit; hns.lt
    have sz2 : (s1.heap.push o).objs.size = s1.heap.objs.size + 1 := Heap.size_push ..
    have keep3 : ∀ b u, b ≠ P → s1.heap.get? b = some u → h3.get? b = some u := fun b u hb e => hx b u hb (Heap.get?_push_of_some _ e)
    have hIP : s1.heap.objs.size ≠ P := fun z => Nat.lt_irrefl _ (z ▸ hPlt)
    have it3 : h3.get? s1.heap.objs.size = some o := hx _ _ hIP (Heap.get?_push_size _ (by rw [← ho]; rfl))
    refine wpAny_builtinsFor (m := X.mg) (by rw [I1.ok.glob]; exact ((I1.mod.glob.keeps I1.bk).push o).extBut hx TB.gP) e1 e2 (keep3 _ _ e4 (I1.bk _ _ e5)) e6 e7 e8 ?_
    refine ⟨s1.heap.objs.size, [s1.heap.objs.size, a], [s1.heap.objs.size], its.toArray.size, _, _, (fun _ => true), (fun i y => ∃ b, (xs.map pb)[i]? = some b ∧ y = .bool b), rfl,
      fun A' hA => Walks.list hA s1.heap.objs.size a (Nat.ne_of_lt hat) its.toArray, ⟨⟨o, it3, by rw [← ho], by rw [← ho]; rfl⟩, ?_⟩, ?_, lim2.extBut hx hcP, ?_, ?_, ?_⟩
    · obtain ⟨oo, e, hc, n, hd⟩ := id hl
      exact ⟨oo, keep3 _ _ haP e, hc, n, hd⟩
    · intro b hb
      rcases List.mem_cons.mp hb with z | z
      · rw [z]
        show s1.heap.objs.size < h3.objs.size
        omega
      · rcases List.mem_cons.mp z with z | z
        · rw [z]
          show a < h3.objs.size
          exact Nat.lt_of_lt_of_le hat (by omega)
        · cases z
    · intro z
      rcases List.mem_cons.mp z with z | z
      · exact Nat.ne_of_lt hcl z
      · cases z
    · intro href hhref
      have baseAt : ∀ (s₂ : Shared), (∀ b ∈ List.range h3.objs.size, b ∉ [s1.heap.objs.size] → ∀ o, href.get? b = some o → s₂.heap.get? b = some o) → ∀ b o, X.base.get? b = some o → s₂.heap.get? b = some o := fun s₂ hk b u e => by
        have g1 := I1.bk b u e
        have nb : b ≠ P := fun z => by
          have := (I1.bs b u e).2
          rw [z, hP] at this
          cases this
        have g3 := keep3 b u nb g1
        exact hk b (List.mem_range.mpr (Heap.lt_size g3)) (fun z => by
          rcases List.mem_cons.mp z with z | z
          · exact absurd (Heap.lt_size g1) (by rw [z]; exact Nat.lt_irrefl _)
          · cases z) u (hhref b u g3)
      refine ⟨fun A' E' i v s₂ m₂ hA hD hU hPv hn hm hk => ?_, fun A' E' i v s₂ m₂ hA hD hU hPv hp hn hm hk => ?_⟩
      · simp only [List.forIn_nil]
        exact wpAny_pure ⟨rfl, keeps_refl _⟩
      · have hv : its[i]? = some v := by simpa using hPv
        obtain ⟨y, hy, ry⟩ := valsGet' rv hv
        have hM : L2.Mod X.K X.mg s₂.heap := modKeeps I1.mod (baseAt s₂ hk)
        refine wpAny_mono (hel _ A' E' y v s₂ m₂ rfl (by exact I1.ok.glob) hD hM hn hm ry (hfl y (List.mem_of_getElem? hy))) (fun z s3 r => ⟨⟨pb y, ?_, r.1⟩, r.2⟩) fun _ _ e => e
        rw [List.getElem?_map, hy]
        rfl
    · intro g h5 tk5 gs hgb hag hsz5 hk5 W5 hat5
      simp only [GxR.passing_true, List.length_range] at W5
      have e7 : its.toArray.size = (xs.map pb).length := by simp [hlen]
      refine hQ xs H1 g _ q1 ⟨_, _, _, _, _, (by rw [← e7]; exact W5.in4_1), hat5, ?_, fun s' hm => ?_⟩
      · intro j y sj Qj Ej hy hQj
        obtain ⟨i, hij, b, hb, rfl⟩ := hy
        obtain ⟨hj, ej⟩ := List.getElem?_eq_some_iff.mp hij
        rw [List.getElem_range] at ej
        subst ej
        have hQ2 : Qj ((xs.map pb)[j]?.getD false) sj := hQj
        rw [hb] at hQ2
        exact wpAny_truthy_bool hQ2
      · obtain ⟨more, em⟩ := hmore
        have nwr : ∀ b u, s1.heap.get? b = some u → b ∉ h3.objs.size :: [s1.heap.objs.size] := fun b u e hb => by
          have hl := Heap.lt_size e
          rcases List.mem_cons.mp hb with z | z
          · rw [z] at hl
            have h9 : (h3.objs.size : Nat) < s1.heap.objs.size := hl
            omega
          · rcases List.mem_cons.mp z with z | z
            · rw [z] at hl
              exact Nat.lt_irrefl _ hl
            · cases z
        have J := inv_tab (more := more) (h' := s'.heap) (g' := s'.gens) (d' := s'.drawn) (t' := s'.toks) I1 hP (fun b u hb e => hm.heap b u (nwr b u e) (hk5 b u (keep3 b u hb e)))
          (by rw [← em]; exact hm.heap P _ (nwr P _ hPs) (hk5 P _ hP3)) (AllBare.movedS (I1.bare.push hgb) hm)
        rw [sh_eta s1 s' hm.os] at J
        refine ⟨upd H1 P (.tbl (ps ++ more)), ⟨⟨ps ++ more, upd_same, by rw [← em]; exact ht3⟩, fun b hb => upd_ne hb⟩, J⟩
  refine ⟨lim2, ?_⟩
  cases hf : codeAmong gpos ps.toList with
  | none =>
    refine wpAny_genexprCodeX hcode (cd.code hP2 ht) (cd.tab hP2) hf fun c' h' tk hx hge hlt hco' _ htab' _ => ?_
    obtain ⟨o1, vs, f1, tf, fl, tg, inF, tx, tt, op, _, _, _, _, _, _, _, _, _, htr, _⟩ := hco'
    exact cont _ h' tk _ hx (Nat.le_trans hge (Nat.le_of_lt hlt)) htab'.2 ⟨_, rfl⟩ htr
  | some cv =>
    refine wpAny_genexprCode_hit hcode (cd.code hP2 ht) hf ?_
    exact cont cv (s1.heap.push o) s1.toks ps (Heap.ExtBut.refl _ _) (Nat.le_refl _) hP2 ⟨#[], by simp⟩ ht
end
end MP

namespace MP
open PySem L2 PySem.Spec PyProof.Rows GxR
/-- a flat value's data -/
def flD : D → Option V
  | .non => some .non
  | .bl b => some (.bl b)
  | .int i => some (.int i)
  | .str s => some (.str s)
  | _ => none
def pbD (pb : V → Bool) (d : D) : Bool := match flD d with
  | some v => pb v
  | none => false
/-- all(test for x in e), e a list of flat values -/
def xAllR (pb : V → Bool) (xe : XE) : XE := fun σ st Q R => xe σ st (fun d st1 => match d with
  | .ref n => match itemsOf st1 n with
    | some xs => (xs.all fun y => (flD y).isSome) = true ∧ Q (.bl (xs.all (pbD pb))) st1
    | none => False
  | _ => False) R
section
variable {K : PySem.W.Frag} {cl : CL} {H : Hp} {π : List Addr}
theorem flD_rv {d : D} {v w : V} (h : flD d = some w) (r : RV K cl H π d v) : v = w ∧ (tyF v).isSome = true := by
  cases d with
  | non => cases h; simp only [RV] at r; subst r; exact ⟨rfl, rfl⟩
  | bl b => cases h; simp only [RV] at r; subst r; exact ⟨rfl, rfl⟩
  | int b => cases h; simp only [RV] at r; subst r; exact ⟨rfl, rfl⟩
  | str b => cases h; simp only [RV] at r; subst r; exact ⟨rfl, rfl⟩
  | _ => cases h
theorem flDs_rv {pb : V → Bool} : ∀ {ds : List D} {vs : List V}, (ds.all fun y => (flD y).isSome) = true → RVs K cl H π ds vs → (∀ y ∈ vs, (tyF y).isSome = true) ∧ (vs.map pb).all id = ds.all (pbD pb)
  | [], _, _, r => by rw [r.un0]; exact ⟨fun y hy => (by cases hy), rfl⟩
  | d :: ds, _, h, r => by
    obtain ⟨v, q, rfl, r1, r2⟩ := r.un
    rw [List.all_cons, Bool.and_eq_true] at h
    obtain ⟨h1, h2⟩ := flDs_rv (pb := pb) h.2 r2
    obtain ⟨w, hw⟩ := Option.isSome_iff_exists.mp h.1
    obtain ⟨e, t⟩ := flD_rv hw r1
    refine ⟨fun y hy => ?_, ?_⟩
    · rcases List.mem_cons.mp hy with rfl | hy
      · exact t
      · exact h1 y hy
    · rw [List.map_cons, List.all_cons, List.all_cons, h2]
      have : pbD pb d = pb v := by unfold pbD; rw [hw, e]
      rw [this]
      rfl
/-- nothing but a table has grown -/
def isT : HO → Bool
  | .tbl _ => true
  | _ => false
theorem SR.tabbed {H2 : Hp} {st : Store} {P : Addr} (hs : SR K cl H π st) (hlt : ∀ p ∈ cl.lt, p.1 ≠ P) (hP : TabG H P) (t : Tabbed P H H2) : SR K cl H2 π st ∧ Ext K cl H π H2 π := by
  obtain ⟨ps, hp, _⟩ := hP
  have ne : ∀ {a : Addr} {o : HO}, H a = some o → (∀ ps, o ≠ .tbl ps) → H2 a = some o := fun {a o} e n => by
    have : a ≠ P := fun z => by
      rw [z, hp] at e
      cases e
      exact n _ rfl
    rw [t.2 a this]
    exact e
  have e : Ext K cl H π H2 π := ⟨⟨[], by simp⟩, fun a vs h => by
    rcases h with (h | ⟨ob, h⟩) | h
    · exact .inl (.inl (ne h (fun _ z => by cases z)))
    · exact .inl (.inr ⟨ob, ne h (fun _ z => by cases z)⟩)
    · exact .inr h, fun a k h => ne h (fun _ z => by unfold ExT at z; cases z), fun a q h => ne h (fun _ z => by unfold LamX.CodeO at z; cases z), fun a g o h => ne h (fun _ z => by cases z)⟩
  refine ⟨⟨hs.len, fun n o q => ?_, hs.inj, fun x hx c P' e' => ?_, tabs_keep hs.tabl (fun z hz ps e => by rw [t.2 _ (hlt z hz)]; exact e) e.cod⟩, e⟩
  · obtain ⟨a, h1, h2⟩ := hs.at_ n o q
    have ka : ∀ u, isT u = false → H a = some u → H2 a = some u := fun u hu q => ne q (fun ps z => by rw [z] at hu; cases hu)
    cases o with
    | lst xs => obtain ⟨vs, g1, g2⟩ := h2; exact ⟨a, h1, vs, ka _ rfl g1, g2.ext e⟩
    | rol xs => obtain ⟨vs, g1, g2⟩ := h2; exact ⟨a, h1, vs, g1.elim (fun ⟨o, z⟩ => .inl ⟨o, ka _ rfl z⟩) .inr, g2.ext e⟩
    | dic kvs ep => obtain ⟨L, g1, g2, g3, g4⟩ := h2; exact ⟨a, h1, L, ne g1 (fun ps z => dic_ne_tbl z), Keyed_ext e g2, g3, g4.ext e⟩
    | ins fs => obtain ⟨dx, vs, g1, g2, g3⟩ := h2; exact ⟨a, h1, dx, vs, ka _ rfl g1, g2, g3.ext e⟩
    | deq xs => obtain ⟨n, as, g1, g2, g3⟩ := h2; exact ⟨a, h1, n, as, ne g1 (fun ps z => deq_ne_tbl z), g2, g3.ext e⟩
    | dki kvs => obtain ⟨vs, g1, g2, g3⟩ := h2; exact ⟨a, h1, vs, ne g1 (fun ps z => HO.noConfusion z), g2, g3.ext e⟩
  · by_cases hj : P' = P
    · rw [hj]
      exact t.1
    · obtain ⟨qs, h1, h2⟩ := hs.tab x hx c P' e'
      exact ⟨qs, by rw [t.2 _ hj]; exact h1, h2⟩
end
theorem range_all (bs : List Bool) : (List.range bs.length).all (fun j => bs[j]?.getD false) = bs.all id := by
  rw [Bool.eq_iff_iff, List.all_eq_true, List.all_eq_true]
  constructor
  · intro h b hb
    obtain ⟨j, hj, rfl⟩ := List.getElem_of_mem hb
    have := h j (List.mem_range.mpr hj)
    rw [List.getElem?_eq_getElem hj] at this
    exact this
  · intro h j hj
    have hj' := List.mem_range.mp hj
    rw [List.getElem?_eq_getElem hj']
    exact h _ (List.getElem_mem hj')
section
variable {X : Cx} {cl : CL} {W : WX}
theorem mp_allR {c P : Addr} {fx : Str} {elt iter : Expr} {x : Str} {px p pos gpos : Pos} {scope : Scope} {pb : V → Bool} {xe : XE} {k : Nat}
    (hr : Room k X.A) (hm : X.mg "all" = none) (hlt : ∀ p ∈ cl.lt, p.1 ≠ P) (hfx : fx ∈ tabNames) (htab : PySem.W.tabIn X.K fx = some (c, P)) (TB : TabB X.base X.mg c P) (hcode : X.env.code = .ref c) (S : GenS X.env scope x) (hi : PE X iter (LE X.K cl W xe)) (hel : EltL X.prog X.w X.K X.mg scope x elt (X.A.depth + 1) pb)
    (hs : ∀ v, genFold iter X.env v = pure v) (hg : Gl X "all" := by rfl) (hb : bootBuiltins "all" = some (.builtin "all") := by decide +kernel)
    (he : starEach [.GeneratorExp elt [⟨.Name x px, iter, [], 0⟩] scope gpos] X.env = (false, eval (.GeneratorExp elt [⟨.Name x px, iter, [], 0⟩] scope gpos) X.env) :: starEach [] X.env := by rfl) :
    PE X (.Call (.Name "all" p) [.GeneratorExp elt [⟨.Name x px, iter, [], 0⟩] scope gpos] [] pos) (LE X.K cl W (xAllR pb xe)) := by
  refine ⟨fun pins s σV H Q I h => ?_⟩
  obtain ⟨π, σ, st, Q0, R0, hs0, he0, hx0, hq0, hw0⟩ := h
  refine wpAny_Call_Name_kw (ld_blt I hg hm hb ?_)
  refine PyProof.Rows.callWith_builtin1 ?_ he (by rfl)
  rw [he]
  show wpAny _ _ (spliced ((false, eval (.GeneratorExp elt [⟨.Name x px, iter, [], 0⟩] scope gpos) X.env) :: backTo pos (starEach [] X.env))) _ _ s
  refine Calls.spliced_cons (gen_row (R := fun xs H1 => ∀ H2, Tabbed P H1 H2 → Q (.bl ((xs.map pb).all id)) H2) hr TB hcode S hi hel hs I
    ⟨π, σ, st, _, R0, hs0, he0, hx0, fun d st1 H1 π1 v h1 e1 s1 r1 => ?_, hw0⟩ fun xs H1 g s5 hR hG => ?_)
  · dsimp only at h1
    split at h1
    · rename_i n
      split at h1
      · rename_i xs e0
        simp only [RV] at r1
        obtain ⟨a, rfl, ha⟩ := r1
        obtain ⟨b, vs, q1, q2, q3⟩ := s1.seq e0
        rw [ha] at q1; cases q1
        obtain ⟨f1, f2⟩ := flDs_rv (pb := pb) h1.1 q3
        refine ⟨a, vs, rfl, q2, f1, s1.tab fx hfx c P htab, fun H2 t => ?_⟩
        obtain ⟨g1, g2⟩ := s1.tabbed hlt (s1.tab fx hfx c P htab) t
        rw [f2]
        exact hq0 _ _ _ π1 _ h1.2 (e1.trans g2) g1 (by simp only [RV])
      · exact h1.elim
    · exact h1.elim
  · obtain ⟨fp, wr, G, F, St, W2, hst, htr, hI⟩ := hG
    refine Calls.spliced_nil ?_
    refine call_all_walkS (W2.self 0 _ _ _ hst ⟨g, fp, wr, G, _, F, St, _, rfl, W2, hst, htr, fun s' hmv => ?_⟩)
    obtain ⟨H2, hT, J⟩ := hI s' hmv
    refine ⟨.bl _, H2, J, rfl, ?_⟩
    rw [range_all]
    exact hR H2 hT
end
end MP

namespace MP
open PySem L2 PySem.Spec PyProof.Rows GxR
/-! ### the element is_rally(rally) -/
theorem elt_rally {P : Program} {w : World} {K : PySem.W.Frag} {mg : Str → Option Value} {stN stR : Stmt} {fN fR T : Addr} {dN dR : FuncData} {scope : Scope} {p p2 pos : Pos} {D : Nat} (R : RallyFacts K mg stN stR fN fR T dN dR)
    (hk : scope.kind = .function) (hl : scope.names.lookup ("rally" : Str) = some .local) (hg : scope.names.lookup ("is_rally" : Str) = some .globalImplicit) (hD : D + 1 < recursionLimit) : EltL P w K mg scope "rally" (.Call (.Name "is_rally" p) [.Name "rally" p2] [] pos) D isRal := by
  intro cenv A' E' v u s₂ m₂ hs hgl hd M hn hm rv fv
  have kd : cenv.scope.kind = .function := by rw [hs]; exact hk
  refine low_call M hgl kd (by rw [hs]; exact hg) R.gR R.FR.kp (us := [u]) (fun pos Q' q => ?_) ?_
  · exact Calls.spliced_cons (low_loc kd (by rw [hs]; exact hl) hn hm (Calls.spliced_nil q))
  · exact low_rally R M (by omega) rv fv fun s' k => ⟨rfl, k⟩

/-! ### a def whose code object is known -/
section
variable {P : Program} {w : World} {K : PySem.W.Frag} {mg : Str → Option Value} {base : Heap} {cl : CL}
theorem mp_defC {x qual : Str} {st : Stmt} {f c : Addr} {fd : FuncData} {N ps : List Str} {k n : Nat} {b : XS} (F : Fun K x qual st f fd) (hc : fd.code = .ref c) (S : FnScope N ps (defScope st)) (hn : ps.length = n)
    (hb : ∀ (A : Around) (outer : List PySem.Env) (s : Shared) (H : Hp) (E : XK), Room k (A.deeper (PyProof.Rows.envOfC qual (defScope st) s.heap.objs.size f (.ref c))) → Takes (cxOf (L2.CX P w) P w K mg base N qual (defScope st) f (.ref c) A outer s H E) (wD E) →
      PassesOwn (model P w) (cxOf (L2.CX P w) P w K mg base N qual (defScope st) f (.ref c) A outer s H E).A (cxOf (L2.CX P w) P w K mg base N qual (defScope st) f (.ref c) A outer s H E).env (cxOf (L2.CX P w) P w K mg base N qual (defScope st) f (.ref c) A outer s H E).xe →
      PSs (cxOf (L2.CX P w) P w K mg base N qual (defScope st) f (.ref c) A outer s H E) (defBody st) (LS K cl (wD E) b)) : FnOk P w K mg base (L2.CX P w) (k + 1) f fd ps (spX K cl (defX b N.length n) n) := by
  obtain ⟨oc, od, kV, doc, pm, an, cdv, ct, osl, rfl, lk, hcd⟩ := F.ex
  cases (show cdv = .ref c from hc)
  refine fn_of lk hcd S (fun vs H Q E h => ?_) (fun A outer s H vs Q E hr h => ?_)
  · obtain ⟨π, ds, st', Q0, R0, hs, r, hl, _⟩ := h
    rw [r.length, hl, hn]
  · obtain ⟨π, ds, st', Q0, R0, hs, r, hl, hx, hq, hw⟩ := h
    have tk : Takes (cxOf (L2.CX P w) P w K mg base N qual (defScope st) f (.ref c) A outer s H E) (wD E) := takes_of rfl rfl rfl rfl
    refine ⟨_, hb A outer s H E hr tk (passes_of rfl), π, _, st', _, hs, start_er r, (by rw [hl]; exact hx.2), ⟨fun σ' st' H' π' σV' q e s r => ?_, hq, fun _ _ _ _ _ z _ _ _ => False.elim z, fun _ _ _ _ _ z _ _ _ => False.elim z, fun c σ' st' H' π' σV' q e s _ => hw c st' H' π' q e s⟩⟩
    exact hq .non st' H' π' .non q e s (by simp only [RV])
theorem code_of {K : PySem.W.Frag} {x : Str} {c P f : Addr} {oc : Value} {od : Option Addr} {fd : FuncData} {osl : Array (Option Value)} (ht : PySem.W.tabIn K x = some (c, P)) (hx : PySem.W.nsIn K mainGlobals x = some (some (.ref f))) (lk : K.lookup f = some ⟨oc, od, .func fd, osl⟩) : fd.code = .ref c := by
  unfold PySem.W.tabIn at ht
  rw [hx] at ht
  dsimp only at ht
  rw [lk] at ht
  dsimp only at ht
  split at ht
  · rename_i c₂ hc
    split at ht
    · split at ht
      · cases ht; exact hc
      · cases ht
    · cases ht
  · cases ht
end
/-! ### the end -/
/-- what is known at the head's heap of the law's promise -/
theorem walkT {l : PySem.W.OpenLaw} {n k : Nat} {q : Program} {loose : List Str} {XP : (Str → Option Value) → Heap → Prop} {YP : World → Heap → Prop} {d : DefRec} {K : Params → PySem.W.Frag} {CX : World → CXT} {x : Str}
    (hn : l.most = some n) (hn2 : n ≤ sizeLine) (hdf : d.params.defaults = []) (hr : Room k callerA) (hY : ∀ (w : World) (h : Heap), YP w h → (K w.params).In h)
    (F : ∀ (w : World) (mg mb : Str → Option Value) (mean : ExcName → Option Value) (fa : Addr) (h : Heap), YP w h → (K w.params).In h → PyProof.Rows.Top q (PySem.W.looseW q loose) mean mg mb h → h.Ns mainGlobals mg → mg d.name = some (.ref fa) → LamX.LawAtS l w (K w.params) (CX w) k n x mg fa h)
    (hCX : ∀ (w : World) (H : Hp) (s : Shared) (e : Value) (s' : Shared), CX w [] H s (fun _ _ _ => False) e s' → False) :
    PySem.W.WalkO q loose XP YP l.row.toRowW d [] (fun f vs => PySem.call f vs) := by
  refine Att.attach_callB hn hdf fun w s₀ s₁ mg mb fa o pm cd doc a vs ns G Y ho hd hcd hmg hobj hints hlen hbits hg => ?_
  have KX := hY w _ Y
  obtain ⟨fd, cs, sp, hT, nT, C, hb, hsp, hF⟩ := F w mg mb _ fa _ Y KX G.T G.T.g hmg
  exact LamX.law_callTs KX G.T.g G.T.b G.T.builtins G.T.nolimit hg hT nT C G.T.bmain hobj hints (Nat.le_trans hlen hn2) hr hF hb (fun H hH hS => hsp H a ns hlen hbits hH hS) fun H e s' => hCX w H s₁ e s'
end MP

namespace MP
open PySem L2
/-- a def of the module -/
structure FD (K : PySem.W.Frag) (mg : Str → Option Value) (x : Str) (st : Stmt) (ps : List Str) (f : Addr) (fd : FuncData) : Prop where
  fn : Fun K x x st f fd
  hm : mg x = some (.ref f)
  hb : Binds K fd ps []
/-- a constant of the module -/
def GC (K : PySem.W.Frag) (cl : CL) (mg : Str → Option Value) (x : Str) (d : D) : Prop := ∃ v u, mg x = some u ∧ RelV v u ∧ ∀ H π, RV K cl H π d v
theorem gc_int {K : PySem.W.Frag} {cl : CL} {mg : Str → Option Value} {x : Str} {i : Int} {t : Tok} (h : mg x = some (.int i t)) : GC K cl mg x (.int i) := ⟨.int i, _, h, ⟨t, rfl⟩, fun _ _ => by simp only [RV]⟩
theorem gc_tup {K : PySem.W.Frag} {cl : CL} {mg : Str → Option Value} {x : Str} {a : Addr} {ds : List D} {vs : List V} (h : mg x = some (.ref a)) (t : SqT K (fun _ => none) a vs) (r : ∀ H π, RVs K cl H π ds vs) : GC K cl mg x (.tup ds) := by
  refine ⟨.ref a, _, h, rfl, fun H π => ?_⟩
  simp only [RV]
  refine ⟨a, vs, rfl, ?_, r H π⟩
  rcases t with (h0 | ⟨o, h0⟩) | h0
  · cases h0
  · cases h0
  · exact .inr h0
section
variable {X : Cx} {cl : CL} {W : WX}
theorem mp_gc {x : Str} {d : D} {pos : Pos} (hg : Gl X x) (h : GC X.K cl X.mg x d) (hd : (x == ("__debug__" : Str)) = false := by decide) : PE X (.Name x pos) (LE X.K cl W (xC d)) := by
  obtain ⟨v, u, h1, h2, h3⟩ := h
  exact mp_glob hg h1 h2 h3 hd
theorem takes0 : Takes X W0 := fun u s' ⟨a, B, sI, pins, σ, H, cls, d, e, I, nb, up, sky, na, os, ag, w⟩ => w.elim
end
theorem hu64 {A : Around} {k : Nat} (hr : Room k A) : A.units + 64 < cLine := hr.units
theorem hu65 {A : Around} {k : Nat} (hr : Room k A) : A.units + 65 < cLine := by have := hr.un; omega
end MP
namespace MP
open PySem L2
theorem hD2 {A : Around} {k : Nat} (hr : Room k A) : A.depth + 1 + 1 < recursionLimit := by have := hr.dp; omega
theorem mkGenS {env : PySem.Env} {scope : Scope} {x : Str} (h1 : scope.kind = .function) (h2 : scope.isCoroutine = false) (h3 : scope.names.lookup (".0" : Str) = some NameKind.local) (h4 : scope.names.lookup x = some .local)
    (h5 : (scope.names.all fun y => !decide (y.2 = .free) && !decide (y.2 = .cell)) = true) : GxR.GenS env scope x := by
  rw [List.all_eq_true] at h5
  refine ⟨h1, h2, fun y hy e => ?_, h3, h4, fun y hy e => ?_⟩
  · have := h5 y hy
    rw [e] at this
    cases this
  · have := h5 y hy
    rw [e] at this
    cases this
end MP
namespace MP
open PySem L2
theorem kit_r {K : PySem.W.Frag} {a C : Addr} {b : Bool} (h1 : PySem.W.isClsIn K C = true) (h2 : PySem.W.typeIn K (.ref C) = some (.type "type")) (h3 : PySem.W.subIn K (.ref a) (.ref C) = some b) (hb : a = C → b = true) : PySem.W.kitOne K (.ref a) (.ref C) = some b := by
  unfold PySem.W.kitOne
  split
  · rename_i e
    have e' : (Value.ref a) = .ref C := eq_of_beq e
    cases e'
    rw [hb rfl]
  · have e2 : ((PySem.W.clsIn K C).isSome && PySem.W.typeIn K (.ref C) == some (.type "type")) = true := by
      have h1' : (PySem.W.clsIn K C).isSome = true := h1
      rw [h1', h2] <;> rfl
    show (if ((PySem.W.clsIn K C).isSome && PySem.W.typeIn K (.ref C) == some (.type "type")) = true then PySem.W.subIn K (.ref a) (.ref C) else none) = some b
    rw [if_pos e2]
    exact h3
theorem kit_t {K : PySem.W.Frag} {a : Addr} {T : String} {b : Bool} (h1 : PySem.W.kitMeta T = true) (h3 : PySem.W.subIn K (.ref a) (.type T) = some b) : PySem.W.kitOne K (.ref a) (.type T) = some b := by
  unfold PySem.W.kitOne
  split
  · rename_i e
    have e' : (Value.ref a) = .type T := eq_of_beq e
    cases e'
  · show (if PySem.W.kitMeta T = true then PySem.W.subIn K (.ref a) (.type T) else none) = some b
    rw [if_pos h1]
    exact h3
theorem exm_r {K : PySem.W.Frag} {a C : Addr} {b : Bool} (h0 : PySem.W.subIn K (.ref C) (.type "BaseException") = some true) (h1 : PySem.W.isClsIn K C = true) (h2 : PySem.W.typeIn K (.ref C) = some (.type "type")) (h3 : PySem.W.subIn K (.ref a) (.ref C) = some b) : PySem.W.exmOne K (.ref a) (.ref C) = some b := by
  have e1 : (PySem.W.subIn K (.ref C) (.type "BaseException") == some true) = true := by rw [h0] <;> rfl
  have e2 : ((PySem.W.clsIn K C).isSome && PySem.W.typeIn K (.ref C) == some (.type "type")) = true := by
    have h1' : (PySem.W.clsIn K C).isSome = true := h1
    rw [h1', h2] <;> rfl
  show (if (PySem.W.subIn K (.ref C) (.type "BaseException") == some true) = true then (if ((PySem.W.clsIn K C).isSome && PySem.W.typeIn K (.ref C) == some (.type "type")) = true then PySem.W.subIn K (.ref a) (.ref C) else none) else none) = some b
  rw [if_pos e1, if_pos e2]
  exact h3
theorem fd_mk {K : PySem.W.Frag} {h : Heap} {mg : Str → Option Value} {x : Str} {st : Stmt} {ps : List Str} {f : Addr} {oc : Value} {od an : Option Addr} {osl : Array (Option Value)} {kV doc pm cdv ct : Value} (X : K.In h) (G : h.Ns mainGlobals mg) (a : PySem.W.nsIn K mainGlobals x = some (some (.ref f)))
    (l : K.lookup f = some ⟨oc, od, .func (PySem.W.fnOf x x (defArgs st) (defBody st) (defScope st) .none kV doc pm an cdv ct), osl⟩) (c : PySem.W.codeIn K cdv x = true) (k : PySem.W.keepIn K (.ref f) = true)
    (b : ∀ (kV doc pm : Value) (an : Option Addr) (cdv ct : Value) (us : List Value), us.length = ps.length → bindArgs (PySem.W.fnOf x x (defArgs st) (defBody st) (defScope st) .none kV doc pm an cdv ct) ⟨us, []⟩ = pure (ps.zip us)) :
    FD K mg x st ps f (PySem.W.fnOf x x (defArgs st) (defBody st) (defScope st) .none kV doc pm an cdv ct) :=
  ⟨fun_mk l c k, PySem.W.mg_of X G a, (fun_mk (st := st) l c k).binds b⟩
/-- written values as data -/
def valD : Value → Option D
  | .none => some .non
  | .bool b => some (.bl b)
  | .int i _ => some (.int i)
  | .str x _ => some (.str x)
  | _ => none
def valsD : List Value → Option (List D)
  | [] => some []
  | u :: us => match valD u, valsD us with
    | some d, some ds => some (d :: ds)
    | _, _ => none
def dV : D → V
  | .non => .non
  | .bl b => .bl b
  | .int i => .int i
  | .str x => .str x
  | _ => .non
theorem valD_ok {K : PySem.W.Frag} {cl : CL} {u : Value} {d : D} (h : valD u = some d) : RelV (dV d) u ∧ ∀ H π, RV K cl H π d (dV d) := by
  cases u with
  | none => cases h; exact ⟨rfl, fun _ _ => by simp only [RV, dV]⟩
  | bool b => cases h; exact ⟨rfl, fun _ _ => by simp only [RV, dV]⟩
  | int i t => cases h; exact ⟨⟨t, rfl⟩, fun _ _ => by simp only [RV, dV]⟩
  | str i t => cases h; exact ⟨⟨t, rfl⟩, fun _ _ => by simp only [RV, dV]⟩
  | _ => cases h
theorem valsD_ok {K : PySem.W.Frag} {cl : CL} : ∀ {us : List Value} {ds : List D}, valsD us = some ds → Vals (ds.map dV) us ∧ ∀ H π, RVs K cl H π ds (ds.map dV)
  | [], _, h => by cases h; exact ⟨.nil, fun _ _ => .nil⟩
  | u :: us, _, h => by
    unfold valsD at h
    split at h
    · rename_i d ds e1 e2
      cases h
      obtain ⟨r1, r2⟩ := valD_ok (K := K) (cl := cl) e1
      obtain ⟨q1, q2⟩ := valsD_ok (K := K) (cl := cl) e2
      exact ⟨.cons r1 q1, fun H π => .cons (r2 H π) (q2 H π)⟩
    · cases h
theorem valsD_rel : ∀ {us : List Value} {ds : List D}, valsD us = some ds → Vals (ds.map dV) us
  | [], _, h => by cases h; exact .nil
  | u :: us, _, h => by
    unfold valsD at h
    split at h
    · rename_i d ds e1 e2
      cases h
      refine .cons ?_ (valsD_rel e2)
      cases u with
      | none => cases e1; rfl
      | bool b => cases e1; rfl
      | int i t => cases e1; exact ⟨t, rfl⟩
      | str i t => cases e1; exact ⟨t, rfl⟩
      | _ => cases e1
    · cases h
theorem sqt_K {K : PySem.W.Frag} {a : Addr} {dd : Option Addr} {its : Array Value} {n : Nat} {sl : Array (Option Value)} {ds : List D} (l : K.lookup a = some ⟨.type "tuple", dd, .seq its n, sl⟩) (hz : its.size ≤ 1000) (e : valsD its.toList = some ds) : SqT K (fun _ => none) a (ds.map dV) :=
  .inr ⟨_, its, n, l, rfl, rfl, by rw [sizeLine_eq]; omega, valsD_rel e⟩
theorem gc_K {K : PySem.W.Frag} {cl : CL} {h : Heap} {mg : Str → Option Value} {x : Str} {a : Addr} {dd : Option Addr} {its : Array Value} {n : Nat} {sl : Array (Option Value)} {ds : List D} (X : K.In h) (G : h.Ns mainGlobals mg) (e0 : PySem.W.nsIn K mainGlobals x = some (some (.ref a)))
    (l : K.lookup a = some ⟨.type "tuple", dd, .seq its n, sl⟩) (hz : its.size ≤ 1000) (e : valsD its.toList = some ds) : GC K cl mg x (.tup ds) := gc_tup (PySem.W.mg_of X G e0) (sqt_K l hz e) (valsD_ok e).2
/-- the law's start -/
theorem ints_RVs {K : PySem.W.Frag} {cl : CL} {H : Hp} {π : List Addr} : ∀ ns : List Int, RVs K cl H π (ns.map D.int) (ns.map V.int)
  | [] => .nil
  | i :: r => .cons (by simp only [RV]) (ints_RVs r)
theorem start_sp {K : PySem.W.Frag} {cl : CL} {F : XF} {H : Hp} {a ct pt : Addr} {ns : List Int} (hF : ∀ o, itemsOf [o] 0 = some (ns.map D.int) → F [.ref 0] [o] (fun d _ => d = .bl true) (fun _ _ => False))
    (ht : PySem.W.tabIn K "0" = some (ct, pt)) (hH : H pt = some (.tbl #[])) (hS : SqL K H a (ns.map V.int)) (hlt : LamX.Tabs cl.lt H := by intro p hp; exact nomatch hp) : spX K cl F 1 [.ref a] H (fun v _ => v = .bl true) fun _ _ _ => False := by
  have tabs : ∀ x ∈ tabNames, ∀ c P, PySem.W.tabIn K x = some (c, P) → GxR.TabG H P := fun x hx c P e => by
    rcases List.mem_cons.mp hx with rfl | hx
    · rw [ht] at e
      cases e
      exact ⟨#[], hH, by first | trivial | exact .nil | simp [PySem.TriplesOk]⟩
    · cases hx
  have fin : ∀ o, OR K cl H [a] a o → itemsOf [o] 0 = some (ns.map D.int) → spX K cl F 1 [.ref a] H (fun v _ => v = .bl true) fun _ _ _ => False := fun o ho hi => by
    refine ⟨[a], [.ref 0], [o], _, _, ⟨rfl, fun n u e => ?_, fun m n b xs ys e1 e2 _ _ _ _ => ?_, tabs, hlt⟩, .cons (by simp only [RV]; exact ⟨a, rfl, rfl⟩) .nil, rfl, hF o hi, fun d st' H' π' v q _ _ r => ?_, fun _ _ _ _ z => z.elim⟩
    · cases n with
      | zero => cases e; exact ⟨a, rfl, ho⟩
      | succ n => cases e
    · cases m with
      | zero => cases n with
        | zero => rfl
        | succ n => cases e2
      | succ m => cases e1
    · subst q
      simpa only [RV] using r
  rcases hS with (h | ⟨o, h⟩) | h
  · exact fin (.lst (ns.map D.int)) ⟨_, h, ints_RVs ns⟩ rfl
  · exact fin (.rol (ns.map D.int)) ⟨_, .inl ⟨o, h⟩, ints_RVs ns⟩ rfl
  · exact fin (.rol (ns.map D.int)) ⟨_, .inr h, ints_RVs ns⟩ rfl
theorem cx_no {P : Program} {w : World} {H : Hp} {s : Shared} {e : Value} {s' : Shared} (h : L2.CX P w [] H s (fun _ _ _ => False) e s') : False := by
  obtain ⟨_, _, _, _, _, _, _, _, _, _, _, _, z⟩ := h
  exact z
end MP
namespace MP
open PySem L2
theorem tabIn_of {K : PySem.W.Frag} {x : Str} {f ct pt : Addr} {oc : Value} {od o2 : Option Addr} {fd : FuncData} {osl s2 : Array (Option Value)} {o1 : Value} {vs : Array Value} (hx : PySem.W.nsIn K mainGlobals x = some (some (.ref f))) (lk : K.lookup f = some ⟨oc, od, .func fd, osl⟩) (hc : fd.code = .ref ct)
    (l2 : K.lookup ct = some ⟨o1, o2, .fields vs, s2⟩) (hv : (vs[11]? : Option Value) = some (.ref pt)) : PySem.W.tabIn K x = some (ct, pt) := by
  unfold PySem.W.tabIn
  rw [hx]
  dsimp only
  rw [lk]
  dsimp only
  rw [hc]
  dsimp only
  rw [l2]
  dsimp only
  rw [hv]
end MP

namespace MP
open PySem L2 PySem.Spec PyProof.Rows
section
variable {prog : Program} {w : World} {A : Around} {E : Value → Shared → Prop} {s : Shared}
theorem rev_adjust (n : Nat) : Builtin.Slice.sliceAdjust none none (-1) (n : Int) = ((n : Int) - 1, -1) := rfl
theorem rev_places (n : Nat) : Builtin.Slice.slicePlaces ((n : Int) - 1) (-1) (-1) = n := by
  unfold Builtin.Slice.slicePlaces
  rw [if_neg (by decide)]
  rw [show (-(-1 : Int)) = 1 by decide, Int.ediv_one]
  split <;> omega
theorem rev_applied {sl : Addr} {pa pb pc : Value} {n : Nat} {Q : Int × Int × Nat → Shared → Prop} (isl : s.heap.IsSliceOf sl pa pb pc) (qa : IsPart pa none) (qb : IsPart pb none) (qc : IsPart pc (some (-1))) (h : Q ((n : Int) - 1, -1, n) s) :
    wpAny (model prog w) A (Builtin.Slice.sliceApplied (.ref sl) (pure (n : Int))) Q E s := by
  obtain ⟨ob, g1, g2, g3⟩ := id isl
  unfold Builtin.Slice.sliceApplied Builtin.Slice.sliceFields
  refine wpAny_bind (wpAny_bind (wpAny_field g1 g3 (x := pa) rfl (wpAny_bind (wpAny_field g1 g3 (x := pb) rfl (wpAny_bind (wpAny_field g1 g3 (x := pc) rfl (wpAny_pure ?_)))))))
  refine wpAny_bind (HT.slicePart_ qc ?_)
  show wpAny _ _ (if ((-1 : Int) == 0) = true then _ else _) _ _ s
  rw [if_neg (show ¬ ((-1 : Int) == 0) = true by decide)]
  refine wpAny_bind (HT.slicePart_ qa (wpAny_bind (HT.slicePart_ qb (wpAny_bind (wpAny_pure ?_)))))
  show wpAny _ _ (match Builtin.Slice.sliceAdjust none none (-1) (n : Int) with | (lo, hi) => pure (lo, (-1 : Int), Builtin.Slice.slicePlaces lo hi (-1))) _ _ s
  rw [rev_adjust]
  show wpAny _ _ (pure ((n : Int) - 1, (-1 : Int), Builtin.Slice.slicePlaces ((n : Int) - 1) (-1) (-1))) _ _ s
  rw [rev_places]
  exact wpAny_pure h
theorem rev_pick (xs : Array Value) : ((List.range xs.size).filterMap fun (k : Nat) => xs[((xs.size : Int) - 1 + (k : Int) * -1).toNat]?) = xs.toList.reverse := by
  have e : (List.range xs.size).filterMap (fun (k : Nat) => xs[((xs.size : Int) - 1 + (k : Int) * -1).toNat]?) = ((List.range xs.size).map fun k => xs.size - 1 - k).filterMap (xs[·]?) := by
    rw [List.filterMap_map]
    have g : ∀ l : List Nat, (∀ k ∈ l, k < xs.size) → l.filterMap (fun (k : Nat) => xs[((xs.size : Int) - 1 + (k : Int) * -1).toNat]?) = l.filterMap ((xs[·]?) ∘ fun k => xs.size - 1 - k) := fun l => by
      induction l with
      | nil => intro _; rfl
      | cons k l ih =>
        intro h
        have hk := h k List.mem_cons_self
        have e0 : xs[((xs.size : Int) - 1 + (k : Int) * -1).toNat]? = ((xs[·]?) ∘ fun k => xs.size - 1 - k) k := by
          show _ = xs[xs.size - 1 - k]?
          congr 1
          omega
        rw [List.filterMap_cons, List.filterMap_cons, e0, ih fun z hz => h z (List.mem_cons_of_mem _ hz)]
    exact g _ fun k hk => List.mem_range.mp hk
  rw [e, PySem.W.krv_range, List.filterMap_reverse, PySem.W.krv_all]
theorem rev_tup {t sl : Addr} {items : Array Value} {pa pb pc : Value} {Q : Value → Shared → Prop} (ht : IsTup s.heap t items) (isl : s.heap.IsSliceOf sl pa pb pc) (qa : IsPart pa none) (qb : IsPart pb none) (qc : IsPart pc (some (-1)))
    (h : Q (.ref s.heap.objs.size) { s with heap := s.heap.push { cls := .type "tuple", data := .seq items.toList.reverse.toArray } }) (hsz : items.size ≤ sizeLine) : wpAny (model prog w) A (getItem (.ref t) (.ref sl)) Q E s := by
  have okS : sizeOk (.seq items.toList.reverse.toArray) := by
    show items.toList.reverse.toArray.size ≤ sizeLine
    simpa using hsz
  have ty : s.TypeIs (.ref sl) "slice" := let ⟨ob, g1, g2, _⟩ := id isl; ⟨ob, g1, g2⟩
  unfold getItem
  try with_reducible refine wpAny_holding ?_
  first | refine wpAny_bind (wpAny_pure ?_) | skip
  refine wpAny_bind (wpAny_sequenceKey ht.typeIs (by decide) ?_)
  refine wpAny_bind (wpAny_callSpecial?_slot (name := Str.ofString "__getitem__") ht.typeIs PyProof.Rows.slot_tuple_getitem (wpAny_call_entry PyProof.Rows.slot_tuple_getitem ht.typeIs entry_tuple_getitem ?_ (args_tuple_getitem _ _)))
  show wpAny _ _ (Builtin.Tuple.tupleItemsOf (.ref t) >>= _) _ _ s
  refine wpAny_bind (PyProof.Rows.tupleItemsOf_ ht (wpAny_bind (wpAny_typeOf ty ?_)))
  rw [if_pos (show (Value.type "slice" == Value.type "slice") = true by decide)]
  refine wpAny_bind (rev_applied isl qa qb qc ?_)
  have hno : ¬ ((((items.size : Int) - 1) == 0 && (-1 : Int) == 1 && items.size == items.size) = true) := by
    intro q
    rw [Bool.and_eq_true, Bool.and_eq_true] at q
    exact absurd q.1.2 (by decide)
  show wpAny _ _ (if (((items.size : Int) - 1) == 0 && (-1 : Int) == 1 && items.size == items.size) = true then _ else _) _ _ s
  rw [if_neg hno, rev_pick]
  first
    | exact wpAny_bind (m := Builtin.Tuple.tupleExact _) (wpAny_newObj_type (wpAny_pure ⟨_, rfl, wpAny_pure h⟩) okS)
    | exact wpAny_bind (m := Builtin.Tuple.tupleExact _) (wpAny_newObj_type (wpAny_bind (wpAny_pure (wpAny_pure ⟨_, rfl, wpAny_pure h⟩))) okS)
    | exact wpAny_bind (wpAny_bind (m := Builtin.Tuple.tupleExact _) (wpAny_newObj_type (wpAny_pure (wpAny_pure ⟨_, rfl, wpAny_pure h⟩)) okS))
    | exact wpAny_bind (wpAny_bind (m := Builtin.Tuple.tupleExact _) (wpAny_newObj_type (wpAny_pure ⟨_, rfl, wpAny_pure h⟩) okS))
end
def tRevT (K : PySem.W.Frag) (te : TE) : TE := fun σ H Q => te σ H fun x H1 => ∃ a xs, x = .ref a ∧ SqT K H1 a xs ∧ ∀ p, H1 p = none → Q (.ref p) (upd H1 p (.tup xs.reverse))
section
variable {X : Cx} {cl : CL} {W : WX}
theorem pe_revT {e : Expr} {te : TE} {k : Nat} {p1 p2 p3 pos : Pos} (he : PE X e te) : PE X (.Subscript e (.Slice none none (some (.UnaryOp .USub (.Constant (.int 1) k p1) p2)) p3) pos) (tRevT X.K te) := by
  refine ⟨fun pins s σV H Q I h => ?_⟩
  refine Subscript_ (thn (he.run pins s σV H _ I h) fun v s1 ⟨x, H1, I1, r1, a, xs, ex, hx, q⟩ => ?_)
  subst ex
  cases r1
  have step : PO X (some (.UnaryOp .USub (.Constant (.int 1) k p1) p2)) (tPart (tUn (rU fun i => .int (-i)) (tC (.int 1)))) := po_some (pe_un un_neg pe_int)
  refine wpAny_Slice (thn (po_none.run pins s1 σV H1 (fun o H2 => o = none ∧ H2 = H1) I1 ⟨rfl, rfl⟩) fun ua s2 ⟨l, H2, I2, pa, el, eh⟩ => ?_)
  subst el eh
  refine thn (po_none.run pins s2 σV H2 (fun o H3 => o = none ∧ H3 = H2) I2 ⟨rfl, rfl⟩) fun ub s3 ⟨u, H3, I3, pb, eu, eh⟩ => ?_
  subst eu eh
  refine thn (step.run pins s3 σV H3 (fun o H4 => o = some (-1) ∧ H4 = H3) I3 ⟨1, rfl, -1, rfl, rfl, rfl⟩) fun uc s4 ⟨o, H4, I4, pc, eo, eh⟩ => ?_
  subst eo eh
  have I5 : Inv X pins σV H4 { s4 with heap := s4.heap.push { cls := .type "slice", data := .fields #[ua, ub, uc] } } := I4.kept (t' := s4.toks) fun b z g => Heap.get?_push_of_some _ g
  obtain ⟨its, r, ht, hz⟩ := I5.tuple hx
  have hn := r.length
  show wpAny (model X.prog X.w) X.A (subscriptTail e (.Slice none none (some (.UnaryOp .USub (.Constant (.int 1) k p1) p2)) p3) (.ref a) (.ref s4.heap.objs.size)) (EP X pins σV Q) X.xe { s4 with heap := s4.heap.push { cls := .type "slice", data := .fields #[ua, ub, uc] } }
  refine tail_any (ops := [.ref a, .ref s4.heap.objs.size]) ht.typeIs (PyProof.Rows.slot_tuple_getitem.lookup) ?_ (by with_unfolding_all rfl)
  refine rev_tup ht (Heap.IsSliceOf.new _ ua ub uc) pa pb pc ?_ (by rw [List.size_toArray]; omega)
  refine ⟨.ref _, _, I5.laid (t' := s4.toks) (o := .tup xs.reverse) (fun b z g => Heap.get?_push_of_some _ g) (Nat.le_refl _) ?_, rfl, q _ (I5.hok.fresh (Nat.le_refl _))⟩
  exact ⟨by rw [List.length_reverse]; exact hz, _, r.reverse, IsTup.new _ _⟩
def xRev (x : XE) : XE := fun σ st Q R => x σ st (fun d st1 => match d with
  | .tup xs => Q (.tup xs.reverse) st1
  | _ => False) R
theorem rvs_rev {K : PySem.W.Frag} {H : Hp} {π : List Addr} : ∀ {ds : List D} {vs : List V}, RVs K cl H π ds vs → RVs K cl H π ds.reverse vs.reverse
  | [], _, r => by rw [r.un0]; exact .nil
  | d :: ds, _, r => by
    obtain ⟨v, q, rfl, r1, r2⟩ := r.un
    rw [List.reverse_cons, List.reverse_cons]
    exact (rvs_rev r2).append (.cons r1 .nil)
theorem mp_rev {e : Expr} {x : XE} {k : Nat} {p1 p2 p3 pos : Pos} (he : PE X e (LE X.K cl W x)) : PE X (.Subscript e (.Slice none none (some (.UnaryOp .USub (.Constant (.int 1) k p1) p2)) p3) pos) (LE X.K cl W (xRev x)) := by
  refine imE (pe_revT he) fun σV H Q ⟨π, σ, st, Q0, R0, hs, hr, hx, hq, hw⟩ => ?_
  refine ⟨π, σ, st, _, R0, hs, hr, hx, fun d st1 H1 π1 v h1 e1 s1 r1 => ?_, hw⟩
  cases d with
  | tup xs =>
    simp only [RV] at r1
    obtain ⟨a, vs, rfl, t, r⟩ := r1
    refine ⟨a, vs, rfl, t, fun p hp => ?_⟩
    have ee : Ext X.K cl H1 π1 (upd H1 p (.tup vs.reverse)) π1 := Ext.new0 hp
    exact hq _ _ _ π1 _ h1 (e1.trans ee) (s1.new0 hp) (by simp only [RV]; exact ⟨p, _, rfl, SqT.of upd_same, (rvs_rev r).ext ee⟩)
  | _ => exact h1.elim
end
end MP

namespace DI
open PySem PySem.Spec PyProof.Rows L2
open Sem (wp)
theorem tru_dict {K : Type} [DecidableEq K] {prog : Program} {w : World} {knd : HeapKind prog w K} {A : Around} {E : Value → Shared → Prop} {s : Shared} {d : Addr} {xs : List (K × Addr × Value)} {Q : Bool → Shared → Prop} (hd : (d == sysModules) = false) (hm : s.heap.DictOfH knd d xs) (hfit : (xs.length : Int) < 2 ^ 63)
    (h : Q (!xs.isEmpty) { s with toks := s.toks + 1 + 1 }) : wpAny (model prog w) A (truthy (.ref d)) Q E s := by
  have ne : ((xs.length : Int) != 0) = !xs.isEmpty := by cases xs <;> simp <;> omega
  have len : wpAny (model prog w) A (runValue (.builtin "len" ⟨[.ref d], []⟩)) (fun r s' => r = .int xs.length (s.toks + 1) ∧ Q (!xs.isEmpty) s') E s := by
    refine wpAny_runValue (codeAny_builtin entry_len ?_)
    rw [Around.under_plainId plain_len _]
    exact wpAny_mono (wpAny_len_body_dictH (Q := fun r s' => r = .int xs.length (s.toks + 1) ∧ Q (!xs.isEmpty) s') hd hm hfit ⟨rfl, h⟩)
      (fun fin s' ⟨r, e, q⟩ => by subst e; exact q) fun _ _ e => e
  unfold truthy
  first
    | refine wpAny_bind (wpAny_callSpecial?_none (name := Str.ofString "__bool__") hm.typeIs noBool_dict ?_)
    | refine wpAny_bind (wpAny_pure (wpAny_bind (wpAny_callSpecial?_none (name := Str.ofString "__bool__") hm.typeIs noBool_dict ?_)))
  first
    | refine wpAny_bind (wpAny_specialOf (name := Str.ofString "__len__") hm.typeIs F.slot_dict_len.lookup ?_)
    | refine wpAny_bind (wpAny_pure (wpAny_bind (wpAny_specialOf (name := Str.ofString "__len__") hm.typeIs F.slot_dict_len.lookup ?_)))
  first
    | exact wpAny_bind (wpAny_mono len (fun r s' ⟨e, q⟩ => by subst e; exact wpAny_pure (ne ▸ q)) fun _ _ e => e)
    | exact wpAny_bind (wpAny_pure (wpAny_bind (wpAny_mono len (fun r s' ⟨e, q⟩ => by subst e; exact wpAny_pure (ne ▸ q)) fun _ _ e => e)))
theorem pt_dict {X : Cx} {a : Expr} {ta : TE} (ha : PE X a ta) (he : ∀ whole, isTrue a X.env whole = (do let v ← whole; standAt a.pos; holding [v] (truthy v))) :
    PT X a (fun σ H Q => ta σ H fun x H1 => ∃ d L ep, x = .ref d ∧ H1 d = some (DicO X.prog X.w d L ep) ∧ Keyed X.K H1 L ∧ Q (!L.isEmpty) H1) := by
  refine ⟨fun pins s σ H Q I h => isTrue_plain (thn (ha.run pins s σ H _ I h) fun v s1 ⟨x, H1, I1, r1, d, L, ep, ex, hd, hk, q⟩ => ?_) (he _)⟩
  subst ex
  obtain rfl : v = Value.ref d := r1
  obtain ⟨lo, z, xs, rel, _, _, _, _, _, _, dd⟩ := full I1 hd hk
  have hl : L.length = xs.length := Paired.length rel
  have em : xs.isEmpty = L.isEmpty := by cases xs <;> cases L <;> simp at hl <;> rfl
  refine tru_dict lo dd (by rw [← hl]; rw [sizeLine_eq] at z; omega) ?_
  rw [em]
  exact ⟨H1, I1.tok _, q⟩
end DI
namespace MP
open PySem L2
/-! ### dicts -/
mutual
def nkD : D → Option NestedKey
  | .non => some .none
  | .int i => some (.num i)
  | .str s => some (.text s)
  | .tup ds => match keysD ds with
    | some ks => some (.tup ks)
    | none => none
  | .bl _ => none
  | .ref _ => none
  | .exc _ => none
  | .clo _ _ _ _ _ => none
  | .met _ _ => none
def keysD : List D → Option (List NestedKey)
  | [] => some []
  | d :: r => match nkD d with
    | some k => match keysD r with
      | some ks => some (k :: ks)
      | none => none
    | none => none
end
def keyD : D → Option DI.KY
  | .tup ds => match keysD ds with
    | some k => match Nat.ble (NestedKey.depthAll k) 7 with
      | true => some k
      | false => none
    | none => none
  | _ => none
def getA : List (DI.KY × D) → DI.KY → Option D
  | [], _ => none
  | p :: r, k => if p.1 = k then some p.2 else getA r k
def putA (kvs : List (DI.KY × D)) (k : DI.KY) (d : D) : List (DI.KY × D) := if (getA kvs k).isSome = true then kvs.map (fun p => if p.1 = k then (p.1, d) else p) else kvs ++ [(k, d)]
section
variable {K : PySem.W.Frag} {cl : CL} {H : Hp} {π : List Addr}
mutual
theorem nk_rv : ∀ {d : D} {k : NestedKey} {v : V}, nkD d = some k → RV K cl H π d v → DI.NV K H k v
  | .non, _, _, h, r => by
    simp only [nkD] at h
    cases h
    simp only [RV] at r
    simp only [DI.NV]; exact r
  | .int i, _, _, h, r => by
    simp only [nkD] at h
    cases h
    simp only [RV] at r
    simp only [DI.NV]; exact r
  | .str x, _, _, h, r => by
    simp only [nkD] at h
    cases h
    simp only [RV] at r
    simp only [DI.NV]; exact r
  | .tup ds, _, _, h, r => by
    simp only [nkD] at h
    simp only [RV] at r
    split at h
    · rename_i ks e
      cases h
      obtain ⟨a, vs, h1, h2, h3⟩ := r
      simp only [DI.NV]
      exact ⟨a, vs, h1, h2, nks_rv e h3⟩
    · cases h
  | .bl _, _, _, h, _ => by simp only [nkD] at h; cases h
  | .ref _, _, _, h, _ => by simp only [nkD] at h; cases h
  | .exc _, _, _, h, _ => by simp only [nkD] at h; cases h
  | .clo _ _ _ _ _, _, _, h, _ => by simp only [nkD] at h; cases h
  | .met _ _, _, _, h, _ => by simp only [nkD] at h; cases h
theorem nks_rv : ∀ {ds : List D} {ks : List NestedKey} {vs : List V}, keysD ds = some ks → RVs K cl H π ds vs → DI.NVs K H ks vs
  | [], _, _, h, r => by
    simp only [keysD] at h
    cases h
    simp only [DI.NVs]; exact r.un0
  | d :: ds, _, _, h, r => by
    simp only [keysD] at h
    obtain ⟨v, q, rfl, r1, r2⟩ := r.un
    split at h
    · rename_i k e1
      split at h
      · rename_i ks e2
        cases h
        simp only [DI.NVs]
        exact ⟨v, q, rfl, nk_rv e1 r1, nks_rv e2 r2⟩
      · cases h
    · cases h
end
theorem key_rv {d : D} {k : DI.KY} {v : V} (h : keyD d = some k) (r : RV K cl H π d v) : ∃ b, v = .ref b ∧ DI.KAt K H b k := by
  cases d with
  | tup ds =>
    simp only [RV] at r
    obtain ⟨a, vs, rfl, t, r⟩ := r
    unfold keyD at h
    dsimp only at h
    split at h
    · rename_i k' e
      split at h
      · rename_i eb
        cases h
        exact ⟨a, rfl, Nat.le_of_ble_eq_true eb, vs, t, nks_rv e r⟩
      · cases h
    · cases h
  | _ => cases h
/-- what stands in a dict, on both sides -/
theorem get_rv : ∀ {kvs : List (DI.KY × D)} {L : DI.KL} (k : DI.KY), L.map (·.1) = kvs.map (·.1) → RVs K cl H π (kvs.map (·.2)) (L.map (·.2.2)) →
    (∀ d, getA kvs k = some d → ∃ v, DI.getL L k = some v ∧ RV K cl H π d v) ∧ (getA kvs k).isSome = (DI.getL L k).isSome
  | [], [], _, _, _ => ⟨fun _ h => (by cases h), rfl⟩
  | [], _ :: _, _, e, _ => by simp at e
  | _ :: _, [], _, e, _ => by simp at e
  | p :: kvs, q :: L, k, e, r => by
    rw [List.map_cons, List.map_cons] at e
    injection e with e1 e2
    rw [List.map_cons, List.map_cons] at r
    obtain ⟨v, t, ev, r1, r2⟩ := r.un
    injection ev with ev1 ev2
    subst ev1 ev2
    have ih := get_rv k e2 r2
    unfold DI.getL DI.kv
    rw [List.map_cons]
    by_cases hk : q.1 = k
    · rw [valV_pos hk]
      unfold getA
      rw [if_pos (e1.symm.trans hk)]
      exact ⟨fun d h => (by cases h; exact ⟨_, rfl, r1⟩), rfl⟩
    · rw [valV_neg hk]
      unfold getA
      rw [if_neg (fun z => hk (e1.trans z))]
      exact ih
theorem put_keys {kvs : List (DI.KY × D)} {L : DI.KL} {k : DI.KY} {d : D} {b : Addr} {v : V} (e : L.map (·.1) = kvs.map (·.1)) (h : (getA kvs k).isSome = (DI.getL L k).isSome) : (DI.putL L k b v).map (·.1) = (putA kvs k d).map (·.1) := by
  unfold DI.putL putA
  rw [h]
  by_cases q : (DI.getL L k).isSome = true
  · rw [if_pos q, if_pos q, List.map_map, List.map_map]
    have e1 : ((fun x : DI.KY × Addr × V => x.1) ∘ fun p => if p.1 = k then (p.1, p.2.1, v) else p) = fun p => p.1 := by
      funext p
      show (if p.1 = k then (p.1, p.2.1, v) else p).1 = p.1
      split <;> rfl
    have e2 : ((fun x : DI.KY × D => x.1) ∘ fun p => if p.1 = k then (p.1, d) else p) = fun p => p.1 := by
      funext p
      show (if p.1 = k then (p.1, d) else p).1 = p.1
      split <;> rfl
    rw [e1, e2]
    exact e
  · rw [if_neg q, if_neg q, List.map_append, List.map_append, e]
    rfl
theorem repl_vals {k : DI.KY} {d : D} {v : V} (r : RV K cl H π d v) : ∀ {kvs : List (DI.KY × D)} {L : DI.KL}, L.map (·.1) = kvs.map (·.1) → RVs K cl H π (kvs.map (·.2)) (L.map (·.2.2)) →
    RVs K cl H π ((kvs.map fun p => if p.1 = k then (p.1, d) else p).map (·.2)) ((L.map fun p => if p.1 = k then (p.1, p.2.1, v) else p).map (·.2.2))
  | [], [], _, h => h
  | [], _ :: _, e, _ => by simp at e
  | _ :: _, [], e, _ => by simp at e
  | p :: kvs, q :: L, e, h => by
    simp only [List.map_cons] at e h ⊢
    injection e with e1 e2
    obtain ⟨u, t, ev, r1, r2⟩ := h.un
    injection ev with ev1 ev2
    subst ev1 ev2
    have ih := repl_vals (k := k) r e2 r2
    refine .cons ?_ ih
    by_cases hk : p.1 = k
    · rw [if_pos hk, if_pos (e1.trans hk)]; exact r
    · rw [if_neg hk, if_neg (fun z => hk (e1.symm.trans z))]; exact r1
theorem put_vals {kvs : List (DI.KY × D)} {L : DI.KL} {k : DI.KY} {d : D} {b : Addr} {v : V} (e : L.map (·.1) = kvs.map (·.1)) (h : (getA kvs k).isSome = (DI.getL L k).isSome) (r : RVs K cl H π (kvs.map (·.2)) (L.map (·.2.2))) (q : RV K cl H π d v) :
    RVs K cl H π ((putA kvs k d).map (·.2)) ((DI.putL L k b v).map (·.2.2)) := by
  unfold DI.putL putA
  rw [h]
  by_cases z : (DI.getL L k).isSome = true
  · rw [if_pos z, if_pos z]
    exact repl_vals q e r
  · rw [if_neg z, if_neg z, List.map_append, List.map_append]
    exact r.append (.cons q .nil)
theorem put_keyed {L : DI.KL} {k : DI.KY} {b : Addr} {v : V} (h : DI.Keyed K H L) (hb : DI.KAt K H b k) : DI.Keyed K H (DI.putL L k b v) := by
  intro p hp
  unfold DI.putL at hp
  split at hp
  · obtain ⟨q, hq, rfl⟩ := List.mem_map.mp hp
    have := h q hq
    split <;> exact this
  · rcases List.mem_append.mp hp with hp | hp
    · exact h p hp
    · rw [List.mem_singleton.mp hp]; exact hb
end
section
variable {X : Cx} {cl : CL} {W : WX}
def dDix : XO2 := fun x y st Q => ∃ n kvs ep k d, x = .ref n ∧ st[n]? = some (.dic kvs ep) ∧ keyD y = some k ∧ getA kvs k = some d ∧ Q d st
def dDin (neg : Bool) : XO2 := fun x y st Q => ∃ n kvs ep k, y = .ref n ∧ st[n]? = some (.dic kvs ep) ∧ keyD x = some k ∧ Q (.bl (if neg = true then !(getA kvs k).isSome else (getA kvs k).isSome)) st
theorem o2_dix (hP : X.prog = cl.P) (hw : X.w = cl.w) : Op2 X.K cl dDix (DI.rGet X) := by
  intro H π st x y vx vy Q Q0 hs rx ry ⟨n, kvs, ep, k, d, ex, e, ek, eg, h⟩ hq
  subst ex
  simp only [RV] at rx
  obtain ⟨a, rfl, ha⟩ := rx
  obtain ⟨b, L, g1, g2, g3, g4, g5⟩ := hs.dic e
  rw [ha] at g1; cases g1
  obtain ⟨c, rfl, t⟩ := key_rv ek ry
  obtain ⟨v, q1, q2⟩ := (get_rv k g4 g5).1 d eg
  exact ⟨a, L, ep, c, k, v, rfl, rfl, by rw [hP, hw]; exact g2, g3, t, q1, hq.self hs q2 h⟩
theorem mp_dix {a b : Expr} {pos : Pos} {xa xb : XE} (hP : X.prog = cl.P) (hw : X.w = cl.w) (hu : X.A.units + 64 < cLine) (ha : PE X a (LE X.K cl W xa)) (hb : PE X b (LE X.K cl W xb)) (hs : PlainIx b := by exact fun _ _ => rfl) :
    PE X (.Subscript a b pos) (LE X.K cl W (xBin dDix xa xb)) := imE (pe_ix (DI.ix_dic hu) ha hb hs) fun _ _ _ h => bin_imp (o2_dix hP hw) h
theorem o2_din (neg : Bool) (hP : X.prog = cl.P) (hw : X.w = cl.w) : Op2 X.K cl (dDin neg) (DI.rIn X (if neg = true then not else id)) := by
  intro H π st x y vx vy Q Q0 hs rx ry ⟨n, kvs, ep, k, ey, e, ek, h⟩ hq
  subst ey
  simp only [RV] at ry
  obtain ⟨a, rfl, ha⟩ := ry
  obtain ⟨b, L, g1, g2, g3, g4, g5⟩ := hs.dic e
  rw [ha] at g1; cases g1
  obtain ⟨c, rfl, t⟩ := key_rv ek rx
  refine ⟨a, L, ep, c, k, rfl, rfl, by rw [hP, hw]; exact g2, g3, t, ?_⟩
  rw [← (get_rv k g4 g5).2]
  exact hq.self hs (by cases neg <;> simp only [RV] <;> rfl) h
theorem op_din (hu : X.A.units + 64 < cLine) : OpR X (compareOp .In) (DI.rIn X (if false = true then not else id)) := DI.op_in hu
theorem op_dnin (hu : X.A.units + 64 < cLine) : OpR X (compareOp .NotIn) (DI.rIn X (if true = true then not else id)) := DI.op_notin hu
/-- d[k] = e -/
def putK (o i v : D) (st : Store) (kk : Store → Prop) : Prop := ∃ n kvs ep k, o = .ref n ∧ st[n]? = some (.dic kvs ep) ∧ keyD i = some k ∧ kvs.length < 16777216 ∧ ∀ ep', kk (st.set n (.dic (putA kvs k v) ep'))
def sPutK (xo xi x : XE) : XS := fun σ st D => x σ st (fun d st1 => xo σ st1 (fun o st2 => xi σ st2 (fun i st3 => putK o i d st3 fun st4 => D.nx σ st4) (fun c st1 => D.ex c σ st1)) (fun c st1 => D.ex c σ st1)) (fun c st1 => D.ex c σ st1)
theorem ms_putK {o i e : Expr} {pos pos' : Pos} {xo xi x : XE} (hP : X.prog = cl.P) (hw0 : X.w = cl.w) (hu : X.A.units + 64 < cLine) (he : PE X e (LE X.K cl W x)) (ho : PE X o (LE X.K cl W xo)) (hi : PE X i (LE X.K cl W xi)) (hs : swapsWithSole [.Subscript o i pos'] e pos.line X.env = pure false := by rfl) (hw : swappedStores [.Subscript o i pos'] e X.env = pure none := by rfl)
    (h1 : (assignEach [.Subscript o i pos'] X.env).map (·.2) = [assign (.Subscript o i pos') X.env] := by rfl)
    (ha : ∀ v, assign (.Subscript o i pos') X.env v = (do
      let ov ← holding [v] (eval o X.env)
      let iv ← holding [v, ov] (eval i X.env)
      standAt pos'
      holding [v, ov, iv] (setItem ov iv v)
      release [v, ov, iv] []) := by intro _; rfl) : PS X (.Assign [.Subscript o i pos'] e pos) (LS X.K cl W (sPutK xo xi x)) := by
  refine imS (ps_asg he (pg_sub ho hi (DI.set_dic hu) ha) hs hw h1) fun D σV H ⟨π, σ, st, D0, hs, he, hx, hd⟩ => ?_
  refine ⟨π, σ, st, _, _, hs, he, hx, fun d st1 H1 π1 v h1 e1 s1 r1 => ?_, hd.ex.at_ he⟩
  refine ⟨π1, σ, st1, _, _, s1, he.ext e1, h1, fun o st2 H2 π2 vo h2 e2 s2 r2 => ?_, (hd.ex.ext e1).at_ (he.ext e1)⟩
  refine ⟨π2, σ, st2, _, _, s2, (he.ext e1).ext e2, h2, fun i st3 H3 π3 vi h3 e3 s3 r3 => ?_, ((hd.ex.ext e1).ext e2).at_ ((he.ext e1).ext e2)⟩
  obtain ⟨n, kvs, ep, k, eo, e, ek, hl, h4⟩ := h3
  have ro := r2.ext e3
  rw [eo] at ro
  simp only [RV] at ro
  obtain ⟨a, rfl, ha⟩ := ro
  obtain ⟨b, L, g1, g2, g3, g4, g5⟩ := s3.dic e
  rw [ha] at g1; cases g1
  obtain ⟨c, rfl, t⟩ := key_rv ek r3
  have ll : L.length = kvs.length := by
    have z := congrArg List.length g4
    rwa [List.length_map, List.length_map] at z
  have hg := (get_rv k g4 g5).2
  refine ⟨a, L, ep, c, k, rfl, rfl, by rw [hP, hw0]; exact g2, g3, t, by rw [sizeLine_eq, ll]; exact hl, fun ep' => ?_⟩
  rw [hP, hw0]
  obtain ⟨e4, s4⟩ := s3.writeO (o' := .dic (putA kvs k d) ep') (u' := DI.DicO cl.P cl.w a (DI.putL L k c v) ep') e rfl rfl ha fun e4 =>
    ⟨_, upd_same, put_keyed (Keyed_ext e4 g3) (t.ext e4.tup), put_keys g4 hg, put_vals g4 hg (g5.ext e4) ((r1.ext (e2.trans e3)).ext e4)⟩
  exact hd.nx σ _ _ π3 σV (h4 ep') (((e1.trans e2).trans e3).trans e4) s4 (he.ext (((e1.trans e2).trans e3).trans e4))
/-- {} and {k: v} -/
def xNew : XE := fun _ st Q _ => Q (.ref st.length) (st ++ [.dic [] 0])
theorem last_ref {K : PySem.W.Frag} {H : Hp} {π : List Addr} {st : Store} {p : Addr} (hs : SR K cl H π st) : (π ++ [p])[st.length]? = some p := by
  rw [← hs.len, List.getElem?_append_right (Nat.le_refl _), Nat.sub_self]; rfl
theorem mp_new {pos : Pos} (hP : X.prog = cl.P) (hw : X.w = cl.w) : PE X (.Dict [] [] pos) (LE X.K cl W xNew) := by
  refine imE DI.pe_new fun σV H Q ⟨π, σ, st, Q0, R0, hs, he, hx, hq, hw'⟩ p hp => ?_
  rw [hP, hw]
  obtain ⟨e1, s1⟩ := hs.pushO (o := .dic [] 0) (u := DI.DicO cl.P cl.w p [] 0) hp rfl fun e => ⟨[], upd_same, (fun _ z => nomatch z), rfl, .nil⟩
  exact hq _ _ _ (π ++ [p]) _ hx e1 s1 (by simp only [RV]; exact ⟨p, rfl, last_ref hs⟩)
def xDisp (xk xv : XE) : XE := fun σ st Q R => xk σ (st ++ [.dic [] 0]) (fun kd st1 => xv σ st1 (fun vd st2 => st2[st.length]? = some (.dic [] 0) ∧ ∃ k, keyD kd = some k ∧ ∀ ep, Q (.ref st.length) (st2.set st.length (.dic [(k, vd)] ep))) R) R
theorem mp_disp {pos : Pos} {ek ev : Expr} {xk xv : XE} (hP : X.prog = cl.P) (hw : X.w = cl.w) (hu : X.A.units + 64 < cLine) (hk : PE X ek (LE X.K cl W xk)) (hv : PE X ev (LE X.K cl W xv)) : PE X (.Dict [some ek] [ev] pos) (LE X.K cl W (xDisp xk xv)) := by
  refine imE (DI.pe_dispT (pps_cons hk hv pps_nil) rfl rfl (by simp) (show 1 ≤ 15 by decide) hu) fun σV H Q ⟨π, σ, st, Q0, R0, hs, he, hx, hq, hw'⟩ p hp => ?_
  rw [hP, hw]
  obtain ⟨e0, s0⟩ := hs.pushO (o := .dic [] 0) (u := DI.DicO cl.P cl.w p [] 0) hp rfl fun e => ⟨[], upd_same, (fun _ z => nomatch z), rfl, .nil⟩
  have pp : (π ++ [p])[st.length]? = some p := last_ref hs
  refine ⟨π ++ [p], σ, _, _, R0, s0, he.ext e0, hx, fun kd st1 H1 π1 vk h1 e1 s1 r1 => ?_, hw'.ext e0⟩
  refine ⟨π1, σ, st1, _, R0, s1, (he.ext e0).ext e1, h1, fun vd st2 H2 π2 vv h2 e2 s2 r2 => ?_, (hw'.ext e0).ext e1⟩
  obtain ⟨h3, k, ekd, h4⟩ := h2
  have p2 : π2[st.length]? = some p := e2.at_ (e1.at_ pp)
  obtain ⟨b, L, g1, g2, g3, g4, g5⟩ := s2.dic h3
  rw [p2] at g1; cases g1
  have L0 : L = [] := by cases L with
    | nil => rfl
    | cons _ _ => simp at g4
  subst L0
  obtain ⟨c, rfl, t⟩ := key_rv ekd (r1.ext e2)
  refine ⟨g2, [(k, c, vv)], rfl, (by decide : 1 ≤ 15), fun q hq' => by rw [List.mem_singleton.mp hq']; exact t, fun ep => ?_⟩
  obtain ⟨e3, s3⟩ := s2.writeO (o' := .dic [(k, vd)] ep) (u' := DI.DicO cl.P cl.w p [(k, c, vv)] ep) h3 rfl rfl p2 fun e3 =>
    ⟨_, upd_same, fun q hq' => by rw [List.mem_singleton.mp hq']; exact t.ext e3.tup, rfl, .cons (r2.ext e3) .nil⟩
  exact hq _ _ _ π2 _ (h4 ep) (((e0.trans e1).trans e2).trans e3) s3 (by simp only [RV]; exact ⟨p, rfl, p2⟩)
/-- a dict's truth -/
def xTruK (x : XE) : XT := fun σ st Q R => x σ st (fun d st1 => ∃ n kvs ep, d = .ref n ∧ st1[n]? = some (.dic kvs ep) ∧ Q (!kvs.isEmpty) st1) R
theorem mt_truK {a : Expr} {x : XE} (hP : X.prog = cl.P) (hw : X.w = cl.w) (ha : PE X a (LE X.K cl W x)) (he : ∀ whole, isTrue a X.env whole = (do let v ← whole; standAt a.pos; holding [v] (truthy v)) := by intro _; rfl) : PT X a (LT X.K cl W (xTruK x)) := by
  refine imT (DI.pt_dict ha he) fun σV H Q ⟨π, σ, st, Q0, R0, hs, he, hx, hq, hw'⟩ => ?_
  refine ⟨π, σ, st, _, R0, hs, he, hx, fun d st1 H1 π1 v h1 e1 s1 r1 => ?_, hw'⟩
  obtain ⟨n, kvs, ep, ed, e, h2⟩ := h1
  subst ed
  simp only [RV] at r1
  obtain ⟨a, rfl, ha⟩ := r1
  obtain ⟨b, L, g1, g2, g3, g4, g5⟩ := s1.dic e
  rw [ha] at g1; cases g1
  have em : L.isEmpty = kvs.isEmpty := by
    have z := congrArg List.length g4
    rw [List.length_map, List.length_map] at z
    cases L <;> cases kvs <;> simp at z <;> rfl
  refine ⟨a, L, ep, rfl, by rw [hP, hw]; exact g2, g3, ?_⟩
  rw [em]
  exact hq _ st1 H1 π1 h2 e1 s1
/-! ### instances -/
def putFD (f : Str) (d : D) : List (Str × D) → List (Str × D)
  | [] => [(f, d)]
  | (g, x) :: r => if g = f then (g, d) :: r else (g, x) :: putFD f d r
theorem fld_rv {K : PySem.W.Frag} {H : Hp} {π : List Addr} (f : Str) : ∀ {fs : List (Str × D)} {vs : List (Str × V)}, vs.map (·.1) = fs.map (·.1) → RVs K cl H π (fs.map (·.2)) (vs.map (·.2)) →
    (∀ d, fs.lookup f = some d → ∃ v, vs.lookup f = some v ∧ RV K cl H π d v) ∧ (fs.lookup f = none → vs.lookup f = none)
  | [], [], _, _ => ⟨fun _ h => (by cases h), fun _ => rfl⟩
  | [], _ :: _, e, _ => by simp at e
  | _ :: _, [], e, _ => by simp at e
  | (g, x) :: fs, (g', y) :: vs, e, r => by
    simp only [List.map_cons] at e r
    injection e with e1 e2
    subst e1
    obtain ⟨v, t, ev, r1, r2⟩ := r.un
    injection ev with ev1 ev2
    subst ev1 ev2
    have ih := fld_rv f e2 r2
    by_cases hk : (f == g') = true
    · simp only [List.lookup, hk]
      exact ⟨fun d h => (by cases h; exact ⟨_, rfl, r1⟩), fun h => (by cases h)⟩
    · have hk' : (f == g') = false := by simpa using hk
      simp only [List.lookup, hk']
      exact ih
theorem putF_rv {K : PySem.W.Frag} {H : Hp} {π : List Addr} (f : Str) {d : D} {v : V} (q : RV K cl H π d v) : ∀ {fs : List (Str × D)} {vs : List (Str × V)}, vs.map (·.1) = fs.map (·.1) → RVs K cl H π (fs.map (·.2)) (vs.map (·.2)) →
    (putF f v vs).map (·.1) = (putFD f d fs).map (·.1) ∧ RVs K cl H π ((putFD f d fs).map (·.2)) ((putF f v vs).map (·.2))
  | [], [], _, _ => ⟨rfl, .cons q .nil⟩
  | [], _ :: _, e, _ => by simp at e
  | _ :: _, [], e, _ => by simp at e
  | (g, x) :: fs, (g', y) :: vs, e, r => by
    simp only [List.map_cons] at e r
    injection e with e1 e2
    subst e1
    obtain ⟨u, t, ev, r1, r2⟩ := r.un
    injection ev with ev1 ev2
    subst ev1 ev2
    obtain ⟨i1, i2⟩ := putF_rv f q e2 r2
    unfold putF putFD
    by_cases hk : g' = f
    · rw [if_pos hk, if_pos hk]
      simp only [List.map_cons]
      exact ⟨by rw [e2], .cons q r2⟩
    · rw [if_neg hk, if_neg hk]
      simp only [List.map_cons]
      exact ⟨by rw [i1], .cons r1 i2⟩
theorem SR.ins {K : PySem.W.Frag} {H : Hp} {π : List Addr} {st : Store} {n : Nat} {fs : List (Str × D)} (hs : SR K cl H π st) {kc : Nat} (h : st[n]? = some (.ins fs kc)) :
    ∃ a dx vs, π[n]? = some a ∧ H a = some (.ins (cl.mv kc) dx vs) ∧ vs.map (·.1) = fs.map (·.1) ∧ RVs K cl H π (fs.map (·.2)) (vs.map (·.2)) := by
  obtain ⟨a, h1, dx, vs, h2⟩ := hs.at_ n _ h
  exact ⟨a, dx, vs, h1, h2⟩
/-- e.f of an instance -/
def xFld (kc : Nat) (f : Str) (x : XE) : XE := fun σ st Q R => x σ st (fun o st1 => ∃ n fs d, o = .ref n ∧ st1[n]? = some (.ins fs kc) ∧ fs.lookup f = some d ∧ Q d st1) R
theorem mp_fld {kc : Nat} {e : Expr} {f : Str} {pos : Pos} {x : XE} (c : Cls X.K (cl.mv kc)) (na : NoAttr X.K (cl.mv kc) f) (he : PE X e (LE X.K cl W x)) (hb : attributeBase e f X.env (eval e X.env) = eval e X.env := by rfl) : PE X (.Attribute e f pos) (LE X.K cl W (xFld kc f x)) := by
  refine imE (pe_fld he hb) fun σV H Q ⟨π, σ, st, Q0, R0, hs, he, hx, hq, hw⟩ => ?_
  refine ⟨π, σ, st, _, R0, hs, he, hx, fun o st1 H1 π1 v ⟨n, fs, d, eo, e, el, h1⟩ e1 s1 r1 => ?_, hw⟩
  subst eo
  simp only [RV] at r1
  obtain ⟨a, rfl, ha⟩ := r1
  obtain ⟨b, dx, vs, g1, g2, g3, g4⟩ := s1.ins e
  rw [ha] at g1; cases g1
  obtain ⟨v, q1, q2⟩ := (fld_rv f g3 g4).1 d el
  exact ⟨a, cl.mv kc, dx, vs, v, rfl, g2, c, na, q1, hq _ st1 H1 π1 _ h1 e1 s1 q2⟩
def sFldP (kc : Nat) (f : Str) (xo x : XE) : XS := fun σ st D => x σ st (fun d st1 => xo σ st1 (fun o st2 => ∃ n fs, o = .ref n ∧ st2[n]? = some (.ins fs kc) ∧ fs.length < 1000 ∧ D.nx σ (st2.set n (.ins (putFD f d fs) kc))) (fun c st1 => D.ex c σ st1)) (fun c st1 => D.ex c σ st1)
theorem ms_fld {kc : Nat} {o e : Expr} {f : Str} {pos pos' : Pos} {xo x : XE} (c : Cls X.K (cl.mv kc)) (na : NoAttr X.K (cl.mv kc) f) (ho : PE X o (LE X.K cl W xo)) (he : PE X e (LE X.K cl W x)) (hs : swapsWith e (some (.Attribute o f pos')) pos.line X.env = pure false := by rfl) :
    PS X (.Assign [.Attribute o f pos'] e pos) (LS X.K cl W (sFldP kc f xo x)) := by
  refine imS (ps_fld ho he hs) fun D σV H ⟨π, σ, st, D0, hs, he, hx, hd⟩ => ?_
  refine ⟨π, σ, st, _, _, hs, he, hx, fun d st1 H1 π1 v h1 e1 s1 r1 => ?_, hd.ex.at_ he⟩
  refine ⟨π1, σ, st1, _, _, s1, he.ext e1, h1, fun o st2 H2 π2 vo ⟨n, fs, eo, e, hl, h2⟩ e2 s2 r2 => ?_, (hd.ex.ext e1).at_ (he.ext e1)⟩
  subst eo
  simp only [RV] at r2
  obtain ⟨a, rfl, ha⟩ := r2
  obtain ⟨b, dx, vs, g1, g2, g3, g4⟩ := s2.ins e
  rw [ha] at g1; cases g1
  have ll : vs.length = fs.length := by
    have z := congrArg List.length g3
    rwa [List.length_map, List.length_map] at z
  refine ⟨a, cl.mv kc, dx, vs, rfl, g2, c, na, by rw [ll]; exact hl, ?_⟩
  obtain ⟨e4, s4⟩ := s2.writeO (o' := .ins (putFD f d fs) kc) (u' := .ins (cl.mv kc) dx (putF f v vs)) e rfl rfl ha fun e4 =>
    ⟨dx, _, upd_same, putF_rv f ((r1.ext e2).ext e4) g3 (g4.ext e4)⟩
  exact hd.nx σ _ _ π2 σV h2 ((e1.trans e2).trans e4) s4 (he.ext ((e1.trans e2).trans e4))
def noE : XK := fun _ _ _ => False
theorem passes_no {X : Cx} : Passes (L2.CX X.prog X.w) X noE := fun pins σ H s e s' I h => by
  obtain ⟨_, _, _, _, _, _, _, _, _, _, _, _, z⟩ := h
  exact z.elim
/-- C(..) of the own class: made, then __init__ (which lets no exception out) -/
def xMake (kc : Nat) (F : XF) (a : XA) : XE := fun σ st Q R => a σ st (fun ds st1 => F (.ref st1.length :: ds) (st1 ++ [.ins [] kc]) (fun v st2 => v = .non ∧ Q (.ref st1.length) st2) botR) R
theorem mp_make {kc : Nat} {F : XF} {n k : Nat} {f : Addr} {fd : FuncData} {ps : List Str} {x : Str} {p pos : Pos} {e : Expr} {es : List Expr} {a : XA} (M : Mk X.K (cl.mv kc) f) (G : FnOk X.prog X.w X.K X.mg X.base (L2.CX X.prog X.w) k f fd ps (spX X.K cl F n)) (hn : ∀ ds st Q R, F ds st Q R → ds.length = n)
    (hr : Room (k + 1) X.A) (hm : X.mg x = some (.ref (cl.mv kc))) (hb : Binds X.K fd ps []) (ha : PA X (e :: es) (LA X.K cl W a)) (hg : Gl X x := by rfl)
    (hdb : (x == ("__debug__" : Str)) = false := by decide) (he : starEach (e :: es) X.env = (false, eval e X.env) :: starEach es X.env := by rfl) (hpl : (backTo pos (starEach es X.env)).any (·.1) = false := by rfl) :
    PE X (.Call (.Name x p) (e :: es) [] pos) (LE X.K cl W (xMake kc F a)) := by
  refine imE (pe_make (ds := []) (dvs := []) M G hr hg hm hb .nil passes_no ha hdb he hpl) fun σV H Q ⟨π, σ, st, Q0, R0, hs, he, hx, hq, hw⟩ => ?_
  refine ⟨π, σ, st, _, R0, hs, he, hx, fun ds st1 H1 π1 vs h1 e1 s1 r1 => ?_, hw⟩
  intro y dx hy hdx ne
  rw [List.append_nil]
  have hy2 : upd H1 dx (.own y) y = none := by rw [upd_ne (Ne.symm ne)]; exact hy
  have e2 : Ext X.K cl H1 π1 (upd H1 dx (.own y)) π1 := Ext.new0 hdx
  have s2 := s1.new0 (o := .own y) hdx
  obtain ⟨e3, s3⟩ := s2.pushO (o := .ins [] kc) (u := .ins (cl.mv kc) dx []) hy2 rfl fun e => ⟨dx, [], upd_same, rfl, .nil⟩
  have q : (π1 ++ [y])[st1.length]? = some y := last_ref s1
  have rr : RVs X.K cl (upd (upd H1 dx (.own y)) y (.ins (cl.mv kc) dx [])) (π1 ++ [y]) (.ref st1.length :: ds) (.ref y :: vs) := .cons (by simp only [RV]; exact ⟨y, rfl, q⟩) ((r1.ext e2).ext e3)
  refine ⟨π1 ++ [y], _, _, _, _, s3, rr, hn _ _ _ _ h1, h1, fun d st4 H4 π4 v ⟨h4, h5⟩ e4 s4 r4 => ⟨?_, ?_⟩, fun c st' H' π' z _ _ => z.elim⟩
  · rw [h4] at r4
    simpa only [RV] using r4
  · exact hq _ st4 H4 π4 _ h5 (((e1.trans e2).trans e3).trans e4) s4 (by simp only [RV]; exact ⟨y, rfl, e4.at_ q⟩)
/-- o.m(..) of an instance of the own class (which lets no exception out) -/
def xMeO (kc : Nat) (m : Str) (F : XF) (xo : XE) (a : XA) : XE := fun σ st Q R => xo σ st (fun o st1 => ∃ n fs, o = .ref n ∧ st1[n]? = some (.ins fs kc) ∧ fs.lookup m = none ∧ a σ st1 (fun ds st2 => F (o :: ds) st2 Q botR) R) R
theorem mp_meO {kc : Nat} {F : XF} {n k : Nat} {m : Str} {f : Addr} {fd : FuncData} {ps : List Str} {apos pos : Pos} {o e : Expr} {es : List Expr} {xo : XE} {a : XA} {pl : Sem Bool} (c : Cls X.K (cl.mv kc)) (hm : Meth X.K (cl.mv kc) m f) (G : FnOk X.prog X.w X.K X.mg X.base (L2.CX X.prog X.w) k f fd ps (spX X.K cl F n)) (hn : ∀ ds st Q R, F ds st Q R → ds.length = n)
    (hr : Room k X.A) (hb : Binds X.K fd ps []) (ho : PE X o (LE X.K cl W xo)) (ha : PA X (e :: es) (LA X.K cl W a))
    (hst : starEach (e :: es) X.env = (false, eval e X.env) :: starEach es X.env := by rfl) (hpl : (backTo pos (starEach es X.env)).any (·.1) = false := by rfl)
    (ht : eval (.Call (.Attribute o m apos) (e :: es) [] pos) X.env = (do
      let ov ← eval o X.env
      standAt apos.atName
      let (f, first) ← holding [ov] (getMethod ov m pl)
      callWith pos f first (backTo pos (starEach (e :: es) X.env)) (backToKw pos (keywordEach [] X.env))) := by rfl) :
    PE X (.Call (.Attribute o m apos) (e :: es) [] pos) (LE X.K cl W (xMeO kc m F xo a)) := by
  refine imE (pe_meth (ds := []) (dvs := []) ho c hm G hr hb .nil passes_no ha hst hpl ht) fun σV H Q ⟨π, σ, st, Q0, R0, hs, he, hx, hq, hw⟩ => ?_
  refine ⟨π, σ, st, _, R0, hs, he, hx, fun o st1 H1 π1 vo ⟨j, fs, eo, e, el, h1⟩ e1 s1 r1 => ?_, hw⟩
  subst eo
  have ro := r1
  simp only [RV] at r1
  obtain ⟨x, rfl, ha⟩ := r1
  obtain ⟨b, dx, vs, g1, g2, g3, g4⟩ := s1.ins e
  rw [ha] at g1; cases g1
  refine ⟨x, dx, vs, rfl, g2, (fld_rv m g3 g4).2 el, ?_⟩
  refine ⟨π1, σ, st1, _, R0, s1, he.ext e1, h1, fun ds st2 H2 π2 us h2 e2 s2 r2 => ?_, hw.ext e1⟩
  show spX X.K cl F n (V.ref x :: (us ++ [])) H2 Q noE
  rw [List.append_nil]
  exact ⟨π2, _, st2, Q0, botR, s2, .cons (ro.ext e2) r2, hn _ _ _ _ h2, h2, hq.ext (e1.trans e2), fun c st' H' π' z _ _ => z.elim⟩
end
end MP

namespace MP
open PySem L2
section
variable {X : Cx} {cl : CL} {W : WX}
/-! ### a op b op c -/
def xChain (f g : XO2) (a b c : XE) : XE := fun σ st Q R => a σ st (fun x st1 => b σ st1 (fun y st2 => f x y st2 (fun d st3 => ∃ k, d = .bl k ∧ if k = true then c σ st3 (fun z st4 => g y z st4 Q) R else Q (.bl false) st3)) R) R
theorem chain_imp {K : PySem.W.Frag} {f g : XO2} {r r' : R2} {a b c : XE} (hr : Op2 K cl f r) (hr' : Op2 K cl g r') {σV : St} {H : Hp} {Q : VK} (h : LE K cl W (xChain f g a b c) σV H Q) : tChain r r' (LE K cl W a) (LE K cl W b) (LE K cl W c) σV H Q := by
  obtain ⟨π, σ, st, Q0, R0, hs, he, hx, hq, hw⟩ := h
  refine ⟨π, σ, st, _, R0, hs, he, hx, fun x st1 H1 π1 vx h1 e1 s1 rx => ?_, hw⟩
  refine ⟨π1, σ, st1, _, R0, s1, he.ext e1, h1, fun y st2 H2 π2 vy h2 e2 s2 ry => ?_, hw.ext e1⟩
  refine hr H2 π2 st2 x y vx vy _ _ s2 (rx.ext e2) ry h2 fun d st3 H3 π3 v h3 e3 s3 rd => ?_
  obtain ⟨k, ed, h4⟩ := h3
  subst ed
  simp only [RV] at rd
  subst rd
  refine ⟨k, rfl, ?_⟩
  have e12 := e1.trans e2
  cases k with
  | false => exact (hq.ext (e12.trans e3)).self s3 (by simp only [RV]) h4
  | true =>
    refine ⟨π3, σ, st3, _, R0, s3, he.ext (e12.trans e3), h4, fun z st4 H4 π4 vz h5 e4 s4 rz => ?_, hw.ext (e12.trans e3)⟩
    exact hr' H4 π4 st4 y z vy vz Q Q0 s4 ((ry.ext e3).ext e4) rz h5 (hq.ext ((e12.trans e3).trans e4))
theorem mp_chain {op op' : CmpOp} {a b c : Expr} {pos : Pos} {f g : XO2} {r r' : R2} {xa xb xc : XE} (ho : OpR X (compareOp op) r) (hr : Op2 X.K cl f r) (ho' : OpR X (compareOp op') r') (hr' : Op2 X.K cl g r') (ha : PE X a (LE X.K cl W xa)) (hb : PE X b (LE X.K cl W xb)) (hc : PE X c (LE X.K cl W xc))
    (hm : lastMarks [op, op'] [b, c] = false := by with_unfolding_all rfl) : PE X (.Compare a [op, op'] [b, c] pos) (LE X.K cl W (xChain f g xa xb xc)) := imE (pe_chain ho ho' ha hb hc hm) fun _ _ _ h => chain_imp hr hr' h
theorem mt_chain {op op' : CmpOp} {a b c : Expr} {pos : Pos} {f g : XO2} {r r' : R2} {xa xb xc : XE} (ho : OpR X (compareOp op) r) (hr : Op2 X.K cl f r) (ho' : OpR X (compareOp op') r') (hr' : Op2 X.K cl g r') (ha : PE X a (LE X.K cl W xa)) (hb : PE X b (LE X.K cl W xb)) (hc : PE X c (LE X.K cl W xc))
    (hm : lastMarks [op, op'] [b, c] = false := by with_unfolding_all rfl) : PT X (.Compare a [op, op'] [b, c] pos) (LT X.K cl W (xB (xChain f g xa xb xc))) := imT (pt_chain ho ho' ha hb hc hm) fun _ _ _ h => test_imp (fun _ _ _ h => chain_imp hr hr' h) h
/-! ### all(list), sorted -/
def fAll : List D → Store → (D → Store → Prop) → Prop := fun ds st Q => ∃ (n : Nat) (bs : List Bool), ds = [.ref n] ∧ itemsOf st n = some (bs.map D.bl) ∧ Q (.bl (bs.all id)) st
theorem bls_rv {K : PySem.W.Frag} {H : Hp} {π : List Addr} : ∀ {bs : List Bool} {vs : List V}, RVs K cl H π (bs.map D.bl) vs → vs = bs.map V.bl
  | [], _, r => by rw [r.un0]; rfl
  | b :: bs, _, r => by
    obtain ⟨v, q, rfl, r1, r2⟩ := r.un
    simp only [RV] at r1
    rw [r1, bls_rv r2]
    rfl
theorem fr_all {K : PySem.W.Frag} : FunR K cl fAll (L2.rAll K) := by
  intro H π st ds vs Q Q0 hs r ⟨n, bs, e, ei, h⟩ hq
  subst e
  obtain ⟨v, rfl, r1⟩ := r.one
  simp only [RV] at r1
  obtain ⟨a, rfl, ha⟩ := r1
  obtain ⟨b, ws, q1, q2, q3⟩ := hs.seq ei
  rw [ha] at q1; cases q1
  rw [bls_rv q3] at q2
  exact ⟨a, bs, rfl, q2, hq.self hs (by simp only [RV]) h⟩
abbrev tupI (ns : List Int) : D := .tup (ns.map D.int)
abbrev Asc (B : Int) (ks : List (List Int)) : Prop := ks.Pairwise fun x y => TS.code B x ≤ TS.code B y
def Fit (d : Nat) (B : Int) (k : List Int) : Prop := k.length = d ∧ TS.Bd B k
def fSortL (d : Nat) (B : Int) : List D → Store → (D → Store → Prop) → Prop := fun ds st Q => ∃ (n : Nat) (ks : List (List Int)), ds = [.ref n] ∧ itemsOf st n = some (ks.map tupI) ∧ (∀ k ∈ ks, Fit d B k) ∧ ∀ ks', ks'.Perm ks → Asc B ks' → Q (.ref st.length) (st ++ [.lst (ks'.map tupI)])
theorem RVs.perm {K : PySem.W.Frag} {H : Hp} {π : List Addr} {ys vs : List V} (p : ys.Perm vs) : ∀ {ds : List D}, RVs K cl H π ds vs → ∃ ds', ds'.Perm ds ∧ RVs K cl H π ds' ys := by
  induction p with
  | nil => intro ds r; exact ⟨ds, .refl _, r⟩
  | cons x _ ih =>
    intro ds r
    cases ds with
    | nil => exact nomatch r.un0
    | cons d ds =>
      obtain ⟨v, q, e, r1, r2⟩ := r.un
      cases e
      obtain ⟨ds', h1, h2⟩ := ih r2
      exact ⟨d :: ds', h1.cons d, .cons r1 h2⟩
  | swap x y l =>
    intro ds r
    match ds, r with
    | [], r => exact nomatch r.un0
    | [d], r =>
      obtain ⟨v, q, e, r1, r2⟩ := r.un
      cases e
      exact nomatch r2.un0
    | d :: d' :: ds, r =>
      obtain ⟨v, q, e, r1, r2⟩ := r.un
      cases e
      obtain ⟨v, q, e, r3, r4⟩ := r2.un
      cases e
      exact ⟨d' :: d :: ds, .swap _ _ _, .cons r3 (.cons r1 r4)⟩
  | trans _ _ ih1 ih2 =>
    intro ds r
    obtain ⟨d1, h1, h2⟩ := ih2 r
    obtain ⟨d2, h3, h4⟩ := ih1 h2
    exact ⟨d2, h3.trans h1, h4⟩
theorem tupI_rv {K : PySem.W.Frag} {H : Hp} {π : List Addr} {k : List Int} {v : V} (r : RV K cl H π (tupI k) v) : TupI K H v k := by
  simp only [RV] at r
  obtain ⟨a, vs, rfl, t, r⟩ := r
  have allI : ∀ {k : List Int} {vs : List V}, RVs K cl H π (k.map D.int) vs → vs = k.map V.int := fun {k} => by
    induction k with
    | nil => intro vs r; rw [r.un0]; rfl
    | cons i k ih =>
      intro vs r
      obtain ⟨v, q, rfl, r1, r2⟩ := r.un
      simp only [RV] at r1
      rw [r1, ih r2]
      rfl
  rw [allI r] at t
  exact ⟨a, rfl, t⟩
theorem asc_rv {K : PySem.W.Frag} {H : Hp} {π : List Addr} {B : Int} : ∀ {ks : List (List Int)} {ys : List V}, RVs K cl H π (ks.map tupI) ys → ys.Pairwise (fun x y => ∀ n m, TupI K H x n → TupI K H y m → TS.code B n ≤ TS.code B m) → Asc B ks
  | [], _, _, _ => .nil
  | k :: ks, _, r, h => by
    obtain ⟨v, q, rfl, r1, r2⟩ := r.un
    cases h with
    | cons h1 h2 =>
      refine .cons (fun m hm => ?_) (asc_rv r2 h2)
      obtain ⟨j, hj⟩ := List.mem_iff_getElem?.mp hm
      obtain ⟨u, g1, g2⟩ := r2.get (i := j) (d := tupI m) (by rw [List.getElem?_map, hj]; rfl)
      exact h1 u (List.mem_of_getElem? g1) k m (tupI_rv r1) (tupI_rv g2)
theorem fr_sortL {K : PySem.W.Frag} {d : Nat} {B : Int} : FunR K cl (fSortL d B) (rSortV K d B) := by
  intro H π st ds vs Q Q0 hs r ⟨n, ks, e, ei, hf, h⟩ hq
  subst e
  obtain ⟨v, rfl, r1⟩ := r.one
  simp only [RV] at r1
  obtain ⟨a, rfl, ha⟩ := r1
  obtain ⟨b, ws, q1, q2, q3⟩ := hs.seq ei
  rw [ha] at q1; cases q1
  refine ⟨a, ws, rfl, q2, fun x hx => ?_, fun ys p hy hasc hp => ?_⟩
  · obtain ⟨j, hj⟩ := List.mem_iff_getElem?.mp hx
    obtain ⟨d', g1, g2⟩ := q3.get' hj
    rw [List.getElem?_map] at g1
    obtain ⟨k, hk, rfl⟩ := Option.map_eq_some_iff.mp g1
    exact ⟨k, tupI_rv g2, hf k (List.mem_of_getElem? hk)⟩
  · obtain ⟨ds', h1, h2⟩ := RVs.perm hy q3
    obtain ⟨ks', h3, rfl⟩ := DI.perm_map tupI h1 ks rfl
    have q := hs.push hp h2
    exact hq _ _ _ (π ++ [p]) _ (h ks' h3 (asc_rv h2 hasc)) (Ext.new hp [p]) q (by simp only [RV]; exact ⟨p, rfl, last_ref hs⟩)
def fSortK (d : Nat) (B : Int) : List D → Store → (D → Store → Prop) → Prop := fun ds st Q => ∃ (n : Nat) (kvs : List (DI.KY × D)) (ep : Nat) (ks : List (List Int)), ds = [.ref n] ∧ st[n]? = some (.dic kvs ep) ∧ kvs.map (·.1) = ks.map (List.map NestedKey.num) ∧ (∀ k ∈ ks, Fit d B k) ∧
  ∀ ks', ks'.Perm ks → Asc B ks' → Q (.ref st.length) (st ++ [.lst (ks'.map tupI)])
abbrev rSortK (X : Cx) (d : Nat) (B : Int) : List V → Hp → VK → Prop := fun xs H Q => ∃ a L ep, xs = [.ref a] ∧ H a = some (DI.DicO X.prog X.w a L ep) ∧ DI.Keyed X.K H L ∧ (∀ p ∈ L, ∃ ns : List Int, p.1 = ns.map NestedKey.num ∧ ns.length = d ∧ TS.Bd B ns) ∧
    ∀ (L' : DI.KL) (p : Addr), L'.Perm L → L'.Pairwise (fun x y => ∀ ns ms : List Int, x.1 = ns.map NestedKey.num → y.1 = ms.map NestedKey.num → TS.code B ns ≤ TS.code B ms) → H p = none → Q (.ref p) (upd H p (.lst (L'.map fun p => V.ref p.2.1)))
theorem asc_keys {B : Int} : ∀ {ks : List (List Int)} {L : DI.KL}, L.map (·.1) = ks.map (List.map NestedKey.num) → L.Pairwise (fun x y => ∀ ns ms : List Int, x.1 = ns.map NestedKey.num → y.1 = ms.map NestedKey.num → TS.code B ns ≤ TS.code B ms) → Asc B ks
  | [], _, _, _ => .nil
  | _ :: _, [], e, _ => by simp at e
  | k :: ks, q :: L, e, h => by
    simp only [List.map_cons] at e
    injection e with e1 e2
    cases h with
    | cons h1 h2 =>
      refine .cons (fun m hm => ?_) (asc_keys e2 h2)
      obtain ⟨j, hj⟩ := List.mem_iff_getElem?.mp hm
      have z := congrArg (fun l => l[j]?) e2
      simp only [List.getElem?_map, hj, Option.map_some] at z
      obtain ⟨p, g1, g2⟩ := Option.map_eq_some_iff.mp z
      exact h1 p (List.mem_of_getElem? g1) k m e1 g2
theorem keys_rvs2 {K : PySem.W.Frag} {H : Hp} {π : List Addr} : ∀ {ks : List (List Int)} {L : DI.KL}, L.map (·.1) = ks.map (List.map NestedKey.num) → DI.Keyed K H L → RVs K cl H π (ks.map tupI) (L.map fun p => V.ref p.2.1)
  | [], [], _, _ => .nil
  | [], _ :: _, e, _ => by simp at e
  | _ :: _, [], e, _ => by simp at e
  | k :: ks, q :: L, e, h => by
    simp only [List.map_cons] at e
    injection e with e1 e2
    refine .cons ?_ (keys_rvs2 e2 fun p hp => h p (List.mem_cons_of_mem _ hp))
    have t := keyT_rv (cl := cl) (π := π) (h q List.mem_cons_self)
    have z : keyT q.1 = tupI k := by
      unfold keyT
      rw [e1, nksT_num]
    rw [z] at t
    exact t
theorem fr_sortK {d : Nat} {B : Int} (hP : X.prog = cl.P) (hw : X.w = cl.w) : FunR X.K cl (fSortK d B) (rSortK X d B) := by
  intro H π st ds vs Q Q0 hs r ⟨n, kvs, ep, ks, e, ed, ek, hf, h⟩ hq
  subst e
  obtain ⟨v, rfl, r1⟩ := r.one
  simp only [RV] at r1
  obtain ⟨a, rfl, ha⟩ := r1
  obtain ⟨b, L, g1, g2, g3, g4, g5⟩ := hs.dic ed
  rw [ha] at g1; cases g1
  have lk : L.map (·.1) = ks.map (List.map NestedKey.num) := g4.trans ek
  refine ⟨a, L, ep, rfl, by rw [hP, hw]; exact g2, g3, fun p hp => ?_, fun L' p pL asc hp => ?_⟩
  · have m : p.1 ∈ ks.map (List.map (NestedKey.num : Int → NestedKey)) := by rw [← lk]; exact List.mem_map.mpr ⟨p, hp, rfl⟩
    obtain ⟨k, hk, e⟩ := List.mem_map.mp m
    exact ⟨k, e.symm, hf k hk⟩
  · obtain ⟨ks', h3, h4⟩ := DI.perm_map (List.map (NestedKey.num : Int → NestedKey)) (pL.map (·.1)) ks lk
    have rr := keys_rvs2 (cl := cl) (π := π) h4.symm (fun q hq' => g3 q (pL.mem_iff.mp hq'))
    have q := hs.push hp rr
    exact hq _ _ _ (π ++ [p]) _ (h ks' h3 (asc_keys h4.symm asc)) (Ext.new hp [p]) q (by simp only [RV]; exact ⟨p, rfl, last_ref hs⟩)
end
end MP
namespace MP
open PySem L2
/-- a method of the own class -/
structure MD (K : PySem.W.Frag) (C : Addr) (x q : Str) (st : Stmt) (ps : List Str) (f : Addr) (fd : FuncData) : Prop where
  fn : Fun K x q st f fd
  hb : Binds K fd ps []
  me : Meth K C x f
theorem md_mk {K : PySem.W.Frag} {C : Addr} {x q : Str} {st : Stmt} {ps : List Str} {f : Addr} {oc : Value} {od an : Option Addr} {osl : Array (Option Value)} {kV doc pm cdv ct : Value} (a : PySem.W.findIn K (.ref C) x = some (some (.ref f))) (i : PySem.W.isFn K (.ref f) = true)
    (l : K.lookup f = some ⟨oc, od, .func (PySem.W.fnOf x q (defArgs st) (defBody st) (defScope st) .none kV doc pm an cdv ct), osl⟩) (c : PySem.W.codeIn K cdv q = true) (k : PySem.W.keepIn K (.ref f) = true)
    (b : ∀ (kV doc pm : Value) (an : Option Addr) (cdv ct : Value) (us : List Value), us.length = ps.length → bindArgs (PySem.W.fnOf x q (defArgs st) (defBody st) (defScope st) .none kV doc pm an cdv ct) ⟨us, []⟩ = pure (ps.zip us)) :
    MD K C x q st ps f (PySem.W.fnOf x q (defArgs st) (defBody st) (defScope st) .none kV doc pm an cdv ct) :=
  ⟨fun_mk l c k, (fun_mk (st := st) l c k).binds b, a, i, k⟩
/-- no lambda -/
def noLF : FV.LF := ⟨"", ⟨[], [], none, [], [], none, []⟩, .Constant .none 0 ⟨0, 0, 0, 0⟩, default, [], [], []⟩
/-- a module without the name -/
theorem no_tab {K : PySem.W.Frag} {x : Str} (h : PySem.W.nsIn K mainGlobals x = some none) : PySem.W.tabIn K x = none := by
  unfold PySem.W.tabIn
  rw [h]
theorem start_sp0 {K : PySem.W.Frag} {cl : CL} {F : XF} {H : Hp} {a : Addr} {ns : List Int} (hF : ∀ o, itemsOf [o] 0 = some (ns.map D.int) → F [.ref 0] [o] (fun d _ => d = .bl true) (fun _ _ => False))
    (ht : PySem.W.nsIn K mainGlobals "0" = some none) (hS : SqL K H a (ns.map V.int)) (hlt : LamX.Tabs cl.lt H := by intro p hp; exact nomatch hp) : spX K cl F 1 [.ref a] H (fun v _ => v = .bl true) fun _ _ _ => False := by
  have tabs : ∀ x ∈ tabNames, ∀ c P, PySem.W.tabIn K x = some (c, P) → GxR.TabG H P := fun x hx c P e => by
    rw [List.mem_singleton.mp hx, no_tab ht] at e
    cases e
  have fin : ∀ o, OR K cl H [a] a o → itemsOf [o] 0 = some (ns.map D.int) → spX K cl F 1 [.ref a] H (fun v _ => v = .bl true) fun _ _ _ => False := fun o ho hi => by
    refine ⟨[a], [.ref 0], [o], _, _, ⟨rfl, fun n u e => ?_, fun m n b xs ys e1 e2 _ _ _ _ => ?_, tabs, hlt⟩, .cons (by simp only [RV]; exact ⟨a, rfl, rfl⟩) .nil, rfl, hF o hi, fun d st' H' π' v q _ _ r => ?_, fun _ _ _ _ z => z.elim⟩
    · cases n with
      | zero => cases e; exact ⟨a, rfl, ho⟩
      | succ n => cases e
    · cases m with
      | zero => cases n with
        | zero => rfl
        | succ n => cases e2
      | succ m => cases e1
    · subst q
      simpa only [RV] using r
  rcases hS with (h | ⟨o, h⟩) | h
  · exact fin (.lst (ns.map D.int)) ⟨_, h, ints_RVs ns⟩ rfl
  · exact fin (.rol (ns.map D.int)) ⟨_, .inl ⟨o, h⟩, ints_RVs ns⟩ rfl
  · exact fin (.rol (ns.map D.int)) ⟨_, .inr h, ints_RVs ns⟩ rfl
end MP

/-! Comprehensions with any number of clauses, none with a test. -/
namespace LN
open PySem PySem.Spec PyProof.Rows L2
/-- a clause: its target, its source, what they mean, the slots of its target -/
structure Cl where
  tg : Expr
  iter : Expr
  wi : TI
  g : TG
  vs : List Nat
def Cl.c (k : Cl) : Comprehension := ⟨k.tg, k.iter, [], 0⟩
def avs : List Cl → List Nat
  | [] => []
  | k :: r => k.vs ++ avs r
theorem turn_mid {elt t i t1 i1 : Expr} {gens : List Comprehension} {scope : Scope} {pos : Pos} {j : Nat} {it acc : Value} {env : Env} (h : gens[j]? = some ⟨t, i, [], 0⟩) (h1 : gens[j + 1]? = some ⟨t1, i1, [], 0⟩) :
    compTurn (.ListComp elt gens scope pos) j it acc env = (do
      standAt i.pos
      match ← pyNext it with
      | none => pure (.done .next)
      | some v =>
        letOwnedTupleGo t it v
        assign t env v
        let x ← eval i1 env
        standAt i1.pos
        let x ← foldedSetIterable i1 env x
        let _ ← runOwn (.compStart (.ListComp elt gens scope pos) (j + 1) (← holding [x] (pyIter x)) acc env) env
        again (.compLoop (.ListComp elt gens scope pos) j it acc env)) := by
  unfold compTurn
  simp only [h, h1]
  rfl
theorem turn_end {elt t i : Expr} {gens : List Comprehension} {scope : Scope} {pos : Pos} {j : Nat} {it acc : Value} {env : Env} (h : gens[j]? = some ⟨t, i, [], 0⟩) (h1 : gens[j + 1]? = none) :
    compTurn (.ListComp elt gens scope pos) j it acc env = (do
      standAt i.pos
      match ← pyNext it with
      | none => pure (.done .next)
      | some v =>
        letOwnedTupleGo t it v
        assign t env v
        (do let _ ← call (.builtin "list.append") [acc, ← eval elt env])
        again (.compLoop (.ListComp elt gens scope pos) j it acc env)) := by
  unfold compTurn
  simp only [h, h1]
  rfl
/-- what a turn does when its target is stored: the next clause's loop, or the item is put to the list -/
def deepW (M : Model) (A : Around) (e elt : Expr) (gens : List Comprehension) (acc : Value) (env : Env) (j : Nat) (Q : Shared → Prop) (s : Shared) : Prop := match gens[j]? with
  | some k => (∀ x, foldedSetIterable k.iter env x = pure x) ∧ wpAny M A (eval k.iter env) (fun x s1 => wpAny M A (pyIter x) (fun it s2 => codeAny M A (.compStart e j it acc env) (fun z s3 => match z with
      | .ok _ => Q s3
      | .error _ => False) s2) (fun _ _ => False) s1) (fun _ _ => False) s
  | none => wpAny M A (eval elt env) (fun x s1 => wpAny M A (call (.builtin "list.append") [acc, x]) (fun _ s2 => Q s2) (fun _ _ => False) s1) (fun _ _ => False) s
section
variable {prog : Program} {w : World} {A : Around} {R : Result → Shared → Prop} {s : Shared}
theorem start_ok {elt : Expr} {gens : List Comprehension} {scope : Scope} {pos : Pos} {j : Nat} {t i : Expr} {it acc : Value} {env : Env} (hj : gens[j]? = some ⟨t, i, [], 0⟩)
    (h0 : codeAny (model prog w) A (.compLoop (.ListComp elt gens scope pos) j it acc env) R s)
    (h : wpAny (model prog w) A (pyIter it) (fun k s1 => codeAny (model prog w) A (.compLoop (.ListComp elt gens scope pos) j k acc env) R s1) (notedBy (model prog w) A env fun x s1 => R (.error x) s1) s) :
    codeAny (model prog w) A (.compStart (.ListComp elt gens scope pos) j it acc env) R s := by
  refine codeAny_of_tree ?_
  show wpAny _ _ ((compStart (.ListComp elt gens scope pos) j it acc env).onRaise fun x => do
    noteFrame x env
    standAt theWindowsPlace) _ _ s
  refine wpAny_notedAt ?_
  unfold compStart
  have cl : (clausesOf (.ListComp elt gens scope pos))[j]? = some ⟨t, i, [], 0⟩ := hj
  simp only [cl]
  show wpAny _ _ (ask >>= _) _ _ s
  refine wpAny_bind (wpAny_askSetting (wpAny_ite ?_))
  split
  · first
      | exact wpAny_pure ⟨rfl, h0⟩
      | exact wpAny_bind (wpAny_pure (wpAny_pure ⟨rfl, h0⟩))
  · first
      | exact wpAny_bind (wpAny_rule (wpAny_bind (wpAny_standAt (wpAny_bind (wpAny_mono h (fun k s1 q => wpAny_pure ⟨rfl, q⟩) fun _ _ x => x)))))
      | (refine wpAny_bind (wpAny_rule ?_)
         show wpAny _ _ (standAt i.pos >>= _) _ _ s
         exact wpAny_bind (wpAny_standAt (wpAny_bind (wpAny_mono h (fun k s1 q => wpAny_pure ⟨rfl, q⟩) fun _ _ x => x))))
/-- the loop of any clause -/
theorem loop_ok {elt : Expr} {gens : List Comprehension} {scope : Scope} {pos : Pos} {j : Nat} {t i : Expr} {it acc : Value} {env : Env} (hj : gens[j]? = some ⟨t, i, [], 0⟩) (hn : gens[j + 1]? = none ∨ ∃ t1 i1, gens[j + 1]? = some ⟨t1, i1, [], 0⟩) (I : Nat → Shared → Prop)
    (turn : ∀ n s, I n s → wpAny (model prog w) A (pyNext it) (fun r s1 => match r with
      | none => R (.ok .next) s1
      | some v => wpAny (model prog w) A (letOwnedTupleGo t it v) (fun _ s2 => wpAny (model prog w) A (assign t env v) (fun _ s3 =>
          deepW (model prog w) A (.ListComp elt gens scope pos) elt gens acc env (j + 1) (fun s4 => ∃ m, m < n ∧ I m s4) s3) (fun _ _ => False) s2) (fun _ _ => False) s1) (fun _ _ => False) s)
    (n : Nat) (h : I n s) : codeAny (model prog w) A (.compLoop (.ListComp elt gens scope pos) j it acc env) R s := by
  refine codeAny_loop rfl I (fun n s q => ?_) n h
  show wpAny _ A ((compTurn (.ListComp elt gens scope pos) j it acc env).onRaise fun x => do
    noteFrame x env
    theTreesLotGoes x) _ _ s
  refine wpAny_noted ?_
  rcases hn with hk | ⟨t1, i1, hk⟩
  · rw [turn_end hj hk]
    refine wpAny_bind (wpAny_standAt (wpAny_bind (thnF (turn n s q) fun r s1 q1 => ?_)))
    cases r with
    | none => exact wpAny_pure q1
    | some v =>
      refine wpAny_bind (thnF q1 fun _ s2 q2 => wpAny_bind (thnF q2 fun _ s3 q3 => ?_))
      unfold deepW at q3
      rw [hk] at q3
      exact wpAny_bind (wpAny_bind (thnF q3 fun x s4 q4 => wpAny_bind (thnF q4 fun _ s5 q5 => wpAny_pure (wpAny_pure ⟨rfl, q5⟩))))
  · rw [turn_mid hj hk]
    refine wpAny_bind (wpAny_standAt (wpAny_bind (thnF (turn n s q) fun r s1 q1 => ?_)))
    cases r with
    | none => exact wpAny_pure q1
    | some v =>
      refine wpAny_bind (thnF q1 fun _ s2 q2 => wpAny_bind (thnF q2 fun _ s3 q3 => ?_))
      unfold deepW at q3
      rw [hk] at q3
      obtain ⟨fo, q3⟩ := q3
      refine wpAny_bind (thnF q3 fun x s4 q4 => ?_)
      refine wpAny_bind (wpAny_standAt (wpAny_bind (wpAny_of_eq (fo x) (wpAny_bind (wpAny_holding (thnF q4 fun k s5 q5 => ?_))))))
      refine wpAny_bind (wpAny_runOwn ?_)
      rw [Around.mark_none]
      refine codeAny_mono q5 fun z s6 q6 => ?_
      cases z with
      | ok f =>
        first
          | exact wpAny_pure ⟨rfl, q6⟩
          | exact wpAny_bind (wpAny_pure (wpAny_pure ⟨rfl, q6⟩))
      | error e => exact q6.elim
end
/-- what the clauses from here on mean -/
def tLs : List Cl → TE → Addr → L2.St → Hp → (Hp → Prop) → Prop
  | [], te, D, σ, H, Nx => te σ H fun y H1 => ∃ acc, H1 D = some (.lst acc) ∧ acc.length < sizeLine ∧ Nx (upd H1 D (.lst (acc ++ [y])))
  | k :: r, te, D, σ, H, Nx => k.wi σ H fun J H1 => ∃ W : Nat → Nat → Hp → Prop, (∃ m, W 0 m H1) ∧ ∀ i m H2, W i m H2 →
    (J.stop i H2 ∧ Nx H2) ∨ (J.go i H2 ∧ ∃ Ny : Hp → Prop, (∀ H3, Ny H3 → ∃ m1, m1 < m ∧ W (i + 1) m1 H3) ∧ ∀ x H3, J.yld i H2 x H3 →
      k.g x (wipe σ (avs (k :: r))) H3 fun σ1 H4 => wipe σ1 k.vs = wipe (wipe σ (avs (k :: r))) k.vs ∧ tLs r te D σ1 H4 Ny)
theorem deep_mono {M : Model} {A : Around} {e elt : Expr} {gens : List Comprehension} {acc : Value} {env : Env} {j : Nat} {Q Q' : Shared → Prop} {s : Shared} (h : deepW M A e elt gens acc env j Q s) (hq : ∀ s, Q s → Q' s) : deepW M A e elt gens acc env j Q' s := by
  unfold deepW at h ⊢
  split at h
  · refine ⟨h.1, thnF h.2 fun x s1 q1 => thnF q1 fun it s2 q2 => codeAny_mono q2 fun z s3 q3 => ?_⟩
    cases z with
    | ok _ => exact hq _ q3
    | error _ => exact q3
  · exact thnF h fun x s1 q1 => thnF q1 fun _ s2 q2 => hq _ q2
structure ClOk (X : Cx) (k : Cl) : Prop where
  pi : PI X k.tg k.iter k.wi
  pg : PG X k.tg k.g
  fo : ∀ env x, foldedSetIterable k.iter env x = pure x
theorem deep_ok {X : Cx} {elt : Expr} {gens : List Comprehension} {scope : Scope} {pos : Pos} {te : TE} {D : Addr} (hc : X.calm = true) (hx : X.xe = fun _ _ => False) (he : PE X elt te) :
    ∀ (r : List Cl) (j : Nat), gens.drop j = r.map Cl.c → (∀ k ∈ r, ClOk X k) → ∀ (pins : List (Addr × Obj)) (σ : L2.St) (H : Hp) (s : Shared) (Nx : Hp → Prop), Inv X pins σ H s → tLs r te D σ H Nx →
      deepW (model X.prog X.w) X.A (.ListComp elt gens scope pos) elt gens (.ref D) X.env j (fun s1 => ∃ σ1 H1, Inv X pins σ1 H1 s1 ∧ σ1.length = σ.length ∧ (∀ (i : Nat) v, (wipe σ (avs r))[i]? = some (some v) → σ1[i]? = some (some v)) ∧ Nx H1) s
  | [], j, hg, _, pins, σ, H, s, Nx, I, h => by
    have gj : gens[j]? = none := by
      have := congrArg List.length hg
      rw [List.length_drop] at this
      exact List.getElem?_eq_none (by simp at this; omega)
    unfold deepW
    rw [gj]
    have pr := he.run pins s σ H _ I h
    rw [hx] at pr
    refine thnF pr fun v s1 ⟨y, H1, I1, r1, acc, hD, hz, nx⟩ => ?_
    exact app_ok I1 hD hz r1 fun s2 I2 => ⟨σ, _, I2, rfl, fun i v e => (wipe_some e).1, nx⟩
  | k :: r, j, hg, ok, pins, σ, H, s, Nx, I, h => by
    have gj : gens[j]? = some ⟨k.tg, k.iter, [], 0⟩ := by
      have := congrArg (fun l => l[0]?) hg
      simp only [List.getElem?_drop, Nat.add_zero, List.map_cons, List.getElem?_cons_zero] at this
      exact this
    have gd : gens.drop (j + 1) = r.map Cl.c := by
      have := congrArg List.tail hg
      rwa [List.tail_drop] at this
    have kok := ok k List.mem_cons_self
    have ih := deep_ok (scope := scope) (pos := pos) (D := D) hc hx he r (j + 1) gd fun q hq => ok q (List.mem_cons_of_mem _ hq)
    unfold deepW
    rw [gj]
    refine ⟨kok.fo X.env, ?_⟩
    have pr := kok.pi.run pins s σ H _ I h
    rw [hx] at pr
    refine thnF pr fun xv s1 q1 => thnF q1 fun itv s2 q2 => ?_
    obtain ⟨it, fp, tn, J, H1, e, I1, T, st1, f1, W, ⟨m0, w0⟩, turn⟩ := q2
    subst e
    have stat : ∀ {H' : Hp}, (∀ b ∈ fp, H' b = none) → ∀ b ∈ fp, FpOk X pins H' b := fun hn b hb => ⟨hn b hb, (f1 b hb).2⟩
    have loop : codeAny (model X.prog X.w) X.A (.compLoop (.ListComp elt gens scope pos) j (.ref it) (.ref D) X.env) (fun z s' => match z with
        | .ok _ => ∃ σ1 H1, Inv X pins σ1 H1 s' ∧ σ1.length = σ.length ∧ (∀ (i : Nat) v, (wipe σ (avs (k :: r)))[i]? = some (some v) → σ1[i]? = some (some v)) ∧ Nx H1
        | .error _ => False) s2 := by
      have hn : gens[j + 1]? = none ∨ ∃ t1 i1, gens[j + 1]? = some ⟨t1, i1, [], 0⟩ := by
        have q := congrArg (fun l => l[0]?) gd
        simp only [List.getElem?_drop, Nat.add_zero] at q
        cases r with
        | nil => exact .inl q
        | cons k2 r2 => exact .inr ⟨k2.tg, k2.iter, q⟩
      refine loop_ok gj hn (fun n s' => ∃ i H', Inv X pins (wipe σ (avs (k :: r))) H' s' ∧ tn i s'.heap ∧ (∀ b ∈ fp, H' b = none) ∧ W i n H') ?_ m0 ⟨0, H1, I1.weak (wipe_length _ _) (fun i v e => (wipe_some e).1), st1, fun b hb => (f1 b hb).1, w0⟩
      rintro n s3 ⟨i, H3, I3, st3, n3, w3⟩
      rcases turn i n H3 w3 with ⟨stop, nx⟩ | ⟨go, Ny, hNy, step⟩
      · refine thnF (T.done X rfl rfl rfl hc i pins s3 _ H3 (fun _ _ => False) I3 (stat n3) st3 stop) fun z s4 ⟨hz, I4⟩ => ?_
        subst hz
        exact ⟨_, H3, I4, wipe_length _ _, fun _ _ e => e, nx⟩
      · refine thnF (T.item X rfl rfl rfl hc i pins s3 _ H3 (fun _ _ => False) I3 (stat n3) st3 go) fun z s4 ⟨u, hz, q4⟩ => ?_
        subst hz
        refine thnF q4 fun _ s5 ⟨x, H5, I5, r5, y5, st5, n5⟩ => ?_
        have I5' := I5.pinned (stat n5) (T.obj _ _ st5)
        have pg := kok.pg.run _ s5 _ H5 x u _ I5' r5 (step x H5 y5)
        rw [hx] at pg
        refine thnF pg fun _ s6 ⟨σ6, H6, I6, hw6, q6⟩ => ?_
        refine deep_mono (ih _ σ6 H6 s6 Ny I6 q6) fun s7 ⟨σ7, H7, I7, l7, k7, n7⟩ => ?_
        obtain ⟨m1, hm, w1⟩ := hNy H7 n7
        have pin' : ∀ b ∈ fp, ∀ o, s5.heap.get? b = some o → s7.heap.get? b = some o ∧ H7 b = none := fun b hb o e =>
          have z := I7.pin (b, o) (List.mem_append_right _ (List.mem_append_right _ (mem_pinsAt hb e)))
          ⟨z.1, z.2.1⟩
        refine ⟨m1, hm, i + 1, H7, I7.unpinned.weak ?_ (fun l v e => ?_), T.keep _ _ _ st5 fun b hb o e => (pin' b hb o e).1, fun b hb => ?_, w1⟩
        · have q := congrArg List.length hw6
          rw [wipe_length, wipe_length, wipe_length] at q
          rw [wipe_length, l7, q]
        · have e0 := e
          obtain ⟨e1, e2⟩ := wipe_some e
          have e2 : l ∉ k.vs ++ avs r := e2
          rw [List.mem_append, not_or] at e2
          refine k7 l v ?_
          rw [wipe_out e2.2]
          have this : (wipe σ6 k.vs)[l]? = (wipe (wipe σ (avs (k :: r))) k.vs)[l]? := by rw [hw6]
          rw [wipe_out e2.1, wipe_out e2.1] at this
          rw [this]
          exact e0
        · obtain ⟨o, e, _⟩ := T.obj _ _ st5 b hb
          exact (pin' b hb o e).2
    exact start_ok gj loop (T.self _ 0 _ _ _ st1 loop)
/-- the whole: the first source is walked from outside -/
def tLn (wi : TI) (g : TG) (r : List Cl) (te : TE) (vs : List Nat) : TE := fun σ H Q => wi σ H fun J H1 => ∀ D, H1 D = none → ∃ W : Nat → Nat → Hp → Prop, (∃ m, W 0 m (upd H1 D (.lst []))) ∧ ∀ i m H2, W i m H2 →
  (J.stop i H2 ∧ Q (.ref D) H2) ∨ (J.go i H2 ∧ ∃ Nx : Hp → Prop, (∀ H3, Nx H3 → ∃ m1, m1 < m ∧ W (i + 1) m1 H3) ∧ ∀ x H3, J.yld i H2 x H3 →
    g x (wipe σ vs) H3 fun σ1 H4 => wipe σ1 vs = wipe σ vs ∧ tLs r te D σ1 H4 Nx)
section
variable {X : Cx}
theorem lcn_core {pins : List (Addr × Obj)} {s : Shared} {σ : L2.St} {H : Hp} {Q : VK} {elt tg iter : Expr} {scope : Scope} {own : List (Str × Nat)} {pos pos' : Pos} {wi : TI} {g : TG} {r : List Cl} {te : TE} {Qf : Value → Shared → Prop}
    (hc : X.calm = true) (hN : X.N.Nodup) (I : L2.Inv X pins σ H s) (hi : PI X tg iter wi) (ok : BlkOk X.N X.env.scope scope own) (hv : ∀ i ∈ avs r, i ∈ own.map (·.2))
    (hg : ∀ (s : Shared) (H : Hp) (C : Addr) (cl : List (Str × Addr)) (fp : List Addr), PG (X.blk s H scope (compEnvC scope cl C X.env) fp) tg g)
    (hr : ∀ (s : Shared) (H : Hp) (C : Addr) (cl : List (Str × Addr)) (fp : List Addr), ∀ k ∈ r, ClOk (X.blk s H scope (compEnvC scope cl C X.env) fp) k)
    (he : ∀ (s : Shared) (H : Hp) (C : Addr) (cl : List (Str × Addr)) (fp : List Addr), PE (X.blk s H scope (compEnvC scope cl C X.env) fp) elt te) (hs : ∀ x, foldedSetIterable iter X.env x = pure x)
    (h : tLn wi g r te (own.map (·.2)) σ H Q)
    (hRR : ∀ D C s' m H', L2.Inv X pins σ H' s' → Q (.ref D) H' → s'.heap.Ns C m → FpOk X pins H' C → compPost (model X.prog X.w) X.A X.xe none Qf (.ref D) C (.ok .next) s') :
    wpAny (model X.prog X.w) X.A (comprehension (.ListComp elt (⟨tg, iter, [], 0⟩ :: r.map Cl.c) scope pos) scope X.env pos' (newList []) false (eval iter X.env) none) Qf X.xe s := by
  have free : ∀ y ∈ scope.names, y.2 = .free → ∃ c, X.env.cells.lookup y.1 = some c := fun y hy e => (ok.free y hy e).elim (fun k => I.ok.has _ (.inl k)) fun k => I.ok.has _ (.inr k)
  refine wpAny_comprehension_free (use := none) rfl hs (closure_ok free) ok.kind (fun y hy e => by rw [ok.uniq y hy, e]) ?_
  refine thn (hi.run pins s σ H _ I h) fun xv s1 q1 => thn q1 fun itv s2 q2 => ?_
  obtain ⟨it, fp, tn, J, H2, e, I2, T, st2, f2, q⟩ := q2
  subst e
  refine wpAny_newObj_type (newEnv_comp ?_) (by show 0 ≤ sizeLine; decide)
  generalize hD : s2.heap.objs.size = D
  have nD : H2 D = none := I2.hok.fresh (Nat.le_of_eq hD)
  obtain ⟨W, ⟨m0, w0⟩, turn⟩ := q D nD
  generalize hs3 : ({ s2 with heap := s2.heap.push { cls := .type "list", data := .seq ([] : List Value).toArray } } : Shared) = s3
  have I3 : L2.Inv X pins σ (upd H2 D (.lst [])) s3 := by
    subst hs3
    refine I2.laid (t' := s2.toks) (fun b o e => Heap.get?_push_of_some _ e) (Nat.le_of_eq hD) ⟨Nat.zero_le _, [], 0, .nil, ?_⟩
    subst hD
    exact Heap.get?_push_size _ rfl
  have h3 : s3.heap = s2.heap.push { cls := .type "list", data := .seq ([] : List Value).toArray } := by subst hs3; rfl
  have f3 : ∀ b ∈ fp, FpOk X pins (upd H2 D (.lst [])) b ∧ b < s3.heap.objs.size := fun b hb => by
    have lt : b < s2.heap.objs.size := by
      obtain ⟨o, e, _⟩ := T.obj _ _ st2 b hb
      exact Heap.lt_size e
    refine ⟨⟨?_, (f2 b hb).2⟩, ?_⟩
    · rw [upd_ne (fun z => Nat.ne_of_lt lt (z.trans hD.symm))]
      exact (f2 b hb).1
    · rw [h3, Heap.size_push]
      exact Nat.lt_succ_of_lt lt
  have st3 : tn 0 s3.heap := T.keep _ _ _ st2 fun b _ o e => by
    rw [h3]
    exact Heap.get?_push_of_some _ e
  have I4 := block_start I3 ok hN f3
  generalize hcl : cellsFrom (s3.heap.objs.size + 1) scope.names (cloFrom X.env.cells scope.names []) = cl at I4
  have pg := hg s3 (upd H2 D (.lst [])) s3.heap.objs.size cl fp
  have pe := he s3 (upd H2 D (.lst [])) s3.heap.objs.size cl fp
  have pr := hr s3 (upd H2 D (.lst [])) s3.heap.objs.size cl fp
  show codeAny _ _ (.compStart (.ListComp elt (⟨tg, iter, [], 0⟩ :: r.map Cl.c) scope pos) 0 (.ref it) (.ref D) (compEnvC scope cl s3.heap.objs.size X.env)) (compPost (model X.prog X.w) X.A X.xe none Qf (.ref D) s3.heap.objs.size) { s3 with heap := pushCells (s3.heap.push { cls := .type "dict", data := .dict #[] }) scope.names }
  have nfp : ∀ b ∈ fp, (upd H2 D (.lst [])) b = none := fun b hb => (f3 b hb).1.1
  generalize hce : compEnvC scope cl s3.heap.objs.size X.env = ce at I4 pg pe pr ⊢
  have cL : ce.locals = s3.heap.objs.size := by subst hce; rfl
  generalize hH3 : upd H2 D (.lst []) = H3 at I3 I4 pg pe pr w0 nfp f3
  generalize hs4 : ({ s3 with heap := pushCells (s3.heap.push { cls := .type "dict", data := .dict #[] }) scope.names } : Shared) = s4 at I4 ⊢
  have st4 : tn 0 s4.heap := T.keep _ _ _ st3 fun b _ o e => by
    subst hs4
    exact pushCells_keeps _ _ _ _ (Heap.get?_push_of_some _ e)
  have stat : ∀ {σ' : L2.St} {H' : Hp} {s' : Shared}, L2.Inv (X.blk s3 H3 scope ce fp) [] σ' H' s' → (∀ b ∈ fp, H' b = none) → ∀ b ∈ fp, FpOk (X.blk s3 H3 scope ce fp) [] H' b := fun {σ' H' s'} I' hn b hb =>
    ⟨hn b hb, (I'.ok.exf b hb).1, I'.ok.exfs b hb, .inl hb, fun x c e => (I'.ok.exf b hb).2 x c e, fun p hp => nomatch (show p ∈ ([] : List (Addr × Obj)) from hp)⟩
  have gj : (⟨tg, iter, [], 0⟩ :: r.map Cl.c : List Comprehension)[0]? = some ⟨tg, iter, [], 0⟩ := rfl
  have hn : (⟨tg, iter, [], 0⟩ :: r.map Cl.c : List Comprehension)[0 + 1]? = none ∨ ∃ t1 i1, (⟨tg, iter, [], 0⟩ :: r.map Cl.c : List Comprehension)[0 + 1]? = some ⟨t1, i1, [], 0⟩ := by
    cases r with
    | nil => exact .inl rfl
    | cons k2 r2 => exact .inr ⟨k2.tg, k2.iter, rfl⟩
  have loop : codeAny (model X.prog X.w) X.A (.compLoop (.ListComp elt (⟨tg, iter, [], 0⟩ :: r.map Cl.c) scope pos) 0 (.ref it) (.ref D) ce) (compPost (model X.prog X.w) X.A X.xe none Qf (.ref D) s3.heap.objs.size) s4 := by
    refine loop_ok gj hn (fun n s' => ∃ i H', L2.Inv (X.blk s3 H3 scope ce fp) [] (wipe σ (own.map (·.2))) H' s' ∧ tn i s'.heap ∧ (∀ b ∈ fp, H' b = none) ∧ W i n H') ?_ m0 ⟨0, H3, I4, st4, nfp, w0⟩
    rintro n s5 ⟨i, H5, I5, st5, n5, w5⟩
    rcases turn i n H5 w5 with ⟨stop, qq⟩ | ⟨go, Nx, hNx, step⟩
    · refine thnF (T.done (X.blk s3 H3 scope ce fp) rfl rfl rfl hc i [] s5 _ H5 (fun _ _ => False) I5 (stat I5 n5) st5 stop) fun z s6 ⟨hz, I6⟩ => ?_
      subst hz
      have I7 : L2.Inv X pins σ H5 s6 := I3.call' (ch := fp) I6.os I6.base I6.hok I6.bare fun b hb =>
        have f := (f3 b hb).1
        ⟨f.2.2.2.1, f.2.1, f.2.2.2.2.1, f.2.2.2.2.2⟩
      have nC : H5 s3.heap.objs.size = none := by
        rw [← cL]
        exact I6.free
      obtain ⟨m, hm, _⟩ := I6.loc
      have hm : s6.heap.Ns ce.locals m := hm
      rw [cL] at hm
      exact hRR D s3.heap.objs.size s6 m H5 I7 qq hm (I3.fpOk (Nat.le_refl _) nC)
    · refine thnF (T.item (X.blk s3 H3 scope ce fp) rfl rfl rfl hc i [] s5 _ H5 (fun _ _ => False) I5 (stat I5 n5) st5 go) fun z s6 ⟨u, hz, q6⟩ => ?_
      subst hz
      refine thnF q6 fun _ s7 ⟨x, H7, I7, r7, y7, st7, n7⟩ => ?_
      have I7' := I7.pinned (stat I7 n7) (T.obj _ _ st7)
      refine thnF (pg.run _ s7 _ H7 x u _ I7' r7 (step x H7 y7)) fun _ s8 ⟨σ8, H8, I8, hw8, q8⟩ => ?_
      refine deep_mono (deep_ok (X := X.blk s3 H3 scope ce fp) (scope := scope) (pos := pos) (D := D) (gens := ⟨tg, iter, [], 0⟩ :: r.map Cl.c) hc rfl pe r 1 rfl pr _ σ8 H8 s8 Nx I8 q8) fun s9 ⟨σ9, H9, I9, l9, k9, n9⟩ => ?_
      obtain ⟨m1, hm, w1⟩ := hNx H9 n9
      have pin' : ∀ b ∈ fp, ∀ o, s7.heap.get? b = some o → s9.heap.get? b = some o ∧ H9 b = none := fun b hb o e =>
        have z := I9.pin (b, o) (List.mem_append_right _ (List.mem_append_right _ (mem_pinsAt hb e)))
        ⟨z.1, z.2.1⟩
      refine ⟨m1, hm, i + 1, H9, (I9.unpinned (pins := [])).weak ?_ (fun l v e => ?_), T.keep _ _ _ st7 fun b hb o e => (pin' b hb o e).1, fun b hb => ?_, w1⟩
      · rw [l9, ← wipe_length σ8 (own.map (·.2)), hw8]
      · have e0 := e
        rw [← hw8] at e0
        obtain ⟨e1, e2⟩ := wipe_some e0
        refine k9 l v ?_
        rw [wipe_out fun z => e2 (hv l z)]
        exact e1
      · obtain ⟨o, e, _⟩ := T.obj _ _ st7 b hb
        exact (pin' b hb o e).2
  exact start_ok gj loop (T.self X.A 0 _ _ _ st4 loop)
theorem pe_lcn {elt tg iter : Expr} {scope : Scope} {own : List (Str × Nat)} {pos : Pos} {wi : TI} {g : TG} {r : List Cl} {gens : List Comprehension} {te : TE} (hc : X.calm = true) (hN : X.N.Nodup) (hi : PI X tg iter wi) (ok : BlkOk X.N X.env.scope scope own) (hv : ∀ i ∈ avs r, i ∈ own.map (·.2))
    (hg : ∀ (s : Shared) (H : Hp) (C : Addr) (cl : List (Str × Addr)) (fp : List Addr), PG (X.blk s H scope (compEnvC scope cl C X.env) fp) tg g)
    (hr : ∀ (s : Shared) (H : Hp) (C : Addr) (cl : List (Str × Addr)) (fp : List Addr), ∀ k ∈ r, ClOk (X.blk s H scope (compEnvC scope cl C X.env) fp) k)
    (he : ∀ (s : Shared) (H : Hp) (C : Addr) (cl : List (Str × Addr)) (fp : List Addr), PE (X.blk s H scope (compEnvC scope cl C X.env) fp) elt te) (hgens : gens = r.map Cl.c) (hs : ∀ x, foldedSetIterable iter X.env x = pure x := by intro _; rfl) :
    PE X (.ListComp elt (⟨tg, iter, [], 0⟩ :: gens) scope pos) (tLn wi g r te (own.map (·.2))) := by
  subst hgens
  refine ⟨fun pins s σ H Q I h => ?_⟩
  rw [eval_ListComp]
  refine lcn_core hc hN I hi ok hv hg hr he hs h fun D C s' m H' I' q hm f => ⟨m, hm, fun h2 sb => ?_⟩
  obtain ⟨f0, f1, f2, f3, f4, f5⟩ := f
  exact ⟨.ref D, H', I'.turned (t' := s'.toks) (fun b o hb e => (sb.2 b hb).trans e) f0 f1 f3 f4 f5, rfl, q⟩
end
end LN

/-! Comprehensions of any number of clauses over the store. -/
namespace MP
open PySem L2
abbrev CkX := XI × XG × List Nat
def avX : List CkX → List Nat
  | [] => []
  | k :: r => k.2.2 ++ avX r
/-- the clauses from here on; the list stands at n -/
def compN : List CkX → XE → Nat → Env → Store → (Store → Prop) → Prop
  | [], e, n, σ, st, Nx => e σ st (fun y st1 => ∃ acc, st1[n]? = some (.lst acc) ∧ acc.length < 16777216 ∧ Nx (st1.set n (.lst (acc ++ [y])))) botR
  | k :: r, e, n, σ, st, Nx => k.1 σ st (fun ik st1 => ∃ Wl : Nat → Nat → Store → Prop, (∃ m, Wl 0 m st1) ∧ ∀ i m st2, Wl i m st2 →
      (itemAt ik i st2 = some none ∧ Nx st2) ∨ (∃ d, itemAt ik i st2 = some (some d) ∧ ∃ Ny : Store → Prop, (∀ st', Ny st' → ∃ m', m' < m ∧ Wl (i + 1) m' st') ∧
        k.2.1 d (wipeD σ (avX (k :: r))) st2 fun σ2 st3 => compN r e n σ2 st3 Ny)) botR
def xCompN (it : XI) (vs : List Nat) (g : XG) (r : List CkX) (e : XE) : XE := fun σ st Q R => it σ st (fun ik st1 => ∃ Wl : Nat → Nat → Store → Prop, (∃ m, Wl 0 m (st1 ++ [.lst []])) ∧ ∀ i m st2, Wl i m st2 →
  (itemAt ik i st2 = some none ∧ Q (.ref st1.length) st2) ∨ (∃ d, itemAt ik i st2 = some (some d) ∧ ∃ Nx : Store → Prop, (∀ st', Nx st' → ∃ m', m' < m ∧ Wl (i + 1) m' st') ∧
    g d (wipeD σ vs) st2 fun σ2 st3 => compN r e st1.length σ2 st3 Nx)) R
/-- a clause with its words -/
structure Ck where
  tg : Expr
  iter : Expr
  it : XI
  g : XG
  vs : List Nat
def Ck.x (k : Ck) : CkX := (k.it, k.g, k.vs)
def Ck.c (k : Ck) : Comprehension := ⟨k.tg, k.iter, [], 0⟩
def Ck.cl (K : PySem.W.Frag) (cl : CL) (k : Ck) : LN.Cl := ⟨k.tg, k.iter, LI K cl W0 k.it, LGw K cl k.vs k.g, k.vs⟩
inductive CksOk (X : Cx) (cl : CL) : List Ck → Prop where
  | nil : CksOk X cl []
  | cons {tg iter : Expr} {it : XI} {g : XG} {vs : List Nat} {r : List Ck} : PI X tg iter (LI X.K cl W0 it) → PG X tg (LGw X.K cl vs g) → (∀ env x, foldedSetIterable iter env x = pure x) → CksOk X cl r → CksOk X cl (⟨tg, iter, it, g, vs⟩ :: r)
theorem CksOk.ok {X : Cx} {cl : CL} {r : List Ck} (h : CksOk X cl r) : ∀ k ∈ r.map (Ck.cl X.K cl), LN.ClOk X k := by
  induction h with
  | nil => intro k hk; cases hk
  | cons a b c _ ih =>
    intro k hk
    rw [List.map_cons] at hk
    rcases List.mem_cons.mp hk with rfl | hk
    · exact ⟨a, b, c⟩
    · exact ih k hk
theorem avs_eq {K : PySem.W.Frag} {cl : CL} : ∀ r : List Ck, LN.avs (r.map (Ck.cl K cl)) = avX (r.map Ck.x)
  | [] => rfl
  | k :: r => by
    show k.vs ++ LN.avs (r.map (Ck.cl K cl)) = k.vs ++ avX (r.map Ck.x)
    rw [avs_eq r]
section
variable {X : Cx} {cl : CL} {W : WX}
theorem deep_imp {K : PySem.W.Frag} {e : XE} {H0 : Hp} {π0 : List Addr} {n : Nat} {Dl : Addr} (aD : π0[n]? = some Dl) : ∀ (r : List Ck) (σ : Env) (st : Store) (Nx : Store → Prop) (σV : St) (H : Hp) (π : List Addr), Ext K cl H0 π0 H π → SR K cl H π st → ER K cl H π σ σV → compN (r.map Ck.x) e n σ st Nx →
    LN.tLs (r.map (Ck.cl K cl)) (LE K cl W0 e) Dl σV H (fun H' => ∃ π' st', Ext K cl H0 π0 H' π' ∧ SR K cl H' π' st' ∧ Nx st')
  | [], σ, st, Nx, σV, H, π, e0, hs, he, h => by
    refine ⟨π, σ, st, _, _, hs, he, h, fun y st1 H1 π1 v ⟨acc, g1, g2, g3⟩ e1 s1 r1 => ?_, fun _ _ _ _ z _ _ => False.elim z⟩
    have a1 := (e0.trans e1).at_ aD
    obtain ⟨a, ws, p1, p2, p3⟩ := s1.lst g1
    rw [a1] at p1; cases p1
    obtain ⟨_, k2, k3⟩ := s1.write g1 a1 (p3.append (.cons r1 .nil))
    exact ⟨ws, p2, by rw [sizeLine_eq, p3.length]; exact g2, π1, _, (e0.trans e1).trans k2, k3, g3⟩
  | k :: r, σ, st, Nx, σV, H, π, e0, hs, he, h => by
    refine ⟨π, σ, st, _, _, hs, he, h, fun ik st1 H1 π1 J ⟨Wl, ⟨m0, w0⟩, turn⟩ e1 s1 j1 => ?_, fun _ _ _ _ z _ _ => False.elim z⟩
    refine ⟨fun i m H' => ∃ π' st', Ext K cl H1 π1 H' π' ∧ SR K cl H' π' st' ∧ Wl i m st', ⟨m0, π1, st1, Ext.refl, s1, w0⟩, ?_⟩
    rintro i m H2 ⟨π2, st2, e2, s2, w2⟩
    have j2 := j1.ext e2
    rcases turn i m st2 w2 with ⟨stop, q⟩ | ⟨d, hd1, Ny, hN, step⟩
    · exact .inl ⟨it_stop s2 j2 stop, π2, st2, (e0.trans e1).trans e2, s2, q⟩
    · obtain ⟨go, yl⟩ := it_go s2 j2 hd1
      refine .inr ⟨go, fun H3 => ∃ π3 st3, Ext K cl H1 π1 H3 π3 ∧ SR K cl H3 π3 st3 ∧ Ny st3, fun H3 ⟨π3, st3, e3, s3, n3⟩ => ?_, fun x H4 hy => ?_⟩
      · obtain ⟨m', hm, w3⟩ := hN st3 n3
        exact ⟨m', hm, π3, st3, e3, s3, w3⟩
      · obtain ⟨e4, s4, r4⟩ := yl x H4 hy
        have ea : LN.avs (Ck.cl K cl k :: r.map (Ck.cl K cl)) = avX (k.x :: r.map Ck.x) := avs_eq (k :: r)
        show LGw K cl k.vs k.g x (L2.wipe σV (LN.avs (Ck.cl K cl k :: r.map (Ck.cl K cl)))) H4 _
        rw [ea]
        refine ⟨π2, d, wipeD σ (avX (k.x :: r.map Ck.x)), st2, _, s4, (he.ext ((e1.trans e2).trans e4)).wipe _, r4, step, fun σ5 st5 H5 π5 σV5 q5 e5 s5 r5 w5 => ⟨w5, ?_⟩⟩
        have e15 := (e2.trans e4).trans e5
        have a5 : π5[n]? = some Dl := ((e0.trans e1).trans e15).at_ aD
        have := deep_imp (H0 := H1) (π0 := π1) (e0.trans e1 |>.at_ aD) r σ5 st5 Ny σV5 H5 π5 e15 s5 r5 q5
        exact this
theorem compN_imp {K : PySem.W.Frag} {it : XI} {vs : List Nat} {g : XG} {r : List Ck} {e : XE} {σV : St} {H : Hp} {Q : VK} (h : LE K cl W (xCompN it vs g (r.map Ck.x) e) σV H Q) :
    LN.tLn (LI K cl W it) (LGw K cl vs g) (r.map (Ck.cl K cl)) (LE K cl W0 e) vs σV H Q := by
  obtain ⟨π, σ, st, Q0, R0, hs, he, hx, hq, hw⟩ := h
  refine ⟨π, σ, st, _, R0, hs, he, hx, fun ik st1 H1 π1 J h1 e1 s1 j1 => ?_, hw⟩
  intro Dl hDl
  obtain ⟨Wl, ⟨m0, w0⟩, turn⟩ := h1
  have eD : Ext K cl H1 π1 (upd H1 Dl (.lst [])) (π1 ++ [Dl]) := Ext.new hDl [Dl]
  have sD : SR K cl (upd H1 Dl (.lst [])) (π1 ++ [Dl]) (st1 ++ [.lst []]) := s1.push hDl .nil
  have aD : (π1 ++ [Dl])[st1.length]? = some Dl := last_ref s1
  refine ⟨fun i m H' => ∃ π' st', Ext K cl (upd H1 Dl (.lst [])) (π1 ++ [Dl]) H' π' ∧ SR K cl H' π' st' ∧ Wl i m st', ⟨m0, π1 ++ [Dl], st1 ++ [.lst []], Ext.refl, sD, w0⟩, ?_⟩
  rintro i m H2 ⟨π2, st2, e2, s2, w2⟩
  have ee := (e1.trans eD).trans e2
  have j2 := j1.ext (eD.trans e2)
  rcases turn i m st2 w2 with ⟨stop, q⟩ | ⟨d, hd1, Nx, hN, step⟩
  · exact .inl ⟨it_stop s2 j2 stop, hq _ _ _ _ _ q ee s2 (by simp only [RV]; exact ⟨Dl, rfl, e2.at_ aD⟩)⟩
  · obtain ⟨go, yl⟩ := it_go s2 j2 hd1
    refine .inr ⟨go, fun H3 => ∃ π3 st3, Ext K cl (upd H1 Dl (.lst [])) (π1 ++ [Dl]) H3 π3 ∧ SR K cl H3 π3 st3 ∧ Nx st3, fun H3 ⟨π3, st3, e3, s3, n3⟩ => ?_, fun x H4 hy => ?_⟩
    · obtain ⟨m', hm, w3⟩ := hN st3 n3
      exact ⟨m', hm, π3, st3, e3, s3, w3⟩
    · obtain ⟨e4, s4, r4⟩ := yl x H4 hy
      refine ⟨π2, d, wipeD σ vs, st2, _, s4, (he.ext (ee.trans e4)).wipe vs, r4, step, fun σ5 st5 H5 π5 σV5 q5 e5 s5 r5 w5 => ⟨w5.trans (wipe_two σV vs vs fun _ h => h), ?_⟩⟩
      exact deep_imp aD r σ5 st5 Nx σV5 H5 π5 ((e2.trans e4).trans e5) s5 r5 q5
theorem mp_compN {elt tg iter : Expr} {scope : Scope} {own : List (Str × Nat)} {pos : Pos} {it : XI} {g : XG} {r : List Ck} {gens : List Comprehension} {rx : List CkX} {e : XE} (hc : X.calm = true) (hN : X.N.Nodup) (hi : PI X tg iter (LI X.K cl W it)) (ok : BlkOk X.N X.env.scope scope own)
    (hg : ∀ (s : Shared) (H : Hp) (C : Addr) (cl' : List (Str × Addr)) (fp : List Addr), PG (X.blk s H scope (compEnvC scope cl' C X.env) fp) tg (LGw X.K cl (own.map (·.2)) g)) (hgens : gens = r.map Ck.c)
    (hr : ∀ (s : Shared) (H : Hp) (C : Addr) (cl' : List (Str × Addr)) (fp : List Addr), CksOk (X.blk s H scope (compEnvC scope cl' C X.env) fp) cl r)
    (he : ∀ (s : Shared) (H : Hp) (C : Addr) (cl' : List (Str × Addr)) (fp : List Addr), PE (X.blk s H scope (compEnvC scope cl' C X.env) fp) elt (LE X.K cl W0 e)) (hrx : rx = r.map Ck.x := by rfl) (hv : ∀ i ∈ avX rx, i ∈ own.map (·.2) := by decide) (hs : ∀ x, foldedSetIterable iter X.env x = pure x := by intro _; rfl) :
    PE X (.ListComp elt (⟨tg, iter, [], 0⟩ :: gens) scope pos) (LE X.K cl W (xCompN it (own.map (·.2)) g rx e)) := by
  subst hrx
  have hgens' : gens = (r.map (Ck.cl X.K cl)).map LN.Cl.c := by rw [hgens, List.map_map]; rfl
  exact imE (LN.pe_lcn hc hN hi ok (by rw [avs_eq]; exact hv) hg (fun s H C cl' fp => (hr s H C cl' fp).ok) he hgens' hs) fun _ _ _ h => compN_imp h
end
/-! ### over written tuples: all products -/
section
variable {ev : Env → D} {e : XE}
def prodL (ev : Env → D) : List (List D × Nat) → Env → List D
  | [], σ => [ev σ]
  | (xs, i) :: r, σ => xs.flatMap fun d => prodL ev r ((wipeD σ (i :: r.map (·.2))).set i (some d))
def leafP (e : XE) (ev : Env → D) : List (List D × Nat) → Env → Prop
  | [], σ => ∀ st K, K (ev σ) st → e σ st K botR
  | (xs, i) :: r, σ => ∀ d ∈ xs, leafP e ev r ((wipeD σ (i :: r.map (·.2))).set i (some d))
def cksOf : List (List D × Nat) → List CkX
  | [] => []
  | (xs, i) :: r => (iT (xC (.tup xs)), gN i, [i]) :: cksOf r
theorem av_of : ∀ r : List (List D × Nat), avX (cksOf r) = r.map (·.2)
  | [] => rfl
  | (xs, i) :: r => by show [i] ++ avX (cksOf r) = _; rw [av_of r]; rfl
theorem n_prod {n : Nat} : ∀ (r : List (List D × Nat)) (σ : Env) (st : Store) (acc : List D) (Nx : Store → Prop), leafP e ev r σ → st[n]? = some (.lst acc) → acc.length + (prodL ev r σ).length ≤ 16777216 → Nx (st.set n (.lst (acc ++ prodL ev r σ))) → compN (cksOf r) e n σ st Nx
  | [], σ, st, acc, Nx, hl, hn, hz, h => by
    exact hl st _ ⟨acc, hn, by simp [prodL] at hz; omega, h⟩
  | (xs, i) :: r, σ, st, acc, Nx, hl, hn, hz, h => by
    have ea : avX ((iT (xC (.tup xs)), gN i, [i]) :: cksOf r) = i :: r.map (·.2) := av_of ((xs, i) :: r)
    show (∃ Wl : Nat → Nat → Store → Prop, _)
    refine ⟨fun k m st2 => m = xs.length - k ∧ k ≤ xs.length ∧ st2 = st.set n (.lst (acc ++ (xs.take k).flatMap fun d => prodL ev r ((wipeD σ (i :: r.map (·.2))).set i (some d)))), ⟨xs.length, by simp, Nat.zero_le _, ?_⟩, ?_⟩
    · rw [List.take_zero, List.flatMap_nil, List.append_nil]
      obtain ⟨hlt, hget⟩ := List.getElem?_eq_some_iff.mp hn
      rw [← hget, List.set_getElem_self]
    · rintro k m st2 ⟨hm, hk, rfl⟩
      by_cases hE : k = xs.length
      · subst hE
        refine .inl ⟨?_, ?_⟩
        · unfold itemAt; dsimp only; rw [List.getElem?_eq_none (Nat.le_refl _)]
        · rw [List.take_length]; exact h
      · have hlt : k < xs.length := by omega
        have hnl : n < st.length := (List.getElem?_eq_some_iff.mp hn).1
        refine .inr ⟨xs[k], by unfold itemAt; dsimp only; rw [List.getElem?_eq_getElem hlt], fun st3 => st3 = st.set n (.lst (acc ++ (xs.take (k + 1)).flatMap fun d => prodL ev r ((wipeD σ (i :: r.map (·.2))).set i (some d)))), fun st3 h3 => ⟨xs.length - (k + 1), by omega, rfl, by omega, h3⟩, ?_⟩
        show compN (cksOf r) e n ((wipeD σ (avX ((iT (xC (.tup xs)), gN i, [i]) :: cksOf r))).set i (some xs[k])) _ _
        rw [ea]
        have et : (xs.take (k + 1)).flatMap (fun d => prodL ev r ((wipeD σ (i :: r.map (·.2))).set i (some d))) = (xs.take k).flatMap (fun d => prodL ev r ((wipeD σ (i :: r.map (·.2))).set i (some d))) ++ prodL ev r ((wipeD σ (i :: r.map (·.2))).set i (some xs[k])) := by
          rw [List.take_succ, List.getElem?_eq_getElem hlt, List.flatMap_append]
          simp
        have hle : ((xs.take (k + 1)).flatMap fun d => prodL ev r ((wipeD σ (i :: r.map (·.2))).set i (some d))).length ≤ (prodL ev ((xs, i) :: r) σ).length := by
          have : prodL ev ((xs, i) :: r) σ = (xs.take (k + 1)).flatMap (fun d => prodL ev r ((wipeD σ (i :: r.map (·.2))).set i (some d))) ++ (xs.drop (k + 1)).flatMap fun d => prodL ev r ((wipeD σ (i :: r.map (·.2))).set i (some d)) := by
            rw [← List.flatMap_append, List.take_append_drop]; rfl
          rw [this, List.length_append]
          omega
        refine n_prod r _ _ _ _ (hl _ (List.getElem_mem hlt)) (List.getElem?_set_self hnl) ?_ ?_
        · rw [et, List.length_append] at hle
          rw [List.length_append]
          omega
        · rw [List.set_set, et, List.append_assoc]
end
end MP

/-! Texts: str(x), sep.join(xs), a.split(b), a.find(b), a sign in a text, a text some times over, slices, f-strings. -/
namespace MP
open PySem L2
section
variable {X : Cx} {cl : CL} {W : WX}
theorem str_rv {K : PySem.W.Frag} {H : Hp} {π : List Addr} {s : Str} {v : V} (r : RV K cl H π (.str s) v) : v = .str s := by simpa only [RV] using r
theorem int_rv {K : PySem.W.Frag} {H : Hp} {π : List Addr} {i : Int} {v : V} (r : RV K cl H π (.int i) v) : v = .int i := by simpa only [RV] using r
theorem strs_rv {K : PySem.W.Frag} {H : Hp} {π : List Addr} : ∀ {ss : List Str} {vs : List V}, RVs K cl H π (ss.map D.str) vs → vs = ss.map V.str
  | [], _, h => by rw [List.map_nil] at h; rw [h.un0]; rfl
  | s :: ss, _, h => by
    rw [List.map_cons] at h
    obtain ⟨v, r, rfl, h1, h2⟩ := h.un
    rw [str_rv h1, strs_rv h2, List.map_cons]
theorem strs_rv' {K : PySem.W.Frag} {H : Hp} {π : List Addr} : ∀ ss : List Str, RVs K cl H π (ss.map D.str) (ss.map V.str)
  | [] => .nil
  | s :: ss => .cons (by simp only [RV]) (strs_rv' ss)
/-! ### str(x) -/
abbrev rStr : List V → Hp → VK → Prop := fun xs H Q => (∃ i : Int, xs = [.int i] ∧ i.natAbs.log2 < 1920 ∧ Q (.str (toString i)) H) ∨ (∃ a, xs = [.str a] ∧ Q (.str a) H)
theorem cr_str : CallR X (.type "str") rStr := fun pins s σ H xs us Q I r h => h.elim (fun h => call_str_int pins s σ H xs us Q I r h) (fun h => SkE.call_str_str pins s σ H xs us Q I r h)
def fStr : List D → Store → (D → Store → Prop) → Prop := fun ds st Q => match ds with
  | [.int i] => i.natAbs.log2 < 1920 ∧ Q (.str (toString i)) st
  | [.str a] => Q (.str a) st
  | _ => False
theorem fr_str {K : PySem.W.Frag} : FunR K cl fStr rStr := by
  intro H π st ds vs Q Q0 hs r h hq
  unfold fStr at h
  split at h
  · rename_i i
    obtain ⟨v, rfl, r1⟩ := r.one
    rw [int_rv r1]
    exact .inl ⟨i, rfl, h.1, hq.self hs (by simp only [RV]) h.2⟩
  · rename_i a
    obtain ⟨v, rfl, r1⟩ := r.one
    rw [str_rv r1]
    exact .inr ⟨a, rfl, hq.self hs (by simp only [RV]) h⟩
  · exact h.elim
/-! ### methods of a text with one argument -/
def xTm (f : Str → D → Store → (D → Store → Prop) → Prop) (xo xe : XE) : XE := fun σ st Q R => xo σ st (fun d st1 => ∃ a, d = .str a ∧ xe σ st1 (fun e st2 => f a e st2 Q) R) R
def TmR (K : PySem.W.Frag) (cl : CL) (f : Str → D → Store → (D → Store → Prop) → Prop) (r : V → List V → Hp → VK → Prop) : Prop :=
  ∀ H π st a e ve Q Q0, SR K cl H π st → RV K cl H π e ve → f a e st Q0 → QW K cl H π Q Q0 → r (.str a) [ve] H Q
theorem mp_tm {id : String} {name : Str} {apos pos : Pos} {o e : Expr} {xo xe : XE} {f : Str → D → Store → (D → Store → Prop) → Prop} {r : V → List V → Hp → VK → Prop} (slot : PySem.Slot "str" name id) (ty : typeOf (.builtin id) = pure (.type "method_descriptor")) (rule : MtR X id r) (hr : TmR X.K cl f r)
    (ho : PE X o (LE X.K cl W xo)) (he : PE X e (LE X.K cl W xe)) (hs : starEach [e] X.env = [(false, eval e X.env)] := by rfl) (hbase : attributeBase o name X.env (eval o X.env) = eval o X.env := by rfl) (hline : (apos.endLine == pos.line) = true := by rfl) :
    PE X (.Call (.Attribute o name apos) [e] [] pos) (LE X.K cl W (xTm f xo xe)) := by
  refine imE (pe_m1 slot ty rule ho he hs hbase hline) fun σV H Q ⟨π, σ, st, Q0, R0, hs, he, hx, hq, hw⟩ => ?_
  refine ⟨π, σ, st, _, R0, hs, he, hx, fun d st1 H1 π1 v ⟨a, ea, h1⟩ e1 s1 r1 => ?_, hw⟩
  subst ea
  obtain rfl := str_rv r1
  refine ⟨⟨a, rfl⟩, π1, σ, st1, _, R0, s1, he.ext e1, h1, fun d2 st2 H2 π2 v2 h2 e2 s2 r2 => ?_, hw.ext e1⟩
  exact hr H2 π2 st2 a d2 v2 Q Q0 s2 r2 h2 (hq.ext (e1.trans e2))
/-- sep.join(xs) -/
def fJoin : Str → D → Store → (D → Store → Prop) → Prop := fun a e st Q => ∃ (n : Nat) (ys : List Str), e = .ref n ∧ itemsOf st n = some (ys.map D.str) ∧ (ys.map (·.length)).sum + ys.length * a.length ≤ 16777216 ∧ Q (.str (Txt.join a ys)) st
theorem tr_join : TmR X.K cl fJoin (fun x xs H Q => ∃ a p, ∃ ys : List Str, x = .str a ∧ xs = [.ref p] ∧ (SqL X.K H p (ys.map V.str) ∨ SqT X.K H p (ys.map V.str)) ∧ (ys.map (·.length)).sum + ys.length * a.length ≤ 16777216 ∧ Q (.str (Txt.join a ys)) H) := by
  intro H π st a e ve Q Q0 hs r h hq
  obtain ⟨n, ys, rfl, e1, hl, q⟩ := h
  simp only [RV] at r
  obtain ⟨p, rfl, hp⟩ := r
  obtain ⟨b, vs, q1, q2, q3⟩ := hs.seq e1
  rw [hp] at q1; cases q1
  rw [strs_rv q3] at q2
  exact ⟨a, p, ys, rfl, rfl, .inl q2, hl, hq.self hs (by simp only [RV]) q⟩
/-- a.split(b) -/
def fSplit : Str → D → Store → (D → Store → Prop) → Prop := fun a e st Q => ∃ b : Str, e = .str b ∧ (b.length == 0) = false ∧ a.length + 2 ≤ sizeLine ∧ Q (.ref st.length) (st ++ [.lst ((Txt.split a b).map D.str)])
theorem tr_split : TmR X.K cl fSplit (fun x xs H Q => ∃ a b, x = .str a ∧ xs = [.str b] ∧ (b.length == 0) = false ∧ a.length + 2 ≤ sizeLine ∧ rNewStrs (Txt.split a b) H Q) := by
  intro H π st a e ve Q Q0 hs r h hq
  obtain ⟨b, rfl, h1, h2, q⟩ := h
  obtain rfl := str_rv r
  refine ⟨a, b, rfl, rfl, h1, h2, fun p hp => ?_⟩
  exact hq _ _ _ (π ++ [p]) _ q (Ext.new hp [p]) (hs.push hp (strs_rv' _)) (by simp only [RV]; exact ⟨p, rfl, last_ref hs⟩)
/-- a.find(b) -/
def fFind : Str → D → Store → (D → Store → Prop) → Prop := fun a e st Q => ∃ b : Str, e = .str b ∧ Q (.int (Txt.find a b)) st
theorem tr_find : TmR X.K cl fFind (fun x xs H Q => ∃ a b, x = .str a ∧ xs = [.str b] ∧ Q (.int (Txt.find a b)) H) := by
  intro H π st a e ve Q Q0 hs r h hq
  obtain ⟨b, rfl, q⟩ := h
  obtain rfl := str_rv r
  exact ⟨a, b, rfl, rfl, hq.self hs (by simp only [RV]) q⟩
/-! ### a sign in a text; a text some times over -/
def dInS : XO2 := fun x y st Q => ∃ (c : Nat) (z : Str), x = .str ⟨#[c]⟩ ∧ y = .str z ∧ Q (.bl (decide (c ∈ z.cps.toList))) st
theorem o2_inS {K : PySem.W.Frag} : Op2 K cl dInS (fun x y H Q => ∃ (c : Nat) (z : Str), x = .str ⟨#[c]⟩ ∧ y = .str z ∧ Q (.bl (decide (c ∈ z.cps.toList))) H) := by
  intro H π st x y vx vy Q Q0 hs rx ry h hq
  obtain ⟨c, z, rfl, rfl, q⟩ := h
  exact ⟨c, z, str_rv rx, str_rv ry, hq.self hs (by simp only [RV]) q⟩
/-- a text n times over -/
def timesS (x : Str) (n : Int) : Str := if n < 1 then Str.empty else if (n == 1 || x.length == 0) = true then x else ⟨(List.replicate n.toNat x.cps).foldl (· ++ ·) #[]⟩
abbrev rMulS : R2 := fun x y H Q => ∃ (a : Str) (n : Int), x = .str a ∧ y = .int n ∧ 0 ≤ n ∧ n < 100000 ∧ a.length ≤ 100 ∧ (timesS a n).length ≤ sizeLine ∧ Q (.str (timesS a n)) H
theorem op_mulS : OpR X (binaryOp .Mult) rMulS := by
  intro pins s σ H x y v u Q I rx ry h
  obtain ⟨a, n, rfl, rfl, h0, h1, h2, h3, q⟩ := h
  obtain ⟨t, rfl⟩ := rx
  obtain ⟨t', rfl⟩ := ry
  refine PySem.P.mul_str ?_ (fun k1 _ => ?_) (fun k1 _ => ?_) ?_
  · rw [decide_eq_false (by omega), decide_eq_false (by omega)]; rfl
  · have g : (100 : Int) ≤ (2 ^ 63 - 1) / n := by
      rw [Int.le_ediv_iff_mul_le (by omega)]
      omega
    omega
  · have : a.length * n.toNat ≤ 100 * 100000 := Nat.mul_le_mul h2 (by omega)
    refine decide_eq_false ?_
    show ¬ a.length * n.toNat > 16777216
    omega
  · unfold timesS at q h3
    by_cases k1 : n < 1
    · rw [if_pos k1] at q h3 ⊢
      exact ⟨h3, .str _, H, I.tok _, ⟨_, rfl⟩, q⟩
    · rw [if_neg k1] at q h3 ⊢
      by_cases k2 : (n == 1 || a.length == 0) = true
      · rw [if_pos k2] at q h3 ⊢
        exact ⟨.str a, H, I, ⟨t, rfl⟩, q⟩
      · rw [if_neg k2] at q h3 ⊢
        exact ⟨h3, .str _, H, I.tok _, ⟨_, rfl⟩, q⟩
def dMulS : XO2 := fun x y st Q => ∃ (a : Str) (n : Int), x = .str a ∧ y = .int n ∧ 0 ≤ n ∧ n < 100000 ∧ a.length ≤ 100 ∧ (timesS a n).length ≤ sizeLine ∧ Q (.str (timesS a n)) st
theorem o2_mulS {K : PySem.W.Frag} : Op2 K cl dMulS rMulS := by
  intro H π st x y vx vy Q Q0 hs rx ry h hq
  obtain ⟨a, n, rfl, rfl, h0, h1, h2, h3, q⟩ := h
  exact ⟨a, n, str_rv rx, int_rv ry, h0, h1, h2, h3, hq.self hs (by simp only [RV]) q⟩
/-! ### slices of a text, its length -/
def xSlS (x : XE) (l h : XO) : XE := fun σ st Q R => x σ st (fun d st1 => l σ st1 (fun lo st2 => h σ st2 (fun hi st3 => ∃ z : Str, d = .str z ∧ z.length ≤ sizeLine ∧ Q (.str (cutS z lo hi)) st3) R) R) R
theorem mp_slS {e : Expr} {lo hi : Option Expr} {p2 pos : Pos} {x : XE} {l h : XO} (he : PE X e (LE X.K cl W x)) (hl : PO X lo (LO X.K cl W l)) (hh : PO X hi (LO X.K cl W h)) :
    PE X (.Subscript e (.Slice lo hi none p2) pos) (LE X.K cl W (xSlS x l h)) := by
  refine imE (pe_slice sl_str he hl hh) fun σV H Q ⟨π, σ, st, Q0, R0, hs, he, hx, hq, hw⟩ => ?_
  refine ⟨π, σ, st, _, R0, hs, he, hx, fun d st1 H1 π1 v h1 e1 s1 r1 => ?_, hw⟩
  refine ⟨π1, σ, st1, _, R0, s1, he.ext e1, h1, fun o1 st2 H2 π2 h2 e2 s2 => ?_, hw.ext e1⟩
  refine ⟨π2, σ, st2, _, R0, s2, (he.ext e1).ext e2, h2, fun o2 st3 H3 π3 ⟨z, ez, hz, h3⟩ e3 s3 => ?_, (hw.ext e1).ext e2⟩
  subst ez
  obtain rfl := str_rv r1
  exact ⟨z, rfl, hz, hq _ _ _ π3 _ h3 ((e1.trans e2).trans e3) s3 (by simp only [RV])⟩
def fLenS : List D → Store → (D → Store → Prop) → Prop := fun ds st Q => ∃ z : Str, ds = [.str z] ∧ z.length ≤ sizeLine ∧ Q (.int z.length) st
theorem fr_lenS {K : PySem.W.Frag} : FunR K cl fLenS (fun xs H Q => ∃ z, xs = [.str z] ∧ z.length ≤ sizeLine ∧ Q (.int z.length) H) := by
  intro H π st ds vs Q Q0 hs r h hq
  obtain ⟨z, rfl, hz, q⟩ := h
  obtain ⟨v, rfl, r1⟩ := r.one
  rw [str_rv r1]
  exact ⟨z, rfl, hz, hq.self hs (by simp only [RV]) q⟩
theorem gc_str {K : PySem.W.Frag} {mg : Str → Option Value} {x : Str} {i : Str} {t : Tok} (h : mg x = some (.str i t)) : GC K cl mg x (.str i) := ⟨.str i, _, h, ⟨t, rfl⟩, fun _ _ => by simp only [RV]⟩
/-! ### f-strings -/
def fmtF (d : D) (st : Store) (Q : D → Store → Prop) : Prop := match d with
  | .str y => y.length ≤ sizeLine ∧ Q (.str y) st
  | .int i => i.natAbs.log2 < 1920 ∧ Q (.str (toString i)) st
  | _ => False
def xFmt (x : XE) : XE := fun σ st Q R => x σ st (fun d st1 => fmtF d st1 Q) R
theorem mp_fmt {e : Expr} {pos : Pos} {x : XE} (he : PE X e (LE X.K cl W x)) : PE X (.FormattedValue e (-1) none pos) (LE X.K cl W (xFmt x)) := by
  refine imE (pe_fmt he) fun σV H Q ⟨π, σ, st, Q0, R0, hs, he, hx, hq, hw⟩ => ?_
  refine ⟨π, σ, st, _, R0, hs, he, hx, fun d st1 H1 π1 v h1 e1 s1 r1 => ?_, hw⟩
  cases d with
  | str y => obtain rfl := str_rv r1; exact .inl ⟨y, rfl, h1.1, hq _ st1 H1 π1 _ h1.2 e1 s1 (by simp only [RV])⟩
  | int i => obtain rfl := int_rv r1; exact .inr ⟨i, rfl, h1.1, hq _ st1 H1 π1 _ h1.2 e1 s1 (by simp only [RV])⟩
  | _ => exact h1.elim
def xJs : List XE → Str → Env → Store → (Str → Store → Prop) → XR → Prop
  | [], acc, _, st, Q, _ => Q acc st
  | x :: xs, acc, σ, st, Q, R => x σ st (fun d st1 => ∃ y : Str, d = .str y ∧ (acc ++ y).length ≤ sizeLine ∧ xJs xs (acc ++ y) σ st1 Q R) R
def xFs (xs : List XE) : XE := fun σ st Q R => xJs xs Str.empty σ st (fun out st1 => Q (.str out) st1) R
inductive MJs (X : Cx) (cl : CL) (W : WX) : List Expr → List XE → Prop where
  | nil : MJs X cl W [] []
  | cons {e : Expr} {x : XE} {es : List Expr} {xs : List XE} : PE X e (LE X.K cl W x) → MJs X cl W es xs → MJs X cl W (e :: es) (x :: xs)
theorem MJs.pj {es : List Expr} {xs : List XE} (h : MJs X cl W es xs) : PJ X es (xs.map (LE X.K cl W)) := by
  induction h with
  | nil => exact .nil
  | cons h _ ih => exact .cons h ih
theorem js_imp {K : PySem.W.Frag} : ∀ (xs : List XE) (acc : Str) (σV : St) (H : Hp) (Q : Str → Hp → Prop) (π : List Addr) (σ : Env) (st : Store) (Q0 : Str → Store → Prop) (R0 : XR), SR K cl H π st → ER K cl H π σ σV → xJs xs acc σ st Q0 R0 →
    (∀ out st' H' π', Q0 out st' → Ext K cl H π H' π' → SR K cl H' π' st' → Q out H') → RW K cl W σV H π R0 → tJs (xs.map (LE K cl W)) acc σV H Q
  | [], acc, σV, H, Q, π, σ, st, Q0, R0, hs, _, hx, hq, _ => hq acc st H π hx Ext.refl hs
  | x :: xs, acc, σV, H, Q, π, σ, st, Q0, R0, hs, he, hx, hq, hw => by
    refine ⟨π, σ, st, _, R0, hs, he, hx, fun d st1 H1 π1 v ⟨y, ey, hl, h1⟩ e1 s1 r1 => ?_, hw⟩
    subst ey
    obtain rfl := str_rv r1
    exact ⟨y, rfl, hl, js_imp xs (acc ++ y) σV H1 Q π1 σ st1 Q0 R0 s1 (he.ext e1) h1 (fun out st' H' π' q e s => hq out st' H' π' q (e1.trans e) s) (hw.ext e1)⟩
theorem mp_fs {v1 v2 : Expr} {rest : List Expr} {xs : List XE} {pos : Pos} (h : MJs X cl W (v1 :: v2 :: rest) xs) : PE X (.JoinedStr (v1 :: v2 :: rest) pos) (LE X.K cl W (xFs xs)) := by
  refine imE (pe_joined h.pj) fun σV H Q ⟨π, σ, st, Q0, R0, hs, he, hx, hq, hw⟩ => ?_
  exact js_imp xs Str.empty σV H _ π σ st _ R0 hs he hx (fun out st' H' π' q e s => hq _ st' H' π' _ q e s (by simp only [RV])) hw
end
end MP

namespace MP
open PySem L2
/-! ### the text by places -/
def top (i : Nat) : Stmt := PySem.Challenge.pw_matchboards_k14_whole_texts.main.body.getD i (.Pass ⟨0, 0, 0, 0⟩)
abbrev c_POINTS : D := (.tup [(.int 2), (.int 3), (.int 4)])
abbrev c_LEADS : D := (.tup [(.str "one"), (.str "two"), (.str "cap")])
abbrev c_GAMES : D := (.tup [(.int 1), (.int 2), (.int 3)])
abbrev c_DECIDERS : D := (.tup [(.str "same"), (.str "longer")])
abbrev c_SERVES : D := (.tup [(.str "games"), (.str "twos"), (.str "winner"), (.str "only")])
abbrev c_RALLIES : D := (.tup [(.int 0), (.int 1)])
abbrev c_LONGEST_ROW : D := (.int 60)
abbrev c_DIGITS : D := (.str "012345")
def sub_BadBoards : Nat → Bool := fun k => match k with | 0 => false | 1 => false | 2 => true | 3 => false | 4 => false | _ => false
def sub_BadNumber : Nat → Bool := fun k => match k with | 0 => false | 1 => false | 2 => false | 3 => true | 4 => false | _ => false
def sub_BadRally : Nat → Bool := fun k => match k with | 0 => false | 1 => true | 2 => false | 3 => false | 4 => false | _ => false
def sub_BadRule : Nat → Bool := fun k => match k with | 0 => true | 1 => false | 2 => false | 3 => false | 4 => false | _ => false
def sub_BadText : Nat → Bool := fun k => match k with | 0 => false | 1 => false | 2 => false | 3 => false | 4 => true | _ => false
def sub_MatchError : Nat → Bool := fun k => match k with | 0 => true | 1 => true | 2 => true | 3 => true | 4 => true | _ => true
def sub_NotFound : Nat → Bool := fun k => match k with | 0 => false | 1 => false | 2 => false | 3 => false | 4 => false | _ => true
def sub_ValueError : Nat → Bool := fun k => match k with | 0 => true | 1 => true | 2 => true | 3 => true | 4 => true | _ => true
abbrev s_is_number_of : Stmt := top 16
abbrev N_is_number_of : List Str := ["value", "allowed"]
theorem nd_is_number_of : (N_is_number_of).Nodup := by decide +kernel
theorem sc_is_number_of : FnScope N_is_number_of ["value", "allowed"] (defScope s_is_number_of) := ⟨rfl, rfl, rfl, by decide +kernel, rfl, by decide +kernel, by decide +kernel⟩
def b_is_number_of : XS := (sRet (xAnd (xIsi "int" (xVar 0)) (xAnd (xNot (xIsi "bool" (xVar 0))) (xBin (dIn false) (xVar 0) (xVar 1)))))
abbrev F_is_number_of : XF := defX b_is_number_of 2 2
abbrev s_is_word_of : Stmt := top 17
abbrev N_is_word_of : List Str := ["value", "allowed"]
theorem nd_is_word_of : (N_is_word_of).Nodup := by decide +kernel
theorem sc_is_word_of : FnScope N_is_word_of ["value", "allowed"] (defScope s_is_word_of) := ⟨rfl, rfl, rfl, by decide +kernel, rfl, by decide +kernel, by decide +kernel⟩
def b_is_word_of : XS := (sRet (xAnd (xIsi "str" (xVar 0)) (xBin (dIn false) (xVar 0) (xVar 1))))
abbrev F_is_word_of : XF := defX b_is_word_of 2 2
abbrev s_is_rule : Stmt := top 18
abbrev N_is_rule : List Str := ["value", "points", "lead", "games", "decider", "serve"]
theorem nd_is_rule : (N_is_rule).Nodup := by decide +kernel
theorem sc_is_rule : FnScope N_is_rule ["value"] (defScope s_is_rule) := ⟨rfl, rfl, rfl, by decide +kernel, rfl, by decide +kernel, by decide +kernel⟩
def b_is_rule : XS := (sSeq (sIf (tOrX (tNotX (xTru (xIsi "tuple" (xVar 0)))) (xB (xBin dNe (xFun fLen (aCons (xVar 0) aNil)) (xC (.int 5))))) (sRet (xC (.bl false))) sPass) (sSeq (sAsg (xVar 0) (gT 5 (gsCons (gN 1) (gsCons (gN 2) (gsCons (gN 3) (gsCons (gN 4) (gsCons (gN 5) gsNil))))))) (sRet (xAnd (xCall F_is_number_of (aCons (xVar 1) (aCons (xC c_POINTS) aNil))) (xAnd (xCall F_is_word_of (aCons (xVar 2) (aCons (xC c_LEADS) aNil))) (xAnd (xCall F_is_number_of (aCons (xVar 3) (aCons (xC c_GAMES) aNil))) (xAnd (xCall F_is_word_of (aCons (xVar 4) (aCons (xC c_DECIDERS) aNil))) (xCall F_is_word_of (aCons (xVar 5) (aCons (xC c_SERVES) aNil))))))))))
abbrev F_is_rule : XF := defX b_is_rule 6 1
abbrev s_is_rally : Stmt := top 19
abbrev N_is_rally : List Str := ["value"]
theorem nd_is_rally : (N_is_rally).Nodup := by decide +kernel
theorem sc_is_rally : FnScope N_is_rally ["value"] (defScope s_is_rally) := ⟨rfl, rfl, rfl, by decide +kernel, rfl, by decide +kernel, by decide +kernel⟩
def b_is_rally : XS := (sRet (xCall F_is_number_of (aCons (xVar 0) (aCons (xC c_RALLIES) aNil))))
abbrev F_is_rally : XF := defX b_is_rally 1 1
abbrev s_is_row : Stmt := top 20
abbrev N_is_row : List Str := ["value", "rally"]
theorem nd_is_row : (N_is_row).Nodup := by decide +kernel
theorem sc_is_row : FnScope N_is_row ["value"] (defScope s_is_row) := ⟨rfl, rfl, rfl, by decide +kernel, rfl, by decide +kernel, by decide +kernel⟩
def b_is_row : XS := (sSeq (sIf (tOrX (tNotX (xTru (xIsi "list" (xVar 0)))) (xB (xBin dGt (xFun fLen (aCons (xVar 0) aNil)) (xC c_LONGEST_ROW)))) (sRet (xC (.bl false))) sPass) (sRet (xFun fAll (aCons (xComp (iL (xVar 0)) [1] (gN 1) tYesX (xCall F_is_rally (aCons (xVar 1) aNil))) aNil))))
abbrev F_is_row : XF := defX b_is_row 2 1
abbrev s_all_rules : Stmt := top 21
abbrev N_all_rules : List Str := ["points", "lead", "games", "decider", "serve"]
theorem nd_all_rules : (N_all_rules).Nodup := by decide +kernel
theorem sc_all_rules : FnScope N_all_rules [] (defScope s_all_rules) := ⟨rfl, rfl, rfl, by decide +kernel, rfl, by decide +kernel, by decide +kernel⟩
def b_all_rules : XS := (sRet (xCompN (iT (xC c_POINTS)) [0, 1, 2, 3, 4] (gN 0) [((iT (xC c_LEADS)), (gN 1), [1]), ((iT (xC c_GAMES)), (gN 2), [2]), ((iT (xC c_DECIDERS)), (gN 3), [3]), ((iT (xC c_SERVES)), (gN 4), [4])] (xTup (aCons (xVar 0) (aCons (xVar 1) (aCons (xVar 2) (aCons (xVar 3) (aCons (xVar 4) aNil))))))))
abbrev F_all_rules : XF := defX b_all_rules 5 0
abbrev s_check_rule : Stmt := top 23
abbrev N_check_rule : List Str := ["value"]
theorem nd_check_rule : (N_check_rule).Nodup := by decide +kernel
theorem sc_check_rule : FnScope N_check_rule ["value"] (defScope s_check_rule) := ⟨rfl, rfl, rfl, by decide +kernel, rfl, by decide +kernel, by decide +kernel⟩
def b_check_rule : XS := (sIf (tNotX (xTru (xCall F_is_rule (aCons (xVar 0) aNil)))) (sRaise 0) sPass)
abbrev F_check_rule : XF := defX b_check_rule 1 1
abbrev s_check_row : Stmt := top 24
abbrev N_check_row : List Str := ["value"]
theorem nd_check_row : (N_check_row).Nodup := by decide +kernel
theorem sc_check_row : FnScope N_check_row ["value"] (defScope s_check_row) := ⟨rfl, rfl, rfl, by decide +kernel, rfl, by decide +kernel, by decide +kernel⟩
def b_check_row : XS := (sIf (tNotX (xTru (xCall F_is_row (aCons (xVar 0) aNil)))) (sRaise 1) sPass)
abbrev F_check_row : XF := defX b_check_row 1 1
abbrev s_format_rule : Stmt := top 27
abbrev N_format_rule : List Str := ["rule", "item"]
theorem nd_format_rule : (N_format_rule).Nodup := by decide +kernel
theorem sc_format_rule : FnScope N_format_rule ["rule"] (defScope s_format_rule) := ⟨rfl, rfl, rfl, by decide +kernel, rfl, by decide +kernel, by decide +kernel⟩
def b_format_rule : XS := (sSeq (sExpr (xCall F_check_rule (aCons (xVar 0) aNil))) (sRet (xTm fJoin (xC (.str " ")) (xComp (iT (xVar 0)) [1] (gN 1) tYesX (xFun fStr (aCons (xVar 1) aNil))))))
abbrev F_format_rule : XF := defX b_format_rule 2 1
abbrev s_format_row : Stmt := top 28
abbrev N_format_row : List Str := ["row", "rally"]
theorem nd_format_row : (N_format_row).Nodup := by decide +kernel
theorem sc_format_row : FnScope N_format_row ["row"] (defScope s_format_row) := ⟨rfl, rfl, rfl, by decide +kernel, rfl, by decide +kernel, by decide +kernel⟩
def b_format_row : XS := (sSeq (sExpr (xCall F_check_row (aCons (xVar 0) aNil))) (sRet (xTm fJoin (xC (.str "")) (xComp (iL (xVar 0)) [1] (gN 1) tYesX (xFun fStr (aCons (xVar 1) aNil))))))
abbrev F_format_row : XF := defX b_format_row 2 1
abbrev s_check_text : Stmt := top 32
abbrev N_check_text : List Str := ["value"]
theorem nd_check_text : (N_check_text).Nodup := by decide +kernel
theorem sc_check_text : FnScope N_check_text ["value"] (defScope s_check_text) := ⟨rfl, rfl, rfl, by decide +kernel, rfl, by decide +kernel, by decide +kernel⟩
def b_check_text : XS := (sIf (tNotX (xTru (xIsi "str" (xVar 0)))) (sRaise 4) sPass)
abbrev F_check_text : XF := defX b_check_text 1 1
abbrev s_parse_rule : Stmt := top 29
abbrev N_parse_rule : List Str := ["text", "rule"]
theorem nd_parse_rule : (N_parse_rule).Nodup := by decide +kernel
theorem sc_parse_rule : FnScope N_parse_rule ["text"] (defScope s_parse_rule) := ⟨rfl, rfl, rfl, by decide +kernel, rfl, by decide +kernel, by decide +kernel⟩
def b_parse_rule : XS := (sSeq (sExpr (xCall F_check_text (aCons (xVar 0) aNil))) (sSeq (sFor (iL (xCall F_all_rules aNil)) (gN 1) (sIf (xB (xBin dEq (xCall F_format_rule (aCons (xVar 1) aNil)) (xVar 0))) (sRet (xVar 1)) sPass)) (sRaise 4)))
abbrev F_parse_rule : XF := defX b_parse_rule 2 1
abbrev s_numbers_in : Stmt := top 31
abbrev N_numbers_in : List Str := ["text", "mark"]
theorem nd_numbers_in : (N_numbers_in).Nodup := by decide +kernel
theorem sc_numbers_in : FnScope N_numbers_in ["text"] (defScope s_numbers_in) := ⟨rfl, rfl, rfl, by decide +kernel, rfl, by decide +kernel, by decide +kernel⟩
def b_numbers_in : XS := (sRet (xComp (iS (xVar 0)) [1] (gN 1) (xB (xBin dInS (xVar 1) (xC c_DIGITS))) (xTm fFind (xC c_DIGITS) (xVar 1))))
abbrev F_numbers_in : XF := defX b_numbers_in 2 1
abbrev s_parse_row : Stmt := top 30
abbrev N_parse_row : List Str := ["text", "row"]
theorem nd_parse_row : (N_parse_row).Nodup := by decide +kernel
theorem sc_parse_row : FnScope N_parse_row ["text"] (defScope s_parse_row) := ⟨rfl, rfl, rfl, by decide +kernel, rfl, by decide +kernel, by decide +kernel⟩
def b_parse_row : XS := (sSeq (sExpr (xCall F_check_text (aCons (xVar 0) aNil))) (sSeq (sSet 1 (xCall F_numbers_in (aCons (xVar 0) aNil))) (sSeq (sIf (tOrX (tNotX (xTru (xCall F_is_row (aCons (xVar 1) aNil)))) (xB (xBin dNe (xCall F_format_row (aCons (xVar 1) aNil)) (xVar 0)))) (sRaise 4) sPass) (sRet (xVar 1)))))
abbrev F_parse_row : XF := defX b_parse_row 2 1
abbrev s_law_start : Stmt := top 34
abbrev N_law_start : List Str := ["_law_script"]
theorem nd_law_start : (N_law_start).Nodup := by decide +kernel
theorem sc_law_start : FnScope N_law_start ["_law_script"] (defScope s_law_start) := ⟨rfl, rfl, rfl, by decide +kernel, rfl, by decide +kernel, by decide +kernel⟩
def b_law_start : XS := (sRet (xLst (aCons (xIf (xB (xBin dNe (xVar 0) (xLst aNil))) (xFun fList (aCons (xVar 0) aNil)) (xLst (aCons (xC (.int 0)) aNil))) (aCons (xC (.int 0)) aNil))))
abbrev F_law_start : XF := defX b_law_start 1 1
abbrev s_law_draw : Stmt := top 35
abbrev N_law_draw : List Str := ["_law_draws", "_law_limit", "_law_numbers", "_law_at", "_law_cell", "_law_mixed"]
theorem nd_law_draw : (N_law_draw).Nodup := by decide +kernel
theorem sc_law_draw : FnScope N_law_draw ["_law_draws", "_law_limit"] (defScope s_law_draw) := ⟨rfl, rfl, rfl, by decide +kernel, rfl, by decide +kernel, by decide +kernel⟩
def b_law_draw : XS := (sSeq (sSet 2 (xBin dIdx (xVar 0) (xC (.int 0)))) (sSeq (sPut (xVar 0) (xC (.int 1)) (xBin dAdd (xBin dIdx (xVar 0) (xC (.int 1))) (xC (.int 1)))) (sSeq (sSet 3 (xBin dMod (xBin dIdx (xVar 0) (xC (.int 1))) (xFun fLen (aCons (xVar 2) aNil)))) (sSeq (sSet 4 (xBin dIdx (xVar 2) (xVar 3))) (sSeq (sIf (xB (xBin dGe (xVar 4) (xC (.int 1000000000000000000)))) (sSeq (sPut (xVar 2) (xVar 3) (xBin dFdiv (xVar 4) (xVar 1))) (sRet (xBin dMod (xVar 4) (xVar 1)))) sPass) (sSeq (sSet 5 (xBin dMod (xBin dAdd (xVar 4) (xBin dMul (xC (.int 104729)) (xBin dIdx (xVar 0) (xC (.int 1))))) (xC (.int 4294967291)))) (sSeq (sSet 5 (xBin dMod (xBin dPow (xVar 5) (xC (.int 5))) (xC (.int 4294967279)))) (sRet (xBin dMod (xBin dFdiv (xBin dMod (xBin dAdd (xBin dMul (xBin dFdiv (xVar 5) (xC (.int 64))) (xC (.int 69621))) (xVar 5)) (xC (.int 4294967231))) (xC (.int 8))) (xVar 1))))))))))
abbrev F_law_draw : XF := defX b_law_draw 6 2
abbrev s_law_pick : Stmt := top 36
abbrev N_law_pick : List Str := ["_law_draws", "_law_choices"]
theorem nd_law_pick : (N_law_pick).Nodup := by decide +kernel
theorem sc_law_pick : FnScope N_law_pick ["_law_draws", "_law_choices"] (defScope s_law_pick) := ⟨rfl, rfl, rfl, by decide +kernel, rfl, by decide +kernel, by decide +kernel⟩
def b_law_pick : XS := (sRet (xBin dIdx (xVar 1) (xCall F_law_draw (aCons (xVar 0) (aCons (xFun fLen (aCons (xVar 1) aNil)) aNil)))))
abbrev F_law_pick : XF := defX b_law_pick 2 2
abbrev s_law_error : Stmt := top 37
abbrev N_law_error : List Str := ["_law_caught", "_law_kinds"]
theorem nd_law_error : (N_law_error).Nodup := by decide +kernel
theorem sc_law_error : FnScope N_law_error ["_law_caught"] (defScope s_law_error) := ⟨rfl, rfl, rfl, by decide +kernel, rfl, by decide +kernel, by decide +kernel⟩
def b_law_error : XS := (sSeq (sSet 1 (xLst (aCons (xIsx sub_BadRule (xVar 0)) (aCons (xIsx sub_BadRally (xVar 0)) (aCons (xIsx sub_BadBoards (xVar 0)) aNil))))) (sSeq (sSet 1 (xBin dAdd (xVar 1) (xLst (aCons (xIsx sub_BadNumber (xVar 0)) (aCons (xIsx sub_BadText (xVar 0)) (aCons (xIsx sub_NotFound (xVar 0)) aNil)))))) (sSeq (sIf (tOrX (xB (xBin dNe (xMeth fCount (xVar 1) (aCons (xC (.bl true)) aNil)) (xC (.int 1)))) (tOrX (tNotX (xTru (xIsx sub_MatchError (xVar 0)))) (tNotX (xTru (xIsx sub_ValueError (xVar 0)))))) (sRet (xC (.str "odd"))) sPass) (sRet (xBin dIdx (xLst (aCons (xC (.str "rule")) (aCons (xC (.str "rally")) (aCons (xC (.str "boards")) (aCons (xC (.str "number")) (aCons (xC (.str "text")) (aCons (xC (.str "none")) aNil))))))) (xMeth fIndex (xVar 1) (aCons (xC (.bl true)) aNil)))))))
abbrev F_law_error : XF := defX b_law_error 2 1
abbrev s_law_rule : Stmt := top 38
abbrev N_law_rule : List Str := ["_law_draws", "_law_lead", "_law_serve"]
theorem nd_law_rule : (N_law_rule).Nodup := by decide +kernel
theorem sc_law_rule : FnScope N_law_rule ["_law_draws"] (defScope s_law_rule) := ⟨rfl, rfl, rfl, by decide +kernel, rfl, by decide +kernel, by decide +kernel⟩
def b_law_rule : XS := (sSeq (sPar 1 2 (aCons (xCall F_law_pick (aCons (xVar 0) (aCons (xLst (aCons (xC (.str "one")) (aCons (xC (.str "two")) (aCons (xC (.str "cap")) aNil)))) aNil))) (aCons (xCall F_law_pick (aCons (xVar 0) (aCons (xLst (aCons (xC (.str "games")) (aCons (xC (.str "twos")) (aCons (xC (.str "winner")) (aCons (xC (.str "only")) aNil))))) aNil))) aNil))) (sRet (xTup (aCons (xBin dAdd (xC (.int 2)) (xCall F_law_draw (aCons (xVar 0) (aCons (xC (.int 3)) aNil)))) (aCons (xVar 1) (aCons (xBin dAdd (xC (.int 1)) (xCall F_law_draw (aCons (xVar 0) (aCons (xC (.int 3)) aNil)))) (aCons (xCall F_law_pick (aCons (xVar 0) (aCons (xLst (aCons (xC (.str "same")) (aCons (xC (.str "longer")) aNil))) aNil))) (aCons (xVar 2) aNil))))))))
abbrev F_law_rule : XF := defX b_law_rule 3 1
abbrev s_law_row : Stmt := top 39
abbrev N_law_row : List Str := ["_law_draws", "_law_longest", "_law_found", "_law_most"]
theorem nd_law_row : (N_law_row).Nodup := by decide +kernel
theorem sc_law_row : FnScope N_law_row ["_law_draws", "_law_longest"] (defScope s_law_row) := ⟨rfl, rfl, rfl, by decide +kernel, rfl, by decide +kernel, by decide +kernel⟩
def b_law_row : XS := (sSeq (sSet 2 (xLst aNil)) (sSeq (sSet 3 (xCall F_law_draw (aCons (xVar 0) (aCons (xBin dAdd (xVar 1) (xC (.int 1))) aNil)))) (sSeq (sWhile (xB (xBin dLt (xFun fLen (aCons (xVar 2) aNil)) (xVar 3))) (sSet 2 (xBin dAdd (xVar 2) (xBin dMul (xLst (aCons (xCall F_law_draw (aCons (xVar 0) (aCons (xC (.int 2)) aNil))) aNil)) (xCall F_law_pick (aCons (xVar 0) (aCons (xLst (aCons (xC (.int 1)) (aCons (xC (.int 1)) (aCons (xC (.int 2)) (aCons (xC (.int 3)) aNil))))) aNil))))))) (sRet (xSl (xVar 2) oNone (oSome (xVar 3)))))))
abbrev F_law_row : XF := defX b_law_row 4 2
abbrev s_law_parsed : Stmt := top 40
abbrev N_law_parsed : List Str := ["_law_kind", "_law_text", "_law_found", "_law_caught", "e"]
theorem nd_law_parsed : (N_law_parsed).Nodup := by decide +kernel
theorem sc_law_parsed : FnScope N_law_parsed ["_law_kind", "_law_text"] (defScope s_law_parsed) := ⟨rfl, rfl, rfl, by decide +kernel, rfl, by decide +kernel, by decide +kernel⟩
def b_law_parsed : XS := (sSeq (sSet 2 (xC .non)) (sSeq (sSet 3 (xC .non)) (sSeq (sTry sub_MatchError 4 (sSet 2 (xIf (xB (xBin dEq (xVar 0) (xC (.int 0)))) (xCall F_parse_rule (aCons (xVar 1) aNil)) (xCall F_parse_row (aCons (xVar 1) aNil)))) (sSet 3 (xVar 4))) (sRet (xIf (xB (xBin (dIs false) (xVar 3) (xC .non))) (xVar 2) (xCall F_law_error (aCons (xVar 3) aNil)))))))
abbrev F_law_parsed : XF := defX b_law_parsed 5 2
abbrev s_law_words : Stmt := top 41
abbrev N_law_words : List Str := ["_law_kind", "_law_thing", "_law_one"]
theorem nd_law_words : (N_law_words).Nodup := by decide +kernel
theorem sc_law_words : FnScope N_law_words ["_law_kind", "_law_thing"] (defScope s_law_words) := ⟨rfl, rfl, rfl, by decide +kernel, rfl, by decide +kernel, by decide +kernel⟩
def b_law_words : XS := (sRet (xIf (xB (xBin dEq (xVar 0) (xC (.int 0)))) (xTm fJoin (xC (.str " ")) (xComp (iT (xVar 1)) [2] (gN 2) tYesX (xFun fStr (aCons (xVar 2) aNil)))) (xTm fJoin (xC (.str "")) (xComp (iL (xVar 1)) [2] (gN 2) tYesX (xFun fStr (aCons (xVar 2) aNil))))))
abbrev F_law_words : XF := defX b_law_words 3 2
abbrev s_law_rejected : Stmt := top 42
abbrev N_law_rejected : List Str := ["_law_odd", "_law_lone", "_law_bad"]
theorem nd_law_rejected : (N_law_rejected).Nodup := by decide +kernel
theorem sc_law_rejected : FnScope N_law_rejected [] (defScope s_law_rejected) := ⟨rfl, rfl, rfl, by decide +kernel, rfl, by decide +kernel, by decide +kernel⟩
def b_law_rejected : XS := (sSeq (sSet 0 (xLst (aCons (xC .non) (aCons (xC (.int 5)) (aCons (xC (.str "")) (aCons (xC (.str " ")) (aCons (xC (.str "2 two 1 same")) (aCons (xC (.str "2 two 1 same games ")) (aCons (xC (.str " 2 two 1 same games")) (aCons (xC (.str "2  two 1 same games")) (aCons (xC (.str "1 two 1 same games")) (aCons (xC (.str "5 two 1 same games")) aNil)))))))))))) (sSeq (sSet 0 (xBin dAdd (xVar 0) (xLst (aCons (xC (.str "2 two 0 same games")) (aCons (xC (.str "2 two 4 same games")) (aCons (xC (.str "2 Two 1 same games")) (aCons (xC (.str "2 two 1 games same")) (aCons (xC (.str "two 2 1 same games")) (aCons (xC (.str "2,two,1,same,games")) (aCons (xC (.str "02 two 1 same games")) aNil)))))))))) (sSeq (sSet 0 (xBin dAdd (xVar 0) (xLst (aCons (xC (.str "2 two 1 same games\n")) (aCons (xC (.str "2 two\t1 same games")) (aCons (xTup (aCons (xC (.int 2)) (aCons (xC (.str "two")) (aCons (xC (.int 1)) (aCons (xC (.str "same")) (aCons (xC (.str "games")) aNil)))))) (aCons (xLst (aCons (xC (.str "2 two 1 same games")) aNil)) (aCons (xC (.str "2 two 1 same games 0")) (aCons (xC (.str "2 two 1 shorter games")) (aCons (xC (.str "2 2 1 same games")) (aCons (xBin dMulS (xC (.str "1")) (xC (.int 4000))) aNil))))))))))) (sSeq (sIf (xB (xBin dNe (xComp (iL (xVar 0)) [2] (gN 2) tYesX (xCall F_law_parsed (aCons (xC (.int 0)) (aCons (xVar 2) aNil)))) (xBin dMul (xLst (aCons (xC (.str "text")) aNil)) (xC (.int 25))))) (sRet (xC (.bl false))) sPass) (sSeq (sSet 1 (xLst (aCons (xC .non) (aCons (xC (.int 7)) (aCons (xC (.str " ")) (aCons (xC (.str "2")) (aCons (xC (.str "01 1")) (aCons (xC (.str "0,1")) (aCons (xC (.str "x")) (aCons (xC (.str "1\n")) (aCons (xLst (aCons (xC (.str "1")) aNil)) (aCons (xBin dMulS (xC (.str "1")) (xC (.int 61))) (aCons (xC (.str "-1")) (aCons (xC (.str "10 ")) (aCons (xC (.str " 01")) (aCons (xC (.str "1a")) aNil)))))))))))))))) (sRet (xAnd (xBin dEq (xComp (iL (xVar 1)) [2] (gN 2) tYesX (xCall F_law_parsed (aCons (xC (.int 1)) (aCons (xVar 2) aNil)))) (xBin dMul (xLst (aCons (xC (.str "text")) aNil)) (xC (.int 14)))) (xAnd (xBin dEq (xCall F_law_parsed (aCons (xC (.int 1)) (aCons (xC (.str "")) aNil))) (xLst aNil)) (xBin dEq (xCall F_law_parsed (aCons (xC (.int 1)) (aCons (xBin dMulS (xC (.str "1")) (xC (.int 60))) aNil))) (xBin dMul (xLst (aCons (xC (.int 1)) aNil)) (xC (.int 60))))))))))))
abbrev F_law_rejected : XF := defX b_law_rejected 3 0
abbrev s_law : Stmt := top 43
abbrev N_law : List Str := ["_law_script", "_law_draws", "_law_things", "_law_texts", "_law_kind", "_law_marks", "_law_turn", "_law_text", "_law_at", "_law_mark", "_law_other", "_law_found", "_law_every", "_law_points", "_law_lead", "_law_games", "_law_decider", "_law_serve"]
theorem nd_law : (N_law).Nodup := by decide +kernel
theorem sc_law : FnScope N_law ["_law_script"] (defScope s_law) := ⟨rfl, rfl, rfl, by decide +kernel, rfl, by decide +kernel, by decide +kernel⟩
def b_law : XS := (sSeq (sSet 1 (xCall F_law_start (aCons (xVar 0) aNil))) (sSeq (sSet 2 (xLst (aCons (xCall F_law_rule (aCons (xVar 1) aNil)) (aCons (xCall F_law_row (aCons (xVar 1) (aCons (xC (.int 20)) aNil))) aNil)))) (sSeq (sSet 3 (xLst (aCons (xCall F_format_rule (aCons (xBin dIdx (xVar 2) (xC (.int 0))) aNil)) (aCons (xCall F_format_row (aCons (xBin dIdx (xVar 2) (xC (.int 1))) aNil)) aNil)))) (sSeq (sFor (iR1 (aCons (xC (.int 2)) aNil)) (gN 4) (sIf (tOrX (xB (xBin dNe (xBin dIdx (xVar 3) (xVar 4)) (xCall F_law_words (aCons (xVar 4) (aCons (xBin dIdx (xVar 2) (xVar 4)) aNil))))) (xB (xBin dNe (xCall F_law_parsed (aCons (xVar 4) (aCons (xBin dIdx (xVar 3) (xVar 4)) aNil))) (xBin dIdx (xVar 2) (xVar 4))))) (sRet (xC (.bl false))) sPass)) (sSeq (sSet 5 (xLst (aCons (xC (.str "0")) (aCons (xC (.str "1")) (aCons (xC (.str "2")) (aCons (xC (.str "3")) (aCons (xC (.str "4")) (aCons (xC (.str " ")) (aCons (xC (.str "two")) (aCons (xC (.str "cap")) (aCons (xC (.str "only")) (aCons (xC (.str "x")) (aCons (xC (.str "")) (aCons (xC (.str "-")) aNil)))))))))))))) (sSeq (sFor (iR1 (aCons (xC (.int 16)) aNil)) (gN 6) (sSeq (sSet 4 (xCall F_law_draw (aCons (xVar 1) (aCons (xC (.int 2)) aNil)))) (sSeq (sSet 7 (xBin dIdx (xVar 3) (xVar 4))) (sSeq (sSet 8 (xCall F_law_draw (aCons (xVar 1) (aCons (xBin dAdd (xFun fLenS (aCons (xVar 7) aNil)) (xC (.int 1))) aNil)))) (sSeq (sSet 9 (xCall F_law_pick (aCons (xVar 1) (aCons (xVar 5) aNil)))) (sSeq (sSet 10 (xCall F_law_pick (aCons (xVar 1) (aCons (xLst (aCons (xBin dAdd (xBin dAdd (xSlS (xVar 7) oNone (oSome (xVar 8))) (xVar 9)) (xSlS (xVar 7) (oSome (xBin dAdd (xVar 8) (xC (.int 1)))) oNone)) (aCons (xBin dAdd (xBin dAdd (xSlS (xVar 7) oNone (oSome (xVar 8))) (xVar 9)) (xSlS (xVar 7) (oSome (xVar 8)) oNone)) (aCons (xBin dAdd (xBin dAdd (xBin dAdd (xSlS (xVar 7) oNone (oSome (xVar 8))) (xC (.str " "))) (xVar 9)) (xSlS (xVar 7) (oSome (xVar 8)) oNone)) aNil)))) aNil)))) (sSeq (sSet 11 (xCall F_law_parsed (aCons (xVar 4) (aCons (xVar 10) aNil)))) (sSeq (sIf (tAndX (xB (xBin dNe (xVar 11) (xC (.str "text")))) (xB (xBin dNe (xCall F_law_words (aCons (xVar 4) (aCons (xVar 11) aNil))) (xVar 10)))) (sRet (xC (.bl false))) sPass) (sIf (tAndX (xB (xBin dNe (xVar 11) (xC (.str "text")))) (xB (xBin (dIs true) (xIf (xB (xBin dEq (xVar 4) (xC (.int 0)))) (xCall F_is_rule (aCons (xVar 11) aNil)) (xCall F_is_row (aCons (xVar 11) aNil))) (xC (.bl true))))) (sRet (xC (.bl false))) sPass))))))))) (sSeq (sSet 12 (xLst aNil)) (sSeq (sFor (iT (xTup (aCons (xC (.int 2)) (aCons (xC (.int 3)) (aCons (xC (.int 4)) aNil))))) (gN 13) (sFor (iT (xTup (aCons (xC (.str "one")) (aCons (xC (.str "two")) (aCons (xC (.str "cap")) aNil))))) (gN 14) (sFor (iT (xTup (aCons (xC (.int 1)) (aCons (xC (.int 2)) (aCons (xC (.int 3)) aNil))))) (gN 15) (sFor (iT (xTup (aCons (xC (.str "same")) (aCons (xC (.str "longer")) aNil)))) (gN 16) (sSet 12 (xBin dAdd (xVar 12) (xComp (iT (xTup (aCons (xC (.str "games")) (aCons (xC (.str "twos")) (aCons (xC (.str "winner")) (aCons (xC (.str "only")) aNil)))))) [17] (gN 17) tYesX (xTup (aCons (xVar 13) (aCons (xVar 14) (aCons (xVar 15) (aCons (xVar 16) (aCons (xVar 17) aNil))))))))))))) (sRet (xAnd (xCall F_law_rejected aNil) (xAnd (xBin dEq (xCall F_all_rules aNil) (xVar 12)) (xBin dEq (xFun fLen (aCons (xVar 12) aNil)) (xC (.int 216))))))))))))))
abbrev F_law : XF := defX b_law 18 1
/-- what is known of the module's names -/
structure Tx (K : PySem.W.Frag) (mg : Str → Option Value) (cl : CL) where
  a_is_number_of : Addr
  d_is_number_of : FuncData
  f_is_number_of : FD K mg "is_number_of" s_is_number_of ["value", "allowed"] a_is_number_of d_is_number_of
  a_is_word_of : Addr
  d_is_word_of : FuncData
  f_is_word_of : FD K mg "is_word_of" s_is_word_of ["value", "allowed"] a_is_word_of d_is_word_of
  a_is_rule : Addr
  d_is_rule : FuncData
  f_is_rule : FD K mg "is_rule" s_is_rule ["value"] a_is_rule d_is_rule
  a_is_rally : Addr
  d_is_rally : FuncData
  f_is_rally : FD K mg "is_rally" s_is_rally ["value"] a_is_rally d_is_rally
  a_is_row : Addr
  d_is_row : FuncData
  f_is_row : FD K mg "is_row" s_is_row ["value"] a_is_row d_is_row
  a_all_rules : Addr
  d_all_rules : FuncData
  f_all_rules : FD K mg "all_rules" s_all_rules [] a_all_rules d_all_rules
  a_check_rule : Addr
  d_check_rule : FuncData
  f_check_rule : FD K mg "check_rule" s_check_rule ["value"] a_check_rule d_check_rule
  a_check_row : Addr
  d_check_row : FuncData
  f_check_row : FD K mg "check_row" s_check_row ["value"] a_check_row d_check_row
  a_format_rule : Addr
  d_format_rule : FuncData
  f_format_rule : FD K mg "format_rule" s_format_rule ["rule"] a_format_rule d_format_rule
  a_format_row : Addr
  d_format_row : FuncData
  f_format_row : FD K mg "format_row" s_format_row ["row"] a_format_row d_format_row
  a_check_text : Addr
  d_check_text : FuncData
  f_check_text : FD K mg "check_text" s_check_text ["value"] a_check_text d_check_text
  a_parse_rule : Addr
  d_parse_rule : FuncData
  f_parse_rule : FD K mg "parse_rule" s_parse_rule ["text"] a_parse_rule d_parse_rule
  a_numbers_in : Addr
  d_numbers_in : FuncData
  f_numbers_in : FD K mg "numbers_in" s_numbers_in ["text"] a_numbers_in d_numbers_in
  a_parse_row : Addr
  d_parse_row : FuncData
  f_parse_row : FD K mg "parse_row" s_parse_row ["text"] a_parse_row d_parse_row
  a_law_start : Addr
  d_law_start : FuncData
  f_law_start : FD K mg "_law_start" s_law_start ["_law_script"] a_law_start d_law_start
  a_law_draw : Addr
  d_law_draw : FuncData
  f_law_draw : FD K mg "_law_draw" s_law_draw ["_law_draws", "_law_limit"] a_law_draw d_law_draw
  a_law_pick : Addr
  d_law_pick : FuncData
  f_law_pick : FD K mg "_law_pick" s_law_pick ["_law_draws", "_law_choices"] a_law_pick d_law_pick
  a_law_error : Addr
  d_law_error : FuncData
  f_law_error : FD K mg "_law_error" s_law_error ["_law_caught"] a_law_error d_law_error
  a_law_rule : Addr
  d_law_rule : FuncData
  f_law_rule : FD K mg "_law_rule" s_law_rule ["_law_draws"] a_law_rule d_law_rule
  a_law_row : Addr
  d_law_row : FuncData
  f_law_row : FD K mg "_law_row" s_law_row ["_law_draws", "_law_longest"] a_law_row d_law_row
  a_law_parsed : Addr
  d_law_parsed : FuncData
  f_law_parsed : FD K mg "_law_parsed" s_law_parsed ["_law_kind", "_law_text"] a_law_parsed d_law_parsed
  a_law_words : Addr
  d_law_words : FuncData
  f_law_words : FD K mg "_law_words" s_law_words ["_law_kind", "_law_thing"] a_law_words d_law_words
  a_law_rejected : Addr
  d_law_rejected : FuncData
  f_law_rejected : FD K mg "_law_rejected" s_law_rejected [] a_law_rejected d_law_rejected
  a_law : Addr
  d_law : FuncData
  f_law : FD K mg "law" s_law ["_law_script"] a_law d_law
  g_DECIDERS : GC K cl mg "DECIDERS" c_DECIDERS
  g_DIGITS : GC K cl mg "DIGITS" c_DIGITS
  g_GAMES : GC K cl mg "GAMES" c_GAMES
  g_LEADS : GC K cl mg "LEADS" c_LEADS
  g_LONGEST_ROW : GC K cl mg "LONGEST_ROW" c_LONGEST_ROW
  g_POINTS : GC K cl mg "POINTS" c_POINTS
  g_RALLIES : GC K cl mg "RALLIES" c_RALLIES
  g_SERVES : GC K cl mg "SERVES" c_SERVES
  n_ValueError : mg "ValueError" = none
  n_all : mg "all" = none
  n_bool : mg "bool" = none
  n_int : mg "int" = none
  n_isinstance : mg "isinstance" = none
  n_len : mg "len" = none
  n_list : mg "list" = none
  n_range : mg "range" = none
  n_str : mg "str" = none
  n_tuple : mg "tuple" = none
  ex : ∀ k, ExcC K (cl k)
  x_BadRally : PySem.W.excIn K (cl 1) [.type "ValueError", .type "Exception", .type "BaseException", .type "object"] "ValueError.__new__" = true
  k_BadRally : mg "BadRally" = some (.ref (cl 1))
  p_BadRally : PySem.W.keepIn K (.ref (cl 1)) = true
  q_BadRally : PySem.W.subIn K (.ref (cl 1)) (.type "BaseException") = some true
  t_BadRally : PySem.W.typeIn K (.ref (cl 1)) = some (.type "type")
  x_BadRule : PySem.W.excIn K (cl 0) [.type "ValueError", .type "Exception", .type "BaseException", .type "object"] "ValueError.__new__" = true
  k_BadRule : mg "BadRule" = some (.ref (cl 0))
  p_BadRule : PySem.W.keepIn K (.ref (cl 0)) = true
  q_BadRule : PySem.W.subIn K (.ref (cl 0)) (.type "BaseException") = some true
  t_BadRule : PySem.W.typeIn K (.ref (cl 0)) = some (.type "type")
  x_BadText : PySem.W.excIn K (cl 4) [.type "ValueError", .type "Exception", .type "BaseException", .type "object"] "ValueError.__new__" = true
  k_BadText : mg "BadText" = some (.ref (cl 4))
  p_BadText : PySem.W.keepIn K (.ref (cl 4)) = true
  q_BadText : PySem.W.subIn K (.ref (cl 4)) (.type "BaseException") = some true
  t_BadText : PySem.W.typeIn K (.ref (cl 4)) = some (.type "type")
  k_BadBoards : mg "BadBoards" = some (.ref (cl 2))
  s_BadBoards : ∀ k, PySem.W.kitOne K (.ref (cl k)) (.ref (cl 2)) = some (sub_BadBoards k)
  m_BadBoards : ∀ k, PySem.W.exmOne K (.ref (cl k)) (.ref (cl 2)) = some (sub_BadBoards k)
  k_BadNumber : mg "BadNumber" = some (.ref (cl 3))
  s_BadNumber : ∀ k, PySem.W.kitOne K (.ref (cl k)) (.ref (cl 3)) = some (sub_BadNumber k)
  m_BadNumber : ∀ k, PySem.W.exmOne K (.ref (cl k)) (.ref (cl 3)) = some (sub_BadNumber k)
  s_BadRally : ∀ k, PySem.W.kitOne K (.ref (cl k)) (.ref (cl 1)) = some (sub_BadRally k)
  m_BadRally : ∀ k, PySem.W.exmOne K (.ref (cl k)) (.ref (cl 1)) = some (sub_BadRally k)
  s_BadRule : ∀ k, PySem.W.kitOne K (.ref (cl k)) (.ref (cl 0)) = some (sub_BadRule k)
  m_BadRule : ∀ k, PySem.W.exmOne K (.ref (cl k)) (.ref (cl 0)) = some (sub_BadRule k)
  s_BadText : ∀ k, PySem.W.kitOne K (.ref (cl k)) (.ref (cl 4)) = some (sub_BadText k)
  m_BadText : ∀ k, PySem.W.exmOne K (.ref (cl k)) (.ref (cl 4)) = some (sub_BadText k)
  a_MatchError : Addr
  k_MatchError : mg "MatchError" = some (.ref a_MatchError)
  s_MatchError : ∀ k, PySem.W.kitOne K (.ref (cl k)) (.ref a_MatchError) = some (sub_MatchError k)
  m_MatchError : ∀ k, PySem.W.exmOne K (.ref (cl k)) (.ref a_MatchError) = some (sub_MatchError k)
  k_NotFound : mg "NotFound" = some (.ref (cl 5))
  s_NotFound : ∀ k, PySem.W.kitOne K (.ref (cl k)) (.ref (cl 5)) = some (sub_NotFound k)
  m_NotFound : ∀ k, PySem.W.exmOne K (.ref (cl k)) (.ref (cl 5)) = some (sub_NotFound k)
  s_ValueError : ∀ k, PySem.W.kitOne K (.ref (cl k)) (.type "ValueError") = some (sub_ValueError k)
section
variable {K : PySem.W.Frag} {mg : Str → Option Value} {base : Heap} {cl : CL}
theorem ok_is_number_of (T : Tx K mg cl)  : FnOk cl.P cl.w K mg base (L2.CX cl.P cl.w) 1 T.a_is_number_of T.d_is_number_of ["value", "allowed"] (spX K cl F_is_number_of 2) :=
  mp_def T.f_is_number_of.fn sc_is_number_of rfl fun cdv A outer s H E hr tk hp => (mss_one (ms_ret (mp_and (mp_isi (x := "") T.n_isinstance T.n_int rfl (mp_var 0)) (mp_and (mp_not (mp_isi (x := "") T.n_isinstance T.n_bool rfl (mp_var 0))) (mp_one (mp_cmp (op_inB (hu65 hr)) (o2_in false) (by rfl) (mp_var 0) (mp_var 1)))))))
theorem ok_is_word_of (T : Tx K mg cl)  : FnOk cl.P cl.w K mg base (L2.CX cl.P cl.w) 1 T.a_is_word_of T.d_is_word_of ["value", "allowed"] (spX K cl F_is_word_of 2) :=
  mp_def T.f_is_word_of.fn sc_is_word_of rfl fun cdv A outer s H E hr tk hp => (mss_one (ms_ret (mp_and (mp_isi (x := "") T.n_isinstance T.n_str rfl (mp_var 0)) (mp_one (mp_cmp (op_inB (hu65 hr)) (o2_in false) (by rfl) (mp_var 0) (mp_var 1))))))
theorem ok_is_rule (T : Tx K mg cl) (G_is_number_of : FnOk cl.P cl.w K mg base (L2.CX cl.P cl.w) 1 T.a_is_number_of T.d_is_number_of ["value", "allowed"] (spX K cl F_is_number_of 2)) (G_is_word_of : FnOk cl.P cl.w K mg base (L2.CX cl.P cl.w) 1 T.a_is_word_of T.d_is_word_of ["value", "allowed"] (spX K cl F_is_word_of 2)) : FnOk cl.P cl.w K mg base (L2.CX cl.P cl.w) 2 T.a_is_rule T.d_is_rule ["value"] (spX K cl F_is_rule 1) :=
  mp_def T.f_is_rule.fn sc_is_rule rfl fun cdv A outer s H E hr tk hp => (mss_cons (ms_if (PW.pt (mw_or (mt_not (mt_tru (mp_isi (x := "") T.n_isinstance T.n_tuple rfl (mp_var 0)))) (mw_or1 (mt_cmp (op_neB (hu64 hr)) (o2_eqB true) (by rfl) (mp_fun call_len_seq fr_len T.n_len rfl (ma_cons (mp_var 0) ma_nil)) mp_int)))) (mss_one (ms_ret mp_bl)) mss_nil) (mss_cons (ms_asg (mp_var 0) (mg_tup rfl (mgs_cons (mg_name (i := 1) nd_is_rule rfl (.inl rfl)) (mgs_cons (mg_name (i := 2) nd_is_rule rfl (.inl rfl)) (mgs_cons (mg_name (i := 3) nd_is_rule rfl (.inl rfl)) (mgs_cons (mg_name (i := 4) nd_is_rule rfl (.inl rfl)) (mgs_cons (mg_name (i := 5) nd_is_rule rfl (.inl rfl)) mgs_nil))))))) (mss_one (ms_ret (mp_and (mp_call G_is_number_of defX_len (hr.mono (by decide)) T.f_is_number_of.hm T.f_is_number_of.fn.kp T.f_is_number_of.hb tk (ma_cons (mp_var 1) (ma_cons (mp_gc rfl T.g_POINTS) ma_nil))) (mp_and (mp_call G_is_word_of defX_len (hr.mono (by decide)) T.f_is_word_of.hm T.f_is_word_of.fn.kp T.f_is_word_of.hb tk (ma_cons (mp_var 2) (ma_cons (mp_gc rfl T.g_LEADS) ma_nil))) (mp_and (mp_call G_is_number_of defX_len (hr.mono (by decide)) T.f_is_number_of.hm T.f_is_number_of.fn.kp T.f_is_number_of.hb tk (ma_cons (mp_var 3) (ma_cons (mp_gc rfl T.g_GAMES) ma_nil))) (mp_and (mp_call G_is_word_of defX_len (hr.mono (by decide)) T.f_is_word_of.hm T.f_is_word_of.fn.kp T.f_is_word_of.hb tk (ma_cons (mp_var 4) (ma_cons (mp_gc rfl T.g_DECIDERS) ma_nil))) (mp_one (mp_call G_is_word_of defX_len (hr.mono (by decide)) T.f_is_word_of.hm T.f_is_word_of.fn.kp T.f_is_word_of.hb tk (ma_cons (mp_var 5) (ma_cons (mp_gc rfl T.g_SERVES) ma_nil))))))))))))
theorem ok_is_rally (T : Tx K mg cl) (G_is_number_of : FnOk cl.P cl.w K mg base (L2.CX cl.P cl.w) 1 T.a_is_number_of T.d_is_number_of ["value", "allowed"] (spX K cl F_is_number_of 2)) : FnOk cl.P cl.w K mg base (L2.CX cl.P cl.w) 2 T.a_is_rally T.d_is_rally ["value"] (spX K cl F_is_rally 1) :=
  mp_def T.f_is_rally.fn sc_is_rally rfl fun cdv A outer s H E hr tk hp => (mss_one (ms_ret (mp_call G_is_number_of defX_len (hr.mono (by decide)) T.f_is_number_of.hm T.f_is_number_of.fn.kp T.f_is_number_of.hb tk (ma_cons (mp_var 0) (ma_cons (mp_gc rfl T.g_RALLIES) ma_nil)))))
theorem ok_is_row (T : Tx K mg cl) (G_is_rally : FnOk cl.P cl.w K mg base (L2.CX cl.P cl.w) 2 T.a_is_rally T.d_is_rally ["value"] (spX K cl F_is_rally 1)) : FnOk cl.P cl.w K mg base (L2.CX cl.P cl.w) 3 T.a_is_row T.d_is_row ["value"] (spX K cl F_is_row 1) :=
  mp_def T.f_is_row.fn sc_is_row rfl fun cdv A outer s H E hr tk hp => (mss_cons (ms_if (PW.pt (mw_or (mt_not (mt_tru (mp_isi (x := "") T.n_isinstance T.n_list rfl (mp_var 0)))) (mw_or1 (mt_cmp op_gt o2_gt (by rfl) (mp_fun call_len_seq fr_len T.n_len rfl (ma_cons (mp_var 0) ma_nil)) (mp_gc rfl T.g_LONGEST_ROW))))) (mss_one (ms_ret mp_bl)) mss_nil) (mss_one (ms_ret (mp_fun (L2.cr_all rfl) fr_all T.n_all rfl (ma_cons (mp_comp (own := [("rally", 1)]) rfl nd_is_row (mi_list (mp_var 0)) (blkOk_by (N := N_is_row) (sc := defScope s_is_row) (by decide +kernel)) (fun _ _ _ _ _ => (mgw_name (i := 1) nd_is_row rfl (.inl rfl) (by decide))) (fun _ _ _ _ _ => mts_nil) (fun _ _ _ _ _ => (mp_call G_is_rally defX_len (hr.mono (by decide)) T.f_is_rally.hm T.f_is_rally.fn.kp T.f_is_rally.hb takes0 (ma_cons (mp_var 1) ma_nil)))) ma_nil)))))
theorem ok_all_rules (T : Tx K mg cl)  : FnOk cl.P cl.w K mg base (L2.CX cl.P cl.w) 1 T.a_all_rules T.d_all_rules [] (spX K cl F_all_rules 0) :=
  mp_def T.f_all_rules.fn sc_all_rules rfl fun cdv A outer s H E hr tk hp => (mss_one (ms_ret (mp_compN (own := [("points", 0), ("lead", 1), ("games", 2), ("decider", 3), ("serve", 4)]) (r := [⟨_, _, (iT (xC c_LEADS)), (gN 1), [1]⟩, ⟨_, _, (iT (xC c_GAMES)), (gN 2), [2]⟩, ⟨_, _, (iT (xC c_DECIDERS)), (gN 3), [3]⟩, ⟨_, _, (iT (xC c_SERVES)), (gN 4), [4]⟩]) rfl nd_all_rules (mi_tup (mp_gc rfl T.g_POINTS)) (blkOk_by (N := N_all_rules) (sc := defScope s_all_rules) (by decide +kernel)) (fun _ _ _ _ _ => (mgw_name (i := 0) nd_all_rules rfl (.inl rfl) (by decide))) rfl (fun _ _ _ _ _ => (.cons (mi_tup (mp_gc rfl T.g_LEADS)) (mgw_name (i := 1) nd_all_rules rfl (.inl rfl) (by decide)) (fun _ _ => rfl) (.cons (mi_tup (mp_gc rfl T.g_GAMES)) (mgw_name (i := 2) nd_all_rules rfl (.inl rfl) (by decide)) (fun _ _ => rfl) (.cons (mi_tup (mp_gc rfl T.g_DECIDERS)) (mgw_name (i := 3) nd_all_rules rfl (.inl rfl) (by decide)) (fun _ _ => rfl) (.cons (mi_tup (mp_gc rfl T.g_SERVES)) (mgw_name (i := 4) nd_all_rules rfl (.inl rfl) (by decide)) (fun _ _ => rfl) .nil))))) (fun _ _ _ _ _ => (mp_tup (ma_cons (mp_var 0) (ma_cons (mp_var 1) (ma_cons (mp_var 2) (ma_cons (mp_var 3) (ma_cons (mp_var 4) ma_nil))))))))))
theorem ok_check_rule (T : Tx K mg cl) (G_is_rule : FnOk cl.P cl.w K mg base (L2.CX cl.P cl.w) 2 T.a_is_rule T.d_is_rule ["value"] (spX K cl F_is_rule 1)) : FnOk cl.P cl.w K mg base (L2.CX cl.P cl.w) 3 T.a_check_rule T.d_check_rule ["value"] (spX K cl F_check_rule 1) :=
  mp_def T.f_check_rule.fn sc_check_rule rfl fun cdv A outer s H E hr tk hp => (mss_one (ms_if (mt_not (mt_tru (mp_call G_is_rule defX_len (hr.mono (by decide)) T.f_is_rule.hm T.f_is_rule.fn.kp T.f_is_rule.hb tk (ma_cons (mp_var 0) ma_nil)))) (mss_one (ms_raise PySem.F.excBase_ValueError T.x_BadRule T.k_BadRule T.p_BadRule (raises_own T.q_BadRule T.t_BadRule) rfl tk)) mss_nil))
theorem ok_check_row (T : Tx K mg cl) (G_is_row : FnOk cl.P cl.w K mg base (L2.CX cl.P cl.w) 3 T.a_is_row T.d_is_row ["value"] (spX K cl F_is_row 1)) : FnOk cl.P cl.w K mg base (L2.CX cl.P cl.w) 4 T.a_check_row T.d_check_row ["value"] (spX K cl F_check_row 1) :=
  mp_def T.f_check_row.fn sc_check_row rfl fun cdv A outer s H E hr tk hp => (mss_one (ms_if (mt_not (mt_tru (mp_call G_is_row defX_len (hr.mono (by decide)) T.f_is_row.hm T.f_is_row.fn.kp T.f_is_row.hb tk (ma_cons (mp_var 0) ma_nil)))) (mss_one (ms_raise PySem.F.excBase_ValueError T.x_BadRally T.k_BadRally T.p_BadRally (raises_own T.q_BadRally T.t_BadRally) rfl tk)) mss_nil))
theorem ok_format_rule (T : Tx K mg cl) (G_check_rule : FnOk cl.P cl.w K mg base (L2.CX cl.P cl.w) 3 T.a_check_rule T.d_check_rule ["value"] (spX K cl F_check_rule 1)) : FnOk cl.P cl.w K mg base (L2.CX cl.P cl.w) 4 T.a_format_rule T.d_format_rule ["rule"] (spX K cl F_format_rule 1) :=
  mp_def T.f_format_rule.fn sc_format_rule rfl fun cdv A outer s H E hr tk hp => (mss_cons (ms_expr (mp_call G_check_rule defX_len (hr.mono (by decide)) T.f_check_rule.hm T.f_check_rule.fn.kp T.f_check_rule.hb tk (ma_cons (mp_var 0) ma_nil))) (mss_one (ms_ret (mp_tm PySem.F.slot_str_join PySem.F.type_str_join mt_join tr_join mp_str (mp_comp (own := [("item", 1)]) rfl nd_format_rule (mi_tup (mp_var 0)) (blkOk_by (N := N_format_rule) (sc := defScope s_format_rule) (by decide +kernel)) (fun _ _ _ _ _ => (mgw_name (i := 1) nd_format_rule rfl (.inl rfl) (by decide))) (fun _ _ _ _ _ => mts_nil) (fun _ _ _ _ _ => (mp_funT cr_str fr_str T.n_str rfl (ma_cons (mp_var 1) ma_nil))))))))
theorem ok_format_row (T : Tx K mg cl) (G_check_row : FnOk cl.P cl.w K mg base (L2.CX cl.P cl.w) 4 T.a_check_row T.d_check_row ["value"] (spX K cl F_check_row 1)) : FnOk cl.P cl.w K mg base (L2.CX cl.P cl.w) 5 T.a_format_row T.d_format_row ["row"] (spX K cl F_format_row 1) :=
  mp_def T.f_format_row.fn sc_format_row rfl fun cdv A outer s H E hr tk hp => (mss_cons (ms_expr (mp_call G_check_row defX_len (hr.mono (by decide)) T.f_check_row.hm T.f_check_row.fn.kp T.f_check_row.hb tk (ma_cons (mp_var 0) ma_nil))) (mss_one (ms_ret (mp_tm PySem.F.slot_str_join PySem.F.type_str_join mt_join tr_join mp_str (mp_comp (own := [("rally", 1)]) rfl nd_format_row (mi_list (mp_var 0)) (blkOk_by (N := N_format_row) (sc := defScope s_format_row) (by decide +kernel)) (fun _ _ _ _ _ => (mgw_name (i := 1) nd_format_row rfl (.inl rfl) (by decide))) (fun _ _ _ _ _ => mts_nil) (fun _ _ _ _ _ => (mp_funT cr_str fr_str T.n_str rfl (ma_cons (mp_var 1) ma_nil))))))))
theorem ok_check_text (T : Tx K mg cl)  : FnOk cl.P cl.w K mg base (L2.CX cl.P cl.w) 1 T.a_check_text T.d_check_text ["value"] (spX K cl F_check_text 1) :=
  mp_def T.f_check_text.fn sc_check_text rfl fun cdv A outer s H E hr tk hp => (mss_one (ms_if (mt_not (mt_tru (mp_isi (x := "") T.n_isinstance T.n_str rfl (mp_var 0)))) (mss_one (ms_raise PySem.F.excBase_ValueError T.x_BadText T.k_BadText T.p_BadText (raises_own T.q_BadText T.t_BadText) rfl tk)) mss_nil))
theorem ok_parse_rule (T : Tx K mg cl) (G_all_rules : FnOk cl.P cl.w K mg base (L2.CX cl.P cl.w) 1 T.a_all_rules T.d_all_rules [] (spX K cl F_all_rules 0)) (G_format_rule : FnOk cl.P cl.w K mg base (L2.CX cl.P cl.w) 4 T.a_format_rule T.d_format_rule ["rule"] (spX K cl F_format_rule 1)) (G_check_text : FnOk cl.P cl.w K mg base (L2.CX cl.P cl.w) 1 T.a_check_text T.d_check_text ["value"] (spX K cl F_check_text 1)) : FnOk cl.P cl.w K mg base (L2.CX cl.P cl.w) 5 T.a_parse_rule T.d_parse_rule ["text"] (spX K cl F_parse_rule 1) :=
  mp_def T.f_parse_rule.fn sc_parse_rule rfl fun cdv A outer s H E hr tk hp => (mss_cons (ms_expr (mp_call G_check_text defX_len (hr.mono (by decide)) T.f_check_text.hm T.f_check_text.fn.kp T.f_check_text.hb tk (ma_cons (mp_var 0) ma_nil))) (mss_cons (ms_for hp rfl (mi_list (mp_call0 G_all_rules (hr.mono (by decide)) T.f_all_rules.hm T.f_all_rules.fn.kp T.f_all_rules.hb tk)) (mg_name (i := 1) nd_parse_rule rfl (.inl rfl)) (mss_one (ms_if (mt_cmp (op_eqB (hu64 hr)) (o2_eqB false) (by rfl) (mp_call G_format_rule defX_len (hr.mono (by decide)) T.f_format_rule.hm T.f_format_rule.fn.kp T.f_format_rule.hb tk (ma_cons (mp_var 1) ma_nil)) (mp_var 0)) (mss_one (ms_ret (mp_var 1))) mss_nil))) (mss_one (ms_raise PySem.F.excBase_ValueError T.x_BadText T.k_BadText T.p_BadText (raises_own T.q_BadText T.t_BadText) rfl tk))))
theorem ok_numbers_in (T : Tx K mg cl)  : FnOk cl.P cl.w K mg base (L2.CX cl.P cl.w) 1 T.a_numbers_in T.d_numbers_in ["text"] (spX K cl F_numbers_in 1) :=
  mp_def T.f_numbers_in.fn sc_numbers_in rfl fun cdv A outer s H E hr tk hp => (mss_one (ms_ret (mp_comp (own := [("mark", 1)]) rfl nd_numbers_in (mi_str (mp_var 0)) (blkOk_by (N := N_numbers_in) (sc := defScope s_numbers_in) (by decide +kernel)) (fun _ _ _ _ _ => (mgw_name (i := 1) nd_numbers_in rfl (.inl rfl) (by decide))) (fun _ _ _ _ _ => (mts_one (mt_cmp op_in_sign o2_inS (by rfl) (mp_var 1) (mp_gc rfl T.g_DIGITS)))) (fun _ _ _ _ _ => (mp_tm PySem.F.slot_str_find PySem.F.type_str_find mt_find tr_find (mp_gc rfl T.g_DIGITS) (mp_var 1))))))
theorem ok_parse_row (T : Tx K mg cl) (G_is_row : FnOk cl.P cl.w K mg base (L2.CX cl.P cl.w) 3 T.a_is_row T.d_is_row ["value"] (spX K cl F_is_row 1)) (G_format_row : FnOk cl.P cl.w K mg base (L2.CX cl.P cl.w) 5 T.a_format_row T.d_format_row ["row"] (spX K cl F_format_row 1)) (G_numbers_in : FnOk cl.P cl.w K mg base (L2.CX cl.P cl.w) 1 T.a_numbers_in T.d_numbers_in ["text"] (spX K cl F_numbers_in 1)) (G_check_text : FnOk cl.P cl.w K mg base (L2.CX cl.P cl.w) 1 T.a_check_text T.d_check_text ["value"] (spX K cl F_check_text 1)) : FnOk cl.P cl.w K mg base (L2.CX cl.P cl.w) 6 T.a_parse_row T.d_parse_row ["text"] (spX K cl F_parse_row 1) :=
  mp_def T.f_parse_row.fn sc_parse_row rfl fun cdv A outer s H E hr tk hp => (mss_cons (ms_expr (mp_call G_check_text defX_len (hr.mono (by decide)) T.f_check_text.hm T.f_check_text.fn.kp T.f_check_text.hb tk (ma_cons (mp_var 0) ma_nil))) (mss_cons (ms_set (i := 1) (mp_call G_numbers_in defX_len (hr.mono (by decide)) T.f_numbers_in.hm T.f_numbers_in.fn.kp T.f_numbers_in.hb tk (ma_cons (mp_var 0) ma_nil)) nd_parse_row rfl (.inl rfl)) (mss_cons (ms_if (PW.pt (mw_or (mt_not (mt_tru (mp_call G_is_row defX_len (hr.mono (by decide)) T.f_is_row.hm T.f_is_row.fn.kp T.f_is_row.hb tk (ma_cons (mp_var 1) ma_nil)))) (mw_or1 (mt_cmp (op_neB (hu64 hr)) (o2_eqB true) (by rfl) (mp_call G_format_row defX_len (hr.mono (by decide)) T.f_format_row.hm T.f_format_row.fn.kp T.f_format_row.hb tk (ma_cons (mp_var 1) ma_nil)) (mp_var 0))))) (mss_one (ms_raise PySem.F.excBase_ValueError T.x_BadText T.k_BadText T.p_BadText (raises_own T.q_BadText T.t_BadText) rfl tk)) mss_nil) (mss_one (ms_ret (mp_var 1))))))
theorem ok_law_start (T : Tx K mg cl)  : FnOk cl.P cl.w K mg base (L2.CX cl.P cl.w) 1 T.a_law_start T.d_law_start ["_law_script"] (spX K cl F_law_start 1) :=
  mp_def T.f_law_start.fn sc_law_start rfl fun cdv A outer s H E hr tk hp => (mss_one (ms_ret (mp_lst (ma_cons (mp_if (mt_cmp (op_neB (hu64 hr)) (o2_eqB true) (by rfl) (mp_var 0) (mp_lst ma_nil)) (mp_funT call_list_of fr_list T.n_list rfl (ma_cons (mp_var 0) ma_nil)) (mp_lst (ma_cons mp_int ma_nil))) (ma_cons mp_int ma_nil)))))
theorem ok_law_draw (T : Tx K mg cl)  : FnOk cl.P cl.w K mg base (L2.CX cl.P cl.w) 1 T.a_law_draw T.d_law_draw ["_law_draws", "_law_limit"] (spX K cl F_law_draw 2) :=
  mp_def T.f_law_draw.fn sc_law_draw rfl fun cdv A outer s H E hr tk hp => (mss_cons (ms_set (i := 2) (mp_idx (mp_var 0) mp_int) nd_law_draw rfl (.inl rfl)) (mss_cons (ms_put (mp_bin op_addD o2_add (mp_idx (mp_var 0) mp_int) mp_int) (mp_var 0) mp_int) (mss_cons (ms_set (i := 3) (mp_bin op_mod o2_mod (mp_idx (mp_var 0) mp_int) (mp_fun call_len_seq fr_len T.n_len rfl (ma_cons (mp_var 2) ma_nil))) nd_law_draw rfl (.inl rfl)) (mss_cons (ms_set (i := 4) (mp_idx (mp_var 2) (mp_var 3)) nd_law_draw rfl (.inl rfl)) (mss_cons (ms_if (mt_cmp op_ge o2_ge (by rfl) (mp_var 4) mp_int) (mss_cons (ms_put (mp_bin op_fdiv o2_fdiv (mp_var 4) (mp_var 1)) (mp_var 2) (mp_var 3)) (mss_one (ms_ret (mp_bin op_mod o2_mod (mp_var 4) (mp_var 1))))) mss_nil) (mss_cons (ms_set (i := 5) (mp_bin op_mod o2_mod (mp_bin op_addD o2_add (mp_var 4) (mp_bin op_mulD o2_mul mp_int (mp_idx (mp_var 0) mp_int))) mp_int) nd_law_draw rfl (.inl rfl)) (mss_cons (ms_set (i := 5) (mp_bin op_mod o2_mod (mp_bin op_pow o2_pow (mp_var 5) mp_int) mp_int) nd_law_draw rfl (.inl rfl)) (mss_one (ms_ret (mp_bin op_mod o2_mod (mp_bin op_fdiv o2_fdiv (mp_bin op_mod o2_mod (mp_bin op_addD o2_add (mp_bin op_mulD o2_mul (mp_bin op_fdiv o2_fdiv (mp_var 5) mp_int) mp_int) (mp_var 5)) mp_int) mp_int) (mp_var 1)))))))))))
theorem ok_law_pick (T : Tx K mg cl) (G_law_draw : FnOk cl.P cl.w K mg base (L2.CX cl.P cl.w) 1 T.a_law_draw T.d_law_draw ["_law_draws", "_law_limit"] (spX K cl F_law_draw 2)) : FnOk cl.P cl.w K mg base (L2.CX cl.P cl.w) 2 T.a_law_pick T.d_law_pick ["_law_draws", "_law_choices"] (spX K cl F_law_pick 2) :=
  mp_def T.f_law_pick.fn sc_law_pick rfl fun cdv A outer s H E hr tk hp => (mss_one (ms_ret (mp_idx (mp_var 1) (mp_call G_law_draw defX_len (hr.mono (by decide)) T.f_law_draw.hm T.f_law_draw.fn.kp T.f_law_draw.hb tk (ma_cons (mp_var 0) (ma_cons (mp_fun call_len_seq fr_len T.n_len rfl (ma_cons (mp_var 1) ma_nil)) ma_nil))))))
theorem ok_law_error (T : Tx K mg cl)  : FnOk cl.P cl.w K mg base (L2.CX cl.P cl.w) 1 T.a_law_error T.d_law_error ["_law_caught"] (spX K cl F_law_error 1) :=
  mp_def T.f_law_error.fn sc_law_error rfl fun cdv A outer s H E hr tk hp => (mss_cons (ms_set (i := 1) (mp_lst (ma_cons (mp_isx (c := V.ref (cl 0)) T.ex T.s_BadRule (fun u h => h) (pe_glob rfl T.k_BadRule rfl) T.n_isinstance (mp_var 0)) (ma_cons (mp_isx (c := V.ref (cl 1)) T.ex T.s_BadRally (fun u h => h) (pe_glob rfl T.k_BadRally rfl) T.n_isinstance (mp_var 0)) (ma_cons (mp_isx (c := V.ref (cl 2)) T.ex T.s_BadBoards (fun u h => h) (pe_glob rfl T.k_BadBoards rfl) T.n_isinstance (mp_var 0)) ma_nil)))) nd_law_error rfl (.inl rfl)) (mss_cons (ms_set (i := 1) (mp_bin op_addD o2_add (mp_var 1) (mp_lst (ma_cons (mp_isx (c := V.ref (cl 3)) T.ex T.s_BadNumber (fun u h => h) (pe_glob rfl T.k_BadNumber rfl) T.n_isinstance (mp_var 0)) (ma_cons (mp_isx (c := V.ref (cl 4)) T.ex T.s_BadText (fun u h => h) (pe_glob rfl T.k_BadText rfl) T.n_isinstance (mp_var 0)) (ma_cons (mp_isx (c := V.ref (cl 5)) T.ex T.s_NotFound (fun u h => h) (pe_glob rfl T.k_NotFound rfl) T.n_isinstance (mp_var 0)) ma_nil))))) nd_law_error rfl (.inl rfl)) (mss_cons (ms_if (PW.pt (mw_or (mt_cmp (op_neB (hu64 hr)) (o2_eqB true) (by rfl) (mp_meth PySem.F.slot_list_count PySem.F.type_list_count mt_countV mr_count (mp_var 1) (ma_cons mp_bl ma_nil)) mp_int) (mw_or (mt_not (mt_tru (mp_isx (c := V.ref T.a_MatchError) T.ex T.s_MatchError (fun u h => h) (pe_glob rfl T.k_MatchError rfl) T.n_isinstance (mp_var 0)))) (mw_or1 (mt_not (mt_tru (mp_isx (c := V.ty "ValueError") T.ex T.s_ValueError (fun u h => h) (pe_bltn (v := .ty "ValueError") rfl T.n_ValueError rfl rfl) T.n_isinstance (mp_var 0)))))))) (mss_one (ms_ret mp_str)) mss_nil) (mss_one (ms_ret (mp_idx (mp_lst (ma_cons mp_str (ma_cons mp_str (ma_cons mp_str (ma_cons mp_str (ma_cons mp_str (ma_cons mp_str ma_nil))))))) (mp_meth PySem.F.slot_list_index PySem.F.type_list_index mt_index mr_index (mp_var 1) (ma_cons mp_bl ma_nil))))))))
theorem ok_law_rule (T : Tx K mg cl) (G_law_draw : FnOk cl.P cl.w K mg base (L2.CX cl.P cl.w) 1 T.a_law_draw T.d_law_draw ["_law_draws", "_law_limit"] (spX K cl F_law_draw 2)) (G_law_pick : FnOk cl.P cl.w K mg base (L2.CX cl.P cl.w) 2 T.a_law_pick T.d_law_pick ["_law_draws", "_law_choices"] (spX K cl F_law_pick 2)) : FnOk cl.P cl.w K mg base (L2.CX cl.P cl.w) 3 T.a_law_rule T.d_law_rule ["_law_draws"] (spX K cl F_law_rule 1) :=
  mp_def T.f_law_rule.fn sc_law_rule rfl fun cdv A outer s H E hr tk hp => (mss_cons (ms_par (i := 1) (j := 2) (ma_cons (mp_call G_law_pick defX_len (hr.mono (by decide)) T.f_law_pick.hm T.f_law_pick.fn.kp T.f_law_pick.hb tk (ma_cons (mp_var 0) (ma_cons (mp_lst (ma_cons mp_str (ma_cons mp_str (ma_cons mp_str ma_nil)))) ma_nil))) (ma_cons (mp_call G_law_pick defX_len (hr.mono (by decide)) T.f_law_pick.hm T.f_law_pick.fn.kp T.f_law_pick.hb tk (ma_cons (mp_var 0) (ma_cons (mp_lst (ma_cons mp_str (ma_cons mp_str (ma_cons mp_str (ma_cons mp_str ma_nil))))) ma_nil))) ma_nil)) rfl nd_law_rule rfl rfl (by decide) rfl rfl rfl) (mss_one (ms_ret (mp_tup (ma_cons (mp_bin op_addD o2_add mp_int (mp_call G_law_draw defX_len (hr.mono (by decide)) T.f_law_draw.hm T.f_law_draw.fn.kp T.f_law_draw.hb tk (ma_cons (mp_var 0) (ma_cons mp_int ma_nil)))) (ma_cons (mp_var 1) (ma_cons (mp_bin op_addD o2_add mp_int (mp_call G_law_draw defX_len (hr.mono (by decide)) T.f_law_draw.hm T.f_law_draw.fn.kp T.f_law_draw.hb tk (ma_cons (mp_var 0) (ma_cons mp_int ma_nil)))) (ma_cons (mp_call G_law_pick defX_len (hr.mono (by decide)) T.f_law_pick.hm T.f_law_pick.fn.kp T.f_law_pick.hb tk (ma_cons (mp_var 0) (ma_cons (mp_lst (ma_cons mp_str (ma_cons mp_str ma_nil))) ma_nil))) (ma_cons (mp_var 2) ma_nil)))))))))
theorem ok_law_row (T : Tx K mg cl) (G_law_draw : FnOk cl.P cl.w K mg base (L2.CX cl.P cl.w) 1 T.a_law_draw T.d_law_draw ["_law_draws", "_law_limit"] (spX K cl F_law_draw 2)) (G_law_pick : FnOk cl.P cl.w K mg base (L2.CX cl.P cl.w) 2 T.a_law_pick T.d_law_pick ["_law_draws", "_law_choices"] (spX K cl F_law_pick 2)) : FnOk cl.P cl.w K mg base (L2.CX cl.P cl.w) 3 T.a_law_row T.d_law_row ["_law_draws", "_law_longest"] (spX K cl F_law_row 2) :=
  mp_def T.f_law_row.fn sc_law_row rfl fun cdv A outer s H E hr tk hp => (mss_cons (ms_set (i := 2) (mp_lst ma_nil) nd_law_row rfl (.inl rfl)) (mss_cons (ms_set (i := 3) (mp_call G_law_draw defX_len (hr.mono (by decide)) T.f_law_draw.hm T.f_law_draw.fn.kp T.f_law_draw.hb tk (ma_cons (mp_var 0) (ma_cons (mp_bin op_addD o2_add (mp_var 1) mp_int) ma_nil))) nd_law_row rfl (.inl rfl)) (mss_cons (ms_while hp (mt_cmp op_lt o2_lt (by rfl) (mp_fun call_len_seq fr_len T.n_len rfl (ma_cons (mp_var 2) ma_nil)) (mp_var 3)) (mss_one (ms_set (i := 2) (mp_bin op_addD o2_add (mp_var 2) (mp_bin op_mulD o2_mul (mp_lst (ma_cons (mp_call G_law_draw defX_len (hr.mono (by decide)) T.f_law_draw.hm T.f_law_draw.fn.kp T.f_law_draw.hb tk (ma_cons (mp_var 0) (ma_cons mp_int ma_nil))) ma_nil)) (mp_call G_law_pick defX_len (hr.mono (by decide)) T.f_law_pick.hm T.f_law_pick.fn.kp T.f_law_pick.hb tk (ma_cons (mp_var 0) (ma_cons (mp_lst (ma_cons mp_int (ma_cons mp_int (ma_cons mp_int (ma_cons mp_int ma_nil))))) ma_nil))))) nd_law_row rfl (.inl rfl)))) (mss_one (ms_ret (mp_sl (mp_var 2) mo_none (mo_some (mp_var 3))))))))
theorem ok_law_parsed (T : Tx K mg cl) (G_parse_rule : FnOk cl.P cl.w K mg base (L2.CX cl.P cl.w) 5 T.a_parse_rule T.d_parse_rule ["text"] (spX K cl F_parse_rule 1)) (G_parse_row : FnOk cl.P cl.w K mg base (L2.CX cl.P cl.w) 6 T.a_parse_row T.d_parse_row ["text"] (spX K cl F_parse_row 1)) (G_law_error : FnOk cl.P cl.w K mg base (L2.CX cl.P cl.w) 1 T.a_law_error T.d_law_error ["_law_caught"] (spX K cl F_law_error 1)) : FnOk cl.P cl.w K mg base (L2.CX cl.P cl.w) 7 T.a_law_parsed T.d_law_parsed ["_law_kind", "_law_text"] (spX K cl F_law_parsed 2) :=
  mp_def T.f_law_parsed.fn sc_law_parsed rfl fun cdv A outer s H E hr tk hp => (mss_cons (ms_set (i := 2) mp_non nd_law_parsed rfl (.inl rfl)) (mss_cons (ms_set (i := 3) mp_non nd_law_parsed rfl (.inl rfl)) (mss_cons (ms_try (i := 4) rfl rfl rfl nd_law_parsed rfl rfl ⟨rfl, by decide, .inl T.k_MatchError⟩ T.m_MatchError tk (fun W' pn xe tk hp => (mss_one (ms_set (i := 2) (mp_if (mt_cmp (op_eqB (hu64 hr)) (o2_eqB false) (by rfl) (mp_var 0) mp_int) (mp_call G_parse_rule defX_len (hr.mono (by decide)) T.f_parse_rule.hm T.f_parse_rule.fn.kp T.f_parse_rule.hb tk (ma_cons (mp_var 1) ma_nil)) (mp_call G_parse_row defX_len (hr.mono (by decide)) T.f_parse_row.hm T.f_parse_row.fn.kp T.f_parse_row.hb tk (ma_cons (mp_var 1) ma_nil))) nd_law_parsed rfl (.inl rfl)))) (fun a => (mss_one (ms_set (i := 3) (mp_var 4) nd_law_parsed rfl (.inl rfl))))) (mss_one (ms_ret (mp_if (mt_cmp op_isD (o2_is false) (by rfl) (mp_var 3) mp_non) (mp_var 2) (mp_call G_law_error defX_len (hr.mono (by decide)) T.f_law_error.hm T.f_law_error.fn.kp T.f_law_error.hb tk (ma_cons (mp_var 3) ma_nil))))))))
theorem ok_law_words (T : Tx K mg cl)  : FnOk cl.P cl.w K mg base (L2.CX cl.P cl.w) 1 T.a_law_words T.d_law_words ["_law_kind", "_law_thing"] (spX K cl F_law_words 2) :=
  mp_def T.f_law_words.fn sc_law_words rfl fun cdv A outer s H E hr tk hp => (mss_one (ms_ret (mp_if (mt_cmp (op_eqB (hu64 hr)) (o2_eqB false) (by rfl) (mp_var 0) mp_int) (mp_tm PySem.F.slot_str_join PySem.F.type_str_join mt_join tr_join mp_str (mp_comp (own := [("_law_one", 2)]) rfl nd_law_words (mi_tup (mp_var 1)) (blkOk_by (N := N_law_words) (sc := defScope s_law_words) (by decide +kernel)) (fun _ _ _ _ _ => (mgw_name (i := 2) nd_law_words rfl (.inl rfl) (by decide))) (fun _ _ _ _ _ => mts_nil) (fun _ _ _ _ _ => (mp_funT cr_str fr_str T.n_str rfl (ma_cons (mp_var 2) ma_nil))))) (mp_tm PySem.F.slot_str_join PySem.F.type_str_join mt_join tr_join mp_str (mp_comp (own := [("_law_one", 2)]) rfl nd_law_words (mi_list (mp_var 1)) (blkOk_by (N := N_law_words) (sc := defScope s_law_words) (by decide +kernel)) (fun _ _ _ _ _ => (mgw_name (i := 2) nd_law_words rfl (.inl rfl) (by decide))) (fun _ _ _ _ _ => mts_nil) (fun _ _ _ _ _ => (mp_funT cr_str fr_str T.n_str rfl (ma_cons (mp_var 2) ma_nil))))))))
theorem ok_law_rejected (T : Tx K mg cl) (G_law_parsed : FnOk cl.P cl.w K mg base (L2.CX cl.P cl.w) 7 T.a_law_parsed T.d_law_parsed ["_law_kind", "_law_text"] (spX K cl F_law_parsed 2)) : FnOk cl.P cl.w K mg base (L2.CX cl.P cl.w) 8 T.a_law_rejected T.d_law_rejected [] (spX K cl F_law_rejected 0) :=
  mp_def T.f_law_rejected.fn sc_law_rejected rfl fun cdv A outer s H E hr tk hp => (mss_cons (ms_set (i := 0) (mp_lst (ma_cons mp_non (ma_cons mp_int (ma_cons mp_str (ma_cons mp_str (ma_cons mp_str (ma_cons mp_str (ma_cons mp_str (ma_cons mp_str (ma_cons mp_str (ma_cons mp_str ma_nil))))))))))) nd_law_rejected rfl (.inl rfl)) (mss_cons (ms_set (i := 0) (mp_bin op_addD o2_add (mp_var 0) (mp_lst (ma_cons mp_str (ma_cons mp_str (ma_cons mp_str (ma_cons mp_str (ma_cons mp_str (ma_cons mp_str (ma_cons mp_str ma_nil))))))))) nd_law_rejected rfl (.inl rfl)) (mss_cons (ms_set (i := 0) (mp_bin op_addD o2_add (mp_var 0) (mp_lst (ma_cons mp_str (ma_cons mp_str (ma_cons (mp_tup (ma_cons mp_int (ma_cons mp_str (ma_cons mp_int (ma_cons mp_str (ma_cons mp_str ma_nil)))))) (ma_cons (mp_lst (ma_cons mp_str ma_nil)) (ma_cons mp_str (ma_cons mp_str (ma_cons mp_str (ma_cons (mp_bin op_mulS o2_mulS mp_str mp_int) ma_nil)))))))))) nd_law_rejected rfl (.inl rfl)) (mss_cons (ms_if (mt_cmp (op_neB (hu64 hr)) (o2_eqB true) (by rfl) (mp_comp (own := [("_law_bad", 2)]) rfl nd_law_rejected (mi_list (mp_var 0)) (blkOk_by (N := N_law_rejected) (sc := defScope s_law_rejected) (by decide +kernel)) (fun _ _ _ _ _ => (mgw_name (i := 2) nd_law_rejected rfl (.inl rfl) (by decide))) (fun _ _ _ _ _ => mts_nil) (fun _ _ _ _ _ => (mp_call G_law_parsed defX_len (hr.mono (by decide)) T.f_law_parsed.hm T.f_law_parsed.fn.kp T.f_law_parsed.hb takes0 (ma_cons mp_int (ma_cons (mp_var 2) ma_nil))))) (mp_bin op_mulD o2_mul (mp_lst (ma_cons mp_str ma_nil)) mp_int)) (mss_one (ms_ret mp_bl)) mss_nil) (mss_cons (ms_set (i := 1) (mp_lst (ma_cons mp_non (ma_cons mp_int (ma_cons mp_str (ma_cons mp_str (ma_cons mp_str (ma_cons mp_str (ma_cons mp_str (ma_cons mp_str (ma_cons (mp_lst (ma_cons mp_str ma_nil)) (ma_cons (mp_bin op_mulS o2_mulS mp_str mp_int) (ma_cons mp_str (ma_cons mp_str (ma_cons mp_str (ma_cons mp_str ma_nil))))))))))))))) nd_law_rejected rfl (.inl rfl)) (mss_one (ms_ret (mp_and (mp_cmp (op_eqB (hu64 hr)) (o2_eqB false) (by rfl) (mp_comp (own := [("_law_bad", 2)]) rfl nd_law_rejected (mi_list (mp_var 1)) (blkOk_by (N := N_law_rejected) (sc := defScope s_law_rejected) (by decide +kernel)) (fun _ _ _ _ _ => (mgw_name (i := 2) nd_law_rejected rfl (.inl rfl) (by decide))) (fun _ _ _ _ _ => mts_nil) (fun _ _ _ _ _ => (mp_call G_law_parsed defX_len (hr.mono (by decide)) T.f_law_parsed.hm T.f_law_parsed.fn.kp T.f_law_parsed.hb takes0 (ma_cons mp_int (ma_cons (mp_var 2) ma_nil))))) (mp_bin op_mulD o2_mul (mp_lst (ma_cons mp_str ma_nil)) mp_int)) (mp_and (mp_cmp (op_eqB (hu64 hr)) (o2_eqB false) (by rfl) (mp_call G_law_parsed defX_len (hr.mono (by decide)) T.f_law_parsed.hm T.f_law_parsed.fn.kp T.f_law_parsed.hb tk (ma_cons mp_int (ma_cons mp_str ma_nil))) (mp_lst ma_nil)) (mp_one (mp_cmp (op_eqB (hu64 hr)) (o2_eqB false) (by rfl) (mp_call G_law_parsed defX_len (hr.mono (by decide)) T.f_law_parsed.hm T.f_law_parsed.fn.kp T.f_law_parsed.hb tk (ma_cons mp_int (ma_cons (mp_bin op_mulS o2_mulS mp_str mp_int) ma_nil))) (mp_bin op_mulD o2_mul (mp_lst (ma_cons mp_int ma_nil)) mp_int))))))))))))
theorem ok_law (T : Tx K mg cl) (G_is_rule : FnOk cl.P cl.w K mg base (L2.CX cl.P cl.w) 2 T.a_is_rule T.d_is_rule ["value"] (spX K cl F_is_rule 1)) (G_is_row : FnOk cl.P cl.w K mg base (L2.CX cl.P cl.w) 3 T.a_is_row T.d_is_row ["value"] (spX K cl F_is_row 1)) (G_all_rules : FnOk cl.P cl.w K mg base (L2.CX cl.P cl.w) 1 T.a_all_rules T.d_all_rules [] (spX K cl F_all_rules 0)) (G_format_rule : FnOk cl.P cl.w K mg base (L2.CX cl.P cl.w) 4 T.a_format_rule T.d_format_rule ["rule"] (spX K cl F_format_rule 1)) (G_format_row : FnOk cl.P cl.w K mg base (L2.CX cl.P cl.w) 5 T.a_format_row T.d_format_row ["row"] (spX K cl F_format_row 1)) (G_law_start : FnOk cl.P cl.w K mg base (L2.CX cl.P cl.w) 1 T.a_law_start T.d_law_start ["_law_script"] (spX K cl F_law_start 1)) (G_law_draw : FnOk cl.P cl.w K mg base (L2.CX cl.P cl.w) 1 T.a_law_draw T.d_law_draw ["_law_draws", "_law_limit"] (spX K cl F_law_draw 2)) (G_law_pick : FnOk cl.P cl.w K mg base (L2.CX cl.P cl.w) 2 T.a_law_pick T.d_law_pick ["_law_draws", "_law_choices"] (spX K cl F_law_pick 2)) (G_law_rule : FnOk cl.P cl.w K mg base (L2.CX cl.P cl.w) 3 T.a_law_rule T.d_law_rule ["_law_draws"] (spX K cl F_law_rule 1)) (G_law_row : FnOk cl.P cl.w K mg base (L2.CX cl.P cl.w) 3 T.a_law_row T.d_law_row ["_law_draws", "_law_longest"] (spX K cl F_law_row 2)) (G_law_parsed : FnOk cl.P cl.w K mg base (L2.CX cl.P cl.w) 7 T.a_law_parsed T.d_law_parsed ["_law_kind", "_law_text"] (spX K cl F_law_parsed 2)) (G_law_words : FnOk cl.P cl.w K mg base (L2.CX cl.P cl.w) 1 T.a_law_words T.d_law_words ["_law_kind", "_law_thing"] (spX K cl F_law_words 2)) (G_law_rejected : FnOk cl.P cl.w K mg base (L2.CX cl.P cl.w) 8 T.a_law_rejected T.d_law_rejected [] (spX K cl F_law_rejected 0)) : FnOk cl.P cl.w K mg base (L2.CX cl.P cl.w) 9 T.a_law T.d_law ["_law_script"] (spX K cl F_law 1) :=
  mp_def T.f_law.fn sc_law rfl fun cdv A outer s H E hr tk hp => (mss_cons (ms_set (i := 1) (mp_call G_law_start defX_len (hr.mono (by decide)) T.f_law_start.hm T.f_law_start.fn.kp T.f_law_start.hb tk (ma_cons (mp_var 0) ma_nil)) nd_law rfl (.inl rfl)) (mss_cons (ms_set (i := 2) (mp_lst (ma_cons (mp_call G_law_rule defX_len (hr.mono (by decide)) T.f_law_rule.hm T.f_law_rule.fn.kp T.f_law_rule.hb tk (ma_cons (mp_var 1) ma_nil)) (ma_cons (mp_call G_law_row defX_len (hr.mono (by decide)) T.f_law_row.hm T.f_law_row.fn.kp T.f_law_row.hb tk (ma_cons (mp_var 1) (ma_cons mp_int ma_nil))) ma_nil))) nd_law rfl (.inl rfl)) (mss_cons (ms_set (i := 3) (mp_lst (ma_cons (mp_call G_format_rule defX_len (hr.mono (by decide)) T.f_format_rule.hm T.f_format_rule.fn.kp T.f_format_rule.hb tk (ma_cons (mp_idx (mp_var 2) mp_int) ma_nil)) (ma_cons (mp_call G_format_row defX_len (hr.mono (by decide)) T.f_format_row.hm T.f_format_row.fn.kp T.f_format_row.hb tk (ma_cons (mp_idx (mp_var 2) mp_int) ma_nil)) ma_nil))) nd_law rfl (.inl rfl)) (mss_cons (ms_for hp rfl (mi_range1 T.n_range (ma_cons mp_int ma_nil)) (mg_name (i := 4) nd_law rfl (.inl rfl)) (mss_one (ms_if (PW.pt (mw_or (mt_cmp (op_neB (hu64 hr)) (o2_eqB true) (by rfl) (mp_idx (mp_var 3) (mp_var 4)) (mp_call G_law_words defX_len (hr.mono (by decide)) T.f_law_words.hm T.f_law_words.fn.kp T.f_law_words.hb tk (ma_cons (mp_var 4) (ma_cons (mp_idx (mp_var 2) (mp_var 4)) ma_nil)))) (mw_or1 (mt_cmp (op_neB (hu64 hr)) (o2_eqB true) (by rfl) (mp_call G_law_parsed defX_len (hr.mono (by decide)) T.f_law_parsed.hm T.f_law_parsed.fn.kp T.f_law_parsed.hb tk (ma_cons (mp_var 4) (ma_cons (mp_idx (mp_var 3) (mp_var 4)) ma_nil))) (mp_idx (mp_var 2) (mp_var 4)))))) (mss_one (ms_ret mp_bl)) mss_nil))) (mss_cons (ms_set (i := 5) (mp_lst (ma_cons mp_str (ma_cons mp_str (ma_cons mp_str (ma_cons mp_str (ma_cons mp_str (ma_cons mp_str (ma_cons mp_str (ma_cons mp_str (ma_cons mp_str (ma_cons mp_str (ma_cons mp_str (ma_cons mp_str ma_nil))))))))))))) nd_law rfl (.inl rfl)) (mss_cons (ms_for hp rfl (mi_range1 T.n_range (ma_cons mp_int ma_nil)) (mg_name (i := 6) nd_law rfl (.inl rfl)) (mss_cons (ms_set (i := 4) (mp_call G_law_draw defX_len (hr.mono (by decide)) T.f_law_draw.hm T.f_law_draw.fn.kp T.f_law_draw.hb tk (ma_cons (mp_var 1) (ma_cons mp_int ma_nil))) nd_law rfl (.inl rfl)) (mss_cons (ms_set (i := 7) (mp_idx (mp_var 3) (mp_var 4)) nd_law rfl (.inl rfl)) (mss_cons (ms_set (i := 8) (mp_call G_law_draw defX_len (hr.mono (by decide)) T.f_law_draw.hm T.f_law_draw.fn.kp T.f_law_draw.hb tk (ma_cons (mp_var 1) (ma_cons (mp_bin op_addD o2_add (mp_fun call_len_str fr_lenS T.n_len rfl (ma_cons (mp_var 7) ma_nil)) mp_int) ma_nil))) nd_law rfl (.inl rfl)) (mss_cons (ms_set (i := 9) (mp_call G_law_pick defX_len (hr.mono (by decide)) T.f_law_pick.hm T.f_law_pick.fn.kp T.f_law_pick.hb tk (ma_cons (mp_var 1) (ma_cons (mp_var 5) ma_nil))) nd_law rfl (.inl rfl)) (mss_cons (ms_set (i := 10) (mp_call G_law_pick defX_len (hr.mono (by decide)) T.f_law_pick.hm T.f_law_pick.fn.kp T.f_law_pick.hb tk (ma_cons (mp_var 1) (ma_cons (mp_lst (ma_cons (mp_bin op_addD o2_add (mp_bin op_addD o2_add (mp_slS (mp_var 7) mo_none (mo_some (mp_var 8))) (mp_var 9)) (mp_slS (mp_var 7) (mo_some (mp_bin op_addD o2_add (mp_var 8) mp_int)) mo_none)) (ma_cons (mp_bin op_addD o2_add (mp_bin op_addD o2_add (mp_slS (mp_var 7) mo_none (mo_some (mp_var 8))) (mp_var 9)) (mp_slS (mp_var 7) (mo_some (mp_var 8)) mo_none)) (ma_cons (mp_bin op_addD o2_add (mp_bin op_addD o2_add (mp_bin op_addD o2_add (mp_slS (mp_var 7) mo_none (mo_some (mp_var 8))) mp_str) (mp_var 9)) (mp_slS (mp_var 7) (mo_some (mp_var 8)) mo_none)) ma_nil)))) ma_nil))) nd_law rfl (.inl rfl)) (mss_cons (ms_set (i := 11) (mp_call G_law_parsed defX_len (hr.mono (by decide)) T.f_law_parsed.hm T.f_law_parsed.fn.kp T.f_law_parsed.hb tk (ma_cons (mp_var 4) (ma_cons (mp_var 10) ma_nil))) nd_law rfl (.inl rfl)) (mss_cons (ms_if (PW.pt (mw_and (mt_cmp (op_neB (hu64 hr)) (o2_eqB true) (by rfl) (mp_var 11) mp_str) (mw_and1 (mt_cmp (op_neB (hu64 hr)) (o2_eqB true) (by rfl) (mp_call G_law_words defX_len (hr.mono (by decide)) T.f_law_words.hm T.f_law_words.fn.kp T.f_law_words.hb tk (ma_cons (mp_var 4) (ma_cons (mp_var 11) ma_nil))) (mp_var 10))))) (mss_one (ms_ret mp_bl)) mss_nil) (mss_one (ms_if (PW.pt (mw_and (mt_cmp (op_neB (hu64 hr)) (o2_eqB true) (by rfl) (mp_var 11) mp_str) (mw_and1 (mt_cmp op_isnD (o2_is true) (by rfl) (mp_if (mt_cmp (op_eqB (hu64 hr)) (o2_eqB false) (by rfl) (mp_var 4) mp_int) (mp_call G_is_rule defX_len (hr.mono (by decide)) T.f_is_rule.hm T.f_is_rule.fn.kp T.f_is_rule.hb tk (ma_cons (mp_var 11) ma_nil)) (mp_call G_is_row defX_len (hr.mono (by decide)) T.f_is_row.hm T.f_is_row.fn.kp T.f_is_row.hb tk (ma_cons (mp_var 11) ma_nil))) mp_bl)))) (mss_one (ms_ret mp_bl)) mss_nil)))))))))) (mss_cons (ms_set (i := 12) (mp_lst ma_nil) nd_law rfl (.inl rfl)) (mss_cons (ms_for hp rfl (mi_tup (mp_tup (ma_cons mp_int (ma_cons mp_int (ma_cons mp_int ma_nil))))) (mg_name (i := 13) nd_law rfl (.inr rfl)) (mss_one (ms_for hp rfl (mi_tup (mp_tup (ma_cons mp_str (ma_cons mp_str (ma_cons mp_str ma_nil))))) (mg_name (i := 14) nd_law rfl (.inr rfl)) (mss_one (ms_for hp rfl (mi_tup (mp_tup (ma_cons mp_int (ma_cons mp_int (ma_cons mp_int ma_nil))))) (mg_name (i := 15) nd_law rfl (.inr rfl)) (mss_one (ms_for hp rfl (mi_tup (mp_tup (ma_cons mp_str (ma_cons mp_str ma_nil)))) (mg_name (i := 16) nd_law rfl (.inr rfl)) (mss_one (ms_set (i := 12) (mp_bin op_addD o2_add (mp_var 12) (mp_comp (own := [("_law_serve", 17)]) rfl nd_law (mi_tup (mp_tup (ma_cons mp_str (ma_cons mp_str (ma_cons mp_str (ma_cons mp_str ma_nil)))))) (blkOk_by (N := N_law) (sc := defScope s_law) (by decide +kernel)) (fun _ _ _ _ _ => (mgw_name (i := 17) nd_law rfl (.inl rfl) (by decide))) (fun _ _ _ _ _ => mts_nil) (fun _ _ _ _ _ => (mp_tup (ma_cons (mp_var 13) (ma_cons (mp_var 14) (ma_cons (mp_var 15) (ma_cons (mp_var 16) (ma_cons (mp_var 17) ma_nil))))))))) nd_law rfl (.inl rfl)))))))))) (mss_one (ms_ret (mp_and (mp_call0 G_law_rejected (hr.mono (by decide)) T.f_law_rejected.hm T.f_law_rejected.fn.kp T.f_law_rejected.hb tk) (mp_and (mp_cmp (op_eqB (hu64 hr)) (o2_eqB false) (by rfl) (mp_call0 G_all_rules (hr.mono (by decide)) T.f_all_rules.hm T.f_all_rules.fn.kp T.f_all_rules.hb tk) (mp_var 12)) (mp_one (mp_cmp (op_eqB (hu64 hr)) (o2_eqB false) (by rfl) (mp_fun call_len_seq fr_len T.n_len rfl (ma_cons (mp_var 12) ma_nil)) mp_int))))))))))))))
/-- all the defs, one above another -/
theorem ok_all (T : Tx K mg cl)  : FnOk cl.P cl.w K mg base (L2.CX cl.P cl.w) 9 T.a_law T.d_law ["_law_script"] (spX K cl F_law 1) := by
  have G_is_number_of := ok_is_number_of (base := base) T 
  have G_is_word_of := ok_is_word_of (base := base) T 
  have G_is_rule := ok_is_rule (base := base) T G_is_number_of G_is_word_of
  have G_is_rally := ok_is_rally (base := base) T G_is_number_of
  have G_is_row := ok_is_row (base := base) T G_is_rally
  have G_all_rules := ok_all_rules (base := base) T 
  have G_check_rule := ok_check_rule (base := base) T G_is_rule
  have G_check_row := ok_check_row (base := base) T G_is_row
  have G_format_rule := ok_format_rule (base := base) T G_check_rule
  have G_format_row := ok_format_row (base := base) T G_check_row
  have G_check_text := ok_check_text (base := base) T 
  have G_parse_rule := ok_parse_rule (base := base) T G_all_rules G_format_rule G_check_text
  have G_numbers_in := ok_numbers_in (base := base) T 
  have G_parse_row := ok_parse_row (base := base) T G_is_row G_format_row G_numbers_in G_check_text
  have G_law_start := ok_law_start (base := base) T 
  have G_law_draw := ok_law_draw (base := base) T 
  have G_law_pick := ok_law_pick (base := base) T G_law_draw
  have G_law_error := ok_law_error (base := base) T 
  have G_law_rule := ok_law_rule (base := base) T G_law_draw G_law_pick
  have G_law_row := ok_law_row (base := base) T G_law_draw G_law_pick
  have G_law_parsed := ok_law_parsed (base := base) T G_parse_rule G_parse_row G_law_error
  have G_law_words := ok_law_words (base := base) T 
  have G_law_rejected := ok_law_rejected (base := base) T G_law_parsed
  have G_law := ok_law (base := base) T G_is_rule G_is_row G_all_rules G_format_rule G_format_row G_law_start G_law_draw G_law_pick G_law_rule G_law_row G_law_parsed G_law_words G_law_rejected
  exact G_law
end
/-! ### what the top has written -/
end MP

namespace MP
open PySem L2
/-! ### one step at a time: the meanings as rules -/
section
variable {σ : Env} {st : Store} {Q : D → Store → Prop} {R : XR} {d e : D} {i j : Int} {n : Nat} {a b s : Str} {xs ys : List D} {p q : Bool}
theorem x_var {k : Nat} (e : σ[k]? = some (some d)) (h : Q d st) : xVar k σ st Q R := by unfold xVar; rw [e]; exact h
theorem x_c (h : Q d st) : xC d σ st Q R := h
theorem x_bin {f : XO2} {x y : XE} (h : x σ st (fun d st1 => y σ st1 (fun e st2 => f d e st2 Q) R) R) : xBin f x y σ st Q R := h
theorem x_tup {r : XA} (h : r σ st (fun ds st1 => ds.length ≤ 16777216 ∧ Q (.tup ds) st1) R) : xTup r σ st Q R := h
theorem x_lst {r : XA} (h : r σ st (fun ds st1 => ds.length ≤ 16777216 ∧ Q (.ref st1.length) (st1 ++ [.lst ds])) R) : xLst r σ st Q R := h
theorem a_nil {Q : List D → Store → Prop} (h : Q [] st) : aNil σ st Q R := h
theorem a_cons {Q : List D → Store → Prop} {x : XE} {r : XA} (h : x σ st (fun d st1 => r σ st1 (fun ds st2 => Q (d :: ds) st2) R) R) : aCons x r σ st Q R := h
theorem x_call {F : XF} {r : XA} (h : r σ st (fun ds st1 => F ds st1 Q R) R) : xCall F r σ st Q R := h
theorem x_fun {f : List D → Store → (D → Store → Prop) → Prop} {r : XA} (h : r σ st (fun ds st1 => f ds st1 Q) R) : xFun f r σ st Q R := h
theorem x_meth {f : D → List D → Store → (D → Store → Prop) → Prop} {x : XE} {r : XA} (h : x σ st (fun o st1 => isLst st1 o = true ∧ r σ st1 (fun ds st2 => f o ds st2 Q) R) R) : xMeth f x r σ st Q R := h
/-- the end of a slice -/
def slF (d : D) (lo hi : Option Int) (st : Store) (Q : D → Store → Prop) : Prop := match d with
  | .tup xs => ¬ (HT.sIx xs.length 0 lo = 0 ∧ HT.sIx xs.length xs.length hi = xs.length) ∧ Q (.tup (cutD xs lo hi)) st
  | .ref n => match itemsOf st n with
    | some xs => Q (.ref st.length) (st ++ [.lst (cutD xs lo hi)])
    | none => False
  | _ => False
theorem x_sl {x : XE} {l u : XO} (h : x σ st (fun d st1 => l σ st1 (fun lo st2 => u σ st2 (fun hi st3 => slF d lo hi st3 Q) R) R) R) : xSl x l u σ st Q R := h
theorem sl_t {lo hi : Option Int} (e : ¬ (HT.sIx xs.length 0 lo = 0 ∧ HT.sIx xs.length xs.length hi = xs.length)) (h : Q (.tup (cutD xs lo hi)) st) : slF (.tup xs) lo hi st Q := ⟨e, h⟩
theorem sl_l {lo hi : Option Int} (e : itemsOf st n = some xs) (h : Q (.ref st.length) (st ++ [.lst (cutD xs lo hi)])) : slF (.ref n) lo hi st Q := by unfold slF; dsimp only; rw [e]; exact h
theorem o_none {Q : Option Int → Store → Prop} (h : Q none st) : oNone σ st Q R := h
def oF (d : D) (st : Store) (Q : Option Int → Store → Prop) : Prop := match d with
  | .int i => Q (some i) st
  | _ => False
theorem o_some {x : XE} {Q : Option Int → Store → Prop} (h : x σ st (fun d st1 => oF d st1 Q) R) : oSome x σ st Q R := h
theorem o_int {Q : Option Int → Store → Prop} (h : Q (some i) st) : oF (.int i) st Q := h
-- and, or, not, if
def andF (y : XE) (σ : Env) (d : D) (st1 : Store) (Q : D → Store → Prop) (R : XR) : Prop := match truD st1 d with
  | some true => y σ st1 Q R
  | some false => Q d st1
  | none => False
theorem x_and {x y : XE} (h : x σ st (fun d st1 => andF y σ d st1 Q R) R) : xAnd x y σ st Q R := h
theorem and_b {y : XE} (h1 : p = true → y σ st Q R) (h2 : p = false → Q (.bl false) st) : andF y σ (.bl p) st Q R := by
  cases p with
  | true => exact h1 rfl
  | false => exact h2 rfl
theorem and_bt {y : XE} (e : p = true) (h1 : y σ st Q R) : andF y σ (.bl p) st Q R := by subst e; exact h1
theorem and_bf {y : XE} (e : p = false) (h2 : Q (.bl false) st) : andF y σ (.bl p) st Q R := by subst e; exact h2
def orF (y : XE) (σ : Env) (d : D) (st1 : Store) (Q : D → Store → Prop) (R : XR) : Prop := match truD st1 d with
  | some false => y σ st1 Q R
  | some true => Q d st1
  | none => False
theorem x_or {x y : XE} (h : x σ st (fun d st1 => orF y σ d st1 Q R) R) : xOr x y σ st Q R := h
theorem or_b {y : XE} (h1 : p = false → y σ st Q R) (h2 : p = true → Q (.bl true) st) : orF y σ (.bl p) st Q R := by
  cases p with
  | true => exact h2 rfl
  | false => exact h1 rfl
def notF (d : D) (st1 : Store) (Q : D → Store → Prop) : Prop := match truD st1 d with
  | some b => Q (.bl (!b)) st1
  | none => False
theorem x_not {x : XE} (h : x σ st (fun d st1 => notF d st1 Q) R) : xNot x σ st Q R := h
theorem not_b (h : Q (.bl (!p)) st) : notF (.bl p) st Q := h
theorem x_if {t : XT} {x y : XE} (h : t σ st (fun c st1 => if c = true then x σ st1 Q R else y σ st1 Q R) R) : xIf t x y σ st Q R := h
theorem if_p {A B : Prop} (h1 : p = true → A) (h2 : p = false → B) : if p = true then A else B := by
  cases p with
  | true => exact h1 rfl
  | false => exact h2 rfl
theorem if_t {A B : Prop} (e : p = true) (h : A) : if p = true then A else B := by rw [if_pos e]; exact h
theorem if_f {A B : Prop} (e : p = false) (h : B) : if p = true then A else B := by subst e; exact h
def negF (d : D) (st1 : Store) (Q : D → Store → Prop) : Prop := match d with
  | .int i => Q (.int (-i)) st1
  | _ => False
theorem x_neg {x : XE} (h : x σ st (fun d st1 => negF d st1 Q) R) : dNeg x σ st Q R := h
theorem neg_i (h : Q (.int (-i)) st) : negF (.int i) st Q := h
/-- a list, read or written -/
def isL : O → Bool
  | .lst _ => true
  | .rol _ => true
  | _ => false
theorem lst_and {o : O} {P : Prop} (e : st[n]? = some o) (h : P) (w : isL o = true := by rfl) : isLst st (.ref n) = true ∧ P := ⟨by unfold isLst itemsOf; dsimp only; rw [e]; (cases o <;> first | rfl | cases w), h⟩
-- tests
def bF (d : D) (st : Store) (Q : Bool → Store → Prop) : Prop := match d with
  | .bl b => Q b st
  | _ => False
theorem t_b {x : XE} {Q : Bool → Store → Prop} (h : x σ st (fun d st' => bF d st' Q) R) : xB x σ st Q R := h
theorem b_b {Q : Bool → Store → Prop} (h : Q p st) : bF (.bl p) st Q := h
theorem t_and {x y : XT} {Q : Bool → Store → Prop} (h : x σ st (fun c st1 => if c = true then y σ st1 Q R else Q false st1) R) : tAndX x y σ st Q R := h
theorem t_or {x y : XT} {Q : Bool → Store → Prop} (h : x σ st (fun c st1 => if c = true then Q true st1 else y σ st1 Q R) R) : tOrX x y σ st Q R := h
theorem t_not {x : XT} {Q : Bool → Store → Prop} (h : x σ st (fun c st1 => Q (!c) st1) R) : tNotX x σ st Q R := h
def truF (d : D) (st : Store) (Q : Bool → Store → Prop) : Prop := match truD st d with
  | some b => Q b st
  | none => False
theorem t_tru {x : XE} {Q : Bool → Store → Prop} (h : x σ st (fun d st' => truF d st' Q) R) : xTru x σ st Q R := h
theorem tru_b {Q : Bool → Store → Prop} (h : Q p st) : truF (.bl p) st Q := h
theorem tru_e {Q : Bool → Store → Prop} (e : truD st d = some p) (h : Q p st) : truF d st Q := by unfold truF; rw [e]; exact h
-- operations
theorem d_addI (h : Q (.int (i + j)) st) : dAdd (.int i) (.int j) st Q := h
theorem d_addL {m : Nat} (e1 : st[m]? = some (.lst xs)) (e2 : st[n]? = some (.lst ys)) (hl : xs.length + ys.length ≤ 16777216) (h : Q (.ref st.length) (st ++ [.lst (xs ++ ys)])) : dAdd (.ref m) (.ref n) st Q := by unfold dAdd; dsimp only; rw [e1, e2]; exact ⟨hl, h⟩
theorem d_addT (h1 : xs ≠ []) (hl : xs.length + ys.length ≤ 16777216) (h : Q (.tup (xs ++ ys)) st) : dAdd (.tup xs) (.tup ys) st Q := ⟨h1, hl, h⟩
theorem d_sub (h : Q (.int (i - j)) st) : dSub (.int i) (.int j) st Q := h
theorem d_lt (h : Q (.bl (decide (i < j))) st) : dLt (.int i) (.int j) st Q := h
theorem d_le (h : Q (.bl (decide (i ≤ j))) st) : dLe (.int i) (.int j) st Q := h
theorem d_gt (h : Q (.bl (decide (j < i))) st) : dGt (.int i) (.int j) st Q := h
theorem d_ge (h : Q (.bl (decide (j ≤ i))) st) : dGe (.int i) (.int j) st Q := h
theorem d_mod (e : 0 < j) (h : Q (.int (i % j)) st) : dMod (.int i) (.int j) st Q := ⟨e, h⟩
theorem d_fdiv (e : CDiv i j) (h : Q (.int (i / j)) st) : dFdiv (.int i) (.int j) st Q := ⟨e, h⟩
theorem d_mulI (e : CMul i j) (h : Q (.int (i * j)) st) : dMul (.int i) (.int j) st Q := ⟨e, h⟩
theorem d_mulL {k : Int} (e : st[n]? = some (.lst xs)) (h1 : -(2 ^ 63) ≤ k) (h2 : k < 2 ^ 63) (h3 : xs.length * k.toNat ≤ 16777216) (h : Q (.ref st.length) (st ++ [.lst (List.replicate k.toNat xs).flatten])) : dMul (.ref n) (.int k) st Q := by
  unfold dMul; dsimp only; rw [e]; exact ⟨h1, h2, h3, h⟩
theorem d_pow (e : CPow i j) (h : Q (.int (i ^ j.toNat)) st) : dPow (.int i) (.int j) st Q := ⟨e, h⟩
theorem d_eqI (h : Q (.bl (decide (i = j))) st) : dEqB false (.int i) (.int j) st Q := h
theorem d_neI (h : Q (.bl (!decide (i = j))) st) : dEqB true (.int i) (.int j) st Q := h
theorem d_eqS (h : Q (.bl (decide (a = b))) st) : dEqB false (.str a) (.str b) st Q := h
theorem d_neS (h : Q (.bl (!decide (a = b))) st) : dEqB true (.str a) (.str b) st Q := h
theorem d_eqP {u v : PyData} {neg : Bool} (h1 : toP 30 st d = some u) (h2 : toP 30 st e = some v) (h3 : SeqAt.shaped u = true) (h4 : SeqAt.shaped v = true) (h : Q (.bl (if neg then !PyData.eqv u v else PyData.eqv u v)) st) (hn : ∀ k l, ¬ (d = .int k ∧ e = .int l)) (hs : ∀ k l, ¬ (d = .str k ∧ e = .str l)) : dEqB neg d e st Q := by
  unfold dEqB
  split
  · exact absurd ⟨rfl, rfl⟩ (hn _ _)
  · exact absurd ⟨rfl, rfl⟩ (hs _ _)
  · rw [h1, h2]; exact ⟨h3, h4, h⟩
def isNonD : D → Bool
  | .non => true
  | _ => false
theorem d_is {neg : Bool} (h : Q (.bl (if neg then !isNonD d else isNonD d)) st) : dIs neg d .non st Q := by
  cases d <;> cases neg <;> exact h
theorem d_is0 (h : Q (.bl (isNonD d)) st) : dIs false d .non st Q := d_is (by simpa using h)
theorem d_is1 (h : Q (.bl (!isNonD d)) st) : dIs true d .non st Q := d_is (by simpa using h)
theorem d_isB {neg : Bool} (h : Q (.bl (if neg then !decide (p = q) else decide (p = q))) st) : dIs neg (.bl p) (.bl q) st Q := h
theorem d_inT {neg : Bool} (h1 : flatD d = true) (h2 : ys.all flatD = true) (h : Q (.bl (if neg then !inFl d ys else inFl d ys)) st) : dIn neg d (.tup ys) st Q := ⟨h1, h2, h⟩
theorem d_inL {neg : Bool} (e : itemsOf st n = some ys) (h1 : flatD d = true) (h2 : ys.all flatD = true) (h : Q (.bl (if neg then !inFl d ys else inFl d ys)) st) : dIn neg d (.ref n) st Q := by unfold dIn; dsimp only; rw [e]; exact .inl ⟨h1, h2, h⟩
theorem d_idxT (e : atI xs i = some d) (h : Q d st) : dIdx (.tup xs) (.int i) st Q := by unfold dIdx; dsimp only; rw [e]; exact h
theorem d_idxL (e0 : itemsOf st n = some xs) (e : atI xs i = some d) (h : Q d st) : dIdx (.ref n) (.int i) st Q := by unfold dIdx; dsimp only; rw [e0]; dsimp only; rw [e]; exact h
theorem f_len (e : seqD st d = some xs) (h : Q (.int xs.length) st) : fLen [d] st Q := by unfold fLen; dsimp only; rw [e]; exact h
theorem f_list (e : seqD st d = some xs) (h : Q (.ref st.length) (st ++ [.lst xs])) : fList [d] st Q := by unfold fList; dsimp only; rw [e]; exact h
theorem f_tuple (e : seqD st d = some xs) (h : Q (.tup xs) st) : fTuple [d] st Q := by unfold fTuple; dsimp only; rw [e]; exact h
theorem f_sum {ns : List Int} (e : seqD st d = some xs) (e2 : intsD xs = some ns) (h : Q (.int ns.sum) st) : fSum [d] st Q := by unfold fSum; dsimp only; rw [e]; dsimp only; rw [e2]; exact h
theorem f_min2 {i j : Int} (e : itemsOf st n = some [.int i, .int j]) (h : Q (.int (min i j)) st) : fMin [.ref n] st Q := by
  unfold fMin; dsimp only; rw [e]; dsimp only [intsD]
  refine ⟨min i j, ?_, fun y hy => ?_, h⟩
  · rcases Int.le_total i j with z | z
    · rw [Int.min_eq_left z]; simp
    · rw [Int.min_eq_right z]; simp
  · simp at hy
    omega
theorem f_app {xs : List D} (e : st[n]? = some (.lst xs)) (hl : xs.length < 16777216) (h : Q .non (st.set n (.lst (xs ++ [d])))) : fApp (.ref n) [d] st Q := by unfold fApp; dsimp only; rw [e]; exact ⟨hl, h⟩
theorem f_count (e : itemsOf st n = some xs) (h1 : flatD d = true) (h2 : xs.all flatD = true) (h : Q (.int ((xs.countP fun z => eqFl z d : Nat) : Int)) st) : fCount (.ref n) [d] st Q := by unfold fCount; dsimp only; rw [e]; exact ⟨h1, h2, h⟩
theorem f_index {k : Nat} (e : itemsOf st n = some xs) (h1 : flatD d = true) (h2 : xs.all flatD = true) (h3 : (xs.findIdx? fun z => eqFl z d) = some k) (h : Q (.int (k : Int)) st) : fIndex (.ref n) [d] st Q := by
  unfold fIndex; dsimp only; rw [e]; refine ⟨h1, h2, by rw [h3]; rfl, ?_⟩; rw [h3]; exact h
def isF (T : String) (d : D) (st : Store) (Q : D → Store → Prop) : Prop := match kindD st d with
  | some k => match kitB k T with
    | some b => Q (.bl b) st
    | none => False
  | none => False
theorem x_isi {T : String} {x : XE} (h : x σ st (fun d st1 => isF T d st1 Q) R) : xIsi T x σ st Q R := h
theorem is_k {T k : String} (e : kindD st d = some k) (e2 : kitB k T = some p) (h : Q (.bl p) st) : isF T d st Q := by unfold isF; rw [e]; dsimp only; rw [e2]; exact h
theorem is_ii {i : Int} (h : Q (.bl true) st) : isF "int" (.int i) st Q := is_k (k := "int") rfl (by decide +kernel) h
theorem is_ib {i : Int} (h : Q (.bl false) st) : isF "bool" (.int i) st Q := is_k (k := "int") rfl (by decide +kernel) h
theorem is_ss (h : Q (.bl true) st) : isF "str" (.str s) st Q := is_k (k := "str") rfl (by decide +kernel) h
theorem is_tt (h : Q (.bl true) st) : isF "tuple" (.tup xs) st Q := is_k (k := "tuple") rfl (by decide +kernel) h
theorem is_ll {o : O} (e : st[n]? = some o) (h : Q (.bl true) st) (w : isL o = true := by rfl) : isF "list" (.ref n) st Q := is_k (k := "list") (by unfold kindD; dsimp only; rw [e]; cases o <;> first | rfl | cases w) (by decide +kernel) h
def isxF (sub : Nat → Bool) (d : D) (st : Store) (Q : D → Store → Prop) : Prop := match d with
  | .exc k => Q (.bl (sub k)) st
  | _ => False
theorem x_isx {sub : Nat → Bool} {x : XE} (h : x σ st (fun d st1 => isxF sub d st1 Q) R) : xIsx sub x σ st Q R := h
theorem isx_k {sub : Nat → Bool} {k : Nat} (h : Q (.bl (sub k)) st) : isxF sub (.exc k) st Q := h
def allF (pb : V → Bool) (d : D) (st1 : Store) (Q : D → Store → Prop) : Prop := match d with
  | .ref n => match itemsOf st1 n with
    | some xs => (xs.all fun y => (flD y).isSome) = true ∧ Q (.bl (xs.all (pbD pb))) st1
    | none => False
  | _ => False
theorem x_all {pb : V → Bool} {x : XE} (h : x σ st (fun d st1 => allF pb d st1 Q) R) : xAllR pb x σ st Q R := h
theorem all_l {pb : V → Bool} (e : itemsOf st n = some xs) (h1 : (xs.all fun y => (flD y).isSome) = true) (h : Q (.bl (xs.all (pbD pb))) st) : allF pb (.ref n) st Q := by unfold allF; dsimp only; rw [e]; exact ⟨h1, h⟩
end
section
variable {σ : Env} {st : Store} {D0 : EI} {d : D} {p : Bool}
-- defs
theorem def_in {b : XS} {m n : Nat} {ds : List D} {Q : D → Store → Prop} {R : XR} {σ : Env} (hn : ds.length = n) (e : ds.map some ++ List.replicate (m - n) none = σ) (h : b σ st { nx := fun _ st' => Q .non st', rt := Q, bk := fun _ _ => False, ct := fun _ _ => False, ex := fun c _ st' => R c st' }) : defX b m n ds st Q R := ⟨hn, by rw [e]; exact h⟩
-- statements
theorem s_seq {x y : XS} (h : x σ st { D0 with nx := fun σ1 st1 => y σ1 st1 D0 }) : sSeq x y σ st D0 := h
theorem s_pass (h : D0.nx σ st) : sPass σ st D0 := h
theorem s_ret {x : XE} (h : x σ st D0.rt (fun c st1 => D0.ex c σ st1)) : sRet x σ st D0 := h
theorem s_retN (h : D0.rt .non st) : sRetN σ st D0 := h
theorem s_expr {x : XE} (h : x σ st (fun _ st1 => D0.nx σ st1) (fun c st1 => D0.ex c σ st1)) : sExpr x σ st D0 := h
theorem s_if {t : XT} {x y : XS} (h : t σ st (fun c st1 => if c = true then x σ st1 D0 else y σ st1 D0) (fun c st1 => D0.ex c σ st1)) : sIf t x y σ st D0 := h
theorem s_asg {x : XE} {g : XG} (h : x σ st (fun d st1 => g d σ st1 D0.nx) (fun c st1 => D0.ex c σ st1)) : sAsg x g σ st D0 := h
theorem s_raise {c : Nat} (h : D0.ex c σ st) : sRaise c σ st D0 := h
theorem g_n {i : Nat} {σ' : Env} {k : Env → Store → Prop} (e : σ.set i (some d) = σ') (h : k σ' st) : gN i d σ st k := by subst e; exact h
theorem g_t {n : Nat} {r : List D → Env → Store → (Env → Store → Prop) → Prop} {xs : List D} {k : Env → Store → Prop} (e : xs.length = n) (h : r xs σ st k) : gT n r (.tup xs) σ st k := ⟨e, h⟩
theorem gs_nil {k : Env → Store → Prop} (h : k σ st) : gsNil [] σ st k := ⟨rfl, h⟩
theorem gs_cons {g : XG} {r : List D → Env → Store → (Env → Store → Prop) → Prop} {xs : List D} {k : Env → Store → Prop} (h : g d σ st fun σ1 st1 => r xs σ1 st1 k) : gsCons g r (d :: xs) σ st k := h
def parF (i j : Nat) (σ : Env) (ds : List D) (st1 : Store) (k : Env → Store → Prop) : Prop := match ds with
  | [x, y] => k ((σ.set i (some x)).set j (some y)) st1
  | _ => False
theorem s_par {i j : Nat} {r : XA} (h : r σ st (fun ds st1 => parF i j σ ds st1 D0.nx) (fun c st1 => D0.ex c σ st1)) : sPar i j r σ st D0 := h
theorem par_2 {i j : Nat} {x y : D} {σ' : Env} {k : Env → Store → Prop} (e : (σ.set i (some x)).set j (some y) = σ') (h : k σ' st) : parF i j σ [x, y] st k := by subst e; exact h
def par3F (i j l : Nat) (σ : Env) (ds : List D) (st1 : Store) (k : Env → Store → Prop) : Prop := match ds with
  | [x, y, z] => k (((σ.set i (some x)).set j (some y)).set l (some z)) st1
  | _ => False
theorem s_par3 {i j l : Nat} {r : XA} (h : r σ st (fun ds st1 => par3F i j l σ ds st1 D0.nx) (fun c st1 => D0.ex c σ st1)) : sPar3 i j l r σ st D0 := h
theorem par_3 {i j l : Nat} {x y z : D} {σ' : Env} {k : Env → Store → Prop} (e : ((σ.set i (some x)).set j (some y)).set l (some z) = σ') (h : k σ' st) : par3F i j l σ [x, y, z] st k := by subst e; exact h
theorem s_put {xo xi x : XE} (h : x σ st (fun d st1 => xo σ st1 (fun o st2 => xi σ st2 (fun i st3 => putD o i d st3 fun st4 => D0.nx σ st4) (fun c st1 => D0.ex c σ st1)) (fun c st1 => D0.ex c σ st1)) (fun c st1 => D0.ex c σ st1)) : sPut xo xi x σ st D0 := h
theorem put_l {n : Nat} {z : Int} {v : D} {xs : List D} {j : Nat} {k : Store → Prop} (e : st[n]? = some (.lst xs)) (e2 : ixN xs.length z = some j) (h : k (st.set n (.lst (xs.set j v)))) : putD (.ref n) (.int z) v st k := by
  unfold putD; dsimp only; rw [e]; dsimp only; rw [e2]; exact h
theorem s_augP {f : Int → Int → Int} {xo xi x : XE} (h : xo σ st (fun o st1 => xi σ st1 (fun i st2 => getD o i st2 fun old => x σ st2 (fun d st3 => augI f old d fun new => putD o i new st3 fun st4 => D0.nx σ st4) (fun c st1 => D0.ex c σ st1)) (fun c st1 => D0.ex c σ st1)) (fun c st1 => D0.ex c σ st1)) : sAugP f xo xi x σ st D0 := h
theorem get_l {n : Nat} {z : Int} {xs : List D} {k : D → Prop} (e : itemsOf st n = some xs) (e2 : atI xs z = some d) (h : k d) : getD (.ref n) (.int z) st k := by
  unfold getD; dsimp only; rw [e]; dsimp only; rw [e2]; exact h
theorem aug_i {f : Int → Int → Int} {i j : Int} {k : D → Prop} (h : k (.int (f i j))) : augI f (.int i) (.int j) k := h
theorem s_try {sub : Nat → Bool} {i : Nat} {x y : XS} (h : x σ st { D0 with ex := fun c σ1 st1 => if sub c = true then y (σ1.set i (some (.exc c))) st1 (tryE i D0) else D0.ex c σ1 st1 }) : sTry sub i x y σ st D0 := h
-- loops
theorem s_for {it : XI} {g : XG} {b : XS} (h : it σ st (fun ik st1 => loopW ik g b σ st1 D0) (fun c st1 => D0.ex c σ st1)) : sFor it g b σ st D0 := h
def iLF (d : D) (st1 : Store) (Q : IK → Store → Prop) : Prop := match d with
  | .ref n => (itemsOf st1 n).isSome = true ∧ Q (.lst n) st1
  | _ => False
theorem i_l {x : XE} {Q : IK → Store → Prop} {R : XR} (h : x σ st (fun d st1 => iLF d st1 Q) R) : iL x σ st Q R := h
theorem il_l {n : Nat} {xs : List D} {Q : IK → Store → Prop} (e : itemsOf st n = some xs) (h : Q (.lst n) st) : iLF (.ref n) st Q := ⟨by rw [e]; rfl, h⟩
def iTF (d : D) (st1 : Store) (Q : IK → Store → Prop) : Prop := match d with
  | .tup xs => Q (.tup xs) st1
  | _ => False
theorem i_t {x : XE} {Q : IK → Store → Prop} {R : XR} (h : x σ st (fun d st1 => iTF d st1 Q) R) : iT x σ st Q R := h
theorem it_t {xs : List D} {Q : IK → Store → Prop} (h : Q (.tup xs) st) : iTF (.tup xs) st Q := h
def iR1F (ds : List D) (st1 : Store) (Q : IK → Store → Prop) : Prop := match ds with
  | [.int j] => -(2 ^ 62) ≤ j ∧ j < 2 ^ 62 ∧ Q (.rng 0 j.toNat) st1
  | _ => False
theorem i_r1 {x : XA} {Q : IK → Store → Prop} {R : XR} (h : x σ st (fun d st1 => iR1F d st1 Q) R) : iR1 x σ st Q R := h
theorem ir_1 {j : Int} {Q : IK → Store → Prop} (h1 : -(2 ^ 62) ≤ j) (h2 : j < 2 ^ 62) (h : Q (.rng 0 j.toNat) st) : iR1F [.int j] st Q := ⟨h1, h2, h⟩
def iR2F (ds : List D) (st1 : Store) (Q : IK → Store → Prop) : Prop := match ds with
  | [.int i, .int j] => -(2 ^ 62) ≤ i ∧ i < 2 ^ 62 ∧ -(2 ^ 62) ≤ j ∧ j < 2 ^ 62 ∧ Q (.rng i (j - i).toNat) st1
  | _ => False
theorem i_r2 {x : XA} {Q : IK → Store → Prop} {R : XR} (h : x σ st (fun d st1 => iR2F d st1 Q) R) : iR2 x σ st Q R := h
theorem ir_2 {i j : Int} {Q : IK → Store → Prop} (h1 : -(2 ^ 62) ≤ i) (h2 : i < 2 ^ 62) (h3 : -(2 ^ 62) ≤ j) (h4 : j < 2 ^ 62) (h : Q (.rng i (j - i).toNat) st) : iR2F [.int i, .int j] st Q := ⟨h1, h2, h3, h4, h⟩
def iEF (ds : List D) (st1 : Store) (Q : IK → Store → Prop) : Prop := match ds with
  | [.ref n] => (itemsOf st1 n).isSome = true ∧ Q (.enm n) st1
  | _ => False
theorem i_e {x : XA} {Q : IK → Store → Prop} {R : XR} (h : x σ st (fun d st1 => iEF d st1 Q) R) : iE x σ st Q R := h
theorem ie_l {n : Nat} {xs : List D} {Q : IK → Store → Prop} (e : itemsOf st n = some xs) (h : Q (.enm n) st) : iEF [.ref n] st Q := ⟨by rw [e]; rfl, h⟩
def iZF (ds : List D) (st1 : Store) (Q : IK → Store → Prop) : Prop := match ds with
  | [.ref m, .ref n] => (itemsOf st1 m).isSome = true ∧ (itemsOf st1 n).isSome = true ∧ Q (.zip m n) st1
  | _ => False
theorem i_z {x : XA} {Q : IK → Store → Prop} {R : XR} (h : x σ st (fun d st1 => iZF d st1 Q) R) : iZ x σ st Q R := h
theorem iz_l {m n : Nat} {xs ys : List D} {Q : IK → Store → Prop} (e : itemsOf st m = some xs) (e2 : itemsOf st n = some ys) (h : Q (.zip m n) st) : iZF [.ref m, .ref n] st Q := ⟨by rw [e]; rfl, by rw [e2]; rfl, h⟩
/-- a loop over a written tuple, turn by turn -/
def runT (g : XG) (body : XS) : List D → Env → Store → EI → Prop
  | [], σ, st, D0 => D0.nx σ st
  | x :: r, σ, st, D0 => g x σ st fun σ2 st2 => body σ2 st2 { D0 with nx := fun σ3 st3 => runT g body r σ3 st3 D0, ct := fun σ3 st3 => runT g body r σ3 st3 D0, bk := D0.nx }
theorem l_tup {xs : List D} {g : XG} {body : XS} (h : runT g body xs σ st D0) : loopW (.tup xs) g body σ st D0 := by
  refine ⟨fun i m σ' st' => m = xs.length - i ∧ i ≤ xs.length ∧ runT g body (xs.drop i) σ' st' D0, ⟨xs.length, by simp, Nat.zero_le _, by simpa using h⟩, ?_⟩
  rintro i m σ' st' ⟨hm, hi, hr⟩
  by_cases he : i = xs.length
  · subst he
    rw [List.drop_length] at hr
    exact .inl ⟨by simp [itemAt], hr⟩
  · have hlt : i < xs.length := by omega
    rw [List.drop_eq_getElem_cons hlt] at hr
    refine .inr ⟨xs[i], by simp [itemAt, hlt], fun σ3 st3 => runT g body (xs.drop (i + 1)) σ3 st3 D0, fun σ3 st3 h3 => ⟨xs.length - (i + 1), by omega, rfl, by omega, h3⟩, hr⟩
theorem r_nil {g : XG} {body : XS} (h : D0.nx σ st) : runT g body [] σ st D0 := h
theorem r_cons {g : XG} {body : XS} {x : D} {r : List D} (h : g x σ st fun σ2 st2 => body σ2 st2 { D0 with nx := fun σ3 st3 => runT g body r σ3 st3 D0, ct := fun σ3 st3 => runT g body r σ3 st3 D0, bk := D0.nx }) : runT g body (x :: r) σ st D0 := h
/-- a loop by an invariant over the turns: n turns, the k-th item is it k -/
theorem l_inv {ik : IK} {g : XG} {body : XS} (n : Nat) (item : Nat → D) (I : Nat → Env → Store → Prop) (h0 : I 0 σ st) (hi : ∀ k σ' st', k < n → I k σ' st' → itemAt ik k st' = some (some (item k))) (hs : ∀ σ' st', I n σ' st' → itemAt ik n st' = some none ∧ D0.nx σ' st')
    (hb : ∀ k σ' st', k < n → I k σ' st' → g (item k) σ' st' fun σ2 st2 => body σ2 st2 { D0 with nx := I (k + 1), ct := I (k + 1), bk := D0.nx }) : loopW ik g body σ st D0 := by
  refine ⟨fun i m σ' st' => m = n - i ∧ i ≤ n ∧ I i σ' st', ⟨n, by simp, Nat.zero_le _, h0⟩, ?_⟩
  rintro i m σ' st' ⟨hm, hi2, hI⟩
  by_cases he : i = n
  · subst he
    exact .inl (hs _ _ hI)
  · have hlt : i < n := by omega
    exact .inr ⟨item i, hi i _ _ hlt hI, I (i + 1), fun σ3 st3 h3 => ⟨n - (i + 1), by omega, rfl, by omega, h3⟩, hb i _ _ hlt hI⟩
/-- while, by an invariant and a measure -/
def whF (I : Nat → Env → Store → Prop) (m : Nat) (body : XS) (σ : Env) (c : Bool) (st1 : Store) (D0 : EI) : Prop :=
  if c = true then ∃ N : Env → Store → Prop, (∀ σ' st', N σ' st' → ∃ m', m' < m ∧ I m' σ' st') ∧ body σ st1 { D0 with nx := N, ct := N, bk := D0.nx } else D0.nx σ st1
theorem wh_p {I : Nat → Env → Store → Prop} {m : Nat} {body : XS} (h1 : p = true → body σ st { D0 with nx := fun σ3 st3 => ∃ m', m' < m ∧ I m' σ3 st3, ct := fun σ3 st3 => ∃ m', m' < m ∧ I m' σ3 st3, bk := D0.nx }) (h2 : p = false → D0.nx σ st) : whF I m body σ p st D0 := by
  unfold whF
  cases p with
  | true => rw [if_pos rfl]; exact ⟨_, fun _ _ h => h, h1 rfl⟩
  | false => exact h2 rfl
theorem w_inv {t : XT} {body : XS} (I : Nat → Env → Store → Prop) (m0 : Nat) (h0 : I m0 σ st)
    (hb : ∀ m σ' st', I m σ' st' → t σ' st' (fun c st1 => whF I m body σ' c st1 D0) (fun c st1 => D0.ex c σ' st1)) : sWhile t body σ st D0 := ⟨I, ⟨m0, h0⟩, hb⟩
end
/-! stores that grow -/
theorem get_app (st gs : Store) (k : Nat) : (st ++ gs)[st.length + k]? = gs[k]? := by rw [List.getElem?_append_right (by omega)]; congr 1; omega
theorem get_app0 (st gs : Store) : (st ++ gs)[st.length]? = gs[0]? := get_app st gs 0
theorem set_app (st gs : Store) (k : Nat) (o : O) : (st ++ gs).set (st.length + k) o = st ++ gs.set k o := by rw [List.set_append_right _ _ (by omega)]; congr 2; omega
theorem set_app0 (st gs : Store) (o : O) : (st ++ gs).set st.length o = st ++ gs.set 0 o := set_app st gs 0 o
theorem items_app (st gs : Store) (k : Nat) : itemsOf (st ++ gs) (st.length + k) = itemsOf gs k := by unfold itemsOf; rw [get_app]
theorem items_app0 (st gs : Store) : itemsOf (st ++ gs) st.length = itemsOf gs 0 := items_app st gs 0
theorem items_old {st gs : Store} {n : Nat} {xs : List D} (e : itemsOf st n = some xs) : itemsOf (st ++ gs) n = some xs := by
  unfold itemsOf at e ⊢
  cases h : st[n]? with
  | none => rw [h] at e; cases e
  | some o => rw [List.getElem?_append_left (List.getElem?_eq_some_iff.mp h).1, h]; rw [h] at e; exact e
/-! comprehensions -/
section
variable {σ : Env} {st : Store} {Q : D → Store → Prop} {R : XR}
theorem x_comp {it : XI} {vs : List Nat} {g : XG} {t : XT} {e : XE} (h : it σ st (fun ik st1 => compW ik g t e (wipeD σ vs) st1.length st1 Q) R) : xComp it vs g t e σ st Q R := h
theorem c_inv {ik : IK} {g : XG} {e : XE} (N : Nat) (item val : Nat → D) (hN : N ≤ 16777216) (hi : ∀ k o gb, k < N → itemAt ik k (st ++ o :: gb) = some (some (item k))) (he : ∀ o gb, itemAt ik N (st ++ o :: gb) = some none)
    (hb : ∀ k gb (K : D → Store → Prop), k < N → (∀ gb', K (val k) (st ++ O.lst ((List.range k).map val) :: gb')) → g (item k) σ (st ++ O.lst ((List.range k).map val) :: gb) fun σ2 st2 => e σ2 st2 K botR)
    (hQ : ∀ gb, Q (.ref st.length) (st ++ O.lst ((List.range N).map val) :: gb)) : compW ik g tYesX e σ st.length st Q := by
  refine ⟨fun k m st' => m = N - k ∧ k ≤ N ∧ ∃ gb, st' = st ++ O.lst ((List.range k).map val) :: gb, ⟨N, by simp, Nat.zero_le _, [], rfl⟩, ?_⟩
  rintro k m st' ⟨hm, hk, gb, rfl⟩
  by_cases hE : k = N
  · subst hE
    exact .inl ⟨he _ _, hQ gb⟩
  · have hlt : k < N := by omega
    refine .inr ⟨item k, hi k _ gb hlt, fun st3 => ∃ gb', st3 = st ++ O.lst ((List.range (k + 1)).map val) :: gb', fun st3 h3 => ⟨N - (k + 1), by omega, rfl, by omega, h3⟩, ?_⟩
    have mono := hb k gb (fun y st4 => ∃ acc, st4[st.length]? = some (.lst acc) ∧ acc.length < 16777216 ∧ ∃ gb', st4.set st.length (.lst (acc ++ [y])) = st ++ O.lst ((List.range (k + 1)).map val) :: gb') hlt (fun gb' => ?_)
    · exact mono
    · refine ⟨(List.range k).map val, by simp, by simp; omega, gb', ?_⟩
      simp [List.range_succ]
end
end MP

namespace MP
open PySem L2
section
variable {σ : Env} {st : Store} {Q : D → Store → Prop} {R : XR} {d e y : D} {n : Nat} {p : Bool} {kvs : List (DI.KY × D)} {ep : Nat} {k : DI.KY}
def fldF (kc : Nat) (f : Str) (o : D) (st1 : Store) (Q : D → Store → Prop) : Prop := ∃ n fs d, o = .ref n ∧ st1[n]? = some (.ins fs kc) ∧ fs.lookup f = some d ∧ Q d st1
theorem x_fld {kc : Nat} {f : Str} {x : XE} (h : x σ st (fun o st1 => fldF kc f o st1 Q) R) : xFld kc f x σ st Q R := h
theorem fld_i {kc : Nat} {f : Str} {fs : List (Str × D)} (e : st[n]? = some (.ins fs kc)) (el : fs.lookup f = some d) (h : Q d st) : fldF kc f (.ref n) st Q := ⟨n, fs, d, rfl, e, el, h⟩
def chF (g : XO2) (y : D) (c : XE) (σ : Env) (d : D) (st3 : Store) (Q : D → Store → Prop) (R : XR) : Prop := ∃ k, d = .bl k ∧ if k = true then c σ st3 (fun z st4 => g y z st4 Q) R else Q (.bl false) st3
theorem x_chain {f g : XO2} {a b c : XE} (h : a σ st (fun x st1 => b σ st1 (fun y st2 => f x y st2 (fun d st3 => chF g y c σ d st3 Q R)) R) R) : xChain f g a b c σ st Q R := h
theorem ch_p {g : XO2} {c : XE} (h1 : p = true → c σ st (fun z st4 => g y z st4 Q) R) (h2 : p = false → Q (.bl false) st) : chF g y c σ (.bl p) st Q R := by
  refine ⟨p, rfl, ?_⟩
  cases p with
  | true => rw [if_pos rfl]; exact h1 rfl
  | false => rw [if_neg Bool.false_ne_true]; exact h2 rfl
theorem k_get (e1 : st[n]? = some (.dic kvs ep)) (ek : keyD y = some k) (eg : getA kvs k = some d) (h : Q d st) : dDix (.ref n) y st Q := ⟨n, kvs, ep, k, d, rfl, e1, ek, eg, h⟩
theorem k_in {neg : Bool} (e1 : st[n]? = some (.dic kvs ep)) (ek : keyD y = some k) (h : Q (.bl (if neg = true then !(getA kvs k).isSome else (getA kvs k).isSome)) st) : dDin neg y (.ref n) st Q := ⟨n, kvs, ep, k, rfl, e1, ek, h⟩
theorem x_new (h : Q (.ref st.length) (st ++ [.dic [] 0])) : xNew σ st Q R := h
def dispF (n : Nat) (kd vd : D) (st2 : Store) (Q : D → Store → Prop) : Prop := st2[n]? = some (.dic [] 0) ∧ ∃ k, keyD kd = some k ∧ ∀ ep, Q (.ref n) (st2.set n (.dic [(k, vd)] ep))
theorem x_disp {xk xv : XE} (h : xk σ (st ++ [.dic [] 0]) (fun kd st1 => xv σ st1 (fun vd st2 => dispF st.length kd vd st2 Q) R) R) : xDisp xk xv σ st Q R := h
def truKF (d : D) (st1 : Store) (Q : Bool → Store → Prop) : Prop := ∃ n kvs ep, d = .ref n ∧ st1[n]? = some (.dic kvs ep) ∧ Q (!kvs.isEmpty) st1
theorem t_truk {Q : Bool → Store → Prop} {x : XE} (h : x σ st (fun d st1 => truKF d st1 Q) R) : xTruK x σ st Q R := h
theorem truk_i {Q : Bool → Store → Prop} (e : st[n]? = some (.dic kvs ep)) (h : Q (!kvs.isEmpty) st) : truKF (.ref n) st Q := ⟨n, kvs, ep, rfl, e, h⟩
theorem x_make {kc : Nat} {F : XF} {a : XA} (h : a σ st (fun ds st1 => F (.ref st1.length :: ds) (st1 ++ [.ins [] kc]) (fun v st2 => v = .non ∧ Q (.ref st1.length) st2) botR) R) : xMake kc F a σ st Q R := h
def meF (kc : Nat) (m : Str) (F : XF) (a : XA) (σ : Env) (o : D) (st1 : Store) (Q : D → Store → Prop) (R : XR) : Prop := ∃ n fs, o = .ref n ∧ st1[n]? = some (.ins fs kc) ∧ fs.lookup m = none ∧ a σ st1 (fun ds st2 => F (o :: ds) st2 Q botR) R
theorem x_meo {kc : Nat} {m : Str} {F : XF} {x : XE} {a : XA} (h : x σ st (fun o st1 => meF kc m F a σ o st1 Q R) R) : xMeO kc m F x a σ st Q R := h
theorem me_i {kc : Nat} {m : Str} {F : XF} {a : XA} {fs : List (Str × D)} (e : st[n]? = some (.ins fs kc)) (el : fs.lookup m = none) (h : a σ st (fun ds st2 => F (.ref n :: ds) st2 Q botR) R) : meF kc m F a σ (.ref n) st Q R := ⟨n, fs, rfl, e, el, h⟩
theorem f_all {bs : List Bool} (e : itemsOf st n = some (bs.map D.bl)) (h : Q (.bl (bs.all id)) st) : fAll [.ref n] st Q := ⟨n, bs, rfl, e, h⟩
def iDF (f : Nat → Nat → Nat → IK) (d : D) (st1 : Store) (Q : IK → Store → Prop) : Prop := match d with
  | .ref n => match st1[n]? with
    | some (.dic kvs ep) => Q (f n ep kvs.length) st1
    | _ => False
  | _ => False
theorem i_d {f : Nat → Nat → Nat → IK} {x : XE} {Q : IK → Store → Prop} (h : x σ st (fun d st1 => iDF f d st1 Q) R) : iD f x σ st Q R := h
theorem id_k {f : Nat → Nat → Nat → IK} {Q : IK → Store → Prop} (e : st[n]? = some (.dic kvs ep)) (h : Q (f n ep kvs.length) st) : iDF f (.ref n) st Q := by unfold iDF; dsimp only; rw [e]; exact h
def iETF (ds : List D) (st1 : Store) (Q : IK → Store → Prop) : Prop := match ds with
  | [.tup xs] => Q (.enmT xs) st1
  | _ => False
theorem i_et {x : XA} {Q : IK → Store → Prop} (h : x σ st (fun ds st1 => iETF ds st1 Q) R) : iET x σ st Q R := h
theorem iet_t {xs : List D} {Q : IK → Store → Prop} (h : Q (.enmT xs) st) : iETF [.tup xs] st Q := h
def iZTF (ds : List D) (st1 : Store) (Q : IK → Store → Prop) : Prop := match ds with
  | [.tup xs, .tup ys] => Q (.zipT xs ys) st1
  | _ => False
theorem i_zt {x : XA} {Q : IK → Store → Prop} (h : x σ st (fun ds st1 => iZTF ds st1 Q) R) : iZT x σ st Q R := h
theorem izt_t {xs ys : List D} {Q : IK → Store → Prop} (h : Q (.zipT xs ys) st) : iZTF [.tup xs, .tup ys] st Q := h
end
section
variable {σ : Env} {st : Store} {D0 : EI} {d : D} {n : Nat}
theorem s_putk {xo xi x : XE} (h : x σ st (fun d st1 => xo σ st1 (fun o st2 => xi σ st2 (fun i st3 => putK o i d st3 fun st4 => D0.nx σ st4) (fun c st1 => D0.ex c σ st1)) (fun c st1 => D0.ex c σ st1)) (fun c st1 => D0.ex c σ st1)) : sPutK xo xi x σ st D0 := h
theorem put_k {i v : D} {kk : Store → Prop} {kvs : List (DI.KY × D)} {ep : Nat} {k : DI.KY} (e : st[n]? = some (.dic kvs ep)) (ek : keyD i = some k) (hl : kvs.length < 16777216) (h : ∀ ep', kk (st.set n (.dic (putA kvs k v) ep'))) : putK (.ref n) i v st kk := ⟨n, kvs, ep, k, rfl, e, ek, hl, h⟩
def fldPF (kc : Nat) (f : Str) (d o : D) (st2 : Store) (kk : Store → Prop) : Prop := ∃ n fs, o = .ref n ∧ st2[n]? = some (.ins fs kc) ∧ fs.length < 1000 ∧ kk (st2.set n (.ins (putFD f d fs) kc))
theorem s_fldp {kc : Nat} {f : Str} {xo x : XE} (h : x σ st (fun d st1 => xo σ st1 (fun o st2 => fldPF kc f d o st2 fun st3 => D0.nx σ st3) (fun c st1 => D0.ex c σ st1)) (fun c st1 => D0.ex c σ st1)) : sFldP kc f xo x σ st D0 := h
theorem fldp_i {kc : Nat} {f : Str} {fs : List (Str × D)} {kk : Store → Prop} (e : st[n]? = some (.ins fs kc)) (hl : fs.length < 1000) (h : kk (st.set n (.ins (putFD f d fs) kc))) : fldPF kc f d (.ref n) st kk := ⟨n, fs, rfl, e, hl, h⟩
end
/-- a comprehension by an invariant: what is collected so far stands at the new place -/
theorem c_gen {ik : IK} {g : XG} {t : XT} {e : XE} {σ : Env} {st : Store} {Q : D → Store → Prop} (N : Nat) (item : Nat → D) (I : Nat → List D → Store → Prop) (hN : N ≤ 16777216) (h0 : I 0 [] (st ++ [.lst []]))
    (hl : ∀ k acc st', I k acc st' → st'[st.length]? = some (.lst acc) ∧ acc.length ≤ k)
    (hi : ∀ k acc st', k < N → I k acc st' → itemAt ik k st' = some (some (item k))) (he : ∀ acc st', I N acc st' → itemAt ik N st' = some none ∧ Q (.ref st.length) st')
    (hb : ∀ k acc st' (K : D → Store → Prop) (M : Store → Prop), k < N → I k acc st' → (∀ y st4, st4[st.length]? = some (.lst acc) → I (k + 1) (acc ++ [y]) (st4.set st.length (.lst (acc ++ [y]))) → K y st4) → (∀ st3, I (k + 1) acc st3 → M st3) →
      g (item k) σ st' fun σ2 st2 => t σ2 st2 (fun b st3 => if b = true then e σ2 st3 K botR else M st3) botR) : compW ik g t e σ st.length st Q := by
  refine ⟨fun k m st' => m = N - k ∧ k ≤ N ∧ ∃ acc, I k acc st', ⟨N, by simp, Nat.zero_le _, [], h0⟩, ?_⟩
  rintro k m st' ⟨hm, hk, acc, hI⟩
  by_cases hE : k = N
  · subst hE
    exact .inl (he _ _ hI)
  · have hlt : k < N := by omega
    refine .inr ⟨item k, hi k _ _ hlt hI, fun st3 => ∃ acc, I (k + 1) acc st3, fun st3 h3 => ⟨N - (k + 1), by omega, rfl, by omega, h3⟩, ?_⟩
    exact hb k acc st' _ _ hlt hI (fun y st4 e1 h => ⟨acc, e1, by have := (hl k acc st' hI).2; omega, _, h⟩) fun st3 h => ⟨acc, h⟩
end MP

namespace MP
open PySem L2
abbrev rD (p : Int) (l : Str) (g : Int) (d s : Str) : D := .tup [.int p, .str l, .int g, .str d, .str s]
abbrev stD (sv a b g0 g1 t : Int) : D := .tup [.int sv, .int a, .int b, .int g0, .int g1, .int t]
def mwI (G g0 g1 : Int) : D := if g0 = G then .int 0 else if g1 = G then .int 1 else .non
/-- a rule -/
structure RuleOk (p : Int) (l : Str) (g : Int) (d s : Str) : Prop where
  p : p = 2 ∨ p = 3 ∨ p = 4
  l : l = "one" ∨ l = "two" ∨ l = "cap"
  g : g = 1 ∨ g = 2 ∨ g = 3
  d : d = "same" ∨ d = "longer"
  s : s = "games" ∨ s = "twos" ∨ s = "winner" ∨ s = "only"
section
variable {p G sv a b g0 g1 t i : Int} {l d s : Str} {st : Store} {Q : D → Store → Prop} {R : XR}
theorem w_is_number_of {js : List D} (hj : js.all flatD = true) (h : Q (.bl (inFl (.int i) js)) st) : F_is_number_of [.int i, .tup js] st Q R := by
  refine def_in rfl (by simp only [List.map_cons, List.map_nil, List.cons_append, List.nil_append, Nat.reduceSub, List.replicate_succ, List.replicate_zero, List.append_nil, List.length_cons, List.length_nil]; exact rfl) ?_
  unfold b_is_number_of
  (repeat (with_reducible first|refine x_bin ?_|refine a_nil ?_|refine a_cons ?_|refine x_call ?_|refine x_fun ?_|refine x_and ?_|refine x_not ?_|refine not_b ?_|refine t_b ?_|refine b_b ?_|refine t_or ?_|refine t_not ?_|refine t_tru ?_|refine tru_b ?_|refine d_gt ?_|refine d_neI ?_|refine x_isi ?_|refine s_seq ?_|refine s_pass ?_|refine s_ret ?_|refine s_if ?_|refine s_asg ?_|refine gs_nil ?_|refine gs_cons ?_|refine i_l ?_|refine x_comp ?_|refine x_c ?_|refine is_ii ?_|refine is_ib ?_|refine is_ss ?_|refine is_tt ?_|refine x_var (by with_unfolding_all rfl) ?_|refine g_n (by simp only [List.set_cons_zero, List.set_cons_succ]; exact rfl) ?_|refine g_t (by with_unfolding_all rfl) ?_|refine if_f (by decide) ?_|refine and_bt (by decide) ?_|dsimp only))
  exact d_inT rfl hj h
theorem w_is_word_of {js : List D} (hj : js.all flatD = true) (h : Q (.bl (inFl (.str l) js)) st) : F_is_word_of [.str l, .tup js] st Q R := by
  refine def_in rfl (by simp only [List.map_cons, List.map_nil, List.cons_append, List.nil_append, Nat.reduceSub, List.replicate_succ, List.replicate_zero, List.append_nil, List.length_cons, List.length_nil]; exact rfl) ?_
  unfold b_is_word_of
  (repeat (with_reducible first|refine x_bin ?_|refine a_nil ?_|refine a_cons ?_|refine x_call ?_|refine x_fun ?_|refine x_and ?_|refine x_not ?_|refine not_b ?_|refine t_b ?_|refine b_b ?_|refine t_or ?_|refine t_not ?_|refine t_tru ?_|refine tru_b ?_|refine d_gt ?_|refine d_neI ?_|refine x_isi ?_|refine s_seq ?_|refine s_pass ?_|refine s_ret ?_|refine s_if ?_|refine s_asg ?_|refine gs_nil ?_|refine gs_cons ?_|refine i_l ?_|refine x_comp ?_|refine x_c ?_|refine is_ii ?_|refine is_ib ?_|refine is_ss ?_|refine is_tt ?_|refine x_var (by with_unfolding_all rfl) ?_|refine g_n (by simp only [List.set_cons_zero, List.set_cons_succ]; exact rfl) ?_|refine g_t (by with_unfolding_all rfl) ?_|refine if_f (by decide) ?_|refine and_bt (by decide) ?_|dsimp only))
  exact d_inT rfl hj h
theorem w_is_rule (hv : RuleOk p l G d s) (h : Q (.bl true) st) : F_is_rule [rD p l G d s] st Q R := by
  refine def_in rfl (by simp only [List.map_cons, List.map_nil, List.cons_append, List.nil_append, Nat.reduceSub, List.replicate_succ, List.replicate_zero, List.append_nil, List.length_cons, List.length_nil]; exact rfl) ?_
  unfold b_is_rule
  (repeat (with_reducible first|refine x_bin ?_|refine a_nil ?_|refine a_cons ?_|refine x_call ?_|refine x_fun ?_|refine x_and ?_|refine x_not ?_|refine not_b ?_|refine t_b ?_|refine b_b ?_|refine t_or ?_|refine t_not ?_|refine t_tru ?_|refine tru_b ?_|refine d_gt ?_|refine d_neI ?_|refine x_isi ?_|refine s_seq ?_|refine s_pass ?_|refine s_ret ?_|refine s_if ?_|refine s_asg ?_|refine gs_nil ?_|refine gs_cons ?_|refine i_l ?_|refine x_comp ?_|refine x_c ?_|refine is_ii ?_|refine is_ib ?_|refine is_ss ?_|refine is_tt ?_|refine x_var (by with_unfolding_all rfl) ?_|refine g_n (by simp only [List.set_cons_zero, List.set_cons_succ]; exact rfl) ?_|refine g_t (by with_unfolding_all rfl) ?_|refine if_f (by decide) ?_|refine and_bt (by decide) ?_|dsimp only))
  refine f_len rfl ?_
  (repeat (with_reducible first|refine x_bin ?_|refine a_nil ?_|refine a_cons ?_|refine x_call ?_|refine x_fun ?_|refine x_and ?_|refine x_not ?_|refine not_b ?_|refine t_b ?_|refine b_b ?_|refine t_or ?_|refine t_not ?_|refine t_tru ?_|refine tru_b ?_|refine d_gt ?_|refine d_neI ?_|refine x_isi ?_|refine s_seq ?_|refine s_pass ?_|refine s_ret ?_|refine s_if ?_|refine s_asg ?_|refine gs_nil ?_|refine gs_cons ?_|refine i_l ?_|refine x_comp ?_|refine x_c ?_|refine is_ii ?_|refine is_ib ?_|refine is_ss ?_|refine is_tt ?_|refine x_var (by with_unfolding_all rfl) ?_|refine g_n (by simp only [List.set_cons_zero, List.set_cons_succ]; exact rfl) ?_|refine g_t (by with_unfolding_all rfl) ?_|refine if_f (by decide) ?_|refine and_bt (by decide) ?_|dsimp only))
  refine if_f (by simp) ?_
  (repeat (with_reducible first|refine x_bin ?_|refine a_nil ?_|refine a_cons ?_|refine x_call ?_|refine x_fun ?_|refine x_and ?_|refine x_not ?_|refine not_b ?_|refine t_b ?_|refine b_b ?_|refine t_or ?_|refine t_not ?_|refine t_tru ?_|refine tru_b ?_|refine d_gt ?_|refine d_neI ?_|refine x_isi ?_|refine s_seq ?_|refine s_pass ?_|refine s_ret ?_|refine s_if ?_|refine s_asg ?_|refine gs_nil ?_|refine gs_cons ?_|refine i_l ?_|refine x_comp ?_|refine x_c ?_|refine is_ii ?_|refine is_ib ?_|refine is_ss ?_|refine is_tt ?_|refine x_var (by with_unfolding_all rfl) ?_|refine g_n (by simp only [List.set_cons_zero, List.set_cons_succ]; exact rfl) ?_|refine g_t (by with_unfolding_all rfl) ?_|refine if_f (by decide) ?_|refine and_bt (by decide) ?_|dsimp only))
  refine w_is_number_of (js := [.int 2, .int 3, .int 4]) rfl ?_
  refine and_bt (by rcases hv.p with rfl | rfl | rfl <;> decide) ?_
  (repeat (with_reducible first|refine x_bin ?_|refine a_nil ?_|refine a_cons ?_|refine x_call ?_|refine x_fun ?_|refine x_and ?_|refine x_not ?_|refine not_b ?_|refine t_b ?_|refine b_b ?_|refine t_or ?_|refine t_not ?_|refine t_tru ?_|refine tru_b ?_|refine d_gt ?_|refine d_neI ?_|refine x_isi ?_|refine s_seq ?_|refine s_pass ?_|refine s_ret ?_|refine s_if ?_|refine s_asg ?_|refine gs_nil ?_|refine gs_cons ?_|refine i_l ?_|refine x_comp ?_|refine x_c ?_|refine is_ii ?_|refine is_ib ?_|refine is_ss ?_|refine is_tt ?_|refine x_var (by with_unfolding_all rfl) ?_|refine g_n (by simp only [List.set_cons_zero, List.set_cons_succ]; exact rfl) ?_|refine g_t (by with_unfolding_all rfl) ?_|refine if_f (by decide) ?_|refine and_bt (by decide) ?_|dsimp only))
  refine w_is_word_of (js := [.str "one", .str "two", .str "cap"]) rfl ?_
  refine and_bt (by rcases hv.l with rfl | rfl | rfl <;> decide +kernel) ?_
  (repeat (with_reducible first|refine x_bin ?_|refine a_nil ?_|refine a_cons ?_|refine x_call ?_|refine x_fun ?_|refine x_and ?_|refine x_not ?_|refine not_b ?_|refine t_b ?_|refine b_b ?_|refine t_or ?_|refine t_not ?_|refine t_tru ?_|refine tru_b ?_|refine d_gt ?_|refine d_neI ?_|refine x_isi ?_|refine s_seq ?_|refine s_pass ?_|refine s_ret ?_|refine s_if ?_|refine s_asg ?_|refine gs_nil ?_|refine gs_cons ?_|refine i_l ?_|refine x_comp ?_|refine x_c ?_|refine is_ii ?_|refine is_ib ?_|refine is_ss ?_|refine is_tt ?_|refine x_var (by with_unfolding_all rfl) ?_|refine g_n (by simp only [List.set_cons_zero, List.set_cons_succ]; exact rfl) ?_|refine g_t (by with_unfolding_all rfl) ?_|refine if_f (by decide) ?_|refine and_bt (by decide) ?_|dsimp only))
  refine w_is_number_of (js := [.int 1, .int 2, .int 3]) rfl ?_
  refine and_bt (by rcases hv.g with rfl | rfl | rfl <;> decide) ?_
  (repeat (with_reducible first|refine x_bin ?_|refine a_nil ?_|refine a_cons ?_|refine x_call ?_|refine x_fun ?_|refine x_and ?_|refine x_not ?_|refine not_b ?_|refine t_b ?_|refine b_b ?_|refine t_or ?_|refine t_not ?_|refine t_tru ?_|refine tru_b ?_|refine d_gt ?_|refine d_neI ?_|refine x_isi ?_|refine s_seq ?_|refine s_pass ?_|refine s_ret ?_|refine s_if ?_|refine s_asg ?_|refine gs_nil ?_|refine gs_cons ?_|refine i_l ?_|refine x_comp ?_|refine x_c ?_|refine is_ii ?_|refine is_ib ?_|refine is_ss ?_|refine is_tt ?_|refine x_var (by with_unfolding_all rfl) ?_|refine g_n (by simp only [List.set_cons_zero, List.set_cons_succ]; exact rfl) ?_|refine g_t (by with_unfolding_all rfl) ?_|refine if_f (by decide) ?_|refine and_bt (by decide) ?_|dsimp only))
  refine w_is_word_of (js := [.str "same", .str "longer"]) rfl ?_
  refine and_bt (by rcases hv.d with rfl | rfl <;> decide +kernel) ?_
  (repeat (with_reducible first|refine x_bin ?_|refine a_nil ?_|refine a_cons ?_|refine x_call ?_|refine x_fun ?_|refine x_and ?_|refine x_not ?_|refine not_b ?_|refine t_b ?_|refine b_b ?_|refine t_or ?_|refine t_not ?_|refine t_tru ?_|refine tru_b ?_|refine d_gt ?_|refine d_neI ?_|refine x_isi ?_|refine s_seq ?_|refine s_pass ?_|refine s_ret ?_|refine s_if ?_|refine s_asg ?_|refine gs_nil ?_|refine gs_cons ?_|refine i_l ?_|refine x_comp ?_|refine x_c ?_|refine is_ii ?_|refine is_ib ?_|refine is_ss ?_|refine is_tt ?_|refine x_var (by with_unfolding_all rfl) ?_|refine g_n (by simp only [List.set_cons_zero, List.set_cons_succ]; exact rfl) ?_|refine g_t (by with_unfolding_all rfl) ?_|refine if_f (by decide) ?_|refine and_bt (by decide) ?_|dsimp only))
  refine w_is_word_of (js := [.str "games", .str "twos", .str "winner", .str "only"]) rfl ?_
  rw [show inFl (.str s) [.str "games", .str "twos", .str "winner", .str "only"] = true by rcases hv.s with rfl | rfl | rfl | rfl <;> decide +kernel]
  exact h
theorem w_check_rule (hv : RuleOk p l G d s) (h : Q .non st) : F_check_rule [rD p l G d s] st Q R := by
  refine def_in rfl (by simp only [List.map_cons, List.map_nil, List.cons_append, List.nil_append, Nat.reduceSub, List.replicate_succ, List.replicate_zero, List.append_nil, List.length_cons, List.length_nil]; exact rfl) ?_
  unfold b_check_rule
  (repeat (with_reducible first|refine x_bin ?_|refine a_nil ?_|refine a_cons ?_|refine x_call ?_|refine x_fun ?_|refine x_and ?_|refine x_not ?_|refine not_b ?_|refine t_b ?_|refine b_b ?_|refine t_or ?_|refine t_not ?_|refine t_tru ?_|refine tru_b ?_|refine d_gt ?_|refine d_neI ?_|refine x_isi ?_|refine s_seq ?_|refine s_pass ?_|refine s_ret ?_|refine s_if ?_|refine s_asg ?_|refine gs_nil ?_|refine gs_cons ?_|refine i_l ?_|refine x_comp ?_|refine x_c ?_|refine is_ii ?_|refine is_ib ?_|refine is_ss ?_|refine is_tt ?_|refine x_var (by with_unfolding_all rfl) ?_|refine g_n (by simp only [List.set_cons_zero, List.set_cons_succ]; exact rfl) ?_|refine g_t (by with_unfolding_all rfl) ?_|refine if_f (by decide) ?_|refine and_bt (by decide) ?_|dsimp only))
  refine w_is_rule hv ?_
  (repeat (with_reducible first|refine x_bin ?_|refine a_nil ?_|refine a_cons ?_|refine x_call ?_|refine x_fun ?_|refine x_and ?_|refine x_not ?_|refine not_b ?_|refine t_b ?_|refine b_b ?_|refine t_or ?_|refine t_not ?_|refine t_tru ?_|refine tru_b ?_|refine d_gt ?_|refine d_neI ?_|refine x_isi ?_|refine s_seq ?_|refine s_pass ?_|refine s_ret ?_|refine s_if ?_|refine s_asg ?_|refine gs_nil ?_|refine gs_cons ?_|refine i_l ?_|refine x_comp ?_|refine x_c ?_|refine is_ii ?_|refine is_ib ?_|refine is_ss ?_|refine is_tt ?_|refine x_var (by with_unfolding_all rfl) ?_|refine g_n (by simp only [List.set_cons_zero, List.set_cons_succ]; exact rfl) ?_|refine g_t (by with_unfolding_all rfl) ?_|refine if_f (by decide) ?_|refine and_bt (by decide) ?_|dsimp only))
  exact h
/-- a row: 0 and 1, at most 60 -/
def RowOk (bs : List Int) : Prop := bs.length ≤ 60 ∧ ∀ b ∈ bs, b = 0 ∨ b = 1
theorem itemsOf_some {n : Nat} {xs : List D} (e : itemsOf st n = some xs) : ∃ o, st[n]? = some o ∧ isL o = true := by
  unfold itemsOf at e
  cases h : st[n]? with
  | none => rw [h] at e; cases e
  | some o =>
    rw [h] at e
    cases o with
    | lst _ => exact ⟨_, rfl, rfl⟩
    | rol _ => exact ⟨_, rfl, rfl⟩
    | dic _ _ => cases e
    | ins _ => cases e
    | deq _ => cases e
    | dki _ => cases e
theorem items_hd (st gs : Store) (xs : List D) : itemsOf (st ++ O.lst xs :: gs) st.length = some xs := by rw [items_app0]; rfl
theorem row_get {bs : List Int} {k : Nat} (h : k < bs.length) : (bs.map D.int)[k]? = some (.int (bs.getD k 0)) := by
  rw [List.getElem?_map, List.getElem?_eq_getElem h, List.getD_eq_getElem?_getD, List.getElem?_eq_getElem h]
  rfl
theorem item_row {st : Store} {n : Nat} {bs : List Int} {k : Nat} (e : itemsOf st n = some (bs.map D.int)) (h : k < bs.length) : itemAt (.lst n) k st = some (some (.int (bs.getD k 0))) := by
  unfold itemAt
  dsimp only
  rw [e]
  dsimp only
  rw [row_get h]
theorem item_end {st : Store} {n : Nat} {xs : List D} (e : itemsOf st n = some xs) : itemAt (.lst n) xs.length st = some none := by
  unfold itemAt
  dsimp only
  rw [e]
  simp
theorem w_is_row {n : Nat} {bs : List Int} (e : itemsOf st n = some (bs.map D.int)) (hr : RowOk bs) (h : ∀ gb, Q (.bl true) (st ++ gb)) : F_is_row [.ref n] st Q R := by
  refine def_in rfl (by simp only [List.map_cons, List.map_nil, List.cons_append, List.nil_append, Nat.reduceSub, List.replicate_succ, List.replicate_zero, List.append_nil, List.length_cons, List.length_nil]; exact rfl) ?_
  unfold b_is_row
  (repeat (with_reducible first|refine x_bin ?_|refine a_nil ?_|refine a_cons ?_|refine x_call ?_|refine x_fun ?_|refine x_and ?_|refine x_not ?_|refine not_b ?_|refine t_b ?_|refine b_b ?_|refine t_or ?_|refine t_not ?_|refine t_tru ?_|refine tru_b ?_|refine d_gt ?_|refine d_neI ?_|refine x_isi ?_|refine s_seq ?_|refine s_pass ?_|refine s_ret ?_|refine s_if ?_|refine s_asg ?_|refine gs_nil ?_|refine gs_cons ?_|refine i_l ?_|refine x_comp ?_|refine x_c ?_|refine is_ii ?_|refine is_ib ?_|refine is_ss ?_|refine is_tt ?_|refine x_var (by with_unfolding_all rfl) ?_|refine g_n (by simp only [List.set_cons_zero, List.set_cons_succ]; exact rfl) ?_|refine g_t (by with_unfolding_all rfl) ?_|refine if_f (by decide) ?_|refine and_bt (by decide) ?_|dsimp only))
  obtain ⟨o, ho, hl⟩ := itemsOf_some e
  refine is_ll ho ?_ hl
  (repeat (with_reducible first|refine x_bin ?_|refine a_nil ?_|refine a_cons ?_|refine x_call ?_|refine x_fun ?_|refine x_and ?_|refine x_not ?_|refine not_b ?_|refine t_b ?_|refine b_b ?_|refine t_or ?_|refine t_not ?_|refine t_tru ?_|refine tru_b ?_|refine d_gt ?_|refine d_neI ?_|refine x_isi ?_|refine s_seq ?_|refine s_pass ?_|refine s_ret ?_|refine s_if ?_|refine s_asg ?_|refine gs_nil ?_|refine gs_cons ?_|refine i_l ?_|refine x_comp ?_|refine x_c ?_|refine is_ii ?_|refine is_ib ?_|refine is_ss ?_|refine is_tt ?_|refine x_var (by with_unfolding_all rfl) ?_|refine g_n (by simp only [List.set_cons_zero, List.set_cons_succ]; exact rfl) ?_|refine g_t (by with_unfolding_all rfl) ?_|refine if_f (by decide) ?_|refine and_bt (by decide) ?_|dsimp only))
  refine f_len e ?_
  (repeat (with_reducible first|refine x_bin ?_|refine a_nil ?_|refine a_cons ?_|refine x_call ?_|refine x_fun ?_|refine x_and ?_|refine x_not ?_|refine not_b ?_|refine t_b ?_|refine b_b ?_|refine t_or ?_|refine t_not ?_|refine t_tru ?_|refine tru_b ?_|refine d_gt ?_|refine d_neI ?_|refine x_isi ?_|refine s_seq ?_|refine s_pass ?_|refine s_ret ?_|refine s_if ?_|refine s_asg ?_|refine gs_nil ?_|refine gs_cons ?_|refine i_l ?_|refine x_comp ?_|refine x_c ?_|refine is_ii ?_|refine is_ib ?_|refine is_ss ?_|refine is_tt ?_|refine x_var (by with_unfolding_all rfl) ?_|refine g_n (by simp only [List.set_cons_zero, List.set_cons_succ]; exact rfl) ?_|refine g_t (by with_unfolding_all rfl) ?_|refine if_f (by decide) ?_|refine and_bt (by decide) ?_|dsimp only))
  refine if_f (decide_eq_false (by rw [List.length_map]; have := hr.1; omega)) ?_
  (repeat (with_reducible first|refine x_bin ?_|refine a_nil ?_|refine a_cons ?_|refine x_call ?_|refine x_fun ?_|refine x_and ?_|refine x_not ?_|refine not_b ?_|refine t_b ?_|refine b_b ?_|refine t_or ?_|refine t_not ?_|refine t_tru ?_|refine tru_b ?_|refine d_gt ?_|refine d_neI ?_|refine x_isi ?_|refine s_seq ?_|refine s_pass ?_|refine s_ret ?_|refine s_if ?_|refine s_asg ?_|refine gs_nil ?_|refine gs_cons ?_|refine i_l ?_|refine x_comp ?_|refine x_c ?_|refine is_ii ?_|refine is_ib ?_|refine is_ss ?_|refine is_tt ?_|refine x_var (by with_unfolding_all rfl) ?_|refine g_n (by simp only [List.set_cons_zero, List.set_cons_succ]; exact rfl) ?_|refine g_t (by with_unfolding_all rfl) ?_|refine if_f (by decide) ?_|refine and_bt (by decide) ?_|dsimp only))
  refine il_l e ?_
  refine c_inv bs.length (fun k => .int (bs.getD k 0)) (fun _ => .bl true) (by have := hr.1; omega) (fun k o gb hk => ?_) (fun o gb => ?_) (fun k gb K hk hK => ?_) (fun gb => ?_)
  · exact item_row (items_old e) hk
  · have := item_end (items_old (gs := o :: gb) e)
    rwa [List.length_map] at this
  · simp only [wipeD]
    (repeat (with_reducible first|refine x_bin ?_|refine a_nil ?_|refine a_cons ?_|refine x_call ?_|refine x_fun ?_|refine x_and ?_|refine x_not ?_|refine not_b ?_|refine t_b ?_|refine b_b ?_|refine t_or ?_|refine t_not ?_|refine t_tru ?_|refine tru_b ?_|refine d_gt ?_|refine d_neI ?_|refine x_isi ?_|refine s_seq ?_|refine s_pass ?_|refine s_ret ?_|refine s_if ?_|refine s_asg ?_|refine gs_nil ?_|refine gs_cons ?_|refine i_l ?_|refine x_comp ?_|refine x_c ?_|refine is_ii ?_|refine is_ib ?_|refine is_ss ?_|refine is_tt ?_|refine x_var (by with_unfolding_all rfl) ?_|refine g_n (by simp only [List.set_cons_zero, List.set_cons_succ]; exact rfl) ?_|refine g_t (by with_unfolding_all rfl) ?_|refine if_f (by decide) ?_|refine and_bt (by decide) ?_|dsimp only))
    have ex : bs.getD k 0 = bs[k] := by rw [List.getD_eq_getElem?_getD, List.getElem?_eq_getElem hk]; rfl
    rw [ex]
    refine def_in rfl (by simp only [List.map_cons, List.map_nil, List.cons_append, List.nil_append, Nat.reduceSub, List.replicate_succ, List.replicate_zero, List.append_nil, List.length_cons, List.length_nil]; exact rfl) ?_
    unfold b_is_rally
    (repeat (with_reducible first|refine x_bin ?_|refine a_nil ?_|refine a_cons ?_|refine x_call ?_|refine x_fun ?_|refine x_and ?_|refine x_not ?_|refine not_b ?_|refine t_b ?_|refine b_b ?_|refine t_or ?_|refine t_not ?_|refine t_tru ?_|refine tru_b ?_|refine d_gt ?_|refine d_neI ?_|refine x_isi ?_|refine s_seq ?_|refine s_pass ?_|refine s_ret ?_|refine s_if ?_|refine s_asg ?_|refine gs_nil ?_|refine gs_cons ?_|refine i_l ?_|refine x_comp ?_|refine x_c ?_|refine is_ii ?_|refine is_ib ?_|refine is_ss ?_|refine is_tt ?_|refine x_var (by with_unfolding_all rfl) ?_|refine g_n (by simp only [List.set_cons_zero, List.set_cons_succ]; exact rfl) ?_|refine g_t (by with_unfolding_all rfl) ?_|refine if_f (by decide) ?_|refine and_bt (by decide) ?_|dsimp only))
    refine w_is_number_of (js := [.int 0, .int 1]) rfl ?_
    rw [show inFl (.int bs[k]) [.int 0, .int 1] = true by rcases hr.2 _ (List.getElem_mem hk) with h | h <;> rw [h] <;> decide]
    exact hK gb
  · refine f_all (bs := (List.range bs.length).map fun _ => true) (by rw [items_hd, List.map_map]; rfl) ?_
    rw [show ((List.range bs.length).map fun _ => true).all id = true by simp]
    exact h (O.lst ((List.range bs.length).map fun _ => D.bl true) :: gb)
theorem w_check_row {n : Nat} {bs : List Int} (e : itemsOf st n = some (bs.map D.int)) (hr : RowOk bs) (h : ∀ gb, Q .non (st ++ gb)) : F_check_row [.ref n] st Q R := by
  refine def_in rfl (by simp only [List.map_cons, List.map_nil, List.cons_append, List.nil_append, Nat.reduceSub, List.replicate_succ, List.replicate_zero, List.append_nil, List.length_cons, List.length_nil]; exact rfl) ?_
  unfold b_check_row
  (repeat (with_reducible first|refine x_bin ?_|refine a_nil ?_|refine a_cons ?_|refine x_call ?_|refine x_fun ?_|refine x_and ?_|refine x_not ?_|refine not_b ?_|refine t_b ?_|refine b_b ?_|refine t_or ?_|refine t_not ?_|refine t_tru ?_|refine tru_b ?_|refine d_gt ?_|refine d_neI ?_|refine x_isi ?_|refine s_seq ?_|refine s_pass ?_|refine s_ret ?_|refine s_if ?_|refine s_asg ?_|refine gs_nil ?_|refine gs_cons ?_|refine i_l ?_|refine x_comp ?_|refine x_c ?_|refine is_ii ?_|refine is_ib ?_|refine is_ss ?_|refine is_tt ?_|refine x_var (by with_unfolding_all rfl) ?_|refine g_n (by simp only [List.set_cons_zero, List.set_cons_succ]; exact rfl) ?_|refine g_t (by with_unfolding_all rfl) ?_|refine if_f (by decide) ?_|refine and_bt (by decide) ?_|dsimp only))
  refine w_is_row e hr fun gb => ?_
  (repeat (with_reducible first|refine x_bin ?_|refine a_nil ?_|refine a_cons ?_|refine x_call ?_|refine x_fun ?_|refine x_and ?_|refine x_not ?_|refine not_b ?_|refine t_b ?_|refine b_b ?_|refine t_or ?_|refine t_not ?_|refine t_tru ?_|refine tru_b ?_|refine d_gt ?_|refine d_neI ?_|refine x_isi ?_|refine s_seq ?_|refine s_pass ?_|refine s_ret ?_|refine s_if ?_|refine s_asg ?_|refine gs_nil ?_|refine gs_cons ?_|refine i_l ?_|refine x_comp ?_|refine x_c ?_|refine is_ii ?_|refine is_ib ?_|refine is_ss ?_|refine is_tt ?_|refine x_var (by with_unfolding_all rfl) ?_|refine g_n (by simp only [List.set_cons_zero, List.set_cons_succ]; exact rfl) ?_|refine g_t (by with_unfolding_all rfl) ?_|refine if_f (by decide) ?_|refine and_bt (by decide) ?_|dsimp only))
  exact h gb
/-- the maker of a point -/
def pmI (s : Str) (G sv g0 g1 r : Int) : D := if g0 = G ∨ g1 = G then .non else if s = "only" ∧ r ≠ sv then .non else .int r
theorem isNon_mw : isNonD (mwI G g0 g1) = !decide (g0 = G ∨ g1 = G) := by
  unfold mwI
  by_cases h1 : g0 = G
  · simp [h1, isNonD]
  · by_cases h2 : g1 = G <;> simp [h1, h2, isNonD]
def wP (p G : Int) (d : Str) (g0 g1 : Int) : Int := if d = "longer" ∧ (g0 = G - 1 ∨ g1 = G - 1) then p + 1 else p
theorem in2 {k x y : Int} : inFl (.int k) [.int x, .int y] = decide (x = k ∨ y = k) := by
  rw [Bool.eq_iff_iff]
  simp [inFl, eqFl]
def gwP (l : Str) (w own other : Int) : Prop := if l = "one" then w ≤ own else (w ≤ own ∧ 2 ≤ own - other) ∨ (l = "cap" ∧ w < own)
instance {l : Str} {w own other : Int} : Decidable (gwP l w own other) := by unfold gwP; infer_instance
def fdA (w a b : Int) : Int := if min a b < w - 1 then a else if b < a then w else w - 1
def fdB (w a b : Int) : Int := if min a b < w - 1 then b else if a < b then w else w - 1
def nsS (s : Str) (sv t r g0 g1 : Int) (won : Prop) [Decidable won] : Int := if s = "winner" ∨ s = "only" then r else if s = "games" ∨ won then (g0 + g1) % 2 else if t = 0 then sv else 1 - sv
def nsT (s : Str) (t : Int) (won : Prop) [Decidable won] : Int := if s = "winner" ∨ s = "only" then 0 else if s = "games" ∨ won then 0 else if t = 0 then 1 else 0
theorem in2S {k x y : Str} : inFl (.str k) [.str x, .str y] = decide (k = x ∨ k = y) := by
  rw [Bool.eq_iff_iff]
  simp only [inFl, eqFl, List.any_cons, List.any_nil, Bool.or_false, Bool.or_eq_true, beq_iff_eq, decide_eq_true_eq]
  exact ⟨fun h => h.elim (fun h => .inl h.symm) fun h => .inr h.symm, fun h => h.elim (fun h => .inl h.symm) fun h => .inr h.symm⟩
end
end MP

namespace MP
open PySem L2
structure Rl where
  p : Int
  l : Str
  G : Int
  d : Str
  s : Str
structure S where
  sv : Int
  a : Int
  b : Int
  g0 : Int
  g1 : Int
  t : Int
abbrev dR (R : Rl) : D := rD R.p R.l R.G R.d R.s
abbrev dS (x : S) : D := stD x.sv x.a x.b x.g0 x.g1 x.t
def over (R : Rl) (x : S) : Prop := x.g0 = R.G ∨ x.g1 = R.G
instance {R : Rl} {x : S} : Decidable (over R x) := by unfold over; infer_instance
abbrev wS (R : Rl) (x : S) : Int := wP R.p R.G R.d x.g0 x.g1
def i0 (r : Int) : Int := if r = 0 then 1 else 0
def i1 (r : Int) : Int := if r = 1 then 1 else 0
def won (R : Rl) (x : S) (r : Int) : Prop := gwP R.l (wS R x) (if r = 0 then x.a + 1 else x.b + 1) (if r = 0 then x.b else x.a)
instance {R : Rl} {x : S} {r : Int} : Decidable (won R x r) := by unfold won; infer_instance
/-- the points as they are kept -/
def kA (R : Rl) (w a b : Int) : Int := if R.l = "two" then fdA w a b else a
def kB (R : Rl) (w a b : Int) : Int := if R.l = "two" then fdB w a b else b
def skip (R : Rl) (x : S) (r : Int) : Prop := R.s = "only" ∧ r ≠ x.sv
instance {R : Rl} {x : S} {r : Int} : Decidable (skip R x r) := by unfold skip; infer_instance
/-- the state behind a rally -/
def nxt (R : Rl) (x : S) (r : Int) : S :=
  if over R x then x
  else if skip R x r then ⟨nsS R.s x.sv x.t r x.g0 x.g1 False, kA R (wS R x) x.a x.b, kB R (wS R x) x.a x.b, x.g0, x.g1, nsT R.s x.t False⟩
  else if won R x r then ⟨nsS R.s x.sv x.t r (x.g0 + i0 r) (x.g1 + i1 r) True, 0, 0, x.g0 + i0 r, x.g1 + i1 r, nsT R.s x.t True⟩
  else ⟨nsS R.s x.sv x.t r x.g0 x.g1 False, kA R (wS R x) (x.a + i0 r) (x.b + i1 r), kB R (wS R x) (x.a + i0 r) (x.b + i1 r), x.g0, x.g1, nsT R.s x.t False⟩
section
variable {st : Store} {Q : D → Store → Prop} {Rx : XR} {R : Rl} {x : S} {r : Int}
theorem mw_over (h : ¬ over R x) : mwI R.G x.g0 x.g1 = .non := by
  unfold mwI
  unfold over at h
  rw [if_neg (fun z => h (.inl z)), if_neg (fun z => h (.inr z))]
end
end MP

namespace MP
open PySem L2
/-- the state behind the first j rallies -/
def at_ (R : Rl) (x : S) (bs : List Int) (j : Nat) : S := (bs.take j).foldl (nxt R) x
theorem at_zero {R : Rl} {x : S} {bs : List Int} : at_ R x bs 0 = x := rfl
theorem at_succ {R : Rl} {x : S} {bs : List Int} {j : Nat} (h : j < bs.length) : at_ R x bs (j + 1) = nxt R (at_ R x bs j) (bs.getD j 0) := by
  unfold at_
  rw [List.take_succ, List.foldl_append, List.getElem?_eq_getElem h, List.getD_eq_getElem?_getD, List.getElem?_eq_getElem h]
  rfl
def path (R : Rl) (x : S) (bs : List Int) (k : Nat) : List D := (List.range (k + 1)).map fun j => dS (at_ R x bs j)
theorem path_succ {R : Rl} {x : S} {bs : List Int} {k : Nat} : path R x bs (k + 1) = path R x bs k ++ [dS (at_ R x bs (k + 1))] := by
  unfold path
  rw [List.range_succ (n := k + 1), List.map_append]
  rfl
theorem path_len {R : Rl} {x : S} {bs : List Int} {k : Nat} : (path R x bs k).length = k + 1 := by unfold path; simp
theorem path_get {R : Rl} {x : S} {bs : List Int} {k j : Nat} (h : j ≤ k) : (path R x bs k)[j]? = some (dS (at_ R x bs j)) := by
  unfold path
  rw [List.getElem?_map, List.getElem?_range (by omega)]
  rfl
theorem atI_of {xs : List D} {i : Int} {j : Nat} {d : D} (e : ixN xs.length i = some j) (h : xs[j]? = some d) : atI xs i = some d := by
  unfold atI
  rw [e]
  exact h
theorem ixN_nat {n j : Nat} (h : j < n) : ixN n (j : Int) = some j := by
  unfold ixN
  rw [if_pos (by omega), if_pos (by omega), Int.toNat_natCast]
theorem atI_nat {xs : List D} {j : Nat} {d : D} (h : xs[j]? = some d) : atI xs (j : Int) = some d := atI_of (ixN_nat (List.getElem?_eq_some_iff.mp h).1) h
theorem atI_last {xs : List D} {d : D} : atI (xs ++ [d]) (-1) = some d := by
  refine atI_of (j := xs.length) ?_ (by simp)
  unfold ixN
  rw [if_neg (by omega), if_pos (by rw [List.length_append]; simp; omega)]
  congr 1
  rw [List.length_append, List.length_singleton]
  omega
theorem get_hd (st gs : Store) (o : O) : (st ++ o :: gs)[st.length]? = some o := by rw [get_app0]; rfl
theorem set_hd (st gs : Store) (o o' : O) : (st ++ o :: gs).set st.length o' = st ++ o' :: gs := by rw [set_app0]; rfl
theorem path_last {R : Rl} {x : S} {bs : List Int} {k : Nat} : atI (path R x bs k) (-1) = some (dS (at_ R x bs k)) := by
  cases k with
  | zero => rfl
  | succ k => rw [path_succ]; exact atI_last
section
variable {st : Store} {Q : D → Store → Prop} {Rx : XR} {R : Rl} {x : S} {n : Nat} {bs : List Int}
theorem row_in (hr : RowOk bs) {k : Nat} (h : k < bs.length) : bs.getD k 0 = 0 ∨ bs.getD k 0 = 1 := by
  rw [List.getD_eq_getElem?_getD, List.getElem?_eq_getElem h]
  exact hr.2 _ (List.getElem_mem h)
/-- the board of a state -/
def bdS (x : S) (i : Int) : D := if i = 0 then .tup [.int x.sv, .int x.a, .int x.b, .int x.g0, .int x.g1] else if i = 1 then .int x.sv else .tup [.int x.g0, .int x.g1]
def S0 : S := ⟨0, 0, 0, 0, 0, 0⟩
/-- a valid rule -/
abbrev Rl.Ok (R : Rl) : Prop := RuleOk R.p R.l R.G R.d R.s
end
end MP

namespace MP
open PySem L2
theorem path_tail {R : Rl} {x : S} {bs : List Int} {k : Nat} : cutD (path R x bs k) (some 1) none = (List.range k).map fun j => dS (at_ R x bs (j + 1)) := by
  unfold cutD
  rw [path_len]
  rw [show HT.sIx (k + 1) 0 (some 1) = 1 from by rw [show (1 : Int) = ((1 : Nat) : Int) from rfl, HT.sIx_nat]; omega, HT.sIx_none]
  unfold path
  rw [List.range_succ_eq_map, List.map_cons, List.drop_succ_cons, List.drop_zero, List.map_map, List.take_of_length_le (by simp)]
  rfl
theorem get_mid (st gb gs : Store) (o u : O) : (st ++ o :: (gb ++ u :: gs))[st.length + (gb.length + 1)]? = some u := by
  rw [get_app, List.getElem?_cons_succ, List.getElem?_append_right (Nat.le_refl _), Nat.sub_self]
  rfl
theorem items_mid (st gb gs : Store) (o : O) (xs : List D) : itemsOf (st ++ o :: (gb ++ O.lst xs :: gs)) (st.length + (gb.length + 1)) = some xs := by unfold itemsOf; rw [get_mid]
theorem set_mid (st gb gs : Store) (o u v : O) : (st ++ o :: (gb ++ u :: gs)).set (st.length + (gb.length + 1)) v = st ++ o :: (gb ++ v :: gs) := by
  rw [set_app, List.set_cons_succ, List.set_append_right _ _ (Nat.le_refl _), Nat.sub_self]
  rfl
section
variable {st : Store} {Q : D → Store → Prop} {Rx : XR} {R : Rl} {x : S} {n : Nat} {bs : List Int}
/-- who makes the point of a rally -/
def makes (R : Rl) (x : S) (r : Int) : Prop := ¬ over R x ∧ ¬ skip R x r
instance {R : Rl} {x : S} {r : Int} : Decidable (makes R x r) := by unfold makes; infer_instance
def cnt (R : Rl) (bs : List Int) (i : Int) : Nat → Int
  | 0 => 0
  | k + 1 => cnt R bs i k + (if makes R (at_ R S0 bs k) (bs.getD k 0) ∧ bs.getD k 0 = i then 1 else 0)
theorem pm_makes {r : Int} : pmI R.s R.G x.sv x.g0 x.g1 r = if makes R x r then .int r else .non := by
  unfold pmI makes over skip
  by_cases h1 : x.g0 = R.G ∨ x.g1 = R.G
  · simp [h1]
  · by_cases h2 : R.s = "only" ∧ r ≠ x.sv <;> simp [h1, h2]
end
end MP

namespace MP
open PySem L2
/-- the counter of draws at nD, its numbers at nN -/
def Dr (st : Store) (nD nN : Nat) : Prop := nD ≠ nN ∧ ∃ (ns : List Int) (c : Int), st[nD]? = some (.lst [.ref nN, .int c]) ∧ st[nN]? = some (.lst (ns.map D.int)) ∧ ns ≠ [] ∧ 0 ≤ c
/-- all else is kept -/
def Kp (nD nN : Nat) (st st' : Store) : Prop := st.length ≤ st'.length ∧ ∀ i, i < st.length → i ≠ nD → i ≠ nN → st'[i]? = st[i]?
theorem Kp.refl {nD nN : Nat} {st : Store} : Kp nD nN st st := ⟨Nat.le_refl _, fun _ _ _ _ => rfl⟩
theorem Kp.trans {nD nN : Nat} {a b c : Store} (x : Kp nD nN a b) (y : Kp nD nN b c) : Kp nD nN a c :=
  ⟨Nat.le_trans x.1 y.1, fun i h1 h2 h3 => (y.2 i (Nat.lt_of_lt_of_le h1 x.1) h2 h3).trans (x.2 i h1 h2 h3)⟩
theorem Kp.push {nD nN : Nat} {st : Store} (gs : Store) : Kp nD nN st (st ++ gs) := ⟨by simp, fun i h _ _ => List.getElem?_append_left h⟩
theorem Dr.push {st : Store} {nD nN : Nat} (d : Dr st nD nN) (gs : Store) : Dr (st ++ gs) nD nN := by
  obtain ⟨hne, ns, c, h1, h2, h3, h4⟩ := d
  refine ⟨hne, ns, c, ?_, ?_, h3, h4⟩
  · rw [List.getElem?_append_left (List.getElem?_eq_some_iff.mp h1).1]; exact h1
  · rw [List.getElem?_append_left (List.getElem?_eq_some_iff.mp h2).1]; exact h2
theorem Dr.lt {st : Store} {nD nN : Nat} (d : Dr st nD nN) : nD < st.length ∧ nN < st.length := by
  obtain ⟨hne, ns, c, h1, h2, h3, h4⟩ := d
  exact ⟨(List.getElem?_eq_some_iff.mp h1).1, (List.getElem?_eq_some_iff.mp h2).1⟩
theorem items_of {st : Store} {n : Nat} {xs : List D} (h : st[n]? = some (.lst xs)) : itemsOf st n = some xs := by unfold itemsOf; rw [h]
theorem Kp.items {nD nN : Nat} {st st' : Store} (k : Kp nD nN st st') {n : Nat} {xs : List D} (e : itemsOf st n = some xs) (h1 : n ≠ nD) (h2 : n ≠ nN) : itemsOf st' n = some xs := by
  obtain ⟨o, ho, _⟩ := itemsOf_some e
  unfold itemsOf at e ⊢
  rw [k.2 n (List.getElem?_eq_some_iff.mp ho).1 h1 h2]
  exact e
section
variable {st : Store} {Q : D → Store → Prop} {Rx : XR} {nD nN : Nat}
theorem w_draw {lim : Int} (hl : 0 < lim) (hl2 : lim < 1073741824) (d : Dr st nD nN) (h : ∀ r st', 0 ≤ r → r < lim → Dr st' nD nN → Kp nD nN st st' → Q (.int r) st') : F_law_draw [.ref nD, .int lim] st Q Rx := by
  obtain ⟨hne, ns, c, h1, h2, h3, h4⟩ := d
  have hlen : 0 < ns.length := List.length_pos_iff.mpr h3
  refine def_in rfl (by simp only [List.map_cons, List.map_nil, List.cons_append, List.nil_append, Nat.reduceSub, List.replicate_succ, List.replicate_zero, List.append_nil, List.length_cons, List.length_nil]; exact rfl) ?_
  unfold b_law_draw
  (repeat (with_reducible first|refine x_bin ?_|refine x_tup ?_|refine x_lst ?_|refine a_nil ?_|refine a_cons ?_|refine x_call ?_|refine x_fun ?_|refine t_b ?_|refine b_b ?_|refine d_addI ?_|refine d_ge ?_|refine s_seq ?_|refine s_pass ?_|refine s_ret ?_|refine s_if ?_|refine s_asg ?_|refine s_par ?_|refine s_put ?_|refine x_c ?_|refine x_var (by with_unfolding_all rfl) ?_|refine g_n (by simp only [List.set_cons_zero, List.set_cons_succ]; exact rfl) ?_|refine par_2 (by simp only [List.set_cons_zero, List.set_cons_succ]; exact rfl) ?_|refine d_mod (by decide) ?_|refine And.intro (show List.length _ ≤ 16777216 by simp) ?_|dsimp only))
  refine d_idxL (items_of h1) (by rfl) ?_
  (repeat (with_reducible first|refine x_bin ?_|refine x_tup ?_|refine x_lst ?_|refine a_nil ?_|refine a_cons ?_|refine x_call ?_|refine x_fun ?_|refine t_b ?_|refine b_b ?_|refine d_addI ?_|refine d_ge ?_|refine s_seq ?_|refine s_pass ?_|refine s_ret ?_|refine s_if ?_|refine s_asg ?_|refine s_par ?_|refine s_put ?_|refine x_c ?_|refine x_var (by with_unfolding_all rfl) ?_|refine g_n (by simp only [List.set_cons_zero, List.set_cons_succ]; exact rfl) ?_|refine par_2 (by simp only [List.set_cons_zero, List.set_cons_succ]; exact rfl) ?_|refine d_mod (by decide) ?_|refine And.intro (show List.length _ ≤ 16777216 by simp) ?_|dsimp only))
  refine d_idxL (items_of h1) (by rfl) ?_
  (repeat (with_reducible first|refine x_bin ?_|refine x_tup ?_|refine x_lst ?_|refine a_nil ?_|refine a_cons ?_|refine x_call ?_|refine x_fun ?_|refine t_b ?_|refine b_b ?_|refine d_addI ?_|refine d_ge ?_|refine s_seq ?_|refine s_pass ?_|refine s_ret ?_|refine s_if ?_|refine s_asg ?_|refine s_par ?_|refine s_put ?_|refine x_c ?_|refine x_var (by with_unfolding_all rfl) ?_|refine g_n (by simp only [List.set_cons_zero, List.set_cons_succ]; exact rfl) ?_|refine par_2 (by simp only [List.set_cons_zero, List.set_cons_succ]; exact rfl) ?_|refine d_mod (by decide) ?_|refine And.intro (show List.length _ ≤ 16777216 by simp) ?_|dsimp only))
  refine put_l (j := 1) h1 (by rfl) ?_
  generalize hst1 : st.set nD (.lst ([.ref nN, .int c].set 1 (.int (c + 1)))) = st1
  have ltD := (List.getElem?_eq_some_iff.mp h1).1
  have g1 : st1[nD]? = some (.lst [.ref nN, .int (c + 1)]) := by rw [← hst1, List.getElem?_set_self ltD]; rfl
  have g2 : st1[nN]? = some (.lst (ns.map D.int)) := by rw [← hst1, List.getElem?_set_ne hne]; exact h2
  have k1 : Kp nD nN st st1 := ⟨by rw [← hst1]; simp, fun i _ hi _ => by rw [← hst1, List.getElem?_set_ne (Ne.symm hi)]⟩
  (repeat (with_reducible first|refine x_bin ?_|refine x_tup ?_|refine x_lst ?_|refine a_nil ?_|refine a_cons ?_|refine x_call ?_|refine x_fun ?_|refine t_b ?_|refine b_b ?_|refine d_addI ?_|refine d_ge ?_|refine s_seq ?_|refine s_pass ?_|refine s_ret ?_|refine s_if ?_|refine s_asg ?_|refine s_par ?_|refine s_put ?_|refine x_c ?_|refine x_var (by with_unfolding_all rfl) ?_|refine g_n (by simp only [List.set_cons_zero, List.set_cons_succ]; exact rfl) ?_|refine par_2 (by simp only [List.set_cons_zero, List.set_cons_succ]; exact rfl) ?_|refine d_mod (by decide) ?_|refine And.intro (show List.length _ ≤ 16777216 by simp) ?_|dsimp only))
  refine d_idxL (items_of g1) (by rfl) ?_
  (repeat (with_reducible first|refine x_bin ?_|refine x_tup ?_|refine x_lst ?_|refine a_nil ?_|refine a_cons ?_|refine x_call ?_|refine x_fun ?_|refine t_b ?_|refine b_b ?_|refine d_addI ?_|refine d_ge ?_|refine s_seq ?_|refine s_pass ?_|refine s_ret ?_|refine s_if ?_|refine s_asg ?_|refine s_par ?_|refine s_put ?_|refine x_c ?_|refine x_var (by with_unfolding_all rfl) ?_|refine g_n (by simp only [List.set_cons_zero, List.set_cons_succ]; exact rfl) ?_|refine par_2 (by simp only [List.set_cons_zero, List.set_cons_succ]; exact rfl) ?_|refine d_mod (by decide) ?_|refine And.intro (show List.length _ ≤ 16777216 by simp) ?_|dsimp only))
  refine f_len (xs := ns.map D.int) (by unfold seqD; dsimp only; exact items_of g2) ?_
  (repeat (with_reducible first|refine x_bin ?_|refine x_tup ?_|refine x_lst ?_|refine a_nil ?_|refine a_cons ?_|refine x_call ?_|refine x_fun ?_|refine t_b ?_|refine b_b ?_|refine d_addI ?_|refine d_ge ?_|refine s_seq ?_|refine s_pass ?_|refine s_ret ?_|refine s_if ?_|refine s_asg ?_|refine s_par ?_|refine s_put ?_|refine x_c ?_|refine x_var (by with_unfolding_all rfl) ?_|refine g_n (by simp only [List.set_cons_zero, List.set_cons_succ]; exact rfl) ?_|refine par_2 (by simp only [List.set_cons_zero, List.set_cons_succ]; exact rfl) ?_|refine d_mod (by decide) ?_|refine And.intro (show List.length _ ≤ 16777216 by simp) ?_|dsimp only))
  refine d_mod (by rw [List.length_map]; omega) ?_
  (repeat (with_reducible first|refine x_bin ?_|refine x_tup ?_|refine x_lst ?_|refine a_nil ?_|refine a_cons ?_|refine x_call ?_|refine x_fun ?_|refine t_b ?_|refine b_b ?_|refine d_addI ?_|refine d_ge ?_|refine s_seq ?_|refine s_pass ?_|refine s_ret ?_|refine s_if ?_|refine s_asg ?_|refine s_par ?_|refine s_put ?_|refine x_c ?_|refine x_var (by with_unfolding_all rfl) ?_|refine g_n (by simp only [List.set_cons_zero, List.set_cons_succ]; exact rfl) ?_|refine par_2 (by simp only [List.set_cons_zero, List.set_cons_succ]; exact rfl) ?_|refine d_mod (by decide) ?_|refine And.intro (show List.length _ ≤ 16777216 by simp) ?_|dsimp only))
  have hj0 : 0 ≤ (c + 1) % ((ns.map D.int).length : Int) := Int.emod_nonneg _ (by rw [List.length_map]; omega)
  have hj1 : (c + 1) % ((ns.map D.int).length : Int) < ((ns.map D.int).length : Int) := Int.emod_lt_of_pos _ (by rw [List.length_map]; omega)
  generalize hjj : (c + 1) % ((ns.map D.int).length : Int) = j at hj0 hj1 ⊢
  rw [List.length_map] at hj1
  obtain ⟨k, rfl⟩ := Int.eq_ofNat_of_zero_le hj0
  have hk : k < ns.length := by omega
  refine d_idxL (items_of g2) (atI_nat (row_get hk)) ?_
  (repeat (with_reducible first|refine x_bin ?_|refine x_tup ?_|refine x_lst ?_|refine a_nil ?_|refine a_cons ?_|refine x_call ?_|refine x_fun ?_|refine t_b ?_|refine b_b ?_|refine d_addI ?_|refine d_ge ?_|refine s_seq ?_|refine s_pass ?_|refine s_ret ?_|refine s_if ?_|refine s_asg ?_|refine s_par ?_|refine s_put ?_|refine x_c ?_|refine x_var (by with_unfolding_all rfl) ?_|refine g_n (by simp only [List.set_cons_zero, List.set_cons_succ]; exact rfl) ?_|refine par_2 (by simp only [List.set_cons_zero, List.set_cons_succ]; exact rfl) ?_|refine d_mod (by decide) ?_|refine And.intro (show List.length _ ≤ 16777216 by simp) ?_|dsimp only))
  refine if_p (fun e => ?_) (fun e => ?_)
  · (repeat (with_reducible first|refine x_bin ?_|refine x_tup ?_|refine x_lst ?_|refine a_nil ?_|refine a_cons ?_|refine x_call ?_|refine x_fun ?_|refine t_b ?_|refine b_b ?_|refine d_addI ?_|refine d_ge ?_|refine s_seq ?_|refine s_pass ?_|refine s_ret ?_|refine s_if ?_|refine s_asg ?_|refine s_par ?_|refine s_put ?_|refine x_c ?_|refine x_var (by with_unfolding_all rfl) ?_|refine g_n (by simp only [List.set_cons_zero, List.set_cons_succ]; exact rfl) ?_|refine par_2 (by simp only [List.set_cons_zero, List.set_cons_succ]; exact rfl) ?_|refine d_mod (by decide) ?_|refine And.intro (show List.length _ ≤ 16777216 by simp) ?_|dsimp only))
    refine d_fdiv ⟨hl, hl2⟩ ?_
    (repeat (with_reducible first|refine x_bin ?_|refine x_tup ?_|refine x_lst ?_|refine a_nil ?_|refine a_cons ?_|refine x_call ?_|refine x_fun ?_|refine t_b ?_|refine b_b ?_|refine d_addI ?_|refine d_ge ?_|refine s_seq ?_|refine s_pass ?_|refine s_ret ?_|refine s_if ?_|refine s_asg ?_|refine s_par ?_|refine s_put ?_|refine x_c ?_|refine x_var (by with_unfolding_all rfl) ?_|refine g_n (by simp only [List.set_cons_zero, List.set_cons_succ]; exact rfl) ?_|refine par_2 (by simp only [List.set_cons_zero, List.set_cons_succ]; exact rfl) ?_|refine d_mod (by decide) ?_|refine And.intro (show List.length _ ≤ 16777216 by simp) ?_|dsimp only))
    refine put_l g2 (ixN_nat (by rw [List.length_map]; exact hk)) ?_
    (repeat (with_reducible first|refine x_bin ?_|refine x_tup ?_|refine x_lst ?_|refine a_nil ?_|refine a_cons ?_|refine x_call ?_|refine x_fun ?_|refine t_b ?_|refine b_b ?_|refine d_addI ?_|refine d_ge ?_|refine s_seq ?_|refine s_pass ?_|refine s_ret ?_|refine s_if ?_|refine s_asg ?_|refine s_par ?_|refine s_put ?_|refine x_c ?_|refine x_var (by with_unfolding_all rfl) ?_|refine g_n (by simp only [List.set_cons_zero, List.set_cons_succ]; exact rfl) ?_|refine par_2 (by simp only [List.set_cons_zero, List.set_cons_succ]; exact rfl) ?_|refine d_mod (by decide) ?_|refine And.intro (show List.length _ ≤ 16777216 by simp) ?_|dsimp only))
    refine d_mod hl ?_
    have ltN := (List.getElem?_eq_some_iff.mp g2).1
    refine h _ _ (Int.emod_nonneg _ (by omega)) (Int.emod_lt_of_pos _ hl) ⟨hne, ns.set k (ns.getD k 0 / lim), c + 1, ?_, ?_, ?_, by omega⟩ (k1.trans ⟨by simp, fun i _ _ hi => by rw [List.getElem?_set_ne (Ne.symm hi)]⟩)
    · rw [List.getElem?_set_ne (Ne.symm hne)]; exact g1
    · rw [List.getElem?_set_self ltN, List.map_set]
    · intro z
      have := congrArg List.length z
      rw [List.length_set] at this
      simp at this
      exact h3 this
  · (repeat (with_reducible first|refine x_bin ?_|refine x_tup ?_|refine x_lst ?_|refine a_nil ?_|refine a_cons ?_|refine x_call ?_|refine x_fun ?_|refine t_b ?_|refine b_b ?_|refine d_addI ?_|refine d_ge ?_|refine s_seq ?_|refine s_pass ?_|refine s_ret ?_|refine s_if ?_|refine s_asg ?_|refine s_par ?_|refine s_put ?_|refine x_c ?_|refine x_var (by with_unfolding_all rfl) ?_|refine g_n (by simp only [List.set_cons_zero, List.set_cons_succ]; exact rfl) ?_|refine par_2 (by simp only [List.set_cons_zero, List.set_cons_succ]; exact rfl) ?_|refine d_mod (by decide) ?_|refine And.intro (show List.length _ ≤ 16777216 by simp) ?_|dsimp only))
    refine d_idxL (items_of g1) (by rfl) ?_
    refine d_mulI (.inl (by decide)) ?_
    (repeat (with_reducible first|refine x_bin ?_|refine x_tup ?_|refine x_lst ?_|refine a_nil ?_|refine a_cons ?_|refine x_call ?_|refine x_fun ?_|refine t_b ?_|refine b_b ?_|refine d_addI ?_|refine d_ge ?_|refine s_seq ?_|refine s_pass ?_|refine s_ret ?_|refine s_if ?_|refine s_asg ?_|refine s_par ?_|refine s_put ?_|refine x_c ?_|refine x_var (by with_unfolding_all rfl) ?_|refine g_n (by simp only [List.set_cons_zero, List.set_cons_succ]; exact rfl) ?_|refine par_2 (by simp only [List.set_cons_zero, List.set_cons_succ]; exact rfl) ?_|refine d_mod (by decide) ?_|refine And.intro (show List.length _ ≤ 16777216 by simp) ?_|dsimp only))
    have m0 : 0 ≤ (ns.getD k 0 + 104729 * (c + 1)) % 4294967291 := Int.emod_nonneg _ (by decide)
    have m1 : (ns.getD k 0 + 104729 * (c + 1)) % 4294967291 < 4294967291 := Int.emod_lt_of_pos _ (by decide)
    refine d_pow ⟨by decide, by decide, by omega⟩ ?_
    (repeat (with_reducible first|refine x_bin ?_|refine x_tup ?_|refine x_lst ?_|refine a_nil ?_|refine a_cons ?_|refine x_call ?_|refine x_fun ?_|refine t_b ?_|refine b_b ?_|refine d_addI ?_|refine d_ge ?_|refine s_seq ?_|refine s_pass ?_|refine s_ret ?_|refine s_if ?_|refine s_asg ?_|refine s_par ?_|refine s_put ?_|refine x_c ?_|refine x_var (by with_unfolding_all rfl) ?_|refine g_n (by simp only [List.set_cons_zero, List.set_cons_succ]; exact rfl) ?_|refine par_2 (by simp only [List.set_cons_zero, List.set_cons_succ]; exact rfl) ?_|refine d_mod (by decide) ?_|refine And.intro (show List.length _ ≤ 16777216 by simp) ?_|dsimp only))
    refine d_fdiv ⟨by decide, by decide⟩ ?_
    (repeat (with_reducible first|refine x_bin ?_|refine x_tup ?_|refine x_lst ?_|refine a_nil ?_|refine a_cons ?_|refine x_call ?_|refine x_fun ?_|refine t_b ?_|refine b_b ?_|refine d_addI ?_|refine d_ge ?_|refine s_seq ?_|refine s_pass ?_|refine s_ret ?_|refine s_if ?_|refine s_asg ?_|refine s_par ?_|refine s_put ?_|refine x_c ?_|refine x_var (by with_unfolding_all rfl) ?_|refine g_n (by simp only [List.set_cons_zero, List.set_cons_succ]; exact rfl) ?_|refine par_2 (by simp only [List.set_cons_zero, List.set_cons_succ]; exact rfl) ?_|refine d_mod (by decide) ?_|refine And.intro (show List.length _ ≤ 16777216 by simp) ?_|dsimp only))
    refine d_mulI (.inr (by decide)) ?_
    (repeat (with_reducible first|refine x_bin ?_|refine x_tup ?_|refine x_lst ?_|refine a_nil ?_|refine a_cons ?_|refine x_call ?_|refine x_fun ?_|refine t_b ?_|refine b_b ?_|refine d_addI ?_|refine d_ge ?_|refine s_seq ?_|refine s_pass ?_|refine s_ret ?_|refine s_if ?_|refine s_asg ?_|refine s_par ?_|refine s_put ?_|refine x_c ?_|refine x_var (by with_unfolding_all rfl) ?_|refine g_n (by simp only [List.set_cons_zero, List.set_cons_succ]; exact rfl) ?_|refine par_2 (by simp only [List.set_cons_zero, List.set_cons_succ]; exact rfl) ?_|refine d_mod (by decide) ?_|refine And.intro (show List.length _ ≤ 16777216 by simp) ?_|dsimp only))
    refine d_fdiv ⟨by decide, by decide⟩ ?_
    (repeat (with_reducible first|refine x_bin ?_|refine x_tup ?_|refine x_lst ?_|refine a_nil ?_|refine a_cons ?_|refine x_call ?_|refine x_fun ?_|refine t_b ?_|refine b_b ?_|refine d_addI ?_|refine d_ge ?_|refine s_seq ?_|refine s_pass ?_|refine s_ret ?_|refine s_if ?_|refine s_asg ?_|refine s_par ?_|refine s_put ?_|refine x_c ?_|refine x_var (by with_unfolding_all rfl) ?_|refine g_n (by simp only [List.set_cons_zero, List.set_cons_succ]; exact rfl) ?_|refine par_2 (by simp only [List.set_cons_zero, List.set_cons_succ]; exact rfl) ?_|refine d_mod (by decide) ?_|refine And.intro (show List.length _ ≤ 16777216 by simp) ?_|dsimp only))
    refine d_mod hl ?_
    exact h _ _ (Int.emod_nonneg _ (by omega)) (Int.emod_lt_of_pos _ hl) ⟨hne, ns, c + 1, g1, g2, h3, by omega⟩ k1
theorem w_pick {m : Nat} {xs : List D} (e : itemsOf st m = some xs) (h0 : xs ≠ []) (h1 : xs.length < 1000) (hm : m ≠ nD) (hm2 : m ≠ nN) (d : Dr st nD nN) (h : ∀ (j : Nat) (v : D) (st' : Store), xs[j]? = some v → Dr st' nD nN → Kp nD nN st st' → Q v st') : F_law_pick [.ref nD, .ref m] st Q Rx := by
  have hlen : 0 < xs.length := List.length_pos_iff.mpr h0
  refine def_in rfl (by simp only [List.map_cons, List.map_nil, List.cons_append, List.nil_append, Nat.reduceSub, List.replicate_succ, List.replicate_zero, List.append_nil, List.length_cons, List.length_nil]; exact rfl) ?_
  unfold b_law_pick
  (repeat (with_reducible first|refine x_bin ?_|refine x_tup ?_|refine x_lst ?_|refine a_nil ?_|refine a_cons ?_|refine x_call ?_|refine x_fun ?_|refine t_b ?_|refine b_b ?_|refine d_addI ?_|refine d_ge ?_|refine s_seq ?_|refine s_pass ?_|refine s_ret ?_|refine s_if ?_|refine s_asg ?_|refine s_par ?_|refine s_put ?_|refine x_c ?_|refine x_var (by with_unfolding_all rfl) ?_|refine g_n (by simp only [List.set_cons_zero, List.set_cons_succ]; exact rfl) ?_|refine par_2 (by simp only [List.set_cons_zero, List.set_cons_succ]; exact rfl) ?_|refine d_mod (by decide) ?_|refine And.intro (show List.length _ ≤ 16777216 by simp) ?_|dsimp only))
  refine f_len (xs := xs) (by unfold seqD; dsimp only; exact e) ?_
  (repeat (with_reducible first|refine x_bin ?_|refine x_tup ?_|refine x_lst ?_|refine a_nil ?_|refine a_cons ?_|refine x_call ?_|refine x_fun ?_|refine t_b ?_|refine b_b ?_|refine d_addI ?_|refine d_ge ?_|refine s_seq ?_|refine s_pass ?_|refine s_ret ?_|refine s_if ?_|refine s_asg ?_|refine s_par ?_|refine s_put ?_|refine x_c ?_|refine x_var (by with_unfolding_all rfl) ?_|refine g_n (by simp only [List.set_cons_zero, List.set_cons_succ]; exact rfl) ?_|refine par_2 (by simp only [List.set_cons_zero, List.set_cons_succ]; exact rfl) ?_|refine d_mod (by decide) ?_|refine And.intro (show List.length _ ≤ 16777216 by simp) ?_|dsimp only))
  refine w_draw (by omega) (by omega) d fun r st' r0 r1 d' k' => ?_
  obtain ⟨k, rfl⟩ := Int.eq_ofNat_of_zero_le r0
  have hk : k < xs.length := by omega
  exact d_idxL (k'.items e hm hm2) (atI_nat (List.getElem?_eq_getElem hk)) (h k _ st' (List.getElem?_eq_getElem hk) d' k')
theorem Kp.get {nD nN : Nat} {st st' : Store} (k : Kp nD nN st st') {n : Nat} {o : O} (e : st[n]? = some o) (h1 : n ≠ nD) (h2 : n ≠ nN) : st'[n]? = some o := by
  rw [k.2 n (List.getElem?_eq_some_iff.mp e).1 h1 h2]
  exact e
theorem w_law_rule (d : Dr st nD nN) (h : ∀ (R : Rl) (st' : Store), R.Ok → Dr st' nD nN → Kp nD nN st st' → Q (dR R) st') : F_law_rule [.ref nD] st Q Rx := by
  have dl := d.lt
  refine def_in rfl (by simp only [List.map_cons, List.map_nil, List.cons_append, List.nil_append, Nat.reduceSub, List.replicate_succ, List.replicate_zero, List.append_nil, List.length_cons, List.length_nil]; exact rfl) ?_
  unfold b_law_rule
  (repeat (with_reducible first|refine x_bin ?_|refine x_tup ?_|refine x_lst ?_|refine a_nil ?_|refine a_cons ?_|refine x_call ?_|refine x_fun ?_|refine t_b ?_|refine b_b ?_|refine d_addI ?_|refine d_ge ?_|refine s_seq ?_|refine s_pass ?_|refine s_ret ?_|refine s_if ?_|refine s_asg ?_|refine s_par ?_|refine s_put ?_|refine x_c ?_|refine x_var (by with_unfolding_all rfl) ?_|refine g_n (by simp only [List.set_cons_zero, List.set_cons_succ]; exact rfl) ?_|refine par_2 (by simp only [List.set_cons_zero, List.set_cons_succ]; exact rfl) ?_|refine d_mod (by decide) ?_|refine And.intro (show List.length _ ≤ 16777216 by simp) ?_|dsimp only))
  refine w_pick (xs := [.str "one", .str "two", .str "cap"]) (items_hd _ _ _) (by simp) (by decide) (by omega) (by omega) (d.push _) fun j1 v1 st1 e1 d1 k1 => ?_
  have K1 := (Kp.push (nD := nD) (nN := nN) (st := st) _).trans k1
  have dl1 := d1.lt
  (repeat (with_reducible first|refine x_bin ?_|refine x_tup ?_|refine x_lst ?_|refine a_nil ?_|refine a_cons ?_|refine x_call ?_|refine x_fun ?_|refine t_b ?_|refine b_b ?_|refine d_addI ?_|refine d_ge ?_|refine s_seq ?_|refine s_pass ?_|refine s_ret ?_|refine s_if ?_|refine s_asg ?_|refine s_par ?_|refine s_put ?_|refine x_c ?_|refine x_var (by with_unfolding_all rfl) ?_|refine g_n (by simp only [List.set_cons_zero, List.set_cons_succ]; exact rfl) ?_|refine par_2 (by simp only [List.set_cons_zero, List.set_cons_succ]; exact rfl) ?_|refine d_mod (by decide) ?_|refine And.intro (show List.length _ ≤ 16777216 by simp) ?_|dsimp only))
  refine w_pick (xs := [.str "games", .str "twos", .str "winner", .str "only"]) (items_hd _ _ _) (by simp) (by decide) (by omega) (by omega) (d1.push _) fun j2 v2 st2 e2 d2 k2 => ?_
  have K2 := K1.trans ((Kp.push _).trans k2)
  (repeat (with_reducible first|refine x_bin ?_|refine x_tup ?_|refine x_lst ?_|refine a_nil ?_|refine a_cons ?_|refine x_call ?_|refine x_fun ?_|refine t_b ?_|refine b_b ?_|refine d_addI ?_|refine d_ge ?_|refine s_seq ?_|refine s_pass ?_|refine s_ret ?_|refine s_if ?_|refine s_asg ?_|refine s_par ?_|refine s_put ?_|refine x_c ?_|refine x_var (by with_unfolding_all rfl) ?_|refine g_n (by simp only [List.set_cons_zero, List.set_cons_succ]; exact rfl) ?_|refine par_2 (by simp only [List.set_cons_zero, List.set_cons_succ]; exact rfl) ?_|refine d_mod (by decide) ?_|refine And.intro (show List.length _ ≤ 16777216 by simp) ?_|dsimp only))
  refine w_draw (by decide) (by decide) d2 fun r3 st3 a3 b3 d3 k3 => ?_
  have K3 := K2.trans k3
  (repeat (with_reducible first|refine x_bin ?_|refine x_tup ?_|refine x_lst ?_|refine a_nil ?_|refine a_cons ?_|refine x_call ?_|refine x_fun ?_|refine t_b ?_|refine b_b ?_|refine d_addI ?_|refine d_ge ?_|refine s_seq ?_|refine s_pass ?_|refine s_ret ?_|refine s_if ?_|refine s_asg ?_|refine s_par ?_|refine s_put ?_|refine x_c ?_|refine x_var (by with_unfolding_all rfl) ?_|refine g_n (by simp only [List.set_cons_zero, List.set_cons_succ]; exact rfl) ?_|refine par_2 (by simp only [List.set_cons_zero, List.set_cons_succ]; exact rfl) ?_|refine d_mod (by decide) ?_|refine And.intro (show List.length _ ≤ 16777216 by simp) ?_|dsimp only))
  refine w_draw (by decide) (by decide) d3 fun r4 st4 a4 b4 d4 k4 => ?_
  have K4 := K3.trans k4
  have dl4 := d4.lt
  (repeat (with_reducible first|refine x_bin ?_|refine x_tup ?_|refine x_lst ?_|refine a_nil ?_|refine a_cons ?_|refine x_call ?_|refine x_fun ?_|refine t_b ?_|refine b_b ?_|refine d_addI ?_|refine d_ge ?_|refine s_seq ?_|refine s_pass ?_|refine s_ret ?_|refine s_if ?_|refine s_asg ?_|refine s_par ?_|refine s_put ?_|refine x_c ?_|refine x_var (by with_unfolding_all rfl) ?_|refine g_n (by simp only [List.set_cons_zero, List.set_cons_succ]; exact rfl) ?_|refine par_2 (by simp only [List.set_cons_zero, List.set_cons_succ]; exact rfl) ?_|refine d_mod (by decide) ?_|refine And.intro (show List.length _ ≤ 16777216 by simp) ?_|dsimp only))
  refine w_pick (xs := [.str "same", .str "longer"]) (items_hd _ _ _) (by simp) (by decide) (by omega) (by omega) (d4.push _) fun j5 v5 st5 e5 d5 k5 => ?_
  have K5 := K4.trans ((Kp.push _).trans k5)
  (repeat (with_reducible first|refine x_bin ?_|refine x_tup ?_|refine x_lst ?_|refine a_nil ?_|refine a_cons ?_|refine x_call ?_|refine x_fun ?_|refine t_b ?_|refine b_b ?_|refine d_addI ?_|refine d_ge ?_|refine s_seq ?_|refine s_pass ?_|refine s_ret ?_|refine s_if ?_|refine s_asg ?_|refine s_par ?_|refine s_put ?_|refine x_c ?_|refine x_var (by with_unfolding_all rfl) ?_|refine g_n (by simp only [List.set_cons_zero, List.set_cons_succ]; exact rfl) ?_|refine par_2 (by simp only [List.set_cons_zero, List.set_cons_succ]; exact rfl) ?_|refine d_mod (by decide) ?_|refine And.intro (show List.length _ ≤ 16777216 by simp) ?_|dsimp only))
  obtain ⟨l, rfl, hl⟩ : ∃ l, v1 = .str l ∧ (l = "one" ∨ l = "two" ∨ l = "cap") := by
    have := List.mem_of_getElem? e1
    simp at this
    rcases this with rfl | rfl | rfl
    · exact ⟨_, rfl, .inl rfl⟩
    · exact ⟨_, rfl, .inr (.inl rfl)⟩
    · exact ⟨_, rfl, .inr (.inr rfl)⟩
  obtain ⟨s, rfl, hs⟩ : ∃ l, v2 = .str l ∧ (l = "games" ∨ l = "twos" ∨ l = "winner" ∨ l = "only") := by
    have := List.mem_of_getElem? e2
    simp at this
    rcases this with rfl | rfl | rfl | rfl
    · exact ⟨_, rfl, .inl rfl⟩
    · exact ⟨_, rfl, .inr (.inl rfl)⟩
    · exact ⟨_, rfl, .inr (.inr (.inl rfl))⟩
    · exact ⟨_, rfl, .inr (.inr (.inr rfl))⟩
  obtain ⟨dd, rfl, hd⟩ : ∃ l, v5 = .str l ∧ (l = "same" ∨ l = "longer") := by
    have := List.mem_of_getElem? e5
    simp at this
    rcases this with rfl | rfl
    · exact ⟨_, rfl, .inl rfl⟩
    · exact ⟨_, rfl, .inr rfl⟩
  exact h ⟨2 + r3, l, 1 + r4, dd, s⟩ st5 ⟨by show 2 + r3 = 2 ∨ 2 + r3 = 3 ∨ 2 + r3 = 4; omega, hl, by show 1 + r4 = 1 ∨ 1 + r4 = 2 ∨ 1 + r4 = 3; omega, hd, hs⟩ d5 K5
end
end MP

namespace MP
open PySem L2
theorem toP_ints {st : Store} : ∀ {ns : List Int} {k : Nat}, optAll (toP (k + 1) st) (ns.map D.int) = some (ns.map PyData.int)
  | [], _ => rfl
  | i :: r, k => by rw [List.map_cons, optAll, toP_ints (ns := r)]; rfl
theorem canLay_ints : ∀ ns : List Int, PyData.canLayAll0 (ns.map PyData.int) = true
  | [] => rfl
  | i :: r => by rw [List.map_cons, PyData.canLayAll0, canLay_ints r]; rfl
theorem depth_ints : ∀ ns : List Int, PyData.depthAll (ns.map PyData.int) = 0
  | [] => rfl
  | i :: r => by rw [List.map_cons, PyData.depthAll, depth_ints r]; rfl
theorem shaped_ints (ns : List Int) : SeqAt.shaped (.list (ns.map PyData.int)) = true := by
  unfold SeqAt.shaped
  rw [show (PyData.list (ns.map PyData.int)).canLay0 = true from canLay_ints ns, show (PyData.list (ns.map PyData.int)).depth = 1 by rw [PyData.depth, depth_ints]]
  rfl
theorem toP_row {st : Store} {n : Nat} {bs : List Int} (e : itemsOf st n = some (bs.map D.int)) : toP 30 st (.ref n) = some (.list (bs.map PyData.int)) := by
  have h := toP_ints (st := st) (ns := bs) (k := 28)
  rw [show toP 30 st (.ref n) = (match itemsOf st n with
    | some xs => (optAll (toP 29 st) xs).map .list
    | none => none) from rfl, e]
  show Option.map PyData.list (optAll (toP 29 st) (bs.map D.int)) = _
  rw [h]
  rfl
section
variable {st : Store} {Q : D → Store → Prop} {Rx : XR} {nD nN : Nat}
theorem w_start {o : O} {ns : List Int} (e : itemsOf [o] 0 = some (ns.map D.int)) (h : ∀ nD nN st', Dr st' nD nN → Q (.ref nD) st') : F_law_start [.ref 0] [o] Q Rx := by
  refine def_in rfl (by simp only [List.map_cons, List.map_nil, List.cons_append, List.nil_append, Nat.reduceSub, List.replicate_succ, List.replicate_zero, List.append_nil, List.length_cons, List.length_nil]; exact rfl) ?_
  unfold b_law_start
  (repeat (with_reducible first|refine x_bin ?_|refine x_lst ?_|refine a_nil ?_|refine a_cons ?_|refine x_call ?_|refine x_fun ?_|refine x_sl ?_|refine o_none ?_|refine o_some ?_|refine o_int ?_|refine x_if ?_|refine t_b ?_|refine b_b ?_|refine d_addI ?_|refine d_lt ?_|refine s_seq ?_|refine s_ret ?_|refine s_asg ?_|refine x_c ?_|refine x_var (by with_unfolding_all rfl) ?_|refine g_n (by simp only [List.set_cons_zero, List.set_cons_succ]; exact rfl) ?_|refine And.intro (show List.length _ ≤ 16777216 by simp) ?_|dsimp only))
  have e2 : itemsOf ([o] ++ [O.lst []]) 0 = some (ns.map D.int) := items_old e
  refine d_eqP (u := .list (ns.map PyData.int)) (v := .list []) (toP_row e2) (toP_row (n := 1) (bs := []) (by rfl)) (shaped_ints ns) (by rfl) ?_ (fun k l z => by cases z.1) (fun k l z => by cases z.1)
  (repeat (with_reducible first|refine x_bin ?_|refine x_lst ?_|refine a_nil ?_|refine a_cons ?_|refine x_call ?_|refine x_fun ?_|refine x_sl ?_|refine o_none ?_|refine o_some ?_|refine o_int ?_|refine x_if ?_|refine t_b ?_|refine b_b ?_|refine d_addI ?_|refine d_lt ?_|refine s_seq ?_|refine s_ret ?_|refine s_asg ?_|refine x_c ?_|refine x_var (by with_unfolding_all rfl) ?_|refine g_n (by simp only [List.set_cons_zero, List.set_cons_succ]; exact rfl) ?_|refine And.intro (show List.length _ ≤ 16777216 by simp) ?_|dsimp only))
  refine if_p (fun e3 => ?_) (fun e3 => ?_)
  · (repeat (with_reducible first|refine x_bin ?_|refine x_lst ?_|refine a_nil ?_|refine a_cons ?_|refine x_call ?_|refine x_fun ?_|refine x_sl ?_|refine o_none ?_|refine o_some ?_|refine o_int ?_|refine x_if ?_|refine t_b ?_|refine b_b ?_|refine d_addI ?_|refine d_lt ?_|refine s_seq ?_|refine s_ret ?_|refine s_asg ?_|refine x_c ?_|refine x_var (by with_unfolding_all rfl) ?_|refine g_n (by simp only [List.set_cons_zero, List.set_cons_succ]; exact rfl) ?_|refine And.intro (show List.length _ ≤ 16777216 by simp) ?_|dsimp only))
    refine f_list (xs := ns.map D.int) (by unfold seqD; dsimp only; exact e2) ?_
    (repeat (with_reducible first|refine x_bin ?_|refine x_lst ?_|refine a_nil ?_|refine a_cons ?_|refine x_call ?_|refine x_fun ?_|refine x_sl ?_|refine o_none ?_|refine o_some ?_|refine o_int ?_|refine x_if ?_|refine t_b ?_|refine b_b ?_|refine d_addI ?_|refine d_lt ?_|refine s_seq ?_|refine s_ret ?_|refine s_asg ?_|refine x_c ?_|refine x_var (by with_unfolding_all rfl) ?_|refine g_n (by simp only [List.set_cons_zero, List.set_cons_succ]; exact rfl) ?_|refine And.intro (show List.length _ ≤ 16777216 by simp) ?_|dsimp only))
    refine h _ 2 _ ⟨by simp, ns, 0, rfl, rfl, ?_, Int.le_refl 0⟩
    rintro rfl
    cases e3
  · (repeat (with_reducible first|refine x_bin ?_|refine x_lst ?_|refine a_nil ?_|refine a_cons ?_|refine x_call ?_|refine x_fun ?_|refine x_sl ?_|refine o_none ?_|refine o_some ?_|refine o_int ?_|refine x_if ?_|refine t_b ?_|refine b_b ?_|refine d_addI ?_|refine d_lt ?_|refine s_seq ?_|refine s_ret ?_|refine s_asg ?_|refine x_c ?_|refine x_var (by with_unfolding_all rfl) ?_|refine g_n (by simp only [List.set_cons_zero, List.set_cons_succ]; exact rfl) ?_|refine And.intro (show List.length _ ≤ 16777216 by simp) ?_|dsimp only))
    exact h _ 2 _ ⟨by simp, [0], 0, rfl, rfl, by simp, Int.le_refl 0⟩
theorem w_law_row2 {lg : Int} (h0 : 0 ≤ lg) (h6 : lg ≤ 60) (d : Dr st nD nN) (h : ∀ (bs : List Int) (m : Nat) (st' : Store), RowOk bs → (bs.length : Int) ≤ lg → st.length ≤ m → st'[m]? = some (.lst (bs.map D.int)) → Dr st' nD nN → Kp nD nN st st' → Q (.ref m) st') : F_law_row [.ref nD, .int lg] st Q Rx := by
  have dl := d.lt
  refine def_in rfl (by simp only [List.map_cons, List.map_nil, List.cons_append, List.nil_append, Nat.reduceSub, List.replicate_succ, List.replicate_zero, List.append_nil, List.length_cons, List.length_nil]; exact rfl) ?_
  unfold b_law_row
  (repeat (with_reducible first|refine x_bin ?_|refine x_lst ?_|refine a_nil ?_|refine a_cons ?_|refine x_call ?_|refine x_fun ?_|refine x_sl ?_|refine o_none ?_|refine o_some ?_|refine o_int ?_|refine x_if ?_|refine t_b ?_|refine b_b ?_|refine d_addI ?_|refine d_lt ?_|refine s_seq ?_|refine s_ret ?_|refine s_asg ?_|refine x_c ?_|refine x_var (by with_unfolding_all rfl) ?_|refine g_n (by simp only [List.set_cons_zero, List.set_cons_succ]; exact rfl) ?_|refine And.intro (show List.length _ ≤ 16777216 by simp) ?_|dsimp only))
  refine w_draw (by omega) (by omega) (d.push _) fun most st1 a1 b1 d1 k1 => ?_
  have K1 := (Kp.push (nD := nD) (nN := nN) (st := st) [O.lst []]).trans k1
  have f1 : st1[st.length]? = some (O.lst []) := k1.get (get_hd _ _ _) (by omega) (by omega)
  (repeat (with_reducible first|refine x_bin ?_|refine x_lst ?_|refine a_nil ?_|refine a_cons ?_|refine x_call ?_|refine x_fun ?_|refine x_sl ?_|refine o_none ?_|refine o_some ?_|refine o_int ?_|refine x_if ?_|refine t_b ?_|refine b_b ?_|refine d_addI ?_|refine d_lt ?_|refine s_seq ?_|refine s_ret ?_|refine s_asg ?_|refine x_c ?_|refine x_var (by with_unfolding_all rfl) ?_|refine g_n (by simp only [List.set_cons_zero, List.set_cons_succ]; exact rfl) ?_|refine And.intro (show List.length _ ≤ 16777216 by simp) ?_|dsimp only))
  refine w_inv (fun m σ' st' => ∃ (nf : Nat) (bs : List Int), σ' = [some (.ref nD), some (.int lg), some (.ref nf), some (.int most)] ∧ st'[nf]? = some (.lst (bs.map D.int)) ∧ st.length ≤ nf ∧ (∀ b ∈ bs, b = 0 ∨ b = 1) ∧ bs.length ≤ 64 ∧ Dr st' nD nN ∧ Kp nD nN st st' ∧ m = 64 - bs.length) 64 ⟨st.length, [], rfl, f1, Nat.le_refl _, (fun b hb => by cases hb), by decide, d1, K1, rfl⟩ ?_
  rintro m σ' st' ⟨nf, bs, rfl, f, hnf, hb, hbl, d2, K2, hm⟩
  (repeat (with_reducible first|refine x_bin ?_|refine x_lst ?_|refine a_nil ?_|refine a_cons ?_|refine x_call ?_|refine x_fun ?_|refine x_sl ?_|refine o_none ?_|refine o_some ?_|refine o_int ?_|refine x_if ?_|refine t_b ?_|refine b_b ?_|refine d_addI ?_|refine d_lt ?_|refine s_seq ?_|refine s_ret ?_|refine s_asg ?_|refine x_c ?_|refine x_var (by with_unfolding_all rfl) ?_|refine g_n (by simp only [List.set_cons_zero, List.set_cons_succ]; exact rfl) ?_|refine And.intro (show List.length _ ≤ 16777216 by simp) ?_|dsimp only))
  refine f_len (xs := bs.map D.int) (by unfold seqD; dsimp only; exact items_of f) ?_
  (repeat (with_reducible first|refine x_bin ?_|refine x_lst ?_|refine a_nil ?_|refine a_cons ?_|refine x_call ?_|refine x_fun ?_|refine x_sl ?_|refine o_none ?_|refine o_some ?_|refine o_int ?_|refine x_if ?_|refine t_b ?_|refine b_b ?_|refine d_addI ?_|refine d_lt ?_|refine s_seq ?_|refine s_ret ?_|refine s_asg ?_|refine x_c ?_|refine x_var (by with_unfolding_all rfl) ?_|refine g_n (by simp only [List.set_cons_zero, List.set_cons_succ]; exact rfl) ?_|refine And.intro (show List.length _ ≤ 16777216 by simp) ?_|dsimp only))
  rw [List.length_map]
  refine wh_p (fun e => ?_) (fun e => ?_)
  · have e' : ((bs.length : Nat) : Int) < most := of_decide_eq_true e
    (repeat (with_reducible first|refine x_bin ?_|refine x_lst ?_|refine a_nil ?_|refine a_cons ?_|refine x_call ?_|refine x_fun ?_|refine x_sl ?_|refine o_none ?_|refine o_some ?_|refine o_int ?_|refine x_if ?_|refine t_b ?_|refine b_b ?_|refine d_addI ?_|refine d_lt ?_|refine s_seq ?_|refine s_ret ?_|refine s_asg ?_|refine x_c ?_|refine x_var (by with_unfolding_all rfl) ?_|refine g_n (by simp only [List.set_cons_zero, List.set_cons_succ]; exact rfl) ?_|refine And.intro (show List.length _ ≤ 16777216 by simp) ?_|dsimp only))
    refine w_draw (by decide) (by decide) d2 fun r st2 a2 b2 d3 k3 => ?_
    have K3 := K2.trans k3
    (repeat (with_reducible first|refine x_bin ?_|refine x_lst ?_|refine a_nil ?_|refine a_cons ?_|refine x_call ?_|refine x_fun ?_|refine x_sl ?_|refine o_none ?_|refine o_some ?_|refine o_int ?_|refine x_if ?_|refine t_b ?_|refine b_b ?_|refine d_addI ?_|refine d_lt ?_|refine s_seq ?_|refine s_ret ?_|refine s_asg ?_|refine x_c ?_|refine x_var (by with_unfolding_all rfl) ?_|refine g_n (by simp only [List.set_cons_zero, List.set_cons_succ]; exact rfl) ?_|refine And.intro (show List.length _ ≤ 16777216 by simp) ?_|dsimp only))
    have d3l := d3.lt
    refine w_pick (xs := [.int 1, .int 1, .int 2, .int 3]) (items_hd _ _ _) (by simp) (by decide) (by simp; omega) (by simp; omega) ((d3.push _).push _) fun j v st3 ev d4 k4 => ?_
    have K4 := K3.trans (((Kp.push _).trans (Kp.push _)).trans k4)
    obtain ⟨w, rfl, hw1, hw3⟩ : ∃ w : Int, v = .int w ∧ 1 ≤ w ∧ w ≤ 3 := by
      have := List.mem_of_getElem? ev
      simp at this
      rcases this with rfl | rfl | rfl <;> exact ⟨_, rfl, by decide, by decide⟩
    have g2 : st3[st2.length]? = some (O.lst [.int r]) := k4.get (by rw [List.getElem?_append_left (by simp)]; exact get_hd _ _ _) (by omega) (by omega)
    have fl := (List.getElem?_eq_some_iff.mp f).1
    have gf : st3[nf]? = some (O.lst (bs.map D.int)) := k4.get (by
      have e0 := k3.get f (by omega) (by omega)
      rw [List.append_assoc, List.getElem?_append_left (List.getElem?_eq_some_iff.mp e0).1]; exact e0) (by omega) (by omega)
    refine d_mulL g2 (by omega) (by omega) (by simp; omega) ?_
    (repeat (with_reducible first|refine x_bin ?_|refine x_lst ?_|refine a_nil ?_|refine a_cons ?_|refine x_call ?_|refine x_fun ?_|refine x_sl ?_|refine o_none ?_|refine o_some ?_|refine o_int ?_|refine x_if ?_|refine t_b ?_|refine b_b ?_|refine d_addI ?_|refine d_lt ?_|refine s_seq ?_|refine s_ret ?_|refine s_asg ?_|refine x_c ?_|refine x_var (by with_unfolding_all rfl) ?_|refine g_n (by simp only [List.set_cons_zero, List.set_cons_succ]; exact rfl) ?_|refine And.intro (show List.length _ ≤ 16777216 by simp) ?_|dsimp only))
    have K4l := K4.1
    refine d_addL (xs := bs.map D.int) (ys := (List.replicate w.toNat [D.int r]).flatten) ?_ (get_hd _ _ _) (by simp; omega) ?_
    · rw [List.getElem?_append_left (List.getElem?_eq_some_iff.mp gf).1]; exact gf
    (repeat (with_reducible first|refine x_bin ?_|refine x_lst ?_|refine a_nil ?_|refine a_cons ?_|refine x_call ?_|refine x_fun ?_|refine x_sl ?_|refine o_none ?_|refine o_some ?_|refine o_int ?_|refine x_if ?_|refine t_b ?_|refine b_b ?_|refine d_addI ?_|refine d_lt ?_|refine s_seq ?_|refine s_ret ?_|refine s_asg ?_|refine x_c ?_|refine x_var (by with_unfolding_all rfl) ?_|refine g_n (by simp only [List.set_cons_zero, List.set_cons_succ]; exact rfl) ?_|refine And.intro (show List.length _ ≤ 16777216 by simp) ?_|dsimp only))
    have er : (List.replicate w.toNat [D.int r]).flatten = (List.replicate w.toNat r).map D.int := by
      generalize w.toNat = q
      induction q with
      | zero => rfl
      | succ q ih => rw [List.replicate_succ, List.flatten_cons, ih, List.replicate_succ, List.map_cons]; rfl
    refine ⟨64 - (bs ++ List.replicate w.toNat r).length, by rw [List.length_append, List.length_replicate]; omega, _, bs ++ List.replicate w.toNat r, rfl, ?_, ?_, fun b hbm => ?_, ?_, (d4.push _).push _, K4.trans ((Kp.push _).trans (Kp.push _)), rfl⟩
    · rw [List.map_append, ← er]; exact get_hd _ _ _
    · rw [List.length_append]; omega
    · rcases List.mem_append.mp hbm with q | q
      · exact hb b q
      · rw [List.eq_of_mem_replicate q]; omega
    · rw [List.length_append, List.length_replicate]; omega
  · (repeat (with_reducible first|refine x_bin ?_|refine x_lst ?_|refine a_nil ?_|refine a_cons ?_|refine x_call ?_|refine x_fun ?_|refine x_sl ?_|refine o_none ?_|refine o_some ?_|refine o_int ?_|refine x_if ?_|refine t_b ?_|refine b_b ?_|refine d_addI ?_|refine d_lt ?_|refine s_seq ?_|refine s_ret ?_|refine s_asg ?_|refine x_c ?_|refine x_var (by with_unfolding_all rfl) ?_|refine g_n (by simp only [List.set_cons_zero, List.set_cons_succ]; exact rfl) ?_|refine And.intro (show List.length _ ≤ 16777216 by simp) ?_|dsimp only))
    refine sl_l (items_of f) ?_
    have ec : cutD (bs.map D.int) none (some most) = (bs.take most.toNat).map D.int := by
      obtain ⟨k, rfl⟩ := Int.eq_ofNat_of_zero_le a1
      unfold cutD
      rw [HT.sIx_none, HT.sIx_nat, List.drop_zero, Nat.sub_zero, List.map_take, List.length_map]
      by_cases hk : k ≤ bs.length
      · rw [Nat.min_eq_left hk]; rfl
      · rw [Nat.min_eq_right (by omega), List.take_of_length_le (by simp), List.take_of_length_le (by simp; omega)]
    rw [ec]
    refine h (bs.take most.toNat) _ _ ⟨?_, fun b hbm => hb b (List.mem_of_mem_take hbm)⟩ ?_ K2.1 (get_hd _ _ _) (d2.push _) (K2.trans (Kp.push _))
    · rw [List.length_take]
      omega
    · rw [List.length_take]
      omega
theorem w_law_row {lg : Int} (h0 : 0 ≤ lg) (h6 : lg ≤ 60) (d : Dr st nD nN) (h : ∀ (bs : List Int) (m : Nat) (st' : Store), RowOk bs → st.length ≤ m → st'[m]? = some (.lst (bs.map D.int)) → Dr st' nD nN → Kp nD nN st st' → Q (.ref m) st') : F_law_row [.ref nD, .int lg] st Q Rx :=
  w_law_row2 h0 h6 d fun bs m st' a _ b c e f => h bs m st' a b c e f
end
end MP

namespace MP
open PySem L2
/-- what stood stands -/
def Sup (st st' : Store) : Prop := st.length ≤ st'.length ∧ ∀ i, i < st.length → st'[i]? = st[i]?
theorem Sup.refl {st : Store} : Sup st st := ⟨Nat.le_refl _, fun _ _ => rfl⟩
theorem Sup.trans {a b c : Store} (x : Sup a b) (y : Sup b c) : Sup a c := ⟨Nat.le_trans x.1 y.1, fun i h => (y.2 i (Nat.lt_of_lt_of_le h x.1)).trans (x.2 i h)⟩
theorem Sup.push {st : Store} (gs : Store) : Sup st (st ++ gs) := ⟨by simp, fun i h => List.getElem?_append_left h⟩
theorem Sup.get {st st' : Store} (k : Sup st st') {n : Nat} {o : O} (e : st[n]? = some o) : st'[n]? = some o := by
  rw [k.2 n (List.getElem?_eq_some_iff.mp e).1]; exact e
theorem Sup.items {st st' : Store} (k : Sup st st') {n : Nat} {xs : List D} (e : itemsOf st n = some xs) : itemsOf st' n = some xs := by
  obtain ⟨o, ho, _⟩ := itemsOf_some e
  unfold itemsOf at e ⊢
  rw [k.get ho]; rw [ho] at e; exact e
theorem Sup.set {st st' : Store} (k : Sup st st') {n : Nat} (h : st.length ≤ n) (o : O) : Sup st (st'.set n o) := ⟨by rw [List.length_set]; exact k.1, fun i hi => by rw [List.getElem?_set_ne (by omega)]; exact k.2 i hi⟩
theorem items_set {st : Store} {n m : Nat} {xs : List D} {o : O} (e : itemsOf st m = some xs) (h : n ≠ m) : itemsOf (st.set n o) m = some xs := by
  unfold itemsOf at e ⊢; rw [List.getElem?_set_ne h]; exact e
theorem Sup.app {st st' : Store} (k : Sup st st') : ∃ gb, st' = st ++ gb := by
  refine ⟨st'.drop st.length, ?_⟩
  have e : st'.take st.length = st := by
    apply List.ext_getElem?
    intro i
    by_cases hi : i < st.length
    · rw [List.getElem?_take_of_lt hi]; exact k.2 i hi
    · rw [List.getElem?_eq_none (by rw [List.length_take]; omega), List.getElem?_eq_none (by omega)]
  have := List.take_append_drop st.length st'
  rw [e] at this
  exact this.symm
theorem lt_of_get {st : Store} {n : Nat} {o : O} (e : st[n]? = some o) : n < st.length := (List.getElem?_eq_some_iff.mp e).1
theorem lt_of_items {st : Store} {n : Nat} {xs : List D} (e : itemsOf st n = some xs) : n < st.length := let ⟨_, h, _⟩ := itemsOf_some e; lt_of_get h
end MP

namespace MP
open PySem L2
/-! ### values as trees -/
inductive T where
  | non | bl (b : Bool) | int (i : Int) | str (s : Str) | tup (ts : List T) | lst (ts : List T)
mutual
def Rp (st : Store) : T → D → Prop
  | .non, d => d = .non
  | .bl b, d => d = .bl b
  | .int i, d => d = .int i
  | .str s, d => d = .str s
  | .tup ts, d => ∃ ds, d = .tup ds ∧ RpL st ts ds
  | .lst ts, d => ∃ n ds, d = .ref n ∧ st[n]? = some (.lst ds) ∧ RpL st ts ds
def RpL (st : Store) : List T → List D → Prop
  | [], ds => ds = []
  | t :: ts, ds => ∃ d r, ds = d :: r ∧ Rp st t d ∧ RpL st ts r
end
mutual
theorem Rp.app {st : Store} (gb : Store) : ∀ {t : T} {d : D}, Rp st t d → Rp (st ++ gb) t d
  | .non, _, h => by simpa only [Rp] using h
  | .bl _, _, h => by simpa only [Rp] using h
  | .int _, _, h => by simpa only [Rp] using h
  | .str _, _, h => by simpa only [Rp] using h
  | .tup ts, _, h => by
    simp only [Rp] at h ⊢
    obtain ⟨ds, e, r⟩ := h
    exact ⟨ds, e, r.app gb⟩
  | .lst ts, _, h => by
    simp only [Rp] at h ⊢
    obtain ⟨n, ds, e, e2, r⟩ := h
    exact ⟨n, ds, e, by rw [List.getElem?_append_left (lt_of_get e2)]; exact e2, r.app gb⟩
theorem RpL.app {st : Store} (gb : Store) : ∀ {ts : List T} {ds : List D}, RpL st ts ds → RpL (st ++ gb) ts ds
  | [], _, h => by simpa only [RpL] using h
  | t :: ts, _, h => by
    simp only [RpL] at h ⊢
    obtain ⟨d, r, e, a, b⟩ := h
    exact ⟨d, r, e, a.app gb, b.app gb⟩
end
theorem RpL.length {st : Store} : ∀ {ts : List T} {ds : List D}, RpL st ts ds → ds.length = ts.length
  | [], _, h => by simp only [RpL] at h; rw [h]; rfl
  | t :: ts, _, h => by
    simp only [RpL] at h
    obtain ⟨d, r, rfl, _, b⟩ := h
    simp [b.length]
theorem RpL.get {st : Store} : ∀ {ts : List T} {ds : List D}, RpL st ts ds → ∀ k, k < ts.length → ∃ t d, ts[k]? = some t ∧ ds[k]? = some d ∧ Rp st t d
  | [], _, _, k, hk => by simp at hk
  | t :: ts, _, h, k, hk => by
    simp only [RpL] at h
    obtain ⟨d, r, rfl, a, b⟩ := h
    cases k with
    | zero => exact ⟨t, d, rfl, rfl, a⟩
    | succ k => exact b.get k (by simpa using hk)
theorem RpL.append {st : Store} : ∀ {ts us : List T} {ds es : List D}, RpL st ts ds → RpL st us es → RpL st (ts ++ us) (ds ++ es)
  | [], _, _, _, h, g => by simp only [RpL] at h; subst h; exact g
  | t :: ts, _, _, _, h, g => by
    simp only [RpL] at h
    obtain ⟨d, r, rfl, a, b⟩ := h
    simp only [List.cons_append, RpL]
    exact ⟨d, _, rfl, a, b.append g⟩
theorem RpL.rep {st : Store} {ts : List T} {ds : List D} (h : RpL st ts ds) : ∀ n : Nat, RpL st (List.replicate n ts).flatten (List.replicate n ds).flatten
  | 0 => by simp [RpL]
  | n + 1 => by
    rw [List.replicate_succ, List.replicate_succ, List.flatten_cons, List.flatten_cons]
    exact h.append (h.rep n)
/-! the checks on trees -/
def T.ints : List Int → List T := fun l => l.map T.int
def eqB : T → T → Bool
  | .int i, .int j => decide (i = j)
  | .str s, .str r => decide (s = r)
  | _, _ => false
def numB (t : T) (l : List Int) : Bool := match t with
  | .int i => l.any fun j => decide (j = i)
  | _ => false
def wordB (t : T) (l : List Str) : Bool := match t with
  | .str s => l.any fun j => decide (j = s)
  | _ => false
def ruleB (t : T) : Bool := match t with
  | .tup [a, b, c, d, e] => numB a [2, 3, 4] && wordB b ["one", "two", "cap"] && numB c [1, 2, 3] && wordB d ["same", "longer"] && wordB e ["games", "twos", "winner", "only"]
  | _ => false
def rowB (t : T) : Bool := match t with
  | .lst ts => decide (ts.length ≤ 60) && ts.all fun t => numB t [0, 1]
  | _ => false
def upB (t : T) (l : Int) : Bool := match t with
  | .int i => decide (0 ≤ i) && decide (i ≤ l)
  | _ => false
def upsB (ts : List T) (ls : List Int) : Bool := (List.zipWith upB ts ls).all id
def tupB (t : T) (ls : List Int) : Bool := match t with
  | .tup ts => decide (ts.length = ls.length) && upsB ts ls
  | _ => false
def boardB (s : Int) (t : T) : Bool := if s = 1 then upB t 1 else if s = 0 then tupB t [1, 5, 5, 3, 3] else tupB t [3, 3]
def brB (s : Int) (t : T) : Bool := match t with
  | .lst ts => decide (ts.length ≤ 60) && ts.all (boardB s)
  | _ => false
def lenB (x y : T) : Bool := match x, y with
  | .lst a, .lst b => decide (a.length = b.length)
  | _, _ => false
def recB (s : Int) (t : T) : Bool := match t with
  | .tup [x, y] => rowB x && (brB s y && lenB x y)
  | _ => false
def famB (t : T) : Bool := match t with
  | .lst ts => decide (1 ≤ ts.length) && decide (ts.length ≤ 8) && ts.all ruleB
  | _ => false
def recsB (s : Int) (t : T) : Bool := match t with
  | .lst ts => decide (1 ≤ ts.length) && decide (ts.length ≤ 12) && ts.all (recB s)
  | _ => false
theorem is_n {k : String} {p : Bool} {T : String} {st : Store} {Q : D → Store → Prop} {d : D} (e : kindD st d = some k) (e2 : kitB k T = some p) (h : Q (.bl p) st) : isF T d st Q := is_k e e2 h
/-- any of my literals is settled -/
theorem f_lenL {st : Store} {n : Nat} {xs : List D} {Q : D → Store → Prop} (e : st[n]? = some (.lst xs)) (h : Q (.int xs.length) st) : fLen [.ref n] st Q := f_len (xs := xs) (by unfold seqD itemsOf; dsimp only; rw [e]) h
section
variable {st : Store} {Q : D → Store → Prop} {R : XR} {t : T} {d : D}
theorem kind_ref {n : Nat} {xs : List D} (e : st[n]? = some (.lst xs)) : kindD st (.ref n) = some "list" := by unfold kindD; dsimp only; rw [e]
theorem inInts (i : Int) (l : List Int) : inFl (.int i) (l.map D.int) = l.any fun j => decide (j = i) := by
  unfold inFl
  rw [List.any_map]
  congr 1
theorem inStrs (s : Str) (l : List Str) : inFl (.str s) (l.map D.str) = l.any fun j => decide (j = s) := by
  unfold inFl
  rw [List.any_map]
  congr 1
theorem v_is_number_of (l : List Int) (hr : Rp st t d) (h : Q (.bl (numB t l)) st) : F_is_number_of [d, .tup (l.map D.int)] st Q R := by
  cases t <;> simp only [Rp] at hr
  case int i =>
    subst hr
    exact w_is_number_of (js := l.map D.int) (by rw [List.all_map]; simp [flatD]) (by rw [inInts]; exact h)
  case non =>
    subst hr; refine def_in rfl (by simp only [List.map_cons, List.map_nil, List.cons_append, List.nil_append, Nat.reduceSub, List.replicate_succ, List.replicate_zero, List.append_nil, List.length_cons, List.length_nil]; exact rfl) ?_; unfold b_is_number_of; (repeat (with_reducible first|refine x_isi ?_|refine x_and ?_|refine x_not ?_|refine not_b ?_|refine s_ret ?_|refine x_var (by with_unfolding_all rfl) ?_|refine and_bt (by decide) ?_|refine and_bf (by decide) ?_|dsimp only))
    refine is_k (k := "NoneType") rfl (by decide +kernel) (p := false) ?_; (repeat (with_reducible first|refine x_isi ?_|refine x_and ?_|refine x_not ?_|refine not_b ?_|refine s_ret ?_|refine x_var (by with_unfolding_all rfl) ?_|refine and_bt (by decide) ?_|refine and_bf (by decide) ?_|dsimp only)); exact h
  case bl =>
    subst hr; refine def_in rfl (by simp only [List.map_cons, List.map_nil, List.cons_append, List.nil_append, Nat.reduceSub, List.replicate_succ, List.replicate_zero, List.append_nil, List.length_cons, List.length_nil]; exact rfl) ?_; unfold b_is_number_of; (repeat (with_reducible first|refine x_isi ?_|refine x_and ?_|refine x_not ?_|refine not_b ?_|refine s_ret ?_|refine x_var (by with_unfolding_all rfl) ?_|refine and_bt (by decide) ?_|refine and_bf (by decide) ?_|dsimp only))
    refine is_k (k := "bool") rfl (by decide +kernel) (p := true) ?_; (repeat (with_reducible first|refine x_isi ?_|refine x_and ?_|refine x_not ?_|refine not_b ?_|refine s_ret ?_|refine x_var (by with_unfolding_all rfl) ?_|refine and_bt (by decide) ?_|refine and_bf (by decide) ?_|dsimp only))
    refine is_k (k := "bool") rfl (by decide +kernel) (p := true) ?_; (repeat (with_reducible first|refine x_isi ?_|refine x_and ?_|refine x_not ?_|refine not_b ?_|refine s_ret ?_|refine x_var (by with_unfolding_all rfl) ?_|refine and_bt (by decide) ?_|refine and_bf (by decide) ?_|dsimp only)); exact h
  case str =>
    subst hr; refine def_in rfl (by simp only [List.map_cons, List.map_nil, List.cons_append, List.nil_append, Nat.reduceSub, List.replicate_succ, List.replicate_zero, List.append_nil, List.length_cons, List.length_nil]; exact rfl) ?_; unfold b_is_number_of; (repeat (with_reducible first|refine x_isi ?_|refine x_and ?_|refine x_not ?_|refine not_b ?_|refine s_ret ?_|refine x_var (by with_unfolding_all rfl) ?_|refine and_bt (by decide) ?_|refine and_bf (by decide) ?_|dsimp only))
    refine is_k (k := "str") rfl (by decide +kernel) (p := false) ?_; (repeat (with_reducible first|refine x_isi ?_|refine x_and ?_|refine x_not ?_|refine not_b ?_|refine s_ret ?_|refine x_var (by with_unfolding_all rfl) ?_|refine and_bt (by decide) ?_|refine and_bf (by decide) ?_|dsimp only)); exact h
  case tup =>
    obtain ⟨ds, rfl, _⟩ := hr; refine def_in rfl (by simp only [List.map_cons, List.map_nil, List.cons_append, List.nil_append, Nat.reduceSub, List.replicate_succ, List.replicate_zero, List.append_nil, List.length_cons, List.length_nil]; exact rfl) ?_; unfold b_is_number_of; (repeat (with_reducible first|refine x_isi ?_|refine x_and ?_|refine x_not ?_|refine not_b ?_|refine s_ret ?_|refine x_var (by with_unfolding_all rfl) ?_|refine and_bt (by decide) ?_|refine and_bf (by decide) ?_|dsimp only))
    refine is_k (k := "tuple") rfl (by decide +kernel) (p := false) ?_; (repeat (with_reducible first|refine x_isi ?_|refine x_and ?_|refine x_not ?_|refine not_b ?_|refine s_ret ?_|refine x_var (by with_unfolding_all rfl) ?_|refine and_bt (by decide) ?_|refine and_bf (by decide) ?_|dsimp only)); exact h
  case lst =>
    obtain ⟨n, ds, rfl, e, _⟩ := hr; refine def_in rfl (by simp only [List.map_cons, List.map_nil, List.cons_append, List.nil_append, Nat.reduceSub, List.replicate_succ, List.replicate_zero, List.append_nil, List.length_cons, List.length_nil]; exact rfl) ?_; unfold b_is_number_of; (repeat (with_reducible first|refine x_isi ?_|refine x_and ?_|refine x_not ?_|refine not_b ?_|refine s_ret ?_|refine x_var (by with_unfolding_all rfl) ?_|refine and_bt (by decide) ?_|refine and_bf (by decide) ?_|dsimp only))
    refine is_k (k := "list") (kind_ref e) (by decide +kernel) (p := false) ?_; (repeat (with_reducible first|refine x_isi ?_|refine x_and ?_|refine x_not ?_|refine not_b ?_|refine s_ret ?_|refine x_var (by with_unfolding_all rfl) ?_|refine and_bt (by decide) ?_|refine and_bf (by decide) ?_|dsimp only)); exact h
theorem v_is_word_of (l : List Str) (hr : Rp st t d) (h : Q (.bl (wordB t l)) st) : F_is_word_of [d, .tup (l.map D.str)] st Q R := by
  cases t <;> simp only [Rp] at hr
  case str i =>
    subst hr
    exact w_is_word_of (js := l.map D.str) (by rw [List.all_map]; simp [flatD]) (by rw [inStrs]; exact h)
  case non =>
    subst hr; refine def_in rfl (by simp only [List.map_cons, List.map_nil, List.cons_append, List.nil_append, Nat.reduceSub, List.replicate_succ, List.replicate_zero, List.append_nil, List.length_cons, List.length_nil]; exact rfl) ?_; unfold b_is_word_of; (repeat (with_reducible first|refine x_isi ?_|refine x_and ?_|refine x_not ?_|refine not_b ?_|refine s_ret ?_|refine x_var (by with_unfolding_all rfl) ?_|refine and_bt (by decide) ?_|refine and_bf (by decide) ?_|dsimp only))
    refine is_k (k := "NoneType") rfl (by decide +kernel) (p := false) ?_; (repeat (with_reducible first|refine x_isi ?_|refine x_and ?_|refine x_not ?_|refine not_b ?_|refine s_ret ?_|refine x_var (by with_unfolding_all rfl) ?_|refine and_bt (by decide) ?_|refine and_bf (by decide) ?_|dsimp only)); exact h
  case bl =>
    subst hr; refine def_in rfl (by simp only [List.map_cons, List.map_nil, List.cons_append, List.nil_append, Nat.reduceSub, List.replicate_succ, List.replicate_zero, List.append_nil, List.length_cons, List.length_nil]; exact rfl) ?_; unfold b_is_word_of; (repeat (with_reducible first|refine x_isi ?_|refine x_and ?_|refine x_not ?_|refine not_b ?_|refine s_ret ?_|refine x_var (by with_unfolding_all rfl) ?_|refine and_bt (by decide) ?_|refine and_bf (by decide) ?_|dsimp only))
    refine is_k (k := "bool") rfl (by decide +kernel) (p := false) ?_; (repeat (with_reducible first|refine x_isi ?_|refine x_and ?_|refine x_not ?_|refine not_b ?_|refine s_ret ?_|refine x_var (by with_unfolding_all rfl) ?_|refine and_bt (by decide) ?_|refine and_bf (by decide) ?_|dsimp only)); exact h
  case int =>
    subst hr; refine def_in rfl (by simp only [List.map_cons, List.map_nil, List.cons_append, List.nil_append, Nat.reduceSub, List.replicate_succ, List.replicate_zero, List.append_nil, List.length_cons, List.length_nil]; exact rfl) ?_; unfold b_is_word_of; (repeat (with_reducible first|refine x_isi ?_|refine x_and ?_|refine x_not ?_|refine not_b ?_|refine s_ret ?_|refine x_var (by with_unfolding_all rfl) ?_|refine and_bt (by decide) ?_|refine and_bf (by decide) ?_|dsimp only))
    refine is_k (k := "int") rfl (by decide +kernel) (p := false) ?_; (repeat (with_reducible first|refine x_isi ?_|refine x_and ?_|refine x_not ?_|refine not_b ?_|refine s_ret ?_|refine x_var (by with_unfolding_all rfl) ?_|refine and_bt (by decide) ?_|refine and_bf (by decide) ?_|dsimp only)); exact h
  case tup =>
    obtain ⟨ds, rfl, _⟩ := hr; refine def_in rfl (by simp only [List.map_cons, List.map_nil, List.cons_append, List.nil_append, Nat.reduceSub, List.replicate_succ, List.replicate_zero, List.append_nil, List.length_cons, List.length_nil]; exact rfl) ?_; unfold b_is_word_of; (repeat (with_reducible first|refine x_isi ?_|refine x_and ?_|refine x_not ?_|refine not_b ?_|refine s_ret ?_|refine x_var (by with_unfolding_all rfl) ?_|refine and_bt (by decide) ?_|refine and_bf (by decide) ?_|dsimp only))
    refine is_k (k := "tuple") rfl (by decide +kernel) (p := false) ?_; (repeat (with_reducible first|refine x_isi ?_|refine x_and ?_|refine x_not ?_|refine not_b ?_|refine s_ret ?_|refine x_var (by with_unfolding_all rfl) ?_|refine and_bt (by decide) ?_|refine and_bf (by decide) ?_|dsimp only)); exact h
  case lst =>
    obtain ⟨n, ds, rfl, e, _⟩ := hr; refine def_in rfl (by simp only [List.map_cons, List.map_nil, List.cons_append, List.nil_append, Nat.reduceSub, List.replicate_succ, List.replicate_zero, List.append_nil, List.length_cons, List.length_nil]; exact rfl) ?_; unfold b_is_word_of; (repeat (with_reducible first|refine x_isi ?_|refine x_and ?_|refine x_not ?_|refine not_b ?_|refine s_ret ?_|refine x_var (by with_unfolding_all rfl) ?_|refine and_bt (by decide) ?_|refine and_bf (by decide) ?_|dsimp only))
    refine is_k (k := "list") (kind_ref e) (by decide +kernel) (p := false) ?_; (repeat (with_reducible first|refine x_isi ?_|refine x_and ?_|refine x_not ?_|refine not_b ?_|refine s_ret ?_|refine x_var (by with_unfolding_all rfl) ?_|refine and_bt (by decide) ?_|refine and_bf (by decide) ?_|dsimp only)); exact h
end
end MP

namespace MP
open PySem L2
theorem itemsO {st : Store} {n : Nat} {xs : List D} (e : st[n]? = some (.lst xs)) : itemsOf st n = some xs := by unfold itemsOf; rw [e]
theorem RpL.getD {st : Store} {ts : List T} {ds : List D} (h : RpL st ts ds) {k : Nat} (hk : k < ts.length) : Rp st (ts.getD k .non) (ds.getD k .non) := by
  obtain ⟨t, d, e1, e2, r⟩ := h.get k hk
  rw [List.getD_eq_getElem?_getD, e1, List.getD_eq_getElem?_getD, e2]
  exact r
theorem item_D {st : Store} {n k : Nat} {ds : List D} (e : itemsOf st n = some ds) (hk : k < ds.length) : itemAt (.lst n) k st = some (some (ds.getD k .non)) := by
  unfold itemAt
  dsimp only
  rw [e]
  dsimp only
  rw [List.getElem?_eq_getElem hk, List.getD_eq_getElem?_getD, List.getElem?_eq_getElem hk]
  rfl
theorem rangeT_all (f : T → Bool) (ts : List T) : ((List.range ts.length).map fun k => f (ts.getD k .non)).all id = ts.all f := by
  have : ((List.range ts.length).map fun k => f (ts.getD k .non)) = ts.map f := by
    apply List.ext_getElem (by simp)
    intro i h1 h2
    simp only [List.length_map, List.length_range] at h1
    rw [List.getElem_map, List.getElem_map, List.getElem_range, List.getD_eq_getElem?_getD, List.getElem?_eq_getElem h1]
    rfl
  rw [this, List.all_map]
  rfl
theorem range_zip (ts : List T) (ls : List Int) (e : ts.length = ls.length) : ((List.range ts.length).map fun k => upB (ts.getD k .non) (ls.getD k 0)).all id = upsB ts ls := by
  unfold upsB
  congr 1
  apply List.ext_getElem (by simp [e])
  intro i h1 h2
  simp only [List.length_map, List.length_range] at h1
  rw [List.getElem_map, List.getElem_zipWith, List.getElem_range, List.getD_eq_getElem?_getD, List.getElem?_eq_getElem h1, List.getD_eq_getElem?_getD, List.getElem?_eq_getElem (by omega)]
  rfl
theorem decide_int (a b : Nat) : decide ((a : Int) = (b : Int)) = decide (a = b) := by rw [decide_eq_decide]; omega
def kindT : T → String
  | .non => "NoneType" | .bl _ => "bool" | .int _ => "int" | .str _ => "str" | .tup _ => "tuple" | .lst _ => "list"
theorem kind_T {st : Store} {t : T} {d : D} (h : Rp st t d) : kindD st d = some (kindT t) := by
  cases t <;> simp only [Rp] at h
  case tup => obtain ⟨_, rfl, _⟩ := h; rfl
  case lst => obtain ⟨n, ds, rfl, e, _⟩ := h; exact kind_ref e
  all_goals (subst h; rfl)
def isTupT : T → Bool
  | .tup _ => true
  | _ => false
def isLstT : T → Bool
  | .lst _ => true
  | _ => false
theorem kit_tup (t : T) : kitB (kindT t) "tuple" = some (isTupT t) := by cases t <;> (simp only [kindT, isTupT]; decide +kernel)
theorem kit_lst (t : T) : kitB (kindT t) "list" = some (isLstT t) := by cases t <;> (simp only [kindT, isLstT]; decide +kernel)
section
variable {st : Store} {Q : D → Store → Prop} {R : XR} {t : T} {d : D}
theorem is_tupT (h : Rp st t d) (hq : Q (.bl (isTupT t)) st) : isF "tuple" d st Q := is_k (kind_T h) (kit_tup t) hq
theorem is_lstT (h : Rp st t d) (hq : Q (.bl (isLstT t)) st) : isF "list" d st Q := is_k (kind_T h) (kit_lst t) hq
theorem v_row (hr : Rp st t d) (h : ∀ gb, Q (.bl (rowB t)) (st ++ gb)) : F_is_row [d] st Q R := by
  have h0 := h []
  rw [List.append_nil] at h0
  refine def_in rfl (by simp only [List.map_cons, List.map_nil, List.cons_append, List.nil_append, Nat.reduceSub, List.replicate_succ, List.replicate_zero, List.append_nil, List.length_cons, List.length_nil]; exact rfl) ?_
  unfold b_is_row
  (repeat (with_reducible first|refine x_isi ?_|refine x_and ?_|refine t_b ?_|refine b_b ?_|refine t_or ?_|refine t_not ?_|refine t_tru ?_|refine tru_b ?_|refine x_bin ?_|refine a_nil ?_|refine a_cons ?_|refine x_call ?_|refine x_fun ?_|refine d_gt ?_|refine d_neI ?_|refine s_seq ?_|refine s_pass ?_|refine s_ret ?_|refine s_if ?_|refine s_asg ?_|refine s_raise ?_|refine gs_nil ?_|refine gs_cons ?_|refine i_l ?_|refine x_comp ?_|refine x_c ?_|refine x_var (by with_unfolding_all rfl) ?_|refine g_n (by simp only [List.set_cons_zero, List.set_cons_succ]; exact rfl) ?_|refine g_t (by with_unfolding_all rfl) ?_|refine if_t (by decide) ?_|refine if_f (by decide) ?_|dsimp only))
  refine is_lstT hr ?_
  cases t
  case lst ts =>
    simp only [Rp] at hr
    obtain ⟨n, ds, rfl, e, hs⟩ := hr
    have hl := hs.length
    simp only [isLstT]
    (repeat (with_reducible first|refine x_isi ?_|refine x_and ?_|refine t_b ?_|refine b_b ?_|refine t_or ?_|refine t_not ?_|refine t_tru ?_|refine tru_b ?_|refine x_bin ?_|refine a_nil ?_|refine a_cons ?_|refine x_call ?_|refine x_fun ?_|refine d_gt ?_|refine d_neI ?_|refine s_seq ?_|refine s_pass ?_|refine s_ret ?_|refine s_if ?_|refine s_asg ?_|refine s_raise ?_|refine gs_nil ?_|refine gs_cons ?_|refine i_l ?_|refine x_comp ?_|refine x_c ?_|refine x_var (by with_unfolding_all rfl) ?_|refine g_n (by simp only [List.set_cons_zero, List.set_cons_succ]; exact rfl) ?_|refine g_t (by with_unfolding_all rfl) ?_|refine if_t (by decide) ?_|refine if_f (by decide) ?_|dsimp only))
    refine f_lenL e ?_
    (repeat (with_reducible first|refine x_isi ?_|refine x_and ?_|refine t_b ?_|refine b_b ?_|refine t_or ?_|refine t_not ?_|refine t_tru ?_|refine tru_b ?_|refine x_bin ?_|refine a_nil ?_|refine a_cons ?_|refine x_call ?_|refine x_fun ?_|refine d_gt ?_|refine d_neI ?_|refine s_seq ?_|refine s_pass ?_|refine s_ret ?_|refine s_if ?_|refine s_asg ?_|refine s_raise ?_|refine gs_nil ?_|refine gs_cons ?_|refine i_l ?_|refine x_comp ?_|refine x_c ?_|refine x_var (by with_unfolding_all rfl) ?_|refine g_n (by simp only [List.set_cons_zero, List.set_cons_succ]; exact rfl) ?_|refine g_t (by with_unfolding_all rfl) ?_|refine if_t (by decide) ?_|refine if_f (by decide) ?_|dsimp only))
    have he : rowB (.lst ts) = (decide (ts.length ≤ 60) && ts.all fun t => numB t [0, 1]) := rfl
    refine if_p (fun e1 => ?_) (fun e1 => ?_)
    · have e2 := of_decide_eq_true e1
      rw [he, decide_eq_false (by omega), Bool.false_and] at h0
      (repeat (with_reducible first|refine x_isi ?_|refine x_and ?_|refine t_b ?_|refine b_b ?_|refine t_or ?_|refine t_not ?_|refine t_tru ?_|refine tru_b ?_|refine x_bin ?_|refine a_nil ?_|refine a_cons ?_|refine x_call ?_|refine x_fun ?_|refine d_gt ?_|refine d_neI ?_|refine s_seq ?_|refine s_pass ?_|refine s_ret ?_|refine s_if ?_|refine s_asg ?_|refine s_raise ?_|refine gs_nil ?_|refine gs_cons ?_|refine i_l ?_|refine x_comp ?_|refine x_c ?_|refine x_var (by with_unfolding_all rfl) ?_|refine g_n (by simp only [List.set_cons_zero, List.set_cons_succ]; exact rfl) ?_|refine g_t (by with_unfolding_all rfl) ?_|refine if_t (by decide) ?_|refine if_f (by decide) ?_|dsimp only))
      exact h0
    · have e2 := of_decide_eq_false e1
      rw [he, decide_eq_true (by omega), Bool.true_and] at h
      (repeat (with_reducible first|refine x_isi ?_|refine x_and ?_|refine t_b ?_|refine b_b ?_|refine t_or ?_|refine t_not ?_|refine t_tru ?_|refine tru_b ?_|refine x_bin ?_|refine a_nil ?_|refine a_cons ?_|refine x_call ?_|refine x_fun ?_|refine d_gt ?_|refine d_neI ?_|refine s_seq ?_|refine s_pass ?_|refine s_ret ?_|refine s_if ?_|refine s_asg ?_|refine s_raise ?_|refine gs_nil ?_|refine gs_cons ?_|refine i_l ?_|refine x_comp ?_|refine x_c ?_|refine x_var (by with_unfolding_all rfl) ?_|refine g_n (by simp only [List.set_cons_zero, List.set_cons_succ]; exact rfl) ?_|refine g_t (by with_unfolding_all rfl) ?_|refine if_t (by decide) ?_|refine if_f (by decide) ?_|dsimp only))
      refine il_l (itemsO e) ?_
      refine c_inv ts.length (fun k => ds.getD k .non) (fun k => .bl (numB (ts.getD k .non) [0, 1])) (by omega) (fun k o gb hk => ?_) (fun o gb => ?_) (fun k gb K hk hK => ?_) (fun gb => ?_)
      · exact item_D (items_old (itemsO e)) (by omega)
      · have := item_end (items_old (gs := o :: gb) (itemsO e))
        rwa [hl] at this
      · simp only [wipeD]
        (repeat (with_reducible first|refine x_isi ?_|refine x_and ?_|refine t_b ?_|refine b_b ?_|refine t_or ?_|refine t_not ?_|refine t_tru ?_|refine tru_b ?_|refine x_bin ?_|refine a_nil ?_|refine a_cons ?_|refine x_call ?_|refine x_fun ?_|refine d_gt ?_|refine d_neI ?_|refine s_seq ?_|refine s_pass ?_|refine s_ret ?_|refine s_if ?_|refine s_asg ?_|refine s_raise ?_|refine gs_nil ?_|refine gs_cons ?_|refine i_l ?_|refine x_comp ?_|refine x_c ?_|refine x_var (by with_unfolding_all rfl) ?_|refine g_n (by simp only [List.set_cons_zero, List.set_cons_succ]; exact rfl) ?_|refine g_t (by with_unfolding_all rfl) ?_|refine if_t (by decide) ?_|refine if_f (by decide) ?_|dsimp only))
        refine def_in rfl (by simp only [List.map_cons, List.map_nil, List.cons_append, List.nil_append, Nat.reduceSub, List.replicate_succ, List.replicate_zero, List.append_nil, List.length_cons, List.length_nil]; exact rfl) ?_
        unfold b_is_rally
        (repeat (with_reducible first|refine x_isi ?_|refine x_and ?_|refine t_b ?_|refine b_b ?_|refine t_or ?_|refine t_not ?_|refine t_tru ?_|refine tru_b ?_|refine x_bin ?_|refine a_nil ?_|refine a_cons ?_|refine x_call ?_|refine x_fun ?_|refine d_gt ?_|refine d_neI ?_|refine s_seq ?_|refine s_pass ?_|refine s_ret ?_|refine s_if ?_|refine s_asg ?_|refine s_raise ?_|refine gs_nil ?_|refine gs_cons ?_|refine i_l ?_|refine x_comp ?_|refine x_c ?_|refine x_var (by with_unfolding_all rfl) ?_|refine g_n (by simp only [List.set_cons_zero, List.set_cons_succ]; exact rfl) ?_|refine g_t (by with_unfolding_all rfl) ?_|refine if_t (by decide) ?_|refine if_f (by decide) ?_|dsimp only))
        exact v_is_number_of [0, 1] ((hs.getD hk).app _) (hK gb)
      · refine f_all (bs := (List.range ts.length).map fun k => numB (ts.getD k .non) [0, 1]) (by rw [items_hd, List.map_map]; rfl) ?_
        rw [rangeT_all fun t => numB t [0, 1]]
        exact h _
  all_goals
    simp only [isLstT]
    (repeat (with_reducible first|refine x_isi ?_|refine x_and ?_|refine t_b ?_|refine b_b ?_|refine t_or ?_|refine t_not ?_|refine t_tru ?_|refine tru_b ?_|refine x_bin ?_|refine a_nil ?_|refine a_cons ?_|refine x_call ?_|refine x_fun ?_|refine d_gt ?_|refine d_neI ?_|refine s_seq ?_|refine s_pass ?_|refine s_ret ?_|refine s_if ?_|refine s_asg ?_|refine s_raise ?_|refine gs_nil ?_|refine gs_cons ?_|refine i_l ?_|refine x_comp ?_|refine x_c ?_|refine x_var (by with_unfolding_all rfl) ?_|refine g_n (by simp only [List.set_cons_zero, List.set_cons_succ]; exact rfl) ?_|refine g_t (by with_unfolding_all rfl) ?_|refine if_t (by decide) ?_|refine if_f (by decide) ?_|dsimp only))
    exact h0
theorem v_is_rule (hr : Rp st t d) (h : Q (.bl (ruleB t)) st) : F_is_rule [d] st Q R := by
  refine def_in rfl (by simp only [List.map_cons, List.map_nil, List.cons_append, List.nil_append, Nat.reduceSub, List.replicate_succ, List.replicate_zero, List.append_nil, List.length_cons, List.length_nil]; exact rfl) ?_
  unfold b_is_rule
  (repeat (with_reducible first|refine x_isi ?_|refine x_and ?_|refine t_b ?_|refine b_b ?_|refine t_or ?_|refine t_not ?_|refine t_tru ?_|refine tru_b ?_|refine x_bin ?_|refine a_nil ?_|refine a_cons ?_|refine x_call ?_|refine x_fun ?_|refine d_gt ?_|refine d_neI ?_|refine s_seq ?_|refine s_pass ?_|refine s_ret ?_|refine s_if ?_|refine s_asg ?_|refine s_raise ?_|refine gs_nil ?_|refine gs_cons ?_|refine i_l ?_|refine x_comp ?_|refine x_c ?_|refine x_var (by with_unfolding_all rfl) ?_|refine g_n (by simp only [List.set_cons_zero, List.set_cons_succ]; exact rfl) ?_|refine g_t (by with_unfolding_all rfl) ?_|refine if_t (by decide) ?_|refine if_f (by decide) ?_|dsimp only))
  refine is_tupT hr ?_
  cases t
  case tup ts =>
    simp only [Rp] at hr
    obtain ⟨ds, rfl, hs⟩ := hr
    have hl := hs.length
    simp only [isTupT]
    (repeat (with_reducible first|refine x_isi ?_|refine x_and ?_|refine t_b ?_|refine b_b ?_|refine t_or ?_|refine t_not ?_|refine t_tru ?_|refine tru_b ?_|refine x_bin ?_|refine a_nil ?_|refine a_cons ?_|refine x_call ?_|refine x_fun ?_|refine d_gt ?_|refine d_neI ?_|refine s_seq ?_|refine s_pass ?_|refine s_ret ?_|refine s_if ?_|refine s_asg ?_|refine s_raise ?_|refine gs_nil ?_|refine gs_cons ?_|refine i_l ?_|refine x_comp ?_|refine x_c ?_|refine x_var (by with_unfolding_all rfl) ?_|refine g_n (by simp only [List.set_cons_zero, List.set_cons_succ]; exact rfl) ?_|refine g_t (by with_unfolding_all rfl) ?_|refine if_t (by decide) ?_|refine if_f (by decide) ?_|dsimp only))
    refine f_len rfl ?_
    (repeat (with_reducible first|refine x_isi ?_|refine x_and ?_|refine t_b ?_|refine b_b ?_|refine t_or ?_|refine t_not ?_|refine t_tru ?_|refine tru_b ?_|refine x_bin ?_|refine a_nil ?_|refine a_cons ?_|refine x_call ?_|refine x_fun ?_|refine d_gt ?_|refine d_neI ?_|refine s_seq ?_|refine s_pass ?_|refine s_ret ?_|refine s_if ?_|refine s_asg ?_|refine s_raise ?_|refine gs_nil ?_|refine gs_cons ?_|refine i_l ?_|refine x_comp ?_|refine x_c ?_|refine x_var (by with_unfolding_all rfl) ?_|refine g_n (by simp only [List.set_cons_zero, List.set_cons_succ]; exact rfl) ?_|refine g_t (by with_unfolding_all rfl) ?_|refine if_t (by decide) ?_|refine if_f (by decide) ?_|dsimp only))
    refine if_p (fun e => ?_) (fun e => ?_)
    · have e3 : ruleB (.tup ts) = false := by
        unfold ruleB
        split
        · rename_i z
          cases z
          rw [hl] at e
          exact absurd e (by simp)
        · rfl
      rw [e3] at h
      (repeat (with_reducible first|refine x_isi ?_|refine x_and ?_|refine t_b ?_|refine b_b ?_|refine t_or ?_|refine t_not ?_|refine t_tru ?_|refine tru_b ?_|refine x_bin ?_|refine a_nil ?_|refine a_cons ?_|refine x_call ?_|refine x_fun ?_|refine d_gt ?_|refine d_neI ?_|refine s_seq ?_|refine s_pass ?_|refine s_ret ?_|refine s_if ?_|refine s_asg ?_|refine s_raise ?_|refine gs_nil ?_|refine gs_cons ?_|refine i_l ?_|refine x_comp ?_|refine x_c ?_|refine x_var (by with_unfolding_all rfl) ?_|refine g_n (by simp only [List.set_cons_zero, List.set_cons_succ]; exact rfl) ?_|refine g_t (by with_unfolding_all rfl) ?_|refine if_t (by decide) ?_|refine if_f (by decide) ?_|dsimp only))
      exact h
    · have e2 : ts.length = 5 := by
        rw [hl] at e
        have : (ts.length : Int) = 5 := by simpa using e
        omega
      match ts, e2 with
      | [a, b, c, x, y], _ =>
        simp only [RpL] at hs
        obtain ⟨d1, _, rfl, h1, d2, _, rfl, h2, d3, _, rfl, h3, d4, _, rfl, h4, d5, _, rfl, h5, rfl⟩ := hs
        (repeat (with_reducible first|refine x_isi ?_|refine x_and ?_|refine t_b ?_|refine b_b ?_|refine t_or ?_|refine t_not ?_|refine t_tru ?_|refine tru_b ?_|refine x_bin ?_|refine a_nil ?_|refine a_cons ?_|refine x_call ?_|refine x_fun ?_|refine d_gt ?_|refine d_neI ?_|refine s_seq ?_|refine s_pass ?_|refine s_ret ?_|refine s_if ?_|refine s_asg ?_|refine s_raise ?_|refine gs_nil ?_|refine gs_cons ?_|refine i_l ?_|refine x_comp ?_|refine x_c ?_|refine x_var (by with_unfolding_all rfl) ?_|refine g_n (by simp only [List.set_cons_zero, List.set_cons_succ]; exact rfl) ?_|refine g_t (by with_unfolding_all rfl) ?_|refine if_t (by decide) ?_|refine if_f (by decide) ?_|dsimp only))
        have he : ruleB (.tup [a, b, c, x, y]) = (numB a [2, 3, 4] && wordB b ["one", "two", "cap"] && numB c [1, 2, 3] && wordB x ["same", "longer"] && wordB y ["games", "twos", "winner", "only"]) := rfl
        rw [he] at h
        refine v_is_number_of [2, 3, 4] h1 ?_
        refine and_b (fun e1 => ?_) (fun e1 => ?_) <;> rw [e1] at h
        · (repeat (with_reducible first|refine x_isi ?_|refine x_and ?_|refine t_b ?_|refine b_b ?_|refine t_or ?_|refine t_not ?_|refine t_tru ?_|refine tru_b ?_|refine x_bin ?_|refine a_nil ?_|refine a_cons ?_|refine x_call ?_|refine x_fun ?_|refine d_gt ?_|refine d_neI ?_|refine s_seq ?_|refine s_pass ?_|refine s_ret ?_|refine s_if ?_|refine s_asg ?_|refine s_raise ?_|refine gs_nil ?_|refine gs_cons ?_|refine i_l ?_|refine x_comp ?_|refine x_c ?_|refine x_var (by with_unfolding_all rfl) ?_|refine g_n (by simp only [List.set_cons_zero, List.set_cons_succ]; exact rfl) ?_|refine g_t (by with_unfolding_all rfl) ?_|refine if_t (by decide) ?_|refine if_f (by decide) ?_|dsimp only))
          refine v_is_word_of ["one", "two", "cap"] h2 ?_
          refine and_b (fun e1 => ?_) (fun e1 => ?_) <;> rw [e1] at h
          · (repeat (with_reducible first|refine x_isi ?_|refine x_and ?_|refine t_b ?_|refine b_b ?_|refine t_or ?_|refine t_not ?_|refine t_tru ?_|refine tru_b ?_|refine x_bin ?_|refine a_nil ?_|refine a_cons ?_|refine x_call ?_|refine x_fun ?_|refine d_gt ?_|refine d_neI ?_|refine s_seq ?_|refine s_pass ?_|refine s_ret ?_|refine s_if ?_|refine s_asg ?_|refine s_raise ?_|refine gs_nil ?_|refine gs_cons ?_|refine i_l ?_|refine x_comp ?_|refine x_c ?_|refine x_var (by with_unfolding_all rfl) ?_|refine g_n (by simp only [List.set_cons_zero, List.set_cons_succ]; exact rfl) ?_|refine g_t (by with_unfolding_all rfl) ?_|refine if_t (by decide) ?_|refine if_f (by decide) ?_|dsimp only))
            refine v_is_number_of [1, 2, 3] h3 ?_
            refine and_b (fun e1 => ?_) (fun e1 => ?_) <;> rw [e1] at h
            · (repeat (with_reducible first|refine x_isi ?_|refine x_and ?_|refine t_b ?_|refine b_b ?_|refine t_or ?_|refine t_not ?_|refine t_tru ?_|refine tru_b ?_|refine x_bin ?_|refine a_nil ?_|refine a_cons ?_|refine x_call ?_|refine x_fun ?_|refine d_gt ?_|refine d_neI ?_|refine s_seq ?_|refine s_pass ?_|refine s_ret ?_|refine s_if ?_|refine s_asg ?_|refine s_raise ?_|refine gs_nil ?_|refine gs_cons ?_|refine i_l ?_|refine x_comp ?_|refine x_c ?_|refine x_var (by with_unfolding_all rfl) ?_|refine g_n (by simp only [List.set_cons_zero, List.set_cons_succ]; exact rfl) ?_|refine g_t (by with_unfolding_all rfl) ?_|refine if_t (by decide) ?_|refine if_f (by decide) ?_|dsimp only))
              refine v_is_word_of ["same", "longer"] h4 ?_
              refine and_b (fun e1 => ?_) (fun e1 => ?_) <;> rw [e1] at h
              · (repeat (with_reducible first|refine x_isi ?_|refine x_and ?_|refine t_b ?_|refine b_b ?_|refine t_or ?_|refine t_not ?_|refine t_tru ?_|refine tru_b ?_|refine x_bin ?_|refine a_nil ?_|refine a_cons ?_|refine x_call ?_|refine x_fun ?_|refine d_gt ?_|refine d_neI ?_|refine s_seq ?_|refine s_pass ?_|refine s_ret ?_|refine s_if ?_|refine s_asg ?_|refine s_raise ?_|refine gs_nil ?_|refine gs_cons ?_|refine i_l ?_|refine x_comp ?_|refine x_c ?_|refine x_var (by with_unfolding_all rfl) ?_|refine g_n (by simp only [List.set_cons_zero, List.set_cons_succ]; exact rfl) ?_|refine g_t (by with_unfolding_all rfl) ?_|refine if_t (by decide) ?_|refine if_f (by decide) ?_|dsimp only))
                refine v_is_word_of ["games", "twos", "winner", "only"] h5 ?_
                exact h
              · exact h
            · exact h
          · exact h
        · exact h
  all_goals
    simp only [isTupT]
    (repeat (with_reducible first|refine x_isi ?_|refine x_and ?_|refine t_b ?_|refine b_b ?_|refine t_or ?_|refine t_not ?_|refine t_tru ?_|refine tru_b ?_|refine x_bin ?_|refine a_nil ?_|refine a_cons ?_|refine x_call ?_|refine x_fun ?_|refine d_gt ?_|refine d_neI ?_|refine s_seq ?_|refine s_pass ?_|refine s_ret ?_|refine s_if ?_|refine s_asg ?_|refine s_raise ?_|refine gs_nil ?_|refine gs_cons ?_|refine i_l ?_|refine x_comp ?_|refine x_c ?_|refine x_var (by with_unfolding_all rfl) ?_|refine g_n (by simp only [List.set_cons_zero, List.set_cons_succ]; exact rfl) ?_|refine g_t (by with_unfolding_all rfl) ?_|refine if_t (by decide) ?_|refine if_f (by decide) ?_|dsimp only))
    exact h
/-! ### the checks -/
theorem v_check_rule (hr : Rp st t d) (h1 : ruleB t = true → Q .non st) (h2 : ruleB t = false → R 0 st) : F_check_rule [d] st Q R := by
  refine def_in rfl (by simp only [List.map_cons, List.map_nil, List.cons_append, List.nil_append, Nat.reduceSub, List.replicate_succ, List.replicate_zero, List.append_nil, List.length_cons, List.length_nil]; exact rfl) ?_
  unfold b_check_rule
  (repeat (with_reducible first|refine x_isi ?_|refine x_and ?_|refine t_b ?_|refine b_b ?_|refine t_or ?_|refine t_not ?_|refine t_tru ?_|refine tru_b ?_|refine x_bin ?_|refine a_nil ?_|refine a_cons ?_|refine x_call ?_|refine x_fun ?_|refine d_gt ?_|refine d_neI ?_|refine s_seq ?_|refine s_pass ?_|refine s_ret ?_|refine s_if ?_|refine s_asg ?_|refine s_raise ?_|refine gs_nil ?_|refine gs_cons ?_|refine i_l ?_|refine x_comp ?_|refine x_c ?_|refine x_var (by with_unfolding_all rfl) ?_|refine g_n (by simp only [List.set_cons_zero, List.set_cons_succ]; exact rfl) ?_|refine g_t (by with_unfolding_all rfl) ?_|refine if_t (by decide) ?_|refine if_f (by decide) ?_|dsimp only))
  refine v_is_rule hr ?_
  (repeat (with_reducible first|refine x_isi ?_|refine x_and ?_|refine t_b ?_|refine b_b ?_|refine t_or ?_|refine t_not ?_|refine t_tru ?_|refine tru_b ?_|refine x_bin ?_|refine a_nil ?_|refine a_cons ?_|refine x_call ?_|refine x_fun ?_|refine d_gt ?_|refine d_neI ?_|refine s_seq ?_|refine s_pass ?_|refine s_ret ?_|refine s_if ?_|refine s_asg ?_|refine s_raise ?_|refine gs_nil ?_|refine gs_cons ?_|refine i_l ?_|refine x_comp ?_|refine x_c ?_|refine x_var (by with_unfolding_all rfl) ?_|refine g_n (by simp only [List.set_cons_zero, List.set_cons_succ]; exact rfl) ?_|refine g_t (by with_unfolding_all rfl) ?_|refine if_t (by decide) ?_|refine if_f (by decide) ?_|dsimp only))
  cases e : ruleB t
  · (repeat (with_reducible first|refine x_isi ?_|refine x_and ?_|refine t_b ?_|refine b_b ?_|refine t_or ?_|refine t_not ?_|refine t_tru ?_|refine tru_b ?_|refine x_bin ?_|refine a_nil ?_|refine a_cons ?_|refine x_call ?_|refine x_fun ?_|refine d_gt ?_|refine d_neI ?_|refine s_seq ?_|refine s_pass ?_|refine s_ret ?_|refine s_if ?_|refine s_asg ?_|refine s_raise ?_|refine gs_nil ?_|refine gs_cons ?_|refine i_l ?_|refine x_comp ?_|refine x_c ?_|refine x_var (by with_unfolding_all rfl) ?_|refine g_n (by simp only [List.set_cons_zero, List.set_cons_succ]; exact rfl) ?_|refine g_t (by with_unfolding_all rfl) ?_|refine if_t (by decide) ?_|refine if_f (by decide) ?_|dsimp only)); exact h2 e
  · (repeat (with_reducible first|refine x_isi ?_|refine x_and ?_|refine t_b ?_|refine b_b ?_|refine t_or ?_|refine t_not ?_|refine t_tru ?_|refine tru_b ?_|refine x_bin ?_|refine a_nil ?_|refine a_cons ?_|refine x_call ?_|refine x_fun ?_|refine d_gt ?_|refine d_neI ?_|refine s_seq ?_|refine s_pass ?_|refine s_ret ?_|refine s_if ?_|refine s_asg ?_|refine s_raise ?_|refine gs_nil ?_|refine gs_cons ?_|refine i_l ?_|refine x_comp ?_|refine x_c ?_|refine x_var (by with_unfolding_all rfl) ?_|refine g_n (by simp only [List.set_cons_zero, List.set_cons_succ]; exact rfl) ?_|refine g_t (by with_unfolding_all rfl) ?_|refine if_t (by decide) ?_|refine if_f (by decide) ?_|dsimp only)); exact h1 e
end
end MP

namespace MP
open PySem L2
abbrev tD (l : List Int) : D := .tup (l.map D.int)
abbrev tP (l : List Int) : PyData := .tuple (l.map PyData.int)
theorem toP_tup {st : Store} {l : List Int} {k : Nat} : toP (k + 2) st (tD l) = some (tP l) := by
  show Option.map PyData.tuple (optAll (toP (k + 1) st) (l.map D.int)) = _
  rw [toP_ints]
  rfl
theorem toP_tups {st : Store} : ∀ {ls : List (List Int)} {k : Nat}, optAll (toP (k + 2) st) (ls.map tD) = some (ls.map tP)
  | [], _ => rfl
  | l :: r, k => by
    rw [List.map_cons, optAll, toP_tup, toP_tups (ls := r)]
    rfl
theorem toP_lst {st : Store} {n : Nat} {ls : List (List Int)} (e : itemsOf st n = some (ls.map tD)) : toP 30 st (.ref n) = some (.list (ls.map tP)) := by
  rw [show toP 30 st (.ref n) = (match itemsOf st n with
    | some xs => (optAll (toP 29 st) xs).map .list
    | none => none) from rfl, e]
  show Option.map PyData.list (optAll (toP (27 + 2) st) (ls.map tD)) = _
  rw [toP_tups]
  rfl
theorem canLay_tup (l : List Int) : (tP l).canLay0 = true := canLay_ints l
theorem canLay_tups : ∀ ls : List (List Int), PyData.canLayAll0 (ls.map tP) = true
  | [] => rfl
  | l :: r => by rw [List.map_cons, PyData.canLayAll0, canLay_tups r, canLay_tup]; rfl
theorem depth_tups : ∀ ls : List (List Int), PyData.depthAll (ls.map tP) ≤ 1
  | [] => Nat.zero_le _
  | l :: r => by
    rw [List.map_cons, PyData.depthAll]
    have h1 : (tP l).depth = 1 := by show PyData.depthAll (l.map PyData.int) + 1 = 1; rw [depth_ints]
    have h2 := depth_tups r
    omega
theorem shaped_tup (l : List Int) : SeqAt.shaped (tP l) = true := by
  unfold SeqAt.shaped
  rw [canLay_tup, show (tP l).depth = 1 by show PyData.depthAll (l.map PyData.int) + 1 = 1; rw [depth_ints]]
  rfl
theorem shaped_tups (ls : List (List Int)) : SeqAt.shaped (.list (ls.map tP)) = true := by
  unfold SeqAt.shaped
  have h2 := depth_tups ls
  rw [show (PyData.list (ls.map tP)).canLay0 = true from canLay_tups ls, Bool.true_and, decide_eq_true_eq, PyData.depth]
  omega
section
variable {st : Store} {Q : D → Store → Prop} {d e : D} {u : PyData} {n m : Nat}
theorem ne_same (h1 : toP 30 st d = some u) (h2 : toP 30 st e = some u) (sh : SeqAt.shaped u = true) (hn : ∀ k l, ¬ (d = .int k ∧ e = .int l)) (hs : ∀ k l, ¬ (d = .str k ∧ e = .str l)) (h : Q (.bl false) st) : dEqB true d e st Q := by
  refine d_eqP h1 h2 sh sh ?_ hn hs
  rw [if_pos rfl, PySem.SeqAt.eqv_refl u (SeqAt.canLay_of_shaped sh)]
  exact h
theorem eq_same (h1 : toP 30 st d = some u) (h2 : toP 30 st e = some u) (sh : SeqAt.shaped u = true) (hn : ∀ k l, ¬ (d = .int k ∧ e = .int l)) (hs : ∀ k l, ¬ (d = .str k ∧ e = .str l)) (h : Q (.bl true) st) : dEqB false d e st Q := by
  refine d_eqP h1 h2 sh sh ?_ hn hs
  rw [if_neg (by decide), PySem.SeqAt.eqv_refl u (SeqAt.canLay_of_shaped sh)]
  exact h
theorem ne_tup {l : List Int} (h : Q (.bl false) st) : dEqB true (tD l) (tD l) st Q := ne_same (toP_tup (k := 28)) (toP_tup (k := 28)) (shaped_tup l) (fun k l z => by cases z.1) (fun k l z => by cases z.1) h
theorem eq_tup {l : List Int} (h : Q (.bl true) st) : dEqB false (tD l) (tD l) st Q := eq_same (toP_tup (k := 28)) (toP_tup (k := 28)) (shaped_tup l) (fun k l z => by cases z.1) (fun k l z => by cases z.1) h
theorem ne_lst {ls : List (List Int)} (e1 : itemsOf st n = some (ls.map tD)) (e2 : itemsOf st m = some (ls.map tD)) (h : Q (.bl false) st) : dEqB true (.ref n) (.ref m) st Q := ne_same (toP_lst e1) (toP_lst e2) (shaped_tups ls) (fun k l z => by cases z.1) (fun k l z => by cases z.1) h
theorem ne_ints {ls : List Int} (e1 : itemsOf st n = some (ls.map D.int)) (e2 : itemsOf st m = some (ls.map D.int)) (h : Q (.bl false) st) : dEqB true (.ref n) (.ref m) st Q := ne_same (toP_row e1) (toP_row e2) (shaped_ints ls) (fun k l z => by cases z.1) (fun k l z => by cases z.1) h
theorem eq_ints {ls : List Int} (e1 : itemsOf st n = some (ls.map D.int)) (e2 : itemsOf st m = some (ls.map D.int)) (h : Q (.bl true) st) : dEqB false (.ref n) (.ref m) st Q := eq_same (toP_row e1) (toP_row e2) (shaped_ints ls) (fun k l z => by cases z.1) (fun k l z => by cases z.1) h
end
def sL (x : S) : List Int := [x.sv, x.a, x.b, x.g0, x.g1, x.t]
theorem path_tD {R : Rl} {x : S} {bs : List Int} {k : Nat} : path R x bs k = ((List.range (k + 1)).map fun j => sL (at_ R x bs j)).map tD := by
  unfold path
  rw [List.map_map]
  rfl
end MP

/-! One-step rules: texts. -/
namespace MP
open PySem L2
section
variable {σ : Env} {st : Store} {Q : D → Store → Prop} {R : XR} {n : Nat} {a b : Str} {f : Str → D → Store → (D → Store → Prop) → Prop} {xo xe x : XE}
def tmF (f : Str → D → Store → (D → Store → Prop) → Prop) (xe : XE) (σ : Env) (d : D) (st1 : Store) (Q : D → Store → Prop) (R : XR) : Prop := ∃ a, d = .str a ∧ xe σ st1 (fun e st2 => f a e st2 Q) R
theorem x_tm (h : xo σ st (fun d st1 => tmF f xe σ d st1 Q R) R) : xTm f xo xe σ st Q R := h
theorem tm_i (h : xe σ st (fun e st2 => f a e st2 Q) R) : tmF f xe σ (.str a) st Q R := ⟨a, rfl, h⟩
theorem f_join {ys : List Str} (e : itemsOf st n = some (ys.map D.str)) (hl : (ys.map (·.length)).sum + ys.length * a.length ≤ 16777216) (h : Q (.str (Txt.join a ys)) st) : fJoin a (.ref n) st Q := ⟨n, ys, rfl, e, hl, h⟩
theorem f_split (h0 : (b.length == 0) = false) (h1 : a.length + 2 ≤ 16777216) (h : Q (.ref st.length) (st ++ [.lst ((Txt.split a b).map D.str)])) : fSplit a (.str b) st Q := ⟨b, rfl, h0, h1, h⟩
theorem f_find (h : Q (.int (Txt.find a b)) st) : fFind a (.str b) st Q := ⟨b, rfl, h⟩
theorem d_inS {c : Nat} {z : Str} (h : Q (.bl (decide (c ∈ z.cps.toList))) st) : dInS (.str ⟨#[c]⟩) (.str z) st Q := ⟨c, z, rfl, rfl, h⟩
theorem d_mulS {i : Int} (h0 : 0 ≤ i) (h1 : i < 100000) (h2 : a.length ≤ 100) (h3 : (timesS a i).length ≤ 16777216) (h : Q (.str (timesS a i)) st) : dMulS (.str a) (.int i) st Q := ⟨a, i, rfl, rfl, h0, h1, h2, h3, h⟩
theorem d_addS (hl : a.length + b.length ≤ 16777216) (h : Q (.str (a ++ b)) st) : dAdd (.str a) (.str b) st Q := ⟨hl, h⟩
def slSF (d : D) (lo hi : Option Int) (st3 : Store) (Q : D → Store → Prop) : Prop := ∃ z : Str, d = .str z ∧ z.length ≤ sizeLine ∧ Q (.str (cutS z lo hi)) st3
theorem x_slS {l u : XO} (h : x σ st (fun d st1 => l σ st1 (fun lo st2 => u σ st2 (fun hi st3 => slSF d lo hi st3 Q) R) R) R) : xSlS x l u σ st Q R := h
theorem slS_i {lo hi : Option Int} (hz : a.length ≤ 16777216) (h : Q (.str (cutS a lo hi)) st) : slSF (.str a) lo hi st Q := ⟨a, rfl, hz, h⟩
theorem f_lenS (hz : a.length ≤ 16777216) (h : Q (.int a.length) st) : fLenS [.str a] st Q := ⟨a, rfl, hz, h⟩
theorem f_strI {i : Int} (hi : i.natAbs.log2 < 1920) (h : Q (.str (toString i)) st) : fStr [.int i] st Q := ⟨hi, h⟩
theorem f_strS (h : Q (.str a) st) : fStr [.str a] st Q := h
theorem x_fmt (h : x σ st (fun d st1 => fmtF d st1 Q) R) : xFmt x σ st Q R := h
theorem fmt_i {i : Int} (hi : i.natAbs.log2 < 1920) (h : Q (.str (toString i)) st) : fmtF (.int i) st Q := ⟨hi, h⟩
theorem x_fs {xs : List XE} (h : xJs xs Str.empty σ st (fun out st1 => Q (.str out) st1) R) : xFs xs σ st Q R := h
def jsF (xs : List XE) (acc : Str) (σ : Env) (d : D) (st1 : Store) (Q : Str → Store → Prop) (R : XR) : Prop := ∃ y : Str, d = .str y ∧ (acc ++ y).length ≤ sizeLine ∧ xJs xs (acc ++ y) σ st1 Q R
theorem js_nil {acc : Str} {Q : Str → Store → Prop} (h : Q acc st) : xJs [] acc σ st Q R := h
theorem js_cons {xs : List XE} {acc : Str} {Q : Str → Store → Prop} (h : x σ st (fun d st1 => jsF xs acc σ d st1 Q R) R) : xJs (x :: xs) acc σ st Q R := h
theorem js_i {xs : List XE} {acc : Str} {Q : Str → Store → Prop} (hl : (acc ++ a).length ≤ 16777216) (h : xJs xs (acc ++ a) σ st Q R) : jsF xs acc σ (.str a) st Q R := ⟨a, rfl, hl, h⟩
def iSF (d : D) (st1 : Store) (Q : IK → Store → Prop) : Prop := match d with
  | .str z => Q (.txt z) st1
  | _ => False
theorem i_s {Q : IK → Store → Prop} (h : x σ st (fun d st1 => iSF d st1 Q) R) : iS x σ st Q R := h
theorem is_s {Q : IK → Store → Prop} (h : Q (.txt a) st) : iSF (.str a) st Q := h
end
end MP

namespace MP
open PySem L2
section
variable {st : Store} {Q : D → Store → Prop} {d e : D} {u : PyData} {n m : Nat} {Rx : XR}
theorem toP_strs {st : Store} : ∀ {ns : List Str} {k : Nat}, optAll (toP (k + 1) st) (ns.map D.str) = some (ns.map PyData.str)
  | [], _ => rfl
  | s :: r, k => by rw [List.map_cons, optAll, toP_strs (ns := r)]; rfl
theorem toP_sl {ns : List Str} (e : itemsOf st n = some (ns.map D.str)) : toP 30 st (.ref n) = some (.list (ns.map PyData.str)) := by
  rw [show toP 30 st (.ref n) = (match itemsOf st n with
    | some xs => (optAll (toP 29 st) xs).map .list
    | none => none) from rfl, e]
  show Option.map PyData.list (optAll (toP (28 + 1) st) (ns.map D.str)) = _
  rw [toP_strs]
  rfl
theorem shaped_strs : ∀ {ns : List Str}, (ns.all PyData.strOk = true) → SeqAt.shaped (.list (ns.map PyData.str)) = true := by
  intro ns h
  have c : ∀ {ns : List Str}, ns.all PyData.strOk = true → PyData.canLayAll0 (ns.map PyData.str) = true := by
    intro ns
    induction ns with
    | nil => exact fun _ => rfl
    | cons s r ih =>
      intro h
      rw [List.all_cons, Bool.and_eq_true] at h
      rw [List.map_cons, PyData.canLayAll0, ih h.2, PyData.canLay0, h.1]
      rfl
  have d : ∀ ns : List Str, PyData.depthAll (ns.map PyData.str) = 0 := by
    intro ns
    induction ns with
    | nil => rfl
    | cons s r ih => rw [List.map_cons, PyData.depthAll, ih, PyData.depth]; rfl
  unfold SeqAt.shaped
  rw [show (PyData.list (ns.map PyData.str)).canLay0 = true from c h, Bool.true_and, decide_eq_true_eq, PyData.depth, d]
  decide
theorem ne_strs {ns : List Str} (ok : ns.all PyData.strOk = true) (e1 : itemsOf st n = some (ns.map D.str)) (e2 : itemsOf st m = some (ns.map D.str)) (h : Q (.bl false) st) : dEqB true (.ref n) (.ref m) st Q := ne_same (toP_sl e1) (toP_sl e2) (shaped_strs ok) (fun k l z => by cases z.1) (fun k l z => by cases z.1) h
theorem eq_strs {ns : List Str} (ok : ns.all PyData.strOk = true) (e1 : itemsOf st n = some (ns.map D.str)) (e2 : itemsOf st m = some (ns.map D.str)) (h : Q (.bl true) st) : dEqB false (.ref n) (.ref m) st Q := eq_same (toP_sl e1) (toP_sl e2) (shaped_strs ok) (fun k l z => by cases z.1) (fun k l z => by cases z.1) h
def errN : Nat → Str
  | 0 => "rule" | 1 => "rally" | 2 => "boards" | 3 => "number" | 4 => "text" | _ => "none"
theorem w_law_error {k : Nat} (hk : k = 0 ∨ k = 1 ∨ k = 2 ∨ k = 3 ∨ k = 4 ∨ k = 5) (h : ∀ gb, Q (.str (errN k)) (st ++ gb)) : F_law_error [.exc k] st Q Rx := by
  refine def_in rfl (by simp only [List.map_cons, List.map_nil, List.cons_append, List.nil_append, Nat.reduceSub, List.replicate_succ, List.replicate_zero, List.append_nil, List.length_cons, List.length_nil]; exact rfl) ?_
  unfold b_law_error
  (repeat (with_reducible first|refine t_b ?_|refine b_b ?_|refine t_or ?_|refine t_not ?_|refine t_tru ?_|refine tru_b ?_|refine x_bin ?_|refine x_lst ?_|refine a_nil ?_|refine a_cons ?_|refine d_neI ?_|refine s_seq ?_|refine s_pass ?_|refine s_ret ?_|refine s_if ?_|refine s_asg ?_|refine x_c ?_|refine x_meth ?_|refine x_isx ?_|refine isx_k ?_|refine x_var (by with_unfolding_all rfl) ?_|refine g_n (by simp only [List.set_cons_zero, List.set_cons_succ]; exact rfl) ?_|refine if_f (by decide) ?_|refine And.intro (show List.length _ ≤ 16777216 by simp) ?_|dsimp only))
  obtain ⟨b1, b2, b3, b4, b5, b6, e1, e2, hc, hx⟩ : ∃ b1 b2 b3 b4 b5 b6 : Bool, [D.bl (sub_BadRule k), D.bl (sub_BadRally k), D.bl (sub_BadBoards k)] = [.bl b1, .bl b2, .bl b3] ∧ [D.bl (sub_BadNumber k), D.bl (sub_BadText k), D.bl (sub_NotFound k)] = [.bl b4, .bl b5, .bl b6] ∧
      ([D.bl b1, .bl b2, .bl b3, .bl b4, .bl b5, .bl b6].countP fun z => eqFl z (.bl true)) = 1 ∧ ([D.bl b1, .bl b2, .bl b3, .bl b4, .bl b5, .bl b6].findIdx? fun z => eqFl z (.bl true)) = some k := by
    rcases hk with rfl | rfl | rfl | rfl | rfl | rfl <;> exact ⟨_, _, _, _, _, _, rfl, rfl, by decide, by decide⟩
  rw [e1, e2]
  refine d_addL (xs := [.bl b1, .bl b2, .bl b3]) (ys := [.bl b4, .bl b5, .bl b6]) ?_ ?_ (by simp) ?_
  · rw [List.getElem?_append_left (by simp)]; exact get_hd _ _ _
  · exact get_hd _ _ _
  (repeat (with_reducible first|refine t_b ?_|refine b_b ?_|refine t_or ?_|refine t_not ?_|refine t_tru ?_|refine tru_b ?_|refine x_bin ?_|refine x_lst ?_|refine a_nil ?_|refine a_cons ?_|refine d_neI ?_|refine s_seq ?_|refine s_pass ?_|refine s_ret ?_|refine s_if ?_|refine s_asg ?_|refine x_c ?_|refine x_meth ?_|refine x_isx ?_|refine isx_k ?_|refine x_var (by with_unfolding_all rfl) ?_|refine g_n (by simp only [List.set_cons_zero, List.set_cons_succ]; exact rfl) ?_|refine if_f (by decide) ?_|refine And.intro (show List.length _ ≤ 16777216 by simp) ?_|dsimp only))
  simp only [List.append_assoc, List.cons_append, List.nil_append, List.length_append, List.length_cons, List.length_nil, Nat.zero_add, Nat.reduceAdd, get_app, get_app0, set_app, set_app0, items_app, items_app0, List.set_cons_zero, List.set_cons_succ]
  have hx2 : ∀ gs, itemsOf (st ++ O.lst [.bl b1, .bl b2, .bl b3] :: O.lst [.bl b4, .bl b5, .bl b6] :: O.lst [.bl b1, .bl b2, .bl b3, .bl b4, .bl b5, .bl b6] :: gs) (st.length + 2) = some [.bl b1, .bl b2, .bl b3, .bl b4, .bl b5, .bl b6] := fun gs => items_app _ _ 2
  have gx : ∀ gs, (st ++ O.lst [.bl b1, .bl b2, .bl b3] :: O.lst [.bl b4, .bl b5, .bl b6] :: O.lst [.bl b1, .bl b2, .bl b3, .bl b4, .bl b5, .bl b6] :: gs)[st.length + 2]? = some (.lst [.bl b1, .bl b2, .bl b3, .bl b4, .bl b5, .bl b6]) := fun gs => get_app _ _ 2
  refine lst_and (gx []) ?_
  (repeat (with_reducible first|refine t_b ?_|refine b_b ?_|refine t_or ?_|refine t_not ?_|refine t_tru ?_|refine tru_b ?_|refine x_bin ?_|refine x_lst ?_|refine a_nil ?_|refine a_cons ?_|refine d_neI ?_|refine s_seq ?_|refine s_pass ?_|refine s_ret ?_|refine s_if ?_|refine s_asg ?_|refine x_c ?_|refine x_meth ?_|refine x_isx ?_|refine isx_k ?_|refine x_var (by with_unfolding_all rfl) ?_|refine g_n (by simp only [List.set_cons_zero, List.set_cons_succ]; exact rfl) ?_|refine if_f (by decide) ?_|refine And.intro (show List.length _ ≤ 16777216 by simp) ?_|dsimp only))
  refine f_count (hx2 []) (by rfl) (by rfl) ?_
  rw [hc]
  have m1 : sub_MatchError k = true := by rcases hk with rfl | rfl | rfl | rfl | rfl | rfl <;> rfl
  have m2 : sub_ValueError k = true := by rcases hk with rfl | rfl | rfl | rfl | rfl | rfl <;> rfl
  (repeat (with_reducible first|refine t_b ?_|refine b_b ?_|refine t_or ?_|refine t_not ?_|refine t_tru ?_|refine tru_b ?_|refine x_bin ?_|refine x_lst ?_|refine a_nil ?_|refine a_cons ?_|refine d_neI ?_|refine s_seq ?_|refine s_pass ?_|refine s_ret ?_|refine s_if ?_|refine s_asg ?_|refine x_c ?_|refine x_meth ?_|refine x_isx ?_|refine isx_k ?_|refine x_var (by with_unfolding_all rfl) ?_|refine g_n (by simp only [List.set_cons_zero, List.set_cons_succ]; exact rfl) ?_|refine if_f (by decide) ?_|refine And.intro (show List.length _ ≤ 16777216 by simp) ?_|dsimp only))
  rw [m1]
  (repeat (with_reducible first|refine t_b ?_|refine b_b ?_|refine t_or ?_|refine t_not ?_|refine t_tru ?_|refine tru_b ?_|refine x_bin ?_|refine x_lst ?_|refine a_nil ?_|refine a_cons ?_|refine d_neI ?_|refine s_seq ?_|refine s_pass ?_|refine s_ret ?_|refine s_if ?_|refine s_asg ?_|refine x_c ?_|refine x_meth ?_|refine x_isx ?_|refine isx_k ?_|refine x_var (by with_unfolding_all rfl) ?_|refine g_n (by simp only [List.set_cons_zero, List.set_cons_succ]; exact rfl) ?_|refine if_f (by decide) ?_|refine And.intro (show List.length _ ≤ 16777216 by simp) ?_|dsimp only))
  rw [m2]
  (repeat (with_reducible first|refine t_b ?_|refine b_b ?_|refine t_or ?_|refine t_not ?_|refine t_tru ?_|refine tru_b ?_|refine x_bin ?_|refine x_lst ?_|refine a_nil ?_|refine a_cons ?_|refine d_neI ?_|refine s_seq ?_|refine s_pass ?_|refine s_ret ?_|refine s_if ?_|refine s_asg ?_|refine x_c ?_|refine x_meth ?_|refine x_isx ?_|refine isx_k ?_|refine x_var (by with_unfolding_all rfl) ?_|refine g_n (by simp only [List.set_cons_zero, List.set_cons_succ]; exact rfl) ?_|refine if_f (by decide) ?_|refine And.intro (show List.length _ ≤ 16777216 by simp) ?_|dsimp only))
  simp only [List.append_assoc, List.cons_append, List.nil_append, List.length_append, List.length_cons, List.length_nil, Nat.zero_add, Nat.reduceAdd, get_app, get_app0, set_app, set_app0, items_app, items_app0, List.set_cons_zero, List.set_cons_succ]
  refine lst_and (gx _) ?_
  (repeat (with_reducible first|refine t_b ?_|refine b_b ?_|refine t_or ?_|refine t_not ?_|refine t_tru ?_|refine tru_b ?_|refine x_bin ?_|refine x_lst ?_|refine a_nil ?_|refine a_cons ?_|refine d_neI ?_|refine s_seq ?_|refine s_pass ?_|refine s_ret ?_|refine s_if ?_|refine s_asg ?_|refine x_c ?_|refine x_meth ?_|refine x_isx ?_|refine isx_k ?_|refine x_var (by with_unfolding_all rfl) ?_|refine g_n (by simp only [List.set_cons_zero, List.set_cons_succ]; exact rfl) ?_|refine if_f (by decide) ?_|refine And.intro (show List.length _ ≤ 16777216 by simp) ?_|dsimp only))
  refine f_index (k := k) (hx2 _) (by rfl) (by rfl) hx ?_
  (repeat (with_reducible first|refine t_b ?_|refine b_b ?_|refine t_or ?_|refine t_not ?_|refine t_tru ?_|refine tru_b ?_|refine x_bin ?_|refine x_lst ?_|refine a_nil ?_|refine a_cons ?_|refine d_neI ?_|refine s_seq ?_|refine s_pass ?_|refine s_ret ?_|refine s_if ?_|refine s_asg ?_|refine x_c ?_|refine x_meth ?_|refine x_isx ?_|refine isx_k ?_|refine x_var (by with_unfolding_all rfl) ?_|refine g_n (by simp only [List.set_cons_zero, List.set_cons_succ]; exact rfl) ?_|refine if_f (by decide) ?_|refine And.intro (show List.length _ ≤ 16777216 by simp) ?_|dsimp only))
  refine d_idxL (d := .str (errN k)) (items_app _ _ 3) (by rcases hk with rfl | rfl | rfl | rfl | rfl | rfl <;> rfl) ?_
  exact h _
end
section
variable {st : Store} {Q : D → Store → Prop} {R : XR} {t tr ti : T} {d dr di : D} {c : Nat}
end
end MP

namespace MP
open PySem L2
section
variable {X : Cx} {cl : CL}
/-- a tuple times a small int -/
def dMulT : XO2 := fun x y st Q => ∃ xs k, x = .tup xs ∧ y = .int k ∧ xs ≠ [] ∧ 2 ≤ k ∧ k ≤ 1000 ∧ xs.length ≤ 1000 ∧ Q (.tup (List.replicate k.toNat xs).flatten) st
theorem o2_mulT {K : PySem.W.Frag} : Op2 K cl dMulT (rRepT K) := by
  intro H π st x y vx vy Q Q0 hs rx ry h hq
  obtain ⟨xs, k, rfl, rfl, h1, h2, h3, h4, h5⟩ := h
  simp only [RV] at rx ry
  obtain ⟨a, vs, rfl, t1, r1⟩ := rx
  refine ⟨a, k, vs, rfl, ry, t1, fun z => ?_, h2, h3, by rw [r1.length]; exact h4, fun p hp => ?_⟩
  · rw [z] at r1
    have := r1.length
    exact h1 (List.length_eq_zero_iff.mp this.symm)
  · have e : Ext K cl H π (upd H p (.tup (List.replicate k.toNat vs).flatten)) π := Ext.new0 hp
    exact hq _ _ _ π _ h5 e (hs.new0 hp) (by simp only [RV]; exact ⟨p, _, rfl, SqT.of upd_same, (r1.rep _).ext e⟩)
theorem d_mulT {xs : List D} {k : Int} {st : Store} {Q : D → Store → Prop} (h1 : xs ≠ []) (h2 : 2 ≤ k) (h3 : k ≤ 1000) (h4 : xs.length ≤ 1000) (h : Q (.tup (List.replicate k.toNat xs).flatten) st) : dMulT (.tup xs) (.int k) st Q := ⟨xs, k, rfl, rfl, h1, h2, h3, h4, h⟩
end
end MP

namespace MP
open PySem L2
/-! ### literals as trees -/
/-- kept when something is stored behind -/
def Stb (P : Store → Prop) : Prop := ∀ st gb, P st → P (st ++ gb)
def XLit (E : Env) (P : Store → Prop) (x : XE) (t : T) : Prop := ∀ (st : Store) (Q : D → Store → Prop) (R : XR), P st → (∀ d gb, Rp (st ++ gb) t d → Q d (st ++ gb)) → x E st Q R
def ALit (E : Env) (P : Store → Prop) (a : XA) (ts : List T) : Prop := ∀ (st : Store) (Q : List D → Store → Prop) (R : XR), P st → (∀ ds gb, RpL (st ++ gb) ts ds → Q ds (st ++ gb)) → a E st Q R
section
variable {E : Env} {P : Store → Prop} {x y : XE} {a : XA} {ts us : List T} {t : T}
theorem at0 {st : Store} {Q : D → Store → Prop} {d : D} (h : ∀ d gb, Rp (st ++ gb) t d → Q d (st ++ gb)) (r : Rp st t d) : Q d st := by
  have := h d [] (by rw [List.append_nil]; exact r)
  rwa [List.append_nil] at this
theorem xt_int (i : Int) : XLit E P (xC (.int i)) (.int i) := fun st Q R _ h => at0 h (by simp only [Rp])
theorem xt_non : XLit E P (xC .non) .non := fun st Q R _ h => at0 h (by simp only [Rp])
theorem xt_bl (b : Bool) : XLit E P (xC (.bl b)) (.bl b) := fun st Q R _ h => at0 h (by simp only [Rp])
theorem xt_str (s : Str) : XLit E P (xC (.str s)) (.str s) := fun st Q R _ h => at0 h (by simp only [Rp])
theorem xt_neg {i : Int} (hx : XLit E P x (.int i)) : XLit E P (dNeg x) (.int (-i)) := fun st Q R p h => by
  refine x_neg (hx st _ R p fun d gb r => ?_)
  simp only [Rp] at r
  subst r
  exact neg_i (h _ _ (by simp only [Rp]))
theorem xt_nil : ALit E P aNil [] := fun st Q R _ h => a_nil (by have := h [] [] (by simp only [RpL]); rwa [List.append_nil] at this)
theorem xt_cons (hP : Stb P) (hx : XLit E P x t) (ha : ALit E P a ts) : ALit E P (aCons x a) (t :: ts) := fun st Q R p h => by
  refine a_cons (hx st _ R p fun d gb r => ha _ _ R (hP _ _ p) fun ds gb2 rs => ?_)
  have e : (st ++ gb) ++ gb2 = st ++ (gb ++ gb2) := List.append_assoc _ _ _
  have r2 := r.app gb2
  rw [e] at r2 rs ⊢
  exact h _ _ (by simp only [RpL]; exact ⟨_, _, rfl, r2, rs⟩)
theorem xt_tup (ha : ALit E P a ts) (hl : ts.length ≤ 16777216) : XLit E P (xTup a) (.tup ts) := fun st Q R p h => by
  refine x_tup (ha st _ R p fun ds gb rs => ⟨by rw [rs.length]; exact hl, h _ _ (by simp only [Rp]; exact ⟨_, rfl, rs⟩)⟩)
theorem xt_lst (ha : ALit E P a ts) (hl : ts.length ≤ 16777216) : XLit E P (xLst a) (.lst ts) := fun st Q R p h => by
  refine x_lst (ha st _ R p fun ds gb rs => ⟨by rw [rs.length]; exact hl, ?_⟩)
  have e : (st ++ gb) ++ [O.lst ds] = st ++ (gb ++ [O.lst ds]) := List.append_assoc _ _ _
  have r2 := rs.app [O.lst ds]
  have g := get_hd (st ++ gb) [] (O.lst ds)
  rw [e] at r2 g ⊢
  exact h _ _ (by simp only [Rp]; exact ⟨_, _, rfl, g, r2⟩)
theorem xt_mulL (hP : Stb P) {k : Int} (hx : XLit E P x (.lst ts)) (hk0 : 0 ≤ k) (hk : k ≤ 1000) (hl : ts.length ≤ 1000) : XLit E P (xBin dMul x (xC (.int k))) (.lst (List.replicate k.toNat ts).flatten) := fun st Q R p h => by
  refine x_bin (hx st _ R p fun d gb r => ?_)
  simp only [Rp] at r
  obtain ⟨n, ds, rfl, e, rs⟩ := r
  refine x_c (d_mulL e (by omega) (by omega) ?_ ?_)
  · rw [rs.length]
    have : ts.length * k.toNat ≤ 1000 * 1000 := Nat.mul_le_mul hl (by omega)
    omega
  · have e : (st ++ gb) ++ [O.lst (List.replicate k.toNat ds).flatten] = st ++ (gb ++ [O.lst (List.replicate k.toNat ds).flatten]) := List.append_assoc _ _ _
    have r2 := (rs.rep k.toNat).app [O.lst (List.replicate k.toNat ds).flatten]
    have g := get_hd (st ++ gb) [] (O.lst (List.replicate k.toNat ds).flatten)
    rw [e] at r2 g ⊢
    exact h _ _ (by simp only [Rp]; exact ⟨_, _, rfl, g, r2⟩)
theorem xt_addL (hP : Stb P) (hx : XLit E P x (.lst ts)) (hy : XLit E P y (.lst us)) (hl : ts.length + us.length ≤ 16777216) : XLit E P (xBin dAdd x y) (.lst (ts ++ us)) := fun st Q R p h => by
  refine x_bin (hx st _ R p fun d gb r => hy _ _ R (hP _ _ p) fun d2 gb2 r2 => ?_)
  have r1 := r.app gb2
  simp only [Rp] at r1 r2
  obtain ⟨n, ds, rfl, e, rs⟩ := r1
  obtain ⟨m, es, rfl, e2, rs2⟩ := r2
  refine d_addL e e2 (by rw [rs.length, rs2.length]; exact hl) ?_
  have ee : ((st ++ gb) ++ gb2) ++ [O.lst (ds ++ es)] = st ++ (gb ++ gb2 ++ [O.lst (ds ++ es)]) := by simp only [List.append_assoc]
  have r2 := (rs.append rs2).app [O.lst (ds ++ es)]
  have g := get_hd ((st ++ gb) ++ gb2) [] (O.lst (ds ++ es))
  rw [ee] at r2 g ⊢
  exact h _ _ (by simp only [Rp]; exact ⟨_, _, rfl, g, r2⟩)
theorem xt_mulT {k : Int} (hx : XLit E P x (.tup ts)) (hk0 : 2 ≤ k) (hk : k ≤ 1000) (hn : ts ≠ []) (hl : ts.length ≤ 1000) : XLit E P (xBin dMulT x (xC (.int k))) (.tup (List.replicate k.toNat ts).flatten) := fun st Q R p h => by
  refine x_bin (hx st _ R p fun d gb r => ?_)
  simp only [Rp] at r
  obtain ⟨ds, rfl, rs⟩ := r
  refine x_c (d_mulT (fun z => ?_) hk0 hk (by rw [rs.length]; exact hl) ?_)
  · rw [z] at rs
    exact hn (List.length_eq_zero_iff.mp rs.length.symm)
  · exact h _ _ (by simp only [Rp]; exact ⟨_, rfl, rs.rep _⟩)
theorem xt_addT (hP : Stb P) (hx : XLit E P x (.tup ts)) (hy : XLit E P y (.tup us)) (hn : ts ≠ []) (hl : ts.length + us.length ≤ 16777216) : XLit E P (xBin dAdd x y) (.tup (ts ++ us)) := fun st Q R p h => by
  refine x_bin (hx st _ R p fun d gb r => hy _ _ R (hP _ _ p) fun d2 gb2 r2 => ?_)
  have r1 := r.app gb2
  simp only [Rp] at r1 r2
  obtain ⟨ds, rfl, rs⟩ := r1
  obtain ⟨es, rfl, rs2⟩ := r2
  refine d_addT (fun z => ?_) (by rw [rs.length, rs2.length]; exact hl) ?_
  · rw [z] at rs
    exact hn (List.length_eq_zero_iff.mp rs.length.symm)
  · have r3 := rs.append rs2
    rw [List.append_assoc] at r3 ⊢
    exact h _ _ (by simp only [Rp]; exact ⟨_, rfl, r3⟩)
theorem xt_var {k : Nat} {d : D} (e : E[k]? = some (some d)) (hp : ∀ st, P st → Rp st t d) : XLit E P (xVar k) t := fun st Q R p h => x_var e (at0 h (hp st p))
end
theorem stb_true : Stb fun _ => True := fun _ _ _ => trivial
/-- all members of a literal list are refused -/
def litNo (f : T → Bool) (ts : List T) : Bool := ts.all fun t => !f t
theorem xt_good {E : Env} {P : Store → Prop} (hP : Stb P) (hg : XLit E P (xVar 1) (.tup [.lst [.int 1], .lst [.int 0]])) : XLit E P (xSl (xVar 1) oNone (oSome (xC (.int 1)))) (.tup [.lst [.int 1]]) := fun st Q R p h => by
  refine x_sl (hg st _ R p fun d gb r => ?_)
  simp only [Rp, RpL] at r
  obtain ⟨ds, rfl, x, _, rfl, h1, y, _, rfl, h2, rfl⟩ := r
  refine o_none (o_some (x_c (o_int ?_)))
  refine sl_t (by show ¬ (HT.sIx 2 0 _ = 0 ∧ HT.sIx 2 2 _ = 2); decide) ?_
  refine h _ _ ?_
  simp only [Rp, RpL]
  exact ⟨_, rfl, _, _, rfl, h1, rfl⟩
theorem xt_list {E : Env} {P : Store → Prop} {ts : List T} (hg : XLit E P (xVar 1) (.tup ts)) : XLit E P (xFun fList (aCons (xVar 1) aNil)) (.lst ts) := fun st Q R p h => by
  refine x_fun (a_cons (hg st _ R p fun d gb r => a_nil ?_))
  simp only [Rp] at r
  obtain ⟨ds, rfl, rs⟩ := r
  refine f_list (xs := ds) rfl ?_
  have ee : (st ++ gb) ++ [O.lst ds] = st ++ (gb ++ [O.lst ds]) := by simp only [List.append_assoc]
  have r2 := rs.app [O.lst ds]
  have g := get_hd (st ++ gb) [] (O.lst ds)
  rw [ee] at r2 g ⊢
  exact h _ _ (by simp only [Rp]; exact ⟨_, _, rfl, g, r2⟩)
end MP

namespace MP
open PySem L2 TL
def strL (l : List Nat) : Str := ⟨l.toArray⟩
theorem tl_strL (l : List Nat) : tl (strL l) = l := tl_mk l
theorem str_tl (s : Str) : strL (tl s) = s := mk_tl s
theorem strL_inj {a b : List Nat} (h : strL a = strL b) : a = b := by rw [← tl_strL a, h, tl_strL]
theorem len_strL (l : List Nat) : (strL l).length = l.length := by rw [len_tl, tl_strL]
def isDg (c : Nat) : Bool := decide (48 ≤ c) && decide (c ≤ 53)
def numsL (w : List Nat) : List Int := (w.filter isDg).map fun c : Nat => (c : Int) - 48
def dgL (i : Int) : List Nat := [48 + i.toNat]
theorem nums_app (a b : List Nat) : numsL (a ++ b) = numsL a ++ numsL b := by unfold numsL; rw [List.filter_append, List.map_append]
theorem nums_dg {i : Int} (h : 0 ≤ i ∧ i ≤ 5) : numsL (dgL i) = [i] := by
  obtain ⟨k, rfl⟩ := Int.eq_ofNat_of_zero_le h.1
  have hk : k ≤ 5 := by omega
  unfold numsL dgL isDg
  simp only [Int.toNat_natCast, List.filter_cons, List.filter_nil]
  rw [if_pos (by simp; omega)]
  simp
  omega
theorem digits_tl : (("012345" : Str)).cps.toList = [48, 49, 50, 51, 52, 53] := by decide +kernel
theorem in_dg {c : Nat} : decide (c ∈ ("012345" : Str).cps.toList) = isDg c := by
  rw [digits_tl]
  unfold isDg
  rw [← Bool.decide_and, decide_eq_decide]
  simp
  omega
theorem find_dg {c : Nat} (h : isDg c = true) : Txt.find "012345" ⟨#[c]⟩ = (c : Int) - 48 := by
  unfold isDg at h
  rw [← Bool.decide_and, decide_eq_true_eq] at h
  have : c = 48 ∨ c = 49 ∨ c = 50 ∨ c = 51 ∨ c = 52 ∨ c = 53 := by omega
  rcases this with rfl | rfl | rfl | rfl | rfl | rfl <;> decide +kernel
theorem log_small {i : Int} (h : 0 ≤ i ∧ i ≤ 5) : i.natAbs.log2 < 1920 := by
  have : i.natAbs ≤ 5 := by omega
  have h2 : i.natAbs.log2 ≤ i.natAbs := Nat.log2_le_self _
  omega
theorem str_dg {i : Int} (h : 0 ≤ i ∧ i ≤ 5) : ((toString i : String) : Str) = strL (dgL i) := by
  have : i = 0 ∨ i = 1 ∨ i = 2 ∨ i = 3 ∨ i = 4 ∨ i = 5 := by omega
  rcases this with rfl | rfl | rfl | rfl | rfl | rfl <;> decide +kernel
theorem app_strL (a b : List Nat) : strL a ++ strL b = strL (a ++ b) := ext_tl (by rw [tl_append, tl_strL, tl_strL, tl_strL])
theorem join_strL (s : List Nat) (ps : List (List Nat)) : Txt.join (strL s) (ps.map strL) = strL (joinL s ps) := ext_tl (by
  rw [join_eq, tl_join, tl_strL, tl_strL, List.map_map]
  have : ∀ l : List (List Nat), l.map (tl ∘ strL) = l := fun l => by
    induction l with
    | nil => rfl
    | cons a l ih => rw [List.map_cons, ih]; rfl
  rw [this])
theorem sp_strL : (" " : Str) = strL [32] := by decide +kernel
theorem em_strL : (Str.empty : Str) = strL [] := by decide +kernel
section
variable {st : Store} {Q : D → Store → Prop} {R : XR} {t : T} {d : D} {n m : Nat} {i : Int} {ns : List Int}
theorem w_numbers_in {z : Str} (hz : z.length ≤ 100000) (h : ∀ gb, Q (.ref st.length) (st ++ O.lst ((numsL (tl z)).map D.int) :: gb)) : F_numbers_in [.str z] st Q R := by
  refine def_in rfl (by simp only [List.map_cons, List.map_nil, List.cons_append, List.nil_append, Nat.reduceSub, List.replicate_succ, List.replicate_zero, List.append_nil, List.length_cons, List.length_nil]; exact rfl) ?_
  unfold b_numbers_in
  (repeat (with_reducible first|refine x_tm ?_|refine tm_i ?_|refine f_find ?_|refine d_inS ?_|refine i_s ?_|refine is_s ?_|refine x_bin ?_|refine t_b ?_|refine b_b ?_|refine s_ret ?_|refine x_comp ?_|refine x_c ?_|refine x_var (by with_unfolding_all rfl) ?_|refine g_n (by simp only [List.set_cons_zero, List.set_cons_succ]; exact rfl) ?_|dsimp only))
  have hl : (tl z).length ≤ 100000 := by rw [← len_tl]; exact hz
  refine c_gen (tl z).length (fun k => .str ⟨#[(tl z).getD k 0]⟩) (fun k acc st' => st' = st ++ [.lst acc] ∧ acc = (numsL ((tl z).take k)).map D.int) (by omega) ⟨by simp, rfl⟩ ?_ ?_ ?_ ?_
  · rintro k acc st' ⟨rfl, rfl⟩
    refine ⟨get_hd _ _ _, ?_⟩
    unfold numsL
    rw [List.length_map, List.length_map]
    exact Nat.le_trans (List.length_filter_le _ _) (by rw [List.length_take]; omega)
  · rintro k acc st' hk ⟨rfl, rfl⟩
    unfold itemAt
    dsimp only
    rw [List.getElem?_eq_getElem hk, List.getD_eq_getElem?_getD, List.getElem?_eq_getElem hk]
    rfl
  · rintro acc st' ⟨rfl, rfl⟩
    refine ⟨?_, ?_⟩
    · unfold itemAt
      dsimp only
      rw [List.getElem?_eq_none (Nat.le_refl _)]
      rfl
    · rw [List.take_length]
      exact h []
  · rintro k acc st' K M hk ⟨rfl, rfl⟩ hK hM
    have et : (tl z).take (k + 1) = (tl z).take k ++ [(tl z).getD k 0] := by
      rw [List.take_succ, List.getD_eq_getElem?_getD, List.getElem?_eq_getElem hk]; rfl
    generalize (tl z).getD k 0 = c at et ⊢
    simp only [wipeD]
    (repeat (with_reducible first|refine x_tm ?_|refine tm_i ?_|refine f_find ?_|refine d_inS ?_|refine i_s ?_|refine is_s ?_|refine x_bin ?_|refine t_b ?_|refine b_b ?_|refine s_ret ?_|refine x_comp ?_|refine x_c ?_|refine x_var (by with_unfolding_all rfl) ?_|refine g_n (by simp only [List.set_cons_zero, List.set_cons_succ]; exact rfl) ?_|dsimp only))
    rw [in_dg]
    have ap : (numsL ((tl z).take (k + 1))).map D.int = (numsL ((tl z).take k)).map D.int ++ (if isDg c = true then [D.int ((c : Int) - 48)] else []) := by
      rw [et, nums_app, List.map_append]
      congr 1
      unfold numsL
      by_cases hc : isDg c = true
      · simp [hc]
      · simp [hc]
    refine if_p (fun hc => ?_) (fun hc => ?_)
    · rw [if_pos hc] at ap
      (repeat (with_reducible first|refine x_tm ?_|refine tm_i ?_|refine f_find ?_|refine d_inS ?_|refine i_s ?_|refine is_s ?_|refine x_bin ?_|refine t_b ?_|refine b_b ?_|refine s_ret ?_|refine x_comp ?_|refine x_c ?_|refine x_var (by with_unfolding_all rfl) ?_|refine g_n (by simp only [List.set_cons_zero, List.set_cons_succ]; exact rfl) ?_|dsimp only))
      rw [find_dg hc]
      refine hK _ _ (get_hd _ _ _) ⟨?_, ap.symm⟩
      rw [List.set_append_right _ _ (Nat.le_refl _), Nat.sub_self]; rfl
    · rw [if_neg (by rw [hc]; exact Bool.false_ne_true), List.append_nil] at ap
      exact hM _ ⟨rfl, ap.symm⟩
end
theorem rep_str (w : Str) (m : Nat) : (List.replicate m [D.str w]).flatten = (List.replicate m w).map D.str := by
  induction m with
  | zero => rfl
  | succ m ih => rw [List.replicate_succ, List.flatten_cons, ih, List.replicate_succ, List.map_cons]; rfl
theorem range_str (w : Str) (m : Nat) : (List.range m).map (fun _ => D.str w) = (List.replicate m w).map D.str := by
  rw [List.map_const', List.length_range, List.map_replicate]
theorem all_rep {w : Str} (h : PyData.strOk w = true) (m : Nat) : (List.replicate m w).all PyData.strOk = true := by
  rw [List.all_eq_true]
  intro x hx
  rw [(List.mem_replicate.mp hx).2]
  exact h
theorem fold_one (c : Nat) : ∀ (n : Nat) (acc : Array Nat), ((List.replicate n #[c]).foldl (· ++ ·) acc).toList = acc.toList ++ List.replicate n c
  | 0, acc => by simp
  | n + 1, acc => by
    rw [List.replicate_succ, List.foldl_cons, fold_one c n, List.replicate_succ]
    simp
theorem times_one {c : Nat} {n : Int} (hn : 1 < n) : timesS ⟨#[c]⟩ n = strL (List.replicate n.toNat c) := by
  unfold timesS
  rw [if_neg (by omega), if_neg ?_]
  · refine ext_tl ?_
    rw [tl_strL]
    show ((List.replicate n.toNat #[c]).foldl (· ++ ·) #[]).toList = _
    rw [fold_one]
    rfl
  · simp
    refine ⟨by omega, ?_⟩
    show ¬ (#[c] : Array Nat).size = 0
    simp
section
variable {E : Env} {P : Store → Prop}
theorem one_strL : ("1" : Str) = ⟨#[49]⟩ := by decide +kernel
end
section
variable {st : Store} {Q : D → Store → Prop} {R : XR} {t : T} {d : D} {n m : Nat}
theorem c_rej {ts : List T} {ds : List D} {σ : Env} {K : D → Store → Prop} {F : XF} {w : Str} {i : Nat} (e : itemsOf st n = some ds) (rs : RpL st ts ds) (hl : ts.length ≤ 1000) (hi : i < σ.length)
    (hf : ∀ (t : T) (d : D) (st2 : Store) (Q : D → Store → Prop), t ∈ ts → Rp st2 t d → (∀ st', Sup st2 st' → Q (.str w) st') → F [d] st2 Q botR) (h : ∀ gb, K (.ref st.length) (st ++ O.lst ((List.replicate ts.length w).map D.str) :: gb)) :
    compW (.lst n) (gN i) tYesX (xCall F (aCons (xVar i) aNil)) σ st.length st K := by
  have hd := rs.length
  refine c_inv ts.length (fun k => ds.getD k .non) (fun _ => .str w) (by omega) (fun k o gb hk => ?_) (fun o gb => ?_) (fun k gb K hk hK => ?_) (fun gb2 => ?_)
  · exact item_D (items_old e) (by omega)
  · have := item_end (items_old (gs := o :: gb) e)
    rwa [hd] at this
  · refine g_n rfl (x_call (a_cons (x_var (List.getElem?_set_self hi) (a_nil ?_))))
    have hm : ts.getD k .non ∈ ts := by
      rw [List.getD_eq_getElem?_getD, List.getElem?_eq_getElem hk]
      exact List.getElem_mem hk
    refine hf _ _ _ _ hm ((rs.getD hk).app _) fun st' k' => ?_
    obtain ⟨gb3, e3⟩ := k'.app
    rw [e3]
    simp only [List.append_assoc, List.cons_append]
    exact hK _
  · rw [range_str]
    exact h gb2
theorem all_mem {f : T → Bool} {l : List T} (h : l.all f = true) {t : T} (ht : t ∈ l) : f t = true := List.all_eq_true.mp h t ht
end
end MP

namespace MP
open PySem L2 TL
/-! ### rules and rows as texts -/
def ruleParts (R : Rl) : List (List Nat) := [dgL R.p, tl R.l, dgL R.G, tl R.d, tl R.s]
def fmtR (R : Rl) : List Nat := joinL [32] (ruleParts R)
def fmtW (bs : List Int) : List Nat := (bs.map dgL).flatten
theorem joinL_nil : ∀ ps : List (List Nat), joinL [] ps = ps.flatten
  | [] => rfl
  | [p] => by simp [joinL]
  | p :: q :: r => by
    show p ++ ([] ++ joinL [] (q :: r)) = _
    rw [joinL_nil (q :: r)]
    simp
theorem e_strL : ("" : Str) = strL [] := by decide +kernel
theorem nums_fmtW : ∀ bs : List Int, (∀ b ∈ bs, 0 ≤ b ∧ b ≤ 5) → numsL (fmtW bs) = bs
  | [], _ => rfl
  | b :: bs, h => by
    show numsL (dgL b ++ fmtW bs) = _
    rw [nums_app, nums_dg (h b List.mem_cons_self), nums_fmtW bs fun x hx => h x (List.mem_cons_of_mem _ hx)]
    rfl
theorem fmtW_len (bs : List Int) : (fmtW bs).length = bs.length := by
  induction bs with
  | nil => rfl
  | cons b bs ih => show (dgL b ++ fmtW bs).length = _; rw [List.length_append, ih]; simp [dgL]; omega
/-- the parts of a rule's text are short and have no blank -/
structure PartOk (l : List Nat) : Prop where
  len : l.length ≤ 6
  fr : 32 ∉ l
theorem part_dg (i : Int) : PartOk (dgL i) := ⟨by simp [dgL], fun z => by
  have := List.mem_singleton.mp z
  omega⟩
theorem parts_ok {R : Rl} (hv : R.Ok) : ∀ p ∈ ruleParts R, PartOk p := by
  have h1 : PartOk (tl R.l) := by rcases hv.l with e | e | e <;> rw [e] <;> exact ⟨by decide +kernel, by decide +kernel⟩
  have h2 : PartOk (tl R.d) := by rcases hv.d with e | e <;> rw [e] <;> exact ⟨by decide +kernel, by decide +kernel⟩
  have h3 : PartOk (tl R.s) := by rcases hv.s with e | e | e | e <;> rw [e] <;> exact ⟨by decide +kernel, by decide +kernel⟩
  intro p hp
  simp only [ruleParts, List.mem_cons, List.mem_nil_iff, or_false] at hp
  rcases hp with rfl | rfl | rfl | rfl | rfl
  · exact part_dg _
  · exact h1
  · exact part_dg _
  · exact h2
  · exact h3
theorem fmtR_spl {R : Rl} (hv : R.Ok) : spl [32] 0 [] (fmtR R) = ruleParts R := spl_join (by simp [ruleParts]) fun p hp => (parts_ok hv p hp).fr
theorem dgL_inj {i j : Int} (hi : 0 ≤ i) (hj : 0 ≤ j) (h : dgL i = dgL j) : i = j := by
  unfold dgL at h
  simp at h
  omega
theorem fmtR_inj {R R' : Rl} (hv : R.Ok) (hv' : R'.Ok) (h : fmtR R = fmtR R') : R = R' := by
  have := fmtR_spl hv
  rw [h, fmtR_spl hv'] at this
  simp only [ruleParts, List.cons.injEq, and_true] at this
  obtain ⟨h1, h2, h3, h4, h5⟩ := this
  have p1 := hv.p; have p2 := hv'.p; have g1 := hv.g; have g2 := hv'.g
  have e1 := dgL_inj (by omega) (by omega) h1
  have e3 := dgL_inj (by omega) (by omega) h3
  have e2 := ext_tl h2
  have e4 := ext_tl h4
  have e5 := ext_tl h5
  cases R; cases R'
  simp only at e1 e2 e3 e4 e5
  simp [e1, e2, e3, e4, e5]
theorem fmtR_len {R : Rl} (hv : R.Ok) : (fmtR R).length ≤ 60 := by
  have h := parts_ok hv
  have a := (h (dgL R.p) (by simp [ruleParts])).len
  have b := (h (tl R.l) (by simp [ruleParts])).len
  have c := (h (dgL R.G) (by simp [ruleParts])).len
  have d := (h (tl R.d) (by simp [ruleParts])).len
  have e := (h (tl R.s) (by simp [ruleParts])).len
  show (dgL R.p ++ ([32] ++ (tl R.l ++ ([32] ++ (dgL R.G ++ ([32] ++ (tl R.d ++ ([32] ++ tl R.s)))))))).length ≤ 60
  simp only [List.length_append, List.length_cons, List.length_nil]
  omega
section
variable {st : Store} {Q : D → Store → Prop} {Rx : XR} {R : Rl} {n m i : Nat} {bs : List Int} {σ : Env}
/-- " ".join([str(item) for item in rule]) -/
theorem j_rule (hv : R.Ok) (hi : i < σ.length) (h : ∀ gb, Q (.str (strL (fmtR R))) (st ++ gb)) :
    compW (.tup [.int R.p, .str R.l, .int R.G, .str R.d, .str R.s]) (gN i) tYesX (xFun fStr (aCons (xVar i) aNil)) σ st.length st (fun d st1 => fJoin " " d st1 Q) := by
  have hp : 0 ≤ R.p ∧ R.p ≤ 5 := by have := hv.p; omega
  have hg : 0 ≤ R.G ∧ R.G ≤ 5 := by have := hv.g; omega
  refine c_inv 5 (fun k => [D.int R.p, .str R.l, .int R.G, .str R.d, .str R.s].getD k .non) (fun k => D.str (strL ((ruleParts R).getD k []))) (by decide) (fun k o gb hk => ?_) (fun o gb => rfl) (fun k gb K hk hK => ?_) (fun gb => ?_)
  · match k, hk with
    | 0, _ => rfl
    | 1, _ => rfl
    | 2, _ => rfl
    | 3, _ => rfl
    | 4, _ => rfl
  · refine g_n rfl (x_fun (a_cons (x_var (List.getElem?_set_self hi) (a_nil ?_))))
    match k, hk with
    | 0, _ => exact f_strI (log_small hp) (by rw [str_dg hp]; exact hK gb)
    | 1, _ =>
      have q := hK gb
      change K (D.str (strL (tl R.l))) _ at q
      rw [str_tl] at q
      exact f_strS q
    | 2, _ => exact f_strI (log_small hg) (by rw [str_dg hg]; exact hK gb)
    | 3, _ =>
      have q := hK gb
      change K (D.str (strL (tl R.d))) _ at q
      rw [str_tl] at q
      exact f_strS q
    | 4, _ =>
      have q := hK gb
      change K (D.str (strL (tl R.s))) _ at q
      rw [str_tl] at q
      exact f_strS q
  · have em : (List.range 5).map (fun k => D.str (strL ((ruleParts R).getD k []))) = ((ruleParts R).map strL).map D.str := rfl
    rw [em]
    refine f_join (items_hd _ _ _) ?_ ?_
    · have h := parts_ok hv
      have a := (h (dgL R.p) (by simp [ruleParts])).len
      have b := (h (tl R.l) (by simp [ruleParts])).len
      have c := (h (dgL R.G) (by simp [ruleParts])).len
      have d := (h (tl R.d) (by simp [ruleParts])).len
      have e := (h (tl R.s) (by simp [ruleParts])).len
      rw [sp_strL]
      simp only [ruleParts, List.map_cons, List.map_nil, len_strL, List.sum_cons, List.sum_nil, List.length_cons, List.length_nil]
      omega
    · rw [sp_strL, join_strL]
      exact h _
theorem w_format_rule (hv : R.Ok) (h : ∀ gb, Q (.str (strL (fmtR R))) (st ++ gb)) : F_format_rule [dR R] st Q Rx := by
  refine def_in rfl (by simp only [List.map_cons, List.map_nil, List.cons_append, List.nil_append, Nat.reduceSub, List.replicate_succ, List.replicate_zero, List.append_nil, List.length_cons, List.length_nil]; exact rfl) ?_
  unfold b_format_rule
  (repeat (with_reducible first|refine x_tm ?_|refine tm_i ?_|refine x_tup ?_|refine a_nil ?_|refine a_cons ?_|refine x_call ?_|refine s_seq ?_|refine s_ret ?_|refine s_expr ?_|refine i_l ?_|refine i_t ?_|refine it_t ?_|refine x_comp ?_|refine x_c ?_|refine x_var (by with_unfolding_all rfl) ?_|refine And.intro (show List.length _ ≤ 16777216 by simp) ?_|dsimp only))
  refine w_check_rule hv ?_
  (repeat (with_reducible first|refine x_tm ?_|refine tm_i ?_|refine x_tup ?_|refine a_nil ?_|refine a_cons ?_|refine x_call ?_|refine s_seq ?_|refine s_ret ?_|refine s_expr ?_|refine i_l ?_|refine i_t ?_|refine it_t ?_|refine x_comp ?_|refine x_c ?_|refine x_var (by with_unfolding_all rfl) ?_|refine And.intro (show List.length _ ≤ 16777216 by simp) ?_|dsimp only))
  exact j_rule hv (by simp [wipeD]) h
theorem j_row (e : itemsOf st n = some (bs.map D.int)) (hb : ∀ b ∈ bs, 0 ≤ b ∧ b ≤ 5) (hl : bs.length ≤ 1000) (hi : i < σ.length) (h : ∀ gb, Q (.str (strL (fmtW bs))) (st ++ gb)) :
    compW (.lst n) (gN i) tYesX (xFun fStr (aCons (xVar i) aNil)) σ st.length st (fun d st1 => fJoin "" d st1 Q) := by
  refine c_inv bs.length (fun k => .int (bs.getD k 0)) (fun k => .str (strL (dgL (bs.getD k 0)))) (by omega) (fun k o gb hk => ?_) (fun o gb => ?_) (fun k gb K hk hK => ?_) (fun gb2 => ?_)
  · unfold itemAt
    dsimp only
    rw [items_old e]
    dsimp only
    rw [List.getElem?_map, List.getElem?_eq_getElem hk, List.getD_eq_getElem?_getD, List.getElem?_eq_getElem hk]
    rfl
  · have := item_end (items_old (gs := o :: gb) e)
    rwa [List.length_map] at this
  · have hm : bs.getD k 0 ∈ bs := by
      rw [List.getD_eq_getElem?_getD, List.getElem?_eq_getElem hk]
      exact List.getElem_mem hk
    refine g_n rfl (x_fun (a_cons (x_var (List.getElem?_set_self hi) (a_nil (f_strI (log_small (hb _ hm)) ?_)))))
    rw [str_dg (hb _ hm)]
    exact hK gb
  · have em : (List.range bs.length).map (fun k => D.str (strL (dgL (bs.getD k 0)))) = ((bs.map dgL).map strL).map D.str := by
      apply List.ext_getElem (by simp)
      intro j h1 h2
      simp only [List.length_map, List.length_range] at h1
      rw [List.getElem_map, List.getElem_range, List.getElem_map, List.getElem_map, List.getElem_map, List.getD_eq_getElem?_getD, List.getElem?_eq_getElem h1]
      rfl
    rw [em]
    refine f_join (items_hd _ _ _) ?_ ?_
    · have all : ∀ l : List Int, (((l.map dgL).map strL).map (·.length)).sum = l.length := fun l => by
        induction l with
        | nil => rfl
        | cons a l ih =>
          simp only [List.map_cons, List.sum_cons, List.length_cons, len_strL] at ih ⊢
          rw [ih]
          simp [dgL]
          omega
      rw [all, List.length_map, List.length_map, e_strL, len_strL]
      simp only [List.length_nil]
      omega
    · rw [e_strL, join_strL, joinL_nil]
      exact h _
theorem w_format_row (e : itemsOf st n = some (bs.map D.int)) (hr : RowOk bs) (h : ∀ gb, Q (.str (strL (fmtW bs))) (st ++ gb)) : F_format_row [.ref n] st Q Rx := by
  have hl := hr.1
  refine def_in rfl (by simp only [List.map_cons, List.map_nil, List.cons_append, List.nil_append, Nat.reduceSub, List.replicate_succ, List.replicate_zero, List.append_nil, List.length_cons, List.length_nil]; exact rfl) ?_
  unfold b_format_row
  (repeat (with_reducible first|refine x_tm ?_|refine tm_i ?_|refine x_tup ?_|refine a_nil ?_|refine a_cons ?_|refine x_call ?_|refine s_seq ?_|refine s_ret ?_|refine s_expr ?_|refine i_l ?_|refine i_t ?_|refine it_t ?_|refine x_comp ?_|refine x_c ?_|refine x_var (by with_unfolding_all rfl) ?_|refine And.intro (show List.length _ ≤ 16777216 by simp) ?_|dsimp only))
  refine w_check_row e hr fun g0 => ?_
  (repeat (with_reducible first|refine x_tm ?_|refine tm_i ?_|refine x_tup ?_|refine a_nil ?_|refine a_cons ?_|refine x_call ?_|refine s_seq ?_|refine s_ret ?_|refine s_expr ?_|refine i_l ?_|refine i_t ?_|refine it_t ?_|refine x_comp ?_|refine x_c ?_|refine x_var (by with_unfolding_all rfl) ?_|refine And.intro (show List.length _ ≤ 16777216 by simp) ?_|dsimp only))
  refine il_l (items_old e) ?_
  refine j_row (items_old e) (fun b hb => by have := hr.2 b hb; omega) (by omega) (by simp [wipeD]) fun gb => ?_
  rw [List.append_assoc]
  exact h _
end
/-! ### all rules -/
def rulesL : List Rl := ([2, 3, 4] : List Int).flatMap fun p => (["one", "two", "cap"] : List Str).flatMap fun l => ([1, 2, 3] : List Int).flatMap fun g => (["same", "longer"] : List Str).flatMap fun d => (["games", "twos", "winner", "only"] : List Str).map fun s => ⟨p, l, g, d, s⟩
theorem rules_len : rulesL.length = 216 := by decide +kernel
theorem rules_mem {R : Rl} : R ∈ rulesL ↔ R.Ok := by
  unfold rulesL
  simp only [List.mem_flatMap, List.mem_map, List.mem_cons, List.mem_nil_iff, or_false]
  constructor
  · rintro ⟨p, hp, l, hl, g, hg, d, hd, s, hs, rfl⟩
    exact ⟨hp, hl, hg, hd, hs⟩
  · intro hv
    exact ⟨R.p, hv.p, R.l, hv.l, R.G, hv.g, R.d, hv.d, R.s, hv.s, rfl⟩
def evR (σ : Env) : D := .tup [(σ.getD 0 none).getD .non, (σ.getD 1 none).getD .non, (σ.getD 2 none).getD .non, (σ.getD 3 none).getD .non, (σ.getD 4 none).getD .non]
def srcR : List (List D × Nat) := [([.int 2, .int 3, .int 4], 0), ([.str "one", .str "two", .str "cap"], 1), ([.int 1, .int 2, .int 3], 2), ([.str "same", .str "longer"], 3), ([.str "games", .str "twos", .str "winner", .str "only"], 4)]
theorem prodR : prodL evR srcR [none, none, none, none, none] = rulesL.map dR := by rfl
section
variable {st : Store} {Q : D → Store → Prop} {Rx : XR}
theorem w_all_rules (h : Q (.ref st.length) (st ++ [.lst (rulesL.map dR)])) : F_all_rules [] st Q Rx := by
  refine def_in rfl (by simp only [List.map_cons, List.map_nil, List.cons_append, List.nil_append, Nat.reduceSub, List.replicate_succ, List.replicate_zero, List.append_nil, List.length_cons, List.length_nil]; exact rfl) ?_
  unfold b_all_rules
  refine s_ret ?_
  show compN (cksOf srcR) (xTup (aCons (xVar 0) (aCons (xVar 1) (aCons (xVar 2) (aCons (xVar 3) (aCons (xVar 4) aNil)))))) st.length [none, none, none, none, none] (st ++ [.lst []]) (fun st2 => Q (.ref st.length) st2)
  have pr := prodR
  refine n_prod (ev := evR) srcR _ _ [] _ ?_ (get_hd _ _ _) ?_ ?_
  · intro a ha b hb c hc d hd e he st K hK
    simp only [List.map_cons, List.map_nil, wipeD, List.set_cons_zero, List.set_cons_succ]
    (repeat (with_reducible first|refine x_tm ?_|refine tm_i ?_|refine x_tup ?_|refine a_nil ?_|refine a_cons ?_|refine x_call ?_|refine s_seq ?_|refine s_ret ?_|refine s_expr ?_|refine i_l ?_|refine i_t ?_|refine it_t ?_|refine x_comp ?_|refine x_c ?_|refine x_var (by with_unfolding_all rfl) ?_|refine And.intro (show List.length _ ≤ 16777216 by simp) ?_|dsimp only))
    exact hK
  · rw [pr, List.length_map, rules_len]; decide
  · rw [pr, List.nil_append, List.set_append_right _ _ (Nat.le_refl _), Nat.sub_self]
    exact h
end
end MP

namespace MP
open PySem L2 TL
def parseW (l : List Nat) : Option (List Int) := if (numsL l).length ≤ 60 ∧ (∀ b ∈ numsL l, b = 0 ∨ b = 1) ∧ fmtW (numsL l) = l then some (numsL l) else none
theorem parseW_some {l : List Nat} {bs : List Int} (h : parseW l = some bs) : RowOk bs ∧ fmtW bs = l := by
  unfold parseW at h
  split at h
  · rename_i z
    cases h
    exact ⟨⟨z.1, z.2.1⟩, z.2.2⟩
  · cases h
theorem parseW_fmt {bs : List Int} (hr : RowOk bs) : parseW (fmtW bs) = some bs := by
  have e := nums_fmtW bs fun b hb => by have := hr.2 b hb; omega
  unfold parseW
  rw [e, if_pos ⟨hr.1, hr.2, rfl⟩]
def noR (z : List Nat) : Bool := rulesL.all fun R => decide (fmtR R ≠ z)
theorem rowB_ints {ns : List Int} : rowB (.lst (ns.map T.int)) = true ↔ RowOk ns := by
  unfold rowB RowOk
  rw [Bool.and_eq_true, decide_eq_true_eq, List.length_map, List.all_eq_true]
  constructor
  · rintro ⟨h1, h2⟩
    refine ⟨h1, fun b hb => ?_⟩
    have := h2 (.int b) (List.mem_map.mpr ⟨b, hb, rfl⟩)
    simp [numB] at this
    omega
  · rintro ⟨h1, h2⟩
    refine ⟨h1, fun t ht => ?_⟩
    obtain ⟨b, hb, rfl⟩ := List.mem_map.mp ht
    have := h2 b hb
    simp [numB]
    omega
theorem RpL_ints (st : Store) : ∀ l : List Int, RpL st (l.map T.int) (l.map D.int)
  | [] => by simp only [List.map_nil, RpL]
  | a :: l => by simp only [List.map_cons, RpL]; exact ⟨_, _, rfl, by simp only [Rp], RpL_ints st l⟩
section
variable {st : Store} {Q : D → Store → Prop} {Rx : XR} {R : Rl} {n m : Nat} {bs : List Int} {t : T} {d : D}
theorem w_check_text {z : Str} (h : Q .non st) : F_check_text [.str z] st Q Rx := by
  refine def_in rfl (by simp only [List.map_cons, List.map_nil, List.cons_append, List.nil_append, Nat.reduceSub, List.replicate_succ, List.replicate_zero, List.append_nil, List.length_cons, List.length_nil]; exact rfl) ?_
  unfold b_check_text
  (repeat (with_reducible first|refine x_tm ?_|refine tm_i ?_|refine x_bin ?_|refine a_nil ?_|refine a_cons ?_|refine x_call ?_|refine x_if ?_|refine t_b ?_|refine b_b ?_|refine t_or ?_|refine t_not ?_|refine t_tru ?_|refine tru_b ?_|refine d_eqI ?_|refine d_eqS ?_|refine d_neS ?_|refine x_isi ?_|refine s_seq ?_|refine s_pass ?_|refine s_ret ?_|refine s_expr ?_|refine s_if ?_|refine s_asg ?_|refine s_raise ?_|refine s_try ?_|refine s_for ?_|refine i_l ?_|refine i_t ?_|refine it_t ?_|refine x_comp ?_|refine x_c ?_|refine d_is0 ?_|refine is_ss ?_|refine x_var (by with_unfolding_all rfl) ?_|refine g_n (by simp only [List.set_cons_zero, List.set_cons_succ]; exact rfl) ?_|refine if_t (by decide) ?_|refine if_f (by decide) ?_|dsimp only))
  exact h
theorem n_check_text (hr : Rp st t d) (ht : kindT t ≠ "str") (h : Rx 4 st) : F_check_text [d] st Q Rx := by
  refine def_in rfl (by simp only [List.map_cons, List.map_nil, List.cons_append, List.nil_append, Nat.reduceSub, List.replicate_succ, List.replicate_zero, List.append_nil, List.length_cons, List.length_nil]; exact rfl) ?_
  unfold b_check_text
  (repeat (with_reducible first|refine x_tm ?_|refine tm_i ?_|refine x_bin ?_|refine a_nil ?_|refine a_cons ?_|refine x_call ?_|refine x_if ?_|refine t_b ?_|refine b_b ?_|refine t_or ?_|refine t_not ?_|refine t_tru ?_|refine tru_b ?_|refine d_eqI ?_|refine d_eqS ?_|refine d_neS ?_|refine x_isi ?_|refine s_seq ?_|refine s_pass ?_|refine s_ret ?_|refine s_expr ?_|refine s_if ?_|refine s_asg ?_|refine s_raise ?_|refine s_try ?_|refine s_for ?_|refine i_l ?_|refine i_t ?_|refine it_t ?_|refine x_comp ?_|refine x_c ?_|refine d_is0 ?_|refine is_ss ?_|refine x_var (by with_unfolding_all rfl) ?_|refine g_n (by simp only [List.set_cons_zero, List.set_cons_succ]; exact rfl) ?_|refine if_t (by decide) ?_|refine if_f (by decide) ?_|dsimp only))
  have : kitB (kindT t) "str" = some false := by cases t <;> first | (simp only [kindT]; decide +kernel) | exact absurd rfl ht
  refine is_k (kind_T hr) this ?_
  (repeat (with_reducible first|refine x_tm ?_|refine tm_i ?_|refine x_bin ?_|refine a_nil ?_|refine a_cons ?_|refine x_call ?_|refine x_if ?_|refine t_b ?_|refine b_b ?_|refine t_or ?_|refine t_not ?_|refine t_tru ?_|refine tru_b ?_|refine d_eqI ?_|refine d_eqS ?_|refine d_neS ?_|refine x_isi ?_|refine s_seq ?_|refine s_pass ?_|refine s_ret ?_|refine s_expr ?_|refine s_if ?_|refine s_asg ?_|refine s_raise ?_|refine s_try ?_|refine s_for ?_|refine i_l ?_|refine i_t ?_|refine it_t ?_|refine x_comp ?_|refine x_c ?_|refine d_is0 ?_|refine is_ss ?_|refine x_var (by with_unfolding_all rfl) ?_|refine g_n (by simp only [List.set_cons_zero, List.set_cons_succ]; exact rfl) ?_|refine if_t (by decide) ?_|refine if_f (by decide) ?_|dsimp only))
  exact h
theorem w_parse_rule {z : Str} (h1 : ∀ R st', R.Ok → fmtR R = tl z → Sup st st' → Q (dR R) st') (h2 : noR (tl z) = true → ∀ st', Sup st st' → Rx 4 st') : F_parse_rule [.str z] st Q Rx := by
  refine def_in rfl (by simp only [List.map_cons, List.map_nil, List.cons_append, List.nil_append, Nat.reduceSub, List.replicate_succ, List.replicate_zero, List.append_nil, List.length_cons, List.length_nil]; exact rfl) ?_
  unfold b_parse_rule
  (repeat (with_reducible first|refine x_tm ?_|refine tm_i ?_|refine x_bin ?_|refine a_nil ?_|refine a_cons ?_|refine x_call ?_|refine x_if ?_|refine t_b ?_|refine b_b ?_|refine t_or ?_|refine t_not ?_|refine t_tru ?_|refine tru_b ?_|refine d_eqI ?_|refine d_eqS ?_|refine d_neS ?_|refine x_isi ?_|refine s_seq ?_|refine s_pass ?_|refine s_ret ?_|refine s_expr ?_|refine s_if ?_|refine s_asg ?_|refine s_raise ?_|refine s_try ?_|refine s_for ?_|refine i_l ?_|refine i_t ?_|refine it_t ?_|refine x_comp ?_|refine x_c ?_|refine d_is0 ?_|refine is_ss ?_|refine x_var (by with_unfolding_all rfl) ?_|refine g_n (by simp only [List.set_cons_zero, List.set_cons_succ]; exact rfl) ?_|refine if_t (by decide) ?_|refine if_f (by decide) ?_|dsimp only))
  refine w_check_text ?_
  (repeat (with_reducible first|refine x_tm ?_|refine tm_i ?_|refine x_bin ?_|refine a_nil ?_|refine a_cons ?_|refine x_call ?_|refine x_if ?_|refine t_b ?_|refine b_b ?_|refine t_or ?_|refine t_not ?_|refine t_tru ?_|refine tru_b ?_|refine d_eqI ?_|refine d_eqS ?_|refine d_neS ?_|refine x_isi ?_|refine s_seq ?_|refine s_pass ?_|refine s_ret ?_|refine s_expr ?_|refine s_if ?_|refine s_asg ?_|refine s_raise ?_|refine s_try ?_|refine s_for ?_|refine i_l ?_|refine i_t ?_|refine it_t ?_|refine x_comp ?_|refine x_c ?_|refine d_is0 ?_|refine is_ss ?_|refine x_var (by with_unfolding_all rfl) ?_|refine g_n (by simp only [List.set_cons_zero, List.set_cons_succ]; exact rfl) ?_|refine if_t (by decide) ?_|refine if_f (by decide) ?_|dsimp only))
  refine w_all_rules ?_
  have g0 : (st ++ [O.lst (rulesL.map dR)])[st.length]? = some (.lst (rulesL.map dR)) := get_hd _ _ _
  have s0 : Sup st (st ++ [O.lst (rulesL.map dR)]) := Sup.push _
  generalize st ++ [O.lst (rulesL.map dR)] = st0 at g0 s0 ⊢
  generalize st.length = n0 at g0 ⊢
  refine il_l (items_of g0) ?_
  refine l_inv 216 (fun k => dR (rulesL.getD k ⟨0, "", 0, "", ""⟩)) (fun k σ' st' => Sup st st' ∧ st'[n0]? = some (.lst (rulesL.map dR)) ∧ (∀ j, j < k → j < 216 → fmtR (rulesL.getD j ⟨0, "", 0, "", ""⟩) ≠ tl z) ∧ ∃ v1, σ' = [some (.str z), v1]) ⟨s0, g0, fun j hj => by omega, _, rfl⟩ ?_ ?_ ?_
  · rintro k σ' st' hk ⟨_, g, _⟩
    unfold itemAt
    dsimp only
    rw [items_of g]
    dsimp only
    have hk2 : k < rulesL.length := by rw [rules_len]; exact hk
    rw [List.getElem?_map, List.getElem?_eq_getElem hk2, List.getD_eq_getElem?_getD, List.getElem?_eq_getElem hk2]
    rfl
  · rintro σ' st' ⟨s, g, hn, v1, rfl⟩
    refine ⟨?_, ?_⟩
    · have := item_end (items_of g)
      rwa [List.length_map, rules_len] at this
    · (repeat (with_reducible first|refine x_tm ?_|refine tm_i ?_|refine x_bin ?_|refine a_nil ?_|refine a_cons ?_|refine x_call ?_|refine x_if ?_|refine t_b ?_|refine b_b ?_|refine t_or ?_|refine t_not ?_|refine t_tru ?_|refine tru_b ?_|refine d_eqI ?_|refine d_eqS ?_|refine d_neS ?_|refine x_isi ?_|refine s_seq ?_|refine s_pass ?_|refine s_ret ?_|refine s_expr ?_|refine s_if ?_|refine s_asg ?_|refine s_raise ?_|refine s_try ?_|refine s_for ?_|refine i_l ?_|refine i_t ?_|refine it_t ?_|refine x_comp ?_|refine x_c ?_|refine d_is0 ?_|refine is_ss ?_|refine x_var (by with_unfolding_all rfl) ?_|refine g_n (by simp only [List.set_cons_zero, List.set_cons_succ]; exact rfl) ?_|refine if_t (by decide) ?_|refine if_f (by decide) ?_|dsimp only))
      refine h2 ?_ _ s
      unfold noR
      rw [List.all_eq_true]
      intro R hR
      obtain ⟨j, hj, rfl⟩ := List.mem_iff_getElem.mp hR
      have := hn j (by rw [← rules_len]; exact hj) (by rw [← rules_len]; exact hj)
      rw [List.getD_eq_getElem?_getD, List.getElem?_eq_getElem hj] at this
      exact decide_eq_true this
  · rintro k σ' st' hk ⟨s, g, hn, v1, rfl⟩
    have hk2 : k < rulesL.length := by rw [rules_len]; exact hk
    have hm : rulesL.getD k ⟨0, "", 0, "", ""⟩ ∈ rulesL := by
      rw [List.getD_eq_getElem?_getD, List.getElem?_eq_getElem hk2]
      exact List.getElem_mem hk2
    have hv := rules_mem.mp hm
    generalize hR : rulesL.getD k ⟨0, "", 0, "", ""⟩ = R at hv ⊢
    (repeat (with_reducible first|refine x_tm ?_|refine tm_i ?_|refine x_bin ?_|refine a_nil ?_|refine a_cons ?_|refine x_call ?_|refine x_if ?_|refine t_b ?_|refine b_b ?_|refine t_or ?_|refine t_not ?_|refine t_tru ?_|refine tru_b ?_|refine d_eqI ?_|refine d_eqS ?_|refine d_neS ?_|refine x_isi ?_|refine s_seq ?_|refine s_pass ?_|refine s_ret ?_|refine s_expr ?_|refine s_if ?_|refine s_asg ?_|refine s_raise ?_|refine s_try ?_|refine s_for ?_|refine i_l ?_|refine i_t ?_|refine it_t ?_|refine x_comp ?_|refine x_c ?_|refine d_is0 ?_|refine is_ss ?_|refine x_var (by with_unfolding_all rfl) ?_|refine g_n (by simp only [List.set_cons_zero, List.set_cons_succ]; exact rfl) ?_|refine if_t (by decide) ?_|refine if_f (by decide) ?_|dsimp only))
    refine w_format_rule hv fun gb => ?_
    (repeat (with_reducible first|refine x_tm ?_|refine tm_i ?_|refine x_bin ?_|refine a_nil ?_|refine a_cons ?_|refine x_call ?_|refine x_if ?_|refine t_b ?_|refine b_b ?_|refine t_or ?_|refine t_not ?_|refine t_tru ?_|refine tru_b ?_|refine d_eqI ?_|refine d_eqS ?_|refine d_neS ?_|refine x_isi ?_|refine s_seq ?_|refine s_pass ?_|refine s_ret ?_|refine s_expr ?_|refine s_if ?_|refine s_asg ?_|refine s_raise ?_|refine s_try ?_|refine s_for ?_|refine i_l ?_|refine i_t ?_|refine it_t ?_|refine x_comp ?_|refine x_c ?_|refine d_is0 ?_|refine is_ss ?_|refine x_var (by with_unfolding_all rfl) ?_|refine g_n (by simp only [List.set_cons_zero, List.set_cons_succ]; exact rfl) ?_|refine if_t (by decide) ?_|refine if_f (by decide) ?_|dsimp only))
    refine if_p (fun q => ?_) (fun q => ?_)
    · have q : strL (fmtR R) = z := of_decide_eq_true q
      (repeat (with_reducible first|refine x_tm ?_|refine tm_i ?_|refine x_bin ?_|refine a_nil ?_|refine a_cons ?_|refine x_call ?_|refine x_if ?_|refine t_b ?_|refine b_b ?_|refine t_or ?_|refine t_not ?_|refine t_tru ?_|refine tru_b ?_|refine d_eqI ?_|refine d_eqS ?_|refine d_neS ?_|refine x_isi ?_|refine s_seq ?_|refine s_pass ?_|refine s_ret ?_|refine s_expr ?_|refine s_if ?_|refine s_asg ?_|refine s_raise ?_|refine s_try ?_|refine s_for ?_|refine i_l ?_|refine i_t ?_|refine it_t ?_|refine x_comp ?_|refine x_c ?_|refine d_is0 ?_|refine is_ss ?_|refine x_var (by with_unfolding_all rfl) ?_|refine g_n (by simp only [List.set_cons_zero, List.set_cons_succ]; exact rfl) ?_|refine if_t (by decide) ?_|refine if_f (by decide) ?_|dsimp only))
      exact h1 R _ hv (by rw [← q, tl_strL]) (s.trans (Sup.push _))
    · have q : strL (fmtR R) ≠ z := of_decide_eq_false q
      (repeat (with_reducible first|refine x_tm ?_|refine tm_i ?_|refine x_bin ?_|refine a_nil ?_|refine a_cons ?_|refine x_call ?_|refine x_if ?_|refine t_b ?_|refine b_b ?_|refine t_or ?_|refine t_not ?_|refine t_tru ?_|refine tru_b ?_|refine d_eqI ?_|refine d_eqS ?_|refine d_neS ?_|refine x_isi ?_|refine s_seq ?_|refine s_pass ?_|refine s_ret ?_|refine s_expr ?_|refine s_if ?_|refine s_asg ?_|refine s_raise ?_|refine s_try ?_|refine s_for ?_|refine i_l ?_|refine i_t ?_|refine it_t ?_|refine x_comp ?_|refine x_c ?_|refine d_is0 ?_|refine is_ss ?_|refine x_var (by with_unfolding_all rfl) ?_|refine g_n (by simp only [List.set_cons_zero, List.set_cons_succ]; exact rfl) ?_|refine if_t (by decide) ?_|refine if_f (by decide) ?_|dsimp only))
      refine ⟨s.trans (Sup.push _), (Sup.push _).get g, fun j hj h216 => ?_, _, rfl⟩
      by_cases e : j = k
      · subst e
        rw [hR]
        exact fun z2 => q (by rw [z2, str_tl])
      · exact hn j (by omega) h216
theorem n_parse_rule (hr : Rp st t d) (ht : kindT t ≠ "str") (h : Rx 4 st) : F_parse_rule [d] st Q Rx := by
  refine def_in rfl (by simp only [List.map_cons, List.map_nil, List.cons_append, List.nil_append, Nat.reduceSub, List.replicate_succ, List.replicate_zero, List.append_nil, List.length_cons, List.length_nil]; exact rfl) ?_
  unfold b_parse_rule
  (repeat (with_reducible first|refine x_tm ?_|refine tm_i ?_|refine x_bin ?_|refine a_nil ?_|refine a_cons ?_|refine x_call ?_|refine x_if ?_|refine t_b ?_|refine b_b ?_|refine t_or ?_|refine t_not ?_|refine t_tru ?_|refine tru_b ?_|refine d_eqI ?_|refine d_eqS ?_|refine d_neS ?_|refine x_isi ?_|refine s_seq ?_|refine s_pass ?_|refine s_ret ?_|refine s_expr ?_|refine s_if ?_|refine s_asg ?_|refine s_raise ?_|refine s_try ?_|refine s_for ?_|refine i_l ?_|refine i_t ?_|refine it_t ?_|refine x_comp ?_|refine x_c ?_|refine d_is0 ?_|refine is_ss ?_|refine x_var (by with_unfolding_all rfl) ?_|refine g_n (by simp only [List.set_cons_zero, List.set_cons_succ]; exact rfl) ?_|refine if_t (by decide) ?_|refine if_f (by decide) ?_|dsimp only))
  exact n_check_text hr ht h
theorem w_parse_row {z : Str} (hz : z.length ≤ 100000) (h1 : ∀ bs m st', parseW (tl z) = some bs → Sup st st' → st.length ≤ m → st'[m]? = some (.lst (bs.map D.int)) → Q (.ref m) st')
    (h2 : parseW (tl z) = none → ∀ st', Sup st st' → Rx 4 st') : F_parse_row [.str z] st Q Rx := by
  refine def_in rfl (by simp only [List.map_cons, List.map_nil, List.cons_append, List.nil_append, Nat.reduceSub, List.replicate_succ, List.replicate_zero, List.append_nil, List.length_cons, List.length_nil]; exact rfl) ?_
  unfold b_parse_row
  (repeat (with_reducible first|refine x_tm ?_|refine tm_i ?_|refine x_bin ?_|refine a_nil ?_|refine a_cons ?_|refine x_call ?_|refine x_if ?_|refine t_b ?_|refine b_b ?_|refine t_or ?_|refine t_not ?_|refine t_tru ?_|refine tru_b ?_|refine d_eqI ?_|refine d_eqS ?_|refine d_neS ?_|refine x_isi ?_|refine s_seq ?_|refine s_pass ?_|refine s_ret ?_|refine s_expr ?_|refine s_if ?_|refine s_asg ?_|refine s_raise ?_|refine s_try ?_|refine s_for ?_|refine i_l ?_|refine i_t ?_|refine it_t ?_|refine x_comp ?_|refine x_c ?_|refine d_is0 ?_|refine is_ss ?_|refine x_var (by with_unfolding_all rfl) ?_|refine g_n (by simp only [List.set_cons_zero, List.set_cons_succ]; exact rfl) ?_|refine if_t (by decide) ?_|refine if_f (by decide) ?_|dsimp only))
  refine w_check_text ?_
  (repeat (with_reducible first|refine x_tm ?_|refine tm_i ?_|refine x_bin ?_|refine a_nil ?_|refine a_cons ?_|refine x_call ?_|refine x_if ?_|refine t_b ?_|refine b_b ?_|refine t_or ?_|refine t_not ?_|refine t_tru ?_|refine tru_b ?_|refine d_eqI ?_|refine d_eqS ?_|refine d_neS ?_|refine x_isi ?_|refine s_seq ?_|refine s_pass ?_|refine s_ret ?_|refine s_expr ?_|refine s_if ?_|refine s_asg ?_|refine s_raise ?_|refine s_try ?_|refine s_for ?_|refine i_l ?_|refine i_t ?_|refine it_t ?_|refine x_comp ?_|refine x_c ?_|refine d_is0 ?_|refine is_ss ?_|refine x_var (by with_unfolding_all rfl) ?_|refine g_n (by simp only [List.set_cons_zero, List.set_cons_succ]; exact rfl) ?_|refine if_t (by decide) ?_|refine if_f (by decide) ?_|dsimp only))
  refine w_numbers_in hz fun gb => ?_
  have g : (st ++ O.lst ((numsL (tl z)).map D.int) :: gb)[st.length]? = some (.lst ((numsL (tl z)).map D.int)) := get_hd _ _ _
  have s : Sup st (st ++ O.lst ((numsL (tl z)).map D.int) :: gb) := Sup.push _
  have hp : parseW (tl z) = if (numsL (tl z)).length ≤ 60 ∧ (∀ b ∈ numsL (tl z), b = 0 ∨ b = 1) ∧ fmtW (numsL (tl z)) = tl z then some (numsL (tl z)) else none := rfl
  generalize st ++ O.lst ((numsL (tl z)).map D.int) :: gb = st1 at g s ⊢
  generalize numsL (tl z) = ns at g hp ⊢
  (repeat (with_reducible first|refine x_tm ?_|refine tm_i ?_|refine x_bin ?_|refine a_nil ?_|refine a_cons ?_|refine x_call ?_|refine x_if ?_|refine t_b ?_|refine b_b ?_|refine t_or ?_|refine t_not ?_|refine t_tru ?_|refine tru_b ?_|refine d_eqI ?_|refine d_eqS ?_|refine d_neS ?_|refine x_isi ?_|refine s_seq ?_|refine s_pass ?_|refine s_ret ?_|refine s_expr ?_|refine s_if ?_|refine s_asg ?_|refine s_raise ?_|refine s_try ?_|refine s_for ?_|refine i_l ?_|refine i_t ?_|refine it_t ?_|refine x_comp ?_|refine x_c ?_|refine d_is0 ?_|refine is_ss ?_|refine x_var (by with_unfolding_all rfl) ?_|refine g_n (by simp only [List.set_cons_zero, List.set_cons_succ]; exact rfl) ?_|refine if_t (by decide) ?_|refine if_f (by decide) ?_|dsimp only))
  refine v_row (t := .lst (ns.map T.int)) (by simp only [Rp]; exact ⟨_, _, rfl, g, RpL_ints _ _⟩) fun gb2 => ?_
  have g2 := (Sup.push (st := st1) gb2).get g
  have s2 := s.trans (Sup.push gb2)
  generalize st1 ++ gb2 = st2 at g2 s2 ⊢
  (repeat (with_reducible first|refine x_tm ?_|refine tm_i ?_|refine x_bin ?_|refine a_nil ?_|refine a_cons ?_|refine x_call ?_|refine x_if ?_|refine t_b ?_|refine b_b ?_|refine t_or ?_|refine t_not ?_|refine t_tru ?_|refine tru_b ?_|refine d_eqI ?_|refine d_eqS ?_|refine d_neS ?_|refine x_isi ?_|refine s_seq ?_|refine s_pass ?_|refine s_ret ?_|refine s_expr ?_|refine s_if ?_|refine s_asg ?_|refine s_raise ?_|refine s_try ?_|refine s_for ?_|refine i_l ?_|refine i_t ?_|refine it_t ?_|refine x_comp ?_|refine x_c ?_|refine d_is0 ?_|refine is_ss ?_|refine x_var (by with_unfolding_all rfl) ?_|refine g_n (by simp only [List.set_cons_zero, List.set_cons_succ]; exact rfl) ?_|refine if_t (by decide) ?_|refine if_f (by decide) ?_|dsimp only))
  by_cases hr : RowOk ns
  · rw [rowB_ints.mpr hr]
    (repeat (with_reducible first|refine x_tm ?_|refine tm_i ?_|refine x_bin ?_|refine a_nil ?_|refine a_cons ?_|refine x_call ?_|refine x_if ?_|refine t_b ?_|refine b_b ?_|refine t_or ?_|refine t_not ?_|refine t_tru ?_|refine tru_b ?_|refine d_eqI ?_|refine d_eqS ?_|refine d_neS ?_|refine x_isi ?_|refine s_seq ?_|refine s_pass ?_|refine s_ret ?_|refine s_expr ?_|refine s_if ?_|refine s_asg ?_|refine s_raise ?_|refine s_try ?_|refine s_for ?_|refine i_l ?_|refine i_t ?_|refine it_t ?_|refine x_comp ?_|refine x_c ?_|refine d_is0 ?_|refine is_ss ?_|refine x_var (by with_unfolding_all rfl) ?_|refine g_n (by simp only [List.set_cons_zero, List.set_cons_succ]; exact rfl) ?_|refine if_t (by decide) ?_|refine if_f (by decide) ?_|dsimp only))
    refine w_format_row (items_of g2) hr fun gb3 => ?_
    have g3 := (Sup.push (st := st2) gb3).get g2
    have s3 := s2.trans (Sup.push gb3)
    generalize st2 ++ gb3 = st3 at g3 s3 ⊢
    (repeat (with_reducible first|refine x_tm ?_|refine tm_i ?_|refine x_bin ?_|refine a_nil ?_|refine a_cons ?_|refine x_call ?_|refine x_if ?_|refine t_b ?_|refine b_b ?_|refine t_or ?_|refine t_not ?_|refine t_tru ?_|refine tru_b ?_|refine d_eqI ?_|refine d_eqS ?_|refine d_neS ?_|refine x_isi ?_|refine s_seq ?_|refine s_pass ?_|refine s_ret ?_|refine s_expr ?_|refine s_if ?_|refine s_asg ?_|refine s_raise ?_|refine s_try ?_|refine s_for ?_|refine i_l ?_|refine i_t ?_|refine it_t ?_|refine x_comp ?_|refine x_c ?_|refine d_is0 ?_|refine is_ss ?_|refine x_var (by with_unfolding_all rfl) ?_|refine g_n (by simp only [List.set_cons_zero, List.set_cons_succ]; exact rfl) ?_|refine if_t (by decide) ?_|refine if_f (by decide) ?_|dsimp only))
    refine if_p (fun q => ?_) (fun q => ?_)
    · have q : ¬ strL (fmtW ns) = z := by simpa using q
      (repeat (with_reducible first|refine x_tm ?_|refine tm_i ?_|refine x_bin ?_|refine a_nil ?_|refine a_cons ?_|refine x_call ?_|refine x_if ?_|refine t_b ?_|refine b_b ?_|refine t_or ?_|refine t_not ?_|refine t_tru ?_|refine tru_b ?_|refine d_eqI ?_|refine d_eqS ?_|refine d_neS ?_|refine x_isi ?_|refine s_seq ?_|refine s_pass ?_|refine s_ret ?_|refine s_expr ?_|refine s_if ?_|refine s_asg ?_|refine s_raise ?_|refine s_try ?_|refine s_for ?_|refine i_l ?_|refine i_t ?_|refine it_t ?_|refine x_comp ?_|refine x_c ?_|refine d_is0 ?_|refine is_ss ?_|refine x_var (by with_unfolding_all rfl) ?_|refine g_n (by simp only [List.set_cons_zero, List.set_cons_succ]; exact rfl) ?_|refine if_t (by decide) ?_|refine if_f (by decide) ?_|dsimp only))
      exact h2 (by rw [hp, if_neg]; exact fun w => q (by rw [w.2.2, str_tl])) _ s3
    · have q : strL (fmtW ns) = z := by simpa using q
      (repeat (with_reducible first|refine x_tm ?_|refine tm_i ?_|refine x_bin ?_|refine a_nil ?_|refine a_cons ?_|refine x_call ?_|refine x_if ?_|refine t_b ?_|refine b_b ?_|refine t_or ?_|refine t_not ?_|refine t_tru ?_|refine tru_b ?_|refine d_eqI ?_|refine d_eqS ?_|refine d_neS ?_|refine x_isi ?_|refine s_seq ?_|refine s_pass ?_|refine s_ret ?_|refine s_expr ?_|refine s_if ?_|refine s_asg ?_|refine s_raise ?_|refine s_try ?_|refine s_for ?_|refine i_l ?_|refine i_t ?_|refine it_t ?_|refine x_comp ?_|refine x_c ?_|refine d_is0 ?_|refine is_ss ?_|refine x_var (by with_unfolding_all rfl) ?_|refine g_n (by simp only [List.set_cons_zero, List.set_cons_succ]; exact rfl) ?_|refine if_t (by decide) ?_|refine if_f (by decide) ?_|dsimp only))
      exact h1 ns _ _ (by rw [hp, if_pos ⟨hr.1, hr.2, by rw [← q, tl_strL]⟩]) s3 (Nat.le_refl _) g3
  · have : rowB (.lst (ns.map T.int)) = false := by
      cases e : rowB (.lst (ns.map T.int)) with
      | false => rfl
      | true => exact absurd (rowB_ints.mp e) hr
    rw [this]
    (repeat (with_reducible first|refine x_tm ?_|refine tm_i ?_|refine x_bin ?_|refine a_nil ?_|refine a_cons ?_|refine x_call ?_|refine x_if ?_|refine t_b ?_|refine b_b ?_|refine t_or ?_|refine t_not ?_|refine t_tru ?_|refine tru_b ?_|refine d_eqI ?_|refine d_eqS ?_|refine d_neS ?_|refine x_isi ?_|refine s_seq ?_|refine s_pass ?_|refine s_ret ?_|refine s_expr ?_|refine s_if ?_|refine s_asg ?_|refine s_raise ?_|refine s_try ?_|refine s_for ?_|refine i_l ?_|refine i_t ?_|refine it_t ?_|refine x_comp ?_|refine x_c ?_|refine d_is0 ?_|refine is_ss ?_|refine x_var (by with_unfolding_all rfl) ?_|refine g_n (by simp only [List.set_cons_zero, List.set_cons_succ]; exact rfl) ?_|refine if_t (by decide) ?_|refine if_f (by decide) ?_|dsimp only))
    exact h2 (by rw [hp, if_neg]; exact fun w => hr ⟨w.1, w.2.1⟩) _ s2
theorem n_parse_row (hr : Rp st t d) (ht : kindT t ≠ "str") (h : Rx 4 st) : F_parse_row [d] st Q Rx := by
  refine def_in rfl (by simp only [List.map_cons, List.map_nil, List.cons_append, List.nil_append, Nat.reduceSub, List.replicate_succ, List.replicate_zero, List.append_nil, List.length_cons, List.length_nil]; exact rfl) ?_
  unfold b_parse_row
  (repeat (with_reducible first|refine x_tm ?_|refine tm_i ?_|refine x_bin ?_|refine a_nil ?_|refine a_cons ?_|refine x_call ?_|refine x_if ?_|refine t_b ?_|refine b_b ?_|refine t_or ?_|refine t_not ?_|refine t_tru ?_|refine tru_b ?_|refine d_eqI ?_|refine d_eqS ?_|refine d_neS ?_|refine x_isi ?_|refine s_seq ?_|refine s_pass ?_|refine s_ret ?_|refine s_expr ?_|refine s_if ?_|refine s_asg ?_|refine s_raise ?_|refine s_try ?_|refine s_for ?_|refine i_l ?_|refine i_t ?_|refine it_t ?_|refine x_comp ?_|refine x_c ?_|refine d_is0 ?_|refine is_ss ?_|refine x_var (by with_unfolding_all rfl) ?_|refine g_n (by simp only [List.set_cons_zero, List.set_cons_succ]; exact rfl) ?_|refine if_t (by decide) ?_|refine if_f (by decide) ?_|dsimp only))
  exact n_check_text hr ht h
/-! ### the law's words -/
theorem w_law_parsed0 {z : Str} (h1 : ∀ R st', R.Ok → fmtR R = tl z → Sup st st' → Q (dR R) st') (h2 : noR (tl z) = true → ∀ st', Sup st st' → Q (.str "text") st') : F_law_parsed [.int 0, .str z] st Q Rx := by
  refine def_in rfl (by simp only [List.map_cons, List.map_nil, List.cons_append, List.nil_append, Nat.reduceSub, List.replicate_succ, List.replicate_zero, List.append_nil, List.length_cons, List.length_nil]; exact rfl) ?_
  unfold b_law_parsed
  (repeat (with_reducible first|refine x_tm ?_|refine tm_i ?_|refine x_bin ?_|refine a_nil ?_|refine a_cons ?_|refine x_call ?_|refine x_if ?_|refine t_b ?_|refine b_b ?_|refine t_or ?_|refine t_not ?_|refine t_tru ?_|refine tru_b ?_|refine d_eqI ?_|refine d_eqS ?_|refine d_neS ?_|refine x_isi ?_|refine s_seq ?_|refine s_pass ?_|refine s_ret ?_|refine s_expr ?_|refine s_if ?_|refine s_asg ?_|refine s_raise ?_|refine s_try ?_|refine s_for ?_|refine i_l ?_|refine i_t ?_|refine it_t ?_|refine x_comp ?_|refine x_c ?_|refine d_is0 ?_|refine is_ss ?_|refine x_var (by with_unfolding_all rfl) ?_|refine g_n (by simp only [List.set_cons_zero, List.set_cons_succ]; exact rfl) ?_|refine if_t (by decide) ?_|refine if_f (by decide) ?_|dsimp only))
  refine w_parse_rule (fun R st' a b c => ?_) (fun a st' b => ?_)
  · (repeat (with_reducible first|refine x_tm ?_|refine tm_i ?_|refine x_bin ?_|refine a_nil ?_|refine a_cons ?_|refine x_call ?_|refine x_if ?_|refine t_b ?_|refine b_b ?_|refine t_or ?_|refine t_not ?_|refine t_tru ?_|refine tru_b ?_|refine d_eqI ?_|refine d_eqS ?_|refine d_neS ?_|refine x_isi ?_|refine s_seq ?_|refine s_pass ?_|refine s_ret ?_|refine s_expr ?_|refine s_if ?_|refine s_asg ?_|refine s_raise ?_|refine s_try ?_|refine s_for ?_|refine i_l ?_|refine i_t ?_|refine it_t ?_|refine x_comp ?_|refine x_c ?_|refine d_is0 ?_|refine is_ss ?_|refine x_var (by with_unfolding_all rfl) ?_|refine g_n (by simp only [List.set_cons_zero, List.set_cons_succ]; exact rfl) ?_|refine if_t (by decide) ?_|refine if_f (by decide) ?_|dsimp only))
    exact h1 R st' a b c
  · (repeat (with_reducible first|refine x_tm ?_|refine tm_i ?_|refine x_bin ?_|refine a_nil ?_|refine a_cons ?_|refine x_call ?_|refine x_if ?_|refine t_b ?_|refine b_b ?_|refine t_or ?_|refine t_not ?_|refine t_tru ?_|refine tru_b ?_|refine d_eqI ?_|refine d_eqS ?_|refine d_neS ?_|refine x_isi ?_|refine s_seq ?_|refine s_pass ?_|refine s_ret ?_|refine s_expr ?_|refine s_if ?_|refine s_asg ?_|refine s_raise ?_|refine s_try ?_|refine s_for ?_|refine i_l ?_|refine i_t ?_|refine it_t ?_|refine x_comp ?_|refine x_c ?_|refine d_is0 ?_|refine is_ss ?_|refine x_var (by with_unfolding_all rfl) ?_|refine g_n (by simp only [List.set_cons_zero, List.set_cons_succ]; exact rfl) ?_|refine if_t (by decide) ?_|refine if_f (by decide) ?_|dsimp only))
    refine w_law_error (k := 4) (by decide) fun gb => ?_
    exact h2 a _ (b.trans (Sup.push gb))
theorem n_law_parsed0 (hr : Rp st t d) (ht : kindT t ≠ "str") (h : ∀ st', Sup st st' → Q (.str "text") st') : F_law_parsed [.int 0, d] st Q Rx := by
  refine def_in rfl (by simp only [List.map_cons, List.map_nil, List.cons_append, List.nil_append, Nat.reduceSub, List.replicate_succ, List.replicate_zero, List.append_nil, List.length_cons, List.length_nil]; exact rfl) ?_
  unfold b_law_parsed
  (repeat (with_reducible first|refine x_tm ?_|refine tm_i ?_|refine x_bin ?_|refine a_nil ?_|refine a_cons ?_|refine x_call ?_|refine x_if ?_|refine t_b ?_|refine b_b ?_|refine t_or ?_|refine t_not ?_|refine t_tru ?_|refine tru_b ?_|refine d_eqI ?_|refine d_eqS ?_|refine d_neS ?_|refine x_isi ?_|refine s_seq ?_|refine s_pass ?_|refine s_ret ?_|refine s_expr ?_|refine s_if ?_|refine s_asg ?_|refine s_raise ?_|refine s_try ?_|refine s_for ?_|refine i_l ?_|refine i_t ?_|refine it_t ?_|refine x_comp ?_|refine x_c ?_|refine d_is0 ?_|refine is_ss ?_|refine x_var (by with_unfolding_all rfl) ?_|refine g_n (by simp only [List.set_cons_zero, List.set_cons_succ]; exact rfl) ?_|refine if_t (by decide) ?_|refine if_f (by decide) ?_|dsimp only))
  refine n_parse_rule hr ht ?_
  (repeat (with_reducible first|refine x_tm ?_|refine tm_i ?_|refine x_bin ?_|refine a_nil ?_|refine a_cons ?_|refine x_call ?_|refine x_if ?_|refine t_b ?_|refine b_b ?_|refine t_or ?_|refine t_not ?_|refine t_tru ?_|refine tru_b ?_|refine d_eqI ?_|refine d_eqS ?_|refine d_neS ?_|refine x_isi ?_|refine s_seq ?_|refine s_pass ?_|refine s_ret ?_|refine s_expr ?_|refine s_if ?_|refine s_asg ?_|refine s_raise ?_|refine s_try ?_|refine s_for ?_|refine i_l ?_|refine i_t ?_|refine it_t ?_|refine x_comp ?_|refine x_c ?_|refine d_is0 ?_|refine is_ss ?_|refine x_var (by with_unfolding_all rfl) ?_|refine g_n (by simp only [List.set_cons_zero, List.set_cons_succ]; exact rfl) ?_|refine if_t (by decide) ?_|refine if_f (by decide) ?_|dsimp only))
  refine w_law_error (k := 4) (by decide) fun gb => ?_
  exact h _ (Sup.push gb)
theorem w_law_parsed1 {z : Str} (hz : z.length ≤ 100000) (h1 : ∀ bs m st', parseW (tl z) = some bs → Sup st st' → st.length ≤ m → st'[m]? = some (.lst (bs.map D.int)) → Q (.ref m) st')
    (h2 : parseW (tl z) = none → ∀ st', Sup st st' → Q (.str "text") st') : F_law_parsed [.int 1, .str z] st Q Rx := by
  refine def_in rfl (by simp only [List.map_cons, List.map_nil, List.cons_append, List.nil_append, Nat.reduceSub, List.replicate_succ, List.replicate_zero, List.append_nil, List.length_cons, List.length_nil]; exact rfl) ?_
  unfold b_law_parsed
  (repeat (with_reducible first|refine x_tm ?_|refine tm_i ?_|refine x_bin ?_|refine a_nil ?_|refine a_cons ?_|refine x_call ?_|refine x_if ?_|refine t_b ?_|refine b_b ?_|refine t_or ?_|refine t_not ?_|refine t_tru ?_|refine tru_b ?_|refine d_eqI ?_|refine d_eqS ?_|refine d_neS ?_|refine x_isi ?_|refine s_seq ?_|refine s_pass ?_|refine s_ret ?_|refine s_expr ?_|refine s_if ?_|refine s_asg ?_|refine s_raise ?_|refine s_try ?_|refine s_for ?_|refine i_l ?_|refine i_t ?_|refine it_t ?_|refine x_comp ?_|refine x_c ?_|refine d_is0 ?_|refine is_ss ?_|refine x_var (by with_unfolding_all rfl) ?_|refine g_n (by simp only [List.set_cons_zero, List.set_cons_succ]; exact rfl) ?_|refine if_t (by decide) ?_|refine if_f (by decide) ?_|dsimp only))
  refine w_parse_row hz (fun bs m st' a b c e => ?_) (fun a st' b => ?_)
  · (repeat (with_reducible first|refine x_tm ?_|refine tm_i ?_|refine x_bin ?_|refine a_nil ?_|refine a_cons ?_|refine x_call ?_|refine x_if ?_|refine t_b ?_|refine b_b ?_|refine t_or ?_|refine t_not ?_|refine t_tru ?_|refine tru_b ?_|refine d_eqI ?_|refine d_eqS ?_|refine d_neS ?_|refine x_isi ?_|refine s_seq ?_|refine s_pass ?_|refine s_ret ?_|refine s_expr ?_|refine s_if ?_|refine s_asg ?_|refine s_raise ?_|refine s_try ?_|refine s_for ?_|refine i_l ?_|refine i_t ?_|refine it_t ?_|refine x_comp ?_|refine x_c ?_|refine d_is0 ?_|refine is_ss ?_|refine x_var (by with_unfolding_all rfl) ?_|refine g_n (by simp only [List.set_cons_zero, List.set_cons_succ]; exact rfl) ?_|refine if_t (by decide) ?_|refine if_f (by decide) ?_|dsimp only))
    exact h1 bs m st' a b c e
  · (repeat (with_reducible first|refine x_tm ?_|refine tm_i ?_|refine x_bin ?_|refine a_nil ?_|refine a_cons ?_|refine x_call ?_|refine x_if ?_|refine t_b ?_|refine b_b ?_|refine t_or ?_|refine t_not ?_|refine t_tru ?_|refine tru_b ?_|refine d_eqI ?_|refine d_eqS ?_|refine d_neS ?_|refine x_isi ?_|refine s_seq ?_|refine s_pass ?_|refine s_ret ?_|refine s_expr ?_|refine s_if ?_|refine s_asg ?_|refine s_raise ?_|refine s_try ?_|refine s_for ?_|refine i_l ?_|refine i_t ?_|refine it_t ?_|refine x_comp ?_|refine x_c ?_|refine d_is0 ?_|refine is_ss ?_|refine x_var (by with_unfolding_all rfl) ?_|refine g_n (by simp only [List.set_cons_zero, List.set_cons_succ]; exact rfl) ?_|refine if_t (by decide) ?_|refine if_f (by decide) ?_|dsimp only))
    refine w_law_error (k := 4) (by decide) fun gb => ?_
    exact h2 a _ (b.trans (Sup.push gb))
theorem n_law_parsed1 (hr : Rp st t d) (ht : kindT t ≠ "str") (h : ∀ st', Sup st st' → Q (.str "text") st') : F_law_parsed [.int 1, d] st Q Rx := by
  refine def_in rfl (by simp only [List.map_cons, List.map_nil, List.cons_append, List.nil_append, Nat.reduceSub, List.replicate_succ, List.replicate_zero, List.append_nil, List.length_cons, List.length_nil]; exact rfl) ?_
  unfold b_law_parsed
  (repeat (with_reducible first|refine x_tm ?_|refine tm_i ?_|refine x_bin ?_|refine a_nil ?_|refine a_cons ?_|refine x_call ?_|refine x_if ?_|refine t_b ?_|refine b_b ?_|refine t_or ?_|refine t_not ?_|refine t_tru ?_|refine tru_b ?_|refine d_eqI ?_|refine d_eqS ?_|refine d_neS ?_|refine x_isi ?_|refine s_seq ?_|refine s_pass ?_|refine s_ret ?_|refine s_expr ?_|refine s_if ?_|refine s_asg ?_|refine s_raise ?_|refine s_try ?_|refine s_for ?_|refine i_l ?_|refine i_t ?_|refine it_t ?_|refine x_comp ?_|refine x_c ?_|refine d_is0 ?_|refine is_ss ?_|refine x_var (by with_unfolding_all rfl) ?_|refine g_n (by simp only [List.set_cons_zero, List.set_cons_succ]; exact rfl) ?_|refine if_t (by decide) ?_|refine if_f (by decide) ?_|dsimp only))
  refine n_parse_row hr ht ?_
  (repeat (with_reducible first|refine x_tm ?_|refine tm_i ?_|refine x_bin ?_|refine a_nil ?_|refine a_cons ?_|refine x_call ?_|refine x_if ?_|refine t_b ?_|refine b_b ?_|refine t_or ?_|refine t_not ?_|refine t_tru ?_|refine tru_b ?_|refine d_eqI ?_|refine d_eqS ?_|refine d_neS ?_|refine x_isi ?_|refine s_seq ?_|refine s_pass ?_|refine s_ret ?_|refine s_expr ?_|refine s_if ?_|refine s_asg ?_|refine s_raise ?_|refine s_try ?_|refine s_for ?_|refine i_l ?_|refine i_t ?_|refine it_t ?_|refine x_comp ?_|refine x_c ?_|refine d_is0 ?_|refine is_ss ?_|refine x_var (by with_unfolding_all rfl) ?_|refine g_n (by simp only [List.set_cons_zero, List.set_cons_succ]; exact rfl) ?_|refine if_t (by decide) ?_|refine if_f (by decide) ?_|dsimp only))
  refine w_law_error (k := 4) (by decide) fun gb => ?_
  exact h _ (Sup.push gb)
theorem w_law_words0 (hv : R.Ok) (h : ∀ gb, Q (.str (strL (fmtR R))) (st ++ gb)) : F_law_words [.int 0, dR R] st Q Rx := by
  refine def_in rfl (by simp only [List.map_cons, List.map_nil, List.cons_append, List.nil_append, Nat.reduceSub, List.replicate_succ, List.replicate_zero, List.append_nil, List.length_cons, List.length_nil]; exact rfl) ?_
  unfold b_law_words
  (repeat (with_reducible first|refine x_tm ?_|refine tm_i ?_|refine x_bin ?_|refine a_nil ?_|refine a_cons ?_|refine x_call ?_|refine x_if ?_|refine t_b ?_|refine b_b ?_|refine t_or ?_|refine t_not ?_|refine t_tru ?_|refine tru_b ?_|refine d_eqI ?_|refine d_eqS ?_|refine d_neS ?_|refine x_isi ?_|refine s_seq ?_|refine s_pass ?_|refine s_ret ?_|refine s_expr ?_|refine s_if ?_|refine s_asg ?_|refine s_raise ?_|refine s_try ?_|refine s_for ?_|refine i_l ?_|refine i_t ?_|refine it_t ?_|refine x_comp ?_|refine x_c ?_|refine d_is0 ?_|refine is_ss ?_|refine x_var (by with_unfolding_all rfl) ?_|refine g_n (by simp only [List.set_cons_zero, List.set_cons_succ]; exact rfl) ?_|refine if_t (by decide) ?_|refine if_f (by decide) ?_|dsimp only))
  exact j_rule hv (by simp [wipeD]) h
theorem w_law_words1 (e : itemsOf st n = some (bs.map D.int)) (hr : RowOk bs) (h : ∀ gb, Q (.str (strL (fmtW bs))) (st ++ gb)) : F_law_words [.int 1, .ref n] st Q Rx := by
  have hl := hr.1
  refine def_in rfl (by simp only [List.map_cons, List.map_nil, List.cons_append, List.nil_append, Nat.reduceSub, List.replicate_succ, List.replicate_zero, List.append_nil, List.length_cons, List.length_nil]; exact rfl) ?_
  unfold b_law_words
  (repeat (with_reducible first|refine x_tm ?_|refine tm_i ?_|refine x_bin ?_|refine a_nil ?_|refine a_cons ?_|refine x_call ?_|refine x_if ?_|refine t_b ?_|refine b_b ?_|refine t_or ?_|refine t_not ?_|refine t_tru ?_|refine tru_b ?_|refine d_eqI ?_|refine d_eqS ?_|refine d_neS ?_|refine x_isi ?_|refine s_seq ?_|refine s_pass ?_|refine s_ret ?_|refine s_expr ?_|refine s_if ?_|refine s_asg ?_|refine s_raise ?_|refine s_try ?_|refine s_for ?_|refine i_l ?_|refine i_t ?_|refine it_t ?_|refine x_comp ?_|refine x_c ?_|refine d_is0 ?_|refine is_ss ?_|refine x_var (by with_unfolding_all rfl) ?_|refine g_n (by simp only [List.set_cons_zero, List.set_cons_succ]; exact rfl) ?_|refine if_t (by decide) ?_|refine if_f (by decide) ?_|dsimp only))
  refine il_l e ?_
  exact j_row e (fun b hb => by have := hr.2 b hb; omega) (by omega) (by simp [wipeD]) h
end
end MP

namespace MP
open PySem L2 TL
section
variable {E : Env} {P : Store → Prop}
theorem xt_ones {k : Int} (h1 : 1 < k) (h2 : k < 100000) : XLit E P (xBin dMulS (xC (.str "1")) (xC (.int k))) (.str (strL (List.replicate k.toNat 49))) := fun st Q R p h => by
  have e : timesS "1" k = strL (List.replicate k.toNat 49) := by rw [one_strL, times_one h1]
  refine x_bin (x_c (x_c (d_mulS (by omega) h2 (by decide +kernel) ?_ ?_)))
  · rw [e, len_strL, List.length_replicate]; omega
  · rw [e]
    exact at0 h (by simp only [Rp])
end
def jT0 : List T := [.non, .int 5, .str "", .str " ", .str "2 two 1 same", .str "2 two 1 same games ", .str " 2 two 1 same games", .str "2  two 1 same games", .str "1 two 1 same games", .str "5 two 1 same games"]
def jX0 : XA := (aCons (xC .non) (aCons (xC (.int 5)) (aCons (xC (.str "")) (aCons (xC (.str " ")) (aCons (xC (.str "2 two 1 same")) (aCons (xC (.str "2 two 1 same games ")) (aCons (xC (.str " 2 two 1 same games")) (aCons (xC (.str "2  two 1 same games")) (aCons (xC (.str "1 two 1 same games")) (aCons (xC (.str "5 two 1 same games")) aNil))))))))))
theorem jlit0 {E : Env} {P : Store → Prop} (hP : Stb P) : ALit E P jX0 jT0 := by
  unfold jX0 jT0
  ((repeat (any_goals (with_reducible first|assumption|exact xt_nil|exact xt_non|exact xt_int _|exact xt_ones (by decide) (by decide)|exact xt_str _|refine xt_cons (by assumption) ?_ ?_|refine xt_tup ?_ ?_|refine xt_lst ?_ ?_))); all_goals decide +kernel)
def jT1 : List T := [.str "2 two 0 same games", .str "2 two 4 same games", .str "2 Two 1 same games", .str "2 two 1 games same", .str "two 2 1 same games", .str "2,two,1,same,games", .str "02 two 1 same games"]
def jX1 : XA := (aCons (xC (.str "2 two 0 same games")) (aCons (xC (.str "2 two 4 same games")) (aCons (xC (.str "2 Two 1 same games")) (aCons (xC (.str "2 two 1 games same")) (aCons (xC (.str "two 2 1 same games")) (aCons (xC (.str "2,two,1,same,games")) (aCons (xC (.str "02 two 1 same games")) aNil)))))))
theorem jlit1 {E : Env} {P : Store → Prop} (hP : Stb P) : ALit E P jX1 jT1 := by
  unfold jX1 jT1
  ((repeat (any_goals (with_reducible first|assumption|exact xt_nil|exact xt_non|exact xt_int _|exact xt_ones (by decide) (by decide)|exact xt_str _|refine xt_cons (by assumption) ?_ ?_|refine xt_tup ?_ ?_|refine xt_lst ?_ ?_))); all_goals decide +kernel)
def jT2 : List T := [.str "2 two 1 same games\n", .str "2 two\t1 same games", .tup [.int 2, .str "two", .int 1, .str "same", .str "games"], .lst [.str "2 two 1 same games"], .str "2 two 1 same games 0", .str "2 two 1 shorter games", .str "2 2 1 same games", .str (strL (List.replicate (Int.toNat 4000) 49))]
def jX2 : XA := (aCons (xC (.str "2 two 1 same games\n")) (aCons (xC (.str "2 two\t1 same games")) (aCons (xTup (aCons (xC (.int 2)) (aCons (xC (.str "two")) (aCons (xC (.int 1)) (aCons (xC (.str "same")) (aCons (xC (.str "games")) aNil)))))) (aCons (xLst (aCons (xC (.str "2 two 1 same games")) aNil)) (aCons (xC (.str "2 two 1 same games 0")) (aCons (xC (.str "2 two 1 shorter games")) (aCons (xC (.str "2 2 1 same games")) (aCons (xBin dMulS (xC (.str "1")) (xC (.int 4000))) aNil))))))))
theorem jlit2 {E : Env} {P : Store → Prop} (hP : Stb P) : ALit E P jX2 jT2 := by
  unfold jX2 jT2
  ((repeat (any_goals (with_reducible first|assumption|exact xt_nil|exact xt_non|exact xt_int _|exact xt_ones (by decide) (by decide)|exact xt_str _|refine xt_cons (by assumption) ?_ ?_|refine xt_tup ?_ ?_|refine xt_lst ?_ ?_))); all_goals decide +kernel)
def jT3 : List T := [.non, .int 7, .str " ", .str "2", .str "01 1", .str "0,1", .str "x", .str "1\n", .lst [.str "1"], .str (strL (List.replicate (Int.toNat 61) 49)), .str "-1", .str "10 ", .str " 01", .str "1a"]
def jX3 : XA := (aCons (xC .non) (aCons (xC (.int 7)) (aCons (xC (.str " ")) (aCons (xC (.str "2")) (aCons (xC (.str "01 1")) (aCons (xC (.str "0,1")) (aCons (xC (.str "x")) (aCons (xC (.str "1\n")) (aCons (xLst (aCons (xC (.str "1")) aNil)) (aCons (xBin dMulS (xC (.str "1")) (xC (.int 61))) (aCons (xC (.str "-1")) (aCons (xC (.str "10 ")) (aCons (xC (.str " 01")) (aCons (xC (.str "1a")) aNil))))))))))))))
theorem jlit3 {E : Env} {P : Store → Prop} (hP : Stb P) : ALit E P jX3 jT3 := by
  unfold jX3 jT3
  ((repeat (any_goals (with_reducible first|assumption|exact xt_nil|exact xt_non|exact xt_int _|exact xt_ones (by decide) (by decide)|exact xt_str _|refine xt_cons (by assumption) ?_ ?_|refine xt_tup ?_ ?_|refine xt_lst ?_ ?_))); all_goals decide +kernel)
def jC : XS := (sRet (xAnd (xBin dEq (xComp (iL (xVar 1)) [2] (gN 2) tYesX (xCall F_law_parsed (aCons (xC (.int 1)) (aCons (xVar 2) aNil)))) (xBin dMul (xLst (aCons (xC (.str "text")) aNil)) (xC (.int 14)))) (xAnd (xBin dEq (xCall F_law_parsed (aCons (xC (.int 1)) (aCons (xC (.str "")) aNil))) (xLst aNil)) (xBin dEq (xCall F_law_parsed (aCons (xC (.int 1)) (aCons (xBin dMulS (xC (.str "1")) (xC (.int 60))) aNil))) (xBin dMul (xLst (aCons (xC (.int 1)) aNil)) (xC (.int 60)))))))
def jA : XS := (sSeq (sIf (xB (xBin dNe (xComp (iL (xVar 0)) [2] (gN 2) tYesX (xCall F_law_parsed (aCons (xC (.int 0)) (aCons (xVar 2) aNil)))) (xBin dMul (xLst (aCons (xC (.str "text")) aNil)) (xC (.int 25))))) (sRet (xC (.bl false))) sPass) (sSeq (sSet 1 (xLst jX3)) jC))
theorem b_rej_eq : b_law_rejected = (sSeq (sSet 0 (xLst jX0)) (sSeq (sSet 0 (xBin dAdd (xVar 0) (xLst jX1))) (sSeq (sSet 0 (xBin dAdd (xVar 0) (xLst jX2))) jA))) := by
  unfold b_law_rejected jA jC jX0 jX1 jX2 jX3
  exact rfl

/-! ### what is rejected -/
def rej0T (t : T) : Bool := match t with
  | .str z => noR (tl z)
  | _ => true
def rej1T (t : T) : Bool := match t with
  | .str z => decide (z.length ≤ 100000) && (parseW (tl z)).isNone
  | _ => true
theorem rj0 : jT0.all rej0T = true := by decide +kernel
theorem rj1 : jT1.all rej0T = true := by decide +kernel
theorem rj2 : jT2.all rej0T = true := by decide +kernel
theorem rj3 : jT3.all rej1T = true := by decide +kernel
theorem rep_int (i : Int) (m : Nat) : (List.replicate m [D.int i]).flatten = (List.replicate m i).map D.int := by
  induction m with
  | zero => rfl
  | succ m ih => rw [List.replicate_succ, List.flatten_cons, ih, List.replicate_succ, List.map_cons]; rfl
section
variable {st : Store} {Q : D → Store → Prop} {R : XR} {t : T} {d : D} {n m : Nat}
theorem rej0_parsed (hr : Rp st t d) (h : rej0T t = true) (hq : ∀ st', Sup st st' → Q (.str "text") st') : F_law_parsed [.int 0, d] st Q R := by
  cases t with
  | str z =>
    simp only [Rp] at hr
    subst hr
    refine w_law_parsed0 (fun R st' hv e _ => ?_) (fun _ st' b => hq st' b)
    have := List.all_eq_true.mp (show rulesL.all (fun R => decide (fmtR R ≠ tl z)) = true from h) R (rules_mem.mpr hv)
    exact absurd e (of_decide_eq_true this)
  | _ => exact n_law_parsed0 hr (by simp [kindT]) hq
theorem rej1_parsed (hr : Rp st t d) (h : rej1T t = true) (hq : ∀ st', Sup st st' → Q (.str "text") st') : F_law_parsed [.int 1, d] st Q R := by
  cases t with
  | str z =>
    simp only [Rp] at hr
    subst hr
    unfold rej1T at h
    rw [Bool.and_eq_true] at h
    refine w_law_parsed1 (of_decide_eq_true h.1) (fun bs m st' a => ?_) (fun _ st' b => hq st' b)
    have := h.2
    rw [a] at this
    cases this
  | _ => exact n_law_parsed1 hr (by simp [kindT]) hq
/-- [_law_parsed(kind, one) for one in ts], all rejected -/
theorem c_rej2 {ts : List T} {ds : List D} {σ : Env} {K : D → Store → Prop} {F : XF} {w : Str} {i : Nat} {k : Int} (e : itemsOf st n = some ds) (rs : RpL st ts ds) (hl : ts.length ≤ 1000) (hi : i < σ.length)
    (hf : ∀ (t : T) (d : D) (st2 : Store) (Q : D → Store → Prop), t ∈ ts → Rp st2 t d → (∀ st', Sup st2 st' → Q (.str w) st') → F [.int k, d] st2 Q botR) (h : ∀ gb, K (.ref st.length) (st ++ O.lst ((List.replicate ts.length w).map D.str) :: gb)) :
    compW (.lst n) (gN i) tYesX (xCall F (aCons (xC (.int k)) (aCons (xVar i) aNil))) σ st.length st K := by
  have hd := rs.length
  refine c_inv ts.length (fun k => ds.getD k .non) (fun _ => .str w) (by omega) (fun k o gb hk => ?_) (fun o gb => ?_) (fun k gb K hk hK => ?_) (fun gb2 => ?_)
  · exact item_D (items_old e) (by omega)
  · have := item_end (items_old (gs := o :: gb) e)
    rwa [hd] at this
  · refine g_n rfl (x_call (a_cons (x_c (a_cons (x_var (List.getElem?_set_self hi) (a_nil ?_))))))
    have hm : ts.getD k .non ∈ ts := by
      rw [List.getD_eq_getElem?_getD, List.getElem?_eq_getElem hk]
      exact List.getElem_mem hk
    refine hf _ _ _ _ hm ((rs.getD hk).app _) fun st' k' => ?_
    obtain ⟨gb3, e3⟩ := k'.app
    rw [e3]
    simp only [List.append_assoc, List.cons_append]
    exact hK _
  · rw [range_str]
    exact h gb2
theorem w_law_rejected (h : ∀ st', Sup st st' → Q (.bl true) st') : F_law_rejected [] st Q R := by
  refine def_in rfl (by simp only [List.map_cons, List.map_nil, List.cons_append, List.nil_append, Nat.reduceSub, List.replicate_succ, List.replicate_zero, List.append_nil, List.length_cons, List.length_nil]; exact rfl) ?_
  rw [b_rej_eq]
  refine s_seq (s_asg (xt_lst (jlit0 (P := fun _ => True) (fun _ _ _ => trivial)) (by decide) st _ _ trivial fun d gb r => g_n rfl ?_))
  simp only [List.set_cons_zero, List.set_cons_succ]
  have s2 : Sup st (st ++ gb) := Sup.push _
  generalize st ++ gb = st2 at r s2 ⊢
  have hP : Stb (fun s => Rp s (.lst jT0) d) := fun s gb p => p.app gb
  refine s_seq (s_asg (xt_addL (P := fun s => Rp s (.lst jT0) d) hP (xt_var (d := d) (by rfl) fun s p => p) (xt_lst (jlit1 hP) (by decide)) (by decide) st2 _ _ r fun d1 gb1 r1 => g_n rfl ?_))
  simp only [List.set_cons_zero, List.set_cons_succ]
  have s3 := s2.trans (Sup.push gb1)
  generalize st2 ++ gb1 = st3 at r1 s3 ⊢
  have hP1 : Stb (fun s => Rp s (.lst (jT0 ++ jT1)) d1) := fun s gb p => p.app gb
  refine s_seq (s_asg (xt_addL (P := fun s => Rp s (.lst (jT0 ++ jT1)) d1) hP1 (xt_var (d := d1) (by rfl) fun s p => p) (xt_lst (jlit2 hP1) (by decide)) (by decide) st3 _ _ r1 fun d2 gb2 r2 => g_n rfl ?_))
  simp only [List.set_cons_zero, List.set_cons_succ]
  have s4 := s3.trans (Sup.push gb2)
  generalize st3 ++ gb2 = st4 at r2 s4 ⊢
  simp only [Rp] at r2
  obtain ⟨n, ds, rfl, e4, rs⟩ := r2
  unfold jA
  (repeat (with_reducible first|refine x_bin ?_|refine x_lst ?_|refine a_nil ?_|refine a_cons ?_|refine x_call ?_|refine x_and ?_|refine t_b ?_|refine b_b ?_|refine s_seq ?_|refine s_pass ?_|refine s_ret ?_|refine s_if ?_|refine s_asg ?_|refine i_l ?_|refine x_comp ?_|refine x_c ?_|refine x_var (by with_unfolding_all rfl) ?_|refine if_f (by decide) ?_|refine and_bt (by decide) ?_|refine And.intro (show List.length _ ≤ 16777216 by simp) ?_|dsimp only))
  refine il_l (items_of e4) ?_
  refine c_rej2 (w := "text") (items_of e4) rs (by decide) (by simp [wipeD]) (fun t d st Q ht hr hq => rej0_parsed hr ?_ hq) fun gb4 => ?_
  · rcases List.mem_append.mp ht with z | z
    · rcases List.mem_append.mp z with z | z
      · exact all_mem rj0 z
      · exact all_mem rj1 z
    · exact all_mem rj2 z
  have l25 : (jT0 ++ jT1 ++ jT2).length = 25 := by decide
  rw [l25]
  have s5 := s4.trans (Sup.push (O.lst ((List.replicate 25 ("text" : Str)).map D.str) :: gb4))
  have g5 : itemsOf (st4 ++ O.lst ((List.replicate 25 ("text" : Str)).map D.str) :: gb4) st4.length = some ((List.replicate 25 ("text" : Str)).map D.str) := items_hd _ _ _
  generalize st4 ++ O.lst ((List.replicate 25 ("text" : Str)).map D.str) :: gb4 = st5 at s5 g5 ⊢
  generalize st4.length = n5 at g5 ⊢
  (repeat (with_reducible first|refine x_bin ?_|refine x_lst ?_|refine a_nil ?_|refine a_cons ?_|refine x_call ?_|refine x_and ?_|refine t_b ?_|refine b_b ?_|refine s_seq ?_|refine s_pass ?_|refine s_ret ?_|refine s_if ?_|refine s_asg ?_|refine i_l ?_|refine x_comp ?_|refine x_c ?_|refine x_var (by with_unfolding_all rfl) ?_|refine if_f (by decide) ?_|refine and_bt (by decide) ?_|refine And.intro (show List.length _ ≤ 16777216 by simp) ?_|dsimp only))
  refine d_mulL (get_hd _ _ _) (by decide) (by decide) (by decide) ?_
  rw [show Int.toNat 25 = 25 from rfl, rep_str]
  refine ne_strs (ns := List.replicate 25 "text") (by decide +kernel) (items_old (items_old g5)) (items_hd _ _ _) ?_
  (repeat (with_reducible first|refine x_bin ?_|refine x_lst ?_|refine a_nil ?_|refine a_cons ?_|refine x_call ?_|refine x_and ?_|refine t_b ?_|refine b_b ?_|refine s_seq ?_|refine s_pass ?_|refine s_ret ?_|refine s_if ?_|refine s_asg ?_|refine i_l ?_|refine x_comp ?_|refine x_c ?_|refine x_var (by with_unfolding_all rfl) ?_|refine if_f (by decide) ?_|refine and_bt (by decide) ?_|refine And.intro (show List.length _ ≤ 16777216 by simp) ?_|dsimp only))
  have s6 := s5.trans ((Sup.push [O.lst [D.str "text"]]).trans (Sup.push [O.lst ((List.replicate 25 ("text" : Str)).map D.str)]))
  generalize st5 ++ [O.lst [D.str "text"]] ++ [O.lst ((List.replicate 25 ("text" : Str)).map D.str)] = st6 at s6 ⊢
  refine jlit3 (P := fun _ => True) (fun _ _ _ => trivial) st6 _ _ trivial fun ds gb rs => ⟨by rw [rs.length]; decide, g_n rfl ?_⟩
  simp only [List.set_cons_zero, List.set_cons_succ]
  have rs := rs.app [O.lst ds]
  have e7 : ((st6 ++ gb) ++ [O.lst ds])[(st6 ++ gb).length]? = some (.lst ds) := get_hd _ _ _
  have s7 := (s6.trans (Sup.push gb)).trans (Sup.push [O.lst ds])
  generalize (st6 ++ gb) ++ [O.lst ds] = st7 at rs e7 s7 ⊢
  generalize (st6 ++ gb).length = n at e7 ⊢
  unfold jC
  (repeat (with_reducible first|refine x_bin ?_|refine x_lst ?_|refine a_nil ?_|refine a_cons ?_|refine x_call ?_|refine x_and ?_|refine t_b ?_|refine b_b ?_|refine s_seq ?_|refine s_pass ?_|refine s_ret ?_|refine s_if ?_|refine s_asg ?_|refine i_l ?_|refine x_comp ?_|refine x_c ?_|refine x_var (by with_unfolding_all rfl) ?_|refine if_f (by decide) ?_|refine and_bt (by decide) ?_|refine And.intro (show List.length _ ≤ 16777216 by simp) ?_|dsimp only))
  refine il_l (items_of e7) ?_
  refine c_rej2 (w := "text") (items_of e7) rs (by decide) (by simp [wipeD]) (fun t d st Q ht hr hq => rej1_parsed hr (all_mem rj3 ht) hq) fun gb4 => ?_
  have l14 : jT3.length = 14 := by decide
  rw [l14]
  have s8 := s7.trans (Sup.push (O.lst ((List.replicate 14 ("text" : Str)).map D.str) :: gb4))
  have g8 : itemsOf (st7 ++ O.lst ((List.replicate 14 ("text" : Str)).map D.str) :: gb4) st7.length = some ((List.replicate 14 ("text" : Str)).map D.str) := items_hd _ _ _
  generalize st7 ++ O.lst ((List.replicate 14 ("text" : Str)).map D.str) :: gb4 = st8 at s8 g8 ⊢
  generalize st7.length = n8 at g8 ⊢
  (repeat (with_reducible first|refine x_bin ?_|refine x_lst ?_|refine a_nil ?_|refine a_cons ?_|refine x_call ?_|refine x_and ?_|refine t_b ?_|refine b_b ?_|refine s_seq ?_|refine s_pass ?_|refine s_ret ?_|refine s_if ?_|refine s_asg ?_|refine i_l ?_|refine x_comp ?_|refine x_c ?_|refine x_var (by with_unfolding_all rfl) ?_|refine if_f (by decide) ?_|refine and_bt (by decide) ?_|refine And.intro (show List.length _ ≤ 16777216 by simp) ?_|dsimp only))
  refine d_mulL (get_hd _ _ _) (by decide) (by decide) (by decide) ?_
  rw [show Int.toNat 14 = 14 from rfl, rep_str]
  refine eq_strs (ns := List.replicate 14 "text") (by decide +kernel) (items_old (items_old g8)) (items_hd _ _ _) ?_
  (repeat (with_reducible first|refine x_bin ?_|refine x_lst ?_|refine a_nil ?_|refine a_cons ?_|refine x_call ?_|refine x_and ?_|refine t_b ?_|refine b_b ?_|refine s_seq ?_|refine s_pass ?_|refine s_ret ?_|refine s_if ?_|refine s_asg ?_|refine i_l ?_|refine x_comp ?_|refine x_c ?_|refine x_var (by with_unfolding_all rfl) ?_|refine if_f (by decide) ?_|refine and_bt (by decide) ?_|refine And.intro (show List.length _ ≤ 16777216 by simp) ?_|dsimp only))
  have s9 := s8.trans ((Sup.push [O.lst [D.str "text"]]).trans (Sup.push [O.lst ((List.replicate 14 ("text" : Str)).map D.str)]))
  generalize st8 ++ [O.lst [D.str "text"]] ++ [O.lst ((List.replicate 14 ("text" : Str)).map D.str)] = st9 at s9 ⊢
  have p0 : parseW (tl ("" : Str)) = some [] := by decide +kernel
  refine w_law_parsed1 (by decide +kernel) (fun bs m st10 a b c g => ?_) (fun a => absurd p0 (by rw [a]; exact fun z => by cases z))
  rw [p0] at a
  cases a
  have s10 := s9.trans b
  (repeat (with_reducible first|refine x_bin ?_|refine x_lst ?_|refine a_nil ?_|refine a_cons ?_|refine x_call ?_|refine x_and ?_|refine t_b ?_|refine b_b ?_|refine s_seq ?_|refine s_pass ?_|refine s_ret ?_|refine s_if ?_|refine s_asg ?_|refine i_l ?_|refine x_comp ?_|refine x_c ?_|refine x_var (by with_unfolding_all rfl) ?_|refine if_f (by decide) ?_|refine and_bt (by decide) ?_|refine And.intro (show List.length _ ≤ 16777216 by simp) ?_|dsimp only))
  refine eq_ints (ls := []) (items_old (items_of g)) (items_hd _ _ _) ?_
  (repeat (with_reducible first|refine x_bin ?_|refine x_lst ?_|refine a_nil ?_|refine a_cons ?_|refine x_call ?_|refine x_and ?_|refine t_b ?_|refine b_b ?_|refine s_seq ?_|refine s_pass ?_|refine s_ret ?_|refine s_if ?_|refine s_asg ?_|refine i_l ?_|refine x_comp ?_|refine x_c ?_|refine x_var (by with_unfolding_all rfl) ?_|refine if_f (by decide) ?_|refine and_bt (by decide) ?_|refine And.intro (show List.length _ ≤ 16777216 by simp) ?_|dsimp only))
  have e60 : timesS "1" 60 = strL (fmtW (List.replicate 60 1)) := by
    rw [one_strL, times_one (by decide)]
    decide +kernel
  refine d_mulS (by decide) (by decide) (by decide +kernel) (by rw [e60, len_strL, fmtW_len, List.length_replicate]; decide) ?_
  rw [e60]
  have p60 : parseW (fmtW (List.replicate 60 1)) = some (List.replicate 60 1) := parseW_fmt ⟨by rw [List.length_replicate]; decide, fun b hb => .inr (List.mem_replicate.mp hb).2⟩
  refine w_law_parsed1 (by rw [len_strL, fmtW_len, List.length_replicate]; decide) (fun bs m st11 a b c g => ?_) (fun a => absurd p60 (by rw [tl_strL] at a; rw [a]; exact fun z => by cases z))
  rw [tl_strL, p60] at a
  cases a
  have s11 := (s10.trans (Sup.push _)).trans b
  (repeat (with_reducible first|refine x_bin ?_|refine x_lst ?_|refine a_nil ?_|refine a_cons ?_|refine x_call ?_|refine x_and ?_|refine t_b ?_|refine b_b ?_|refine s_seq ?_|refine s_pass ?_|refine s_ret ?_|refine s_if ?_|refine s_asg ?_|refine i_l ?_|refine x_comp ?_|refine x_c ?_|refine x_var (by with_unfolding_all rfl) ?_|refine if_f (by decide) ?_|refine and_bt (by decide) ?_|refine And.intro (show List.length _ ≤ 16777216 by simp) ?_|dsimp only))
  refine d_mulL (get_hd _ _ _) (by decide) (by decide) (by decide) ?_
  rw [show Int.toNat 60 = 60 from rfl, rep_int]
  refine eq_ints (ls := List.replicate 60 1) (items_old (items_old (items_of g))) (items_hd _ _ _) ?_
  exact h _ ((s11.trans (Sup.push _)).trans (Sup.push _))
end
end MP

namespace MP
open PySem L2 TL
def zzS : XS := (sSet 12 (xBin dAdd (xVar 12) (xComp (iT (xTup (aCons (xC (.str "games")) (aCons (xC (.str "twos")) (aCons (xC (.str "winner")) (aCons (xC (.str "only")) aNil)))))) [17] (gN 17) tYesX (xTup (aCons (xVar 13) (aCons (xVar 14) (aCons (xVar 15) (aCons (xVar 16) (aCons (xVar 17) aNil)))))))))
def zzL : XS := (sFor (iT (xTup (aCons (xC (.int 1)) (aCons (xC (.int 2)) (aCons (xC (.int 3)) aNil))))) (gN 15) (sFor (iT (xTup (aCons (xC (.str "same")) (aCons (xC (.str "longer")) aNil)))) (gN 16) zzS))
def zzR : XS := (sRet (xAnd (xCall F_law_rejected aNil) (xAnd (xBin dEq (xCall F_all_rules aNil) (xVar 12)) (xBin dEq (xFun fLen (aCons (xVar 12) aNil)) (xC (.int 216))))))
def zzE : XS := (sSeq (sSet 12 (xLst aNil)) (sSeq (sFor (iT (xTup (aCons (xC (.int 2)) (aCons (xC (.int 3)) (aCons (xC (.int 4)) aNil))))) (gN 13) (sFor (iT (xTup (aCons (xC (.str "one")) (aCons (xC (.str "two")) (aCons (xC (.str "cap")) aNil))))) (gN 14) zzL)) zzR))
def zzF : XS := (sSeq (sIf (tAndX (xB (xBin dNe (xVar 11) (xC (.str "text")))) (xB (xBin dNe (xCall F_law_words (aCons (xVar 4) (aCons (xVar 11) aNil))) (xVar 10)))) (sRet (xC (.bl false))) sPass) (sIf (tAndX (xB (xBin dNe (xVar 11) (xC (.str "text")))) (xB (xBin (dIs true) (xIf (xB (xBin dEq (xVar 4) (xC (.int 0)))) (xCall F_is_rule (aCons (xVar 11) aNil)) (xCall F_is_row (aCons (xVar 11) aNil))) (xC (.bl true))))) (sRet (xC (.bl false))) sPass))
def zzM : XS := (sSeq (sSet 4 (xCall F_law_draw (aCons (xVar 1) (aCons (xC (.int 2)) aNil)))) (sSeq (sSet 7 (xBin dIdx (xVar 3) (xVar 4))) (sSeq (sSet 8 (xCall F_law_draw (aCons (xVar 1) (aCons (xBin dAdd (xFun fLenS (aCons (xVar 7) aNil)) (xC (.int 1))) aNil)))) (sSeq (sSet 9 (xCall F_law_pick (aCons (xVar 1) (aCons (xVar 5) aNil)))) (sSeq (sSet 10 (xCall F_law_pick (aCons (xVar 1) (aCons (xLst (aCons (xBin dAdd (xBin dAdd (xSlS (xVar 7) oNone (oSome (xVar 8))) (xVar 9)) (xSlS (xVar 7) (oSome (xBin dAdd (xVar 8) (xC (.int 1)))) oNone)) (aCons (xBin dAdd (xBin dAdd (xSlS (xVar 7) oNone (oSome (xVar 8))) (xVar 9)) (xSlS (xVar 7) (oSome (xVar 8)) oNone)) (aCons (xBin dAdd (xBin dAdd (xBin dAdd (xSlS (xVar 7) oNone (oSome (xVar 8))) (xC (.str " "))) (xVar 9)) (xSlS (xVar 7) (oSome (xVar 8)) oNone)) aNil)))) aNil)))) (sSeq (sSet 11 (xCall F_law_parsed (aCons (xVar 4) (aCons (xVar 10) aNil)))) zzF))))))
def zzK : XS := (sIf (tOrX (xB (xBin dNe (xBin dIdx (xVar 3) (xVar 4)) (xCall F_law_words (aCons (xVar 4) (aCons (xBin dIdx (xVar 2) (xVar 4)) aNil))))) (xB (xBin dNe (xCall F_law_parsed (aCons (xVar 4) (aCons (xBin dIdx (xVar 3) (xVar 4)) aNil))) (xBin dIdx (xVar 2) (xVar 4))))) (sRet (xC (.bl false))) sPass)
def zzP : XS := (sSeq (sSet 5 (xLst (aCons (xC (.str "0")) (aCons (xC (.str "1")) (aCons (xC (.str "2")) (aCons (xC (.str "3")) (aCons (xC (.str "4")) (aCons (xC (.str " ")) (aCons (xC (.str "two")) (aCons (xC (.str "cap")) (aCons (xC (.str "only")) (aCons (xC (.str "x")) (aCons (xC (.str "")) (aCons (xC (.str "-")) aNil)))))))))))))) (sSeq (sFor (iR1 (aCons (xC (.int 16)) aNil)) (gN 6) zzM) zzE))
theorem b_law_eq : b_law = (sSeq (sSet 1 (xCall F_law_start (aCons (xVar 0) aNil))) (sSeq (sSet 2 (xLst (aCons (xCall F_law_rule (aCons (xVar 1) aNil)) (aCons (xCall F_law_row (aCons (xVar 1) (aCons (xC (.int 20)) aNil))) aNil)))) (sSeq (sSet 3 (xLst (aCons (xCall F_format_rule (aCons (xBin dIdx (xVar 2) (xC (.int 0))) aNil)) (aCons (xCall F_format_row (aCons (xBin dIdx (xVar 2) (xC (.int 1))) aNil)) aNil)))) (sSeq (sFor (iR1 (aCons (xC (.int 2)) aNil)) (gN 4) zzK) zzP)))) := by
  unfold b_law zzP zzK zzM zzF zzE zzR zzL zzS
  exact rfl

theorem Dr.sup {st st' : Store} {nD nN : Nat} (d : Dr st nD nN) (k : Sup st st') : Dr st' nD nN := by
  obtain ⟨h1, l, c, h2, h3, h4, h5⟩ := d
  exact ⟨h1, l, c, k.get h2, k.get h3, h4, h5⟩
theorem app_len (a b : Str) : (a ++ b).length = a.length + b.length := by rw [len_tl, tl_append, List.length_append, ← len_tl, ← len_tl]
/-! ### rules as plain data -/
def pR (R : Rl) : PyData := .tuple [.int R.p, .str R.l, .int R.G, .str R.d, .str R.s]
theorem toP_rule {st : Store} {R : Rl} {k : Nat} : toP (k + 2) st (dR R) = some (pR R) := rfl
theorem shaped_rule {R : Rl} (hv : R.Ok) : SeqAt.shaped (pR R) = true := by
  have h1 : PyData.strOk R.l = true := by rcases hv.l with e | e | e <;> rw [e] <;> decide +kernel
  have h2 : PyData.strOk R.d = true := by rcases hv.d with e | e <;> rw [e] <;> decide +kernel
  have h3 : PyData.strOk R.s = true := by rcases hv.s with e | e | e | e <;> rw [e] <;> decide +kernel
  unfold SeqAt.shaped pR
  rw [show (PyData.tuple [.int R.p, .str R.l, .int R.G, .str R.d, .str R.s]).canLay0 = true by simp only [PyData.canLay0, PyData.canLayAll0, h1, h2, h3, Bool.and_self], Bool.true_and, decide_eq_true_eq]
  show 1 ≤ _
  decide
theorem toP_rules {st : Store} : ∀ (l : List Rl) {k : Nat}, optAll (toP (k + 2) st) (l.map dR) = some (l.map pR)
  | [], _ => rfl
  | R :: l, k => by rw [List.map_cons, optAll, toP_rule, toP_rules l]; rfl
theorem shaped_rules : SeqAt.shaped (.list (rulesL.map pR)) = true := by decide +kernel
section
variable {st : Store} {Q : D → Store → Prop} {Rx : XR} {R R' : Rl} {n m : Nat} {bs : List Int} {z : Str}
theorem toP_all (e : itemsOf st n = some (rulesL.map dR)) : toP 30 st (.ref n) = some (.list (rulesL.map pR)) := by
  rw [show toP 30 st (.ref n) = (match itemsOf st n with
    | some xs => (optAll (toP 29 st) xs).map .list
    | none => none) from rfl, e]
  show Option.map PyData.list (optAll (toP (27 + 2) st) (rulesL.map dR)) = _
  rw [toP_rules]
  rfl
theorem eq_all (e1 : itemsOf st n = some (rulesL.map dR)) (e2 : itemsOf st m = some (rulesL.map dR)) (h : Q (.bl true) st) : dEqB false (.ref n) (.ref m) st Q := eq_same (toP_all e1) (toP_all e2) shaped_rules (fun k l z => by cases z.1) (fun k l z => by cases z.1) h
theorem ne_rule (hv : R.Ok) (h : Q (.bl false) st) : dEqB true (dR R) (dR R) st Q := ne_same (toP_rule (k := 28)) (toP_rule (k := 28)) (shaped_rule hv) (fun k l z => by cases z.1) (fun k l z => by cases z.1) h
theorem ne_rt (hv : R.Ok) (h : Q (.bl true) st) : dEqB true (dR R) (.str "text") st Q := d_eqP (toP_rule (k := 28)) (v := .str "text") rfl (shaped_rule hv) (by decide +kernel) h (fun k l z => by cases z.1) (fun k l z => by cases z.1)
theorem ne_lt (e : itemsOf st n = some (bs.map D.int)) (h : Q (.bl true) st) : dEqB true (.ref n) (.str "text") st Q := d_eqP (toP_row e) (v := .str "text") rfl (shaped_ints bs) (by decide +kernel) h (fun k l z => by cases z.1) (fun k l z => by cases z.1)
/-! ### the end of a turn -/
theorem fin_rule {D0 : EI} {v0 v1 v2 v3 v5 v6 v7 v8 v9 v12 v13 v14 v15 v16 v17 : Option D} (hv : R.Ok) (hz : fmtR R = tl z) (h : ∀ st', Sup st st' → D0.nx [v0, v1, v2, v3, some (.int 0), v5, v6, v7, v8, v9, some (.str z), some (dR R), v12, v13, v14, v15, v16, v17] st') :
    zzF [v0, v1, v2, v3, some (.int 0), v5, v6, v7, v8, v9, some (.str z), some (dR R), v12, v13, v14, v15, v16, v17] st D0 := by
  unfold zzF
  (repeat (with_reducible first|refine x_slS ?_|refine x_bin ?_|refine x_lst ?_|refine a_nil ?_|refine a_cons ?_|refine x_call ?_|refine x_fun ?_|refine o_none ?_|refine o_some ?_|refine o_int ?_|refine x_if ?_|refine t_b ?_|refine b_b ?_|refine t_and ?_|refine d_addI ?_|refine d_eqI ?_|refine d_neS ?_|refine s_seq ?_|refine s_pass ?_|refine s_if ?_|refine s_asg ?_|refine x_c ?_|refine d_isB ?_|refine x_var (by with_unfolding_all rfl) ?_|refine g_n (by simp only [List.set_cons_zero, List.set_cons_succ]; exact rfl) ?_|refine if_t (by decide) ?_|refine if_f (by decide) ?_|refine And.intro (show List.length _ ≤ 16777216 by simp) ?_|dsimp only))
  refine ne_rt hv ?_
  (repeat (with_reducible first|refine x_slS ?_|refine x_bin ?_|refine x_lst ?_|refine a_nil ?_|refine a_cons ?_|refine x_call ?_|refine x_fun ?_|refine o_none ?_|refine o_some ?_|refine o_int ?_|refine x_if ?_|refine t_b ?_|refine b_b ?_|refine t_and ?_|refine d_addI ?_|refine d_eqI ?_|refine d_neS ?_|refine s_seq ?_|refine s_pass ?_|refine s_if ?_|refine s_asg ?_|refine x_c ?_|refine d_isB ?_|refine x_var (by with_unfolding_all rfl) ?_|refine g_n (by simp only [List.set_cons_zero, List.set_cons_succ]; exact rfl) ?_|refine if_t (by decide) ?_|refine if_f (by decide) ?_|refine And.intro (show List.length _ ≤ 16777216 by simp) ?_|dsimp only))
  refine w_law_words0 hv fun gb => ?_
  rw [hz, str_tl]
  (repeat (with_reducible first|refine x_slS ?_|refine x_bin ?_|refine x_lst ?_|refine a_nil ?_|refine a_cons ?_|refine x_call ?_|refine x_fun ?_|refine o_none ?_|refine o_some ?_|refine o_int ?_|refine x_if ?_|refine t_b ?_|refine b_b ?_|refine t_and ?_|refine d_addI ?_|refine d_eqI ?_|refine d_neS ?_|refine s_seq ?_|refine s_pass ?_|refine s_if ?_|refine s_asg ?_|refine x_c ?_|refine d_isB ?_|refine x_var (by with_unfolding_all rfl) ?_|refine g_n (by simp only [List.set_cons_zero, List.set_cons_succ]; exact rfl) ?_|refine if_t (by decide) ?_|refine if_f (by decide) ?_|refine And.intro (show List.length _ ≤ 16777216 by simp) ?_|dsimp only))
  refine if_f (by simp) ?_
  (repeat (with_reducible first|refine x_slS ?_|refine x_bin ?_|refine x_lst ?_|refine a_nil ?_|refine a_cons ?_|refine x_call ?_|refine x_fun ?_|refine o_none ?_|refine o_some ?_|refine o_int ?_|refine x_if ?_|refine t_b ?_|refine b_b ?_|refine t_and ?_|refine d_addI ?_|refine d_eqI ?_|refine d_neS ?_|refine s_seq ?_|refine s_pass ?_|refine s_if ?_|refine s_asg ?_|refine x_c ?_|refine d_isB ?_|refine x_var (by with_unfolding_all rfl) ?_|refine g_n (by simp only [List.set_cons_zero, List.set_cons_succ]; exact rfl) ?_|refine if_t (by decide) ?_|refine if_f (by decide) ?_|refine And.intro (show List.length _ ≤ 16777216 by simp) ?_|dsimp only))
  refine ne_rt hv ?_
  (repeat (with_reducible first|refine x_slS ?_|refine x_bin ?_|refine x_lst ?_|refine a_nil ?_|refine a_cons ?_|refine x_call ?_|refine x_fun ?_|refine o_none ?_|refine o_some ?_|refine o_int ?_|refine x_if ?_|refine t_b ?_|refine b_b ?_|refine t_and ?_|refine d_addI ?_|refine d_eqI ?_|refine d_neS ?_|refine s_seq ?_|refine s_pass ?_|refine s_if ?_|refine s_asg ?_|refine x_c ?_|refine d_isB ?_|refine x_var (by with_unfolding_all rfl) ?_|refine g_n (by simp only [List.set_cons_zero, List.set_cons_succ]; exact rfl) ?_|refine if_t (by decide) ?_|refine if_f (by decide) ?_|refine And.intro (show List.length _ ≤ 16777216 by simp) ?_|dsimp only))
  refine w_is_rule hv ?_
  (repeat (with_reducible first|refine x_slS ?_|refine x_bin ?_|refine x_lst ?_|refine a_nil ?_|refine a_cons ?_|refine x_call ?_|refine x_fun ?_|refine o_none ?_|refine o_some ?_|refine o_int ?_|refine x_if ?_|refine t_b ?_|refine b_b ?_|refine t_and ?_|refine d_addI ?_|refine d_eqI ?_|refine d_neS ?_|refine s_seq ?_|refine s_pass ?_|refine s_if ?_|refine s_asg ?_|refine x_c ?_|refine d_isB ?_|refine x_var (by with_unfolding_all rfl) ?_|refine g_n (by simp only [List.set_cons_zero, List.set_cons_succ]; exact rfl) ?_|refine if_t (by decide) ?_|refine if_f (by decide) ?_|refine And.intro (show List.length _ ≤ 16777216 by simp) ?_|dsimp only))
  exact h _ (Sup.push gb)
theorem fin_row {D0 : EI} {v0 v1 v2 v3 v5 v6 v7 v8 v9 v12 v13 v14 v15 v16 v17 : Option D} (hr : RowOk bs) (e : itemsOf st m = some (bs.map D.int)) (hz : fmtW bs = tl z) (h : ∀ st', Sup st st' → D0.nx [v0, v1, v2, v3, some (.int 1), v5, v6, v7, v8, v9, some (.str z), some (.ref m), v12, v13, v14, v15, v16, v17] st') :
    zzF [v0, v1, v2, v3, some (.int 1), v5, v6, v7, v8, v9, some (.str z), some (.ref m), v12, v13, v14, v15, v16, v17] st D0 := by
  unfold zzF
  (repeat (with_reducible first|refine x_slS ?_|refine x_bin ?_|refine x_lst ?_|refine a_nil ?_|refine a_cons ?_|refine x_call ?_|refine x_fun ?_|refine o_none ?_|refine o_some ?_|refine o_int ?_|refine x_if ?_|refine t_b ?_|refine b_b ?_|refine t_and ?_|refine d_addI ?_|refine d_eqI ?_|refine d_neS ?_|refine s_seq ?_|refine s_pass ?_|refine s_if ?_|refine s_asg ?_|refine x_c ?_|refine d_isB ?_|refine x_var (by with_unfolding_all rfl) ?_|refine g_n (by simp only [List.set_cons_zero, List.set_cons_succ]; exact rfl) ?_|refine if_t (by decide) ?_|refine if_f (by decide) ?_|refine And.intro (show List.length _ ≤ 16777216 by simp) ?_|dsimp only))
  refine ne_lt e ?_
  (repeat (with_reducible first|refine x_slS ?_|refine x_bin ?_|refine x_lst ?_|refine a_nil ?_|refine a_cons ?_|refine x_call ?_|refine x_fun ?_|refine o_none ?_|refine o_some ?_|refine o_int ?_|refine x_if ?_|refine t_b ?_|refine b_b ?_|refine t_and ?_|refine d_addI ?_|refine d_eqI ?_|refine d_neS ?_|refine s_seq ?_|refine s_pass ?_|refine s_if ?_|refine s_asg ?_|refine x_c ?_|refine d_isB ?_|refine x_var (by with_unfolding_all rfl) ?_|refine g_n (by simp only [List.set_cons_zero, List.set_cons_succ]; exact rfl) ?_|refine if_t (by decide) ?_|refine if_f (by decide) ?_|refine And.intro (show List.length _ ≤ 16777216 by simp) ?_|dsimp only))
  refine w_law_words1 e hr fun gb => ?_
  rw [hz, str_tl]
  (repeat (with_reducible first|refine x_slS ?_|refine x_bin ?_|refine x_lst ?_|refine a_nil ?_|refine a_cons ?_|refine x_call ?_|refine x_fun ?_|refine o_none ?_|refine o_some ?_|refine o_int ?_|refine x_if ?_|refine t_b ?_|refine b_b ?_|refine t_and ?_|refine d_addI ?_|refine d_eqI ?_|refine d_neS ?_|refine s_seq ?_|refine s_pass ?_|refine s_if ?_|refine s_asg ?_|refine x_c ?_|refine d_isB ?_|refine x_var (by with_unfolding_all rfl) ?_|refine g_n (by simp only [List.set_cons_zero, List.set_cons_succ]; exact rfl) ?_|refine if_t (by decide) ?_|refine if_f (by decide) ?_|refine And.intro (show List.length _ ≤ 16777216 by simp) ?_|dsimp only))
  refine if_f (by simp) ?_
  (repeat (with_reducible first|refine x_slS ?_|refine x_bin ?_|refine x_lst ?_|refine a_nil ?_|refine a_cons ?_|refine x_call ?_|refine x_fun ?_|refine o_none ?_|refine o_some ?_|refine o_int ?_|refine x_if ?_|refine t_b ?_|refine b_b ?_|refine t_and ?_|refine d_addI ?_|refine d_eqI ?_|refine d_neS ?_|refine s_seq ?_|refine s_pass ?_|refine s_if ?_|refine s_asg ?_|refine x_c ?_|refine d_isB ?_|refine x_var (by with_unfolding_all rfl) ?_|refine g_n (by simp only [List.set_cons_zero, List.set_cons_succ]; exact rfl) ?_|refine if_t (by decide) ?_|refine if_f (by decide) ?_|refine And.intro (show List.length _ ≤ 16777216 by simp) ?_|dsimp only))
  refine ne_lt (items_old e) ?_
  (repeat (with_reducible first|refine x_slS ?_|refine x_bin ?_|refine x_lst ?_|refine a_nil ?_|refine a_cons ?_|refine x_call ?_|refine x_fun ?_|refine o_none ?_|refine o_some ?_|refine o_int ?_|refine x_if ?_|refine t_b ?_|refine b_b ?_|refine t_and ?_|refine d_addI ?_|refine d_eqI ?_|refine d_neS ?_|refine s_seq ?_|refine s_pass ?_|refine s_if ?_|refine s_asg ?_|refine x_c ?_|refine d_isB ?_|refine x_var (by with_unfolding_all rfl) ?_|refine g_n (by simp only [List.set_cons_zero, List.set_cons_succ]; exact rfl) ?_|refine if_t (by decide) ?_|refine if_f (by decide) ?_|refine And.intro (show List.length _ ≤ 16777216 by simp) ?_|dsimp only))
  refine w_is_row (items_old e) hr fun gb2 => ?_
  (repeat (with_reducible first|refine x_slS ?_|refine x_bin ?_|refine x_lst ?_|refine a_nil ?_|refine a_cons ?_|refine x_call ?_|refine x_fun ?_|refine o_none ?_|refine o_some ?_|refine o_int ?_|refine x_if ?_|refine t_b ?_|refine b_b ?_|refine t_and ?_|refine d_addI ?_|refine d_eqI ?_|refine d_neS ?_|refine s_seq ?_|refine s_pass ?_|refine s_if ?_|refine s_asg ?_|refine x_c ?_|refine d_isB ?_|refine x_var (by with_unfolding_all rfl) ?_|refine g_n (by simp only [List.set_cons_zero, List.set_cons_succ]; exact rfl) ?_|refine if_t (by decide) ?_|refine if_f (by decide) ?_|refine And.intro (show List.length _ ≤ 16777216 by simp) ?_|dsimp only))
  exact h _ ((Sup.push gb).trans (Sup.push gb2))
theorem fin_no {D0 : EI} {v0 v1 v2 v3 v4 v5 v6 v7 v8 v9 v12 v13 v14 v15 v16 v17 : Option D} (h : D0.nx [v0, v1, v2, v3, v4, v5, v6, v7, v8, v9, some (.str z), some (.str "text"), v12, v13, v14, v15, v16, v17] st) :
    zzF [v0, v1, v2, v3, v4, v5, v6, v7, v8, v9, some (.str z), some (.str "text"), v12, v13, v14, v15, v16, v17] st D0 := by
  unfold zzF
  (repeat (with_reducible first|refine x_slS ?_|refine x_bin ?_|refine x_lst ?_|refine a_nil ?_|refine a_cons ?_|refine x_call ?_|refine x_fun ?_|refine o_none ?_|refine o_some ?_|refine o_int ?_|refine x_if ?_|refine t_b ?_|refine b_b ?_|refine t_and ?_|refine d_addI ?_|refine d_eqI ?_|refine d_neS ?_|refine s_seq ?_|refine s_pass ?_|refine s_if ?_|refine s_asg ?_|refine x_c ?_|refine d_isB ?_|refine x_var (by with_unfolding_all rfl) ?_|refine g_n (by simp only [List.set_cons_zero, List.set_cons_succ]; exact rfl) ?_|refine if_t (by decide) ?_|refine if_f (by decide) ?_|refine And.intro (show List.length _ ≤ 16777216 by simp) ?_|dsimp only))
  exact h
end
def marks : List Str := ["0", "1", "2", "3", "4", " ", "two", "cap", "only", "x", "", "-"]
theorem marks_sh : ∀ y ∈ marks, y.length ≤ 4 := by decide +kernel
section
variable {st : Store} {Q : D → Store → Prop} {Rx : XR} {nD nN n3 n5 : Nat} {z0 z1 : Str}
/-- one turn -/
theorem turn_ok {D0 : EI} {v0 v2 v4 v6 v7 v8 v9 v10 v11 v12 v13 v14 v15 v16 v17 : Option D} (d : Dr st nD nN) (g3 : itemsOf st n3 = some [.str z0, .str z1]) (h0 : z0.length ≤ 60) (h1 : z1.length ≤ 60) (g5 : itemsOf st n5 = some (marks.map D.str)) (h3 : n3 ≠ nD ∧ n3 ≠ nN) (h5 : n5 ≠ nD ∧ n5 ≠ nN)
    (h : ∀ st' v4 v7 v8 v9 v10 v11, Dr st' nD nN → Kp nD nN st st' → D0.nx [v0, some (.ref nD), v2, some (.ref n3), v4, some (.ref n5), v6, v7, v8, v9, v10, v11, v12, v13, v14, v15, v16, v17] st') :
    zzM [v0, some (.ref nD), v2, some (.ref n3), v4, some (.ref n5), v6, v7, v8, v9, v10, v11, v12, v13, v14, v15, v16, v17] st D0 := by
  unfold zzM
  (repeat (with_reducible first|refine x_slS ?_|refine x_bin ?_|refine x_lst ?_|refine a_nil ?_|refine a_cons ?_|refine x_call ?_|refine x_fun ?_|refine o_none ?_|refine o_some ?_|refine o_int ?_|refine x_if ?_|refine t_b ?_|refine b_b ?_|refine t_and ?_|refine d_addI ?_|refine d_eqI ?_|refine d_neS ?_|refine s_seq ?_|refine s_pass ?_|refine s_if ?_|refine s_asg ?_|refine x_c ?_|refine d_isB ?_|refine x_var (by with_unfolding_all rfl) ?_|refine g_n (by simp only [List.set_cons_zero, List.set_cons_succ]; exact rfl) ?_|refine if_t (by decide) ?_|refine if_f (by decide) ?_|refine And.intro (show List.length _ ≤ 16777216 by simp) ?_|dsimp only))
  refine w_draw (by decide) (by decide) d fun r st1 r0 r2 d1 k1 => ?_
  have g3 := k1.items g3 h3.1 h3.2
  have g5 := k1.items g5 h5.1 h5.2
  (repeat (with_reducible first|refine x_slS ?_|refine x_bin ?_|refine x_lst ?_|refine a_nil ?_|refine a_cons ?_|refine x_call ?_|refine x_fun ?_|refine o_none ?_|refine o_some ?_|refine o_int ?_|refine x_if ?_|refine t_b ?_|refine b_b ?_|refine t_and ?_|refine d_addI ?_|refine d_eqI ?_|refine d_neS ?_|refine s_seq ?_|refine s_pass ?_|refine s_if ?_|refine s_asg ?_|refine x_c ?_|refine d_isB ?_|refine x_var (by with_unfolding_all rfl) ?_|refine g_n (by simp only [List.set_cons_zero, List.set_cons_succ]; exact rfl) ?_|refine if_t (by decide) ?_|refine if_f (by decide) ?_|refine And.intro (show List.length _ ≤ 16777216 by simp) ?_|dsimp only))
  obtain ⟨z, hz, hzl⟩ : ∃ z : Str, atI [D.str z0, .str z1] r = some (.str z) ∧ z.length ≤ 60 := by
    rcases (show r = 0 ∨ r = 1 by omega) with rfl | rfl
    · exact ⟨z0, rfl, h0⟩
    · exact ⟨z1, rfl, h1⟩
  refine d_idxL g3 hz ?_
  (repeat (with_reducible first|refine x_slS ?_|refine x_bin ?_|refine x_lst ?_|refine a_nil ?_|refine a_cons ?_|refine x_call ?_|refine x_fun ?_|refine o_none ?_|refine o_some ?_|refine o_int ?_|refine x_if ?_|refine t_b ?_|refine b_b ?_|refine t_and ?_|refine d_addI ?_|refine d_eqI ?_|refine d_neS ?_|refine s_seq ?_|refine s_pass ?_|refine s_if ?_|refine s_asg ?_|refine x_c ?_|refine d_isB ?_|refine x_var (by with_unfolding_all rfl) ?_|refine g_n (by simp only [List.set_cons_zero, List.set_cons_succ]; exact rfl) ?_|refine if_t (by decide) ?_|refine if_f (by decide) ?_|refine And.intro (show List.length _ ≤ 16777216 by simp) ?_|dsimp only))
  refine f_lenS (by omega) ?_
  (repeat (with_reducible first|refine x_slS ?_|refine x_bin ?_|refine x_lst ?_|refine a_nil ?_|refine a_cons ?_|refine x_call ?_|refine x_fun ?_|refine o_none ?_|refine o_some ?_|refine o_int ?_|refine x_if ?_|refine t_b ?_|refine b_b ?_|refine t_and ?_|refine d_addI ?_|refine d_eqI ?_|refine d_neS ?_|refine s_seq ?_|refine s_pass ?_|refine s_if ?_|refine s_asg ?_|refine x_c ?_|refine d_isB ?_|refine x_var (by with_unfolding_all rfl) ?_|refine g_n (by simp only [List.set_cons_zero, List.set_cons_succ]; exact rfl) ?_|refine if_t (by decide) ?_|refine if_f (by decide) ?_|refine And.intro (show List.length _ ≤ 16777216 by simp) ?_|dsimp only))
  refine w_draw (by omega) (by omega) d1 fun a st2 a0 a1 d2 k2 => ?_
  have g5 := k2.items g5 h5.1 h5.2
  have K2 := k1.trans k2
  (repeat (with_reducible first|refine x_slS ?_|refine x_bin ?_|refine x_lst ?_|refine a_nil ?_|refine a_cons ?_|refine x_call ?_|refine x_fun ?_|refine o_none ?_|refine o_some ?_|refine o_int ?_|refine x_if ?_|refine t_b ?_|refine b_b ?_|refine t_and ?_|refine d_addI ?_|refine d_eqI ?_|refine d_neS ?_|refine s_seq ?_|refine s_pass ?_|refine s_if ?_|refine s_asg ?_|refine x_c ?_|refine d_isB ?_|refine x_var (by with_unfolding_all rfl) ?_|refine g_n (by simp only [List.set_cons_zero, List.set_cons_succ]; exact rfl) ?_|refine if_t (by decide) ?_|refine if_f (by decide) ?_|refine And.intro (show List.length _ ≤ 16777216 by simp) ?_|dsimp only))
  refine w_pick g5 (by decide) (by decide) h5.1 h5.2 d2 fun j v st3 ev d3 k3 => ?_
  obtain ⟨mk, rfl, hm⟩ : ∃ mk : Str, v = .str mk ∧ mk.length ≤ 4 := by
    obtain ⟨y, hy, rfl⟩ := List.mem_map.mp (List.mem_of_getElem? ev)
    exact ⟨y, rfl, marks_sh y hy⟩
  have K3 := K2.trans k3
  have d3l := d3.lt
  have c1 := cutS_length z none (some a)
  have c2 := cutS_length z (some (a + 1)) none
  have c3 := cutS_length z (some a) none
  have sp1 : (" " : Str).length = 1 := by decide +kernel
  (repeat (with_reducible first|refine x_slS ?_|refine x_bin ?_|refine x_lst ?_|refine a_nil ?_|refine a_cons ?_|refine x_call ?_|refine x_fun ?_|refine o_none ?_|refine o_some ?_|refine o_int ?_|refine x_if ?_|refine t_b ?_|refine b_b ?_|refine t_and ?_|refine d_addI ?_|refine d_eqI ?_|refine d_neS ?_|refine s_seq ?_|refine s_pass ?_|refine s_if ?_|refine s_asg ?_|refine x_c ?_|refine d_isB ?_|refine x_var (by with_unfolding_all rfl) ?_|refine g_n (by simp only [List.set_cons_zero, List.set_cons_succ]; exact rfl) ?_|refine if_t (by decide) ?_|refine if_f (by decide) ?_|refine And.intro (show List.length _ ≤ 16777216 by simp) ?_|dsimp only))
  refine slS_i (by omega) ?_
  (repeat (with_reducible first|refine x_slS ?_|refine x_bin ?_|refine x_lst ?_|refine a_nil ?_|refine a_cons ?_|refine x_call ?_|refine x_fun ?_|refine o_none ?_|refine o_some ?_|refine o_int ?_|refine x_if ?_|refine t_b ?_|refine b_b ?_|refine t_and ?_|refine d_addI ?_|refine d_eqI ?_|refine d_neS ?_|refine s_seq ?_|refine s_pass ?_|refine s_if ?_|refine s_asg ?_|refine x_c ?_|refine d_isB ?_|refine x_var (by with_unfolding_all rfl) ?_|refine g_n (by simp only [List.set_cons_zero, List.set_cons_succ]; exact rfl) ?_|refine if_t (by decide) ?_|refine if_f (by decide) ?_|refine And.intro (show List.length _ ≤ 16777216 by simp) ?_|dsimp only))
  refine d_addS (by omega) ?_
  (repeat (with_reducible first|refine x_slS ?_|refine x_bin ?_|refine x_lst ?_|refine a_nil ?_|refine a_cons ?_|refine x_call ?_|refine x_fun ?_|refine o_none ?_|refine o_some ?_|refine o_int ?_|refine x_if ?_|refine t_b ?_|refine b_b ?_|refine t_and ?_|refine d_addI ?_|refine d_eqI ?_|refine d_neS ?_|refine s_seq ?_|refine s_pass ?_|refine s_if ?_|refine s_asg ?_|refine x_c ?_|refine d_isB ?_|refine x_var (by with_unfolding_all rfl) ?_|refine g_n (by simp only [List.set_cons_zero, List.set_cons_succ]; exact rfl) ?_|refine if_t (by decide) ?_|refine if_f (by decide) ?_|refine And.intro (show List.length _ ≤ 16777216 by simp) ?_|dsimp only))
  refine slS_i (by omega) ?_
  refine d_addS (by rw [app_len]; omega) ?_
  (repeat (with_reducible first|refine x_slS ?_|refine x_bin ?_|refine x_lst ?_|refine a_nil ?_|refine a_cons ?_|refine x_call ?_|refine x_fun ?_|refine o_none ?_|refine o_some ?_|refine o_int ?_|refine x_if ?_|refine t_b ?_|refine b_b ?_|refine t_and ?_|refine d_addI ?_|refine d_eqI ?_|refine d_neS ?_|refine s_seq ?_|refine s_pass ?_|refine s_if ?_|refine s_asg ?_|refine x_c ?_|refine d_isB ?_|refine x_var (by with_unfolding_all rfl) ?_|refine g_n (by simp only [List.set_cons_zero, List.set_cons_succ]; exact rfl) ?_|refine if_t (by decide) ?_|refine if_f (by decide) ?_|refine And.intro (show List.length _ ≤ 16777216 by simp) ?_|dsimp only))
  refine slS_i (by omega) ?_
  (repeat (with_reducible first|refine x_slS ?_|refine x_bin ?_|refine x_lst ?_|refine a_nil ?_|refine a_cons ?_|refine x_call ?_|refine x_fun ?_|refine o_none ?_|refine o_some ?_|refine o_int ?_|refine x_if ?_|refine t_b ?_|refine b_b ?_|refine t_and ?_|refine d_addI ?_|refine d_eqI ?_|refine d_neS ?_|refine s_seq ?_|refine s_pass ?_|refine s_if ?_|refine s_asg ?_|refine x_c ?_|refine d_isB ?_|refine x_var (by with_unfolding_all rfl) ?_|refine g_n (by simp only [List.set_cons_zero, List.set_cons_succ]; exact rfl) ?_|refine if_t (by decide) ?_|refine if_f (by decide) ?_|refine And.intro (show List.length _ ≤ 16777216 by simp) ?_|dsimp only))
  refine d_addS (by omega) ?_
  (repeat (with_reducible first|refine x_slS ?_|refine x_bin ?_|refine x_lst ?_|refine a_nil ?_|refine a_cons ?_|refine x_call ?_|refine x_fun ?_|refine o_none ?_|refine o_some ?_|refine o_int ?_|refine x_if ?_|refine t_b ?_|refine b_b ?_|refine t_and ?_|refine d_addI ?_|refine d_eqI ?_|refine d_neS ?_|refine s_seq ?_|refine s_pass ?_|refine s_if ?_|refine s_asg ?_|refine x_c ?_|refine d_isB ?_|refine x_var (by with_unfolding_all rfl) ?_|refine g_n (by simp only [List.set_cons_zero, List.set_cons_succ]; exact rfl) ?_|refine if_t (by decide) ?_|refine if_f (by decide) ?_|refine And.intro (show List.length _ ≤ 16777216 by simp) ?_|dsimp only))
  refine slS_i (by omega) ?_
  refine d_addS (by rw [app_len]; omega) ?_
  (repeat (with_reducible first|refine x_slS ?_|refine x_bin ?_|refine x_lst ?_|refine a_nil ?_|refine a_cons ?_|refine x_call ?_|refine x_fun ?_|refine o_none ?_|refine o_some ?_|refine o_int ?_|refine x_if ?_|refine t_b ?_|refine b_b ?_|refine t_and ?_|refine d_addI ?_|refine d_eqI ?_|refine d_neS ?_|refine s_seq ?_|refine s_pass ?_|refine s_if ?_|refine s_asg ?_|refine x_c ?_|refine d_isB ?_|refine x_var (by with_unfolding_all rfl) ?_|refine g_n (by simp only [List.set_cons_zero, List.set_cons_succ]; exact rfl) ?_|refine if_t (by decide) ?_|refine if_f (by decide) ?_|refine And.intro (show List.length _ ≤ 16777216 by simp) ?_|dsimp only))
  refine slS_i (by omega) ?_
  (repeat (with_reducible first|refine x_slS ?_|refine x_bin ?_|refine x_lst ?_|refine a_nil ?_|refine a_cons ?_|refine x_call ?_|refine x_fun ?_|refine o_none ?_|refine o_some ?_|refine o_int ?_|refine x_if ?_|refine t_b ?_|refine b_b ?_|refine t_and ?_|refine d_addI ?_|refine d_eqI ?_|refine d_neS ?_|refine s_seq ?_|refine s_pass ?_|refine s_if ?_|refine s_asg ?_|refine x_c ?_|refine d_isB ?_|refine x_var (by with_unfolding_all rfl) ?_|refine g_n (by simp only [List.set_cons_zero, List.set_cons_succ]; exact rfl) ?_|refine if_t (by decide) ?_|refine if_f (by decide) ?_|refine And.intro (show List.length _ ≤ 16777216 by simp) ?_|dsimp only))
  refine d_addS (by omega) ?_
  (repeat (with_reducible first|refine x_slS ?_|refine x_bin ?_|refine x_lst ?_|refine a_nil ?_|refine a_cons ?_|refine x_call ?_|refine x_fun ?_|refine o_none ?_|refine o_some ?_|refine o_int ?_|refine x_if ?_|refine t_b ?_|refine b_b ?_|refine t_and ?_|refine d_addI ?_|refine d_eqI ?_|refine d_neS ?_|refine s_seq ?_|refine s_pass ?_|refine s_if ?_|refine s_asg ?_|refine x_c ?_|refine d_isB ?_|refine x_var (by with_unfolding_all rfl) ?_|refine g_n (by simp only [List.set_cons_zero, List.set_cons_succ]; exact rfl) ?_|refine if_t (by decide) ?_|refine if_f (by decide) ?_|refine And.intro (show List.length _ ≤ 16777216 by simp) ?_|dsimp only))
  refine d_addS (by rw [app_len]; omega) ?_
  (repeat (with_reducible first|refine x_slS ?_|refine x_bin ?_|refine x_lst ?_|refine a_nil ?_|refine a_cons ?_|refine x_call ?_|refine x_fun ?_|refine o_none ?_|refine o_some ?_|refine o_int ?_|refine x_if ?_|refine t_b ?_|refine b_b ?_|refine t_and ?_|refine d_addI ?_|refine d_eqI ?_|refine d_neS ?_|refine s_seq ?_|refine s_pass ?_|refine s_if ?_|refine s_asg ?_|refine x_c ?_|refine d_isB ?_|refine x_var (by with_unfolding_all rfl) ?_|refine g_n (by simp only [List.set_cons_zero, List.set_cons_succ]; exact rfl) ?_|refine if_t (by decide) ?_|refine if_f (by decide) ?_|refine And.intro (show List.length _ ≤ 16777216 by simp) ?_|dsimp only))
  refine slS_i (by omega) ?_
  refine d_addS (by rw [app_len, app_len]; omega) ?_
  (repeat (with_reducible first|refine x_slS ?_|refine x_bin ?_|refine x_lst ?_|refine a_nil ?_|refine a_cons ?_|refine x_call ?_|refine x_fun ?_|refine o_none ?_|refine o_some ?_|refine o_int ?_|refine x_if ?_|refine t_b ?_|refine b_b ?_|refine t_and ?_|refine d_addI ?_|refine d_eqI ?_|refine d_neS ?_|refine s_seq ?_|refine s_pass ?_|refine s_if ?_|refine s_asg ?_|refine x_c ?_|refine d_isB ?_|refine x_var (by with_unfolding_all rfl) ?_|refine g_n (by simp only [List.set_cons_zero, List.set_cons_succ]; exact rfl) ?_|refine if_t (by decide) ?_|refine if_f (by decide) ?_|refine And.intro (show List.length _ ≤ 16777216 by simp) ?_|dsimp only))
  refine w_pick (items_hd _ _ _) (by simp) (by simp) (by omega) (by omega) (d3.push _) fun j v st4 ev d4 k4 => ?_
  obtain ⟨y, rfl, hy⟩ : ∃ y : Str, v = .str y ∧ y.length ≤ 1000 := by
    have := List.mem_of_getElem? ev
    simp only [List.mem_cons, List.mem_nil_iff, or_false] at this
    rcases this with rfl | rfl | rfl
    · exact ⟨_, rfl, by rw [app_len, app_len]; omega⟩
    · exact ⟨_, rfl, by rw [app_len, app_len]; omega⟩
    · exact ⟨_, rfl, by rw [app_len, app_len, app_len]; omega⟩
  have K4 : Kp nD nN st st4 := K3.trans ((Kp.push _).trans k4)
  have up : ∀ {st' : Store}, Sup st4 st' → Dr st' nD nN ∧ Kp nD nN st st' := fun s => ⟨d4.sup s, K4.trans ⟨s.1, fun i hi _ _ => s.2 i hi⟩⟩
  (repeat (with_reducible first|refine x_slS ?_|refine x_bin ?_|refine x_lst ?_|refine a_nil ?_|refine a_cons ?_|refine x_call ?_|refine x_fun ?_|refine o_none ?_|refine o_some ?_|refine o_int ?_|refine x_if ?_|refine t_b ?_|refine b_b ?_|refine t_and ?_|refine d_addI ?_|refine d_eqI ?_|refine d_neS ?_|refine s_seq ?_|refine s_pass ?_|refine s_if ?_|refine s_asg ?_|refine x_c ?_|refine d_isB ?_|refine x_var (by with_unfolding_all rfl) ?_|refine g_n (by simp only [List.set_cons_zero, List.set_cons_succ]; exact rfl) ?_|refine if_t (by decide) ?_|refine if_f (by decide) ?_|refine And.intro (show List.length _ ≤ 16777216 by simp) ?_|dsimp only))
  rcases (show r = 0 ∨ r = 1 by omega) with rfl | rfl
  · refine w_law_parsed0 (fun R st5 hv e s5 => ?_) (fun _ st5 s5 => ?_)
    · (repeat (with_reducible first|refine x_slS ?_|refine x_bin ?_|refine x_lst ?_|refine a_nil ?_|refine a_cons ?_|refine x_call ?_|refine x_fun ?_|refine o_none ?_|refine o_some ?_|refine o_int ?_|refine x_if ?_|refine t_b ?_|refine b_b ?_|refine t_and ?_|refine d_addI ?_|refine d_eqI ?_|refine d_neS ?_|refine s_seq ?_|refine s_pass ?_|refine s_if ?_|refine s_asg ?_|refine x_c ?_|refine d_isB ?_|refine x_var (by with_unfolding_all rfl) ?_|refine g_n (by simp only [List.set_cons_zero, List.set_cons_succ]; exact rfl) ?_|refine if_t (by decide) ?_|refine if_f (by decide) ?_|refine And.intro (show List.length _ ≤ 16777216 by simp) ?_|dsimp only))
      refine fin_rule hv e fun st6 s6 => ?_
      obtain ⟨a, b⟩ := up (s5.trans s6)
      exact h _ _ _ _ _ _ _ a b
    · (repeat (with_reducible first|refine x_slS ?_|refine x_bin ?_|refine x_lst ?_|refine a_nil ?_|refine a_cons ?_|refine x_call ?_|refine x_fun ?_|refine o_none ?_|refine o_some ?_|refine o_int ?_|refine x_if ?_|refine t_b ?_|refine b_b ?_|refine t_and ?_|refine d_addI ?_|refine d_eqI ?_|refine d_neS ?_|refine s_seq ?_|refine s_pass ?_|refine s_if ?_|refine s_asg ?_|refine x_c ?_|refine d_isB ?_|refine x_var (by with_unfolding_all rfl) ?_|refine g_n (by simp only [List.set_cons_zero, List.set_cons_succ]; exact rfl) ?_|refine if_t (by decide) ?_|refine if_f (by decide) ?_|refine And.intro (show List.length _ ≤ 16777216 by simp) ?_|dsimp only))
      refine fin_no ?_
      obtain ⟨a, b⟩ := up s5
      exact h _ _ _ _ _ _ _ a b
  · refine w_law_parsed1 (by omega) (fun bs m st5 p s5 _ g => ?_) (fun _ st5 s5 => ?_)
    · (repeat (with_reducible first|refine x_slS ?_|refine x_bin ?_|refine x_lst ?_|refine a_nil ?_|refine a_cons ?_|refine x_call ?_|refine x_fun ?_|refine o_none ?_|refine o_some ?_|refine o_int ?_|refine x_if ?_|refine t_b ?_|refine b_b ?_|refine t_and ?_|refine d_addI ?_|refine d_eqI ?_|refine d_neS ?_|refine s_seq ?_|refine s_pass ?_|refine s_if ?_|refine s_asg ?_|refine x_c ?_|refine d_isB ?_|refine x_var (by with_unfolding_all rfl) ?_|refine g_n (by simp only [List.set_cons_zero, List.set_cons_succ]; exact rfl) ?_|refine if_t (by decide) ?_|refine if_f (by decide) ?_|refine And.intro (show List.length _ ≤ 16777216 by simp) ?_|dsimp only))
      obtain ⟨hr, hf⟩ := parseW_some p
      refine fin_row hr (items_of g) hf fun st6 s6 => ?_
      obtain ⟨a, b⟩ := up (s5.trans s6)
      exact h _ _ _ _ _ _ _ a b
    · (repeat (with_reducible first|refine x_slS ?_|refine x_bin ?_|refine x_lst ?_|refine a_nil ?_|refine a_cons ?_|refine x_call ?_|refine x_fun ?_|refine o_none ?_|refine o_some ?_|refine o_int ?_|refine x_if ?_|refine t_b ?_|refine b_b ?_|refine t_and ?_|refine d_addI ?_|refine d_eqI ?_|refine d_neS ?_|refine s_seq ?_|refine s_pass ?_|refine s_if ?_|refine s_asg ?_|refine x_c ?_|refine d_isB ?_|refine x_var (by with_unfolding_all rfl) ?_|refine g_n (by simp only [List.set_cons_zero, List.set_cons_succ]; exact rfl) ?_|refine if_t (by decide) ?_|refine if_f (by decide) ?_|refine And.intro (show List.length _ ≤ 16777216 by simp) ?_|dsimp only))
      refine fin_no ?_
      obtain ⟨a, b⟩ := up s5
      exact h _ _ _ _ _ _ _ a b
end
end MP

namespace MP
open PySem L2 TL
section
variable {st : Store} {Rx : XR} {R : Rl} {n n2 n3 m : Nat} {bs : List Int} {dd : D} {D0 : EI}
theorem kind0 {v0 v1 v5 v6 v7 v8 v9 v10 v11 v12 v13 v14 v15 v16 v17 : Option D} (hv : R.Ok) (e2 : itemsOf st n2 = some [dR R, .ref m]) (e3 : itemsOf st n3 = some [.str (strL (fmtR R)), dd]) (h : ∀ st', Sup st st' → D0.nx [v0, v1, some (.ref n2), some (.ref n3), some (.int 0), v5, v6, v7, v8, v9, v10, v11, v12, v13, v14, v15, v16, v17] st') :
    zzK [v0, v1, some (.ref n2), some (.ref n3), some (.int 0), v5, v6, v7, v8, v9, v10, v11, v12, v13, v14, v15, v16, v17] st D0 := by
  unfold zzK
  (repeat (with_reducible first|refine x_bin ?_|refine x_tup ?_|refine x_lst ?_|refine a_nil ?_|refine a_cons ?_|refine x_call ?_|refine x_fun ?_|refine x_and ?_|refine t_b ?_|refine b_b ?_|refine t_or ?_|refine d_eqI ?_|refine d_neS ?_|refine s_seq ?_|refine s_pass ?_|refine s_ret ?_|refine s_if ?_|refine s_asg ?_|refine s_for ?_|refine i_t ?_|refine it_t ?_|refine i_r1 ?_|refine x_comp ?_|refine x_c ?_|refine x_var (by with_unfolding_all rfl) ?_|refine g_n (by simp only [List.set_cons_zero, List.set_cons_succ]; exact rfl) ?_|refine if_f (by decide) ?_|refine and_bt (by decide) ?_|refine And.intro (show List.length _ ≤ 16777216 by simp) ?_|dsimp only))
  refine d_idxL e3 rfl ?_
  (repeat (with_reducible first|refine x_bin ?_|refine x_tup ?_|refine x_lst ?_|refine a_nil ?_|refine a_cons ?_|refine x_call ?_|refine x_fun ?_|refine x_and ?_|refine t_b ?_|refine b_b ?_|refine t_or ?_|refine d_eqI ?_|refine d_neS ?_|refine s_seq ?_|refine s_pass ?_|refine s_ret ?_|refine s_if ?_|refine s_asg ?_|refine s_for ?_|refine i_t ?_|refine it_t ?_|refine i_r1 ?_|refine x_comp ?_|refine x_c ?_|refine x_var (by with_unfolding_all rfl) ?_|refine g_n (by simp only [List.set_cons_zero, List.set_cons_succ]; exact rfl) ?_|refine if_f (by decide) ?_|refine and_bt (by decide) ?_|refine And.intro (show List.length _ ≤ 16777216 by simp) ?_|dsimp only))
  refine d_idxL e2 rfl ?_
  (repeat (with_reducible first|refine x_bin ?_|refine x_tup ?_|refine x_lst ?_|refine a_nil ?_|refine a_cons ?_|refine x_call ?_|refine x_fun ?_|refine x_and ?_|refine t_b ?_|refine b_b ?_|refine t_or ?_|refine d_eqI ?_|refine d_neS ?_|refine s_seq ?_|refine s_pass ?_|refine s_ret ?_|refine s_if ?_|refine s_asg ?_|refine s_for ?_|refine i_t ?_|refine it_t ?_|refine i_r1 ?_|refine x_comp ?_|refine x_c ?_|refine x_var (by with_unfolding_all rfl) ?_|refine g_n (by simp only [List.set_cons_zero, List.set_cons_succ]; exact rfl) ?_|refine if_f (by decide) ?_|refine and_bt (by decide) ?_|refine And.intro (show List.length _ ≤ 16777216 by simp) ?_|dsimp only))
  refine w_law_words0 hv fun gb => ?_
  (repeat (with_reducible first|refine x_bin ?_|refine x_tup ?_|refine x_lst ?_|refine a_nil ?_|refine a_cons ?_|refine x_call ?_|refine x_fun ?_|refine x_and ?_|refine t_b ?_|refine b_b ?_|refine t_or ?_|refine d_eqI ?_|refine d_neS ?_|refine s_seq ?_|refine s_pass ?_|refine s_ret ?_|refine s_if ?_|refine s_asg ?_|refine s_for ?_|refine i_t ?_|refine it_t ?_|refine i_r1 ?_|refine x_comp ?_|refine x_c ?_|refine x_var (by with_unfolding_all rfl) ?_|refine g_n (by simp only [List.set_cons_zero, List.set_cons_succ]; exact rfl) ?_|refine if_f (by decide) ?_|refine and_bt (by decide) ?_|refine And.intro (show List.length _ ≤ 16777216 by simp) ?_|dsimp only))
  refine if_f (by simp) ?_
  (repeat (with_reducible first|refine x_bin ?_|refine x_tup ?_|refine x_lst ?_|refine a_nil ?_|refine a_cons ?_|refine x_call ?_|refine x_fun ?_|refine x_and ?_|refine t_b ?_|refine b_b ?_|refine t_or ?_|refine d_eqI ?_|refine d_neS ?_|refine s_seq ?_|refine s_pass ?_|refine s_ret ?_|refine s_if ?_|refine s_asg ?_|refine s_for ?_|refine i_t ?_|refine it_t ?_|refine i_r1 ?_|refine x_comp ?_|refine x_c ?_|refine x_var (by with_unfolding_all rfl) ?_|refine g_n (by simp only [List.set_cons_zero, List.set_cons_succ]; exact rfl) ?_|refine if_f (by decide) ?_|refine and_bt (by decide) ?_|refine And.intro (show List.length _ ≤ 16777216 by simp) ?_|dsimp only))
  refine d_idxL (items_old e3) rfl ?_
  (repeat (with_reducible first|refine x_bin ?_|refine x_tup ?_|refine x_lst ?_|refine a_nil ?_|refine a_cons ?_|refine x_call ?_|refine x_fun ?_|refine x_and ?_|refine t_b ?_|refine b_b ?_|refine t_or ?_|refine d_eqI ?_|refine d_neS ?_|refine s_seq ?_|refine s_pass ?_|refine s_ret ?_|refine s_if ?_|refine s_asg ?_|refine s_for ?_|refine i_t ?_|refine it_t ?_|refine i_r1 ?_|refine x_comp ?_|refine x_c ?_|refine x_var (by with_unfolding_all rfl) ?_|refine g_n (by simp only [List.set_cons_zero, List.set_cons_succ]; exact rfl) ?_|refine if_f (by decide) ?_|refine and_bt (by decide) ?_|refine And.intro (show List.length _ ≤ 16777216 by simp) ?_|dsimp only))
  refine w_law_parsed0 (fun R' st' hv' e s => ?_) (fun q => ?_)
  · rw [tl_strL] at e
    obtain rfl := fmtR_inj hv' hv e
    (repeat (with_reducible first|refine x_bin ?_|refine x_tup ?_|refine x_lst ?_|refine a_nil ?_|refine a_cons ?_|refine x_call ?_|refine x_fun ?_|refine x_and ?_|refine t_b ?_|refine b_b ?_|refine t_or ?_|refine d_eqI ?_|refine d_neS ?_|refine s_seq ?_|refine s_pass ?_|refine s_ret ?_|refine s_if ?_|refine s_asg ?_|refine s_for ?_|refine i_t ?_|refine it_t ?_|refine i_r1 ?_|refine x_comp ?_|refine x_c ?_|refine x_var (by with_unfolding_all rfl) ?_|refine g_n (by simp only [List.set_cons_zero, List.set_cons_succ]; exact rfl) ?_|refine if_f (by decide) ?_|refine and_bt (by decide) ?_|refine And.intro (show List.length _ ≤ 16777216 by simp) ?_|dsimp only))
    refine d_idxL (s.items (items_old e2)) rfl ?_
    refine ne_rule hv ?_
    (repeat (with_reducible first|refine x_bin ?_|refine x_tup ?_|refine x_lst ?_|refine a_nil ?_|refine a_cons ?_|refine x_call ?_|refine x_fun ?_|refine x_and ?_|refine t_b ?_|refine b_b ?_|refine t_or ?_|refine d_eqI ?_|refine d_neS ?_|refine s_seq ?_|refine s_pass ?_|refine s_ret ?_|refine s_if ?_|refine s_asg ?_|refine s_for ?_|refine i_t ?_|refine it_t ?_|refine i_r1 ?_|refine x_comp ?_|refine x_c ?_|refine x_var (by with_unfolding_all rfl) ?_|refine g_n (by simp only [List.set_cons_zero, List.set_cons_succ]; exact rfl) ?_|refine if_f (by decide) ?_|refine and_bt (by decide) ?_|refine And.intro (show List.length _ ≤ 16777216 by simp) ?_|dsimp only))
    exact h _ ((Sup.push gb).trans s)
  · rw [tl_strL] at q
    have := List.all_eq_true.mp q R (rules_mem.mpr hv)
    simp at this
theorem kind1 {v0 v1 v5 v6 v7 v8 v9 v10 v11 v12 v13 v14 v15 v16 v17 : Option D} (hr : RowOk bs) (e : itemsOf st m = some (bs.map D.int)) (e2 : itemsOf st n2 = some [dd, .ref m]) (e3 : itemsOf st n3 = some [d1, .str (strL (fmtW bs))]) (h : ∀ st', Sup st st' → D0.nx [v0, v1, some (.ref n2), some (.ref n3), some (.int 1), v5, v6, v7, v8, v9, v10, v11, v12, v13, v14, v15, v16, v17] st') :
    zzK [v0, v1, some (.ref n2), some (.ref n3), some (.int 1), v5, v6, v7, v8, v9, v10, v11, v12, v13, v14, v15, v16, v17] st D0 := by
  unfold zzK
  (repeat (with_reducible first|refine x_bin ?_|refine x_tup ?_|refine x_lst ?_|refine a_nil ?_|refine a_cons ?_|refine x_call ?_|refine x_fun ?_|refine x_and ?_|refine t_b ?_|refine b_b ?_|refine t_or ?_|refine d_eqI ?_|refine d_neS ?_|refine s_seq ?_|refine s_pass ?_|refine s_ret ?_|refine s_if ?_|refine s_asg ?_|refine s_for ?_|refine i_t ?_|refine it_t ?_|refine i_r1 ?_|refine x_comp ?_|refine x_c ?_|refine x_var (by with_unfolding_all rfl) ?_|refine g_n (by simp only [List.set_cons_zero, List.set_cons_succ]; exact rfl) ?_|refine if_f (by decide) ?_|refine and_bt (by decide) ?_|refine And.intro (show List.length _ ≤ 16777216 by simp) ?_|dsimp only))
  refine d_idxL e3 rfl ?_
  (repeat (with_reducible first|refine x_bin ?_|refine x_tup ?_|refine x_lst ?_|refine a_nil ?_|refine a_cons ?_|refine x_call ?_|refine x_fun ?_|refine x_and ?_|refine t_b ?_|refine b_b ?_|refine t_or ?_|refine d_eqI ?_|refine d_neS ?_|refine s_seq ?_|refine s_pass ?_|refine s_ret ?_|refine s_if ?_|refine s_asg ?_|refine s_for ?_|refine i_t ?_|refine it_t ?_|refine i_r1 ?_|refine x_comp ?_|refine x_c ?_|refine x_var (by with_unfolding_all rfl) ?_|refine g_n (by simp only [List.set_cons_zero, List.set_cons_succ]; exact rfl) ?_|refine if_f (by decide) ?_|refine and_bt (by decide) ?_|refine And.intro (show List.length _ ≤ 16777216 by simp) ?_|dsimp only))
  refine d_idxL e2 rfl ?_
  (repeat (with_reducible first|refine x_bin ?_|refine x_tup ?_|refine x_lst ?_|refine a_nil ?_|refine a_cons ?_|refine x_call ?_|refine x_fun ?_|refine x_and ?_|refine t_b ?_|refine b_b ?_|refine t_or ?_|refine d_eqI ?_|refine d_neS ?_|refine s_seq ?_|refine s_pass ?_|refine s_ret ?_|refine s_if ?_|refine s_asg ?_|refine s_for ?_|refine i_t ?_|refine it_t ?_|refine i_r1 ?_|refine x_comp ?_|refine x_c ?_|refine x_var (by with_unfolding_all rfl) ?_|refine g_n (by simp only [List.set_cons_zero, List.set_cons_succ]; exact rfl) ?_|refine if_f (by decide) ?_|refine and_bt (by decide) ?_|refine And.intro (show List.length _ ≤ 16777216 by simp) ?_|dsimp only))
  refine w_law_words1 e hr fun gb => ?_
  (repeat (with_reducible first|refine x_bin ?_|refine x_tup ?_|refine x_lst ?_|refine a_nil ?_|refine a_cons ?_|refine x_call ?_|refine x_fun ?_|refine x_and ?_|refine t_b ?_|refine b_b ?_|refine t_or ?_|refine d_eqI ?_|refine d_neS ?_|refine s_seq ?_|refine s_pass ?_|refine s_ret ?_|refine s_if ?_|refine s_asg ?_|refine s_for ?_|refine i_t ?_|refine it_t ?_|refine i_r1 ?_|refine x_comp ?_|refine x_c ?_|refine x_var (by with_unfolding_all rfl) ?_|refine g_n (by simp only [List.set_cons_zero, List.set_cons_succ]; exact rfl) ?_|refine if_f (by decide) ?_|refine and_bt (by decide) ?_|refine And.intro (show List.length _ ≤ 16777216 by simp) ?_|dsimp only))
  refine if_f (by simp) ?_
  (repeat (with_reducible first|refine x_bin ?_|refine x_tup ?_|refine x_lst ?_|refine a_nil ?_|refine a_cons ?_|refine x_call ?_|refine x_fun ?_|refine x_and ?_|refine t_b ?_|refine b_b ?_|refine t_or ?_|refine d_eqI ?_|refine d_neS ?_|refine s_seq ?_|refine s_pass ?_|refine s_ret ?_|refine s_if ?_|refine s_asg ?_|refine s_for ?_|refine i_t ?_|refine it_t ?_|refine i_r1 ?_|refine x_comp ?_|refine x_c ?_|refine x_var (by with_unfolding_all rfl) ?_|refine g_n (by simp only [List.set_cons_zero, List.set_cons_succ]; exact rfl) ?_|refine if_f (by decide) ?_|refine and_bt (by decide) ?_|refine And.intro (show List.length _ ≤ 16777216 by simp) ?_|dsimp only))
  refine d_idxL (items_old e3) rfl ?_
  (repeat (with_reducible first|refine x_bin ?_|refine x_tup ?_|refine x_lst ?_|refine a_nil ?_|refine a_cons ?_|refine x_call ?_|refine x_fun ?_|refine x_and ?_|refine t_b ?_|refine b_b ?_|refine t_or ?_|refine d_eqI ?_|refine d_neS ?_|refine s_seq ?_|refine s_pass ?_|refine s_ret ?_|refine s_if ?_|refine s_asg ?_|refine s_for ?_|refine i_t ?_|refine it_t ?_|refine i_r1 ?_|refine x_comp ?_|refine x_c ?_|refine x_var (by with_unfolding_all rfl) ?_|refine g_n (by simp only [List.set_cons_zero, List.set_cons_succ]; exact rfl) ?_|refine if_f (by decide) ?_|refine and_bt (by decide) ?_|refine And.intro (show List.length _ ≤ 16777216 by simp) ?_|dsimp only))
  have hl : (fmtW bs).length ≤ 60 := by rw [fmtW_len]; exact hr.1
  refine w_law_parsed1 (by rw [len_strL]; omega) (fun bs' m' st' p s _ g => ?_) (fun q => ?_)
  · rw [tl_strL, parseW_fmt hr] at p
    cases p
    (repeat (with_reducible first|refine x_bin ?_|refine x_tup ?_|refine x_lst ?_|refine a_nil ?_|refine a_cons ?_|refine x_call ?_|refine x_fun ?_|refine x_and ?_|refine t_b ?_|refine b_b ?_|refine t_or ?_|refine d_eqI ?_|refine d_neS ?_|refine s_seq ?_|refine s_pass ?_|refine s_ret ?_|refine s_if ?_|refine s_asg ?_|refine s_for ?_|refine i_t ?_|refine it_t ?_|refine i_r1 ?_|refine x_comp ?_|refine x_c ?_|refine x_var (by with_unfolding_all rfl) ?_|refine g_n (by simp only [List.set_cons_zero, List.set_cons_succ]; exact rfl) ?_|refine if_f (by decide) ?_|refine and_bt (by decide) ?_|refine And.intro (show List.length _ ≤ 16777216 by simp) ?_|dsimp only))
    refine d_idxL (s.items (items_old e2)) rfl ?_
    refine ne_ints (items_of g) (s.items (items_old e)) ?_
    (repeat (with_reducible first|refine x_bin ?_|refine x_tup ?_|refine x_lst ?_|refine a_nil ?_|refine a_cons ?_|refine x_call ?_|refine x_fun ?_|refine x_and ?_|refine t_b ?_|refine b_b ?_|refine t_or ?_|refine d_eqI ?_|refine d_neS ?_|refine s_seq ?_|refine s_pass ?_|refine s_ret ?_|refine s_if ?_|refine s_asg ?_|refine s_for ?_|refine i_t ?_|refine it_t ?_|refine i_r1 ?_|refine x_comp ?_|refine x_c ?_|refine x_var (by with_unfolding_all rfl) ?_|refine g_n (by simp only [List.set_cons_zero, List.set_cons_succ]; exact rfl) ?_|refine if_f (by decide) ?_|refine and_bt (by decide) ?_|refine And.intro (show List.length _ ≤ 16777216 by simp) ?_|dsimp only))
    exact h _ ((Sup.push gb).trans s)
  · rw [tl_strL, parseW_fmt hr] at q
    cases q
/-! ### every rule -/
theorem for2 {σ : Env} {body : XS} {i : Nat} {a b : D} (h : runT (gN i) body [a, b] σ st D0) : sFor (iT (xTup (aCons (xC a) (aCons (xC b) aNil)))) (gN i) body σ st D0 :=
  s_for (i_t (x_tup (a_cons (x_c (a_cons (x_c (a_nil ⟨by simp, it_t (l_tup h)⟩)))))))
theorem for3 {σ : Env} {body : XS} {i : Nat} {a b c : D} (h : runT (gN i) body [a, b, c] σ st D0) : sFor (iT (xTup (aCons (xC a) (aCons (xC b) (aCons (xC c) aNil))))) (gN i) body σ st D0 :=
  s_for (i_t (x_tup (a_cons (x_c (a_cons (x_c (a_cons (x_c (a_nil ⟨by simp, it_t (l_tup h)⟩)))))))))
def sN : Nat → Str
  | 0 => "games"
  | 1 => "twos"
  | 2 => "winner"
  | _ => "only"
def r4 (p : Int) (l : Str) (G : Int) (d : Str) : List Rl := (["games", "twos", "winner", "only"] : List Str).map fun s => ⟨p, l, G, d, s⟩
def r3 (p : Int) (l : Str) (G : Int) : List Rl := (["same", "longer"] : List Str).flatMap fun d => r4 p l G d
def r2 (p : Int) (l : Str) : List Rl := ([1, 2, 3] : List Int).flatMap fun G => r3 p l G
def r1 (p : Int) : List Rl := (["one", "two", "cap"] : List Str).flatMap fun l => r2 p l
theorem rules_r : rulesL = r1 2 ++ r1 3 ++ r1 4 := by rfl
variable {acc : List Rl} {v0 v1 v2 v3 v4 v5 v6 v7 v8 v9 v10 v11 v13 v14 v15 v16 v17 : Option D} {p G : Int} {l d : Str}
theorem lp4 (e : st[n]? = some (.lst (acc.map dR))) (hl : acc.length ≤ 212) (h : ∀ st' m v17, st'[m]? = some (.lst ((acc ++ r4 p l G d).map dR)) → D0.nx [v0, v1, v2, v3, v4, v5, v6, v7, v8, v9, v10, v11, some (.ref m), some (.int p), some (.str l), some (.int G), some (.str d), v17] st') :
    zzS [v0, v1, v2, v3, v4, v5, v6, v7, v8, v9, v10, v11, some (.ref n), some (.int p), some (.str l), some (.int G), some (.str d), v17] st D0 := by
  unfold zzS
  (repeat (with_reducible first|refine x_bin ?_|refine x_tup ?_|refine x_lst ?_|refine a_nil ?_|refine a_cons ?_|refine x_call ?_|refine x_fun ?_|refine x_and ?_|refine t_b ?_|refine b_b ?_|refine t_or ?_|refine d_eqI ?_|refine d_neS ?_|refine s_seq ?_|refine s_pass ?_|refine s_ret ?_|refine s_if ?_|refine s_asg ?_|refine s_for ?_|refine i_t ?_|refine it_t ?_|refine i_r1 ?_|refine x_comp ?_|refine x_c ?_|refine x_var (by with_unfolding_all rfl) ?_|refine g_n (by simp only [List.set_cons_zero, List.set_cons_succ]; exact rfl) ?_|refine if_f (by decide) ?_|refine and_bt (by decide) ?_|refine And.intro (show List.length _ ≤ 16777216 by simp) ?_|dsimp only))
  refine c_inv 4 (fun k => .str (sN k)) (fun k => dR ⟨p, l, G, d, sN k⟩) (by decide) (fun k o gb hk => ?_) (fun o gb => by rfl) (fun k gb K hk hK => ?_) (fun gb => ?_)
  · rcases (show k = 0 ∨ k = 1 ∨ k = 2 ∨ k = 3 by omega) with rfl | rfl | rfl | rfl <;> rfl
  · simp only [wipeD, List.set_cons_zero, List.set_cons_succ]
    (repeat (with_reducible first|refine x_bin ?_|refine x_tup ?_|refine x_lst ?_|refine a_nil ?_|refine a_cons ?_|refine x_call ?_|refine x_fun ?_|refine x_and ?_|refine t_b ?_|refine b_b ?_|refine t_or ?_|refine d_eqI ?_|refine d_neS ?_|refine s_seq ?_|refine s_pass ?_|refine s_ret ?_|refine s_if ?_|refine s_asg ?_|refine s_for ?_|refine i_t ?_|refine it_t ?_|refine i_r1 ?_|refine x_comp ?_|refine x_c ?_|refine x_var (by with_unfolding_all rfl) ?_|refine g_n (by simp only [List.set_cons_zero, List.set_cons_succ]; exact rfl) ?_|refine if_f (by decide) ?_|refine and_bt (by decide) ?_|refine And.intro (show List.length _ ≤ 16777216 by simp) ?_|dsimp only))
    exact hK _
  · refine d_addL ((Sup.push (st := st) _).get e) (get_hd _ _ _) (by simp; omega) ?_
    (repeat (with_reducible first|refine x_bin ?_|refine x_tup ?_|refine x_lst ?_|refine a_nil ?_|refine a_cons ?_|refine x_call ?_|refine x_fun ?_|refine x_and ?_|refine t_b ?_|refine b_b ?_|refine t_or ?_|refine d_eqI ?_|refine d_neS ?_|refine s_seq ?_|refine s_pass ?_|refine s_ret ?_|refine s_if ?_|refine s_asg ?_|refine s_for ?_|refine i_t ?_|refine it_t ?_|refine i_r1 ?_|refine x_comp ?_|refine x_c ?_|refine x_var (by with_unfolding_all rfl) ?_|refine g_n (by simp only [List.set_cons_zero, List.set_cons_succ]; exact rfl) ?_|refine if_f (by decide) ?_|refine and_bt (by decide) ?_|refine And.intro (show List.length _ ≤ 16777216 by simp) ?_|dsimp only))
    refine h _ _ _ ?_
    rw [get_hd]
    rw [List.map_append]
    rfl
theorem lp3 (e : st[n]? = some (.lst (acc.map dR))) (hl : acc.length ≤ 208) (h : ∀ st' m v16 v17, st'[m]? = some (.lst ((acc ++ r3 p l G).map dR)) → D0.nx [v0, v1, v2, v3, v4, v5, v6, v7, v8, v9, v10, v11, some (.ref m), some (.int p), some (.str l), some (.int G), v16, v17] st') :
    (sFor (iT (xTup (aCons (xC (.str "same")) (aCons (xC (.str "longer")) aNil)))) (gN 16) zzS) [v0, v1, v2, v3, v4, v5, v6, v7, v8, v9, v10, v11, some (.ref n), some (.int p), some (.str l), some (.int G), v16, v17] st D0 := by
  refine for2 (r_cons (g_n rfl ?_))
  refine lp4 e (by omega) fun st1 m1 _ e1 => ?_
  dsimp only
  refine r_cons (g_n rfl ?_)
  refine lp4 e1 (by simp [r4]; omega) fun st2 m2 _ e2 => ?_
  dsimp only
  refine r_nil (h _ _ _ _ ?_)
  rw [e2]
  simp only [r3, List.flatMap_cons, List.flatMap_nil, List.append_assoc, List.append_nil]
theorem lp2 (e : st[n]? = some (.lst (acc.map dR))) (hl : acc.length ≤ 192) (h : ∀ st' m v15 v16 v17, st'[m]? = some (.lst ((acc ++ r2 p l).map dR)) → D0.nx [v0, v1, v2, v3, v4, v5, v6, v7, v8, v9, v10, v11, some (.ref m), some (.int p), some (.str l), v15, v16, v17] st') :
    zzL [v0, v1, v2, v3, v4, v5, v6, v7, v8, v9, v10, v11, some (.ref n), some (.int p), some (.str l), v15, v16, v17] st D0 := by
  unfold zzL
  have L : ∀ G, (r3 p l G).length = 8 := fun _ => rfl
  refine for3 (r_cons (g_n rfl ?_))
  refine lp3 e (by omega) fun st1 m1 _ _ e1 => ?_
  dsimp only
  refine r_cons (g_n rfl ?_)
  refine lp3 e1 (by rw [List.length_append, L]; omega) fun st2 m2 _ _ e2 => ?_
  dsimp only
  refine r_cons (g_n rfl ?_)
  refine lp3 e2 (by rw [List.length_append, List.length_append, L, L]; omega) fun st3 m3 _ _ e3 => ?_
  dsimp only
  refine r_nil (h _ _ _ _ _ ?_)
  rw [e3]
  simp only [r2, List.flatMap_cons, List.flatMap_nil, List.append_assoc, List.append_nil]
theorem lp1 (e : st[n]? = some (.lst (acc.map dR))) (hl : acc.length ≤ 144) (h : ∀ st' m v14 v15 v16 v17, st'[m]? = some (.lst ((acc ++ r1 p).map dR)) → D0.nx [v0, v1, v2, v3, v4, v5, v6, v7, v8, v9, v10, v11, some (.ref m), some (.int p), v14, v15, v16, v17] st') :
    (sFor (iT (xTup (aCons (xC (.str "one")) (aCons (xC (.str "two")) (aCons (xC (.str "cap")) aNil))))) (gN 14) zzL) [v0, v1, v2, v3, v4, v5, v6, v7, v8, v9, v10, v11, some (.ref n), some (.int p), v14, v15, v16, v17] st D0 := by
  have L : ∀ l, (r2 p l).length = 24 := fun _ => rfl
  refine for3 (r_cons (g_n rfl ?_))
  refine lp2 e (by omega) fun st1 m1 _ _ _ e1 => ?_
  dsimp only
  refine r_cons (g_n rfl ?_)
  refine lp2 e1 (by rw [List.length_append, L]; omega) fun st2 m2 _ _ _ e2 => ?_
  dsimp only
  refine r_cons (g_n rfl ?_)
  refine lp2 e2 (by rw [List.length_append, List.length_append, L, L]; omega) fun st3 m3 _ _ _ e3 => ?_
  dsimp only
  refine r_nil (h _ _ _ _ _ _ ?_)
  rw [e3]
  simp only [r1, List.flatMap_cons, List.flatMap_nil, List.append_assoc, List.append_nil]
theorem every_ok {v12 : Option D} (h : ∀ st, D0.rt (.bl true) st) :
    zzE [v0, v1, v2, v3, v4, v5, v6, v7, v8, v9, v10, v11, v12, v13, v14, v15, v16, v17] st D0 := by
  unfold zzE
  refine s_seq (s_asg (x_lst (a_nil ⟨by simp, g_n rfl ?_⟩)))
  dsimp only
  refine s_seq ?_
  have L : ∀ p, (r1 p).length = 72 := fun _ => rfl
  refine for3 (r_cons (g_n rfl ?_))
  refine lp1 (acc := []) (get_hd _ _ _) (by decide) fun st1 m1 _ _ _ _ e1 => ?_
  dsimp only
  refine r_cons (g_n rfl ?_)
  refine lp1 e1 (by rw [List.length_append, L]; decide) fun st2 m2 _ _ _ _ e2 => ?_
  dsimp only
  refine r_cons (g_n rfl ?_)
  refine lp1 e2 (by rw [List.length_append, List.length_append, L, L]; decide) fun st3 m3 _ _ _ _ e3 => ?_
  dsimp only
  refine r_nil ?_
  rw [List.nil_append, ← rules_r] at e3
  unfold zzR
  (repeat (with_reducible first|refine x_bin ?_|refine x_tup ?_|refine x_lst ?_|refine a_nil ?_|refine a_cons ?_|refine x_call ?_|refine x_fun ?_|refine x_and ?_|refine t_b ?_|refine b_b ?_|refine t_or ?_|refine d_eqI ?_|refine d_neS ?_|refine s_seq ?_|refine s_pass ?_|refine s_ret ?_|refine s_if ?_|refine s_asg ?_|refine s_for ?_|refine i_t ?_|refine it_t ?_|refine i_r1 ?_|refine x_comp ?_|refine x_c ?_|refine x_var (by with_unfolding_all rfl) ?_|refine g_n (by simp only [List.set_cons_zero, List.set_cons_succ]; exact rfl) ?_|refine if_f (by decide) ?_|refine and_bt (by decide) ?_|refine And.intro (show List.length _ ≤ 16777216 by simp) ?_|dsimp only))
  refine w_law_rejected fun st4 s4 => ?_
  (repeat (with_reducible first|refine x_bin ?_|refine x_tup ?_|refine x_lst ?_|refine a_nil ?_|refine a_cons ?_|refine x_call ?_|refine x_fun ?_|refine x_and ?_|refine t_b ?_|refine b_b ?_|refine t_or ?_|refine d_eqI ?_|refine d_neS ?_|refine s_seq ?_|refine s_pass ?_|refine s_ret ?_|refine s_if ?_|refine s_asg ?_|refine s_for ?_|refine i_t ?_|refine it_t ?_|refine i_r1 ?_|refine x_comp ?_|refine x_c ?_|refine x_var (by with_unfolding_all rfl) ?_|refine g_n (by simp only [List.set_cons_zero, List.set_cons_succ]; exact rfl) ?_|refine if_f (by decide) ?_|refine and_bt (by decide) ?_|refine And.intro (show List.length _ ≤ 16777216 by simp) ?_|dsimp only))
  refine w_all_rules ?_
  (repeat (with_reducible first|refine x_bin ?_|refine x_tup ?_|refine x_lst ?_|refine a_nil ?_|refine a_cons ?_|refine x_call ?_|refine x_fun ?_|refine x_and ?_|refine t_b ?_|refine b_b ?_|refine t_or ?_|refine d_eqI ?_|refine d_neS ?_|refine s_seq ?_|refine s_pass ?_|refine s_ret ?_|refine s_if ?_|refine s_asg ?_|refine s_for ?_|refine i_t ?_|refine it_t ?_|refine i_r1 ?_|refine x_comp ?_|refine x_c ?_|refine x_var (by with_unfolding_all rfl) ?_|refine g_n (by simp only [List.set_cons_zero, List.set_cons_succ]; exact rfl) ?_|refine if_f (by decide) ?_|refine and_bt (by decide) ?_|refine And.intro (show List.length _ ≤ 16777216 by simp) ?_|dsimp only))
  refine eq_all (items_hd _ _ _) (items_old (s4.items (items_of e3))) ?_
  (repeat (with_reducible first|refine x_bin ?_|refine x_tup ?_|refine x_lst ?_|refine a_nil ?_|refine a_cons ?_|refine x_call ?_|refine x_fun ?_|refine x_and ?_|refine t_b ?_|refine b_b ?_|refine t_or ?_|refine d_eqI ?_|refine d_neS ?_|refine s_seq ?_|refine s_pass ?_|refine s_ret ?_|refine s_if ?_|refine s_asg ?_|refine s_for ?_|refine i_t ?_|refine it_t ?_|refine i_r1 ?_|refine x_comp ?_|refine x_c ?_|refine x_var (by with_unfolding_all rfl) ?_|refine g_n (by simp only [List.set_cons_zero, List.set_cons_succ]; exact rfl) ?_|refine if_f (by decide) ?_|refine and_bt (by decide) ?_|refine And.intro (show List.length _ ≤ 16777216 by simp) ?_|dsimp only))
  refine f_len (items_old (s4.items (items_of e3))) ?_
  (repeat (with_reducible first|refine x_bin ?_|refine x_tup ?_|refine x_lst ?_|refine a_nil ?_|refine a_cons ?_|refine x_call ?_|refine x_fun ?_|refine x_and ?_|refine t_b ?_|refine b_b ?_|refine t_or ?_|refine d_eqI ?_|refine d_neS ?_|refine s_seq ?_|refine s_pass ?_|refine s_ret ?_|refine s_if ?_|refine s_asg ?_|refine s_for ?_|refine i_t ?_|refine it_t ?_|refine i_r1 ?_|refine x_comp ?_|refine x_c ?_|refine x_var (by with_unfolding_all rfl) ?_|refine g_n (by simp only [List.set_cons_zero, List.set_cons_succ]; exact rfl) ?_|refine if_f (by decide) ?_|refine and_bt (by decide) ?_|refine And.intro (show List.length _ ≤ 16777216 by simp) ?_|dsimp only))
  rw [List.length_map, rules_len]
  exact h _
end
/-- the whole -/
theorem law_main {o : O} {ns : List Int} (e : itemsOf [o] 0 = some (ns.map D.int)) : F_law [.ref 0] [o] (fun d _ => d = .bl true) (fun _ _ => False) := by
  refine def_in rfl (by simp only [List.map_cons, List.map_nil, List.cons_append, List.nil_append, Nat.reduceSub, List.replicate_succ, List.replicate_zero, List.append_nil, List.length_cons, List.length_nil]; exact rfl) ?_
  rw [b_law_eq]
  (repeat (with_reducible first|refine x_bin ?_|refine x_tup ?_|refine x_lst ?_|refine a_nil ?_|refine a_cons ?_|refine x_call ?_|refine x_fun ?_|refine x_and ?_|refine t_b ?_|refine b_b ?_|refine t_or ?_|refine d_eqI ?_|refine d_neS ?_|refine s_seq ?_|refine s_pass ?_|refine s_ret ?_|refine s_if ?_|refine s_asg ?_|refine s_for ?_|refine i_t ?_|refine it_t ?_|refine i_r1 ?_|refine x_comp ?_|refine x_c ?_|refine x_var (by with_unfolding_all rfl) ?_|refine g_n (by simp only [List.set_cons_zero, List.set_cons_succ]; exact rfl) ?_|refine if_f (by decide) ?_|refine and_bt (by decide) ?_|refine And.intro (show List.length _ ≤ 16777216 by simp) ?_|dsimp only))
  refine w_start e fun nD nN st1 d1 => ?_
  (repeat (with_reducible first|refine x_bin ?_|refine x_tup ?_|refine x_lst ?_|refine a_nil ?_|refine a_cons ?_|refine x_call ?_|refine x_fun ?_|refine x_and ?_|refine t_b ?_|refine b_b ?_|refine t_or ?_|refine d_eqI ?_|refine d_neS ?_|refine s_seq ?_|refine s_pass ?_|refine s_ret ?_|refine s_if ?_|refine s_asg ?_|refine s_for ?_|refine i_t ?_|refine it_t ?_|refine i_r1 ?_|refine x_comp ?_|refine x_c ?_|refine x_var (by with_unfolding_all rfl) ?_|refine g_n (by simp only [List.set_cons_zero, List.set_cons_succ]; exact rfl) ?_|refine if_f (by decide) ?_|refine and_bt (by decide) ?_|refine And.intro (show List.length _ ≤ 16777216 by simp) ?_|dsimp only))
  refine w_law_rule d1 fun R st2 hv d2 k2 => ?_
  (repeat (with_reducible first|refine x_bin ?_|refine x_tup ?_|refine x_lst ?_|refine a_nil ?_|refine a_cons ?_|refine x_call ?_|refine x_fun ?_|refine x_and ?_|refine t_b ?_|refine b_b ?_|refine t_or ?_|refine d_eqI ?_|refine d_neS ?_|refine s_seq ?_|refine s_pass ?_|refine s_ret ?_|refine s_if ?_|refine s_asg ?_|refine s_for ?_|refine i_t ?_|refine it_t ?_|refine i_r1 ?_|refine x_comp ?_|refine x_c ?_|refine x_var (by with_unfolding_all rfl) ?_|refine g_n (by simp only [List.set_cons_zero, List.set_cons_succ]; exact rfl) ?_|refine if_f (by decide) ?_|refine and_bt (by decide) ?_|refine And.intro (show List.length _ ≤ 16777216 by simp) ?_|dsimp only))
  refine w_law_row (by decide) (by decide) d2 fun bs m st3 hr hm g3 d3 k3 => ?_
  have hm3 : m < st3.length := (List.getElem?_eq_some_iff.mp g3).1
  have d2l := d2.lt
  (repeat (with_reducible first|refine x_bin ?_|refine x_tup ?_|refine x_lst ?_|refine a_nil ?_|refine a_cons ?_|refine x_call ?_|refine x_fun ?_|refine x_and ?_|refine t_b ?_|refine b_b ?_|refine t_or ?_|refine d_eqI ?_|refine d_neS ?_|refine s_seq ?_|refine s_pass ?_|refine s_ret ?_|refine s_if ?_|refine s_asg ?_|refine s_for ?_|refine i_t ?_|refine it_t ?_|refine i_r1 ?_|refine x_comp ?_|refine x_c ?_|refine x_var (by with_unfolding_all rfl) ?_|refine g_n (by simp only [List.set_cons_zero, List.set_cons_succ]; exact rfl) ?_|refine if_f (by decide) ?_|refine and_bt (by decide) ?_|refine And.intro (show List.length _ ≤ 16777216 by simp) ?_|dsimp only))
  refine d_idxL (items_hd _ _ _) rfl ?_
  (repeat (with_reducible first|refine x_bin ?_|refine x_tup ?_|refine x_lst ?_|refine a_nil ?_|refine a_cons ?_|refine x_call ?_|refine x_fun ?_|refine x_and ?_|refine t_b ?_|refine b_b ?_|refine t_or ?_|refine d_eqI ?_|refine d_neS ?_|refine s_seq ?_|refine s_pass ?_|refine s_ret ?_|refine s_if ?_|refine s_asg ?_|refine s_for ?_|refine i_t ?_|refine it_t ?_|refine i_r1 ?_|refine x_comp ?_|refine x_c ?_|refine x_var (by with_unfolding_all rfl) ?_|refine g_n (by simp only [List.set_cons_zero, List.set_cons_succ]; exact rfl) ?_|refine if_f (by decide) ?_|refine and_bt (by decide) ?_|refine And.intro (show List.length _ ≤ 16777216 by simp) ?_|dsimp only))
  refine w_format_rule hv fun gb4 => ?_
  refine d_idxL (items_old (items_hd _ _ _)) rfl ?_
  (repeat (with_reducible first|refine x_bin ?_|refine x_tup ?_|refine x_lst ?_|refine a_nil ?_|refine a_cons ?_|refine x_call ?_|refine x_fun ?_|refine x_and ?_|refine t_b ?_|refine b_b ?_|refine t_or ?_|refine d_eqI ?_|refine d_neS ?_|refine s_seq ?_|refine s_pass ?_|refine s_ret ?_|refine s_if ?_|refine s_asg ?_|refine s_for ?_|refine i_t ?_|refine it_t ?_|refine i_r1 ?_|refine x_comp ?_|refine x_c ?_|refine x_var (by with_unfolding_all rfl) ?_|refine g_n (by simp only [List.set_cons_zero, List.set_cons_succ]; exact rfl) ?_|refine if_f (by decide) ?_|refine and_bt (by decide) ?_|refine And.intro (show List.length _ ≤ 16777216 by simp) ?_|dsimp only))
  refine w_format_row (items_old (items_old (items_of g3))) hr fun gb5 => ?_
  (repeat (with_reducible first|refine x_bin ?_|refine x_tup ?_|refine x_lst ?_|refine a_nil ?_|refine a_cons ?_|refine x_call ?_|refine x_fun ?_|refine x_and ?_|refine t_b ?_|refine b_b ?_|refine t_or ?_|refine d_eqI ?_|refine d_neS ?_|refine s_seq ?_|refine s_pass ?_|refine s_ret ?_|refine s_if ?_|refine s_asg ?_|refine s_for ?_|refine i_t ?_|refine it_t ?_|refine i_r1 ?_|refine x_comp ?_|refine x_c ?_|refine x_var (by with_unfolding_all rfl) ?_|refine g_n (by simp only [List.set_cons_zero, List.set_cons_succ]; exact rfl) ?_|refine if_f (by decide) ?_|refine and_bt (by decide) ?_|refine And.intro (show List.length _ ≤ 16777216 by simp) ?_|dsimp only))
  have h2 : itemsOf (st3 ++ [O.lst [dR R, D.ref m]] ++ gb4 ++ gb5 ++ [O.lst [D.str (strL (fmtR R)), D.str (strL (fmtW bs))]]) st3.length = some [dR R, D.ref m] := items_old (items_old (items_old (items_hd _ _ _)))
  have h3 : itemsOf (st3 ++ [O.lst [dR R, D.ref m]] ++ gb4 ++ gb5 ++ [O.lst [D.str (strL (fmtR R)), D.str (strL (fmtW bs))]]) (st3 ++ [O.lst [dR R, D.ref m]] ++ gb4 ++ gb5).length = some [.str (strL (fmtR R)), .str (strL (fmtW bs))] := items_hd _ _ _
  have gm : itemsOf (st3 ++ [O.lst [dR R, D.ref m]] ++ gb4 ++ gb5 ++ [O.lst [D.str (strL (fmtR R)), D.str (strL (fmtW bs))]]) m = some (bs.map D.int) := items_old (items_old (items_old (items_old (items_of g3))))
  have dA : Dr (st3 ++ [O.lst [dR R, D.ref m]] ++ gb4 ++ gb5 ++ [O.lst [D.str (strL (fmtR R)), D.str (strL (fmtW bs))]]) nD nN := (((d3.push _).push _).push _).push _
  have hl : st3.length < (st3 ++ [O.lst [dR R, D.ref m]] ++ gb4 ++ gb5).length := by simp
  generalize st3 ++ [O.lst [dR R, D.ref m]] ++ gb4 ++ gb5 ++ [O.lst [D.str (strL (fmtR R)), D.str (strL (fmtW bs))]] = st4 at h2 h3 gm dA ⊢
  generalize (st3 ++ [O.lst [dR R, D.ref m]] ++ gb4 ++ gb5).length = n3 at h3 hl ⊢
  have d3l := d3.lt
  generalize st3.length = n2 at h2 hl d3l ⊢
  refine ir_1 (by decide) (by decide) ?_
  refine l_inv 2 (fun k => .int (k : Int)) (fun k σ' st' => Sup st4 st' ∧ ∃ z4, σ' = [some (.ref 0), some (.ref nD), some (.ref n2), some (.ref n3), z4, none, none, none, none, none, none, none, none, none, none, none, none, none]) ⟨Sup.refl, _, rfl⟩ ?_ ?_ ?_
  · rintro k σ' st' hk _
    unfold itemAt
    dsimp only
    rw [if_pos (show k < Int.toNat 2 from hk), Int.zero_add]
  · rintro σ' st5 ⟨s5, z4, rfl⟩
    refine ⟨by unfold itemAt; dsimp only; rw [if_neg (show ¬ 2 < Int.toNat 2 by decide)], ?_⟩
    have h3 := s5.items h3
    have dB := dA.sup s5
    unfold zzP
    (repeat (with_reducible first|refine x_bin ?_|refine x_tup ?_|refine x_lst ?_|refine a_nil ?_|refine a_cons ?_|refine x_call ?_|refine x_fun ?_|refine x_and ?_|refine t_b ?_|refine b_b ?_|refine t_or ?_|refine d_eqI ?_|refine d_neS ?_|refine s_seq ?_|refine s_pass ?_|refine s_ret ?_|refine s_if ?_|refine s_asg ?_|refine s_for ?_|refine i_t ?_|refine it_t ?_|refine i_r1 ?_|refine x_comp ?_|refine x_c ?_|refine x_var (by with_unfolding_all rfl) ?_|refine g_n (by simp only [List.set_cons_zero, List.set_cons_succ]; exact rfl) ?_|refine if_f (by decide) ?_|refine and_bt (by decide) ?_|refine And.intro (show List.length _ ≤ 16777216 by simp) ?_|dsimp only))
    have g5 : itemsOf (st5 ++ [O.lst [D.str "0", D.str "1", D.str "2", D.str "3", D.str "4", D.str " ", D.str "two", D.str "cap", D.str "only", D.str "x", D.str "", D.str "-"]]) st5.length = some (marks.map D.str) := items_hd _ _ _
    have dC := dB.push [O.lst [D.str "0", D.str "1", D.str "2", D.str "3", D.str "4", D.str " ", D.str "two", D.str "cap", D.str "only", D.str "x", D.str "", D.str "-"]]
    have h3 := items_old (gs := [O.lst [D.str "0", D.str "1", D.str "2", D.str "3", D.str "4", D.str " ", D.str "two", D.str "cap", D.str "only", D.str "x", D.str "", D.str "-"]]) h3
    have dBl := dB.lt
    generalize st5 ++ [O.lst [D.str "0", D.str "1", D.str "2", D.str "3", D.str "4", D.str " ", D.str "two", D.str "cap", D.str "only", D.str "x", D.str "", D.str "-"]] = st6 at g5 dC h3 ⊢
    generalize st5.length = n5 at g5 dBl ⊢
    refine ir_1 (by decide) (by decide) ?_
    refine l_inv 16 (fun k => .int (k : Int)) (fun k σ' st' => Dr st' nD nN ∧ Kp nD nN st6 st' ∧ ∃ z4 z6 z7 z8 z9 z10 z11, σ' = [some (.ref 0), some (.ref nD), some (.ref n2), some (.ref n3), z4, some (.ref n5), z6, z7, z8, z9, z10, z11, none, none, none, none, none, none]) ⟨dC, Kp.refl, _, _, _, _, _, _, _, rfl⟩ ?_ ?_ ?_
    · rintro k σ' st' hk _
      unfold itemAt
      dsimp only
      rw [if_pos (show k < Int.toNat 16 from hk), Int.zero_add]
    · rintro σ' st7 ⟨d7, k7, z4, z6, z7, z8, z9, z10, z11, rfl⟩
      refine ⟨by unfold itemAt; dsimp only; rw [if_neg (show ¬ 16 < Int.toNat 16 by decide)], ?_⟩
      (repeat (with_reducible first|refine x_bin ?_|refine x_tup ?_|refine x_lst ?_|refine a_nil ?_|refine a_cons ?_|refine x_call ?_|refine x_fun ?_|refine x_and ?_|refine t_b ?_|refine b_b ?_|refine t_or ?_|refine d_eqI ?_|refine d_neS ?_|refine s_seq ?_|refine s_pass ?_|refine s_ret ?_|refine s_if ?_|refine s_asg ?_|refine s_for ?_|refine i_t ?_|refine it_t ?_|refine i_r1 ?_|refine x_comp ?_|refine x_c ?_|refine x_var (by with_unfolding_all rfl) ?_|refine g_n (by simp only [List.set_cons_zero, List.set_cons_succ]; exact rfl) ?_|refine if_f (by decide) ?_|refine and_bt (by decide) ?_|refine And.intro (show List.length _ ≤ 16777216 by simp) ?_|dsimp only))
      exact every_ok fun _ => rfl
    · rintro k σ' st7 hk ⟨d7, k7, z4, z6, z7, z8, z9, z10, z11, rfl⟩
      have hz1 := fmtR_len hv
      have hz2 : (fmtW bs).length ≤ 60 := by rw [fmtW_len]; exact hr.1
      (repeat (with_reducible first|refine x_bin ?_|refine x_tup ?_|refine x_lst ?_|refine a_nil ?_|refine a_cons ?_|refine x_call ?_|refine x_fun ?_|refine x_and ?_|refine t_b ?_|refine b_b ?_|refine t_or ?_|refine d_eqI ?_|refine d_neS ?_|refine s_seq ?_|refine s_pass ?_|refine s_ret ?_|refine s_if ?_|refine s_asg ?_|refine s_for ?_|refine i_t ?_|refine it_t ?_|refine i_r1 ?_|refine x_comp ?_|refine x_c ?_|refine x_var (by with_unfolding_all rfl) ?_|refine g_n (by simp only [List.set_cons_zero, List.set_cons_succ]; exact rfl) ?_|refine if_f (by decide) ?_|refine and_bt (by decide) ?_|refine And.intro (show List.length _ ≤ 16777216 by simp) ?_|dsimp only))
      refine turn_ok d7 (k7.items h3 (by omega) (by omega)) (by rw [len_strL]; omega) (by rw [len_strL]; omega) (k7.items g5 (by omega) (by omega)) ⟨by omega, by omega⟩ ⟨by omega, by omega⟩ fun st8 _ _ _ _ _ _ d8 k8 => ?_
      exact ⟨d8, k7.trans k8, _, _, _, _, _, _, _, rfl⟩
  · rintro k σ' st5 hk ⟨s5, z4, rfl⟩
    have a2 := s5.items h2
    have a3 := s5.items h3
    have am := s5.items gm
    rcases (show k = 0 ∨ k = 1 by omega) with rfl | rfl
    · (repeat (with_reducible first|refine x_bin ?_|refine x_tup ?_|refine x_lst ?_|refine a_nil ?_|refine a_cons ?_|refine x_call ?_|refine x_fun ?_|refine x_and ?_|refine t_b ?_|refine b_b ?_|refine t_or ?_|refine d_eqI ?_|refine d_neS ?_|refine s_seq ?_|refine s_pass ?_|refine s_ret ?_|refine s_if ?_|refine s_asg ?_|refine s_for ?_|refine i_t ?_|refine it_t ?_|refine i_r1 ?_|refine x_comp ?_|refine x_c ?_|refine x_var (by with_unfolding_all rfl) ?_|refine g_n (by simp only [List.set_cons_zero, List.set_cons_succ]; exact rfl) ?_|refine if_f (by decide) ?_|refine and_bt (by decide) ?_|refine And.intro (show List.length _ ≤ 16777216 by simp) ?_|dsimp only))
      refine kind0 hv a2 a3 fun st' s' => ?_
      exact ⟨s5.trans s', _, rfl⟩
    · (repeat (with_reducible first|refine x_bin ?_|refine x_tup ?_|refine x_lst ?_|refine a_nil ?_|refine a_cons ?_|refine x_call ?_|refine x_fun ?_|refine x_and ?_|refine t_b ?_|refine b_b ?_|refine t_or ?_|refine d_eqI ?_|refine d_neS ?_|refine s_seq ?_|refine s_pass ?_|refine s_ret ?_|refine s_if ?_|refine s_asg ?_|refine s_for ?_|refine i_t ?_|refine it_t ?_|refine i_r1 ?_|refine x_comp ?_|refine x_c ?_|refine x_var (by with_unfolding_all rfl) ?_|refine g_n (by simp only [List.set_cons_zero, List.set_cons_succ]; exact rfl) ?_|refine if_f (by decide) ?_|refine and_bt (by decide) ?_|refine And.intro (show List.length _ ≤ 16777216 by simp) ?_|dsimp only))
      refine kind1 hr am a2 a3 fun st' s' => ?_
      exact ⟨s5.trans s', _, rfl⟩
end MP

namespace MP
open PySem L2
def clF (c_BadRule c_BadRally c_BadBoards c_BadNumber c_BadText c_NotFound : Addr) : Nat → Addr := fun k => match k with | 0 => c_BadRule | 1 => c_BadRally | 2 => c_BadBoards | 3 => c_BadNumber | 4 => c_BadText | _ => c_NotFound
theorem all_mk {l : PySem.W.OpenLaw} {w : World} {K : PySem.W.Frag} {h : Heap} {mg : Str → Option Value} {fa : Addr} (X : K.In h) (G : h.Ns mainGlobals mg) (hfa : mg "law" = some (.ref fa))
    (main : ∀ ns : List Int, ns.length ≤ 63 → (∀ z ∈ ns, Builtin.Int.intBits z ≤ 1048576) → ∀ o, itemsOf [o] 0 = some (ns.map D.int) → F_law [.ref 0] [o] (fun d _ => d = .bl true) (fun _ _ => False))
    {a_is_number_of : Addr} {oc_is_number_of kV_is_number_of dc_is_number_of pm_is_number_of ct_is_number_of : Value} {od_is_number_of an_is_number_of : Option Addr} {sl_is_number_of : Array (Option Value)}
    {cd_is_number_of : Value}
    {a_is_word_of : Addr} {oc_is_word_of kV_is_word_of dc_is_word_of pm_is_word_of ct_is_word_of : Value} {od_is_word_of an_is_word_of : Option Addr} {sl_is_word_of : Array (Option Value)}
    {cd_is_word_of : Value}
    {a_is_rule : Addr} {oc_is_rule kV_is_rule dc_is_rule pm_is_rule ct_is_rule : Value} {od_is_rule an_is_rule : Option Addr} {sl_is_rule : Array (Option Value)}
    {cd_is_rule : Value}
    {a_is_rally : Addr} {oc_is_rally kV_is_rally dc_is_rally pm_is_rally ct_is_rally : Value} {od_is_rally an_is_rally : Option Addr} {sl_is_rally : Array (Option Value)}
    {cd_is_rally : Value}
    {a_is_row : Addr} {oc_is_row kV_is_row dc_is_row pm_is_row ct_is_row : Value} {od_is_row an_is_row : Option Addr} {sl_is_row : Array (Option Value)}
    {cd_is_row : Value}
    {a_all_rules : Addr} {oc_all_rules kV_all_rules dc_all_rules pm_all_rules ct_all_rules : Value} {od_all_rules an_all_rules : Option Addr} {sl_all_rules : Array (Option Value)}
    {cd_all_rules : Value}
    {a_check_rule : Addr} {oc_check_rule kV_check_rule dc_check_rule pm_check_rule ct_check_rule : Value} {od_check_rule an_check_rule : Option Addr} {sl_check_rule : Array (Option Value)}
    {cd_check_rule : Value}
    {a_check_row : Addr} {oc_check_row kV_check_row dc_check_row pm_check_row ct_check_row : Value} {od_check_row an_check_row : Option Addr} {sl_check_row : Array (Option Value)}
    {cd_check_row : Value}
    {a_format_rule : Addr} {oc_format_rule kV_format_rule dc_format_rule pm_format_rule ct_format_rule : Value} {od_format_rule an_format_rule : Option Addr} {sl_format_rule : Array (Option Value)}
    {cd_format_rule : Value}
    {a_format_row : Addr} {oc_format_row kV_format_row dc_format_row pm_format_row ct_format_row : Value} {od_format_row an_format_row : Option Addr} {sl_format_row : Array (Option Value)}
    {cd_format_row : Value}
    {a_check_text : Addr} {oc_check_text kV_check_text dc_check_text pm_check_text ct_check_text : Value} {od_check_text an_check_text : Option Addr} {sl_check_text : Array (Option Value)}
    {cd_check_text : Value}
    {a_parse_rule : Addr} {oc_parse_rule kV_parse_rule dc_parse_rule pm_parse_rule ct_parse_rule : Value} {od_parse_rule an_parse_rule : Option Addr} {sl_parse_rule : Array (Option Value)}
    {cd_parse_rule : Value}
    {a_numbers_in : Addr} {oc_numbers_in kV_numbers_in dc_numbers_in pm_numbers_in ct_numbers_in : Value} {od_numbers_in an_numbers_in : Option Addr} {sl_numbers_in : Array (Option Value)}
    {cd_numbers_in : Value}
    {a_parse_row : Addr} {oc_parse_row kV_parse_row dc_parse_row pm_parse_row ct_parse_row : Value} {od_parse_row an_parse_row : Option Addr} {sl_parse_row : Array (Option Value)}
    {cd_parse_row : Value}
    {a_law_start : Addr} {oc_law_start kV_law_start dc_law_start pm_law_start ct_law_start : Value} {od_law_start an_law_start : Option Addr} {sl_law_start : Array (Option Value)}
    {cd_law_start : Value}
    {a_law_draw : Addr} {oc_law_draw kV_law_draw dc_law_draw pm_law_draw ct_law_draw : Value} {od_law_draw an_law_draw : Option Addr} {sl_law_draw : Array (Option Value)}
    {cd_law_draw : Value}
    {a_law_pick : Addr} {oc_law_pick kV_law_pick dc_law_pick pm_law_pick ct_law_pick : Value} {od_law_pick an_law_pick : Option Addr} {sl_law_pick : Array (Option Value)}
    {cd_law_pick : Value}
    {a_law_error : Addr} {oc_law_error kV_law_error dc_law_error pm_law_error ct_law_error : Value} {od_law_error an_law_error : Option Addr} {sl_law_error : Array (Option Value)}
    {cd_law_error : Value}
    {a_law_rule : Addr} {oc_law_rule kV_law_rule dc_law_rule pm_law_rule ct_law_rule : Value} {od_law_rule an_law_rule : Option Addr} {sl_law_rule : Array (Option Value)}
    {cd_law_rule : Value}
    {a_law_row : Addr} {oc_law_row kV_law_row dc_law_row pm_law_row ct_law_row : Value} {od_law_row an_law_row : Option Addr} {sl_law_row : Array (Option Value)}
    {cd_law_row : Value}
    {a_law_parsed : Addr} {oc_law_parsed kV_law_parsed dc_law_parsed pm_law_parsed ct_law_parsed : Value} {od_law_parsed an_law_parsed : Option Addr} {sl_law_parsed : Array (Option Value)}
    {cd_law_parsed : Value}
    {a_law_words : Addr} {oc_law_words kV_law_words dc_law_words pm_law_words ct_law_words : Value} {od_law_words an_law_words : Option Addr} {sl_law_words : Array (Option Value)}
    {cd_law_words : Value}
    {a_law_rejected : Addr} {oc_law_rejected kV_law_rejected dc_law_rejected pm_law_rejected ct_law_rejected : Value} {od_law_rejected an_law_rejected : Option Addr} {sl_law_rejected : Array (Option Value)}
    {cd_law_rejected : Value}
    {a_law : Addr} {oc_law kV_law dc_law pm_law ct_law : Value} {od_law an_law : Option Addr} {sl_law : Array (Option Value)}
    {cd_law : Value}
    {aC_DECIDERS : Addr} {ddC_DECIDERS : Option Addr} {itC_DECIDERS : Array Value} {nC_DECIDERS : Nat} {slC_DECIDERS : Array (Option Value)}
    {tC_DIGITS : Tok}
    {aC_GAMES : Addr} {ddC_GAMES : Option Addr} {itC_GAMES : Array Value} {nC_GAMES : Nat} {slC_GAMES : Array (Option Value)}
    {aC_LEADS : Addr} {ddC_LEADS : Option Addr} {itC_LEADS : Array Value} {nC_LEADS : Nat} {slC_LEADS : Array (Option Value)}
    {tC_LONGEST_ROW : Tok}
    {aC_POINTS : Addr} {ddC_POINTS : Option Addr} {itC_POINTS : Array Value} {nC_POINTS : Nat} {slC_POINTS : Array (Option Value)}
    {aC_RALLIES : Addr} {ddC_RALLIES : Option Addr} {itC_RALLIES : Array Value} {nC_RALLIES : Nat} {slC_RALLIES : Array (Option Value)}
    {aC_SERVES : Addr} {ddC_SERVES : Option Addr} {itC_SERVES : Array Value} {nC_SERVES : Nat} {slC_SERVES : Array (Option Value)}
    {c_BadBoards : Addr}
    {c_BadNumber : Addr}
    {c_BadRally : Addr}
    {c_BadRule : Addr}
    {c_BadText : Addr}
    {c_MatchError : Addr}
    {c_NotFound : Addr}
    (aF_is_number_of : PySem.W.nsIn K mainGlobals "is_number_of" = some (some (.ref a_is_number_of)))
    (lF_is_number_of : K.lookup a_is_number_of = some ⟨oc_is_number_of, od_is_number_of, .func (PySem.W.fnOf "is_number_of" "is_number_of" (defArgs s_is_number_of) (defBody s_is_number_of) (defScope s_is_number_of) .none kV_is_number_of dc_is_number_of pm_is_number_of an_is_number_of cd_is_number_of ct_is_number_of), sl_is_number_of⟩)
    (cF_is_number_of : PySem.W.codeIn K cd_is_number_of "is_number_of" = true)
    (kF_is_number_of : PySem.W.keepIn K (.ref a_is_number_of) = true)
    (aF_is_word_of : PySem.W.nsIn K mainGlobals "is_word_of" = some (some (.ref a_is_word_of)))
    (lF_is_word_of : K.lookup a_is_word_of = some ⟨oc_is_word_of, od_is_word_of, .func (PySem.W.fnOf "is_word_of" "is_word_of" (defArgs s_is_word_of) (defBody s_is_word_of) (defScope s_is_word_of) .none kV_is_word_of dc_is_word_of pm_is_word_of an_is_word_of cd_is_word_of ct_is_word_of), sl_is_word_of⟩)
    (cF_is_word_of : PySem.W.codeIn K cd_is_word_of "is_word_of" = true)
    (kF_is_word_of : PySem.W.keepIn K (.ref a_is_word_of) = true)
    (aF_is_rule : PySem.W.nsIn K mainGlobals "is_rule" = some (some (.ref a_is_rule)))
    (lF_is_rule : K.lookup a_is_rule = some ⟨oc_is_rule, od_is_rule, .func (PySem.W.fnOf "is_rule" "is_rule" (defArgs s_is_rule) (defBody s_is_rule) (defScope s_is_rule) .none kV_is_rule dc_is_rule pm_is_rule an_is_rule cd_is_rule ct_is_rule), sl_is_rule⟩)
    (cF_is_rule : PySem.W.codeIn K cd_is_rule "is_rule" = true)
    (kF_is_rule : PySem.W.keepIn K (.ref a_is_rule) = true)
    (aF_is_rally : PySem.W.nsIn K mainGlobals "is_rally" = some (some (.ref a_is_rally)))
    (lF_is_rally : K.lookup a_is_rally = some ⟨oc_is_rally, od_is_rally, .func (PySem.W.fnOf "is_rally" "is_rally" (defArgs s_is_rally) (defBody s_is_rally) (defScope s_is_rally) .none kV_is_rally dc_is_rally pm_is_rally an_is_rally cd_is_rally ct_is_rally), sl_is_rally⟩)
    (cF_is_rally : PySem.W.codeIn K cd_is_rally "is_rally" = true)
    (kF_is_rally : PySem.W.keepIn K (.ref a_is_rally) = true)
    (aF_is_row : PySem.W.nsIn K mainGlobals "is_row" = some (some (.ref a_is_row)))
    (lF_is_row : K.lookup a_is_row = some ⟨oc_is_row, od_is_row, .func (PySem.W.fnOf "is_row" "is_row" (defArgs s_is_row) (defBody s_is_row) (defScope s_is_row) .none kV_is_row dc_is_row pm_is_row an_is_row cd_is_row ct_is_row), sl_is_row⟩)
    (cF_is_row : PySem.W.codeIn K cd_is_row "is_row" = true)
    (kF_is_row : PySem.W.keepIn K (.ref a_is_row) = true)
    (aF_all_rules : PySem.W.nsIn K mainGlobals "all_rules" = some (some (.ref a_all_rules)))
    (lF_all_rules : K.lookup a_all_rules = some ⟨oc_all_rules, od_all_rules, .func (PySem.W.fnOf "all_rules" "all_rules" (defArgs s_all_rules) (defBody s_all_rules) (defScope s_all_rules) .none kV_all_rules dc_all_rules pm_all_rules an_all_rules cd_all_rules ct_all_rules), sl_all_rules⟩)
    (cF_all_rules : PySem.W.codeIn K cd_all_rules "all_rules" = true)
    (kF_all_rules : PySem.W.keepIn K (.ref a_all_rules) = true)
    (aF_check_rule : PySem.W.nsIn K mainGlobals "check_rule" = some (some (.ref a_check_rule)))
    (lF_check_rule : K.lookup a_check_rule = some ⟨oc_check_rule, od_check_rule, .func (PySem.W.fnOf "check_rule" "check_rule" (defArgs s_check_rule) (defBody s_check_rule) (defScope s_check_rule) .none kV_check_rule dc_check_rule pm_check_rule an_check_rule cd_check_rule ct_check_rule), sl_check_rule⟩)
    (cF_check_rule : PySem.W.codeIn K cd_check_rule "check_rule" = true)
    (kF_check_rule : PySem.W.keepIn K (.ref a_check_rule) = true)
    (aF_check_row : PySem.W.nsIn K mainGlobals "check_row" = some (some (.ref a_check_row)))
    (lF_check_row : K.lookup a_check_row = some ⟨oc_check_row, od_check_row, .func (PySem.W.fnOf "check_row" "check_row" (defArgs s_check_row) (defBody s_check_row) (defScope s_check_row) .none kV_check_row dc_check_row pm_check_row an_check_row cd_check_row ct_check_row), sl_check_row⟩)
    (cF_check_row : PySem.W.codeIn K cd_check_row "check_row" = true)
    (kF_check_row : PySem.W.keepIn K (.ref a_check_row) = true)
    (aF_format_rule : PySem.W.nsIn K mainGlobals "format_rule" = some (some (.ref a_format_rule)))
    (lF_format_rule : K.lookup a_format_rule = some ⟨oc_format_rule, od_format_rule, .func (PySem.W.fnOf "format_rule" "format_rule" (defArgs s_format_rule) (defBody s_format_rule) (defScope s_format_rule) .none kV_format_rule dc_format_rule pm_format_rule an_format_rule cd_format_rule ct_format_rule), sl_format_rule⟩)
    (cF_format_rule : PySem.W.codeIn K cd_format_rule "format_rule" = true)
    (kF_format_rule : PySem.W.keepIn K (.ref a_format_rule) = true)
    (aF_format_row : PySem.W.nsIn K mainGlobals "format_row" = some (some (.ref a_format_row)))
    (lF_format_row : K.lookup a_format_row = some ⟨oc_format_row, od_format_row, .func (PySem.W.fnOf "format_row" "format_row" (defArgs s_format_row) (defBody s_format_row) (defScope s_format_row) .none kV_format_row dc_format_row pm_format_row an_format_row cd_format_row ct_format_row), sl_format_row⟩)
    (cF_format_row : PySem.W.codeIn K cd_format_row "format_row" = true)
    (kF_format_row : PySem.W.keepIn K (.ref a_format_row) = true)
    (aF_check_text : PySem.W.nsIn K mainGlobals "check_text" = some (some (.ref a_check_text)))
    (lF_check_text : K.lookup a_check_text = some ⟨oc_check_text, od_check_text, .func (PySem.W.fnOf "check_text" "check_text" (defArgs s_check_text) (defBody s_check_text) (defScope s_check_text) .none kV_check_text dc_check_text pm_check_text an_check_text cd_check_text ct_check_text), sl_check_text⟩)
    (cF_check_text : PySem.W.codeIn K cd_check_text "check_text" = true)
    (kF_check_text : PySem.W.keepIn K (.ref a_check_text) = true)
    (aF_parse_rule : PySem.W.nsIn K mainGlobals "parse_rule" = some (some (.ref a_parse_rule)))
    (lF_parse_rule : K.lookup a_parse_rule = some ⟨oc_parse_rule, od_parse_rule, .func (PySem.W.fnOf "parse_rule" "parse_rule" (defArgs s_parse_rule) (defBody s_parse_rule) (defScope s_parse_rule) .none kV_parse_rule dc_parse_rule pm_parse_rule an_parse_rule cd_parse_rule ct_parse_rule), sl_parse_rule⟩)
    (cF_parse_rule : PySem.W.codeIn K cd_parse_rule "parse_rule" = true)
    (kF_parse_rule : PySem.W.keepIn K (.ref a_parse_rule) = true)
    (aF_numbers_in : PySem.W.nsIn K mainGlobals "numbers_in" = some (some (.ref a_numbers_in)))
    (lF_numbers_in : K.lookup a_numbers_in = some ⟨oc_numbers_in, od_numbers_in, .func (PySem.W.fnOf "numbers_in" "numbers_in" (defArgs s_numbers_in) (defBody s_numbers_in) (defScope s_numbers_in) .none kV_numbers_in dc_numbers_in pm_numbers_in an_numbers_in cd_numbers_in ct_numbers_in), sl_numbers_in⟩)
    (cF_numbers_in : PySem.W.codeIn K cd_numbers_in "numbers_in" = true)
    (kF_numbers_in : PySem.W.keepIn K (.ref a_numbers_in) = true)
    (aF_parse_row : PySem.W.nsIn K mainGlobals "parse_row" = some (some (.ref a_parse_row)))
    (lF_parse_row : K.lookup a_parse_row = some ⟨oc_parse_row, od_parse_row, .func (PySem.W.fnOf "parse_row" "parse_row" (defArgs s_parse_row) (defBody s_parse_row) (defScope s_parse_row) .none kV_parse_row dc_parse_row pm_parse_row an_parse_row cd_parse_row ct_parse_row), sl_parse_row⟩)
    (cF_parse_row : PySem.W.codeIn K cd_parse_row "parse_row" = true)
    (kF_parse_row : PySem.W.keepIn K (.ref a_parse_row) = true)
    (aF_law_start : PySem.W.nsIn K mainGlobals "_law_start" = some (some (.ref a_law_start)))
    (lF_law_start : K.lookup a_law_start = some ⟨oc_law_start, od_law_start, .func (PySem.W.fnOf "_law_start" "_law_start" (defArgs s_law_start) (defBody s_law_start) (defScope s_law_start) .none kV_law_start dc_law_start pm_law_start an_law_start cd_law_start ct_law_start), sl_law_start⟩)
    (cF_law_start : PySem.W.codeIn K cd_law_start "_law_start" = true)
    (kF_law_start : PySem.W.keepIn K (.ref a_law_start) = true)
    (aF_law_draw : PySem.W.nsIn K mainGlobals "_law_draw" = some (some (.ref a_law_draw)))
    (lF_law_draw : K.lookup a_law_draw = some ⟨oc_law_draw, od_law_draw, .func (PySem.W.fnOf "_law_draw" "_law_draw" (defArgs s_law_draw) (defBody s_law_draw) (defScope s_law_draw) .none kV_law_draw dc_law_draw pm_law_draw an_law_draw cd_law_draw ct_law_draw), sl_law_draw⟩)
    (cF_law_draw : PySem.W.codeIn K cd_law_draw "_law_draw" = true)
    (kF_law_draw : PySem.W.keepIn K (.ref a_law_draw) = true)
    (aF_law_pick : PySem.W.nsIn K mainGlobals "_law_pick" = some (some (.ref a_law_pick)))
    (lF_law_pick : K.lookup a_law_pick = some ⟨oc_law_pick, od_law_pick, .func (PySem.W.fnOf "_law_pick" "_law_pick" (defArgs s_law_pick) (defBody s_law_pick) (defScope s_law_pick) .none kV_law_pick dc_law_pick pm_law_pick an_law_pick cd_law_pick ct_law_pick), sl_law_pick⟩)
    (cF_law_pick : PySem.W.codeIn K cd_law_pick "_law_pick" = true)
    (kF_law_pick : PySem.W.keepIn K (.ref a_law_pick) = true)
    (aF_law_error : PySem.W.nsIn K mainGlobals "_law_error" = some (some (.ref a_law_error)))
    (lF_law_error : K.lookup a_law_error = some ⟨oc_law_error, od_law_error, .func (PySem.W.fnOf "_law_error" "_law_error" (defArgs s_law_error) (defBody s_law_error) (defScope s_law_error) .none kV_law_error dc_law_error pm_law_error an_law_error cd_law_error ct_law_error), sl_law_error⟩)
    (cF_law_error : PySem.W.codeIn K cd_law_error "_law_error" = true)
    (kF_law_error : PySem.W.keepIn K (.ref a_law_error) = true)
    (aF_law_rule : PySem.W.nsIn K mainGlobals "_law_rule" = some (some (.ref a_law_rule)))
    (lF_law_rule : K.lookup a_law_rule = some ⟨oc_law_rule, od_law_rule, .func (PySem.W.fnOf "_law_rule" "_law_rule" (defArgs s_law_rule) (defBody s_law_rule) (defScope s_law_rule) .none kV_law_rule dc_law_rule pm_law_rule an_law_rule cd_law_rule ct_law_rule), sl_law_rule⟩)
    (cF_law_rule : PySem.W.codeIn K cd_law_rule "_law_rule" = true)
    (kF_law_rule : PySem.W.keepIn K (.ref a_law_rule) = true)
    (aF_law_row : PySem.W.nsIn K mainGlobals "_law_row" = some (some (.ref a_law_row)))
    (lF_law_row : K.lookup a_law_row = some ⟨oc_law_row, od_law_row, .func (PySem.W.fnOf "_law_row" "_law_row" (defArgs s_law_row) (defBody s_law_row) (defScope s_law_row) .none kV_law_row dc_law_row pm_law_row an_law_row cd_law_row ct_law_row), sl_law_row⟩)
    (cF_law_row : PySem.W.codeIn K cd_law_row "_law_row" = true)
    (kF_law_row : PySem.W.keepIn K (.ref a_law_row) = true)
    (aF_law_parsed : PySem.W.nsIn K mainGlobals "_law_parsed" = some (some (.ref a_law_parsed)))
    (lF_law_parsed : K.lookup a_law_parsed = some ⟨oc_law_parsed, od_law_parsed, .func (PySem.W.fnOf "_law_parsed" "_law_parsed" (defArgs s_law_parsed) (defBody s_law_parsed) (defScope s_law_parsed) .none kV_law_parsed dc_law_parsed pm_law_parsed an_law_parsed cd_law_parsed ct_law_parsed), sl_law_parsed⟩)
    (cF_law_parsed : PySem.W.codeIn K cd_law_parsed "_law_parsed" = true)
    (kF_law_parsed : PySem.W.keepIn K (.ref a_law_parsed) = true)
    (aF_law_words : PySem.W.nsIn K mainGlobals "_law_words" = some (some (.ref a_law_words)))
    (lF_law_words : K.lookup a_law_words = some ⟨oc_law_words, od_law_words, .func (PySem.W.fnOf "_law_words" "_law_words" (defArgs s_law_words) (defBody s_law_words) (defScope s_law_words) .none kV_law_words dc_law_words pm_law_words an_law_words cd_law_words ct_law_words), sl_law_words⟩)
    (cF_law_words : PySem.W.codeIn K cd_law_words "_law_words" = true)
    (kF_law_words : PySem.W.keepIn K (.ref a_law_words) = true)
    (aF_law_rejected : PySem.W.nsIn K mainGlobals "_law_rejected" = some (some (.ref a_law_rejected)))
    (lF_law_rejected : K.lookup a_law_rejected = some ⟨oc_law_rejected, od_law_rejected, .func (PySem.W.fnOf "_law_rejected" "_law_rejected" (defArgs s_law_rejected) (defBody s_law_rejected) (defScope s_law_rejected) .none kV_law_rejected dc_law_rejected pm_law_rejected an_law_rejected cd_law_rejected ct_law_rejected), sl_law_rejected⟩)
    (cF_law_rejected : PySem.W.codeIn K cd_law_rejected "_law_rejected" = true)
    (kF_law_rejected : PySem.W.keepIn K (.ref a_law_rejected) = true)
    (aF_law : PySem.W.nsIn K mainGlobals "law" = some (some (.ref a_law)))
    (lF_law : K.lookup a_law = some ⟨oc_law, od_law, .func (PySem.W.fnOf "law" "law" (defArgs s_law) (defBody s_law) (defScope s_law) .none kV_law dc_law pm_law an_law cd_law ct_law), sl_law⟩)
    (cF_law : PySem.W.codeIn K cd_law "law" = true)
    (kF_law : PySem.W.keepIn K (.ref a_law) = true)
    (eC_DECIDERS : PySem.W.nsIn K mainGlobals "DECIDERS" = some (some (.ref aC_DECIDERS)))
    (lC_DECIDERS : K.lookup aC_DECIDERS = some ⟨.type "tuple", ddC_DECIDERS, .seq itC_DECIDERS nC_DECIDERS, slC_DECIDERS⟩)
    (vC_DECIDERS : valsD itC_DECIDERS.toList = some [(.str "same"), (.str "longer")])
    (zC_DECIDERS : itC_DECIDERS.size ≤ 1000)
    (eC_DIGITS : PySem.W.nsIn K mainGlobals "DIGITS" = some (some (.str "012345" tC_DIGITS)))
    (eC_GAMES : PySem.W.nsIn K mainGlobals "GAMES" = some (some (.ref aC_GAMES)))
    (lC_GAMES : K.lookup aC_GAMES = some ⟨.type "tuple", ddC_GAMES, .seq itC_GAMES nC_GAMES, slC_GAMES⟩)
    (vC_GAMES : valsD itC_GAMES.toList = some [(.int 1), (.int 2), (.int 3)])
    (zC_GAMES : itC_GAMES.size ≤ 1000)
    (eC_LEADS : PySem.W.nsIn K mainGlobals "LEADS" = some (some (.ref aC_LEADS)))
    (lC_LEADS : K.lookup aC_LEADS = some ⟨.type "tuple", ddC_LEADS, .seq itC_LEADS nC_LEADS, slC_LEADS⟩)
    (vC_LEADS : valsD itC_LEADS.toList = some [(.str "one"), (.str "two"), (.str "cap")])
    (zC_LEADS : itC_LEADS.size ≤ 1000)
    (eC_LONGEST_ROW : PySem.W.nsIn K mainGlobals "LONGEST_ROW" = some (some (.int 60 tC_LONGEST_ROW)))
    (eC_POINTS : PySem.W.nsIn K mainGlobals "POINTS" = some (some (.ref aC_POINTS)))
    (lC_POINTS : K.lookup aC_POINTS = some ⟨.type "tuple", ddC_POINTS, .seq itC_POINTS nC_POINTS, slC_POINTS⟩)
    (vC_POINTS : valsD itC_POINTS.toList = some [(.int 2), (.int 3), (.int 4)])
    (zC_POINTS : itC_POINTS.size ≤ 1000)
    (eC_RALLIES : PySem.W.nsIn K mainGlobals "RALLIES" = some (some (.ref aC_RALLIES)))
    (lC_RALLIES : K.lookup aC_RALLIES = some ⟨.type "tuple", ddC_RALLIES, .seq itC_RALLIES nC_RALLIES, slC_RALLIES⟩)
    (vC_RALLIES : valsD itC_RALLIES.toList = some [(.int 0), (.int 1)])
    (zC_RALLIES : itC_RALLIES.size ≤ 1000)
    (eC_SERVES : PySem.W.nsIn K mainGlobals "SERVES" = some (some (.ref aC_SERVES)))
    (lC_SERVES : K.lookup aC_SERVES = some ⟨.type "tuple", ddC_SERVES, .seq itC_SERVES nC_SERVES, slC_SERVES⟩)
    (vC_SERVES : valsD itC_SERVES.toList = some [(.str "games"), (.str "twos"), (.str "winner"), (.str "only")])
    (zC_SERVES : itC_SERVES.size ≤ 1000)
    (n_ValueError : PySem.W.nsIn K mainGlobals "ValueError" = some none)
    (n_all : PySem.W.nsIn K mainGlobals "all" = some none)
    (n_bool : PySem.W.nsIn K mainGlobals "bool" = some none)
    (n_int : PySem.W.nsIn K mainGlobals "int" = some none)
    (n_isinstance : PySem.W.nsIn K mainGlobals "isinstance" = some none)
    (n_len : PySem.W.nsIn K mainGlobals "len" = some none)
    (n_list : PySem.W.nsIn K mainGlobals "list" = some none)
    (n_range : PySem.W.nsIn K mainGlobals "range" = some none)
    (n_str : PySem.W.nsIn K mainGlobals "str" = some none)
    (n_tuple : PySem.W.nsIn K mainGlobals "tuple" = some none)
    (g_BadBoards : PySem.W.nsIn K mainGlobals "BadBoards" = some (some (.ref c_BadBoards)))
    (i_BadBoards : PySem.W.isClsIn K c_BadBoards = true)
    (t_BadBoards : PySem.W.typeIn K (.ref c_BadBoards) = some (.type "type"))
    (g_BadNumber : PySem.W.nsIn K mainGlobals "BadNumber" = some (some (.ref c_BadNumber)))
    (i_BadNumber : PySem.W.isClsIn K c_BadNumber = true)
    (t_BadNumber : PySem.W.typeIn K (.ref c_BadNumber) = some (.type "type"))
    (g_BadRally : PySem.W.nsIn K mainGlobals "BadRally" = some (some (.ref c_BadRally)))
    (i_BadRally : PySem.W.isClsIn K c_BadRally = true)
    (t_BadRally : PySem.W.typeIn K (.ref c_BadRally) = some (.type "type"))
    (g_BadRule : PySem.W.nsIn K mainGlobals "BadRule" = some (some (.ref c_BadRule)))
    (i_BadRule : PySem.W.isClsIn K c_BadRule = true)
    (t_BadRule : PySem.W.typeIn K (.ref c_BadRule) = some (.type "type"))
    (g_BadText : PySem.W.nsIn K mainGlobals "BadText" = some (some (.ref c_BadText)))
    (i_BadText : PySem.W.isClsIn K c_BadText = true)
    (t_BadText : PySem.W.typeIn K (.ref c_BadText) = some (.type "type"))
    (g_MatchError : PySem.W.nsIn K mainGlobals "MatchError" = some (some (.ref c_MatchError)))
    (i_MatchError : PySem.W.isClsIn K c_MatchError = true)
    (t_MatchError : PySem.W.typeIn K (.ref c_MatchError) = some (.type "type"))
    (g_NotFound : PySem.W.nsIn K mainGlobals "NotFound" = some (some (.ref c_NotFound)))
    (i_NotFound : PySem.W.isClsIn K c_NotFound = true)
    (t_NotFound : PySem.W.typeIn K (.ref c_NotFound) = some (.type "type"))
    (e1_BadRule : PySem.W.findIn K (.ref c_BadRule) "__getattribute__" = some (some (.builtin "BaseException.__getattribute__")))
    (e2_BadRule : PySem.W.findIn K (.ref c_BadRule) "__getattr__" = some none)
    (e3_BadRule : PySem.W.subIn K (.ref c_BadRule) (.type "BaseException") = some true)
    (e4_BadRule : PySem.W.hasDictIn K c_BadRule = true)
    (e5_BadRule : PySem.W.findIn K (.ref c_BadRule) "__class__" = some (some (.builtin "object.__class__")))
    (e6_BadRule : PySem.W.mroIn K c_BadRule (.type "object") = some true)
    (e1_BadRally : PySem.W.findIn K (.ref c_BadRally) "__getattribute__" = some (some (.builtin "BaseException.__getattribute__")))
    (e2_BadRally : PySem.W.findIn K (.ref c_BadRally) "__getattr__" = some none)
    (e3_BadRally : PySem.W.subIn K (.ref c_BadRally) (.type "BaseException") = some true)
    (e4_BadRally : PySem.W.hasDictIn K c_BadRally = true)
    (e5_BadRally : PySem.W.findIn K (.ref c_BadRally) "__class__" = some (some (.builtin "object.__class__")))
    (e6_BadRally : PySem.W.mroIn K c_BadRally (.type "object") = some true)
    (e1_BadBoards : PySem.W.findIn K (.ref c_BadBoards) "__getattribute__" = some (some (.builtin "BaseException.__getattribute__")))
    (e2_BadBoards : PySem.W.findIn K (.ref c_BadBoards) "__getattr__" = some none)
    (e3_BadBoards : PySem.W.subIn K (.ref c_BadBoards) (.type "BaseException") = some true)
    (e4_BadBoards : PySem.W.hasDictIn K c_BadBoards = true)
    (e5_BadBoards : PySem.W.findIn K (.ref c_BadBoards) "__class__" = some (some (.builtin "object.__class__")))
    (e6_BadBoards : PySem.W.mroIn K c_BadBoards (.type "object") = some true)
    (e1_BadNumber : PySem.W.findIn K (.ref c_BadNumber) "__getattribute__" = some (some (.builtin "BaseException.__getattribute__")))
    (e2_BadNumber : PySem.W.findIn K (.ref c_BadNumber) "__getattr__" = some none)
    (e3_BadNumber : PySem.W.subIn K (.ref c_BadNumber) (.type "BaseException") = some true)
    (e4_BadNumber : PySem.W.hasDictIn K c_BadNumber = true)
    (e5_BadNumber : PySem.W.findIn K (.ref c_BadNumber) "__class__" = some (some (.builtin "object.__class__")))
    (e6_BadNumber : PySem.W.mroIn K c_BadNumber (.type "object") = some true)
    (e1_BadText : PySem.W.findIn K (.ref c_BadText) "__getattribute__" = some (some (.builtin "BaseException.__getattribute__")))
    (e2_BadText : PySem.W.findIn K (.ref c_BadText) "__getattr__" = some none)
    (e3_BadText : PySem.W.subIn K (.ref c_BadText) (.type "BaseException") = some true)
    (e4_BadText : PySem.W.hasDictIn K c_BadText = true)
    (e5_BadText : PySem.W.findIn K (.ref c_BadText) "__class__" = some (some (.builtin "object.__class__")))
    (e6_BadText : PySem.W.mroIn K c_BadText (.type "object") = some true)
    (e1_NotFound : PySem.W.findIn K (.ref c_NotFound) "__getattribute__" = some (some (.builtin "BaseException.__getattribute__")))
    (e2_NotFound : PySem.W.findIn K (.ref c_NotFound) "__getattr__" = some none)
    (e3_NotFound : PySem.W.subIn K (.ref c_NotFound) (.type "BaseException") = some true)
    (e4_NotFound : PySem.W.hasDictIn K c_NotFound = true)
    (e5_NotFound : PySem.W.findIn K (.ref c_NotFound) "__class__" = some (some (.builtin "object.__class__")))
    (e6_NotFound : PySem.W.mroIn K c_NotFound (.type "object") = some true)
    (e7 : PySem.W.specialIn K (.builtin "object.__class__") "__get__" = some (some (.builtin "getset_descriptor.__get__")))
    (e8 : PySem.W.takesIn K (.builtin "object.__class__") = some true)
    (x_BadRally : PySem.W.excIn K c_BadRally [.type "ValueError", .type "Exception", .type "BaseException", .type "object"] "ValueError.__new__" = true)
    (p_BadRally : PySem.W.keepIn K (.ref c_BadRally) = true)
    (x_BadRule : PySem.W.excIn K c_BadRule [.type "ValueError", .type "Exception", .type "BaseException", .type "object"] "ValueError.__new__" = true)
    (p_BadRule : PySem.W.keepIn K (.ref c_BadRule) = true)
    (x_BadText : PySem.W.excIn K c_BadText [.type "ValueError", .type "Exception", .type "BaseException", .type "object"] "ValueError.__new__" = true)
    (p_BadText : PySem.W.keepIn K (.ref c_BadText) = true)
    (s_BadBoards_0 : PySem.W.subIn K (.ref c_BadRule) (.ref c_BadBoards) = some false)
    (d_BadBoards_0 : c_BadRule = c_BadBoards → false = true)
    (s_BadBoards_1 : PySem.W.subIn K (.ref c_BadRally) (.ref c_BadBoards) = some false)
    (d_BadBoards_1 : c_BadRally = c_BadBoards → false = true)
    (s_BadBoards_2 : PySem.W.subIn K (.ref c_BadBoards) (.ref c_BadBoards) = some true)
    (d_BadBoards_2 : c_BadBoards = c_BadBoards → true = true)
    (s_BadBoards_3 : PySem.W.subIn K (.ref c_BadNumber) (.ref c_BadBoards) = some false)
    (d_BadBoards_3 : c_BadNumber = c_BadBoards → false = true)
    (s_BadBoards_4 : PySem.W.subIn K (.ref c_BadText) (.ref c_BadBoards) = some false)
    (d_BadBoards_4 : c_BadText = c_BadBoards → false = true)
    (s_BadBoards_5 : PySem.W.subIn K (.ref c_NotFound) (.ref c_BadBoards) = some false)
    (d_BadBoards_5 : c_NotFound = c_BadBoards → false = true)
    (s_BadNumber_0 : PySem.W.subIn K (.ref c_BadRule) (.ref c_BadNumber) = some false)
    (d_BadNumber_0 : c_BadRule = c_BadNumber → false = true)
    (s_BadNumber_1 : PySem.W.subIn K (.ref c_BadRally) (.ref c_BadNumber) = some false)
    (d_BadNumber_1 : c_BadRally = c_BadNumber → false = true)
    (s_BadNumber_2 : PySem.W.subIn K (.ref c_BadBoards) (.ref c_BadNumber) = some false)
    (d_BadNumber_2 : c_BadBoards = c_BadNumber → false = true)
    (s_BadNumber_3 : PySem.W.subIn K (.ref c_BadNumber) (.ref c_BadNumber) = some true)
    (d_BadNumber_3 : c_BadNumber = c_BadNumber → true = true)
    (s_BadNumber_4 : PySem.W.subIn K (.ref c_BadText) (.ref c_BadNumber) = some false)
    (d_BadNumber_4 : c_BadText = c_BadNumber → false = true)
    (s_BadNumber_5 : PySem.W.subIn K (.ref c_NotFound) (.ref c_BadNumber) = some false)
    (d_BadNumber_5 : c_NotFound = c_BadNumber → false = true)
    (s_BadRally_0 : PySem.W.subIn K (.ref c_BadRule) (.ref c_BadRally) = some false)
    (d_BadRally_0 : c_BadRule = c_BadRally → false = true)
    (s_BadRally_1 : PySem.W.subIn K (.ref c_BadRally) (.ref c_BadRally) = some true)
    (d_BadRally_1 : c_BadRally = c_BadRally → true = true)
    (s_BadRally_2 : PySem.W.subIn K (.ref c_BadBoards) (.ref c_BadRally) = some false)
    (d_BadRally_2 : c_BadBoards = c_BadRally → false = true)
    (s_BadRally_3 : PySem.W.subIn K (.ref c_BadNumber) (.ref c_BadRally) = some false)
    (d_BadRally_3 : c_BadNumber = c_BadRally → false = true)
    (s_BadRally_4 : PySem.W.subIn K (.ref c_BadText) (.ref c_BadRally) = some false)
    (d_BadRally_4 : c_BadText = c_BadRally → false = true)
    (s_BadRally_5 : PySem.W.subIn K (.ref c_NotFound) (.ref c_BadRally) = some false)
    (d_BadRally_5 : c_NotFound = c_BadRally → false = true)
    (s_BadRule_0 : PySem.W.subIn K (.ref c_BadRule) (.ref c_BadRule) = some true)
    (d_BadRule_0 : c_BadRule = c_BadRule → true = true)
    (s_BadRule_1 : PySem.W.subIn K (.ref c_BadRally) (.ref c_BadRule) = some false)
    (d_BadRule_1 : c_BadRally = c_BadRule → false = true)
    (s_BadRule_2 : PySem.W.subIn K (.ref c_BadBoards) (.ref c_BadRule) = some false)
    (d_BadRule_2 : c_BadBoards = c_BadRule → false = true)
    (s_BadRule_3 : PySem.W.subIn K (.ref c_BadNumber) (.ref c_BadRule) = some false)
    (d_BadRule_3 : c_BadNumber = c_BadRule → false = true)
    (s_BadRule_4 : PySem.W.subIn K (.ref c_BadText) (.ref c_BadRule) = some false)
    (d_BadRule_4 : c_BadText = c_BadRule → false = true)
    (s_BadRule_5 : PySem.W.subIn K (.ref c_NotFound) (.ref c_BadRule) = some false)
    (d_BadRule_5 : c_NotFound = c_BadRule → false = true)
    (s_BadText_0 : PySem.W.subIn K (.ref c_BadRule) (.ref c_BadText) = some false)
    (d_BadText_0 : c_BadRule = c_BadText → false = true)
    (s_BadText_1 : PySem.W.subIn K (.ref c_BadRally) (.ref c_BadText) = some false)
    (d_BadText_1 : c_BadRally = c_BadText → false = true)
    (s_BadText_2 : PySem.W.subIn K (.ref c_BadBoards) (.ref c_BadText) = some false)
    (d_BadText_2 : c_BadBoards = c_BadText → false = true)
    (s_BadText_3 : PySem.W.subIn K (.ref c_BadNumber) (.ref c_BadText) = some false)
    (d_BadText_3 : c_BadNumber = c_BadText → false = true)
    (s_BadText_4 : PySem.W.subIn K (.ref c_BadText) (.ref c_BadText) = some true)
    (d_BadText_4 : c_BadText = c_BadText → true = true)
    (s_BadText_5 : PySem.W.subIn K (.ref c_NotFound) (.ref c_BadText) = some false)
    (d_BadText_5 : c_NotFound = c_BadText → false = true)
    (s_MatchError_0 : PySem.W.subIn K (.ref c_BadRule) (.ref c_MatchError) = some true)
    (d_MatchError_0 : c_BadRule = c_MatchError → true = true)
    (s_MatchError_1 : PySem.W.subIn K (.ref c_BadRally) (.ref c_MatchError) = some true)
    (d_MatchError_1 : c_BadRally = c_MatchError → true = true)
    (s_MatchError_2 : PySem.W.subIn K (.ref c_BadBoards) (.ref c_MatchError) = some true)
    (d_MatchError_2 : c_BadBoards = c_MatchError → true = true)
    (s_MatchError_3 : PySem.W.subIn K (.ref c_BadNumber) (.ref c_MatchError) = some true)
    (d_MatchError_3 : c_BadNumber = c_MatchError → true = true)
    (s_MatchError_4 : PySem.W.subIn K (.ref c_BadText) (.ref c_MatchError) = some true)
    (d_MatchError_4 : c_BadText = c_MatchError → true = true)
    (s_MatchError_5 : PySem.W.subIn K (.ref c_NotFound) (.ref c_MatchError) = some true)
    (d_MatchError_5 : c_NotFound = c_MatchError → true = true)
    (b_MatchError : PySem.W.subIn K (.ref c_MatchError) (.type "BaseException") = some true)
    (s_NotFound_0 : PySem.W.subIn K (.ref c_BadRule) (.ref c_NotFound) = some false)
    (d_NotFound_0 : c_BadRule = c_NotFound → false = true)
    (s_NotFound_1 : PySem.W.subIn K (.ref c_BadRally) (.ref c_NotFound) = some false)
    (d_NotFound_1 : c_BadRally = c_NotFound → false = true)
    (s_NotFound_2 : PySem.W.subIn K (.ref c_BadBoards) (.ref c_NotFound) = some false)
    (d_NotFound_2 : c_BadBoards = c_NotFound → false = true)
    (s_NotFound_3 : PySem.W.subIn K (.ref c_BadNumber) (.ref c_NotFound) = some false)
    (d_NotFound_3 : c_BadNumber = c_NotFound → false = true)
    (s_NotFound_4 : PySem.W.subIn K (.ref c_BadText) (.ref c_NotFound) = some false)
    (d_NotFound_4 : c_BadText = c_NotFound → false = true)
    (s_NotFound_5 : PySem.W.subIn K (.ref c_NotFound) (.ref c_NotFound) = some true)
    (d_NotFound_5 : c_NotFound = c_NotFound → true = true)
    (s_ValueError_0 : PySem.W.subIn K (.ref c_BadRule) (.type "ValueError") = some true)
    (s_ValueError_1 : PySem.W.subIn K (.ref c_BadRally) (.type "ValueError") = some true)
    (s_ValueError_2 : PySem.W.subIn K (.ref c_BadBoards) (.type "ValueError") = some true)
    (s_ValueError_3 : PySem.W.subIn K (.ref c_BadNumber) (.type "ValueError") = some true)
    (s_ValueError_4 : PySem.W.subIn K (.ref c_BadText) (.type "ValueError") = some true)
    (s_ValueError_5 : PySem.W.subIn K (.ref c_NotFound) (.type "ValueError") = some true)
    (mt_ValueError : PySem.W.kitMeta "ValueError" = true)
    (nRow : PySem.W.nsIn K mainGlobals "0" = some none) :
    LamX.LawAtS l w K (L2.CX l.prog w) 9 63 "_law_script" mg fa h := by
  have e : a_law = fa := by have e := (PySem.W.mg_of X G aF_law).symm.trans hfa; cases e; rfl
  subst e
  have f_is_number_of := fd_mk (st := s_is_number_of) (ps := ["value", "allowed"]) X G aF_is_number_of lF_is_number_of cF_is_number_of kF_is_number_of fun _ _ _ _ _ _ us hl => match us, hl with | [_, _], _ => rfl
  have f_is_word_of := fd_mk (st := s_is_word_of) (ps := ["value", "allowed"]) X G aF_is_word_of lF_is_word_of cF_is_word_of kF_is_word_of fun _ _ _ _ _ _ us hl => match us, hl with | [_, _], _ => rfl
  have f_is_rule := fd_mk (st := s_is_rule) (ps := ["value"]) X G aF_is_rule lF_is_rule cF_is_rule kF_is_rule fun _ _ _ _ _ _ us hl => match us, hl with | [_], _ => rfl
  have f_is_rally := fd_mk (st := s_is_rally) (ps := ["value"]) X G aF_is_rally lF_is_rally cF_is_rally kF_is_rally fun _ _ _ _ _ _ us hl => match us, hl with | [_], _ => rfl
  have f_is_row := fd_mk (st := s_is_row) (ps := ["value"]) X G aF_is_row lF_is_row cF_is_row kF_is_row fun _ _ _ _ _ _ us hl => match us, hl with | [_], _ => rfl
  have f_all_rules := fd_mk (st := s_all_rules) (ps := []) X G aF_all_rules lF_all_rules cF_all_rules kF_all_rules fun _ _ _ _ _ _ us hl => match us, hl with | [], _ => rfl
  have f_check_rule := fd_mk (st := s_check_rule) (ps := ["value"]) X G aF_check_rule lF_check_rule cF_check_rule kF_check_rule fun _ _ _ _ _ _ us hl => match us, hl with | [_], _ => rfl
  have f_check_row := fd_mk (st := s_check_row) (ps := ["value"]) X G aF_check_row lF_check_row cF_check_row kF_check_row fun _ _ _ _ _ _ us hl => match us, hl with | [_], _ => rfl
  have f_format_rule := fd_mk (st := s_format_rule) (ps := ["rule"]) X G aF_format_rule lF_format_rule cF_format_rule kF_format_rule fun _ _ _ _ _ _ us hl => match us, hl with | [_], _ => rfl
  have f_format_row := fd_mk (st := s_format_row) (ps := ["row"]) X G aF_format_row lF_format_row cF_format_row kF_format_row fun _ _ _ _ _ _ us hl => match us, hl with | [_], _ => rfl
  have f_check_text := fd_mk (st := s_check_text) (ps := ["value"]) X G aF_check_text lF_check_text cF_check_text kF_check_text fun _ _ _ _ _ _ us hl => match us, hl with | [_], _ => rfl
  have f_parse_rule := fd_mk (st := s_parse_rule) (ps := ["text"]) X G aF_parse_rule lF_parse_rule cF_parse_rule kF_parse_rule fun _ _ _ _ _ _ us hl => match us, hl with | [_], _ => rfl
  have f_numbers_in := fd_mk (st := s_numbers_in) (ps := ["text"]) X G aF_numbers_in lF_numbers_in cF_numbers_in kF_numbers_in fun _ _ _ _ _ _ us hl => match us, hl with | [_], _ => rfl
  have f_parse_row := fd_mk (st := s_parse_row) (ps := ["text"]) X G aF_parse_row lF_parse_row cF_parse_row kF_parse_row fun _ _ _ _ _ _ us hl => match us, hl with | [_], _ => rfl
  have f_law_start := fd_mk (st := s_law_start) (ps := ["_law_script"]) X G aF_law_start lF_law_start cF_law_start kF_law_start fun _ _ _ _ _ _ us hl => match us, hl with | [_], _ => rfl
  have f_law_draw := fd_mk (st := s_law_draw) (ps := ["_law_draws", "_law_limit"]) X G aF_law_draw lF_law_draw cF_law_draw kF_law_draw fun _ _ _ _ _ _ us hl => match us, hl with | [_, _], _ => rfl
  have f_law_pick := fd_mk (st := s_law_pick) (ps := ["_law_draws", "_law_choices"]) X G aF_law_pick lF_law_pick cF_law_pick kF_law_pick fun _ _ _ _ _ _ us hl => match us, hl with | [_, _], _ => rfl
  have f_law_error := fd_mk (st := s_law_error) (ps := ["_law_caught"]) X G aF_law_error lF_law_error cF_law_error kF_law_error fun _ _ _ _ _ _ us hl => match us, hl with | [_], _ => rfl
  have f_law_rule := fd_mk (st := s_law_rule) (ps := ["_law_draws"]) X G aF_law_rule lF_law_rule cF_law_rule kF_law_rule fun _ _ _ _ _ _ us hl => match us, hl with | [_], _ => rfl
  have f_law_row := fd_mk (st := s_law_row) (ps := ["_law_draws", "_law_longest"]) X G aF_law_row lF_law_row cF_law_row kF_law_row fun _ _ _ _ _ _ us hl => match us, hl with | [_, _], _ => rfl
  have f_law_parsed := fd_mk (st := s_law_parsed) (ps := ["_law_kind", "_law_text"]) X G aF_law_parsed lF_law_parsed cF_law_parsed kF_law_parsed fun _ _ _ _ _ _ us hl => match us, hl with | [_, _], _ => rfl
  have f_law_words := fd_mk (st := s_law_words) (ps := ["_law_kind", "_law_thing"]) X G aF_law_words lF_law_words cF_law_words kF_law_words fun _ _ _ _ _ _ us hl => match us, hl with | [_, _], _ => rfl
  have f_law_rejected := fd_mk (st := s_law_rejected) (ps := []) X G aF_law_rejected lF_law_rejected cF_law_rejected kF_law_rejected fun _ _ _ _ _ _ us hl => match us, hl with | [], _ => rfl
  have f_law := fd_mk (st := s_law) (ps := ["_law_script"]) X G aF_law lF_law cF_law kF_law fun _ _ _ _ _ _ us hl => match us, hl with | [_], _ => rfl
  let T : Tx K mg (⟨clF c_BadRule c_BadRally c_BadBoards c_BadNumber c_BadText c_NotFound, l.prog, w, (fun _ => 0), (fun _ => noLF), (fun _ => 0), []⟩ : CL) := {
    a_is_number_of := a_is_number_of, d_is_number_of := _, f_is_number_of := f_is_number_of,
    a_is_word_of := a_is_word_of, d_is_word_of := _, f_is_word_of := f_is_word_of,
    a_is_rule := a_is_rule, d_is_rule := _, f_is_rule := f_is_rule,
    a_is_rally := a_is_rally, d_is_rally := _, f_is_rally := f_is_rally,
    a_is_row := a_is_row, d_is_row := _, f_is_row := f_is_row,
    a_all_rules := a_all_rules, d_all_rules := _, f_all_rules := f_all_rules,
    a_check_rule := a_check_rule, d_check_rule := _, f_check_rule := f_check_rule,
    a_check_row := a_check_row, d_check_row := _, f_check_row := f_check_row,
    a_format_rule := a_format_rule, d_format_rule := _, f_format_rule := f_format_rule,
    a_format_row := a_format_row, d_format_row := _, f_format_row := f_format_row,
    a_check_text := a_check_text, d_check_text := _, f_check_text := f_check_text,
    a_parse_rule := a_parse_rule, d_parse_rule := _, f_parse_rule := f_parse_rule,
    a_numbers_in := a_numbers_in, d_numbers_in := _, f_numbers_in := f_numbers_in,
    a_parse_row := a_parse_row, d_parse_row := _, f_parse_row := f_parse_row,
    a_law_start := a_law_start, d_law_start := _, f_law_start := f_law_start,
    a_law_draw := a_law_draw, d_law_draw := _, f_law_draw := f_law_draw,
    a_law_pick := a_law_pick, d_law_pick := _, f_law_pick := f_law_pick,
    a_law_error := a_law_error, d_law_error := _, f_law_error := f_law_error,
    a_law_rule := a_law_rule, d_law_rule := _, f_law_rule := f_law_rule,
    a_law_row := a_law_row, d_law_row := _, f_law_row := f_law_row,
    a_law_parsed := a_law_parsed, d_law_parsed := _, f_law_parsed := f_law_parsed,
    a_law_words := a_law_words, d_law_words := _, f_law_words := f_law_words,
    a_law_rejected := a_law_rejected, d_law_rejected := _, f_law_rejected := f_law_rejected,
    a_law := a_law, d_law := _, f_law := f_law,
    g_DECIDERS := gc_K X G eC_DECIDERS lC_DECIDERS zC_DECIDERS vC_DECIDERS,
    g_DIGITS := gc_str (PySem.W.mg_of X G eC_DIGITS),
    g_GAMES := gc_K X G eC_GAMES lC_GAMES zC_GAMES vC_GAMES,
    g_LEADS := gc_K X G eC_LEADS lC_LEADS zC_LEADS vC_LEADS,
    g_LONGEST_ROW := gc_int (PySem.W.mg_of X G eC_LONGEST_ROW),
    g_POINTS := gc_K X G eC_POINTS lC_POINTS zC_POINTS vC_POINTS,
    g_RALLIES := gc_K X G eC_RALLIES lC_RALLIES zC_RALLIES vC_RALLIES,
    g_SERVES := gc_K X G eC_SERVES lC_SERVES zC_SERVES vC_SERVES,
    n_ValueError := PySem.W.mg_none_of X G n_ValueError,
    n_all := PySem.W.mg_none_of X G n_all,
    n_bool := PySem.W.mg_none_of X G n_bool,
    n_int := PySem.W.mg_none_of X G n_int,
    n_isinstance := PySem.W.mg_none_of X G n_isinstance,
    n_len := PySem.W.mg_none_of X G n_len,
    n_list := PySem.W.mg_none_of X G n_list,
    n_range := PySem.W.mg_none_of X G n_range,
    n_str := PySem.W.mg_none_of X G n_str,
    n_tuple := PySem.W.mg_none_of X G n_tuple,
    ex := fun k => match k with | 0 => ⟨e1_BadRule, e2_BadRule, e3_BadRule, e4_BadRule, e5_BadRule, e7, e8, e6_BadRule⟩ | 1 => ⟨e1_BadRally, e2_BadRally, e3_BadRally, e4_BadRally, e5_BadRally, e7, e8, e6_BadRally⟩ | 2 => ⟨e1_BadBoards, e2_BadBoards, e3_BadBoards, e4_BadBoards, e5_BadBoards, e7, e8, e6_BadBoards⟩ | 3 => ⟨e1_BadNumber, e2_BadNumber, e3_BadNumber, e4_BadNumber, e5_BadNumber, e7, e8, e6_BadNumber⟩ | 4 => ⟨e1_BadText, e2_BadText, e3_BadText, e4_BadText, e5_BadText, e7, e8, e6_BadText⟩ | n + 5 => ⟨e1_NotFound, e2_NotFound, e3_NotFound, e4_NotFound, e5_NotFound, e7, e8, e6_NotFound⟩,
    x_BadRally := x_BadRally, k_BadRally := PySem.W.mg_of X G g_BadRally, p_BadRally := p_BadRally, q_BadRally := e3_BadRally, t_BadRally := t_BadRally,
    x_BadRule := x_BadRule, k_BadRule := PySem.W.mg_of X G g_BadRule, p_BadRule := p_BadRule, q_BadRule := e3_BadRule, t_BadRule := t_BadRule,
    x_BadText := x_BadText, k_BadText := PySem.W.mg_of X G g_BadText, p_BadText := p_BadText, q_BadText := e3_BadText, t_BadText := t_BadText,
    k_BadBoards := PySem.W.mg_of X G g_BadBoards,
    s_BadBoards := fun k => match k with | 0 => kit_r i_BadBoards t_BadBoards s_BadBoards_0 d_BadBoards_0 | 1 => kit_r i_BadBoards t_BadBoards s_BadBoards_1 d_BadBoards_1 | 2 => kit_r i_BadBoards t_BadBoards s_BadBoards_2 d_BadBoards_2 | 3 => kit_r i_BadBoards t_BadBoards s_BadBoards_3 d_BadBoards_3 | 4 => kit_r i_BadBoards t_BadBoards s_BadBoards_4 d_BadBoards_4 | n + 5 => kit_r i_BadBoards t_BadBoards s_BadBoards_5 d_BadBoards_5,
    m_BadBoards := fun k => match k with | 0 => exm_r e3_BadBoards i_BadBoards t_BadBoards s_BadBoards_0 | 1 => exm_r e3_BadBoards i_BadBoards t_BadBoards s_BadBoards_1 | 2 => exm_r e3_BadBoards i_BadBoards t_BadBoards s_BadBoards_2 | 3 => exm_r e3_BadBoards i_BadBoards t_BadBoards s_BadBoards_3 | 4 => exm_r e3_BadBoards i_BadBoards t_BadBoards s_BadBoards_4 | n + 5 => exm_r e3_BadBoards i_BadBoards t_BadBoards s_BadBoards_5,
    k_BadNumber := PySem.W.mg_of X G g_BadNumber,
    s_BadNumber := fun k => match k with | 0 => kit_r i_BadNumber t_BadNumber s_BadNumber_0 d_BadNumber_0 | 1 => kit_r i_BadNumber t_BadNumber s_BadNumber_1 d_BadNumber_1 | 2 => kit_r i_BadNumber t_BadNumber s_BadNumber_2 d_BadNumber_2 | 3 => kit_r i_BadNumber t_BadNumber s_BadNumber_3 d_BadNumber_3 | 4 => kit_r i_BadNumber t_BadNumber s_BadNumber_4 d_BadNumber_4 | n + 5 => kit_r i_BadNumber t_BadNumber s_BadNumber_5 d_BadNumber_5,
    m_BadNumber := fun k => match k with | 0 => exm_r e3_BadNumber i_BadNumber t_BadNumber s_BadNumber_0 | 1 => exm_r e3_BadNumber i_BadNumber t_BadNumber s_BadNumber_1 | 2 => exm_r e3_BadNumber i_BadNumber t_BadNumber s_BadNumber_2 | 3 => exm_r e3_BadNumber i_BadNumber t_BadNumber s_BadNumber_3 | 4 => exm_r e3_BadNumber i_BadNumber t_BadNumber s_BadNumber_4 | n + 5 => exm_r e3_BadNumber i_BadNumber t_BadNumber s_BadNumber_5,
    s_BadRally := fun k => match k with | 0 => kit_r i_BadRally t_BadRally s_BadRally_0 d_BadRally_0 | 1 => kit_r i_BadRally t_BadRally s_BadRally_1 d_BadRally_1 | 2 => kit_r i_BadRally t_BadRally s_BadRally_2 d_BadRally_2 | 3 => kit_r i_BadRally t_BadRally s_BadRally_3 d_BadRally_3 | 4 => kit_r i_BadRally t_BadRally s_BadRally_4 d_BadRally_4 | n + 5 => kit_r i_BadRally t_BadRally s_BadRally_5 d_BadRally_5,
    m_BadRally := fun k => match k with | 0 => exm_r e3_BadRally i_BadRally t_BadRally s_BadRally_0 | 1 => exm_r e3_BadRally i_BadRally t_BadRally s_BadRally_1 | 2 => exm_r e3_BadRally i_BadRally t_BadRally s_BadRally_2 | 3 => exm_r e3_BadRally i_BadRally t_BadRally s_BadRally_3 | 4 => exm_r e3_BadRally i_BadRally t_BadRally s_BadRally_4 | n + 5 => exm_r e3_BadRally i_BadRally t_BadRally s_BadRally_5,
    s_BadRule := fun k => match k with | 0 => kit_r i_BadRule t_BadRule s_BadRule_0 d_BadRule_0 | 1 => kit_r i_BadRule t_BadRule s_BadRule_1 d_BadRule_1 | 2 => kit_r i_BadRule t_BadRule s_BadRule_2 d_BadRule_2 | 3 => kit_r i_BadRule t_BadRule s_BadRule_3 d_BadRule_3 | 4 => kit_r i_BadRule t_BadRule s_BadRule_4 d_BadRule_4 | n + 5 => kit_r i_BadRule t_BadRule s_BadRule_5 d_BadRule_5,
    m_BadRule := fun k => match k with | 0 => exm_r e3_BadRule i_BadRule t_BadRule s_BadRule_0 | 1 => exm_r e3_BadRule i_BadRule t_BadRule s_BadRule_1 | 2 => exm_r e3_BadRule i_BadRule t_BadRule s_BadRule_2 | 3 => exm_r e3_BadRule i_BadRule t_BadRule s_BadRule_3 | 4 => exm_r e3_BadRule i_BadRule t_BadRule s_BadRule_4 | n + 5 => exm_r e3_BadRule i_BadRule t_BadRule s_BadRule_5,
    s_BadText := fun k => match k with | 0 => kit_r i_BadText t_BadText s_BadText_0 d_BadText_0 | 1 => kit_r i_BadText t_BadText s_BadText_1 d_BadText_1 | 2 => kit_r i_BadText t_BadText s_BadText_2 d_BadText_2 | 3 => kit_r i_BadText t_BadText s_BadText_3 d_BadText_3 | 4 => kit_r i_BadText t_BadText s_BadText_4 d_BadText_4 | n + 5 => kit_r i_BadText t_BadText s_BadText_5 d_BadText_5,
    m_BadText := fun k => match k with | 0 => exm_r e3_BadText i_BadText t_BadText s_BadText_0 | 1 => exm_r e3_BadText i_BadText t_BadText s_BadText_1 | 2 => exm_r e3_BadText i_BadText t_BadText s_BadText_2 | 3 => exm_r e3_BadText i_BadText t_BadText s_BadText_3 | 4 => exm_r e3_BadText i_BadText t_BadText s_BadText_4 | n + 5 => exm_r e3_BadText i_BadText t_BadText s_BadText_5,
    a_MatchError := c_MatchError, k_MatchError := PySem.W.mg_of X G g_MatchError,
    s_MatchError := fun k => match k with | 0 => kit_r i_MatchError t_MatchError s_MatchError_0 d_MatchError_0 | 1 => kit_r i_MatchError t_MatchError s_MatchError_1 d_MatchError_1 | 2 => kit_r i_MatchError t_MatchError s_MatchError_2 d_MatchError_2 | 3 => kit_r i_MatchError t_MatchError s_MatchError_3 d_MatchError_3 | 4 => kit_r i_MatchError t_MatchError s_MatchError_4 d_MatchError_4 | n + 5 => kit_r i_MatchError t_MatchError s_MatchError_5 d_MatchError_5,
    m_MatchError := fun k => match k with | 0 => exm_r b_MatchError i_MatchError t_MatchError s_MatchError_0 | 1 => exm_r b_MatchError i_MatchError t_MatchError s_MatchError_1 | 2 => exm_r b_MatchError i_MatchError t_MatchError s_MatchError_2 | 3 => exm_r b_MatchError i_MatchError t_MatchError s_MatchError_3 | 4 => exm_r b_MatchError i_MatchError t_MatchError s_MatchError_4 | n + 5 => exm_r b_MatchError i_MatchError t_MatchError s_MatchError_5,
    k_NotFound := PySem.W.mg_of X G g_NotFound,
    s_NotFound := fun k => match k with | 0 => kit_r i_NotFound t_NotFound s_NotFound_0 d_NotFound_0 | 1 => kit_r i_NotFound t_NotFound s_NotFound_1 d_NotFound_1 | 2 => kit_r i_NotFound t_NotFound s_NotFound_2 d_NotFound_2 | 3 => kit_r i_NotFound t_NotFound s_NotFound_3 d_NotFound_3 | 4 => kit_r i_NotFound t_NotFound s_NotFound_4 d_NotFound_4 | n + 5 => kit_r i_NotFound t_NotFound s_NotFound_5 d_NotFound_5,
    m_NotFound := fun k => match k with | 0 => exm_r e3_NotFound i_NotFound t_NotFound s_NotFound_0 | 1 => exm_r e3_NotFound i_NotFound t_NotFound s_NotFound_1 | 2 => exm_r e3_NotFound i_NotFound t_NotFound s_NotFound_2 | 3 => exm_r e3_NotFound i_NotFound t_NotFound s_NotFound_3 | 4 => exm_r e3_NotFound i_NotFound t_NotFound s_NotFound_4 | n + 5 => exm_r e3_NotFound i_NotFound t_NotFound s_NotFound_5,
    s_ValueError := fun k => match k with | 0 => kit_t mt_ValueError s_ValueError_0 | 1 => kit_t mt_ValueError s_ValueError_1 | 2 => kit_t mt_ValueError s_ValueError_2 | 3 => kit_t mt_ValueError s_ValueError_3 | 4 => kit_t mt_ValueError s_ValueError_4 | n + 5 => kit_t mt_ValueError s_ValueError_5 }
  exact ⟨T.d_law, [], spX K (⟨clF c_BadRule c_BadRally c_BadBoards c_BadNumber c_BadText c_NotFound, l.prog, w, (fun _ => 0), (fun _ => noLF), (fun _ => 0), []⟩ : CL) F_law 1, fun p hp => (nomatch hp), fun p hp => (nomatch hp), fun p hp => (nomatch hp), fun s u => .of_eq rfl, fun H a ns h1 h2 h3 h4 => start_sp0 (main ns h1 h2) nRow h4 (fun p hp => nomatch hp), fun base _ _ hTB => ok_all T⟩
end MP

theorem MP.main : ∀ ns : List Int, ns.length ≤ 63 → (∀ z ∈ ns, PySem.Builtin.Int.intBits z ≤ 1048576) → ∀ o, MP.itemsOf [o] 0 = some (ns.map MP.D.int) → MP.F_law [.ref 0] [o] (fun d _ => d = .bl true) (fun _ _ => False) :=
  fun _ _ _ _ e => MP.law_main e
open PySem PySem.W PyProof.Rows in
set_option maxRecDepth 100000 in
set_option maxHeartbeats 0 in
theorem PySem.Challenge.cw_matchboards_k14_whole_texts_holds : PySem.Challenge.rw_matchboards_k14_whole_texts.Holds := by
  w_on; o_law; k_head; (case hw => w_witness2)
  k_fill
  refine MP.walkT (l := PySem.Challenge.rw_matchboards_k14_whole_texts) (n := 63) (k := 9) (x := "_law_script") (CX := fun w => L2.CX PySem.Challenge.pw_matchboards_k14_whole_texts w) rfl (by decide) rfl ⟨rfl, by decide, by decide⟩ (fun w h Y => PySem.W.kIn_of Y) ?F ?C
  case C => intro w H s e s' h; exact MP.cx_no h
  case F =>
    intro w mg mb mean fa h Y KX T G hmg
    refine' MP.all_mk (l := PySem.Challenge.rw_matchboards_k14_whole_texts) KX G hmg MP.main ?aF_is_number_of ?lF_is_number_of ?cF_is_number_of ?kF_is_number_of ?aF_is_word_of ?lF_is_word_of ?cF_is_word_of ?kF_is_word_of ?aF_is_rule ?lF_is_rule ?cF_is_rule ?kF_is_rule ?aF_is_rally ?lF_is_rally ?cF_is_rally ?kF_is_rally ?aF_is_row ?lF_is_row ?cF_is_row ?kF_is_row ?aF_all_rules ?lF_all_rules ?cF_all_rules ?kF_all_rules ?aF_check_rule ?lF_check_rule ?cF_check_rule ?kF_check_rule ?aF_check_row ?lF_check_row ?cF_check_row ?kF_check_row ?aF_format_rule ?lF_format_rule ?cF_format_rule ?kF_format_rule ?aF_format_row ?lF_format_row ?cF_format_row ?kF_format_row ?aF_check_text ?lF_check_text ?cF_check_text ?kF_check_text ?aF_parse_rule ?lF_parse_rule ?cF_parse_rule ?kF_parse_rule ?aF_numbers_in ?lF_numbers_in ?cF_numbers_in ?kF_numbers_in ?aF_parse_row ?lF_parse_row ?cF_parse_row ?kF_parse_row ?aF_law_start ?lF_law_start ?cF_law_start ?kF_law_start ?aF_law_draw ?lF_law_draw ?cF_law_draw ?kF_law_draw ?aF_law_pick ?lF_law_pick ?cF_law_pick ?kF_law_pick ?aF_law_error ?lF_law_error ?cF_law_error ?kF_law_error ?aF_law_rule ?lF_law_rule ?cF_law_rule ?kF_law_rule ?aF_law_row ?lF_law_row ?cF_law_row ?kF_law_row ?aF_law_parsed ?lF_law_parsed ?cF_law_parsed ?kF_law_parsed ?aF_law_words ?lF_law_words ?cF_law_words ?kF_law_words ?aF_law_rejected ?lF_law_rejected ?cF_law_rejected ?kF_law_rejected ?aF_law ?lF_law ?cF_law ?kF_law ?eC_DECIDERS ?lC_DECIDERS ?vC_DECIDERS ?zC_DECIDERS ?eC_DIGITS ?eC_GAMES ?lC_GAMES ?vC_GAMES ?zC_GAMES ?eC_LEADS ?lC_LEADS ?vC_LEADS ?zC_LEADS ?eC_LONGEST_ROW ?eC_POINTS ?lC_POINTS ?vC_POINTS ?zC_POINTS ?eC_RALLIES ?lC_RALLIES ?vC_RALLIES ?zC_RALLIES ?eC_SERVES ?lC_SERVES ?vC_SERVES ?zC_SERVES ?n_ValueError ?n_all ?n_bool ?n_int ?n_isinstance ?n_len ?n_list ?n_range ?n_str ?n_tuple ?g_BadBoards ?i_BadBoards ?t_BadBoards ?g_BadNumber ?i_BadNumber ?t_BadNumber ?g_BadRally ?i_BadRally ?t_BadRally ?g_BadRule ?i_BadRule ?t_BadRule ?g_BadText ?i_BadText ?t_BadText ?g_MatchError ?i_MatchError ?t_MatchError ?g_NotFound ?i_NotFound ?t_NotFound ?e1_BadRule ?e2_BadRule ?e3_BadRule ?e4_BadRule ?e5_BadRule ?e6_BadRule ?e1_BadRally ?e2_BadRally ?e3_BadRally ?e4_BadRally ?e5_BadRally ?e6_BadRally ?e1_BadBoards ?e2_BadBoards ?e3_BadBoards ?e4_BadBoards ?e5_BadBoards ?e6_BadBoards ?e1_BadNumber ?e2_BadNumber ?e3_BadNumber ?e4_BadNumber ?e5_BadNumber ?e6_BadNumber ?e1_BadText ?e2_BadText ?e3_BadText ?e4_BadText ?e5_BadText ?e6_BadText ?e1_NotFound ?e2_NotFound ?e3_NotFound ?e4_NotFound ?e5_NotFound ?e6_NotFound ?e7 ?e8 ?x_BadRally ?p_BadRally ?x_BadRule ?p_BadRule ?x_BadText ?p_BadText ?s_BadBoards_0 ?d_BadBoards_0 ?s_BadBoards_1 ?d_BadBoards_1 ?s_BadBoards_2 ?d_BadBoards_2 ?s_BadBoards_3 ?d_BadBoards_3 ?s_BadBoards_4 ?d_BadBoards_4 ?s_BadBoards_5 ?d_BadBoards_5 ?s_BadNumber_0 ?d_BadNumber_0 ?s_BadNumber_1 ?d_BadNumber_1 ?s_BadNumber_2 ?d_BadNumber_2 ?s_BadNumber_3 ?d_BadNumber_3 ?s_BadNumber_4 ?d_BadNumber_4 ?s_BadNumber_5 ?d_BadNumber_5 ?s_BadRally_0 ?d_BadRally_0 ?s_BadRally_1 ?d_BadRally_1 ?s_BadRally_2 ?d_BadRally_2 ?s_BadRally_3 ?d_BadRally_3 ?s_BadRally_4 ?d_BadRally_4 ?s_BadRally_5 ?d_BadRally_5 ?s_BadRule_0 ?d_BadRule_0 ?s_BadRule_1 ?d_BadRule_1 ?s_BadRule_2 ?d_BadRule_2 ?s_BadRule_3 ?d_BadRule_3 ?s_BadRule_4 ?d_BadRule_4 ?s_BadRule_5 ?d_BadRule_5 ?s_BadText_0 ?d_BadText_0 ?s_BadText_1 ?d_BadText_1 ?s_BadText_2 ?d_BadText_2 ?s_BadText_3 ?d_BadText_3 ?s_BadText_4 ?d_BadText_4 ?s_BadText_5 ?d_BadText_5 ?s_MatchError_0 ?d_MatchError_0 ?s_MatchError_1 ?d_MatchError_1 ?s_MatchError_2 ?d_MatchError_2 ?s_MatchError_3 ?d_MatchError_3 ?s_MatchError_4 ?d_MatchError_4 ?s_MatchError_5 ?d_MatchError_5 ?b_MatchError ?s_NotFound_0 ?d_NotFound_0 ?s_NotFound_1 ?d_NotFound_1 ?s_NotFound_2 ?d_NotFound_2 ?s_NotFound_3 ?d_NotFound_3 ?s_NotFound_4 ?d_NotFound_4 ?s_NotFound_5 ?d_NotFound_5 ?s_ValueError_0 ?s_ValueError_1 ?s_ValueError_2 ?s_ValueError_3 ?s_ValueError_4 ?s_ValueError_5 ?mt_ValueError ?nRow
    (case aF_is_number_of => k_is)
    (case lF_is_number_of => k_is)
    (case cF_is_number_of => k_is)
    (case kF_is_number_of => k_is)
    (case aF_is_word_of => k_is)
    (case lF_is_word_of => k_is)
    (case cF_is_word_of => k_is)
    (case kF_is_word_of => k_is)
    (case aF_is_rule => k_is)
    (case lF_is_rule => k_is)
    (case cF_is_rule => k_is)
    (case kF_is_rule => k_is)
    (case aF_is_rally => k_is)
    (case lF_is_rally => k_is)
    (case cF_is_rally => k_is)
    (case kF_is_rally => k_is)
    (case aF_is_row => k_is)
    (case lF_is_row => k_is)
    (case cF_is_row => k_is)
    (case kF_is_row => k_is)
    (case aF_all_rules => k_is)
    (case lF_all_rules => k_is)
    (case cF_all_rules => k_is)
    (case kF_all_rules => k_is)
    (case aF_check_rule => k_is)
    (case lF_check_rule => k_is)
    (case cF_check_rule => k_is)
    (case kF_check_rule => k_is)
    (case aF_check_row => k_is)
    (case lF_check_row => k_is)
    (case cF_check_row => k_is)
    (case kF_check_row => k_is)
    (case aF_format_rule => k_is)
    (case lF_format_rule => k_is)
    (case cF_format_rule => k_is)
    (case kF_format_rule => k_is)
    (case aF_format_row => k_is)
    (case lF_format_row => k_is)
    (case cF_format_row => k_is)
    (case kF_format_row => k_is)
    (case aF_check_text => k_is)
    (case lF_check_text => k_is)
    (case cF_check_text => k_is)
    (case kF_check_text => k_is)
    (case aF_parse_rule => k_is)
    (case lF_parse_rule => k_is)
    (case cF_parse_rule => k_is)
    (case kF_parse_rule => k_is)
    (case aF_numbers_in => k_is)
    (case lF_numbers_in => k_is)
    (case cF_numbers_in => k_is)
    (case kF_numbers_in => k_is)
    (case aF_parse_row => k_is)
    (case lF_parse_row => k_is)
    (case cF_parse_row => k_is)
    (case kF_parse_row => k_is)
    (case aF_law_start => k_is)
    (case lF_law_start => k_is)
    (case cF_law_start => k_is)
    (case kF_law_start => k_is)
    (case aF_law_draw => k_is)
    (case lF_law_draw => k_is)
    (case cF_law_draw => k_is)
    (case kF_law_draw => k_is)
    (case aF_law_pick => k_is)
    (case lF_law_pick => k_is)
    (case cF_law_pick => k_is)
    (case kF_law_pick => k_is)
    (case aF_law_error => k_is)
    (case lF_law_error => k_is)
    (case cF_law_error => k_is)
    (case kF_law_error => k_is)
    (case aF_law_rule => k_is)
    (case lF_law_rule => k_is)
    (case cF_law_rule => k_is)
    (case kF_law_rule => k_is)
    (case aF_law_row => k_is)
    (case lF_law_row => k_is)
    (case cF_law_row => k_is)
    (case kF_law_row => k_is)
    (case aF_law_parsed => k_is)
    (case lF_law_parsed => k_is)
    (case cF_law_parsed => k_is)
    (case kF_law_parsed => k_is)
    (case aF_law_words => k_is)
    (case lF_law_words => k_is)
    (case cF_law_words => k_is)
    (case kF_law_words => k_is)
    (case aF_law_rejected => k_is)
    (case lF_law_rejected => k_is)
    (case cF_law_rejected => k_is)
    (case kF_law_rejected => k_is)
    (case aF_law => k_is)
    (case lF_law => k_is)
    (case cF_law => k_is)
    (case kF_law => k_is)
    (case eC_DECIDERS => k_is)
    (case lC_DECIDERS => k_is)
    (case vC_DECIDERS => rfl)
    (case zC_DECIDERS => decide)
    (case eC_DIGITS => k_is)
    (case eC_GAMES => k_is)
    (case lC_GAMES => k_is)
    (case vC_GAMES => rfl)
    (case zC_GAMES => decide)
    (case eC_LEADS => k_is)
    (case lC_LEADS => k_is)
    (case vC_LEADS => rfl)
    (case zC_LEADS => decide)
    (case eC_LONGEST_ROW => k_is)
    (case eC_POINTS => k_is)
    (case lC_POINTS => k_is)
    (case vC_POINTS => rfl)
    (case zC_POINTS => decide)
    (case eC_RALLIES => k_is)
    (case lC_RALLIES => k_is)
    (case vC_RALLIES => rfl)
    (case zC_RALLIES => decide)
    (case eC_SERVES => k_is)
    (case lC_SERVES => k_is)
    (case vC_SERVES => rfl)
    (case zC_SERVES => decide)
    (case n_ValueError => k_is)
    (case n_all => k_is)
    (case n_bool => k_is)
    (case n_int => k_is)
    (case n_isinstance => k_is)
    (case n_len => k_is)
    (case n_list => k_is)
    (case n_range => k_is)
    (case n_str => k_is)
    (case n_tuple => k_is)
    (case g_BadBoards => k_is)
    (case i_BadBoards => k_is)
    (case t_BadBoards => k_is)
    (case g_BadNumber => k_is)
    (case i_BadNumber => k_is)
    (case t_BadNumber => k_is)
    (case g_BadRally => k_is)
    (case i_BadRally => k_is)
    (case t_BadRally => k_is)
    (case g_BadRule => k_is)
    (case i_BadRule => k_is)
    (case t_BadRule => k_is)
    (case g_BadText => k_is)
    (case i_BadText => k_is)
    (case t_BadText => k_is)
    (case g_MatchError => k_is)
    (case i_MatchError => k_is)
    (case t_MatchError => k_is)
    (case g_NotFound => k_is)
    (case i_NotFound => k_is)
    (case t_NotFound => k_is)
    (case e1_BadRule => k_is)
    (case e2_BadRule => k_is)
    (case e3_BadRule => k_is)
    (case e4_BadRule => k_is)
    (case e5_BadRule => k_is)
    (case e6_BadRule => k_is)
    (case e1_BadRally => k_is)
    (case e2_BadRally => k_is)
    (case e3_BadRally => k_is)
    (case e4_BadRally => k_is)
    (case e5_BadRally => k_is)
    (case e6_BadRally => k_is)
    (case e1_BadBoards => k_is)
    (case e2_BadBoards => k_is)
    (case e3_BadBoards => k_is)
    (case e4_BadBoards => k_is)
    (case e5_BadBoards => k_is)
    (case e6_BadBoards => k_is)
    (case e1_BadNumber => k_is)
    (case e2_BadNumber => k_is)
    (case e3_BadNumber => k_is)
    (case e4_BadNumber => k_is)
    (case e5_BadNumber => k_is)
    (case e6_BadNumber => k_is)
    (case e1_BadText => k_is)
    (case e2_BadText => k_is)
    (case e3_BadText => k_is)
    (case e4_BadText => k_is)
    (case e5_BadText => k_is)
    (case e6_BadText => k_is)
    (case e1_NotFound => k_is)
    (case e2_NotFound => k_is)
    (case e3_NotFound => k_is)
    (case e4_NotFound => k_is)
    (case e5_NotFound => k_is)
    (case e6_NotFound => k_is)
    (case e7 => k_is)
    (case e8 => k_is)
    (case x_BadRally => k_exc)
    (case p_BadRally => k_is)
    (case x_BadRule => k_exc)
    (case p_BadRule => k_is)
    (case x_BadText => k_exc)
    (case p_BadText => k_is)
    (case s_BadBoards_0 => k_is)
    (case d_BadBoards_0 => decide)
    (case s_BadBoards_1 => k_is)
    (case d_BadBoards_1 => decide)
    (case s_BadBoards_2 => k_is)
    (case d_BadBoards_2 => decide)
    (case s_BadBoards_3 => k_is)
    (case d_BadBoards_3 => decide)
    (case s_BadBoards_4 => k_is)
    (case d_BadBoards_4 => decide)
    (case s_BadBoards_5 => k_is)
    (case d_BadBoards_5 => decide)
    (case s_BadNumber_0 => k_is)
    (case d_BadNumber_0 => decide)
    (case s_BadNumber_1 => k_is)
    (case d_BadNumber_1 => decide)
    (case s_BadNumber_2 => k_is)
    (case d_BadNumber_2 => decide)
    (case s_BadNumber_3 => k_is)
    (case d_BadNumber_3 => decide)
    (case s_BadNumber_4 => k_is)
    (case d_BadNumber_4 => decide)
    (case s_BadNumber_5 => k_is)
    (case d_BadNumber_5 => decide)
    (case s_BadRally_0 => k_is)
    (case d_BadRally_0 => decide)
    (case s_BadRally_1 => k_is)
    (case d_BadRally_1 => decide)
    (case s_BadRally_2 => k_is)
    (case d_BadRally_2 => decide)
    (case s_BadRally_3 => k_is)
    (case d_BadRally_3 => decide)
    (case s_BadRally_4 => k_is)
    (case d_BadRally_4 => decide)
    (case s_BadRally_5 => k_is)
    (case d_BadRally_5 => decide)
    (case s_BadRule_0 => k_is)
    (case d_BadRule_0 => decide)
    (case s_BadRule_1 => k_is)
    (case d_BadRule_1 => decide)
    (case s_BadRule_2 => k_is)
    (case d_BadRule_2 => decide)
    (case s_BadRule_3 => k_is)
    (case d_BadRule_3 => decide)
    (case s_BadRule_4 => k_is)
    (case d_BadRule_4 => decide)
    (case s_BadRule_5 => k_is)
    (case d_BadRule_5 => decide)
    (case s_BadText_0 => k_is)
    (case d_BadText_0 => decide)
    (case s_BadText_1 => k_is)
    (case d_BadText_1 => decide)
    (case s_BadText_2 => k_is)
    (case d_BadText_2 => decide)
    (case s_BadText_3 => k_is)
    (case d_BadText_3 => decide)
    (case s_BadText_4 => k_is)
    (case d_BadText_4 => decide)
    (case s_BadText_5 => k_is)
    (case d_BadText_5 => decide)
    (case s_MatchError_0 => k_is)
    (case d_MatchError_0 => decide)
    (case s_MatchError_1 => k_is)
    (case d_MatchError_1 => decide)
    (case s_MatchError_2 => k_is)
    (case d_MatchError_2 => decide)
    (case s_MatchError_3 => k_is)
    (case d_MatchError_3 => decide)
    (case s_MatchError_4 => k_is)
    (case d_MatchError_4 => decide)
    (case s_MatchError_5 => k_is)
    (case d_MatchError_5 => decide)
    (case b_MatchError => k_is)
    (case s_NotFound_0 => k_is)
    (case d_NotFound_0 => decide)
    (case s_NotFound_1 => k_is)
    (case d_NotFound_1 => decide)
    (case s_NotFound_2 => k_is)
    (case d_NotFound_2 => decide)
    (case s_NotFound_3 => k_is)
    (case d_NotFound_3 => decide)
    (case s_NotFound_4 => k_is)
    (case d_NotFound_4 => decide)
    (case s_NotFound_5 => k_is)
    (case d_NotFound_5 => decide)
    (case s_ValueError_0 => k_is)
    (case s_ValueError_1 => k_is)
    (case s_ValueError_2 => k_is)
    (case s_ValueError_3 => k_is)
    (case s_ValueError_4 => k_is)
    (case s_ValueError_5 => k_is)
    (case mt_ValueError => decide +kernel)
    (case nRow => k_is)
