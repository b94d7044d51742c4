import PyProof.Rows.All
import Wide.All
import OpenK.AllK
import Wide.FinOn
import PyProof.EqAt
import PyProof.EqKinds
import PyProof.TupleCall
import KE.KDictKeyed
import HandS.ForSpec
import HandS.Dict
import HandS.TupLen
import HandS.Conv
import PyProof.InstStoreFacts
import KE.KFromBytes
import HandS.ExcInit
import HandS.ExcField
import PyProof.Rows.TupDisplay
import HandS.CallLocal
import HandS.CallSlots
import PySem.Challenge.RW_macroplays_s01_answers
import HandS.TupAny
import HandS.Iter
import HandS.Comp
import Open.SpecLaws
import KE.OsGo
import HandS.TryMany
set_option Elab.async false
set_option linter.all false
set_option maxRecDepth 100000
set_option maxHeartbeats 20000000
/-! Dicts whose keys are the editor's states: a tuple of a tuple of ints, an int, an int. -/
namespace Mp
open PySem PySem.Spec PyProof.Rows L2

structure Ek where
  text : List Int
  at_ : Int
  held : Int
  deriving DecidableEq

def Ek.key (e : Ek) : NestedKey := .tup [.tup (e.text.map NestedKey.num), .num e.at_, .num e.held]
theorem nums_inj : ∀ {a b : List Int}, a.map NestedKey.num = b.map NestedKey.num → a = b
  | [], [], _ => rfl
  | [], _ :: _, h => by simp at h
  | _ :: _, [], h => by simp at h
  | x :: a, y :: b, h => by
    rw [List.map_cons, List.map_cons] at h
    injection h with h1 h2
    injection h1 with h3
    rw [h3, nums_inj h2]
theorem Ek.key_inj {e f : Ek} (h : e.key = f.key) : e = f := by
  obtain ⟨t, a, b⟩ := e
  obtain ⟨t', a', b'⟩ := f
  unfold Ek.key at h
  injection h with h
  injection h with h1 h
  injection h with h2 h
  injection h with h3 h
  injection h1 with h1
  injection h2 with h2
  injection h3 with h3
  have := nums_inj h1
  subst this h2 h3
  rfl
theorem nums_depth : ∀ xs : List Int, NestedKey.depthAll (xs.map NestedKey.num) = 0
  | [] => rfl
  | x :: xs => by
    rw [List.map_cons, NestedKey.depthAll, nums_depth xs]
    rfl
theorem Ek.key_depth (e : Ek) : e.key.depth ≤ 8 := by
  unfold Ek.key
  simp only [NestedKey.depth, NestedKey.depthAll, nums_depth]
  omega

/-- the tuple at b is the state e -/
def StAt (H : Hp) (b : Addr) (e : Ek) : Prop := ∃ t, H b = some (.tup [.ref t, .int e.at_, .int e.held]) ∧ H t = some (.tup (e.text.map V.int))

theorem nums_all {h : Heap} : ∀ {xs : List Int} {vs : List Value}, Vals (xs.map V.int) vs → NestedAll h (xs.map NestedKey.num) vs
  | [], _, .nil => .nil
  | x :: xs, _, .cons r t => by
    obtain ⟨k, e⟩ := (show ∃ t, _ = Value.int x t from r)
    subst e
    exact .cons (.int _ _) (nums_all t)
theorem StAt.is {P : Program} {w : World} {H : Hp} {h : Heap} {b : Addr} {e : Ek} (ok : HOk P w H h) (s : StAt H b e) : (nestedKind P w).is h e.key b := by
  obtain ⟨t, hb, ht⟩ := s
  refine ⟨?_, e.key_depth⟩
  obtain ⟨_, its, r, o, h1, h2, n, h3⟩ := (show ObjOk P w H h b (.tup [.ref t, .int e.at_, .int e.held]) from ok b _ hb)
  obtain ⟨_, its', r', o', h1', h2', n', h3'⟩ := (show ObjOk P w H h t (.tup (e.text.map V.int)) from ok t _ ht)
  refine .tup h1 h2 h3 ?_
  show NestedAll h _ its
  cases r with
  | cons ra r =>
    cases r with
    | cons rb r =>
      cases r with
      | cons rc r =>
        cases r
        cases (show _ = Value.ref t from ra)
        obtain ⟨tb, rfl⟩ := (show ∃ t, _ = Value.int e.at_ t from rb)
        obtain ⟨tc, rfl⟩ := (show ∃ t, _ = Value.int e.held t from rc)
        exact .cons (.tup h1' h2' h3' (nums_all r')) (.cons (.int _ _) (.cons (.int _ _) .nil))
theorem StAt.keep {H H' : Hp} {b : Addr} {e : Ek} (s : StAt H b e) (k : ∀ c xs, H c = some (.tup xs) → H' c = some (.tup xs)) : StAt H' b e := by
  obtain ⟨t, hb, ht⟩ := s
  exact ⟨t, k _ _ hb, k _ _ ht⟩

/-- an entry: the state, where its tuple lies, its value -/
abbrev En := Ek × Addr × V
def NR (p : En) (q : NestedKey × Addr × Value) : Prop := q.1 = p.1.key ∧ q.2.1 = p.2.1 ∧ RelV p.2.2 q.2.2
def ndPhi (P : Program) (w : World) (d : Addr) (kvs : List En) (h : Heap) : Prop :=
  kvs.length ≤ sizeLine ∧ (d == sysModules) = false ∧ ∃ xs, Paired NR kvs xs ∧ ∃ o es ep, h.get? d = some o ∧ o.ExactDict ∧ o.data = .dict es ep ∧
    es.toList = xs.map (entryOfKey (nestedKind P w)) ∧ (xs.map (·.1)).Nodup
/-- at d: a dict with these entries, in the order in which they came -/
def nd (P : Program) (w : World) (d : Addr) (kvs : List En) : HO := .ext (ndPhi P w d kvs)
def KeysAt (H : Hp) (kvs : List En) : Prop := ∀ x ∈ kvs, StAt H x.2.1 x.1
theorem KeysAt.keep {H H' : Hp} {kvs : List En} (s : KeysAt H kvs) (k : ∀ c xs, H c = some (.tup xs) → H' c = some (.tup xs)) : KeysAt H' kvs := fun x hx => (s x hx).keep k
theorem nd_ok {P : Program} {w : World} {H : Hp} {h : Heap} {d : Addr} {kvs : List En} (x : ndPhi P w d kvs h) : ObjOk P w H h d (nd P w d kvs) := by
  have y := x
  obtain ⟨_, _, xs, _, o, _, _, e, _⟩ := y
  refine ⟨x, ⟨o, e⟩, fun h1 h2 z k => ?_⟩
  obtain ⟨a1, a2, xs, a3, o, es, ep, a4, a5⟩ := z
  exact ⟨a1, a2, xs, a3, o, es, ep, k _ a4, a5⟩
theorem nd_at {P : Program} {w : World} {H : Hp} {h : Heap} {d : Addr} {kvs : List En} (ok : HOk P w H h) (e : H d = some (nd P w d kvs)) : ndPhi P w d kvs h := by
  have x : ObjOk P w H h d (.ext (ndPhi P w d kvs)) := ok d _ e
  exact x.1
theorem nd_mut {P : Program} {w : World} {d : Addr} {kvs : List En} : Mut (some (nd P w d kvs)) := trivial
theorem nd_tup {P : Program} {w : World} {d : Addr} {kvs : List En} {xs : List V} : nd P w d kvs ≠ .tup xs := fun z => by
  have z' : HO.ext _ = HO.tup xs := z
  cases z'
theorem nd_of {P : Program} {w : World} {H : Hp} {h : Heap} {d : Addr} {kvs : List En} (ok : HOk P w H h) (e : H d = some (nd P w d kvs)) (ka : KeysAt H kvs) :
    kvs.length ≤ sizeLine ∧ (d == sysModules) = false ∧ ∃ xs, Paired NR kvs xs ∧ h.DictOfH (nestedKind P w) d xs := by
  obtain ⟨a1, a2, xs, a3, o, es, ep, a4, a5, a6, a7, a8⟩ := nd_at ok e
  refine ⟨a1, a2, xs, a3, o, es, ep, a4, a5, a6, a7, fun x hx => ?_, a8⟩
  have all : ∀ {l : List En} {m : List (NestedKey × Addr × Value)}, Paired NR l m → (∀ x ∈ l, StAt H x.2.1 x.1) → ∀ x ∈ m, (nestedKind P w).is h x.1 x.2.1 := by
    intro l m q
    induction q with
    | nil => intro _ x hx; exact nomatch hx
    | @cons p q ps qs hq t ih =>
      intro hl x hx
      rcases List.mem_cons.mp hx with e | hx
      · subst e
        rw [hq.1, hq.2.1]
        exact (hl p List.mem_cons_self).is ok
      · exact ih (fun y hy => hl y (List.mem_cons_of_mem _ hy)) x hx
  exact all a3 ka x hx
/-- the value at e -/
def valN (kvs : List En) (e : Ek) : Option V := (kvs.find? fun x => decide (x.1 = e)).map (·.2.2)
theorem NR.val {e : Ek} : ∀ {kvs : List En} {xs : List (NestedKey × Addr × Value)}, Paired NR kvs xs → RelO (valN kvs e) ((atKey xs e.key).map (·.2))
  | _, _, .nil => trivial
  | p :: l, q :: m, .cons r t => by
    unfold valN atKey
    rw [List.find?_cons, List.find?_cons]
    by_cases h : p.1 = e
    · have h' : q.1 = e.key := by rw [r.1, h]
      rw [decide_eq_true h, decide_eq_true h']
      exact r.2.2
    · have h' : ¬ q.1 = e.key := fun z => h (Ek.key_inj (r.1.symm.trans z))
      rw [decide_eq_false h, decide_eq_false h']
      exact NR.val t
theorem valN_none {kvs : List En} {e : Ek} (h : e ∉ kvs.map (·.1)) : valN kvs e = none := by
  unfold valN
  rw [List.find?_eq_none.mpr]
  · rfl
  · intro x hx z
    exact h (List.mem_map.mpr ⟨x, hx, of_decide_eq_true z⟩)
theorem valN_isSome {kvs : List En} {e : Ek} : (valN kvs e).isSome = decide (e ∈ kvs.map (·.1)) := by
  by_cases h : e ∈ kvs.map (·.1)
  · rw [decide_eq_true h]
    cases q : valN kvs e with
    | some v => rfl
    | none =>
      unfold valN at q
      rw [Option.map_eq_none_iff, List.find?_eq_none] at q
      obtain ⟨x, hx, hxe⟩ := List.mem_map.mp h
      exact absurd (decide_eq_true hxe) (q x hx)
  · rw [decide_eq_false h, valN_none h]
    rfl

section
variable {X : Cx}
/-- state in seen -/
def rNIn (P : Program) (w : World) : R2 := fun x y H Q => ∃ b d e kvs, x = .ref b ∧ y = .ref d ∧ H d = some (nd P w d kvs) ∧ KeysAt H kvs ∧ StAt H b e ∧ Q (.bl (valN kvs e).isSome) H
theorem op_nin (hu : X.A.units + 9 < cLine) : OpR X (compareOp .In) (rNIn X.prog X.w) := by
  intro pins s σ H x y v u Q I rx ry q
  obtain ⟨b, d, e, kvs, rfl, rfl, hd, ka, sb, q⟩ := q
  cases (show v = Value.ref b from rx)
  cases (show u = Value.ref d from ry)
  obtain ⟨z, hs, xs, rel, dd⟩ := nd_of I.hok hd ka
  refine wpAny_in_heap (knd := nestedKind X.prog X.w) (k := e.key) (show X.A.in1.units + 8 < cLine from ?_) (sb.is I.hok) hs dd ?_
  · show X.A.units + 1 + 8 < cLine
    omega
  · have r := (NR.val (e := e) rel).isSome_eq
    rw [Option.isSome_map] at r
    rw [← r]
    exact ⟨.bl _, H, I.tok _, rfl, q⟩
/-- seen[state], there -/
def rNGet (P : Program) (w : World) : R2 := fun x y H Q => ∃ d b e kvs v, x = .ref d ∧ y = .ref b ∧ H d = some (nd P w d kvs) ∧ KeysAt H kvs ∧ StAt H b e ∧ valN kvs e = some v ∧ Q v H
theorem pe_nget {o i : Expr} {pos : Pos} {td ty : TE} (hu : X.A.units + 9 < cLine) (ho : PE X o td) (hi : PE X i ty) (hs : NoSl i) : PE X (.Subscript o i pos) (tOp (rNGet X.prog X.w) td ty) := by
  refine ⟨fun pins s σ H Q I h => ?_⟩
  refine subD_of (T := "dict") PySem.F.slot_dict_getitem.lookup hs (thn (ho.run pins s σ H _ I h) fun v s1 ⟨x, H1, I1, r1, q1⟩ => ?_)
  refine thn (hi.run pins s1 σ H1 _ I1 q1) fun u s2 ⟨y, H2, I2, r2, q2⟩ => ?_
  obtain ⟨d, b, e, kvs, v', rfl, rfl, hd, ka, sb, hv, q⟩ := q2
  cases (show v = Value.ref d from r1)
  cases (show u = Value.ref b from r2)
  obtain ⟨z, hsm, xs, rel, dd⟩ := nd_of I2.hok hd ka
  obtain ⟨w', hw, rw'⟩ := RelO.some_of (v := v') (o := (atKey xs e.key).map (·.2)) (by rw [← hv]; exact NR.val rel)
  obtain ⟨p, hp, hp2⟩ := Option.map_eq_some_iff.mp hw
  refine ⟨dd.typeIs, wpAny_getItem_heap (knd := nestedKind X.prog X.w) (k := e.key) (show X.A.units + 1 + 8 < cLine by omega) (sb.is I2.hok) dd hp ?_⟩
  rw [hp2]
  exact ⟨v', H2, I2.tok _, rw', q⟩
/-- seen[state] = v, not there yet -/
def tNSet (P : Program) (w : World) : V → V → V → Hp → (Hp → Prop) → Prop := fun o i v H Q => ∃ d b e kvs, o = .ref d ∧ i = .ref b ∧ H d = some (nd P w d kvs) ∧ KeysAt H kvs ∧ StAt H b e ∧ valN kvs e = none ∧ kvs.length < sizeLine ∧
  Q (upd H d (nd P w d (kvs ++ [(e, b, v)])))
theorem set_nd (hu : X.A.units + 9 < cLine) : PSet X (tNSet X.prog X.w) := by
  intro pins s σ H o i v ov iv u Q I ro ri rv q
  obtain ⟨d, b, e, kvs, rfl, rfl, hd, ka, sb, hv, hl, q⟩ := q
  cases (show ov = Value.ref d from ro)
  cases (show iv = Value.ref b from ri)
  obtain ⟨z, hsm, xs, rel, dd⟩ := nd_of I.hok hd ka
  have hn : (atKey xs e.key).map (·.2) = none := RelO.none_of (by rw [← hv]; exact NR.val rel)
  have hn' : atKey xs e.key = none := Option.map_eq_none_iff.mp hn
  have hz : xs.length ≤ sizeLine := by
    rw [← Paired.length rel]
    exact z
  refine wpAny_setItem_heap (knd := nestedKind X.prog X.w) (hsz := hz) (k := e.key) (show X.A.units + 1 + 8 < cLine by omega) (sb.is I.hok) dd fun h' dd' hs => ⟨_, ?_, q⟩
  rw [storedH_new hn'] at dd'
  obtain ⟨o', es', ep', b1, b2, b3, b4, _, b5⟩ := dd'
  refine d_write I (by rw [hd]; exact nd_mut) hs ⟨o', b1⟩ (nd_ok ⟨?_, hsm, _, Paired.snoc rel ⟨rfl, rfl, rv⟩, o', es', ep', b1, b2, b3, b4, b5⟩)
  rw [List.length_append]
  exact hl
/-- len(seen) -/
def rNLen (P : Program) (w : World) : List V → Hp → VK → Prop := fun xs H Q => ∃ d kvs, xs = [.ref d] ∧ H d = some (nd P w d kvs) ∧ KeysAt H kvs ∧ Q (.int ((kvs.length : Nat) : Int)) H
theorem call_nlen : CallR X (.builtin "len") (rNLen X.prog X.w) := by
  intro pins s σ H xs us Q I r h
  obtain ⟨d, kvs, rfl, hd, ka, q⟩ := h
  obtain ⟨u, rfl, rx⟩ := r.one
  cases (show u = Value.ref d from rx)
  obtain ⟨z, hsm, ys, rel, dd⟩ := nd_of I.hok hd ka
  have hl : kvs.length = ys.length := Paired.length rel
  refine call_len_dictH (knd := nestedKind X.prog X.w) hsm dd ?_ ?_
  · rw [← hl]
    rw [sizeLine_eq] at z
    omega
  · rw [← hl]
    exact ⟨.int ((kvs.length : Nat) : Int), H, I.tok _, ⟨_, rfl⟩, q⟩
/-- list(seen) -/
def rNList (P : Program) (w : World) : List V → Hp → VK → Prop := fun xs H Q => ∃ d kvs, xs = [.ref d] ∧ H d = some (nd P w d kvs) ∧ ∀ p, H p = none → Q (.ref p) (upd H p (.lst (kvs.map fun x => V.ref x.2.1)))
theorem call_nlist (hc : X.calm = true) : CallR X (.type "list") (rNList X.prog X.w) := by
  intro pins s σ H xs us Q I r h
  obtain ⟨d, kvs, rfl, hd, q⟩ := h
  obtain ⟨u, rfl, rx⟩ := r.one
  cases (show u = Value.ref d from rx)
  obtain ⟨z, hs, ks, pr, o, es, ep, ho, hx, hdt, he, hn⟩ := nd_at I.hok hd
  have l1 : es.size = ks.length := size_of_entries he
  have l2 : kvs.length = ks.length := Paired.length pr
  refine PySem.W.kdl_call (kdl_raw hs hx hdt) (I.ok.hd hc) ho (by omega) fun h' tk acc' c' kp e it => ?_
  have ea : acc'.toList = ks.map fun x => Value.ref x.2.1 := by
    have hl : acc'.toList.length = ks.length := by
      rw [Array.length_toList, it.1]
      exact l1
    apply List.ext_getElem?
    intro j
    rw [List.getElem?_map]
    cases hj : acc'.toList[j]? with
    | none =>
      have h1 := List.getElem?_eq_none_iff.mp hj
      rw [List.getElem?_eq_none (by omega)]
      rfl
    | some v =>
      obtain ⟨en, hen, hv⟩ := it.2 j v (by rw [← Array.getElem?_toList]; exact hj)
      have qe := entry_at he j
      rw [hen] at qe
      cases hb : ks[j]? with
      | none =>
        rw [hb] at qe
        exact nomatch (show some en = none from qe)
      | some b =>
        rw [hb] at qe
        have e2 : en = entryOfKey (nestedKind X.prog X.w) b := Option.some.inj qe
        rw [hv, e2]
        rfl
  have rv : ∀ {l : List En} {m : List (NestedKey × Addr × Value)}, Paired NR l m → Vals (l.map fun x => V.ref x.2.1) (m.map fun x => Value.ref x.2.1) := by
    intro l m q
    induction q with
    | nil => exact .nil
    | cons hq t ih => exact .cons (congrArg Value.ref hq.2.1) ih
  have hz : (kvs.map fun x => V.ref x.2.1).length ≤ sizeLine := by
    rw [List.length_map]
    exact z
  refine ⟨.ref s.heap.objs.size, _, I.laid (t' := tk) (o := .lst (kvs.map fun x => V.ref x.2.1)) kp (Nat.le_refl _) ?_, rfl, q _ (I.hok.fresh (Nat.le_refl _))⟩
  refine ⟨hz, acc'.toList, c', ?_, by rw [Array.toArray_toList]; exact e⟩
  rw [ea]
  exact rv pr
end
end Mp
/-! The refusals: own classes over Exception, one over another; the upper one's __init__ stores one attribute, the lower ones' call it by the class. -/
namespace Mp
open PySem PySem.W PySem.Calls PyProof.Rows
open Builtin Builtin.ObjectAttr

abbrev exTail : List Value := [.type "Exception", .type "BaseException", .type "object"]
/-- own classes, then Exception's own line -/
inductive RefsEX : List Value → Prop
  | base : RefsEX exTail
  | own {c : Addr} {l : List Value} : RefsEX l → RefsEX (.ref c :: l)
theorem RefsEX.pass (self : Value) : ∀ {l : List Value}, RefsEX l → refuseLoop self "__setattr__" l = pure ()
  | _, .base => PySem.F.store_Exception.passes self
  | _, .own h => by
    rw [refuseLoop_ref]
    exact h.pass self
theorem RefsEX.has (T : String) : ∀ {l : List Value}, RefsEX l → l.contains (.type T) = exTail.contains (.type T)
  | _, .base => rfl
  | _, .own h => by
    rw [List.contains_cons, h.has T]
    rfl
theorem RefsEX.ne : ∀ {l : List Value}, RefsEX l → l.isEmpty = false
  | _, .base => rfl
  | _, .own _ => rfl

section
variable {prog : Program} {w : World} {A : Around} {E : Value → Shared → Prop} {R : Result → Shared → Prop} {hp : Heap} {g : Array GenState} {d : Drawn} {t : Nat} {os : OsState}
/-- the first attribute of an exception that is being made -/
theorem osaEX {K : Frag} {nme : Str} {tk : Tok} {v : Value} {x C : Addr} {fv : Array Value} {cd : ClassData}
    (X : K.In hp) (hx : hp.get? x = some { cls := .ref C, data := .fields fv }) (hcd : clsIn K C = some cd) (hm : RefsEX cd.mro) (hh : cd.hasDict = true) (ha : findIn K (.ref C) nme = some none)
    (hq : ∀ h' tk' dx, (∀ b o, b ≠ x → hp.get? b = some o → h'.get? b = some o) → hp.objs.size ≤ dx → dx ≠ x →
      h'.get? x = some { cls := .ref C, dict := some dx, data := .fields fv } → h'.Ns1 dx (fun y => if y = nme then some v else none) → R (.ok (.ret .none)) ⟨h', g, d, tk', os⟩) :
    codeAny (model prog w) A (.call (.builtin "object.__setattr__") ⟨[.ref x, .str nme tk, v], []⟩) R ⟨hp, g, d, t, os⟩ := by
  have In : InstAt hp x { cls := .ref C, data := .fields fv } C none := ⟨hx, rfl, rfl, trivial⟩
  have S := PySem.F.store_object
  have isO : cd.mro.contains (.type "object") = true := (hm.has "object").trans (by decide +kernel)
  have xs : x ≠ hp.objs.size := Nat.ne_of_lt (Heap.lt_size hx)
  have sb : Looks (model prog w) hp (isInstance (.ref x) (.type "object")) true :=
    In.type.andThen (looks_mroIn X (by unfold mroIn; rw [hcd, Option.bind_some, if_neg (by rw [hm.ne]; decide), isO]))
  refine codeAny_call_builtin S.slot.plain S.entry (@check_slot (model prog w) _ _ ⟨hp, g, d, t, os⟩ "object.__setattr__" "object" "__setattr__" (.ref x) [.str nme tk, v] [] _ S.kind S.split sb (S.args (.ref x) (.str nme tk) v) ?_)
  have l1 : Looks (model prog w) hp (mroOf (.ref C)) cd.mro := (looks_clsIn X hcd).andThen .now
  have l2 : Looks (model prog w) hp (storeTaker? none) none := .now
  have l3 : Looks (model prog w) hp (classData C) cd := looks_clsIn X hcd
  rw [osa_eq, refuse_eq]
  refine wpAny_bind (wpAny_bind (In.type.at (wpAny_bind (l1.at ?_))))
  rw [hm.pass]
  refine wpAny_pure (wpAny_bind (In.type.at (wpAny_bind ((looks_findIn X ha).at (wpAny_bind (l2.at ?_))))))
  show wpAny _ _ (storeInOwnDict (.ref x) (.ref C) (.str nme tk) nme v false) _ _ _
  obtain ⟨nm, bs, mro, ns, qn, hd, sn, sb', ab, col, del⟩ := cd
  dsimp only at hh
  subst hh
  unfold storeInOwnDict ownDictForStores
  repeat (first | with_reducible refine PySem.HandSPX.store_in_new ?_ ?_ | with_reducible refine wpAny_loadPart_at hx ?_ | with_reducible refine l3.at ?_ | wp_step)
  · exact ⟨_, #[], _, (Heap.get?_update_ne _ _ _ _ xs.symm).trans (Heap.get?_push_at rfl rfl), rfl, fun e he => absurd he (by simp), fun _ => rfl⟩
  · intro h' tk' hn' hs
    have hx1 : (hp.push { cls := .type "dict", data := .dict #[] }).get? x = some { cls := .ref C, data := .fields fv } := Heap.get?_push_of_some _ hx
    refine hq h' tk' hp.objs.size (fun b o hb ho => ?_) (Nat.le_refl _) xs.symm ?_ hn'
    · exact (hs.2 b (Nat.ne_of_lt (Heap.lt_size ho))).trans ((Heap.get?_update_ne _ _ _ _ hb).trans (Heap.get?_push_of_some _ ho))
    · exact (hs.2 x xs).trans (Heap.get?_update_self _ hx1 rfl)
end
end Mp

namespace Mp
open PySem PySem.Spec PyProof.Rows L2

/-- what the written part says of a refusal's class, at C -/
structure ExC (K : PySem.W.Frag) (C : Addr) : Prop where
  cls : ∃ nm q N bs bm sn sub ab col dd k0 k1 k2 k3 k5, K.lookup C = some (excClassObj nm q C N bs bm true sn sub ab col dd k0 k1 k2 k3 k5 "Exception.__new__") ∧ RefsEX bm
  sa : PySem.W.findIn K (.ref C) "__setattr__" = some (some (.builtin "object.__setattr__"))
  exC : PySem.W.subIn K (.ref C) (.type "BaseException") = some true
  tyC : PySem.W.typeIn K (.ref C) = some (.type "type")
  kC : PySem.W.keepIn K (.ref C) = true
  no : PySem.W.findIn K (.ref C) "number" = some none

section
variable {X : Cx} {pins : List (Addr × Obj)} {σ : L2.St} {H : Hp} {s : Shared} {a C : Addr} {y : V} {u : Value} {Q : Unit → Shared → Prop} {E : Value → Shared → Prop} {A : Around}
/-- self.number = y -/
theorem ost_num (T : ExC X.K C) (I : Inv X pins σ H s) (e : H a = some (exo a C none)) (ry : RelV y u)
    (h : ∀ dx s', H dx = none → dx ≠ a → Inv X pins σ (upd (upd H dx (exd dx [("number", y)])) a (exo a C (some dx))) s' → Q () s') :
    wpAny (model X.prog X.w) A (setAttr (.ref a) "number" u) Q E s := by
  obtain ⟨nm, q, N, bs, bm, sn, sub, ab, col, dd, k0, k1, k2, k3, k5, hC, hbm⟩ := T.cls
  have hcl : PySem.W.clsIn X.K C = some { name := nm, bases := bs, mro := .ref C :: bm, ns := N, qualname := q, hasDict := true, slotNames := sn, subclasses := sub, abstract := ab, collection := col, hasDel := false } := by
    unfold PySem.W.clsIn
    rw [hC] <;> rfl
  obtain ⟨t1, ho⟩ := exo_at I.hok e
  obtain ⟨hp, g, d, t, os⟩ := s
  refine PySem.W.set_plain I.kIn (ox := { cls := .ref C, dict := none, data := .fields #[.ref t1, .none, .none, .none, .bool false, .none] }) (od := none) ⟨ho, rfl, rfl, trivial⟩ T.sa ?_
  refine osaEX I.kIn ho hcl (RefsEX.own hbm) rfl T.no (fun h' tk' dx k dn dne hx hn => ?_)
  have fr : H dx = none := I.hok.fresh dn
  have nd : ∀ {b : Addr} {o : Obj}, hp.get? b = some o → b ≠ dx := fun {b o} z => Nat.ne_of_lt (Nat.lt_of_lt_of_le (Heap.lt_size z) dn)
  have na : ∀ {b : Addr}, H b = none → b ≠ a := fun {b} n z => by
    rw [z, e] at n
    cases n
  have U : Un X.fs [] H (upd (upd H dx (exd dx [("number", y)])) a (exo a C (some dx))) hp h' := {
    keep := fun b o z n _ _ => k b o (na n) z
    slot := fun b o z n _ _ => ⟨o.slots, k b o (na n) z⟩
    free := fun b o z n _ => by
      rw [upd_ne (na n), upd_ne (nd z)]
      exact n
    there := fun b o z _ => by
      by_cases hb : b = a
      · exact ⟨_, by rw [hb]; exact hx⟩
      · exact ⟨o, k b o hb z⟩
    tups := fun b xs z => by
      rw [upd_ne (at_ne e z exo_tup), upd_ne (ne_of_none z fr)]
      exact z
    frzs := fun b o v z => by
      rw [upd_ne (at_ne e z exo_frz), upd_ne (ne_of_none z fr)]
      exact z
    tbls := fun b ps z => ⟨#[], by rw [upd_ne (at_ne e z exo_tbl), upd_ne (ne_of_none z fr), z]; simp⟩ }
  refine h dx _ fr dne (I.un (t' := tk') U fun b o z => ?_)
  by_cases hb : b = a
  · subst hb
    rw [upd_same] at z
    cases z
    exact exo_ok hx
  · rw [upd_ne hb] at z
    by_cases hd : b = dx
    · subst hd
      rw [upd_same] at z
      cases z
      exact exd_ok hn (relO_put (fs := []) ry fun g => True.intro)
    · rw [upd_ne hd] at z
      refine (I.hok b o z).stay (fun c v hc q => k c v ?_ q) (fun c hc => ?_) (fun c xs hc => ?_)
      · rcases hc with hc | hc
        · rw [hc]
          exact hb
        · exact at_ne e hc exo_own
      · rw [upd_ne (at_ne e hc exo_own), upd_ne (ne_of_none hc fr)]
        exact hc
      · rw [upd_ne (at_ne e hc exo_tup), upd_ne (ne_of_none hc fr)]
        exact hc
end

/-- self.number = e, of an exception that is being made -/
def tNum (K : PySem.W.Frag) (to te : TE) : TS := fun D σ H => te σ H fun y H1 => to σ H1 fun x H2 => ∃ a C : Addr, x = .ref a ∧ ExC K C ∧ H2 a = some (exo a C none) ∧
  ∀ dx, H2 dx = none → dx ≠ a → D.nx σ (upd (upd H2 dx (exd dx [("number", y)])) a (exo a C (some dx)))
/-- C.m(e, ..), m the def at f -/
def tUnb (f : Addr) (sp : Sp) (E : XK) (t : TA) : TE := fun σ H Q => t σ H fun vs H1 => sp vs H1 Q E
/-- C(), C a refusal's class, its __init__ keeping sp -/
def tMkE (C : Addr) (sp : Sp) : L2.St → Hp → XK → Prop := fun σ H1 Q => ∀ a, H1 a = none → sp [.ref a] (upd H1 a (exo a C none))
  (fun v H2 => v = .non ∧ ∃ (d : Addr) (fs : List (Str × V)), H2 a = some (exo a C (some d)) ∧ H2 d = some (exd d fs) ∧ H1 d = none ∧ Q (.ref C) (some d) (upd (del H2 a) d (.xd fs))) (fun _ _ _ => False)
section
variable {X : Cx} {o e : Expr} {es : List Expr} {to te : TE} {ta : TA} {p p' p1 p2 pos apos : Pos}
theorem ps_num (ho : PE X o to) (he : PE X e te) (hs : swapsWith e (some (.Attribute o "number" p')) pos.line X.env = pure false := by rfl) : PS X (.Assign [.Attribute o "number" p'] e pos) (tNum X.K to te) := by
  refine ⟨fun pn s σ H D I h => ?_⟩
  refine plainObj_wpAny_Assign_Attribute (thn (he.run pn s σ H _ I h) fun v s1 ⟨y, H1, I1, r1, q1⟩ => thn (ho.run pn s1 σ H1 _ I1 q1) fun u s2 ⟨x, H2, I2, r2, a, C, ex, T, ea, q⟩ => ?_) hs
  subst ex
  obtain rfl : u = Value.ref a := r2
  exact ost_num T I2 ea r1 fun dx s' n ne J => ⟨σ, _, J, q dx n ne⟩
/-- the name x holds the class at C0, whose m is the def at f -/
theorem pe_unb {CX : CXT} {x m : Str} {C0 f : Addr} {mc : Value} {k : Nat} {fd : FuncData} {ps : List Str} {sp : Sp} {E : XK} {pl : Sem Bool} (hg : Gl X x) (hm : X.mg x = some (.ref C0)) (rd : PySem.W.readsIn X.K C0 mc = true)
    (ga : PySem.W.specialIn X.K (.ref C0) "__getattribute__" = some (some (.builtin "type.__getattribute__"))) (at_ : PySem.W.findCls X.K (.ref C0) mc m = some (.val (.ref f))) (kp : PySem.W.keepIn X.K (.ref f) = true)
    (F : FnOk X.prog X.w X.K X.mg X.base CX k f fd ps sp) (hr : Room k X.A) (hb : Binds X.K fd ps []) (hx : Passes CX X E) (ha : PA X (e :: es) ta)
    (hdb : (x == ("__debug__" : Str)) = false := by decide)
    (hc : eval (.Call (.Attribute (.Name x p1) m p2) (e :: es) [] pos) X.env = (do
      let ov ← eval (.Name x p1) X.env
      standAt p2.atName
      let (f, first) ← holding [ov] (getMethod ov m pl)
      callWith pos f first (backTo pos (starEach (e :: es) X.env)) (backToKw pos (keywordEach [] X.env))) := by rfl)
    (he : starEach (e :: es) X.env = (false, eval e X.env) :: starEach es X.env := by rfl) (hpl : (backTo pos (starEach es X.env)).any (·.1) = false := by rfl) :
    PE X (.Call (.Attribute (.Name x p1) m p2) (e :: es) [] pos) (tUnb f sp E ta) := by
  refine ⟨fun pn s σ H Q I h => ?_⟩
  refine PySem.W.methodCall_KW (ld_glob I hg hm ?_ hdb) hc
  refine PySem.W.method_cls I.kIn ga (PySem.W.cls_value I.kIn rd at_ rfl ?_)
  show wpAny _ _ (callWith pos (Value.ref f) [] (backTo pos (starEach (e :: es) X.env)) []) _ _ _
  have I0 := I.tok (s.toks + 1)
  refine PySem.W.callWith_K (h₀ := X.base) I0.ok.mod.kin kp (thn (ha.run pos pn _ σ H _ I0 h) fun us s2 ⟨vs, H2, I2, r, q⟩ => ⟨I2.kIn, ?_⟩) he hpl
  exact run_fn F hr hb .nil hx I2 r (by rw [List.append_nil]; exact q)
theorem pmk_ref {CX : CXT} {x : Str} {C fI : Addr} {k : Nat} {fd : FuncData} {ps : List Str} {sp : Sp} (T : ExC X.K C) (iC : PySem.W.findIn X.K (.ref C) "__init__" = some (some (.ref fI))) (tI : PySem.W.typeIn X.K (.ref fI) = some (.type "function"))
    (F1 : FnOk X.prog X.w X.K X.mg X.base CX k fI fd ps sp) (hr : Room (k + 1) X.A) (hb : Binds X.K fd ps []) (hx : Passes CX X (fun _ _ _ => False)) (hg : Gl X x) (hm : X.mg x = some (.ref C))
    (hdb : (x == ("__debug__" : Str)) = false := by decide) : PMk X (.Call (.Name x p) [] [] pos) (tMkE C sp) := by
  intro pn s σ H1 Q I1 q1
  obtain ⟨nm, q, N, bs, bm, sn, sub, ab, col, dd, k0, k1, k2, k3, k5, hC, hbm⟩ := T.cls
  refine wpAny_Call_Name_kw (ld_glob I1 hg hm ?_ hdb)
  refine PySem.W.callWith_K0 I1.kIn T.kC ?_
  show wpAny _ _ (call (.ref C) []) _ _ _
  obtain ⟨hp, g, dr, tk, os⟩ := s
  have up : hp.objs.size ≤ hp.objs.size + 1 := Nat.le_succ _
  have fr : H1 (hp.objs.size + 1) = none := I1.hok.fresh up
  have hq := q1 (hp.objs.size + 1) fr
  have kk : ∀ b o, hp.get? b = some o → ((hp.push (PySem.W.kdv_tup [])).push (PySem.HandSPX.excO C hp.objs.size)).get? b = some o := fun b o e => Heap.get?_push_of_some _ (Heap.get?_push_of_some _ e)
  have hget : ((hp.push (PySem.W.kdv_tup [])).push (PySem.HandSPX.excO C hp.objs.size)).get? (hp.objs.size + 1) = some (PySem.HandSPX.excO C hp.objs.size) := by heap_get
  have I2 : Inv X pn σ (upd H1 (hp.objs.size + 1) (exo (hp.objs.size + 1) C none)) ⟨(hp.push (PySem.W.kdv_tup [])).push (PySem.HandSPX.excO C hp.objs.size), g, dr, tk, os⟩ :=
    I1.laid (t' := tk) (a := hp.objs.size + 1) (o := exo (hp.objs.size + 1) C none) (h' := (hp.push (PySem.W.kdv_tup [])).push (PySem.HandSPX.excO C hp.objs.size)) kk up (exo_ok hget)
  have r2 : Vals [V.ref (hp.objs.size + 1)] [Value.ref (hp.objs.size + 1)] := .cons rfl .nil
  have hl : ([Value.ref (hp.objs.size + 1)] ++ []).length = ps.length := by
    have e := r2.length
    rw [F1.len _ _ _ _ hq] at e
    exact e.symm
  refine wpAny_call (PySem.HandSPX.call_own PySem.F.excBase_Exception (fun Y => hbm.has Y) (I1.kIn _ _ hC) (PySem.W.looks_findIn I1.kIn iC) (fun self => PySem.W.bind_fn I1.kIn self tI) (Nat.zero_le _)
    (codeAny_mono (F1.run _ X.stack _ _ ⟨[Value.ref (hp.objs.size + 1)], []⟩ [Value.ref (hp.objs.size + 1)] _ _ (fun _ _ _ => False) (hr.make C [] []) (I2.env0.make C [] []) (hb _ [Value.ref (hp.objs.size + 1)] I2.kIn hl) r2 hq) fun r s' hq' => ?_))
  cases r with
  | error er => exact hx pn σ _ _ er s' I2 hq'
  | ok fl =>
    cases fl with
    | ret u =>
      obtain ⟨v, H2, os2, bare2, un2, hok2, rv, ev, d, fs, ea, ed, hd1, q2⟩ := hq'
      subst ev
      obtain ⟨h2, g2, d2, t2, os'⟩ := s'
      exact ⟨rv, mk_end (raises_own T.exC T.tyC) I1 up kk un2 hok2 os2 bare2 ea ed hd1 q2⟩
    | next => exact False.elim hq'
    | brk => exact False.elim hq'
    | cont => exact False.elim hq'
end
end Mp
namespace Mp
open PySem PySem.Spec PyProof.Rows L2

/-! ### {state: v} -/
def tDispN (P : Program) (w : World) (tk tv : TE) : TE := fun σ H Q => ∀ p, H p = none → tk σ (upd H p (nd P w p [])) fun x H1 => tv σ H1 fun y H2 => ∃ b e, x = .ref b ∧ H2 p = some (nd P w p []) ∧ StAt H2 b e ∧ Q (.ref p) (upd H2 p (nd P w p [(e, b, y)]))
def pairQ (P : Program) (w : World) (p : Addr) (Q : VK) : List (V × V) → Hp → Prop
  | [(x, y)], H2 => ∃ b e, x = .ref b ∧ H2 p = some (nd P w p []) ∧ StAt H2 b e ∧ Q (.ref p) (upd H2 p (nd P w p [(e, b, y)]))
  | _, _ => False
theorem nd_empty {P : Program} {w : World} {H : Hp} (h : Heap) (hb : sysModules < h.objs.size) : ObjOk P w H (h.push { cls := .type "dict", data := .dict #[] }) h.objs.size (nd P w h.objs.size []) :=
  nd_ok ⟨Nat.zero_le _, beq_eq_false_iff_ne.mpr (Ne.symm (Nat.ne_of_lt hb)), [], .nil, _, #[], 0, Heap.get?_push_size _ rfl, ⟨rfl, rfl, rfl⟩, rfl, rfl, List.nodup_nil⟩
theorem pe_dispN {X : Cx} {k v : Expr} {pos : Pos} {tk tv : TE} (hu : X.A.units + 9 < cLine) (hk : PE X k tk) (hv : PE X v tv) : PE X (.Dict [some k] [v] pos) (tDispN X.prog X.w tk tv) := by
  refine ⟨fun pn s σ H Q I q => ?_⟩
  have hn := I.hok.fresh (Nat.le_refl s.heap.objs.size)
  have I1 := I.laid (a := s.heap.objs.size) (o := nd X.prog X.w s.heap.objs.size []) (h' := s.heap.push { cls := .type "dict", data := .dict #[] }) (t' := s.toks) (fun _ _ q => Heap.get?_push_of_some _ q) (Nat.le_refl _) (nd_empty s.heap I.big)
  have hp : PPs X pos [some k] [v] [(tk, tv)] := pps_cons hk hv pps_nil
  refine wpAny_Dict_any rfl rfl (fun z => nomatch z) (show 1 ≤ 15 by decide) (thn (hp.run pn _ σ _ (pairQ X.prog X.w s.heap.objs.size Q) I1 (q _ hn)) fun ws s2 ⟨ps, H2, I2, rel, q2⟩ => ?_)
  match ps, rel, q2 with
  | [(x, y)], .cons (b := (w1, w2)) r1 .nil, ⟨b, e, ex, hd, sb, q3⟩ =>
    subst ex
    cases (show w1 = Value.ref b from r1.1)
    obtain ⟨z, hs, xs, rel, dd⟩ := nd_of I2.hok hd (fun x hx => nomatch hx)
    cases rel
    unfold storeAll
    rw [List.forIn_cons]
    refine wpAny_bind (wpAny_bind (wpAny_dictSet_heap (knd := nestedKind X.prog X.w) (k := e.key) (show X.A.units + 8 < cLine by omega) (sb.is I2.hok) dd (fun h' dd' hs' => ?_)))
    refine wpAny_pure ?_
    show wpAny _ _ (forIn [] PUnit.unit _) _ _ _
    rw [List.forIn_nil]
    refine wpAny_pure ⟨.ref s.heap.objs.size, _, ?_, rfl, q3⟩
    rw [storedH_new (show atKey ([] : List (NestedKey × Addr × Value)) e.key = none from rfl)] at dd'
    obtain ⟨o', es', ep', b1, b2, b3, b4, _, b5⟩ := dd'
    exact d_write I2 (by rw [hd]; exact nd_mut) hs' ⟨o', b1⟩ (nd_ok ⟨by show 1 ≤ sizeLine; rw [sizeLine_eq]; omega, hs, _, .cons ⟨rfl, rfl, r1.2⟩ .nil, o', es', ep', b1, b2, b3, b4, b5⟩)

/-! ### a written dict from ints to defs -/
/-- the written part has, at d, a dict of the defs fs -/
structure KFd (K : PySem.W.Frag) (d : Addr) (fs : List (Int × Addr)) : Prop where
  at_ : ∃ es n, K.lookup d = some ⟨.type "dict", none, .dict es n, #[]⟩ ∧ es.toList.map (fun e => e.hash) = fs.map (fun p => hashInt p.1) ∧ es.toList.map (fun e => e.val) = fs.map (fun p => Value.ref p.2) ∧
    Paired (fun (e : DictEntry) (p : Int × Addr) => ∃ t, e.key = .int p.1 t) es.toList fs
  nd : (fs.map (·.1)).Nodup
theorem kfd_pairs {P : Program} {w : World} : ∀ {es : List DictEntry} {fs : List (Int × Addr)}, Paired (fun (e : DictEntry) (p : Int × Addr) => ∃ t, e.key = .int p.1 t) es fs →
    es.map (fun e => e.hash) = fs.map (fun p => hashInt p.1) → es.map (fun e => e.val) = fs.map (fun p => Value.ref p.2) →
    Pairs (intKind P w) es (fs.map fun p => (p.1, Value.ref p.2)) ∧ ∀ e ∈ es, ∃ k, (intKind P w).is k e.key = true ∧ e.hash = (intKind P w).hash k
  | _, _, .nil, _, _ => ⟨.nil, fun _ h => nomatch h⟩
  | _ :: _, (i, a) :: _, .cons ⟨t, h⟩ r, h1, h2 => by
    injection h1 with a1 b1
    injection h2 with a2 b2
    obtain ⟨q1, q2⟩ := kfd_pairs (P := P) (w := w) r b1 b2
    have q0 : (intKind P w).is i (.int i t) = true := intKind_is P w i t
    refine ⟨.cons (by rw [h]; exact q0) a2 q1, fun e he => ?_⟩
    rcases List.mem_cons.mp he with z | z
    · subst z
      exact ⟨i, by rw [h]; exact q0, a1⟩
    · exact q2 e z
theorem KFd.dict {P : Program} {w : World} {K : PySem.W.Frag} {h : Heap} {d : Addr} {fs : List (Int × Addr)} (D : KFd K d fs) (X : K.In h) : h.DictOf (intKind P w) d (fs.map fun p => (p.1, Value.ref p.2)) := by
  obtain ⟨es, n, hl, h1, h2, r⟩ := D.at_
  obtain ⟨q1, q2⟩ := kfd_pairs (P := P) (w := w) r h1 h2
  refine ⟨_, es, n, X _ _ hl, ⟨rfl, rfl, rfl⟩, rfl, fun e he => q2 e (Array.mem_toList_iff.mpr he), q1, ?_⟩
  rw [List.map_map]
  exact D.nd
def rFd (K : PySem.W.Frag) : R2 := fun x y H Q => ∃ d fs i f, x = .ref d ∧ y = .int i ∧ KFd K d fs ∧ fs.lookup i = some f ∧ Q (.ref f) H
theorem fs_val {i : Int} {f : Addr} : ∀ {fs : List (Int × Addr)}, fs.lookup i = some f → valueAt (fs.map fun p => (p.1, Value.ref p.2)) i = some (.ref f)
  | [], h => by cases h
  | (j, a) :: fs, h => by
    unfold valueAt
    rw [List.map_cons, List.find?_cons]
    by_cases e : j = i
    · subst e
      have z : (j == j) = true := beq_self_eq_true j
      rw [List.lookup, z] at h
      cases h
      simp
    · have z : (i == j) = false := by simpa using fun q : i = j => e q.symm
      rw [List.lookup, z] at h
      simp only [e, decide_false]
      exact fs_val h
theorem ix_fd {X : Cx} : IxR X (rFd X.K) := by
  intro value slice pn s σ H x y v u Q I rx ry h hs
  obtain ⟨d, fs, i, f, rfl, rfl, D, hf, q⟩ := h
  obtain rfl : v = Value.ref d := rx
  obtain ⟨t, rfl⟩ := ry
  have dd := D.dict (P := X.prog) (w := X.w) I.kIn
  exact tail_any dd.typeIs slot_dict_getitem.lookup (wpAny_getItem_of (intKind_is X.prog X.w i t) dd.mapOf (fs_val hf) ⟨.ref f, H, I.tok _, rfl, q⟩) hs

/-! ### the call of a value that is one of several defs -/
def tCallX (C : Addr → Sp → Prop) (tf : TE) (t : TA) : TE := fun σ H Q => tf σ H fun x H1 => ∃ f sp, x = .ref f ∧ C f sp ∧ t σ H1 fun vs H2 => sp vs H2 Q (fun _ _ _ => False)
theorem pe_callX {X : Cx} {k : Nat} {C : Addr → Sp → Prop} {a b e : Expr} {es : List Expr} {p pos : Pos} {tf : TE} {t : TA} (A : ∀ f sp, C f sp → Held X.prog X.w X.K X.mg X.base k f sp) (hr : Room k X.A) (hf : PE X (.Subscript a b p) tf) (ha : PA X (e :: es) t)
    (he : starEach (e :: es) X.env = (false, eval e X.env) :: starEach es X.env := by rfl) (hpl : (backTo pos (starEach es X.env)).any (·.1) = false := by rfl) : PE X (.Call (.Subscript a b p) (e :: es) [] pos) (tCallX C tf t) := by
  refine ⟨fun pn s σ H Q I h => ?_⟩
  show wpAny _ _ (eval (.Subscript a b p) X.env >>= fun fv => callWith pos fv [] (backTo pos (starEach (e :: es) X.env)) (backToKw pos (keywordEach [] X.env))) _ _ _
  refine wpAny_bind (thn (hf.run pn s σ H _ I h) fun u s1 ⟨x, H1, I1, r1, f, sp, ex, cf, q1⟩ => ?_)
  subst ex
  cases (show u = Value.ref f from r1)
  obtain ⟨fd, ps, F, kp, hb⟩ := (A f sp cf).ex
  refine PySem.W.callWith_K (h₀ := X.base) I.ok.mod.kin kp (thn (ha.run pos pn s1 σ _ _ I1 q1) fun us s2 ⟨vs, H2, I2, r, q⟩ => ⟨I2.kIn, ?_⟩) he hpl
  exact run_fn F hr hb .nil (fun _ _ _ _ _ _ _ z => z.elim) I2 r (by rw [List.append_nil]; exact q)

/-! ### the call of a local name that holds one of several defs, each of which may raise, in a try -/
structure HeldX (P : Program) (w : World) (K : PySem.W.Frag) (mg : Str → Option Value) (base : Heap) (k : Nat) (f : Addr) (sp : Sp) : Prop where
  ex : ∃ (fd : FuncData) (ps : List Str), FnOk P w K mg base (L2.CX P w) k f fd ps sp ∧ PySem.W.keepIn K (.ref f) = true ∧ Binds K fd ps []
def tCallXS (i : Nat) (C : Addr → Sp → Prop) (E : L2.St → XK) (t : TA) : TE := fun σ H Q => ∃ f sp, σ[i]? = some (some (.ref f)) ∧ C f sp ∧ t σ H fun vs H1 => sp vs H1 Q (E σ)
theorem pe_callXS {X : Cx} {k i : Nat} {C : Addr → Sp → Prop} {E : L2.St → XK} {x : Str} {e : Expr} {es : List Expr} {p pos : Pos} {t : TA} (A : ∀ f sp, C f sp → HeldX X.prog X.w X.K X.mg X.base k f sp) (hr : Room k X.A)
    (hN : X.N[i]? = some x) (hv : Vis X.env.scope x) (hx : ∀ σ, PassesAt (L2.CX X.prog X.w) X σ (E σ)) (ha : PA X (e :: es) t)
    (hdb : (x == ("__debug__" : Str)) = false := by decide) (hcd : (x == ("__classdict__" : Str)) = false := by decide)
    (he : starEach (e :: es) X.env = (false, eval e X.env) :: starEach es X.env := by rfl) (hpl : (backTo pos (starEach es X.env)).any (·.1) = false := by rfl) : PE X (.Call (.Name x p) (e :: es) [] pos) (tCallXS i C E t) := by
  refine ⟨fun pn s σ H Q I h => ?_⟩
  obtain ⟨f, sp, hs, hC, ht⟩ := h
  obtain ⟨fd, ps, F, hk, hb⟩ := (A f sp hC).ex
  refine wpAny_Call_Name_kw (thn ((pe_var (pos := p) hN hv hdb hcd).run pn s σ H (fun v H1 => v = .ref f ∧ H1 = H) I ⟨.ref f, hs, rfl, rfl⟩) fun u s1 ⟨v, H1, I1, r1, q1⟩ => ?_)
  obtain ⟨rfl, rfl⟩ := q1
  cases r1
  refine PySem.W.callWith_K (h₀ := X.base) I.ok.mod.kin hk (thn (ha.run pos pn s1 σ _ _ I1 ht) fun us s2 ⟨vs, H2, I2, r, q⟩ => ⟨I2.kIn, ?_⟩) he hpl
  exact run_fnS F hr hb (hx σ) I2 r q

/-! ### xs.extend(a tuple) -/
theorem ext_tup (l : Addr) (items : Array Value) (n : Nat) (b : Addr) (items2 : Array Value) (n2 : Nat) (dd : Option Addr) (sl : Array (Option Value)) (hs0 : ¬(!items.isEmpty && Builtin.List.listTooLong (items.size + items2.size)) = true)
    (hs1 : items.size ≤ sizeLine) (hs2 : items.size + items2.size ≤ sizeLine + 1) :
    Meets (Builtin.«list.extend» ⟨[.ref l, .ref b], []⟩) (fun _ R s => s.heap.get? l = some { cls := .type "list", dict := none, data := .seq items n, slots := #[] } ∧
      s.heap.get? b = some { cls := .type "tuple", dict := dd, data := .seq items2 n2, slots := sl } ∧ R (.ok (.ret Value.none)) { s with heap := s.heap.update l (Obj.mapSeq fun x => x ++ items2), toks := s.toks }) :=
  .of_wp fun prog w A R s h => by
    obtain ⟨hp, g, d, tk, os⟩ := s
    obtain ⟨hl, hb, h⟩ := h
    have f1 := PySem.AutoSeq1.idx_int
    have f2 := PySem.AutoSeq1.sub_tuple_tuple
    have f3 := PySem.AutoSeq1.sub_list_list
    have f4 := PySem.AutoSeq1.sub_tuple_list
    have f5 := PySem.AutoSeq1.sub_list_tuple
    have hz' : (items ++ items2).size ≤ sizeLine + 1 := by
      rw [Array.size_append]
      exact hs2
    wp_walk using (wpAny_updateSeq hl rfl (hz := hs1) (_hz' := hz')), PySem.AutoSeq1.wpAny_loadPart' hl, PySem.AutoSeq1.wpAny_loadPart' hb
    exact ⟨_, rfl, h⟩
def rExtT (K : PySem.W.Frag) : V → List V → Hp → VK → Prop := fun x vs H Q => ∃ l b xs zs, x = .ref l ∧ vs = [.ref b] ∧ H l = some (.lst xs) ∧ SqT K H b zs ∧ xs.length + zs.length ≤ sizeLine ∧ Q .non (upd H l (.lst (xs ++ zs)))
theorem mt_extT {X : Cx} : MtM X "list.extend" (rExtT X.K) := by
  intro pn s σ H x vs v us Q I rx rv h
  obtain ⟨l, b, xs, zs, rfl, rfl, hH, hB, hz, q⟩ := h
  cases rx
  obtain ⟨u, rfl, ru⟩ := rv.one
  cases ru
  obtain ⟨z, its, n, r, hl, e⟩ := I.lstM hH
  obtain ⟨its2, r2, ⟨⟨cls2, dd2, data2, sl2⟩, ho2, hc2, n2, hd2⟩, z2⟩ := I.tuple hB
  simp only at hc2 hd2
  subst hc2 hd2
  have hl2 : zs.length = its2.length := Paired.length r2
  have hsz : its.toArray.size + its2.toArray.size ≤ sizeLine := by
    rw [List.size_toArray, List.size_toArray]
    omega
  have hlong : ¬ (!its.toArray.isEmpty && Builtin.List.listTooLong (its.toArray.size + its2.toArray.size)) = true := by
    rw [notLongL hsz, Bool.and_false]
    exact Bool.false_ne_true
  refine call_meets PySem.F.slot_list_extend ⟨_, e, rfl⟩ PySem.F.entry_list_extend (PySem.F.args_list_extend_2 _ _)
    (ext_tup l its.toArray n b its2.toArray n2 dd2 sl2 hlong (by rw [List.size_toArray]; omega) (by omega)) ⟨e, ho2, ?_⟩
  refine ⟨.non, _, I.lset (its' := its ++ its2) hH e (by simp) (r.append r2) ?_, rfl, q⟩
  rw [List.length_append]
  omega
end Mp
namespace Mp
open PySem PySem.Spec PyProof.Rows L2

/-- a def of the text stands at f, with these parameters -/
structure Df (K : PySem.W.Frag) (x qual : Str) (st : Stmt) (ps : List Str) (f : Addr) : Prop where
  ex : ∃ fd, Fun K x qual st f fd ∧ Binds K fd ps []
/-- the def at f keeps its promise -/
structure Cb (P : Program) (w : World) (K : PySem.W.Frag) (mg : Str → Option Value) (base : Heap) (CX : CXT) (k : Nat) (f : Addr) (ps : List Str) (sp : Sp) : Prop where
  ex : ∃ fd, FnOk P w K mg base CX k f fd ps sp ∧ Binds K fd ps [] ∧ PySem.W.keepIn K (.ref f) = true
section
variable {P : Program} {w : World} {K : PySem.W.Frag} {mg : Str → Option Value} {base : Heap} {x qual : Str} {st : Stmt} {f : Addr} {N ps : List Str} {k : Nat} {sp : Sp}
theorem Cb.mono {CX : CXT} {j : Nat} (C : Cb P w K mg base CX k f ps sp) (h : k ≤ j) : Cb P w K mg base CX j f ps sp := by
  obtain ⟨fd, F, b, kp⟩ := C.ex
  exact ⟨fd, F.mono h, b, kp⟩
theorem Df.ok (D : Df K x qual st ps f) (S : FnScope N ps (defScope st)) (len : ∀ vs H Q E, sp vs H Q E → vs.length = ps.length)
    (hbody : ∀ (cdv : Value) (A : Around) (outer : List Env) (s : Shared) (H : Hp) (vs : List V) (Q : VK) (E : XK), Room k (A.deeper (envOfC qual (defScope st) s.heap.objs.size f cdv)) → sp vs H Q E →
      ∃ t, PSs (cxOf CX0 P w K mg base N qual (defScope st) f cdv A outer s H E).nox (defBody st) t ∧ t { nx := fun _ H' => Q .non H', rt := Q } (start N vs) H) : Cb P w K mg base CX0 (k + 1) f ps sp := by
  obtain ⟨fd, F, b⟩ := D.ex
  exact ⟨fd, F.ok S len hbody, b, F.kp⟩
theorem Df.okX (D : Df K x qual st ps f) (S : FnScope N ps (defScope st)) (len : ∀ vs H Q E, sp vs H Q E → vs.length = ps.length)
    (hbody : ∀ (cdv : Value) (A : Around) (outer : List Env) (s : Shared) (H : Hp) (vs : List V) (Q : VK) (E : XK), Room k (A.deeper (envOfC qual (defScope st) s.heap.objs.size f cdv)) → sp vs H Q E →
      ∃ t, PSs (cxOf (L2.CX P w) P w K mg base N qual (defScope st) f cdv A outer s H E) (defBody st) t ∧ t { nx := fun _ H' => Q .non H', rt := Q } (start N vs) H) : Cb P w K mg base (L2.CX P w) (k + 1) f ps sp := by
  obtain ⟨fd, F, b⟩ := D.ex
  exact ⟨fd, F.okX S len hbody, b, F.kp⟩
end

section
variable {X : Cx} {j k : Nat} {f C : Addr} {ps : List Str} {sp : Sp} {E : L2.St → XK} {W : WX} {x m : Str} {p pos apos : Pos} {e o : Expr} {es : List Expr} {ta : TE} {t : TA}
/-- f(e, ..), f by its name; nothing is raised -/
theorem pe_cb (c : Cb X.prog X.w X.K X.mg X.base CX0 k f ps sp) (hr : Room j X.A) (hk : k ≤ j) (hg : Gl X x) (hm : X.mg x = some (.ref f)) (ha : PA X (e :: es) t) (hdb : (x == ("__debug__" : Str)) = false := by decide)
    (he : starEach (e :: es) X.env = (false, eval e X.env) :: starEach es X.env := by rfl) (hpl : (backTo pos (starEach es X.env)).any (·.1) = false := by rfl) :
    PE X (.Call (.Name x p) (e :: es) [] pos) (tCallS sp (fun _ => E0) t) := by
  obtain ⟨fd, F, b, kp⟩ := c.ex
  exact pe_callS F (hr.mono hk) hg hm kp b (fun _ _ _ _ _ _ _ h => h.elim) ha hdb he hpl
/-- .. something may be raised -/
theorem pe_cbX (c : Cb X.prog X.w X.K X.mg X.base (L2.CX X.prog X.w) k f ps sp) (hr : Room j X.A) (hk : k ≤ j) (hg : Gl X x) (hm : X.mg x = some (.ref f)) (tk : Takes X W) (ha : PA X (e :: es) t) (hdb : (x == ("__debug__" : Str)) = false := by decide)
    (he : starEach (e :: es) X.env = (false, eval e X.env) :: starEach es X.env := by rfl) (hpl : (backTo pos (starEach es X.env)).any (·.1) = false := by rfl) :
    PE X (.Call (.Name x p) (e :: es) [] pos) (tCallS sp (WE W) t) := by
  obtain ⟨fd, F, b, kp⟩ := c.ex
  exact pe_callS F (hr.mono hk) hg hm kp b (fun σ => passAt tk σ) ha hdb he hpl
/-- o.m(e, ..) -/
def tMb (C : Addr) (m : Str) (sp : Sp) (E : L2.St → XK) (ta : TE) (t : TA) : TE := fun σ H Q => ta σ H fun x H1 => ∃ a dx fs, x = .ref a ∧ H1 a = some (.ins C dx fs) ∧ fs.lookup m = none ∧ t σ H1 fun vs H2 => sp (x :: vs) H2 Q (E σ)
theorem pe_mbG {CX : CXT} {pl : Sem Bool} (c : Cb X.prog X.w X.K X.mg X.base CX k f ps sp) (cl : Cls X.K C) (hm : Meth X.K C m f) (hr : Room j X.A) (hk : k ≤ j) (hx : ∀ σ, PassesAt CX X σ (E σ)) (ho : PE X o ta) (ha : PA X (e :: es) t)
    (hst : starEach (e :: es) X.env = (false, eval e X.env) :: starEach es X.env := by rfl) (hpl : (backTo pos (starEach es X.env)).any (·.1) = false := by rfl)
    (ht : eval (.Call (.Attribute o m apos) (e :: es) [] pos) X.env = (do
      let ov ← eval o X.env
      standAt apos.atName
      let (f, first) ← holding [ov] (getMethod ov m pl)
      callWith pos f first (backTo pos (starEach (e :: es) X.env)) (backToKw pos (keywordEach [] X.env))) := by rfl) :
    PE X (.Call (.Attribute o m apos) (e :: es) [] pos) (tMb C m sp E ta t) := by
  obtain ⟨fd, F, b, kp⟩ := c.ex
  refine ⟨fun pn s σ H Q I h => ?_⟩
  refine PySem.W.methodCall_KW (pl := pl) (thn (ho.run pn s σ H _ I h) fun u s1 ⟨x, H1, I1, rx, a, dx, fs, ex, ea, l, q⟩ => ?_) ht
  subst ex
  obtain rfl : u = Value.ref a := rx
  refine getmeth_ok I1 ea cl hm l ?_
  refine PySem.W.callWith_K (first := [.ref a]) (h₀ := X.base) I.ok.mod.kin hm.kp (thn (ha.run pos pn s1 σ H1 _ I1 q) fun us s2 ⟨vs, H2, I2, r, q2⟩ => ⟨I2.kIn, ?_⟩) hst hpl
  exact run_fnS (us := .ref a :: us) (vs := .ref a :: vs) F (hr.mono hk) b (hx σ) I2 (.cons rfl r) q2
theorem pe_mbG0 {CX : CXT} {pl : Sem Bool} (c : Cb X.prog X.w X.K X.mg X.base CX k f ps sp) (cl : Cls X.K C) (hm : Meth X.K C m f) (hr : Room j X.A) (hk : k ≤ j) (hx : ∀ σ, PassesAt CX X σ (E σ)) (ho : PE X o ta)
    (ht : eval (.Call (.Attribute o m apos) [] [] pos) X.env = (do
      let ov ← eval o X.env
      standAt apos.atName
      let (f, first) ← holding [ov] (getMethod ov m pl)
      callWith pos f first (backTo pos (starEach [] X.env)) (backToKw pos (keywordEach [] X.env))) := by rfl) :
    PE X (.Call (.Attribute o m apos) [] [] pos) (tMb C m sp E ta tNil) := by
  obtain ⟨fd, F, b, kp⟩ := c.ex
  refine ⟨fun pn s σ H Q I h => ?_⟩
  refine PySem.W.methodCall_KW (pl := pl) (thn (ho.run pn s σ H _ I h) fun u s1 ⟨x, H1, I1, rx, a, dx, fs, ex, ea, l, q⟩ => ?_) ht
  subst ex
  obtain rfl : u = Value.ref a := rx
  refine getmeth_ok I1 ea cl hm l ?_
  refine PySem.W.callWith_K0 (first := [.ref a]) I1.kIn hm.kp ?_
  exact run_fnS (us := [.ref a]) (vs := [.ref a]) F (hr.mono hk) b (hx σ) I1 (.cons rfl .nil) q
theorem no0 : ∀ σ, PassesAt CX0 X σ ((fun _ => E0) σ) := fun _ _ _ _ _ _ _ h => h.elim
theorem pe_mb {pl : Sem Bool} (c : Cb X.prog X.w X.K X.mg X.base CX0 k f ps sp) (cl : Cls X.K C) (hm : Meth X.K C m f) (hr : Room j X.A) (hk : k ≤ j) (ho : PE X o ta) (ha : PA X (e :: es) t)
    (hst : starEach (e :: es) X.env = (false, eval e X.env) :: starEach es X.env := by rfl) (hpl : (backTo pos (starEach es X.env)).any (·.1) = false := by rfl)
    (ht : eval (.Call (.Attribute o m apos) (e :: es) [] pos) X.env = (do
      let ov ← eval o X.env
      standAt apos.atName
      let (f, first) ← holding [ov] (getMethod ov m pl)
      callWith pos f first (backTo pos (starEach (e :: es) X.env)) (backToKw pos (keywordEach [] X.env))) := by rfl) :
    PE X (.Call (.Attribute o m apos) (e :: es) [] pos) (tMb C m sp (fun _ => E0) ta t) := pe_mbG c cl hm hr hk no0 ho ha hst hpl ht
theorem pe_mb0 {pl : Sem Bool} (c : Cb X.prog X.w X.K X.mg X.base CX0 k f ps sp) (cl : Cls X.K C) (hm : Meth X.K C m f) (hr : Room j X.A) (hk : k ≤ j) (ho : PE X o ta)
    (ht : eval (.Call (.Attribute o m apos) [] [] pos) X.env = (do
      let ov ← eval o X.env
      standAt apos.atName
      let (f, first) ← holding [ov] (getMethod ov m pl)
      callWith pos f first (backTo pos (starEach [] X.env)) (backToKw pos (keywordEach [] X.env))) := by rfl) :
    PE X (.Call (.Attribute o m apos) [] [] pos) (tMb C m sp (fun _ => E0) ta tNil) := pe_mbG0 c cl hm hr hk no0 ho ht
theorem pe_mbX {pl : Sem Bool} (c : Cb X.prog X.w X.K X.mg X.base (L2.CX X.prog X.w) k f ps sp) (cl : Cls X.K C) (hm : Meth X.K C m f) (hr : Room j X.A) (hk : k ≤ j) (tk : Takes X W) (ho : PE X o ta) (ha : PA X (e :: es) t)
    (hst : starEach (e :: es) X.env = (false, eval e X.env) :: starEach es X.env := by rfl) (hpl : (backTo pos (starEach es X.env)).any (·.1) = false := by rfl)
    (ht : eval (.Call (.Attribute o m apos) (e :: es) [] pos) X.env = (do
      let ov ← eval o X.env
      standAt apos.atName
      let (f, first) ← holding [ov] (getMethod ov m pl)
      callWith pos f first (backTo pos (starEach (e :: es) X.env)) (backToKw pos (keywordEach [] X.env))) := by rfl) :
    PE X (.Call (.Attribute o m apos) (e :: es) [] pos) (tMb C m sp (WE W) ta t) := pe_mbG c cl hm hr hk (fun σ => passAt tk σ) ho ha hst hpl ht
theorem pe_mbX0 {pl : Sem Bool} (c : Cb X.prog X.w X.K X.mg X.base (L2.CX X.prog X.w) k f ps sp) (cl : Cls X.K C) (hm : Meth X.K C m f) (hr : Room j X.A) (hk : k ≤ j) (tk : Takes X W) (ho : PE X o ta)
    (ht : eval (.Call (.Attribute o m apos) [] [] pos) X.env = (do
      let ov ← eval o X.env
      standAt apos.atName
      let (f, first) ← holding [ov] (getMethod ov m pl)
      callWith pos f first (backTo pos (starEach [] X.env)) (backToKw pos (keywordEach [] X.env))) := by rfl) :
    PE X (.Call (.Attribute o m apos) [] [] pos) (tMb C m sp (WE W) ta tNil) := pe_mbG0 c cl hm hr hk (fun σ => passAt tk σ) ho ht
/-- C(e, ..) of a plain class -/
theorem pe_mk (c : Cb X.prog X.w X.K X.mg X.base CX0 k f ps sp) (M : Mk X.K C f) (hr : Room j X.A) (hk : k + 1 ≤ j) (hg : Gl X x) (hm : X.mg x = some (.ref C)) (ha : PA X (e :: es) t) (hdb : (x == ("__debug__" : Str)) = false := by decide)
    (he : starEach (e :: es) X.env = (false, eval e X.env) :: starEach es X.env := by rfl) (hpl : (backTo pos (starEach es X.env)).any (·.1) = false := by rfl) :
    PE X (.Call (.Name x p) (e :: es) [] pos) (tMake C sp [] E0 t) := by
  obtain ⟨fd, F, b, kp⟩ := c.ex
  exact pe_make M F (hr.mono hk) hg hm b .nil pass0 ha hdb he hpl
theorem pe_mk0 (c : Cb X.prog X.w X.K X.mg X.base CX0 k f ps sp) (M : Mk X.K C f) (hr : Room j X.A) (hk : k + 1 ≤ j) (hg : Gl X x) (hm : X.mg x = some (.ref C)) (hdb : (x == ("__debug__" : Str)) = false := by decide) :
    PE X (.Call (.Name x p) [] [] pos) (tMake C sp [] E0 tNil) := by
  obtain ⟨fd, F, b, kp⟩ := c.ex
  exact pe_make0 M F (hr.mono hk) hg hm b .nil pass0 hdb
end

/-- an if whose test is known -/
theorem ifT {c : Bool} {A B : Prop} (hc : c = true) (h : A) : if c = true then A else B := by
  subst hc
  exact h
theorem ifF {c : Bool} {A B : Prop} (hc : c = false) (h : B) : if c = true then A else B := by
  subst hc
  exact h
/-- all that was tracked, but at a, is as it was -/
def Keeps (a : Addr) (H H' : Hp) : Prop := ∀ b o, H b = some o → b ≠ a → H' b = some o
theorem Keeps.refl {a : Addr} {H : Hp} : Keeps a H H := fun _ _ h _ => h
theorem Keeps.trans {a : Addr} {H H1 H2 : Hp} (h : Keeps a H H1) (g : Keeps a H1 H2) : Keeps a H H2 := fun b o e n => g b o (h b o e n) n
theorem Keeps.upd {a : Addr} {H H1 : Hp} {o : HO} (h : Keeps a H H1) : Keeps a H (upd H1 a o) := fun b o e n => by
  rw [upd_ne n]
  exact h b o e n
theorem Keeps.new {a p : Addr} {H H1 : Hp} {o : HO} (h : Keeps a H H1) (hp : H1 p = none) : Keeps a H (L2.upd H1 p o) := fun b u e n => by
  have z := h b u e n
  rw [upd_ne (ne_of_none z hp)]
  exact z
/-- all that was tracked is as it was -/
theorem Same.new {p : Addr} {H H1 : Hp} {o : HO} (h : Same H H1) (hp : H1 p = none) : Same H (upd H1 p o) := fun b u e => by
  have z := h b u e
  rw [upd_ne (ne_of_none z hp)]
  exact z
theorem Same.keeps {a : Addr} {H H1 : Hp} (h : Same H H1) : Keeps a H H1 := fun b o e _ => h b o e
/-- fields -/
theorem lk0 {k : Str} {v : V} {r : List (Str × V)} : List.lookup k ((k, v) :: r) = some v := by
  have e : (k == k) = true := beq_self_eq_true k
  simp only [List.lookup, e]
theorem lk1 {k g : Str} {v : V} {r : List (Str × V)} (h : (k == g) = false) : List.lookup k ((g, v) :: r) = List.lookup k r := by
  simp only [List.lookup, h]
theorem pt0 {f : Str} {v x : V} {r : List (Str × V)} : putF f v ((f, x) :: r) = (f, v) :: r := if_pos rfl
theorem pt1 {f g : Str} {v x : V} {r : List (Str × V)} (h : ¬ g = f) : putF f v ((g, x) :: r) = (g, x) :: putF f v r := if_neg h
theorem lkn {f : Str} {y : V} : List.lookup f [] = (none : Option V) := rfl
end Mp
namespace Mp
open PySem L2
/-- the i-th statement of the program -/
def topS (i : Nat) : Stmt := PySem.Challenge.pw_macroplays_s01_answers.main.body.getD i (.Pass ⟨0, 0, 0, 0⟩)
abbrev s_Refused_init : Stmt := inClass (topS 1) 0
theorem sc_Refused_init : FnScope ["self", "number"] ["self", "number"] (defScope s_Refused_init) := ⟨rfl, rfl, rfl, by decide +kernel, rfl, by decide +kernel, by decide +kernel⟩
abbrev s_WrongNumbers_init : Stmt := inClass (topS 2) 0
theorem sc_WrongNumbers_init : FnScope ["self"] ["self"] (defScope s_WrongNumbers_init) := ⟨rfl, rfl, rfl, by decide +kernel, rfl, by decide +kernel, by decide +kernel⟩
abbrev s_NoSuchRegister_init : Stmt := inClass (topS 3) 0
theorem sc_NoSuchRegister_init : FnScope ["self"] ["self"] (defScope s_NoSuchRegister_init) := ⟨rfl, rfl, rfl, by decide +kernel, rfl, by decide +kernel, by decide +kernel⟩
abbrev s_RecordFull_init : Stmt := inClass (topS 4) 0
theorem sc_RecordFull_init : FnScope ["self"] ["self"] (defScope s_RecordFull_init) := ⟨rfl, rfl, rfl, by decide +kernel, rfl, by decide +kernel, by decide +kernel⟩
abbrev s_OutOfTurn_init : Stmt := inClass (topS 5) 0
theorem sc_OutOfTurn_init : FnScope ["self"] ["self"] (defScope s_OutOfTurn_init) := ⟨rfl, rfl, rfl, by decide +kernel, rfl, by decide +kernel, by decide +kernel⟩
abbrev s_TooMuch_init : Stmt := inClass (topS 6) 0
theorem sc_TooMuch_init : FnScope ["self"] ["self"] (defScope s_TooMuch_init) := ⟨rfl, rfl, rfl, by decide +kernel, rfl, by decide +kernel, by decide +kernel⟩
abbrev s_NeverStops_init : Stmt := inClass (topS 7) 0
theorem sc_NeverStops_init : FnScope ["self"] ["self"] (defScope s_NeverStops_init) := ⟨rfl, rfl, rfl, by decide +kernel, rfl, by decide +kernel, by decide +kernel⟩
abbrev s_Reader_init : Stmt := inClass (topS 14) 0
theorem sc_Reader_init : FnScope ["self", "numbers"] ["self", "numbers"] (defScope s_Reader_init) := ⟨rfl, rfl, rfl, by decide +kernel, rfl, by decide +kernel, by decide +kernel⟩
abbrev s_Reader_at_end : Stmt := inClass (topS 14) 1
theorem sc_Reader_at_end : FnScope ["self"] ["self"] (defScope s_Reader_at_end) := ⟨rfl, rfl, rfl, by decide +kernel, rfl, by decide +kernel, by decide +kernel⟩
abbrev s_Reader_take : Stmt := inClass (topS 14) 2
theorem sc_Reader_take : FnScope ["self", "number"] ["self"] (defScope s_Reader_take) := ⟨rfl, rfl, rfl, by decide +kernel, rfl, by decide +kernel, by decide +kernel⟩
abbrev s_Reader_take_row : Stmt := inClass (topS 14) 3
theorem sc_Reader_take_row : FnScope ["self", "length", "row"] ["self"] (defScope s_Reader_take_row) := ⟨rfl, rfl, rfl, by decide +kernel, rfl, by decide +kernel, by decide +kernel⟩
abbrev s_read_commands : Stmt := topS 15
theorem sc_read_commands : FnScope ["numbers", "commands", "command"] ["numbers"] (defScope s_read_commands) := ⟨rfl, rfl, rfl, by decide +kernel, rfl, by decide +kernel, by decide +kernel⟩
abbrev s_split_commands : Stmt := topS 16
theorem sc_split_commands : FnScope ["numbers", "commands", "position", "end"] ["numbers"] (defScope s_split_commands) := ⟨rfl, rfl, rfl, by decide +kernel, rfl, by decide +kernel, by decide +kernel⟩
abbrev s_check_command : Stmt := topS 17
theorem sc_check_command : FnScope ["command", "most"] ["command"] (defScope s_check_command) := ⟨rfl, rfl, rfl, by decide +kernel, rfl, by decide +kernel, by decide +kernel⟩
abbrev s_Editor_init : Stmt := inClass (topS 20) 0
theorem sc_Editor_init : FnScope ["self", "text", "place", "held"] ["self", "text", "place", "held"] (defScope s_Editor_init) := ⟨rfl, rfl, rfl, by decide +kernel, rfl, by decide +kernel, by decide +kernel⟩
abbrev s_Editor_state : Stmt := inClass (topS 20) 1
theorem sc_Editor_state : FnScope ["self"] ["self"] (defScope s_Editor_state) := ⟨rfl, rfl, rfl, by decide +kernel, rfl, by decide +kernel, by decide +kernel⟩
abbrev s_Editor_restore : Stmt := inClass (topS 20) 2
theorem sc_Editor_restore : FnScope ["self", "state"] ["self", "state"] (defScope s_Editor_restore) := ⟨rfl, rfl, rfl, by decide +kernel, rfl, by decide +kernel, by decide +kernel⟩
abbrev s_Editor_twin : Stmt := inClass (topS 20) 3
theorem sc_Editor_twin : FnScope ["self"] ["self"] (defScope s_Editor_twin) := ⟨rfl, rfl, rfl, by decide +kernel, rfl, by decide +kernel, by decide +kernel⟩
abbrev s_Editor_told : Stmt := inClass (topS 20) 4
theorem sc_Editor_told : FnScope ["self"] ["self"] (defScope s_Editor_told) := ⟨rfl, rfl, rfl, by decide +kernel, rfl, by decide +kernel, by decide +kernel⟩
abbrev s_Editor_here : Stmt := inClass (topS 20) 5
theorem sc_Editor_here : FnScope ["self"] ["self"] (defScope s_Editor_here) := ⟨rfl, rfl, rfl, by decide +kernel, rfl, by decide +kernel, by decide +kernel⟩
abbrev s_put_in : Stmt := topS 21
theorem sc_put_in : FnScope ["editor", "byte"] ["editor", "byte"] (defScope s_put_in) := ⟨rfl, rfl, rfl, by decide +kernel, rfl, by decide +kernel, by decide +kernel⟩
abbrev s_go_left : Stmt := topS 22
theorem sc_go_left : FnScope ["editor"] ["editor"] (defScope s_go_left) := ⟨rfl, rfl, rfl, by decide +kernel, rfl, by decide +kernel, by decide +kernel⟩
abbrev s_go_right : Stmt := topS 23
theorem sc_go_right : FnScope ["editor"] ["editor"] (defScope s_go_right) := ⟨rfl, rfl, rfl, by decide +kernel, rfl, by decide +kernel, by decide +kernel⟩
abbrev s_take_out : Stmt := topS 24
theorem sc_take_out : FnScope ["editor"] ["editor"] (defScope s_take_out) := ⟨rfl, rfl, rfl, by decide +kernel, rfl, by decide +kernel, by decide +kernel⟩
abbrev s_go_to_any : Stmt := topS 25
theorem sc_go_to_any : FnScope ["editor", "byte", "places", "place"] ["editor", "byte", "places"] (defScope s_go_to_any) := ⟨rfl, rfl, rfl, by decide +kernel, rfl, by decide +kernel, by decide +kernel⟩
abbrev s_seek_right : Stmt := topS 26
theorem sc_seek_right : FnScope ["editor", "byte"] ["editor", "byte"] (defScope s_seek_right) := ⟨rfl, rfl, rfl, by decide +kernel, rfl, by decide +kernel, by decide +kernel⟩
abbrev s_seek_left : Stmt := topS 27
theorem sc_seek_left : FnScope ["editor", "byte"] ["editor", "byte"] (defScope s_seek_left) := ⟨rfl, rfl, rfl, by decide +kernel, rfl, by decide +kernel, by decide +kernel⟩
abbrev s_go_first : Stmt := topS 28
theorem sc_go_first : FnScope ["editor"] ["editor"] (defScope s_go_first) := ⟨rfl, rfl, rfl, by decide +kernel, rfl, by decide +kernel, by decide +kernel⟩
abbrev s_go_last : Stmt := topS 29
theorem sc_go_last : FnScope ["editor"] ["editor"] (defScope s_go_last) := ⟨rfl, rfl, rfl, by decide +kernel, rfl, by decide +kernel, by decide +kernel⟩
abbrev s_exchange : Stmt := topS 30
theorem sc_exchange : FnScope ["editor", "place", "pair"] ["editor"] (defScope s_exchange) := ⟨rfl, rfl, rfl, by decide +kernel, rfl, by decide +kernel, by decide +kernel⟩
abbrev s_expect : Stmt := topS 31
theorem sc_expect : FnScope ["editor", "byte"] ["editor", "byte"] (defScope s_expect) := ⟨rfl, rfl, rfl, by decide +kernel, rfl, by decide +kernel, by decide +kernel⟩
abbrev s_expect_other : Stmt := topS 32
theorem sc_expect_other : FnScope ["editor", "byte"] ["editor", "byte"] (defScope s_expect_other) := ⟨rfl, rfl, rfl, by decide +kernel, rfl, by decide +kernel, by decide +kernel⟩
abbrev s_hold : Stmt := topS 33
theorem sc_hold : FnScope ["editor", "byte"] ["editor"] (defScope s_hold) := ⟨rfl, rfl, rfl, by decide +kernel, rfl, by decide +kernel, by decide +kernel⟩
abbrev s_put_held : Stmt := topS 34
theorem sc_put_held : FnScope ["editor"] ["editor"] (defScope s_put_held) := ⟨rfl, rfl, rfl, by decide +kernel, rfl, by decide +kernel, by decide +kernel⟩
abbrev s_do_plain : Stmt := topS 37
theorem sc_do_plain : FnScope ["editor", "command"] ["editor", "command"] (defScope s_do_plain) := ⟨rfl, rfl, rfl, by decide +kernel, rfl, by decide +kernel, by decide +kernel⟩
abbrev s_Player_init : Stmt := inClass (topS 45) 0
theorem sc_Player_init : FnScope ["self", "editor", "macros"] ["self", "editor", "macros"] (defScope s_Player_init) := ⟨rfl, rfl, rfl, by decide +kernel, rfl, by decide +kernel, by decide +kernel⟩
abbrev s_Player_do_row : Stmt := inClass (topS 45) 1
theorem sc_Player_do_row : FnScope ["self", "commands", "depth", "command"] ["self", "commands", "depth"] (defScope s_Player_do_row) := ⟨rfl, rfl, rfl, by decide +kernel, rfl, by decide +kernel, by decide +kernel⟩
abbrev s_Player_do_command : Stmt := inClass (topS 45) 2
theorem sc_Player_do_command : FnScope ["self", "command", "depth"] ["self", "command", "depth"] (defScope s_Player_do_command) := ⟨rfl, rfl, rfl, by decide +kernel, rfl, by decide +kernel, by decide +kernel⟩
abbrev s_Player_do_counted : Stmt := inClass (topS 45) 3
theorem sc_Player_do_counted : FnScope ["self", "command"] ["self", "command"] (defScope s_Player_do_counted) := ⟨rfl, rfl, rfl, by decide +kernel, rfl, by decide +kernel, by decide +kernel⟩
abbrev s_Player_play : Stmt := inClass (topS 45) 4
theorem sc_Player_play : FnScope ["self", "slot", "depth"] ["self", "slot", "depth"] (defScope s_Player_play) := ⟨rfl, rfl, rfl, by decide +kernel, rfl, by decide +kernel, by decide +kernel⟩
abbrev s_Player_play_next : Stmt := inClass (topS 45) 5
theorem sc_Player_play_next : FnScope ["self", "slot", "depth", "seen"] ["self", "slot", "depth", "seen"] (defScope s_Player_play_next) := ⟨rfl, rfl, rfl, by decide +kernel, rfl, by decide +kernel, by decide +kernel⟩
abbrev s_Player_play_times : Stmt := inClass (topS 45) 6
theorem sc_Player_play_times : FnScope ["self", "slot", "times", "depth", "seen", "state"] ["self", "slot", "times", "depth"] (defScope s_Player_play_times) := ⟨rfl, rfl, rfl, by decide +kernel, rfl, by decide +kernel, by decide +kernel⟩
abbrev s_Player_play_until : Stmt := inClass (topS 45) 7
theorem sc_Player_play_until : FnScope ["self", "slot", "depth", "before", "seen", "state"] ["self", "slot", "depth"] (defScope s_Player_play_until) := ⟨rfl, rfl, rfl, by decide +kernel, rfl, by decide +kernel, by decide +kernel⟩
abbrev s_Player_find_period : Stmt := inClass (topS 45) 8
theorem sc_Player_find_period : FnScope ["self", "slot", "seen", "state"] ["self", "slot"] (defScope s_Player_find_period) := ⟨rfl, rfl, rfl, by decide +kernel, rfl, by decide +kernel, by decide +kernel⟩
abbrev s_state_behind : Stmt := topS 46
theorem sc_state_behind : FnScope ["times", "seen", "first", "period"] ["times", "seen", "first"] (defScope s_state_behind) := ⟨rfl, rfl, rfl, by decide +kernel, rfl, by decide +kernel, by decide +kernel⟩
abbrev s_Session_init : Stmt := inClass (topS 48) 0
theorem sc_Session_init : FnScope ["self", "slot"] ["self"] (defScope s_Session_init) := ⟨rfl, rfl, rfl, by decide +kernel, rfl, by decide +kernel, by decide +kernel⟩
abbrev s_Session_start_text : Stmt := inClass (topS 48) 1
theorem sc_Session_start_text : FnScope ["self", "place", "numbers", "number"] ["self", "place", "numbers"] (defScope s_Session_start_text) := ⟨rfl, rfl, rfl, by decide +kernel, rfl, by decide +kernel, by decide +kernel⟩
abbrev s_Session_new_player : Stmt := inClass (topS 48) 2
theorem sc_Session_new_player : FnScope ["self"] ["self"] (defScope s_Session_new_player) := ⟨rfl, rfl, rfl, by decide +kernel, rfl, by decide +kernel, by decide +kernel⟩
abbrev s_Session_do : Stmt := inClass (topS 48) 3
theorem sc_Session_do : FnScope ["self", "numbers", "commands", "player", "answer"] ["self", "numbers"] (defScope s_Session_do) := ⟨rfl, rfl, rfl, by decide +kernel, rfl, by decide +kernel, by decide +kernel⟩
abbrev s_Session_would : Stmt := inClass (topS 48) 4
theorem sc_Session_would : FnScope ["self", "numbers"] ["self", "numbers"] (defScope s_Session_would) := ⟨rfl, rfl, rfl, by decide +kernel, rfl, by decide +kernel, by decide +kernel⟩
abbrev s_Session_put_to_record : Stmt := inClass (topS 48) 5
theorem sc_Session_put_to_record : FnScope ["self", "commands"] ["self", "commands"] (defScope s_Session_put_to_record) := ⟨rfl, rfl, rfl, by decide +kernel, rfl, by decide +kernel, by decide +kernel⟩
abbrev s_Session_fill : Stmt := inClass (topS 48) 6
theorem sc_Session_fill : FnScope ["self", "slot", "numbers"] ["self", "slot", "numbers"] (defScope s_Session_fill) := ⟨rfl, rfl, rfl, by decide +kernel, rfl, by decide +kernel, by decide +kernel⟩
abbrev s_Session_look_up : Stmt := inClass (topS 48) 7
theorem sc_Session_look_up : FnScope ["self", "slot", "answer", "command"] ["self", "slot"] (defScope s_Session_look_up) := ⟨rfl, rfl, rfl, by decide +kernel, rfl, by decide +kernel, by decide +kernel⟩
abbrev s_Session_record : Stmt := inClass (topS 48) 8
theorem sc_Session_record : FnScope ["self", "slot", "more"] ["self", "slot", "more"] (defScope s_Session_record) := ⟨rfl, rfl, rfl, by decide +kernel, rfl, by decide +kernel, by decide +kernel⟩
abbrev s_Session_stop_recording : Stmt := inClass (topS 48) 9
theorem sc_Session_stop_recording : FnScope ["self", "slot"] ["self"] (defScope s_Session_stop_recording) := ⟨rfl, rfl, rfl, by decide +kernel, rfl, by decide +kernel, by decide +kernel⟩
abbrev s_Session_shows : Stmt := inClass (topS 48) 10
theorem sc_Session_shows : FnScope ["self"] ["self"] (defScope s_Session_shows) := ⟨rfl, rfl, rfl, by decide +kernel, rfl, by decide +kernel, by decide +kernel⟩
abbrev s_Session_undo : Stmt := inClass (topS 48) 11
theorem sc_Session_undo : FnScope ["self"] ["self"] (defScope s_Session_undo) := ⟨rfl, rfl, rfl, by decide +kernel, rfl, by decide +kernel, by decide +kernel⟩
abbrev s_Session_period : Stmt := inClass (topS 48) 12
theorem sc_Session_period : FnScope ["self", "slot", "player"] ["self", "slot"] (defScope s_Session_period) := ⟨rfl, rfl, rfl, by decide +kernel, rfl, by decide +kernel, by decide +kernel⟩
abbrev s_try_out : Stmt := topS 49
theorem sc_try_out : FnScope ["player", "commands", "done"] ["player", "commands"] (defScope s_try_out) := ⟨rfl, rfl, rfl, by decide +kernel, rfl, by decide +kernel, by decide +kernel⟩
abbrev s_check_slot : Stmt := topS 50
theorem sc_check_slot : FnScope ["slot"] ["slot"] (defScope s_check_slot) := ⟨rfl, rfl, rfl, by decide +kernel, rfl, by decide +kernel, by decide +kernel⟩
abbrev s_answer_text : Stmt := topS 52
theorem sc_answer_text : FnScope ["session", "reader", "place", "numbers"] ["session", "reader"] (defScope s_answer_text) := ⟨rfl, rfl, rfl, by decide +kernel, rfl, by decide +kernel, by decide +kernel⟩
abbrev s_answer_do : Stmt := topS 53
theorem sc_answer_do : FnScope ["session", "reader", "numbers"] ["session", "reader"] (defScope s_answer_do) := ⟨rfl, rfl, rfl, by decide +kernel, rfl, by decide +kernel, by decide +kernel⟩
abbrev s_answer_set : Stmt := topS 54
theorem sc_answer_set : FnScope ["session", "reader", "slot", "numbers"] ["session", "reader"] (defScope s_answer_set) := ⟨rfl, rfl, rfl, by decide +kernel, rfl, by decide +kernel, by decide +kernel⟩
abbrev s_answer_get : Stmt := topS 55
theorem sc_answer_get : FnScope ["session", "reader", "slot"] ["session", "reader"] (defScope s_answer_get) := ⟨rfl, rfl, rfl, by decide +kernel, rfl, by decide +kernel, by decide +kernel⟩
abbrev s_answer_record : Stmt := topS 56
theorem sc_answer_record : FnScope ["session", "reader", "slot", "more"] ["session", "reader"] (defScope s_answer_record) := ⟨rfl, rfl, rfl, by decide +kernel, rfl, by decide +kernel, by decide +kernel⟩
abbrev s_answer_stop : Stmt := topS 57
theorem sc_answer_stop : FnScope ["session", "reader"] ["session", "reader"] (defScope s_answer_stop) := ⟨rfl, rfl, rfl, by decide +kernel, rfl, by decide +kernel, by decide +kernel⟩
abbrev s_answer_shows : Stmt := topS 58
theorem sc_answer_shows : FnScope ["session", "reader"] ["session", "reader"] (defScope s_answer_shows) := ⟨rfl, rfl, rfl, by decide +kernel, rfl, by decide +kernel, by decide +kernel⟩
abbrev s_answer_undo : Stmt := topS 59
theorem sc_answer_undo : FnScope ["session", "reader"] ["session", "reader"] (defScope s_answer_undo) := ⟨rfl, rfl, rfl, by decide +kernel, rfl, by decide +kernel, by decide +kernel⟩
abbrev s_answer_would : Stmt := topS 60
theorem sc_answer_would : FnScope ["session", "reader", "numbers"] ["session", "reader"] (defScope s_answer_would) := ⟨rfl, rfl, rfl, by decide +kernel, rfl, by decide +kernel, by decide +kernel⟩
abbrev s_answer_period : Stmt := topS 61
theorem sc_answer_period : FnScope ["session", "reader", "slot"] ["session", "reader"] (defScope s_answer_period) := ⟨rfl, rfl, rfl, by decide +kernel, rfl, by decide +kernel, by decide +kernel⟩
abbrev s_answer_call : Stmt := topS 63
theorem sc_answer_call : FnScope ["session", "reader", "call", "refusal"] ["session", "reader"] (defScope s_answer_call) := ⟨rfl, rfl, rfl, by decide +kernel, rfl, by decide +kernel, by decide +kernel⟩
abbrev s_answers : Stmt := topS 64
theorem sc_answers : FnScope ["calls", "reader", "session", "told", "answer"] ["calls"] (defScope s_answers) := ⟨rfl, rfl, rfl, by decide +kernel, rfl, by decide +kernel, by decide +kernel⟩
end Mp
/-! The editor: how it lies in the heap. -/
namespace Mp
open PySem PySem.Spec PyProof.Rows L2

abbrev Ed := Ue10.Ed
/-- bytes as values -/
def tx (l : List Nat) : List V := l.map fun (n : Nat) => V.int (n : Int)
def hdI : Option Nat → Int
  | none => 0
  | some b => (b : Int) + 1
/-- the editor's attributes, its text at t -/
def eF (t : Addr) (p : Nat) (h : Option Nat) : List (Str × V) := [("text", .ref t), ("place", .int (p : Int)), ("held", .int (hdI h))]
/-- at a: an editor -/
def EdAt (C : Addr) (H : Hp) (a : Addr) (e : Ed) : Prop := ∃ dx t, H a = some (.ins C dx (eF t e.at_ e.held)) ∧ H t = some (.tup (tx e.text))
structure EOk (e : Ed) : Prop where
  pl : e.at_ ≤ e.text.length
  sz : e.text.length ≤ 60
/-- what the written part says of the class -/
structure EdC (K : PySem.W.Frag) (C : Addr) : Prop where
  cl : Cls K C
  nT : NoAttr K C "text"
  nP : NoAttr K C "place"
  nH : NoAttr K C "held"
theorem eF_t {t : Addr} {p : Nat} {h : Option Nat} : (eF t p h).lookup ("text" : Str) = some (.ref t) := lk0
theorem eF_p {t : Addr} {p : Nat} {h : Option Nat} : (eF t p h).lookup ("place" : Str) = some (.int (p : Int)) := (lk1 (by decide +kernel)).trans lk0
theorem eF_h {t : Addr} {p : Nat} {h : Option Nat} : (eF t p h).lookup ("held" : Str) = some (.int (hdI h)) := (lk1 (by decide +kernel)).trans ((lk1 (by decide +kernel)).trans lk0)
theorem eF_no {t : Addr} {p : Nat} {h : Option Nat} {m : Str} (h1 : (m == ("text" : Str)) = false) (h2 : (m == ("place" : Str)) = false) (h3 : (m == ("held" : Str)) = false) : (eF t p h).lookup m = none :=
  (lk1 h1).trans ((lk1 h2).trans ((lk1 h3).trans rfl))
theorem eF_put_t {t t' : Addr} {p : Nat} {h : Option Nat} : putF "text" (.ref t') (eF t p h) = eF t' p h := pt0
theorem eF_put_p {t : Addr} {p p' : Nat} {h : Option Nat} {z : Int} (e : z = (p' : Int)) : putF "place" (.int z) (eF t p h) = eF t p' h := by
  subst e
  exact (pt1 (by decide +kernel)).trans (congrArg _ pt0)
theorem eF_put_h {t : Addr} {p : Nat} {h h' : Option Nat} {z : Int} (e : z = hdI h') : putF "held" (.int z) (eF t p h) = eF t p h' := by
  subst e
  exact (pt1 (by decide +kernel)).trans (congrArg _ ((pt1 (by decide +kernel)).trans (congrArg _ pt0)))
theorem eF_len {t : Addr} {p : Nat} {h : Option Nat} : (eF t p h).length < 1000 := by show 3 < 1000; decide

theorem tx_len (l : List Nat) : (tx l).length = l.length := List.length_map _
theorem tx_at (l : List Nat) (i : Nat) : (tx l)[i]? = (l[i]?).map fun (n : Nat) => V.int (n : Int) := List.getElem?_map ..
def hereV (e : Ed) : V := match e.text[e.at_]? with
  | some b => .int (b : Int)
  | none => .non

/-- self.here() -/
def spHere (C : Addr) : Sp := fun vs H Q _ => ∃ a e, vs = [.ref a] ∧ EdAt C H a e ∧ Q (hereV e) H
section
variable {P : Program} {w : World} {K : PySem.W.Frag} {mg : Str → Option Value} {base : Heap} {C f : Addr}
theorem ok_here (D : Df K "here" "Editor.here" s_Editor_here ["self"] f) (E : EdC K C) (ml : mg "len" = none) : Cb P w K mg base CX0 1 f ["self"] (spHere C) := by
  refine D.ok sc_Editor_here (fun vs H Q _ h => ?_) (fun cdv A outer s H vs Q _ hr h => ?_)
  · obtain ⟨a, e, rfl, _⟩ := h
    rfl
  · refine ⟨_, pss_cons (ps_if (pt_cmpR op_lt (pe_fld (pv 0) rfl) (pe_callB call_len_seq (by rfl) ml PySem.boot_len (pa_cons (pe_fld (pv 0) rfl) pa_nil)) (nomark _))
        (pss_one (ps_ret (pe_ix ix_tup (pe_fld (pv 0) rfl) (pe_fld (pv 0) rfl) (fun _ _ => rfl)))) pss_nil) (pss_one (ps_ret pe_non)), ?_⟩
    obtain ⟨a, e, rfl, ⟨dx, t, ha, ht⟩, q⟩ := h
    refine ⟨_, rfl, _, _, _, _, _, rfl, ha, E.cl, E.nP, eF_p, _, rfl, _, _, _, _, _, rfl, ha, E.cl, E.nT, eF_t, t, _, rfl, .inr (SqT.of ht), _, _, rfl, rfl, _, rfl, ?_⟩
    rw [tx_len]
    unfold hereV at q
    by_cases c : e.at_ < e.text.length
    · refine ifT (decide_eq_true (by omega)) ?_
      rw [List.getElem?_eq_getElem c] at q
      refine ⟨_, rfl, _, _, _, _, _, rfl, ha, E.cl, E.nT, eF_t, _, rfl, _, _, _, _, _, rfl, ha, E.cl, E.nP, eF_p, t, tx e.text, _, _, rfl, rfl, SqT.of ht, atI_nat ?_, q⟩
      rw [tx_at, List.getElem?_eq_getElem c]
      rfl
    · refine ifF (decide_eq_false (by omega)) ?_
      rw [List.getElem?_eq_none (by omega)] at q
      exact q
end
end Mp
namespace Mp
open PySem PySem.Spec PyProof.Rows L2

/-! ### list(range(i, j, c)) -/
def rgC (i c : Int) (n : Nat) : List V := (List.range n).map fun (k : Nat) => V.int (i + (k : Int) * c)
theorem rgC_len (i c : Int) (n : Nat) : (rgC i c n).length = n := by
  unfold rgC
  rw [List.length_map, List.length_range]
theorem vals_rgC {i c : Int} {n : Nat} {acc : Array Value} (h : ItemsOf (fun k v => ∃ t, v = .int (i + k * c) t) acc n) : Vals (rgC i c n) acc.toList := by
  have e : acc.toList.length = n := by
    rw [Array.length_toList]
    exact h.1
  unfold rgC
  rw [← e]
  refine vals_of_get acc.toList _ fun j u hj => ?_
  obtain ⟨t, rfl⟩ := h.2 j u (by rw [← hj, Array.getElem?_toList])
  exact ⟨t, rfl⟩
/-- an expression that makes range(i, j, c), of n ints -/
def PRgC (X : Cx) (e : Expr) (t : L2.St → Hp → (Int → Int → Nat → Hp → Prop) → Prop) : Prop :=
  ∀ (pn : List (Addr × Obj)) (s : Shared) (σ : L2.St) (H : Hp) (Q : Int → Int → Nat → Hp → Prop), Inv X pn σ H s → t σ H Q →
    wpAny (model X.prog X.w) X.A (eval e X.env) (fun x s' => ∃ r i j c n t u v H', x = .ref r ∧ IsRange s'.heap r i j c t u v ∧ RgC i j c n ∧ Inv X pn σ H' s' ∧ Q i c n H') X.xe s
def tRgC (ta : TA) : L2.St → Hp → (Int → Int → Nat → Hp → Prop) → Prop := fun σ H Q => ta σ H fun vs H1 => ∃ (i j c : Int) (n : Nat), vs = [.int i, .int j, .int c] ∧ RgC i j c n ∧ Q i c n H1
theorem prg_C {X : Cx} {a b c : Expr} {ta : TA} {p pos : Pos} (hg : Gl X "range") (hm : X.mg "range" = none) (ha : PA X [a, b, c] ta)
    (hs : starEach [a, b, c] X.env = (false, eval a X.env) :: starEach [b, c] X.env := by rfl) (hpl : (backTo pos (starEach [b, c] X.env)).any (·.1) = false := by rfl) :
    PRgC X (.Call (.Name "range" p) [a, b, c] [] pos) (tRgC ta) := by
  intro pn s σ H Q I h
  refine Call_ (ld_blt I hg hm boot_range (PyProof.Rows.callWith_type1 (thn (ha.run pos pn s σ H _ I h) fun us s1 ⟨vs, H1, I1, r1, q1⟩ => ?_) hs hpl))
  obtain ⟨i, j, k, n, e, rc, q⟩ := q1
  subst e
  cases r1 with | cons r w1 => cases w1 with | cons r' w2 => cases w2 with | cons r'' w3 =>
    cases w3
    obtain ⟨t, rfl⟩ := r
    obtain ⟨t', rfl⟩ := r'
    obtain ⟨t'', rfl⟩ := r''
    refine call_range_3 rc.1 ?_ (.inl (PyProof.noPylong_small rc.2.1))
    exact ⟨_, i, j, k, n, t, t', t'', H1, rfl, IsRange.new .., rc, I1.kept (t' := s1.toks) fun b o e => Heap.get?_push_of_some _ e, q⟩
def tLstC (te : L2.St → Hp → (Int → Int → Nat → Hp → Prop) → Prop) : TE := fun σ H Q => te σ H fun i c n H1 => n ≤ 1000 ∧ ∀ q, H1 q = none → Q (.ref q) (upd H1 q (.lst (rgC i c n)))
theorem pe_listC {X : Cx} {e : Expr} {te : L2.St → Hp → (Int → Int → Nat → Hp → Prop) → Prop} {p pos : Pos} (hc : X.calm = true) (hg : Gl X "list") (hm : X.mg "list" = none) (he : PRgC X e te)
    (na : starEach [e] X.env = (false, eval e X.env) :: starEach [] X.env := by rfl) : PE X (.Call (.Name "list" p) [e] [] pos) (tLstC te) := by
  refine ⟨fun pn s σ H Q I h => ?_⟩
  refine Call_ (ld_blt I hg hm boot_list (PyProof.Rows.callWith_type1 (args_cons (thn (he pn s σ H _ I h) fun x s1 ⟨r, i, j, c, n, t, u, v, H1, ex, hr, rc, I1, hn, q⟩ => args_nil ?_) na) na))
  subst ex
  refine call_list_range (n := n) (I1.ok.hd hc) hr rc.2.2.1 rc.2.2.2 (Nat.le_trans hn (by decide)) fun h' tk acc c' hk e' hi => ?_
  refine ⟨.ref s1.heap.objs.size, upd H1 s1.heap.objs.size (.lst (rgC i c n)), I1.laid hk (Nat.le_refl _) (show ObjOk X.prog X.w _ _ _ (.lst (rgC i c n)) from ⟨?_, acc.toList, c', vals_rgC hi, ?_⟩), rfl, q _ (I1.hok.fresh (Nat.le_refl _))⟩
  · rw [rgC_len, sizeLine_eq]
    omega
  · rw [Array.toArray_toList]
    exact e'

/-! ### tuples: slices and sums, wherever the answer stands -/
section
variable {K : PySem.W.Frag} {H : Hp} {a b : Addr} {xs ys : List V} {lo hi : Option Int} {Q : VK}
theorem same_refl {H : Hp} : Same H H := fun _ _ e => e
theorem same_new {p : Addr} {o : HO} (hp : H p = none) : Same H (upd H p o) := fun c u e => by
  rw [upd_ne (ne_of_none e hp)]
  exact e
theorem cut_whole (h : HT.sIx xs.length 0 lo = 0 ∧ HT.sIx xs.length xs.length hi = xs.length) : cutV xs lo hi = xs := by
  unfold cutV
  rw [h.1, h.2]
  simp
theorem slA (ht : H a = some (.tup xs)) (q : ∀ H' p, Same H H' → H' p = some (.tup (cutV xs lo hi)) → Q (.ref p) H') : rSlA K (.ref a) lo hi H Q := by
  refine ⟨a, xs, rfl, SqT.of ht, fun h => ?_, fun _ p hp => ?_⟩
  · exact q H a same_refl (by rw [cut_whole h]; exact ht)
  · exact q _ p (same_new hp) upd_same
theorem slA_n {σ : L2.St} (ht : H a = some (.tup xs)) (q : ∀ H' p, Same H H' → H' p = some (.tup (cutV xs lo none)) → Q (.ref p) H') : tNoPart σ H (fun u H3 => rSlA K (.ref a) lo u H3 Q) := slA (hi := none) ht q
theorem catA (ha : H a = some (.tup xs)) (hb : H b = some (.tup ys)) (hl : xs.length + ys.length ≤ sizeLine) (q : ∀ H' p, Same H H' → H' p = some (.tup (xs ++ ys)) → Q (.ref p) H') : rCatA K (.ref a) (.ref b) H Q := by
  refine ⟨a, b, xs, ys, rfl, rfl, SqT.of ha, SqT.of hb, hl, fun h => ?_, fun _ h => ?_, fun _ _ p hp => ?_⟩
  · subst h
    exact q H b same_refl hb
  · subst h
    exact q H a same_refl (by rw [List.append_nil]; exact ha)
  · exact q _ p (same_new hp) upd_same
theorem cut_to {k : Nat} (h : k ≤ xs.length) : cutV xs none (some (k : Int)) = xs.take k := by
  unfold cutV
  rw [HT.sIx_none, HT.sIx_nat, Nat.min_eq_left h]
  simp
theorem cut_from {k : Nat} (h : k ≤ xs.length) : cutV xs (some (k : Int)) none = xs.drop k := by
  unfold cutV
  rw [HT.sIx_none, HT.sIx_nat, Nat.min_eq_left h]
  rw [List.take_of_length_le]
  rw [List.length_drop]
  exact Nat.le_refl _
theorem cut_both {j k : Nat} (h : k ≤ xs.length) (hj : j ≤ k) : cutV xs (some (j : Int)) (some (k : Int)) = (xs.drop j).take (k - j) := by
  unfold cutV
  rw [HT.sIx_nat, HT.sIx_nat, Nat.min_eq_left h, Nat.min_eq_left (Nat.le_trans hj h)]
end
end Mp
/-! The plain commands. -/
namespace Mp
open PySem PySem.Spec PyProof.Rows L2
open Ue10 (does)

/-- a plain command without a byte; with one -/
def spP0 (C : Addr) (c : Ue10.Cmd) : Sp := fun vs H Q _ => ∃ a e, vs = [.ref a] ∧ EdAt C H a e ∧ EOk e ∧ ∀ H', Keeps a H H' → EdAt C H' a ((does e c).getD e) → Q (.bl (does e c).isSome) H'
def spP1 (C : Addr) (c : Nat → Ue10.Cmd) : Sp := fun vs H Q _ => ∃ (a : Addr) (b : Nat) (e : Ed), vs = [.ref a, .int (b : Int)] ∧ EdAt C H a e ∧ EOk e ∧ ∀ H', Keeps a H H' → EdAt C H' a ((does e (c b)).getD e) → Q (.bl (does e (c b)).isSome) H'
section
variable {C : Addr} {H H' : Hp} {a dx t : Addr} {e e' : Ed} {c : Ue10.Cmd} {Q : VK}
theorem fin_no (k : ∀ H', Keeps a H H' → EdAt C H' a ((does e c).getD e) → Q (.bl (does e c).isSome) H') (d : does e c = none) (kp : Keeps a H H') (h : EdAt C H' a e) : Q (.bl false) H' := by
  have z := k H' kp
  rw [d] at z
  exact z h
theorem fin_yes (k : ∀ H', Keeps a H H' → EdAt C H' a ((does e c).getD e) → Q (.bl (does e c).isSome) H') (d : does e c = some e') (kp : Keeps a H H') (h : EdAt C H' a e') : Q (.bl true) H' := by
  have z := k H' kp
  rw [d] at z
  exact z h
theorem ed_at {fs : List (Str × V)} {text : List Nat} {p : Nat} {h : Option Nat} (ef : fs = eF t p h) (ht : H t = some (.tup (tx text))) (hne : t ≠ a) : EdAt C (upd H a (.ins C dx fs)) a ⟨text, p, h⟩ := by
  subst ef
  exact ⟨dx, t, upd_same, (upd_ne hne).trans ht⟩
theorem tup_ne_ins {fs : List (Str × V)} {xs : List V} (ha : H a = some (.ins C dx fs)) (ht : H t = some (.tup xs)) : t ≠ a := ne_of ht ha (fun z => nomatch z)
end
theorem tx_take (l : List Nat) (k : Nat) : (tx l).take k = tx (l.take k) := (List.map_take).symm
theorem tx_drop (l : List Nat) (k : Nat) : (tx l).drop k = tx (l.drop k) := (List.map_drop).symm
theorem tx_app (l m : List Nat) : tx l ++ tx m = tx (l ++ m) := (List.map_append).symm
theorem tx_get {l : List Nat} {i : Nat} {b : Nat} (h : l[i]? = some b) : (tx l)[i]? = some (.int (b : Int)) := by
  rw [tx_at, h]
  rfl

section
variable {P : Program} {w : World} {K : PySem.W.Frag} {mg : Str → Option Value} {base : Heap} {C f : Addr}
theorem ok_go_left (D : Df K "go_left" "go_left" s_go_left ["editor"] f) (E : EdC K C) : Cb P w K mg base CX0 1 f ["editor"] (spP0 C .left) := by
  refine D.ok sc_go_left (fun vs H Q _ h => ?_) (fun cdv A outer s H vs Q _ hr h => ?_)
  · obtain ⟨a, e, rfl, _⟩ := h
    rfl
  · refine ⟨_, pss_cons (ps_if (pt_cmpR op_eq (pe_fld (pv 0) rfl) pe_int (nomark _)) (pss_one (ps_ret pe_bl)) pss_nil) (pss_cons (ps_fldaug (pv 0) pe_int in_sub) (pss_one (ps_ret pe_bl))), ?_⟩
    obtain ⟨a, e, rfl, ⟨dx, t, ha, ht⟩, ok, k⟩ := h
    refine ⟨_, rfl, _, _, _, _, _, rfl, ha, E.cl, E.nP, eF_p, rfl, _, rfl, ?_⟩
    by_cases c : e.at_ = 0
    · refine ifT (decide_eq_true (congrArg V.int (by rw [c]; rfl))) ?_
      exact fin_no k (if_pos c) Keeps.refl ⟨dx, t, ha, ht⟩
    · refine ifF (decide_eq_false (fun z => c (by injection z with z; omega))) ?_
      refine ⟨_, rfl, _, _, _, _, _, rfl, ha, E.cl, E.nP, eF_p, _, _, rfl, rfl, dx, _, ha, eF_len, ?_⟩
      exact fin_yes k (if_neg c) Keeps.refl.upd (ed_at (eF_put_p (by omega)) ht (tup_ne_ins ha ht))
theorem ok_go_right {fh : Addr} (D : Df K "go_right" "go_right" s_go_right ["editor"] f) (E : EdC K C) (Ch : Cb P w K mg base CX0 1 fh ["self"] (spHere C)) (mh : Meth K C "here" fh) : Cb P w K mg base CX0 2 f ["editor"] (spP0 C .right) := by
  refine D.ok sc_go_right (fun vs H Q _ h => ?_) (fun cdv A outer s H vs Q _ hr h => ?_)
  · obtain ⟨a, e, rfl, _⟩ := h
    rfl
  · refine ⟨_, pss_cons (ps_if (pt_cmp (pc_isN (pe_mb0 Ch E.cl mh hr (by decide) (pv 0)))) (pss_one (ps_ret pe_bl)) pss_nil) (pss_cons (ps_fldaug (pv 0) pe_int in_add) (pss_one (ps_ret pe_bl))), ?_⟩
    obtain ⟨a, e, rfl, ⟨dx, t, ha, ht⟩, ok, k⟩ := h
    refine ⟨_, rfl, a, dx, _, rfl, ha, eF_no (by decide +kernel) (by decide +kernel) (by decide +kernel), a, e, rfl, ⟨dx, t, ha, ht⟩, _, rfl, ?_⟩
    by_cases c : e.text.length ≤ e.at_
    · have z : hereV e = .non := by
        unfold hereV
        rw [List.getElem?_eq_none c]
      refine ifT (decide_eq_true z) ?_
      exact fin_no k (if_pos c) Keeps.refl ⟨dx, t, ha, ht⟩
    · have z : ¬ hereV e = .non := by
        unfold hereV
        rw [List.getElem?_eq_getElem (by omega)]
        exact fun q => nomatch q
      refine ifF (decide_eq_false z) ?_
      refine ⟨_, rfl, _, _, _, _, _, rfl, ha, E.cl, E.nP, eF_p, _, _, rfl, rfl, dx, _, ha, eF_len, ?_⟩
      exact fin_yes k (if_neg c) Keeps.refl.upd (ed_at (eF_put_p (by omega)) ht (tup_ne_ins ha ht))
theorem ok_go_first (D : Df K "go_first" "go_first" s_go_first ["editor"] f) (E : EdC K C) : Cb P w K mg base CX0 1 f ["editor"] (spP0 C .home) := by
  refine D.ok sc_go_first (fun vs H Q _ h => ?_) (fun cdv A outer s H vs Q _ hr h => ?_)
  · obtain ⟨a, e, rfl, _⟩ := h
    rfl
  · refine ⟨_, pss_cons (ps_fld (pv 0) pe_int rfl) (pss_one (ps_ret pe_bl)), ?_⟩
    obtain ⟨a, e, rfl, ⟨dx, t, ha, ht⟩, ok, k⟩ := h
    refine ⟨_, rfl, a, C, dx, _, rfl, ha, E.cl, E.nP, eF_len, ?_⟩
    exact fin_yes k rfl Keeps.refl.upd (ed_at (eF_put_p rfl) ht (tup_ne_ins ha ht))
theorem ok_go_last (D : Df K "go_last" "go_last" s_go_last ["editor"] f) (E : EdC K C) (ml : mg "len" = none) : Cb P w K mg base CX0 1 f ["editor"] (spP0 C .end_) := by
  refine D.ok sc_go_last (fun vs H Q _ h => ?_) (fun cdv A outer s H vs Q _ hr h => ?_)
  · obtain ⟨a, e, rfl, _⟩ := h
    rfl
  · refine ⟨_, pss_cons (ps_fld (pv 0) (pe_callB call_len_seq (by rfl) ml PySem.boot_len (pa_cons (pe_fld (pv 0) rfl) pa_nil)) rfl) (pss_one (ps_ret pe_bl)), ?_⟩
    obtain ⟨a, e, rfl, ⟨dx, t, ha, ht⟩, ok, k⟩ := h
    refine ⟨_, rfl, _, _, _, _, _, rfl, ha, E.cl, E.nT, eF_t, t, _, rfl, .inr (SqT.of ht), _, rfl, a, C, dx, _, rfl, ha, E.cl, E.nP, eF_len, ?_⟩
    exact fin_yes k rfl Keeps.refl.upd (ed_at (eF_put_p (by rw [tx_len])) ht (tup_ne_ins ha ht))
theorem ok_put_in (D : Df K "put_in" "put_in" s_put_in ["editor", "byte"] f) (E : EdC K C) (ml : mg "len" = none) {tm : Tok} (mb : mg "MOST_BYTES" = some (.int 60 tm)) : Cb P w K mg base CX0 1 f ["editor", "byte"] (spP1 C .insert) := by
  refine D.ok sc_put_in (fun vs H Q _ h => ?_) (fun cdv A outer s H vs Q _ hr h => ?_)
  · obtain ⟨a, b, e, rfl, _⟩ := h
    rfl
  · refine ⟨_, pss_cons (ps_if (pt_cmpR op_ge (pe_callB call_len_seq (by rfl) ml PySem.boot_len (pa_cons (pe_fld (pv 0) rfl) pa_nil)) (pe_glob (v := .int 60) rfl mb ⟨_, rfl⟩) (nomark _)) (pss_one (ps_ret pe_bl)) pss_nil)
      (pss_cons (ps_fld (pv 0) (pe_op op_catA (pe_op op_catA (pe_slice sl_tupA (pe_fld (pv 0) rfl) po_none (po_some (pe_fld (pv 0) rfl))) (pe_tup (pa_cons (pv 1) pa_nil))) (pe_slice sl_tupA (pe_fld (pv 0) rfl) (po_some (pe_fld (pv 0) rfl)) po_none)) rfl)
      (pss_cons (ps_fldaug (pv 0) pe_int in_add) (pss_one (ps_ret pe_bl)))), ?_⟩
    obtain ⟨a, b, e, rfl, ⟨dx, t, ha, ht⟩, ok, k⟩ := h
    have hpl := ok.pl
    have hsz := ok.sz
    have hcl : e.at_ ≤ (tx e.text).length := by
      rw [tx_len]
      exact hpl
    refine ⟨_, rfl, _, _, _, _, _, rfl, ha, E.cl, E.nT, eF_t, t, _, rfl, .inr (SqT.of ht), _, _, rfl, rfl, _, rfl, ?_⟩
    rw [tx_len]
    by_cases c : 60 ≤ e.text.length
    · refine ifT (decide_eq_true (by omega)) ?_
      exact fin_no k (if_pos c) Keeps.refl ⟨dx, t, ha, ht⟩
    · refine ifF (decide_eq_false (by omega)) ?_
      refine ⟨_, rfl, _, _, _, _, _, rfl, ha, E.cl, E.nT, eF_t, _, rfl, _, _, _, _, _, rfl, ha, E.cl, E.nP, eF_p, _, rfl, ?_⟩
      refine slA ht fun H1 p1 s1 h1 => ?_
      refine ⟨_, rfl, (by show 1 ≤ sizeLine; rw [sizeLine_eq]; omega), fun p2 n2 => ?_⟩
      have s2 : Same H (upd H1 p2 (.tup [.int (b : Int)])) := fun x o z => same_new n2 x o (s1 x o z)
      refine catA (same_new n2 _ _ h1) upd_same ?_ fun H3 p3 s3 h3 => ?_
      · rw [cut_to hcl, tx_take, tx_len, List.length_take, sizeLine_eq]
        show min e.at_ e.text.length + 1 ≤ 16777216
        omega
      have s4 : Same H H3 := fun x o z => s3 x o (s2 x o z)
      refine ⟨_, rfl, _, _, _, _, _, rfl, s4 _ _ ha, E.cl, E.nT, eF_t, _, rfl, _, _, _, _, _, rfl, s4 _ _ ha, E.cl, E.nP, eF_p, _, rfl, ?_⟩
      refine slA_n (s4 _ _ ht) fun H5 p5 s5 h5 => ?_
      have s6 : Same H H5 := fun x o z => s5 x o (s4 x o z)
      rw [cut_to hcl, tx_take] at h3
      rw [cut_from hcl, tx_drop] at h5
      have one : [V.int (b : Int)] = tx [b] := rfl
      refine catA (s5 _ _ h3) h5 ?_ fun H7 p7 s7 h7 => ?_
      · rw [one, tx_app, tx_len, tx_len, List.length_append, List.length_take, List.length_drop, sizeLine_eq]
        show min e.at_ e.text.length + 1 + (e.text.length - e.at_) ≤ 16777216
        omega
      have s8 : Same H H7 := fun x o z => s7 x o (s6 x o z)
      rw [one, tx_app, tx_app] at h7
      have ha7 := s8 _ _ ha
      refine ⟨_, rfl, a, C, dx, _, rfl, ha7, E.cl, E.nT, eF_len, ?_⟩
      rw [eF_put_t]
      refine ⟨_, rfl, _, _, _, _, _, rfl, upd_same, E.cl, E.nP, eF_p, _, _, rfl, rfl, dx, _, upd_same, eF_len, ?_⟩
      refine fin_yes (e' := ⟨e.text.take e.at_ ++ (b :: e.text.drop e.at_), e.at_ + 1, e.held⟩) k (if_neg c) (Keeps.upd (Keeps.upd (fun x o z _ => s8 x o z))) (ed_at (eF_put_p (by omega)) ?_ (tup_ne_ins ha7 h7))
      rw [upd_ne (tup_ne_ins ha7 h7), h7, List.append_assoc]
      rfl
theorem ok_take_out {fh : Addr} (D : Df K "take_out" "take_out" s_take_out ["editor"] f) (E : EdC K C) (Ch : Cb P w K mg base CX0 1 fh ["self"] (spHere C)) (mh : Meth K C "here" fh) : Cb P w K mg base CX0 2 f ["editor"] (spP0 C .delete) := by
  refine D.ok sc_take_out (fun vs H Q _ h => ?_) (fun cdv A outer s H vs Q _ hr h => ?_)
  · obtain ⟨a, e, rfl, _⟩ := h
    rfl
  · refine ⟨_, pss_cons (ps_if (pt_cmp (pc_isN (pe_mb0 Ch E.cl mh hr (by decide) (pv 0)))) (pss_one (ps_ret pe_bl)) pss_nil)
      (pss_cons (ps_fld (pv 0) (pe_op op_catA (pe_slice sl_tupA (pe_fld (pv 0) rfl) po_none (po_some (pe_fld (pv 0) rfl))) (pe_slice sl_tupA (pe_fld (pv 0) rfl) (po_some (pe_op op_add (pe_fld (pv 0) rfl) pe_int)) po_none)) rfl)
      (pss_one (ps_ret pe_bl))), ?_⟩
    obtain ⟨a, e, rfl, ⟨dx, t, ha, ht⟩, ok, k⟩ := h
    have hpl := ok.pl
    have hsz := ok.sz
    refine ⟨_, rfl, a, dx, _, rfl, ha, eF_no (by decide +kernel) (by decide +kernel) (by decide +kernel), a, e, rfl, ⟨dx, t, ha, ht⟩, _, rfl, ?_⟩
    by_cases c : e.text.length ≤ e.at_
    · have z : hereV e = .non := by
        unfold hereV
        rw [List.getElem?_eq_none c]
      refine ifT (decide_eq_true z) ?_
      exact fin_no k (if_pos c) Keeps.refl ⟨dx, t, ha, ht⟩
    · have z : ¬ hereV e = .non := by
        unfold hereV
        rw [List.getElem?_eq_getElem (by omega)]
        exact fun q => nomatch q
      have hcl : e.at_ ≤ (tx e.text).length := by
        rw [tx_len]
        exact hpl
      have hcl1 : e.at_ + 1 ≤ (tx e.text).length := by
        rw [tx_len]
        omega
      refine ifF (decide_eq_false z) ?_
      refine ⟨_, rfl, _, _, _, _, _, rfl, ha, E.cl, E.nT, eF_t, _, rfl, _, _, _, _, _, rfl, ha, E.cl, E.nP, eF_p, _, rfl, ?_⟩
      refine slA ht fun H1 p1 s1 h1 => ?_
      have ha1 := s1 _ _ ha
      refine ⟨_, rfl, _, _, _, _, _, rfl, ha1, E.cl, E.nT, eF_t, _, rfl, _, _, _, _, _, rfl, ha1, E.cl, E.nP, eF_p, _, _, rfl, rfl, _, rfl, ?_⟩
      refine slA_n (s1 _ _ ht) fun H3 p3 s3 h3 => ?_
      rw [cut_to hcl, tx_take] at h1
      have e1 : (e.at_ : Int) + 1 = ((e.at_ + 1 : Nat) : Int) := by omega
      rw [e1, cut_from hcl1, tx_drop] at h3
      refine catA (s3 _ _ h1) h3 ?_ fun H5 p5 s5 h5 => ?_
      · rw [tx_len, tx_len, List.length_take, List.length_drop, sizeLine_eq]
        omega
      have s6 : Same H H5 := fun x o z => s5 x o (s3 x o (s1 x o z))
      rw [tx_app] at h5
      have ha5 := s6 _ _ ha
      refine ⟨_, rfl, a, C, dx, _, rfl, ha5, E.cl, E.nT, eF_len, ?_⟩
      exact fin_yes k (if_neg c) (Keeps.upd (fun x o z _ => s6 x o z)) (ed_at eF_put_t h5 (tup_ne_ins ha5 h5))
end
end Mp
namespace Mp
open PySem PySem.Spec PyProof.Rows L2
open Ue10 (does)

theorem here_some {e : Ed} {b : Nat} (h : e.text[e.at_]? = some b) : hereV e = .int (b : Int) := by
  unfold hereV
  rw [h]
theorem here_none {e : Ed} (h : e.text[e.at_]? = none) : hereV e = .non := by
  unfold hereV
  rw [h]
theorem here_scal (e : Ed) (b : Nat) : scal (hereV e) (.int (b : Int)) = true := by
  cases h : e.text[e.at_]? with
  | none =>
    rw [here_none h]
    rfl
  | some c =>
    rw [here_some h]
    rfl
theorem here_eq (e : Ed) (b : Nat) : decide (hereV e = .int (b : Int)) = decide (e.text[e.at_]? = some b) := by
  cases h : e.text[e.at_]? with
  | none =>
    rw [here_none h]
    rfl
  | some c =>
    rw [here_some h]
    by_cases z : c = b
    · subst z
      simp
    · have z1 : ¬ V.int (c : Int) = V.int (b : Int) := fun q => z (by injection q with q; omega)
      have z2 : ¬ some c = some b := fun q => z (Option.some.inj q)
      rw [decide_eq_false z1, decide_eq_false z2]

section
variable {P : Program} {w : World} {K : PySem.W.Frag} {mg : Str → Option Value} {base : Heap} {C f fh : Addr}
theorem ok_expect (D : Df K "expect" "expect" s_expect ["editor", "byte"] f) (E : EdC K C) (Ch : Cb P w K mg base CX0 1 fh ["self"] (spHere C)) (mh : Meth K C "here" fh) : Cb P w K mg base CX0 2 f ["editor", "byte"] (spP1 C .is_) := by
  refine D.ok sc_expect (fun vs H Q _ h => ?_) (fun cdv A outer s H vs Q _ hr h => ?_)
  · obtain ⟨a, b, e, rfl, _⟩ := h
    rfl
  · refine ⟨_, pss_one (ps_ret (pe_cmpR op_eq (pe_mb0 Ch E.cl mh hr (by decide) (pv 0)) (pv 1) (nomark _))), ?_⟩
    obtain ⟨a, b, e, rfl, ⟨dx, t, ha, ht⟩, ok, k⟩ := h
    refine ⟨_, rfl, a, dx, _, rfl, ha, eF_no (by decide +kernel) (by decide +kernel) (by decide +kernel), a, e, rfl, ⟨dx, t, ha, ht⟩, _, rfl, here_scal e b, ?_⟩
    rw [here_eq]
    by_cases c : e.text[e.at_]? = some b
    · rw [decide_eq_true c]
      exact fin_yes k (if_pos c) Keeps.refl ⟨dx, t, ha, ht⟩
    · rw [decide_eq_false c]
      exact fin_no k (if_neg c) Keeps.refl ⟨dx, t, ha, ht⟩
theorem ok_expect_other (D : Df K "expect_other" "expect_other" s_expect_other ["editor", "byte"] f) (E : EdC K C) (Ch : Cb P w K mg base CX0 1 fh ["self"] (spHere C)) (mh : Meth K C "here" fh) : Cb P w K mg base CX0 2 f ["editor", "byte"] (spP1 C .isnt) := by
  refine D.ok sc_expect_other (fun vs H Q _ h => ?_) (fun cdv A outer s H vs Q _ hr h => ?_)
  · obtain ⟨a, b, e, rfl, _⟩ := h
    rfl
  · refine ⟨_, pss_one (ps_ret (pe_cmpR op_ne (pe_mb0 Ch E.cl mh hr (by decide) (pv 0)) (pv 1) (nomark _))), ?_⟩
    obtain ⟨a, b, e, rfl, ⟨dx, t, ha, ht⟩, ok, k⟩ := h
    refine ⟨_, rfl, a, dx, _, rfl, ha, eF_no (by decide +kernel) (by decide +kernel) (by decide +kernel), a, e, rfl, ⟨dx, t, ha, ht⟩, _, rfl, here_scal e b, ?_⟩
    rw [here_eq]
    by_cases c : e.text[e.at_]? = some b
    · rw [decide_eq_true c]
      exact fin_no k (if_pos c) Keeps.refl ⟨dx, t, ha, ht⟩
    · rw [decide_eq_false c]
      exact fin_yes k (if_neg c) Keeps.refl ⟨dx, t, ha, ht⟩
theorem ok_hold (D : Df K "hold" "hold" s_hold ["editor"] f) (E : EdC K C) (Ch : Cb P w K mg base CX0 1 fh ["self"] (spHere C)) (mh : Meth K C "here" fh) : Cb P w K mg base CX0 2 f ["editor"] (spP0 C .hold) := by
  refine D.ok sc_hold (fun vs H Q _ h => ?_) (fun cdv A outer s H vs Q _ hr h => ?_)
  · obtain ⟨a, e, rfl, _⟩ := h
    rfl
  · refine ⟨_, pss_cons (ps_set (i := 1) sc_hold.nd rfl (Or.inl rfl) (pe_mb0 Ch E.cl mh hr (by decide) (pv 0)))
      (pss_cons (ps_if (pt_cmp (pc_isN (pv 1))) (pss_one (ps_ret pe_bl)) pss_nil)
      (pss_cons (ps_fld (pv 0) (pe_op op_add (pv 1) pe_int) rfl) (pss_one (ps_ret pe_bl)))), ?_⟩
    obtain ⟨a, e, rfl, ⟨dx, t, ha, ht⟩, ok, k⟩ := h
    refine ⟨_, rfl, a, dx, _, rfl, ha, eF_no (by decide +kernel) (by decide +kernel) (by decide +kernel), a, e, rfl, ⟨dx, t, ha, ht⟩, _, rfl, _, rfl, ?_⟩
    cases c : e.text[e.at_]? with
    | none =>
      refine ifT (decide_eq_true (here_none c)) ?_
      refine fin_no k ?_ Keeps.refl ⟨dx, t, ha, ht⟩
      show (e.text[e.at_]?).map _ = none
      rw [c]
      rfl
    | some b =>
      rw [here_some c]
      refine ifF (decide_eq_false (fun z => nomatch z)) ?_
      refine ⟨_, rfl, _, _, rfl, rfl, _, rfl, a, C, dx, _, rfl, ha, E.cl, E.nH, eF_len, ?_⟩
      refine fin_yes (e' := ⟨e.text, e.at_, some b⟩) k ?_ Keeps.refl.upd (ed_at (eF_put_h rfl) ht (tup_ne_ins ha ht))
      show (e.text[e.at_]?).map _ = _
      rw [c]
      rfl
theorem ok_put_held {fp : Addr} (D : Df K "put_held" "put_held" s_put_held ["editor"] f) (E : EdC K C) (Cp : Cb P w K mg base CX0 1 fp ["editor", "byte"] (spP1 C .insert)) (gp : mg "put_in" = some (.ref fp)) : Cb P w K mg base CX0 2 f ["editor"] (spP0 C .put) := by
  refine D.ok sc_put_held (fun vs H Q _ h => ?_) (fun cdv A outer s H vs Q _ hr h => ?_)
  · obtain ⟨a, e, rfl, _⟩ := h
    rfl
  · refine ⟨_, pss_cons (ps_if (pt_cmpR op_eq (pe_fld (pv 0) rfl) pe_int (nomark _)) (pss_one (ps_ret pe_bl)) pss_nil)
      (pss_one (ps_ret (pe_cb Cp hr (by decide) (by rfl) gp (pa_cons (pv 0) (pa_cons (pe_op op_sub (pe_fld (pv 0) rfl) pe_int) pa_nil))))), ?_⟩
    obtain ⟨a, e, rfl, ⟨dx, t, ha, ht⟩, ok, k⟩ := h
    refine ⟨_, rfl, _, _, _, _, _, rfl, ha, E.cl, E.nH, eF_h, rfl, _, rfl, ?_⟩
    cases c : e.held with
    | none =>
      refine ifT rfl ?_
      refine fin_no k ?_ Keeps.refl ⟨dx, t, ha, ht⟩
      show e.held.bind _ = none
      rw [c]
      rfl
    | some b =>
      refine ifF (decide_eq_false (fun z => by injection z with z; have z' : (b : Int) + 1 = 0 := z; omega)) ?_
      refine ⟨_, rfl, _, rfl, _, _, _, _, _, rfl, ha, E.cl, E.nH, eF_h, _, _, rfl, rfl, a, b, e, ?_, ⟨dx, t, ha, ht⟩, ok, ?_⟩
      · rw [c]
        show [V.ref a, V.int ((b : Int) + 1 - 1)] = _
        rw [Int.add_sub_cancel]
      · have d : does e .put = does e (.insert b) := by
          show e.held.bind _ = _
          rw [c]
          rfl
        rw [← d]
        exact k
theorem ok_exchange (D : Df K "exchange" "exchange" s_exchange ["editor"] f) (E : EdC K C) (ml : mg "len" = none) : Cb P w K mg base CX0 1 f ["editor"] (spP0 C .swap) := by
  refine D.ok sc_exchange (fun vs H Q _ h => ?_) (fun cdv A outer s H vs Q _ hr h => ?_)
  · obtain ⟨a, e, rfl, _⟩ := h
    rfl
  · refine ⟨_, pss_cons (ps_set (i := 1) sc_exchange.nd rfl (Or.inl rfl) (pe_fld (pv 0) rfl))
      (pss_cons (ps_if (pt_cmpR op_gt (pe_op op_add (pv 1) pe_int) (pe_callB call_len_seq (by rfl) ml PySem.boot_len (pa_cons (pe_fld (pv 0) rfl) pa_nil)) (nomark _)) (pss_one (ps_ret pe_bl)) pss_nil)
      (pss_cons (ps_set (i := 2) sc_exchange.nd rfl (Or.inl rfl) (pe_tup (pa_cons (pe_ix ix_tup (pe_fld (pv 0) rfl) (pe_op op_add (pv 1) pe_int) (fun _ _ => rfl)) (pa_cons (pe_ix ix_tup (pe_fld (pv 0) rfl) (pv 1) (fun _ _ => rfl)) pa_nil))))
      (pss_cons (ps_fld (pv 0) (pe_op op_catA (pe_op op_catA (pe_slice sl_tupA (pe_fld (pv 0) rfl) po_none (po_some (pv 1))) (pv 2)) (pe_slice sl_tupA (pe_fld (pv 0) rfl) (po_some (pe_op op_add (pv 1) pe_int)) po_none)) rfl)
      (pss_one (ps_ret pe_bl))))), ?_⟩
    obtain ⟨a, e, rfl, ⟨dx, t, ha, ht⟩, ok, k⟩ := h
    have hpl := ok.pl
    have hsz := ok.sz
    refine ⟨_, rfl, _, _, _, _, _, rfl, ha, E.cl, E.nP, eF_p, _, rfl, _, _, rfl, rfl, _, rfl, _, _, _, _, _, rfl, ha, E.cl, E.nT, eF_t, t, _, rfl, .inr (SqT.of ht), _, _, rfl, rfl, _, rfl, ?_⟩
    rw [tx_len]
    by_cases c : e.at_ + 2 ≤ e.text.length
    · refine ifF (decide_eq_false (by omega)) ?_
      obtain ⟨x, hx⟩ : ∃ x, e.text[e.at_]? = some x := ⟨_, List.getElem?_eq_getElem (by omega)⟩
      obtain ⟨y, hy⟩ : ∃ y, e.text[e.at_ + 1]? = some y := ⟨_, List.getElem?_eq_getElem (by omega)⟩
      have hdr : e.text.drop e.at_ = x :: y :: e.text.drop (e.at_ + 2) := by
        rw [List.drop_eq_getElem_cons (by omega), List.drop_eq_getElem_cons (i := e.at_ + 1) (by omega)]
        rw [List.getElem?_eq_getElem (by omega)] at hx hy
        rw [Option.some.inj hx, Option.some.inj hy]
      have e1 : (e.at_ : Int) + 1 = ((e.at_ + 1 : Nat) : Int) := by omega
      have e2 : (e.at_ : Int) + 2 = ((e.at_ + 2 : Nat) : Int) := by omega
      refine ⟨_, rfl, _, _, _, _, _, rfl, ha, E.cl, E.nT, eF_t, _, rfl, _, _, rfl, rfl, t, _, _, _, rfl, rfl, SqT.of ht, (by rw [e1]; exact atI_nat (tx_get hy)), ?_⟩
      refine ⟨_, rfl, _, _, _, _, _, rfl, ha, E.cl, E.nT, eF_t, _, rfl, t, _, _, _, rfl, rfl, SqT.of ht, atI_nat (tx_get hx), (by show 2 ≤ sizeLine; rw [sizeLine_eq]; omega), fun p0 n0 => ?_⟩
      have hcl : e.at_ ≤ (tx e.text).length := by
        rw [tx_len]
        exact hpl
      have hcl2 : e.at_ + 2 ≤ (tx e.text).length := by
        rw [tx_len]
        exact c
      have s0 : Same H (upd H p0 (.tup [.int (y : Int), .int (x : Int)])) := same_new n0
      have ha0 := s0 _ _ ha
      refine ⟨_, rfl, _, _, _, _, _, rfl, ha0, E.cl, E.nT, eF_t, _, rfl, _, rfl, ?_⟩
      refine slA (s0 _ _ ht) fun H1 p1 s1 h1 => ?_
      have hp1 := s1 _ _ (upd_same (H := H) (a := p0) (o := .tup [.int (y : Int), .int (x : Int)]))
      have two : [V.int (y : Int), V.int (x : Int)] = tx [y, x] := rfl
      rw [cut_to hcl, tx_take] at h1
      rw [two] at hp1
      refine ⟨_, rfl, ?_⟩
      refine catA h1 hp1 ?_ fun H3 p3 s3 h3 => ?_
      · rw [tx_len, tx_len, List.length_take, sizeLine_eq]
        show min e.at_ e.text.length + 2 ≤ 16777216
        omega
      have s4 : Same H H3 := fun b o z => s3 b o (s1 b o (s0 b o z))
      have ha4 := s4 _ _ ha
      refine ⟨_, rfl, _, _, _, _, _, rfl, ha4, E.cl, E.nT, eF_t, _, rfl, _, _, rfl, rfl, _, rfl, ?_⟩
      refine slA_n (s4 _ _ ht) fun H5 p5 s5 h5 => ?_
      rw [e2, cut_from hcl2, tx_drop] at h5
      rw [tx_app] at h3
      refine catA (s5 _ _ h3) h5 ?_ fun H7 p7 s7 h7 => ?_
      · rw [tx_len, tx_len, List.length_append, List.length_take, List.length_drop, sizeLine_eq]
        show min e.at_ e.text.length + 2 + (e.text.length - (e.at_ + 2)) ≤ 16777216
        omega
      have s8 : Same H H7 := fun b o z => s7 b o (s5 b o (s4 b o z))
      rw [tx_app] at h7
      have ha8 := s8 _ _ ha
      refine ⟨_, rfl, a, C, dx, _, rfl, ha8, E.cl, E.nT, eF_len, ?_⟩
      refine fin_yes (e' := ⟨e.text.take e.at_ ++ (y :: x :: e.text.drop (e.at_ + 2)), e.at_, e.held⟩) k ?_ (Keeps.upd (fun b o z _ => s8 b o z)) (ed_at eF_put_t ?_ (tup_ne_ins ha8 h7))
      · show (match e.text.drop e.at_ with | a :: b :: l => _ | _ => _) = _
        rw [hdr]
      · rw [h7, List.append_assoc]
        rfl
    · refine ifT (decide_eq_true (by omega)) ?_
      refine fin_no k ?_ Keeps.refl ⟨dx, t, ha, ht⟩
      show (match e.text.drop e.at_ with | a :: b :: l => _ | _ => _) = none
      have hl : (e.text.drop e.at_).length < 2 := by
        rw [List.length_drop]
        omega
      match hm : e.text.drop e.at_, hl with
      | [], _ => rfl
      | [_], _ => rfl
end
end Mp
namespace Mp
open PySem PySem.Spec PyProof.Rows L2
open Ue10 (does)

/-- the first of the places ps that has the byte -/
def anyAt (l : List Nat) (b : Nat) (ps : List Nat) : Option Nat := ps.find? fun p => decide (l[p]? = some b)
theorem any_find (l : List Nat) (b : Nat) : ∀ (m : List Nat) (g : Nat → Nat), (∀ i, i < m.length → l[g i]? = m[i]?) → anyAt l b ((List.range m.length).map g) = (m.findIdx? fun c => c == b).map g
  | [], g, _ => rfl
  | x :: m, g, h => by
    have h0 : l[g 0]? = some x := h 0 (Nat.zero_lt_succ _)
    have ih := any_find l b m (g ∘ Nat.succ) fun i hi => h (i + 1) (Nat.succ_lt_succ hi)
    unfold anyAt at ih ⊢
    rw [List.length_cons, List.range_succ_eq_map, List.map_cons, List.map_map, List.find?_cons, List.findIdx?_cons]
    by_cases e : x = b
    · subst e
      rw [h0]
      simp
    · have e1 : ¬ l[g 0]? = some b := fun z => e (Option.some.inj (h0.symm.trans z))
      have e2 : (x == b) = false := by simpa using e
      rw [decide_eq_false e1, e2, ih]
      show _ = ((m.findIdx? fun c => c == b).map fun i => i + 1).map g
      rw [Option.map_map]
theorem any_right (l : List Nat) (b k : Nat) : anyAt l b ((List.range (l.length - k)).map (k + ·)) = ((l.drop k).findIdx? fun c => c == b).map (k + ·) := by
  have z := any_find l b (l.drop k) (k + ·) fun i _ => (List.getElem?_drop).symm
  rw [List.length_drop] at z
  exact z
theorem any_left (l : List Nat) (b p : Nat) (hp : p ≤ l.length) : anyAt l b ((List.range p).map (p - 1 - ·)) = ((l.take p).reverse.findIdx? fun c => c == b).map (p - 1 - ·) := by
  have hl : (l.take p).reverse.length = p := by
    rw [List.length_reverse, List.length_take]
    omega
  have z := any_find l b (l.take p).reverse (p - 1 - ·) fun i hi => by
    rw [hl] at hi
    rw [List.getElem?_reverse (by rw [List.length_take]; omega), List.length_take, Nat.min_eq_left hp, List.getElem?_take]
    rw [if_pos (by omega)]
  rw [hl] at z
  exact z

def spAny (C : Addr) : Sp := fun vs H Q _ => ∃ (a l : Addr) (b : Nat) (e : Ed) (ps : List Nat), vs = [.ref a, .int (b : Int), .ref l] ∧ EdAt C H a e ∧ H l = some (.lst (tx ps)) ∧ (∀ p ∈ ps, p < e.text.length) ∧
  (anyAt e.text b ps = none → Q (.bl false) H) ∧ ∀ p H', anyAt e.text b ps = some p → Keeps a H H' → EdAt C H' a ⟨e.text, p, e.held⟩ → Q (.bl true) H'
section
variable {P : Program} {w : World} {K : PySem.W.Frag} {mg : Str → Option Value} {base : Heap} {C f : Addr}
theorem ok_go_to_any (D : Df K "go_to_any" "go_to_any" s_go_to_any ["editor", "byte", "places"] f) (E : EdC K C) : Cb P w K mg base CX0 1 f ["editor", "byte", "places"] (spAny C) := by
  refine D.ok sc_go_to_any (fun vs H Q _ h => ?_) (fun cdv A outer s H vs Q _ hr h => ?_)
  · obtain ⟨a, l, b, e, ps, rfl, _⟩ := h
    rfl
  · refine ⟨_, pss_cons (ps_for PassesOwn.never rfl (pi_list (pv 2)) (pg_name (i := 3) sc_go_to_any.nd rfl (Or.inl rfl))
        (pss_one (ps_if (pt_cmpR op_eq (pe_ix ix_tup (pe_fld (pv 0) rfl) (pv 3) (fun _ _ => rfl)) (pv 1) (nomark _)) (pss_cons (ps_fld (pv 0) (pv 3) rfl) (pss_one (ps_ret pe_bl))) pss_nil)))
      (pss_one (ps_ret pe_bl)), ?_⟩
    obtain ⟨a, l, b, e, ps, rfl, ⟨dx, t, ha, ht⟩, hl, hb, k0, k1⟩ := h
    refine ⟨_, rfl, l, rfl, ⟨_, SqL.of hl⟩, for_list (K := K) (a := l) (xs := tx ps) (fun i σ H' => H' = H ∧ (∃ v, σ = [some (.ref a), some (.int (b : Int)), some (.ref l), v]) ∧ ∀ j p, j < i → ps[j]? = some p → ¬ e.text[p]? = some b)
      ⟨rfl, ⟨none, rfl⟩, fun j p hj => absurd hj (Nat.not_lt_zero _)⟩ (fun i σ H' _ z => ?_) ?_ ?_⟩
    · rw [z.1]
      exact SqL.of hl
    · rintro i x σ H' hx ⟨rfl, ⟨v, rfl⟩, no⟩
      rw [tx_at] at hx
      obtain ⟨p, hp, rfl⟩ := Option.map_eq_some_iff.mp hx
      have hlt := hb p (List.mem_of_getElem? hp)
      obtain ⟨y, hy⟩ : ∃ y, e.text[p]? = some y := ⟨_, List.getElem?_eq_getElem hlt⟩
      refine ⟨_, rfl, _, _, _, _, _, rfl, ha, E.cl, E.nT, eF_t, _, rfl, t, _, _, _, rfl, rfl, SqT.of ht, atI_nat (tx_get hy), _, rfl, rfl, _, rfl, ?_⟩
      by_cases c : y = b
      · subst c
        refine ifT (decide_eq_true rfl) ?_
        refine ⟨_, rfl, _, rfl, a, C, dx, _, rfl, ha, E.cl, E.nP, eF_len, ?_⟩
        refine k1 p _ ?_ Keeps.refl.upd (ed_at (eF_put_p rfl) ht (tup_ne_ins ha ht))
        unfold anyAt
        rw [List.find?_eq_some_iff_getElem]
        refine ⟨decide_eq_true hy, i, (List.getElem?_eq_some_iff.mp hp).1, (List.getElem?_eq_some_iff.mp hp).2, fun j hj => ?_⟩
        have hjl : j < ps.length := Nat.lt_trans hj (List.getElem?_eq_some_iff.mp hp).1
        have := no j ps[j] hj (List.getElem?_eq_getElem hjl)
        simpa using this
      · refine ifF (decide_eq_false (fun z => c (by injection z with z; omega))) ?_
        refine ⟨rfl, ⟨_, rfl⟩, fun j q hj hq => ?_⟩
        by_cases z : j = i
        · subst z
          rw [hp] at hq
          cases hq
          rw [hy]
          exact fun z => c (Option.some.inj z)
        · exact no j q (by omega) hq
    · rintro σ H' ⟨rfl, ⟨v, rfl⟩, no⟩
      refine k0 ?_
      unfold anyAt
      rw [List.find?_eq_none]
      intro p hp z
      obtain ⟨j, hj⟩ := List.mem_iff_getElem?.mp hp
      refine no j p ?_ hj (of_decide_eq_true z)
      rw [tx_len]
      exact (List.getElem?_eq_some_iff.mp hj).1
theorem ok_seek_right {fg : Addr} (D : Df K "seek_right" "seek_right" s_seek_right ["editor", "byte"] f) (E : EdC K C) (Cg : Cb P w K mg base CX0 1 fg ["editor", "byte", "places"] (spAny C)) (gg : mg "go_to_any" = some (.ref fg))
    (ml : mg "len" = none) (mli : mg "list" = none) (mr : mg "range" = none) : Cb P w K mg base CX0 2 f ["editor", "byte"] (spP1 C .find) := by
  refine D.ok sc_seek_right (fun vs H Q _ h => ?_) (fun cdv A outer s H vs Q _ hr h => ?_)
  · obtain ⟨a, b, e, rfl, _⟩ := h
    rfl
  · refine ⟨_, pss_one (ps_ret (pe_cb Cg hr (by decide) (by rfl) gg (pa_cons (pv 0) (pa_cons (pv 1) (pa_cons (pe_listRg rfl (by rfl) mli (prg_2 (by rfl) mr (pe_op op_add (pe_fld (pv 0) rfl) pe_int) (pe_callB call_len_seq (by rfl) ml PySem.boot_len (pa_cons (pe_fld (pv 0) rfl) pa_nil)))) pa_nil))))), ?_⟩
    obtain ⟨a, b, e, rfl, ⟨dx, t, ha, ht⟩, ok, k⟩ := h
    have hpl := ok.pl
    have hsz := ok.sz
    refine ⟨_, rfl, _, rfl, _, rfl, _, _, _, _, _, rfl, ha, E.cl, E.nP, eF_p, _, _, rfl, rfl, _, rfl, _, _, _, _, _, rfl, ha, E.cl, E.nT, eF_t, t, _, rfl, .inr (SqT.of ht), _, _, rfl, rfl, ?_⟩
    rw [tx_len]
    refine ⟨RgOk.of_le (by omega) (by omega) (by omega) (by omega), fun l nl => ?_⟩
    have e1 : rgV ((e.at_ : Int) + 1) (e.text.length : Int) = tx ((List.range (e.text.length - (e.at_ + 1))).map (e.at_ + 1 + ·)) := by
      unfold rgV tx
      rw [List.map_map]
      have e2 : ((e.text.length : Int) - ((e.at_ : Int) + 1)).toNat = e.text.length - (e.at_ + 1) := by omega
      rw [e2]
      refine List.map_congr_left fun i _ => ?_
      show V.int ((e.at_ : Int) + 1 + (i : Int)) = V.int ((e.at_ + 1 + i : Nat) : Int)
      congr 1
    rw [e1]
    have s1 : Same H (upd H l (.lst (tx ((List.range (e.text.length - (e.at_ + 1))).map (e.at_ + 1 + ·))))) := same_new nl
    have d : does e (.find b) = (anyAt e.text b ((List.range (e.text.length - (e.at_ + 1))).map (e.at_ + 1 + ·))).map fun p => { e with at_ := p } := by
      rw [any_right, Option.map_map]
      rfl
    refine ⟨a, l, b, e, _, rfl, ⟨dx, t, s1 _ _ ha, s1 _ _ ht⟩, upd_same, fun p hp => ?_, fun no => ?_, fun p H' yes kp hE => ?_⟩
    · obtain ⟨i, hi, rfl⟩ := List.mem_map.mp hp
      have := List.mem_range.mp hi
      show e.at_ + 1 + i < e.text.length
      omega
    · rw [no] at d
      exact fin_no k d (fun x o z _ => s1 x o z) ⟨dx, t, s1 _ _ ha, s1 _ _ ht⟩
    · rw [yes] at d
      exact fin_yes k d (fun x o z n => kp x o (s1 x o z) n) hE
theorem ok_seek_left {fg : Addr} (D : Df K "seek_left" "seek_left" s_seek_left ["editor", "byte"] f) (E : EdC K C) (Cg : Cb P w K mg base CX0 1 fg ["editor", "byte", "places"] (spAny C)) (gg : mg "go_to_any" = some (.ref fg))
    (mli : mg "list" = none) (mr : mg "range" = none) : Cb P w K mg base CX0 2 f ["editor", "byte"] (spP1 C .back) := by
  refine D.ok sc_seek_left (fun vs H Q _ h => ?_) (fun cdv A outer s H vs Q _ hr h => ?_)
  · obtain ⟨a, b, e, rfl, _⟩ := h
    rfl
  · refine ⟨_, pss_one (ps_ret (pe_cb Cg hr (by decide) (by rfl) gg (pa_cons (pv 0) (pa_cons (pv 1) (pa_cons (pe_listC rfl (by rfl) mli (prg_C (by rfl) mr (pa_cons (pe_op op_sub (pe_fld (pv 0) rfl) pe_int) (pa_cons (pe_un un_neg pe_int) (pa_cons (pe_un un_neg pe_int) pa_nil))))) pa_nil))))), ?_⟩
    obtain ⟨a, b, e, rfl, ⟨dx, t, ha, ht⟩, ok, k⟩ := h
    have hpl := ok.pl
    have hsz := ok.sz
    refine ⟨_, rfl, _, rfl, _, rfl, _, _, _, _, _, rfl, ha, E.cl, E.nP, eF_p, _, _, rfl, rfl, _, rfl, _, rfl, _, _, _, _, rfl, RgC.neg (by omega) (by omega) (by omega) (by omega), ?_, fun l nl => ?_⟩
    · omega
    have e2 : ((e.at_ : Int) - 1 - -1).toNat = e.at_ := by omega
    have e1 : rgC ((e.at_ : Int) - 1) (-1) ((e.at_ : Int) - 1 - -1).toNat = tx ((List.range e.at_).map (e.at_ - 1 - ·)) := by
      rw [e2]
      unfold rgC tx
      rw [List.map_map]
      refine List.map_congr_left fun i hi => ?_
      have := List.mem_range.mp hi
      show V.int ((e.at_ : Int) - 1 + (i : Int) * -1) = V.int ((e.at_ - 1 - i : Nat) : Int)
      congr 1
      omega
    rw [e1]
    have s1 : Same H (upd H l (.lst (tx ((List.range e.at_).map (e.at_ - 1 - ·))))) := same_new nl
    have d : does e (.back b) = (anyAt e.text b ((List.range e.at_).map (e.at_ - 1 - ·))).map fun p => { e with at_ := p } := by
      rw [any_left _ _ _ hpl, Option.map_map]
      rfl
    refine ⟨a, l, b, e, _, rfl, ⟨dx, t, s1 _ _ ha, s1 _ _ ht⟩, upd_same, fun p hp => ?_, fun no => ?_, fun p H' yes kp hE => ?_⟩
    · obtain ⟨i, hi, rfl⟩ := List.mem_map.mp hp
      have := List.mem_range.mp hi
      show e.at_ - 1 - i < e.text.length
      omega
    · rw [no] at d
      exact fin_no k d (fun x o z _ => s1 x o z) ⟨dx, t, s1 _ _ ha, s1 _ _ ht⟩
    · rw [yes] at d
      exact fin_yes k d (fun x o z n => kp x o (s1 x o z) n) hE
end
end Mp
namespace Mp
open PySem PySem.Spec PyProof.Rows L2
open Ue10 (does)

/-- where the plain commands' defs stand -/
structure PlA where
  goLeft : Addr
  goRight : Addr
  takeOut : Addr
  goFirst : Addr
  goLast : Addr
  exch : Addr
  hold : Addr
  putHeld : Addr
  putIn : Addr
  seekR : Addr
  seekL : Addr
  expect : Addr
  expectO : Addr
def PlA.bare (p : PlA) : List (Int × Addr) := [(1, p.goLeft), (2, p.goRight), (3, p.takeOut), (6, p.goFirst), (7, p.goLast), (8, p.exch), (11, p.hold), (12, p.putHeld)]
def PlA.byte (p : PlA) : List (Int × Addr) := [(0, p.putIn), (4, p.seekR), (5, p.seekL), (9, p.expect), (10, p.expectO)]
def CBare (C : Addr) (p : PlA) (f : Addr) (sp : Sp) : Prop :=
  (f = p.goLeft ∧ sp = spP0 C .left) ∨ (f = p.goRight ∧ sp = spP0 C .right) ∨ (f = p.takeOut ∧ sp = spP0 C .delete) ∨ (f = p.goFirst ∧ sp = spP0 C .home) ∨ (f = p.goLast ∧ sp = spP0 C .end_) ∨
  (f = p.exch ∧ sp = spP0 C .swap) ∨ (f = p.hold ∧ sp = spP0 C .hold) ∨ (f = p.putHeld ∧ sp = spP0 C .put)
def CByte (C : Addr) (p : PlA) (f : Addr) (sp : Sp) : Prop :=
  (f = p.putIn ∧ sp = spP1 C .insert) ∨ (f = p.seekR ∧ sp = spP1 C .find) ∨ (f = p.seekL ∧ sp = spP1 C .back) ∨ (f = p.expect ∧ sp = spP1 C .is_) ∨ (f = p.expectO ∧ sp = spP1 C .isnt)
/-- all of them keep their promises -/
structure PlOk (P : Program) (w : World) (K : PySem.W.Frag) (mg : Str → Option Value) (base : Heap) (C : Addr) (p : PlA) : Prop where
  goLeft : Cb P w K mg base CX0 1 p.goLeft ["editor"] (spP0 C .left)
  goRight : Cb P w K mg base CX0 2 p.goRight ["editor"] (spP0 C .right)
  takeOut : Cb P w K mg base CX0 2 p.takeOut ["editor"] (spP0 C .delete)
  goFirst : Cb P w K mg base CX0 1 p.goFirst ["editor"] (spP0 C .home)
  goLast : Cb P w K mg base CX0 1 p.goLast ["editor"] (spP0 C .end_)
  exch : Cb P w K mg base CX0 1 p.exch ["editor"] (spP0 C .swap)
  hold : Cb P w K mg base CX0 2 p.hold ["editor"] (spP0 C .hold)
  putHeld : Cb P w K mg base CX0 2 p.putHeld ["editor"] (spP0 C .put)
  putIn : Cb P w K mg base CX0 1 p.putIn ["editor", "byte"] (spP1 C .insert)
  seekR : Cb P w K mg base CX0 2 p.seekR ["editor", "byte"] (spP1 C .find)
  seekL : Cb P w K mg base CX0 2 p.seekL ["editor", "byte"] (spP1 C .back)
  expect : Cb P w K mg base CX0 2 p.expect ["editor", "byte"] (spP1 C .is_)
  expectO : Cb P w K mg base CX0 2 p.expectO ["editor", "byte"] (spP1 C .isnt)
theorem Cb.held {P : Program} {w : World} {K : PySem.W.Frag} {mg : Str → Option Value} {base : Heap} {k : Nat} {f : Addr} {ps : List Str} {sp : Sp} (c : Cb P w K mg base CX0 k f ps sp) (h : k ≤ 2) : Held P w K mg base 2 f sp := by
  obtain ⟨fd, F, b, kp⟩ := c.ex
  exact ⟨fd, ps, F.mono h, kp, b⟩
section
variable {P : Program} {w : World} {K : PySem.W.Frag} {mg : Str → Option Value} {base : Heap} {C f : Addr}
theorem PlOk.bare {p : PlA} (o : PlOk P w K mg base C p) : ∀ f sp, CBare C p f sp → Held P w K mg base 2 f sp := by
  rintro f sp (⟨rfl, rfl⟩ | ⟨rfl, rfl⟩ | ⟨rfl, rfl⟩ | ⟨rfl, rfl⟩ | ⟨rfl, rfl⟩ | ⟨rfl, rfl⟩ | ⟨rfl, rfl⟩ | ⟨rfl, rfl⟩)
  · exact o.goLeft.held (by decide)
  · exact o.goRight.held (by decide)
  · exact o.takeOut.held (by decide)
  · exact o.goFirst.held (by decide)
  · exact o.goLast.held (by decide)
  · exact o.exch.held (by decide)
  · exact o.hold.held (by decide)
  · exact o.putHeld.held (by decide)
theorem PlOk.byte {p : PlA} (o : PlOk P w K mg base C p) : ∀ f sp, CByte C p f sp → Held P w K mg base 2 f sp := by
  rintro f sp (⟨rfl, rfl⟩ | ⟨rfl, rfl⟩ | ⟨rfl, rfl⟩ | ⟨rfl, rfl⟩ | ⟨rfl, rfl⟩)
  · exact o.putIn.held (by decide)
  · exact o.seekR.held (by decide)
  · exact o.seekL.held (by decide)
  · exact o.expect.held (by decide)
  · exact o.expectO.held (by decide)
/-- a command that is none that plays -/
def isPl : Ue10.Cmd → Bool
  | .play _ => false
  | .times _ _ => false
  | .until_ _ => false
  | _ => true
/-- at c: the tuple of a command's numbers -/
def CmdAt (H : Hp) (c : Addr) (x : Ue10.Cmd) : Prop := H c = some (.tup (tx (Ue10.numbersOf x)))
def spDoPl (C : Addr) : Sp := fun vs H Q _ => ∃ (a c : Addr) (e : Ed) (x : Ue10.Cmd), vs = [.ref a, .ref c] ∧ EdAt C H a e ∧ EOk e ∧ CmdAt H c x ∧ isPl x = true ∧
  ∀ H', Keeps a H H' → EdAt C H' a ((does e x).getD e) → Q (.bl (does e x).isSome) H'
theorem ok_do_plain {p : PlA} {d1 d2 : Addr} (D : Df K "do_plain" "do_plain" s_do_plain ["editor", "command"] f) (o : PlOk P w K mg base C p) (B : KFd K d1 p.bare) (gB : mg "BARE" = some (.ref d1)) (W : KFd K d2 p.byte) (gW : mg "WITH_BYTE" = some (.ref d2))
    (ml : mg "len" = none) : Cb P w K mg base CX0 3 f ["editor", "command"] (spDoPl C) := by
  refine D.ok sc_do_plain (fun vs H Q _ h => ?_) (fun cdv A outer s H vs Q _ hr h => ?_)
  · obtain ⟨a, c, e, x, rfl, _⟩ := h
    rfl
  · refine ⟨_, pss_cons (ps_if (pt_cmpR op_eq (pe_callB call_len_seq (by rfl) ml PySem.boot_len (pa_cons (pv 1) pa_nil)) pe_int (nomark _))
        (pss_one (ps_ret (pe_callX (C := CBare C p) o.bare hr (pe_ix ix_fd (pe_glob (v := .ref d1) rfl gB rfl) (pe_ix ix_tup (pv 1) pe_int (fun _ _ => rfl)) (fun _ _ => rfl)) (pa_cons (pv 0) pa_nil)))) pss_nil)
      (pss_one (ps_ret (pe_callX (C := CByte C p) o.byte hr (pe_ix ix_fd (pe_glob (v := .ref d2) rfl gW rfl) (pe_ix ix_tup (pv 1) pe_int (fun _ _ => rfl)) (fun _ _ => rfl)) (pa_cons (pv 0) (pa_cons (pe_ix ix_tup (pv 1) pe_int (fun _ _ => rfl)) pa_nil))))), ?_⟩
    obtain ⟨a, c, e, x, rfl, ha, ok, hc, hp, k⟩ := h
    refine ⟨_, rfl, c, _, rfl, .inr (SqT.of hc), rfl, _, rfl, ?_⟩
    rw [tx_len]
    cases x with
    | insert b => (refine ifF rfl ?_; exact ⟨_, rfl, c, _, _, _, rfl, rfl, SqT.of hc, atI_nat (j := 0) rfl, d2, p.byte, _, _, rfl, rfl, W, rfl, _, _, rfl, (.inl ⟨rfl, rfl⟩), _, rfl, _, rfl, c, _, _, _, rfl, rfl, SqT.of hc, atI_nat (j := 1) rfl, a, b, e, rfl, ha, ok, k⟩)
    | left => (refine ifT rfl ?_; exact ⟨_, rfl, c, _, _, _, rfl, rfl, SqT.of hc, atI_nat (j := 0) rfl, d1, p.bare, _, _, rfl, rfl, B, rfl, _, _, rfl, (.inl ⟨rfl, rfl⟩), _, rfl, a, e, rfl, ha, ok, k⟩)
    | right => (refine ifT rfl ?_; exact ⟨_, rfl, c, _, _, _, rfl, rfl, SqT.of hc, atI_nat (j := 0) rfl, d1, p.bare, _, _, rfl, rfl, B, rfl, _, _, rfl, (.inr (.inl ⟨rfl, rfl⟩)), _, rfl, a, e, rfl, ha, ok, k⟩)
    | delete => (refine ifT rfl ?_; exact ⟨_, rfl, c, _, _, _, rfl, rfl, SqT.of hc, atI_nat (j := 0) rfl, d1, p.bare, _, _, rfl, rfl, B, rfl, _, _, rfl, (.inr (.inr (.inl ⟨rfl, rfl⟩))), _, rfl, a, e, rfl, ha, ok, k⟩)
    | find b => (refine ifF rfl ?_; exact ⟨_, rfl, c, _, _, _, rfl, rfl, SqT.of hc, atI_nat (j := 0) rfl, d2, p.byte, _, _, rfl, rfl, W, rfl, _, _, rfl, (.inr (.inl ⟨rfl, rfl⟩)), _, rfl, _, rfl, c, _, _, _, rfl, rfl, SqT.of hc, atI_nat (j := 1) rfl, a, b, e, rfl, ha, ok, k⟩)
    | back b => (refine ifF rfl ?_; exact ⟨_, rfl, c, _, _, _, rfl, rfl, SqT.of hc, atI_nat (j := 0) rfl, d2, p.byte, _, _, rfl, rfl, W, rfl, _, _, rfl, (.inr (.inr (.inl ⟨rfl, rfl⟩))), _, rfl, _, rfl, c, _, _, _, rfl, rfl, SqT.of hc, atI_nat (j := 1) rfl, a, b, e, rfl, ha, ok, k⟩)
    | home => (refine ifT rfl ?_; exact ⟨_, rfl, c, _, _, _, rfl, rfl, SqT.of hc, atI_nat (j := 0) rfl, d1, p.bare, _, _, rfl, rfl, B, rfl, _, _, rfl, (.inr (.inr (.inr (.inl ⟨rfl, rfl⟩)))), _, rfl, a, e, rfl, ha, ok, k⟩)
    | end_ => (refine ifT rfl ?_; exact ⟨_, rfl, c, _, _, _, rfl, rfl, SqT.of hc, atI_nat (j := 0) rfl, d1, p.bare, _, _, rfl, rfl, B, rfl, _, _, rfl, (.inr (.inr (.inr (.inr (.inl ⟨rfl, rfl⟩))))), _, rfl, a, e, rfl, ha, ok, k⟩)
    | swap => (refine ifT rfl ?_; exact ⟨_, rfl, c, _, _, _, rfl, rfl, SqT.of hc, atI_nat (j := 0) rfl, d1, p.bare, _, _, rfl, rfl, B, rfl, _, _, rfl, (.inr (.inr (.inr (.inr (.inr (.inl ⟨rfl, rfl⟩)))))), _, rfl, a, e, rfl, ha, ok, k⟩)
    | is_ b => (refine ifF rfl ?_; exact ⟨_, rfl, c, _, _, _, rfl, rfl, SqT.of hc, atI_nat (j := 0) rfl, d2, p.byte, _, _, rfl, rfl, W, rfl, _, _, rfl, (.inr (.inr (.inr (.inl ⟨rfl, rfl⟩)))), _, rfl, _, rfl, c, _, _, _, rfl, rfl, SqT.of hc, atI_nat (j := 1) rfl, a, b, e, rfl, ha, ok, k⟩)
    | isnt b => (refine ifF rfl ?_; exact ⟨_, rfl, c, _, _, _, rfl, rfl, SqT.of hc, atI_nat (j := 0) rfl, d2, p.byte, _, _, rfl, rfl, W, rfl, _, _, rfl, (.inr (.inr (.inr (.inr ⟨rfl, rfl⟩)))), _, rfl, _, rfl, c, _, _, _, rfl, rfl, SqT.of hc, atI_nat (j := 1) rfl, a, b, e, rfl, ha, ok, k⟩)
    | hold => (refine ifT rfl ?_; exact ⟨_, rfl, c, _, _, _, rfl, rfl, SqT.of hc, atI_nat (j := 0) rfl, d1, p.bare, _, _, rfl, rfl, B, rfl, _, _, rfl, (.inr (.inr (.inr (.inr (.inr (.inr (.inl ⟨rfl, rfl⟩))))))), _, rfl, a, e, rfl, ha, ok, k⟩)
    | put => (refine ifT rfl ?_; exact ⟨_, rfl, c, _, _, _, rfl, rfl, SqT.of hc, atI_nat (j := 0) rfl, d1, p.bare, _, _, rfl, rfl, B, rfl, _, _, rfl, (.inr (.inr (.inr (.inr (.inr (.inr (.inr ⟨rfl, rfl⟩))))))), _, rfl, a, e, rfl, ha, ok, k⟩)
    | play r => cases hp
    | times r n => cases hp
    | until_ r => cases hp

/-! ### the editor's own methods -/
def spEdInit (C : Addr) : Sp := fun vs H Q _ => ∃ (a dx t : Addr) (e : Ed) (p h : Int), vs = [.ref a, .ref t, .int p, .int h] ∧ p = (e.at_ : Int) ∧ h = hdI e.held ∧ H a = some (.ins C dx []) ∧ H t = some (.tup (tx e.text)) ∧
  ∀ H', Keeps a H H' → EdAt C H' a e → Q .non H'
theorem ok_ed_init (D : Df K "__init__" "Editor.__init__" s_Editor_init ["self", "text", "place", "held"] f) (E : EdC K C) : Cb P w K mg base CX0 1 f ["self", "text", "place", "held"] (spEdInit C) := by
  refine D.ok sc_Editor_init (fun vs H Q _ h => ?_) (fun cdv A outer s H vs Q _ hr h => ?_)
  · obtain ⟨a, dx, t, e, p, h, rfl, _⟩ := h
    rfl
  · refine ⟨_, pss_cons (ps_fld (pv 0) (pv 1) rfl) (pss_cons (ps_fld (pv 0) (pv 2) rfl) (pss_one (ps_fld (pv 0) (pv 3) rfl))), ?_⟩
    obtain ⟨a, dx, t, e, p, h, rfl, rfl, rfl, ha, ht, k⟩ := h
    refine ⟨_, rfl, _, rfl, a, C, dx, _, rfl, ha, E.cl, E.nT, (by show 0 < 1000; decide), ?_⟩
    refine ⟨_, rfl, _, rfl, a, C, dx, _, rfl, upd_same, E.cl, E.nP, (by show 1 < 1000; decide), ?_⟩
    refine ⟨_, rfl, _, rfl, a, C, dx, _, rfl, upd_same, E.cl, E.nH, (by show 2 < 1000; decide), ?_⟩
    have hne := tup_ne_ins ha ht
    refine k _ Keeps.refl.upd.upd.upd ⟨dx, t, ?_, ?_⟩
    · rw [upd_same]
      refine congrArg (fun q => some (HO.ins C dx q)) ?_
      show putF "held" (.int (hdI e.held)) (putF "place" (.int (e.at_ : Int)) ([(("text" : Str), V.ref t)] : List (Str × V))) = eF t e.at_ e.held
      rw [show putF "place" (.int (e.at_ : Int)) ([(("text" : Str), V.ref t)] : List (Str × V)) = ([(("text" : Str), V.ref t), (("place" : Str), V.int (e.at_ : Int))] : List (Str × V)) from (pt1 (by decide +kernel)).trans rfl]
      exact (pt1 (by decide +kernel)).trans (congrArg _ ((pt1 (by decide +kernel)).trans rfl))
    · rw [upd_ne hne, upd_ne hne, upd_ne hne]
      exact ht
/-- a state as a key -/
def ek (e : Ed) : Ek := ⟨e.text.map fun (n : Nat) => (n : Int), e.at_, hdI e.held⟩
theorem ek_text (e : Ed) : (ek e).text.map V.int = tx e.text := by
  unfold ek tx
  rw [List.map_map]
  rfl
def spState (C : Addr) : Sp := fun vs H Q _ => ∃ (a : Addr) (e : Ed), vs = [.ref a] ∧ EdAt C H a e ∧ ∀ H' p, Same H H' → H p = none → StAt H' p (ek e) → Q (.ref p) H'
theorem ok_state (D : Df K "state" "Editor.state" s_Editor_state ["self"] f) (E : EdC K C) : Cb P w K mg base CX0 1 f ["self"] (spState C) := by
  refine D.ok sc_Editor_state (fun vs H Q _ h => ?_) (fun cdv A outer s H vs Q _ hr h => ?_)
  · obtain ⟨a, e, rfl, _⟩ := h
    rfl
  · refine ⟨_, pss_one (ps_ret (pe_tup (pa_cons (pe_fld (pv 0) rfl) (pa_cons (pe_fld (pv 0) rfl) (pa_cons (pe_fld (pv 0) rfl) pa_nil))))), ?_⟩
    obtain ⟨a, e, rfl, ⟨dx, t, ha, ht⟩, k⟩ := h
    refine ⟨_, rfl, _, _, _, _, _, rfl, ha, E.cl, E.nT, eF_t, _, rfl, _, _, _, _, _, rfl, ha, E.cl, E.nP, eF_p, _, rfl, _, _, _, _, _, rfl, ha, E.cl, E.nH, eF_h, (by show 3 ≤ sizeLine; rw [sizeLine_eq]; omega), fun p np => ?_⟩
    refine k _ p (same_new np) np ⟨t, upd_same, ?_⟩
    rw [ek_text]
    exact same_new np _ _ ht
def spRestore (C : Addr) : Sp := fun vs H Q _ => ∃ (a b : Addr) (e0 e : Ed), vs = [.ref a, .ref b] ∧ EdAt C H a e0 ∧ StAt H b (ek e) ∧ ∀ H', Keeps a H H' → EdAt C H' a e → Q .non H'
theorem ok_restore (D : Df K "restore" "Editor.restore" s_Editor_restore ["self", "state"] f) (E : EdC K C) : Cb P w K mg base CX0 1 f ["self", "state"] (spRestore C) := by
  refine D.ok sc_Editor_restore (fun vs H Q _ h => ?_) (fun cdv A outer s H vs Q _ hr h => ?_)
  · obtain ⟨a, b, e0, e, rfl, _⟩ := h
    rfl
  · refine ⟨_, pss_cons (ps_fld (pv 0) (pe_ix ix_tup (pv 1) pe_int (fun _ _ => rfl)) rfl) (pss_cons (ps_fld (pv 0) (pe_ix ix_tup (pv 1) pe_int (fun _ _ => rfl)) rfl) (pss_one (ps_fld (pv 0) (pe_ix ix_tup (pv 1) pe_int (fun _ _ => rfl)) rfl))), ?_⟩
    obtain ⟨a, b, e0, e, rfl, ⟨dx, t0, ha, ht0⟩, ⟨t, hb, ht⟩, k⟩ := h
    have hb : H b = some (.tup [.ref t, .int (e.at_ : Int), .int (hdI e.held)]) := hb
    have hba := tup_ne_ins ha hb
    have hta := tup_ne_ins ha ht
    refine ⟨_, rfl, b, _, _, _, rfl, rfl, SqT.of hb, atI_nat (j := 0) rfl, _, rfl, a, C, dx, _, rfl, ha, E.cl, E.nT, eF_len, ?_⟩
    rw [eF_put_t]
    refine ⟨_, rfl, b, _, _, _, rfl, rfl, SqT.of ((upd_ne hba).trans hb), atI_nat (j := 1) rfl, _, rfl, a, C, dx, _, rfl, upd_same, E.cl, E.nP, eF_len, ?_⟩
    rw [eF_put_p (p' := e.at_) rfl]
    refine ⟨_, rfl, b, _, _, _, rfl, rfl, SqT.of ((upd_ne hba).trans ((upd_ne hba).trans hb)), atI_nat (j := 2) rfl, _, rfl, a, C, dx, _, rfl, upd_same, E.cl, E.nH, eF_len, ?_⟩
    rw [ek_text] at ht
    refine k _ Keeps.refl.upd.upd.upd ⟨dx, t, ?_, ?_⟩
    · rw [upd_same, eF_put_h (h' := e.held) rfl]
    · rw [upd_ne hta, upd_ne hta, upd_ne hta]
      exact ht
def spTwin (C : Addr) : Sp := fun vs H Q _ => ∃ (a : Addr) (e : Ed), vs = [.ref a] ∧ EdAt C H a e ∧ ∀ H' b, Same H H' → H b = none → EdAt C H' b e → Q (.ref b) H'
theorem ok_twin {fi : Addr} (D : Df K "twin" "Editor.twin" s_Editor_twin ["self"] f) (E : EdC K C) (Ci : Cb P w K mg base CX0 1 fi ["self", "text", "place", "held"] (spEdInit C)) (M : Mk K C fi) (gE : mg "Editor" = some (.ref C)) : Cb P w K mg base CX0 3 f ["self"] (spTwin C) := by
  refine D.ok sc_Editor_twin (fun vs H Q _ h => ?_) (fun cdv A outer s H vs Q _ hr h => ?_)
  · obtain ⟨a, e, rfl, _⟩ := h
    rfl
  · refine ⟨_, pss_one (ps_ret (pe_mk Ci M hr (by decide) (by rfl) gE (pa_cons (pe_fld (pv 0) rfl) (pa_cons (pe_fld (pv 0) rfl) (pa_cons (pe_fld (pv 0) rfl) pa_nil))))), ?_⟩
    obtain ⟨a, e, rfl, ⟨dx, t, ha, ht⟩, k⟩ := h
    refine ⟨_, rfl, _, _, _, _, _, rfl, ha, E.cl, E.nT, eF_t, _, rfl, _, _, _, _, _, rfl, ha, E.cl, E.nP, eF_p, _, rfl, _, _, _, _, _, rfl, ha, E.cl, E.nH, eF_h, ?_⟩
    intro x d2 nx nd ne
    have s1 : Same H (upd (upd H d2 (.own x)) x (.ins C d2 [])) := fun b o z => by
      rw [upd_ne (ne_of_none z nx), upd_ne (ne_of_none z nd)]
      exact z
    refine ⟨x, d2, t, e, _, _, rfl, rfl, rfl, upd_same, s1 _ _ ht, fun H' kp hE => ⟨rfl, ?_⟩⟩
    exact k H' x (fun b o z => kp b o (s1 b o z) (ne_of_none z nx)) nx hE
def spTold (C : Addr) : Sp := fun vs H Q _ => ∃ (a : Addr) (e : Ed), vs = [.ref a] ∧ EdAt C H a e ∧ ∀ H' p, Same H H' → H p = none → H' p = some (.lst (tx (Ue10.edRow e))) → Q (.ref p) H'
theorem ok_told (D : Df K "told" "Editor.told" s_Editor_told ["self"] f) (E : EdC K C) (ml : mg "len" = none) : Cb P w K mg base CX0 1 f ["self"] (spTold C) := by
  refine D.ok sc_Editor_told (fun vs H Q _ h => ?_) (fun cdv A outer s H vs Q _ hr h => ?_)
  · obtain ⟨a, e, rfl, _⟩ := h
    rfl
  · refine ⟨_, pss_one (ps_ret (pe_lst (pa_cons (pe_callB call_len_seq (by rfl) ml PySem.boot_len (pa_cons (pe_fld (pv 0) rfl) pa_nil)) (pa_cons (pe_fld (pv 0) rfl) (pa_cons (pe_fld (pv 0) rfl) pa_nil))))), ?_⟩
    obtain ⟨a, e, rfl, ⟨dx, t, ha, ht⟩, k⟩ := h
    refine ⟨_, rfl, _, _, _, _, _, rfl, ha, E.cl, E.nT, eF_t, t, _, rfl, .inr (SqT.of ht), _, rfl, _, _, _, _, _, rfl, ha, E.cl, E.nP, eF_p, _, rfl, _, _, _, _, _, rfl, ha, E.cl, E.nH, eF_h, (by show 3 ≤ sizeLine; rw [sizeLine_eq]; omega), fun p np => ?_⟩
    refine k _ p (same_new np) np ?_
    rw [upd_same, tx_len]
    refine congrArg (fun q => some (HO.lst q)) ?_
    unfold Ue10.edRow tx
    cases e.held with
    | none => rfl
    | some b => rfl
end
end Mp
/-! The refusals, raised. -/
namespace Mp
open PySem PySem.Spec PyProof.Rows L2

/-- C is a class of refusals, cR the one above them all -/
structure RfC (K : PySem.W.Frag) (cR C : Addr) : Prop where
  ex : ExC K C
  te : PySem.W.exmOne K (.ref C) (.ref cR) = some true
  xf : XfC K C
/-- what a refusal's dict has -/
def numF (n : Int) : List (Str × V) := [("number", .int n)]
def spRefI (K : PySem.W.Frag) : Sp := fun vs H Q _ => ∃ (a C : Addr) (n : Int), vs = [.ref a, .int n] ∧ ExC K C ∧ H a = some (exo a C none) ∧ ∀ dx, H dx = none → dx ≠ a → Q .non (upd (upd H dx (exd dx (numF n))) a (exo a C (some dx)))
def spSubI (K : PySem.W.Frag) (n : Int) : Sp := fun vs H Q _ => ∃ (a C : Addr), vs = [.ref a] ∧ ExC K C ∧ H a = some (exo a C none) ∧ ∀ dx, H dx = none → dx ≠ a → Q .non (upd (upd H dx (exd dx (numF n))) a (exo a C (some dx)))
/-- what the written part says of the upper class's name and __init__ -/
structure RefT (P : Program) (w : World) (K : PySem.W.Frag) (mg : Str → Option Value) (base : Heap) (cR : Addr) : Prop where
  ex : ∃ (mc : Value) (f : Addr), mg "Refused" = some (.ref cR) ∧ PySem.W.readsIn K cR mc = true ∧ PySem.W.specialIn K (.ref cR) "__getattribute__" = some (some (.builtin "type.__getattribute__")) ∧
    PySem.W.findCls K (.ref cR) mc "__init__" = some (.val (.ref f)) ∧ Cb P w K mg base CX0 1 f ["self", "number"] (spRefI K)
/-- the class by the name x refuses with the number n -/
structure RzT (P : Program) (w : World) (K : PySem.W.Frag) (mg : Str → Option Value) (base : Heap) (cR : Addr) (x : Str) (n : Int) : Prop where
  ex : ∃ (C fI : Addr), RfC K cR C ∧ mg x = some (.ref C) ∧ PySem.W.findIn K (.ref C) "__init__" = some (some (.ref fI)) ∧ PySem.W.typeIn K (.ref fI) = some (.type "function") ∧ Cb P w K mg base CX0 2 fI ["self"] (spSubI K n)
section
variable {P : Program} {w : World} {K : PySem.W.Frag} {mg : Str → Option Value} {base : Heap} {cR f : Addr}
theorem ok_refused_init (D : Df K "__init__" "Refused.__init__" s_Refused_init ["self", "number"] f) : Cb P w K mg base CX0 1 f ["self", "number"] (spRefI K) := by
  refine D.ok sc_Refused_init (fun vs H Q _ h => ?_) (fun cdv A outer s H vs Q _ hr h => ?_)
  · obtain ⟨a, C, n, rfl, _⟩ := h
    rfl
  · refine ⟨_, pss_one (ps_num (pv 0) (pv 1)), ?_⟩
    obtain ⟨a, C, n, rfl, T, ha, k⟩ := h
    exact ⟨_, rfl, _, rfl, a, C, rfl, T, ha, k⟩
theorem ok_WrongNumbers_init (D : Df K "__init__" "WrongNumbers.__init__" s_WrongNumbers_init ["self"] f) (R : RefT P w K mg base cR) : Cb P w K mg base CX0 2 f ["self"] (spSubI K (-1)) := by
  refine D.ok sc_WrongNumbers_init (fun vs H Q _ h => ?_) (fun cdv A outer s H vs Q _ hr h => ?_)
  · obtain ⟨a, C, rfl, _⟩ := h
    rfl
  · obtain ⟨mc, f0, g, rd, ga, at_, c0⟩ := R.ex
    obtain ⟨fd, F, b, kp⟩ := c0.ex
    refine ⟨_, pss_one (ps_expr (pe_unb (by rfl) g rd ga at_ kp F hr b pass0 (pa_cons (pv 0) (pa_cons (pe_un un_neg pe_int) pa_nil)))), ?_⟩
    obtain ⟨a, C, rfl, T, ha, k⟩ := h
    exact ⟨_, rfl, _, rfl, a, C, _, rfl, T, ha, k⟩
theorem ok_NoSuchRegister_init (D : Df K "__init__" "NoSuchRegister.__init__" s_NoSuchRegister_init ["self"] f) (R : RefT P w K mg base cR) : Cb P w K mg base CX0 2 f ["self"] (spSubI K (-2)) := by
  refine D.ok sc_NoSuchRegister_init (fun vs H Q _ h => ?_) (fun cdv A outer s H vs Q _ hr h => ?_)
  · obtain ⟨a, C, rfl, _⟩ := h
    rfl
  · obtain ⟨mc, f0, g, rd, ga, at_, c0⟩ := R.ex
    obtain ⟨fd, F, b, kp⟩ := c0.ex
    refine ⟨_, pss_one (ps_expr (pe_unb (by rfl) g rd ga at_ kp F hr b pass0 (pa_cons (pv 0) (pa_cons (pe_un un_neg pe_int) pa_nil)))), ?_⟩
    obtain ⟨a, C, rfl, T, ha, k⟩ := h
    exact ⟨_, rfl, _, rfl, a, C, _, rfl, T, ha, k⟩
theorem ok_RecordFull_init (D : Df K "__init__" "RecordFull.__init__" s_RecordFull_init ["self"] f) (R : RefT P w K mg base cR) : Cb P w K mg base CX0 2 f ["self"] (spSubI K (-5)) := by
  refine D.ok sc_RecordFull_init (fun vs H Q _ h => ?_) (fun cdv A outer s H vs Q _ hr h => ?_)
  · obtain ⟨a, C, rfl, _⟩ := h
    rfl
  · obtain ⟨mc, f0, g, rd, ga, at_, c0⟩ := R.ex
    obtain ⟨fd, F, b, kp⟩ := c0.ex
    refine ⟨_, pss_one (ps_expr (pe_unb (by rfl) g rd ga at_ kp F hr b pass0 (pa_cons (pv 0) (pa_cons (pe_un un_neg pe_int) pa_nil)))), ?_⟩
    obtain ⟨a, C, rfl, T, ha, k⟩ := h
    exact ⟨_, rfl, _, rfl, a, C, _, rfl, T, ha, k⟩
theorem ok_OutOfTurn_init (D : Df K "__init__" "OutOfTurn.__init__" s_OutOfTurn_init ["self"] f) (R : RefT P w K mg base cR) : Cb P w K mg base CX0 2 f ["self"] (spSubI K (-7)) := by
  refine D.ok sc_OutOfTurn_init (fun vs H Q _ h => ?_) (fun cdv A outer s H vs Q _ hr h => ?_)
  · obtain ⟨a, C, rfl, _⟩ := h
    rfl
  · obtain ⟨mc, f0, g, rd, ga, at_, c0⟩ := R.ex
    obtain ⟨fd, F, b, kp⟩ := c0.ex
    refine ⟨_, pss_one (ps_expr (pe_unb (by rfl) g rd ga at_ kp F hr b pass0 (pa_cons (pv 0) (pa_cons (pe_un un_neg pe_int) pa_nil)))), ?_⟩
    obtain ⟨a, C, rfl, T, ha, k⟩ := h
    exact ⟨_, rfl, _, rfl, a, C, _, rfl, T, ha, k⟩
theorem ok_TooMuch_init (D : Df K "__init__" "TooMuch.__init__" s_TooMuch_init ["self"] f) (R : RefT P w K mg base cR) : Cb P w K mg base CX0 2 f ["self"] (spSubI K (-8)) := by
  refine D.ok sc_TooMuch_init (fun vs H Q _ h => ?_) (fun cdv A outer s H vs Q _ hr h => ?_)
  · obtain ⟨a, C, rfl, _⟩ := h
    rfl
  · obtain ⟨mc, f0, g, rd, ga, at_, c0⟩ := R.ex
    obtain ⟨fd, F, b, kp⟩ := c0.ex
    refine ⟨_, pss_one (ps_expr (pe_unb (by rfl) g rd ga at_ kp F hr b pass0 (pa_cons (pv 0) (pa_cons (pe_un un_neg pe_int) pa_nil)))), ?_⟩
    obtain ⟨a, C, rfl, T, ha, k⟩ := h
    exact ⟨_, rfl, _, rfl, a, C, _, rfl, T, ha, k⟩
theorem ok_NeverStops_init (D : Df K "__init__" "NeverStops.__init__" s_NeverStops_init ["self"] f) (R : RefT P w K mg base cR) : Cb P w K mg base CX0 2 f ["self"] (spSubI K (-9)) := by
  refine D.ok sc_NeverStops_init (fun vs H Q _ h => ?_) (fun cdv A outer s H vs Q _ hr h => ?_)
  · obtain ⟨a, C, rfl, _⟩ := h
    rfl
  · obtain ⟨mc, f0, g, rd, ga, at_, c0⟩ := R.ex
    obtain ⟨fd, F, b, kp⟩ := c0.ex
    refine ⟨_, pss_one (ps_expr (pe_unb (by rfl) g rd ga at_ kp F hr b pass0 (pa_cons (pv 0) (pa_cons (pe_un un_neg pe_int) pa_nil)))), ?_⟩
    obtain ⟨a, C, rfl, T, ha, k⟩ := h
    exact ⟨_, rfl, _, rfl, a, C, _, rfl, T, ha, k⟩
end
section
variable {X : Cx} {cR : Addr} {x : Str} {n : Int} {W : WX} {p pos pos' : Pos}
/-- raise C() -/
def tRz (K : PySem.W.Frag) (cR : Addr) (n : Int) (W : WX) : TS := fun _ σ H => ∀ C d H', RfC K cR C → Same H H' → H d = none → H' d = some (.xd (numF n)) → W (.ref C) (some d) σ H'
theorem ps_rz {j : Nat} (R : RzT X.prog X.w X.K X.mg X.base cR x n) (hr : Room j X.A) (hj : 3 ≤ j) (hg : Gl X x) (hc : X.calm = true) (tk : Takes X W) (hdb : (x == ("__debug__" : Str)) = false := by decide) :
    PS X (.Raise (some (.Call (.Name x p) [] [] pos)) none pos') (tRz X.K cR n W) := by
  obtain ⟨C, fI, rf, hm, iC, tI, c⟩ := R.ex
  obtain ⟨fd, F, b, kp⟩ := c.ex
  have z := ps_raise (pos := pos') hc tk (pmk_ref (p := p) (pos := pos) rf.ex iC tI F (hr.mono hj) b pass0 hg hm hdb)
  refine ⟨fun pn s σ H D I h => z.run pn s σ H D I ?_⟩
  intro a na
  refine ⟨a, C, rfl, rf.ex, upd_same, fun dx ndx hne => ⟨rfl, dx, numF n, upd_same, ?_, ?_, ?_⟩⟩
  · rw [upd_ne hne, upd_same]
  · rw [← ndx, upd_ne hne]
  · have n2 : H dx = none := by
      rw [← ndx, upd_ne hne]
    refine h C dx _ rf (fun b o e => ?_) n2 upd_same
    have h1 : b ≠ dx := ne_of_none e n2
    have h2 : b ≠ a := ne_of_none e na
    rw [upd_ne h1, del_ne h2, upd_ne h2, upd_ne h1, upd_ne h2]
    exact e
/-- refusal.number in the except suite, refusal in the i-th slot -/
def tXn (K : PySem.W.Frag) (a : Addr) (cls : Value) (d : Option Addr) (i : Nat) : TE := fun σ H Q => σ[i]? = some (some (.ref a)) ∧ ∃ (C dd : Addr) (fs : List (Str × V)) (v : V), cls = .ref C ∧ XfC K C ∧ PySem.W.findIn K (.ref C) "number" = some none ∧
  d = some dd ∧ H dd = some (.xd fs) ∧ fs.lookup ("number" : Str) = some v ∧ Q v H
theorem pe_xn {a : Addr} {oe : Obj} {cls : Value} {d : Option Addr} {pn : List (Addr × Obj)} {e : Expr} {i : Nat} (hz : Zc cls d oe) (hf : ∃ vs, oe.data = .fields vs) (he : PE (X.suite a ((a, oe) :: pn)) e (tVar i))
    (hb : attributeBase e "number" X.env (eval e X.env) = eval e X.env := by rfl) : PE (X.suite a ((a, oe) :: pn)) (.Attribute e "number" pos) (tXn X.K a cls d i) := by
  refine ⟨fun pn s σ H Q I h => ?_⟩
  obtain ⟨h1, C, dd, fs, v, h2, T, no, h3, h4, h5, q⟩ := h
  exact (pe_xf T no hz hf he hb).run pn s σ H Q I ⟨_, h1, rfl, h2, dd, fs, v, h3, h4, h5, q⟩
end
end Mp
/-! The reader, and rows of commands. -/
namespace Mp
open PySem PySem.Spec PyProof.Rows L2

/-- ints as values -/
def ix (l : List Int) : List V := l.map V.int
def rF (l : Addr) (i : Nat) : List (Str × V) := [("numbers", .ref l), ("position", .int (i : Int))]
/-- at a: a reader of the list at l, i numbers taken -/
def RdAt (C : Addr) (H : Hp) (a l : Addr) (i : Nat) : Prop := ∃ dx, H a = some (.ins C dx (rF l i))
structure RdC (K : PySem.W.Frag) (C : Addr) : Prop where
  cl : Cls K C
  nN : NoAttr K C "numbers"
  nP : NoAttr K C "position"
theorem rF_n {l : Addr} {i : Nat} : (rF l i).lookup ("numbers" : Str) = some (.ref l) := lk0
theorem rF_p {l : Addr} {i : Nat} : (rF l i).lookup ("position" : Str) = some (.int (i : Int)) := (lk1 (by decide +kernel)).trans lk0
theorem rF_no {l : Addr} {i : Nat} {m : Str} (h1 : (m == ("numbers" : Str)) = false) (h2 : (m == ("position" : Str)) = false) : (rF l i).lookup m = none := (lk1 h1).trans ((lk1 h2).trans rfl)
theorem rF_put {l : Addr} {i j : Nat} {z : Int} (e : z = (j : Int)) : putF "position" (.int z) (rF l i) = rF l j := by
  subst e
  exact (pt1 (by decide +kernel)).trans (congrArg _ pt0)
theorem rF_len {l : Addr} {i : Nat} : (rF l i).length < 1000 := by show 2 < 1000; decide
/-- a list that isn't at a, nor a: still to be read -/
theorem sq_keeps {K : PySem.W.Frag} {a l : Addr} {H H' : Hp} {xs : List V} {C dx : Addr} {fs : List (Str × V)} (ha : H a = some (.ins C dx fs)) (hl : SqL K H l xs) (k : Keeps a H H') : SqL K H' l xs := by
  rcases hl with (h | ⟨o, h⟩) | h
  · exact .inl (.inl (k l _ h (ne_of h ha (fun z => nomatch z))))
  · exact .inl (.inr ⟨o, k l _ h (ne_of h ha (fun z => nomatch z))⟩)
  · exact .inr h
theorem sq_same {K : PySem.W.Frag} {l : Addr} {H H' : Hp} {xs : List V} (hl : SqL K H l xs) (k : Same H H') : SqL K H' l xs := by
  rcases hl with (h | ⟨o, h⟩) | h
  · exact .inl (.inl (k l _ h))
  · exact .inl (.inr ⟨o, k l _ h⟩)
  · exact .inr h
theorem ix_len (l : List Int) : (ix l).length = l.length := List.length_map _
theorem ix_at (l : List Int) (i : Nat) : (ix l)[i]? = (l[i]?).map V.int := List.getElem?_map ..
theorem ix_get {l : List Int} {i : Nat} {b : Int} (h : l[i]? = some b) : (ix l)[i]? = some (.int b) := by
  rw [ix_at, h]
  rfl

def spRdInit (C : Addr) : Sp := fun vs H Q _ => ∃ (a dx l : Addr), vs = [.ref a, .ref l] ∧ H a = some (.ins C dx []) ∧ ∀ H', Keeps a H H' → RdAt C H' a l 0 → Q .non H'
def spAtEnd (K : PySem.W.Frag) (C : Addr) : Sp := fun vs H Q _ => ∃ (a l : Addr) (i : Nat) (ns : List Int), vs = [.ref a] ∧ RdAt C H a l i ∧ SqL K H l (ix ns) ∧ Q (.bl (decide (ns.length ≤ i))) H
def spTake (K : PySem.W.Frag) (C : Addr) : Sp := fun vs H Q _ => ∃ (a l : Addr) (i : Nat) (ns : List Int) (z : Int), vs = [.ref a] ∧ RdAt C H a l i ∧ SqL K H l (ix ns) ∧ ns[i]? = some z ∧ ∀ H', Keeps a H H' → RdAt C H' a l (i + 1) → Q (.int z) H'
def spTakeRow (K : PySem.W.Frag) (C : Addr) : Sp := fun vs H Q _ => ∃ (a l : Addr) (i n : Nat) (ns : List Int), vs = [.ref a] ∧ RdAt C H a l i ∧ SqL K H l (ix ns) ∧ ns[i]? = some (n : Int) ∧ i + 1 + n ≤ ns.length ∧
  ∀ H' p, Keeps a H H' → RdAt C H' a l (i + 1 + n) → H p = none → H' p = some (.lst (ix ((ns.drop (i + 1)).take n))) → Q (.ref p) H'
section
variable {P : Program} {w : World} {K : PySem.W.Frag} {mg : Str → Option Value} {base : Heap} {C f : Addr}
theorem ok_rd_init (D : Df K "__init__" "Reader.__init__" s_Reader_init ["self", "numbers"] f) (R : RdC K C) : Cb P w K mg base CX0 1 f ["self", "numbers"] (spRdInit C) := by
  refine D.ok sc_Reader_init (fun vs H Q _ h => ?_) (fun cdv A outer s H vs Q _ hr h => ?_)
  · obtain ⟨a, dx, l, rfl, _⟩ := h
    rfl
  · refine ⟨_, pss_cons (ps_fld (pv 0) (pv 1) rfl) (pss_one (ps_fld (pv 0) pe_int rfl)), ?_⟩
    obtain ⟨a, dx, l, rfl, ha, k⟩ := h
    refine ⟨_, rfl, _, rfl, a, C, dx, _, rfl, ha, R.cl, R.nN, (by show 0 < 1000; decide), ?_⟩
    refine ⟨_, rfl, a, C, dx, _, rfl, upd_same, R.cl, R.nP, (by show 1 < 1000; decide), ?_⟩
    refine k _ Keeps.refl.upd.upd ⟨dx, ?_⟩
    rw [upd_same]
    exact congrArg (fun q => some (HO.ins C dx q)) ((pt1 (by decide +kernel)).trans rfl)
theorem ok_at_end (D : Df K "at_end" "Reader.at_end" s_Reader_at_end ["self"] f) (R : RdC K C) (ml : mg "len" = none) : Cb P w K mg base CX0 1 f ["self"] (spAtEnd K C) := by
  refine D.ok sc_Reader_at_end (fun vs H Q _ h => ?_) (fun cdv A outer s H vs Q _ hr h => ?_)
  · obtain ⟨a, l, i, ns, rfl, _⟩ := h
    rfl
  · refine ⟨_, pss_one (ps_ret (pe_cmpR op_ge (pe_fld (pv 0) rfl) (pe_callB call_len_seq (by rfl) ml PySem.boot_len (pa_cons (pe_fld (pv 0) rfl) pa_nil)) (nomark _))), ?_⟩
    obtain ⟨a, l, i, ns, rfl, ⟨dx, ha⟩, hl, k⟩ := h
    refine ⟨_, rfl, _, _, _, _, _, rfl, ha, R.cl, R.nP, rF_p, _, rfl, _, _, _, _, _, rfl, ha, R.cl, R.nN, rF_n, l, _, rfl, .inl hl, _, _, rfl, rfl, ?_⟩
    rw [ix_len]
    have e : decide ((ns.length : Int) ≤ (i : Int)) = decide (ns.length ≤ i) := by
      by_cases c : ns.length ≤ i
      · rw [decide_eq_true c, decide_eq_true (by omega)]
      · rw [decide_eq_false c, decide_eq_false (by omega)]
    show Q (V.bl (decide ((ns.length : Int) ≤ (i : Int)))) H
    rw [e]
    exact k
theorem ok_take (D : Df K "take" "Reader.take" s_Reader_take ["self"] f) (R : RdC K C) : Cb P w K mg base CX0 1 f ["self"] (spTake K C) := by
  refine D.ok sc_Reader_take (fun vs H Q _ h => ?_) (fun cdv A outer s H vs Q _ hr h => ?_)
  · obtain ⟨a, l, i, ns, z, rfl, _⟩ := h
    rfl
  · refine ⟨_, pss_cons (ps_set (i := 1) sc_Reader_take.nd rfl (Or.inl rfl) (pe_ix ix_list (pe_fld (pv 0) rfl) (pe_fld (pv 0) rfl) (fun _ _ => rfl))) (pss_cons (ps_fldaug (pv 0) pe_int in_add) (pss_one (ps_ret (pv 1)))), ?_⟩
    obtain ⟨a, l, i, ns, z, rfl, ⟨dx, ha⟩, hl, hz, k⟩ := h
    refine ⟨_, rfl, _, _, _, _, _, rfl, ha, R.cl, R.nN, rF_n, _, rfl, _, _, _, _, _, rfl, ha, R.cl, R.nP, rF_p, l, _, _, _, rfl, rfl, hl, atI_nat (ix_get hz), ?_⟩
    refine ⟨_, rfl, _, _, _, _, _, rfl, ha, R.cl, R.nP, rF_p, _, _, rfl, rfl, dx, _, ha, rF_len, _, rfl, ?_⟩
    refine k _ Keeps.refl.upd ⟨dx, ?_⟩
    rw [upd_same, rF_put (j := i + 1) (by omega)]
theorem ok_take_row {ft : Addr} (D : Df K "take_row" "Reader.take_row" s_Reader_take_row ["self"] f) (R : RdC K C) (Ct : Cb P w K mg base CX0 1 ft ["self"] (spTake K C)) (mt : Meth K C "take" ft) : Cb P w K mg base CX0 2 f ["self"] (spTakeRow K C) := by
  refine D.ok sc_Reader_take_row (fun vs H Q _ h => ?_) (fun cdv A outer s H vs Q _ hr h => ?_)
  · obtain ⟨a, l, i, n, ns, rfl, _⟩ := h
    rfl
  · refine ⟨_, pss_cons (ps_set (i := 1) sc_Reader_take_row.nd rfl (Or.inl rfl) (pe_mb0 Ct R.cl mt hr (by decide) (pv 0)))
      (pss_cons (ps_set (i := 2) sc_Reader_take_row.nd rfl (Or.inl rfl) (pe_slice sl_list (pe_fld (pv 0) rfl) (po_some (pe_fld (pv 0) rfl)) (po_some (pe_op op_add (pe_fld (pv 0) rfl) (pv 1)))))
      (pss_cons (ps_fldaug (pv 0) (pv 1) in_add) (pss_one (ps_ret (pv 2))))), ?_⟩
    obtain ⟨a, l, i, n, ns, rfl, ⟨dx, ha⟩, hl, hz, hn, k⟩ := h
    refine ⟨_, rfl, a, dx, _, rfl, ha, rF_no (by decide +kernel) (by decide +kernel), a, l, i, ns, _, rfl, ⟨dx, ha⟩, hl, hz, fun H1 k1 ⟨dx1, ha1⟩ => ?_⟩
    have hl1 := sq_keeps ha hl k1
    refine ⟨_, rfl, _, _, _, _, _, rfl, ha1, R.cl, R.nN, rF_n, _, rfl, _, _, _, _, _, rfl, ha1, R.cl, R.nP, rF_p, _, rfl, _, rfl, _, _, _, _, _, rfl, ha1, R.cl, R.nP, rF_p, _, rfl, _, _, rfl, rfl, _, rfl, l, _, rfl, hl1, fun p np => ?_⟩
    have e1 : (((i + 1 : Nat) : Int) + (n : Int)) = ((i + 1 + n : Nat) : Int) := by omega
    rw [e1, cut_both (by rw [ix_len]; exact hn) (by omega)]
    have ha2 := same_new (o := .lst (((ix ns).drop (i + 1)).take (i + 1 + n - (i + 1)))) np _ _ ha1
    refine ⟨_, rfl, _, _, _, _, _, rfl, ha2, R.cl, R.nP, rF_p, _, rfl, _, _, rfl, rfl, dx1, _, ha2, rF_len, _, rfl, ?_⟩
    have hpa : p ≠ a := Ne.symm (ne_of_none ha1 np)
    have np0 : H p = none := by
      cases q : H p with
      | none => rfl
      | some o =>
        have := k1 p o q hpa
        rw [np] at this
        cases this
    refine k _ p ((k1.new np).upd) ⟨dx1, ?_⟩ np0 ?_
    · rw [upd_same, rF_put (j := i + 1 + n) (by omega)]
    · rw [upd_ne hpa, upd_same]
      refine congrArg (fun q => some (HO.lst q)) ?_
      unfold ix
      rw [← List.map_drop, ← List.map_take, Nat.add_sub_cancel_left]
end
end Mp
/-! Rows of commands: the specification's own reading of them, one command at a time. -/
namespace Mp
open Ue10 Ue10Neutral

def lens : List Nat := [2, 1, 1, 1, 2, 2, 1, 1, 1, 2, 2, 1, 1, 2, 3, 2]
/-- the first command of a row, and the rest -/
def Parts (f k : Nat) (l : List Nat) (cs : List Cmd) : Prop :=
  ∃ n x r, lens[k]? = some n ∧ 1 ≤ n ∧ n ≤ (k :: l).length ∧ numbersOf x = (k :: l).take n ∧ cmdsIn f ((k :: l).drop n) = some r ∧ cs = x :: r
def oneR (f : Nat) (c : Nat → Cmd) : List Nat → Option (List Cmd)
  | a :: m => (cmdsIn f m).map fun r => c a :: r
  | [] => none
def twoR (f : Nat) : List Nat → Option (List Cmd)
  | a :: n :: m => (cmdsIn f m).map fun r => .times a n :: r
  | _ => none
theorem parts1 {f k : Nat} {cs : List Cmd} {c : Nat → Cmd} (hn : ∀ a, numbersOf (c a) = [k, a]) (hk : lens[k]? = some 2) : ∀ {l : List Nat}, oneR f c l = some cs → Parts f k l cs
  | [], h => by cases h
  | a :: m, h => by
    obtain ⟨r, hr, e⟩ := Option.map_eq_some_iff.mp h
    exact ⟨2, c a, r, hk, by decide, by simp, hn a, hr, e.symm⟩
theorem parts0 {f k : Nat} {cs : List Cmd} {c : Cmd} {l : List Nat} (hn : numbersOf c = [k]) (hk : lens[k]? = some 1) (h : ((cmdsIn f l).map fun r => c :: r) = some cs) : Parts f k l cs := by
  obtain ⟨r, hr, e⟩ := Option.map_eq_some_iff.mp h
  exact ⟨1, c, r, hk, by decide, by simp, by simpa using hn, by simpa using hr, e.symm⟩
theorem parts2 {f : Nat} {cs : List Cmd} : ∀ {l : List Nat}, twoR f l = some cs → Parts f 14 l cs
  | [], h => by cases h
  | [_], h => by cases h
  | a :: n :: m, h => by
    obtain ⟨r, hr, e⟩ := Option.map_eq_some_iff.mp h
    exact ⟨3, .times a n, r, rfl, by decide, by simp, rfl, hr, e.symm⟩
theorem cmds_cons {f : Nat} {l : List Nat} {cs : List Cmd} : ∀ {k : Nat}, cmdsIn (f + 1) (k :: l) = some cs → Parts f k l cs
  | 0, h => parts1 (c := .insert) (fun _ => rfl) rfl (by cases l <;> exact h)
  | 1, h => parts0 (c := .left) rfl rfl h
  | 2, h => parts0 (c := .right) rfl rfl h
  | 3, h => parts0 (c := .delete) rfl rfl h
  | 4, h => parts1 (c := .find) (fun _ => rfl) rfl (by cases l <;> exact h)
  | 5, h => parts1 (c := .back) (fun _ => rfl) rfl (by cases l <;> exact h)
  | 6, h => parts0 (c := .home) rfl rfl h
  | 7, h => parts0 (c := .end_) rfl rfl h
  | 8, h => parts0 (c := .swap) rfl rfl h
  | 9, h => parts1 (c := .is_) (fun _ => rfl) rfl (by cases l <;> exact h)
  | 10, h => parts1 (c := .isnt) (fun _ => rfl) rfl (by cases l <;> exact h)
  | 11, h => parts0 (c := .hold) rfl rfl h
  | 12, h => parts0 (c := .put) rfl rfl h
  | 13, h => parts1 (c := .play) (fun _ => rfl) rfl (by cases l <;> exact h)
  | 14, h => parts2 (by
    match l, h with
    | [], h => exact h
    | [_], h => exact h
    | _ :: _ :: _, h => exact h)
  | 15, h => parts1 (c := .until_) (fun _ => rfl) rfl (by cases l <;> exact h)
  | k + 16, h => by
    have : none = some cs := h
    cases this
theorem cmds_nil {f : Nat} {cs : List Cmd} (h : cmdsIn f [] = some cs) : cs = [] := by
  cases f with
  | zero =>
    have : some [] = some cs := h
    exact (Option.some.inj this).symm
  | succ f =>
    have : some [] = some cs := h
    exact (Option.some.inj this).symm
theorem cmds_zero {k : Nat} {l : List Nat} {cs : List Cmd} (h : cmdsIn 0 (k :: l) = some cs) : False := by
  have : none = some cs := h
  cases this
end Mp
namespace Mp
open PySem PySem.Spec PyProof.Rows L2

/-- at p: a list of the commands cs -/
def CmdsAt (H : Hp) (p : Addr) (cs : List Ue10.Cmd) : Prop := ∃ as : List Addr, H p = some (.lst (as.map V.ref)) ∧ Paired (CmdAt H) as cs
theorem paired_imp {α β : Type} {F G : α → β → Prop} (h : ∀ a b, F a b → G a b) : ∀ {l : List α} {m : List β}, Paired F l m → Paired G l m
  | _, _, .nil => .nil
  | _, _, .cons r t => .cons (h _ _ r) (paired_imp h t)
theorem paired_snoc {α β : Type} {F : α → β → Prop} {a : α} {b : β} (h : F a b) : ∀ {l : List α} {m : List β}, Paired F l m → Paired F (l ++ [a]) (m ++ [b])
  | _, _, .nil => .cons h .nil
  | _, _, .cons r t => .cons r (paired_snoc h t)
theorem paired_get {α β : Type} {F : α → β → Prop} : ∀ {l : List α} {m : List β} {i : Nat} {a : α}, Paired F l m → l[i]? = some a → ∃ b, m[i]? = some b ∧ F a b
  | _, _, _, _, .nil, h => by simp at h
  | _, _, 0, _, .cons r t, h => by
    simp at h
    subst h
    exact ⟨_, rfl, r⟩
  | _, _, i + 1, _, .cons r t, h => by
    obtain ⟨b, h1, h2⟩ := paired_get (i := i) t (by simpa using h)
    exact ⟨b, by simpa using h1, h2⟩
theorem CmdsAt.same {H H' : Hp} {p : Addr} {cs : List Ue10.Cmd} (h : CmdsAt H p cs) (s : Same H H') : CmdsAt H' p cs := by
  obtain ⟨as, h1, h2⟩ := h
  exact ⟨as, s _ _ h1, paired_imp (fun a b z => s _ _ z) h2⟩
theorem CmdsAt.len {H : Hp} {p : Addr} {cs : List Ue10.Cmd} (h : CmdsAt H p cs) : ∃ xs, H p = some (.lst xs) ∧ xs.length = cs.length := by
  obtain ⟨as, h1, h2⟩ := h
  exact ⟨_, h1, by rw [List.length_map]; exact Paired.length h2⟩
def spSplit (K : PySem.W.Frag) : Sp := fun vs H Q _ => ∃ (l : Addr) (row : List Nat) (f : Nat) (cs : List Ue10.Cmd), vs = [.ref l] ∧ SqL K H l (tx row) ∧ row.length ≤ 1000 ∧ Ue10Neutral.cmdsIn f row = some cs ∧
  ∀ H' p, Same H H' → H p = none → CmdsAt H' p cs → Q (.ref p) H'
section
variable {P : Program} {w : World} {K : PySem.W.Frag} {mg : Str → Option Value} {base : Heap} {f : Addr}
theorem ok_split {dL : Addr} (D : Df K "split_commands" "split_commands" s_split_commands ["numbers"] f) (ml : mg "len" = none) (mt : mg "tuple" = none) (gL : mg "LENGTHS" = some (.ref dL)) (hL : ∀ H, SqT K H dL (tx lens)) :
    Cb P w K mg base CX0 1 f ["numbers"] (spSplit K) := by
  refine D.ok sc_split_commands (fun vs H Q _ h => ?_) (fun cdv A outer s H vs Q _ hr h => ?_)
  · obtain ⟨l, row, f, cs, rfl, _⟩ := h
    rfl
  · refine ⟨_, pss_cons (ps_set (i := 1) sc_split_commands.nd rfl (Or.inl rfl) (pe_lst pa_nil))
      (pss_cons (ps_set (i := 2) sc_split_commands.nd rfl (Or.inl rfl) pe_int)
      (pss_cons (ps_while PassesOwn.never (pt_cmpR op_lt (pv 2) (pe_callB call_len_seq (by rfl) ml PySem.boot_len (pa_cons (pv 0) pa_nil)) (nomark _))
        (pss_cons (ps_set (i := 3) sc_split_commands.nd rfl (Or.inl rfl) (pe_op op_add (pv 2) (pe_ix ix_tup (pe_glob (v := .ref dL) rfl gL rfl) (pe_ix ix_list (pv 0) (pv 2) (fun _ _ => rfl)) (fun _ _ => rfl))))
        (pss_cons (ps_expr (pe_bm PySem.F.plainAttrs_list PySem.F.slot_list_append PySem.F.type_list_append mt_append (pv 1) (pa_cons (pe_callTy call_tuple_of (by rfl) mt (by decide +kernel) (pa_cons (pe_slice sl_list (pv 0) (po_some (pv 2)) (po_some (pv 3))) pa_nil)) pa_nil)))
        (pss_one (ps_set (i := 2) sc_split_commands.nd rfl (Or.inl rfl) (pv 3))))))
      (pss_one (ps_ret (pv 1))))), ?_⟩
    obtain ⟨l, row, f0, cs, rfl, hl, hz, hc, k⟩ := h
    refine ⟨(by show 0 ≤ sizeLine; omega), fun p np => ?_⟩
    refine ⟨fun m σ H' => ∃ (i f : Nat) (as : List Addr) (done rest : List Ue10.Cmd) (v : Option V), m = row.length - i ∧ σ = [some (.ref l), some (.ref p), some (.int (i : Int)), v] ∧ Same H H' ∧ H' p = some (.lst (as.map V.ref)) ∧ Paired (CmdAt H') as done ∧
      Ue10Neutral.cmdsIn f (row.drop i) = some rest ∧ done ++ rest = cs ∧ i ≤ row.length ∧ as.length ≤ i, ⟨_, 0, f0, [], [], cs, none, rfl, rfl, same_new np, upd_same, .nil, hc, rfl, Nat.zero_le _, Nat.le_refl _⟩, ?_⟩
    rintro m σ H1 ⟨i, f, as, done, rest, v, rfl, rfl, s1, hp, pr, hr1, hd, hi, hal⟩
    have hl1 := sq_same hl s1
    refine ⟨_, rfl, _, rfl, l, _, rfl, .inl hl1, _, _, rfl, rfl, _, rfl, ?_⟩
    rw [tx_len]
    by_cases c : i < row.length
    · refine ifT (decide_eq_true (by omega)) ?_
      refine ⟨fun σ' H' => ∃ m', m' < row.length - i ∧ ∃ (i f : Nat) (as : List Addr) (done rest : List Ue10.Cmd) (v : Option V), m' = row.length - i ∧ σ' = [some (.ref l), some (.ref p), some (.int (i : Int)), v] ∧ Same H H' ∧ H' p = some (.lst (as.map V.ref)) ∧ Paired (CmdAt H') as done ∧
        Ue10Neutral.cmdsIn f (row.drop i) = some rest ∧ done ++ rest = cs ∧ i ≤ row.length ∧ as.length ≤ i, fun σ' H' z => z, ?_⟩
      obtain ⟨b, hb⟩ : ∃ b, row[i]? = some b := ⟨_, List.getElem?_eq_getElem c⟩
      have hdr : row.drop i = b :: row.drop (i + 1) := by
        rw [List.drop_eq_getElem_cons c]
        rw [List.getElem?_eq_getElem c] at hb
        rw [Option.some.inj hb]
      rw [hdr] at hr1
      cases f with
      | zero => exact (cmds_zero hr1).elim
      | succ f =>
        obtain ⟨n, x, r, hn, h1, h2, h3, h4, h5⟩ := cmds_cons hr1
        rw [← hdr] at h2 h3 h4
        rw [List.length_drop] at h2
        refine ⟨_, rfl, _, rfl, _, rfl, l, _, _, _, rfl, rfl, hl1, atI_nat (tx_get hb), dL, _, _, _, rfl, rfl, hL _, atI_nat (tx_get hn), _, _, rfl, rfl, ?_⟩
        refine ⟨_, rfl, .inl ⟨rfl, _, SqL.of hp⟩, _, rfl, _, rfl, _, rfl, _, rfl, _, rfl, l, _, rfl, hl1, fun q nq => ?_⟩
        have e1 : ((i : Int) + (n : Int)) = ((i + n : Nat) : Int) := by omega
        rw [e1, cut_both (by rw [tx_len]; omega) (by omega), Nat.add_sub_cancel_left, tx_drop, tx_take]
        refine ⟨q, _, rfl, .inl ⟨SqL.of upd_same, fun t nt => ?_⟩⟩
        have s2 : Same H1 (upd (upd H1 q (.lst (tx ((row.drop i).take n)))) t (.tup (tx ((row.drop i).take n)))) := fun a o z => same_new nt _ _ (same_new nq _ _ z)
        have hp2 := s2 _ _ hp
        refine ⟨p, _, _, rfl, rfl, hp2, ?_, ?_⟩
        · rw [List.length_map, sizeLine_eq]
          omega
        refine ⟨_, rfl, _, (by omega : row.length - (i + n) < row.length - i), i + n, f, as ++ [t], done ++ [x], r, _, rfl, rfl, ?_, ?_, ?_, ?_, ?_, ?_, ?_⟩
        · intro a o z
          have z2 := s2 _ _ (s1 _ _ z)
          rw [upd_ne (ne_of_none z np)]
          exact z2
        · rw [upd_same, List.map_append]
          rfl
        · have kp : ∀ a ys, (upd (upd H1 q (.lst (tx ((row.drop i).take n)))) t (.tup (tx ((row.drop i).take n)))) a = some (.tup ys) → upd (upd (upd H1 q (.lst (tx ((row.drop i).take n)))) t (.tup (tx ((row.drop i).take n)))) p (.lst (as.map V.ref ++ [V.ref t])) a = some (.tup ys) := fun a ys z => by
            rw [upd_ne (ne_of z hp2 (fun y => nomatch y))]
            exact z
          refine paired_snoc ?_ (paired_imp (fun a y z => ?_) pr)
          · refine kp t _ ?_
            rw [upd_same, h3]
          · exact kp a _ (s2 _ _ z)
        · rw [List.drop_drop] at h4
          exact h4
        · rw [List.append_assoc, ← hd, h5]
          rfl
        · omega
        · rw [List.length_append]
          show as.length + 1 ≤ i + n
          omega
    · refine ifF (decide_eq_false (by omega)) ?_
      have hi0 : row.drop i = [] := List.drop_eq_nil_of_le (by omega)
      rw [hi0] at hr1
      have hr0 := cmds_nil hr1
      subst hr0
      rw [List.append_nil] at hd
      subst hd
      exact ⟨_, rfl, k H1 p s1 np ⟨as, hp, pr⟩⟩
end
end Mp
namespace Mp
open PySem PySem.Spec PyProof.Rows L2

/-- a refusal with the number n may leave, nothing having changed -/
def Rz (K : PySem.W.Frag) (cR : Addr) (n : Int) (H : Hp) (E : XK) : Prop := ∀ C d H', RfC K cR C → Same H H' → H d = none → H' d = some (.xd (numF n)) → E (.ref C) (some d) H'
theorem same_none {H H' : Hp} (s : Same H H') {d : Addr} (h : H' d = none) : H d = none := by
  cases q : H d with
  | none => rfl
  | some o =>
    have := s d o q
    rw [h] at this
    cases this
theorem same_trans {H H1 H2 : Hp} (a : Same H H1) (b : Same H1 H2) : Same H H2 := fun c o z => b c o (a c o z)
theorem Rz.same {K : PySem.W.Frag} {cR : Addr} {n : Int} {H H1 : Hp} {E : XK} (r : Rz K cR n H E) (s : Same H H1) : Rz K cR n H1 E := fun C d H' rf s' nd hd => r C d H' rf (same_trans s s') (same_none s nd) hd
def spCheck (K : PySem.W.Frag) (cR : Addr) : Sp := fun vs H Q E => ∃ (c : Addr) (x : Ue10.Cmd), vs = [.ref c] ∧ CmdAt H c x ∧ (Ue10.cmdOk x = true → Q .non H) ∧ (Ue10.cmdOk x = false → Rz K cR (-1) H E)
def spReadC (K : PySem.W.Frag) (cR : Addr) : Sp := fun vs H Q E => ∃ (l : Addr) (row : List Nat) (f : Nat) (cs : List Ue10.Cmd), vs = [.ref l] ∧ SqL K H l (tx row) ∧ row.length ≤ 1000 ∧ Ue10Neutral.cmdsIn f row = some cs ∧
  (Ue10.programOk cs = true → ∀ H' p, Same H H' → H p = none → CmdsAt H' p cs → Q (.ref p) H') ∧ (Ue10.programOk cs = false → Rz K cR (-1) H E)
section
variable {P : Program} {w : World} {K : PySem.W.Frag} {mg : Str → Option Value} {base : Heap} {f cR : Addr}
theorem ok_check {t1 t2 t3 : Tok} (D : Df K "check_command" "check_command" s_check_command ["command"] f) (ml : mg "len" = none) (g1 : mg "FIRST_THAT_PLAYS" = some (.int 13 t1)) (g2 : mg "LAST_SLOT" = some (.int 9 t2)) (g3 : mg "LAST_BYTE" = some (.int 255 t3))
    (R : RzT P w K mg base cR "WrongNumbers" (-1)) : Cb P w K mg base (L2.CX P w) 4 f ["command"] (spCheck K cR) := by
  refine D.okX sc_check_command (fun vs H Q _ h => ?_) (fun cdv A outer s H vs Q E hr h => ?_)
  · obtain ⟨c, x, rfl, _⟩ := h
    rfl
  · refine ⟨_, pss_cons (ps_if (pt_cmpR op_eq (pe_callB call_len_seq (by rfl) ml PySem.boot_len (pa_cons (pv 0) pa_nil)) pe_int (nomark _)) (pss_one ps_retN) pss_nil)
      (pss_cons (ps_set (i := 1) sc_check_command.nd rfl (Or.inl rfl) (pe_ifExp (pt_cmpR op_ge (pe_ix ix_tup (pv 0) pe_int (fun _ _ => rfl)) (pe_glob (v := .int 13) rfl g1 ⟨_, rfl⟩) (nomark _)) (pe_glob (v := .int 9) rfl g2 ⟨_, rfl⟩) (pe_glob (v := .int 255) rfl g3 ⟨_, rfl⟩)))
      (pss_one (ps_if (pt_cmpR op_gt (pe_ix ix_tup (pv 0) pe_int (fun _ _ => rfl)) (pv 1) (nomark _)) (pss_one (ps_rz R hr (by decide) (by rfl) rfl (takes_of rfl rfl rfl rfl))) pss_nil))), ?_⟩
    obtain ⟨c, x, rfl, hc, k1, k0⟩ := h
    refine ⟨_, rfl, c, _, rfl, .inr (SqT.of hc), rfl, _, rfl, ?_⟩
    rw [tx_len]
    cases x with
    | insert b => (refine ifF rfl ?_; refine ⟨_, rfl, c, _, _, _, rfl, rfl, SqT.of hc, atI_nat (j := 0) rfl, _, _, rfl, rfl, _, rfl, ifF rfl ?_⟩; refine ⟨_, rfl, c, _, _, _, rfl, rfl, SqT.of hc, atI_nat (j := 1) rfl, _, rfl, _, _, rfl, rfl, _, rfl, ?_⟩; by_cases z : b ≤ 255; (refine ifF (decide_eq_false (by omega)) ?_; exact k1 (decide_eq_true z)); (refine ifT (decide_eq_true (by omega)) ?_; exact k0 (decide_eq_false z)))
    | left => (refine ifT rfl ?_; exact k1 rfl)
    | right => (refine ifT rfl ?_; exact k1 rfl)
    | delete => (refine ifT rfl ?_; exact k1 rfl)
    | find b => (refine ifF rfl ?_; refine ⟨_, rfl, c, _, _, _, rfl, rfl, SqT.of hc, atI_nat (j := 0) rfl, _, _, rfl, rfl, _, rfl, ifF rfl ?_⟩; refine ⟨_, rfl, c, _, _, _, rfl, rfl, SqT.of hc, atI_nat (j := 1) rfl, _, rfl, _, _, rfl, rfl, _, rfl, ?_⟩; by_cases z : b ≤ 255; (refine ifF (decide_eq_false (by omega)) ?_; exact k1 (decide_eq_true z)); (refine ifT (decide_eq_true (by omega)) ?_; exact k0 (decide_eq_false z)))
    | back b => (refine ifF rfl ?_; refine ⟨_, rfl, c, _, _, _, rfl, rfl, SqT.of hc, atI_nat (j := 0) rfl, _, _, rfl, rfl, _, rfl, ifF rfl ?_⟩; refine ⟨_, rfl, c, _, _, _, rfl, rfl, SqT.of hc, atI_nat (j := 1) rfl, _, rfl, _, _, rfl, rfl, _, rfl, ?_⟩; by_cases z : b ≤ 255; (refine ifF (decide_eq_false (by omega)) ?_; exact k1 (decide_eq_true z)); (refine ifT (decide_eq_true (by omega)) ?_; exact k0 (decide_eq_false z)))
    | home => (refine ifT rfl ?_; exact k1 rfl)
    | end_ => (refine ifT rfl ?_; exact k1 rfl)
    | swap => (refine ifT rfl ?_; exact k1 rfl)
    | is_ b => (refine ifF rfl ?_; refine ⟨_, rfl, c, _, _, _, rfl, rfl, SqT.of hc, atI_nat (j := 0) rfl, _, _, rfl, rfl, _, rfl, ifF rfl ?_⟩; refine ⟨_, rfl, c, _, _, _, rfl, rfl, SqT.of hc, atI_nat (j := 1) rfl, _, rfl, _, _, rfl, rfl, _, rfl, ?_⟩; by_cases z : b ≤ 255; (refine ifF (decide_eq_false (by omega)) ?_; exact k1 (decide_eq_true z)); (refine ifT (decide_eq_true (by omega)) ?_; exact k0 (decide_eq_false z)))
    | isnt b => (refine ifF rfl ?_; refine ⟨_, rfl, c, _, _, _, rfl, rfl, SqT.of hc, atI_nat (j := 0) rfl, _, _, rfl, rfl, _, rfl, ifF rfl ?_⟩; refine ⟨_, rfl, c, _, _, _, rfl, rfl, SqT.of hc, atI_nat (j := 1) rfl, _, rfl, _, _, rfl, rfl, _, rfl, ?_⟩; by_cases z : b ≤ 255; (refine ifF (decide_eq_false (by omega)) ?_; exact k1 (decide_eq_true z)); (refine ifT (decide_eq_true (by omega)) ?_; exact k0 (decide_eq_false z)))
    | hold => (refine ifT rfl ?_; exact k1 rfl)
    | put => (refine ifT rfl ?_; exact k1 rfl)
    | play r => (refine ifF rfl ?_; refine ⟨_, rfl, c, _, _, _, rfl, rfl, SqT.of hc, atI_nat (j := 0) rfl, _, _, rfl, rfl, _, rfl, ifT rfl ?_⟩; refine ⟨_, rfl, c, _, _, _, rfl, rfl, SqT.of hc, atI_nat (j := 1) rfl, _, rfl, _, _, rfl, rfl, _, rfl, ?_⟩; by_cases z : r < 10; (refine ifF (decide_eq_false (by omega)) ?_; exact k1 (decide_eq_true z)); (refine ifT (decide_eq_true (by omega)) ?_; exact k0 (decide_eq_false z)))
    | times r n => (refine ifF rfl ?_; refine ⟨_, rfl, c, _, _, _, rfl, rfl, SqT.of hc, atI_nat (j := 0) rfl, _, _, rfl, rfl, _, rfl, ifT rfl ?_⟩; refine ⟨_, rfl, c, _, _, _, rfl, rfl, SqT.of hc, atI_nat (j := 1) rfl, _, rfl, _, _, rfl, rfl, _, rfl, ?_⟩; by_cases z : r < 10; (refine ifF (decide_eq_false (by omega)) ?_; exact k1 (decide_eq_true z)); (refine ifT (decide_eq_true (by omega)) ?_; exact k0 (decide_eq_false z)))
    | until_ r => (refine ifF rfl ?_; refine ⟨_, rfl, c, _, _, _, rfl, rfl, SqT.of hc, atI_nat (j := 0) rfl, _, _, rfl, rfl, _, rfl, ifT rfl ?_⟩; refine ⟨_, rfl, c, _, _, _, rfl, rfl, SqT.of hc, atI_nat (j := 1) rfl, _, rfl, _, _, rfl, rfl, _, rfl, ?_⟩; by_cases z : r < 10; (refine ifF (decide_eq_false (by omega)) ?_; exact k1 (decide_eq_true z)); (refine ifT (decide_eq_true (by omega)) ?_; exact k0 (decide_eq_false z)))
theorem ok_readC {fs fc : Addr} {t1 : Tok} (D : Df K "read_commands" "read_commands" s_read_commands ["numbers"] f) (ml : mg "len" = none) (g1 : mg "MOST_COMMANDS" = some (.int 40 t1)) (Cs : Cb P w K mg base CX0 1 fs ["numbers"] (spSplit K)) (gs : mg "split_commands" = some (.ref fs))
    (Cc : Cb P w K mg base (L2.CX P w) 4 fc ["command"] (spCheck K cR)) (gc : mg "check_command" = some (.ref fc)) (R : RzT P w K mg base cR "WrongNumbers" (-1)) : Cb P w K mg base (L2.CX P w) 5 f ["numbers"] (spReadC K cR) := by
  refine D.okX sc_read_commands (fun vs H Q _ h => ?_) (fun cdv A outer s H vs Q E hr h => ?_)
  · obtain ⟨l, row, f, cs, rfl, _⟩ := h
    rfl
  · refine ⟨_, pss_cons (ps_set (i := 1) sc_read_commands.nd rfl (Or.inl rfl) (pe_cb Cs hr (by decide) (by rfl) gs (pa_cons (pv 0) pa_nil)))
      (pss_cons (ps_if (pt_cmpR op_gt (pe_callB call_len_seq (by rfl) ml PySem.boot_len (pa_cons (pv 1) pa_nil)) (pe_glob (v := .int 40) rfl g1 ⟨_, rfl⟩) (nomark _)) (pss_one (ps_rz R hr (by decide) (by rfl) rfl (takes_of rfl rfl rfl rfl))) pss_nil)
      (pss_cons (ps_for (passes_of rfl) rfl (pi_list (pv 1)) (pg_name (i := 2) sc_read_commands.nd rfl (Or.inl rfl)) (pss_one (ps_expr (pe_cbX Cc hr (by decide) (by rfl) gc (takes_of rfl rfl rfl rfl) (pa_cons (pv 2) pa_nil)))))
      (pss_one (ps_ret (pv 1))))), ?_⟩
    obtain ⟨l, row, f0, cs, rfl, hl, hz, hc, k1, k0⟩ := h
    refine ⟨_, rfl, l, row, f0, cs, rfl, hl, hz, hc, fun H1 p s1 np hcs => ?_⟩
    obtain ⟨as, hp, pr⟩ := id hcs
    refine ⟨_, rfl, p, _, rfl, .inl (SqL.of hp), _, _, rfl, rfl, _, rfl, ?_⟩
    have hlen : as.length = cs.length := Paired.length pr
    rw [List.length_map, hlen]
    by_cases c : cs.length ≤ 40
    · refine ifF (decide_eq_false (by omega)) ?_
      refine ⟨_, rfl, p, rfl, ⟨_, SqL.of hp⟩, for_list (K := K) (a := p) (xs := as.map V.ref) (fun i σ H' => H' = H1 ∧ (∃ v, σ = [some (.ref l), some (.ref p), v]) ∧ ∀ x ∈ cs.take i, Ue10.cmdOk x = true)
        ⟨rfl, ⟨none, rfl⟩, fun x hx => by simp at hx⟩ (fun i σ H' _ z => ?_) ?_ ?_⟩
      · rw [z.1]
        exact SqL.of hp
      · rintro i x σ H' hx ⟨rfl, ⟨v, rfl⟩, ok⟩
        rw [List.getElem?_map] at hx
        obtain ⟨a, ha, rfl⟩ := Option.map_eq_some_iff.mp hx
        obtain ⟨y, hy, hcy⟩ := paired_get pr ha
        refine ⟨_, rfl, a, y, rfl, hcy, fun h1 => ?_, fun h0 => ?_⟩
        · refine ⟨rfl, ⟨_, rfl⟩, fun z hz' => ?_⟩
          have e : cs.take (i + 1) = cs.take i ++ [y] := by
            rw [List.take_add_one, hy]
            rfl
          rw [e] at hz'
          rcases List.mem_append.mp hz' with q | q
          · exact ok z q
          · rw [List.mem_singleton.mp q]
            exact h1
        · refine Rz.same (k0 ?_) s1
          unfold Ue10.programOk
          rw [Bool.and_eq_false_iff]
          refine .inr ?_
          rw [List.all_eq_false]
          exact ⟨y, List.mem_of_getElem? hy, by rw [h0]; decide⟩
      · rintro σ H' ⟨rfl, ⟨v, rfl⟩, ok⟩
        refine ⟨_, rfl, k1 ?_ _ p s1 np hcs⟩
        rw [List.length_map, hlen, List.take_length] at ok
        unfold Ue10.programOk
        rw [Bool.and_eq_true]
        exact ⟨decide_eq_true c, List.all_eq_true.mpr ok⟩
    · refine ifT (decide_eq_true (by omega)) ?_
      refine Rz.same (k0 ?_) s1
      unfold Ue10.programOk
      rw [Bool.and_eq_false_iff]
      exact .inl (decide_eq_false c)
end
end Mp
/-! The player: how it lies in the heap; what its defs promise. -/
namespace Mp
open PySem PySem.Spec PyProof.Rows L2
open Ue10 (does)

abbrev Left := Ue10.Left
abbrev Out := Ue10.Out
def pF (ed m : Addr) (b : Left) : List (Str × V) := [("editor", .ref ed), ("macros", .ref m), ("plain_count", .int (20000 - (b.plain : Int))), ("playing_count", .int (20000 - (b.plays : Int)))]
structure PyC (K : PySem.W.Frag) (C : Addr) : Prop where
  cl : Cls K C
  nE : NoAttr K C "editor"
  nM : NoAttr K C "macros"
  nC : NoAttr K C "plain_count"
  nY : NoAttr K C "playing_count"
section
variable {ed m : Addr} {b b' : Left}
theorem pF_e : (pF ed m b).lookup ("editor" : Str) = some (.ref ed) := lk0
theorem pF_m : (pF ed m b).lookup ("macros" : Str) = some (.ref m) := (lk1 (by decide +kernel)).trans lk0
theorem pF_c : (pF ed m b).lookup ("plain_count" : Str) = some (.int (20000 - (b.plain : Int))) := (lk1 (by decide +kernel)).trans ((lk1 (by decide +kernel)).trans lk0)
theorem pF_y : (pF ed m b).lookup ("playing_count" : Str) = some (.int (20000 - (b.plays : Int))) := (lk1 (by decide +kernel)).trans ((lk1 (by decide +kernel)).trans ((lk1 (by decide +kernel)).trans lk0))
theorem pF_no {x : Str} (h1 : (x == ("editor" : Str)) = false) (h2 : (x == ("macros" : Str)) = false) (h3 : (x == ("plain_count" : Str)) = false) (h4 : (x == ("playing_count" : Str)) = false) : (pF ed m b).lookup x = none :=
  (lk1 h1).trans ((lk1 h2).trans ((lk1 h3).trans ((lk1 h4).trans rfl)))
theorem pF_put_c {z : Int} (e : z = 20000 - (b'.plain : Int)) (e2 : b'.plays = b.plays) : putF "plain_count" (.int z) (pF ed m b) = pF ed m b' := by
  subst e
  unfold pF
  rw [e2]
  exact (pt1 (by decide +kernel)).trans (congrArg _ ((pt1 (by decide +kernel)).trans (congrArg _ pt0)))
theorem pF_put_y {z : Int} (e : z = 20000 - (b'.plays : Int)) (e2 : b'.plain = b.plain) : putF "playing_count" (.int z) (pF ed m b) = pF ed m b' := by
  subst e
  unfold pF
  rw [e2]
  exact (pt1 (by decide +kernel)).trans (congrArg _ ((pt1 (by decide +kernel)).trans (congrArg _ ((pt1 (by decide +kernel)).trans (congrArg _ pt0)))))
theorem pF_len : (pF ed m b).length < 1000 := by show 4 < 1000; decide
end
/-- at a: a player of the editor at ed and the registers at m -/
def PlAt (C : Addr) (H : Hp) (a ed m : Addr) (b : Left) : Prop := ∃ dx, H a = some (.ins C dx (pF ed m b))
/-- at m: the registers -/
def MacAt (H : Hp) (m : Addr) (g : List (List Ue10.Cmd)) : Prop := ∃ ms : List Addr, H m = some (.lst (ms.map V.ref)) ∧ Paired (CmdsAt H) ms g
/-- all that was tracked is as it was, but the editor at ed and the player at a -/
def Kp (ed a : Addr) (H H' : Hp) : Prop := ∀ b o, H b = some o → b ≠ ed → b ≠ a → H' b = some o
theorem Kp.refl {ed a : Addr} {H : Hp} : Kp ed a H H := fun _ _ h _ _ => h
theorem Kp.trans {ed a : Addr} {H H1 H2 : Hp} (h : Kp ed a H H1) (g : Kp ed a H1 H2) : Kp ed a H H2 := fun b o z n1 n2 => g b o (h b o z n1 n2) n1 n2
theorem Keeps.kpE {ed a : Addr} {H H' : Hp} (h : Keeps ed H H') : Kp ed a H H' := fun b o z n1 _ => h b o z n1
theorem Keeps.kpA {ed a : Addr} {H H' : Hp} (h : Keeps a H H') : Kp ed a H H' := fun b o z _ n2 => h b o z n2
theorem same_kp {ed a : Addr} {H H' : Hp} (h : Same H H') : Kp ed a H H' := fun b o z _ _ => h b o z
structure BOk (b : Left) : Prop where
  c : b.plain ≤ 20000
  y : b.plays ≤ 20000
structure GOk (g : List (List Ue10.Cmd)) : Prop where
  len : g.length = 10
  ok : ∀ l ∈ g, l.length ≤ 40 ∧ ∀ x ∈ l, Ue10.cmdOk x = true
/-- the player, the editor and the registers as they stand -/
structure PSt (CP CE : Addr) (H : Hp) (a ed m : Addr) (g : List (List Ue10.Cmd)) (e : Ed) (b : Left) : Prop where
  pl : PlAt CP H a ed m b
  ed : EdAt CE H ed e
  ok : EOk e
  mac : MacAt H m g
  bk : BOk b
/-- a refusal with the number n may leave; the editor and the player may have changed -/
def RzK (K : PySem.W.Frag) (cR : Addr) (n : Int) (ed a : Addr) (H : Hp) (E : XK) : Prop := ∀ C d H', RfC K cR C → Kp ed a H H' → H d = none → H' d = some (.xd (numF n)) → E (.ref C) (some d) H'
section
variable {CP CE : Addr} {H H' : Hp} {a ed m : Addr} {g : List (List Ue10.Cmd)} {e : Ed} {b : Left} {K : PySem.W.Frag} {cR : Addr} {n : Int} {E : XK}
theorem ed_ne (h : PSt CP CE H a ed m g e b) : ed ≠ a := by
  obtain ⟨dx, h1⟩ := h.pl
  obtain ⟨dx2, t, h2, _⟩ := h.ed
  intro z
  rw [z, h1] at h2
  have z2 := Option.some.inj h2
  injection z2 with _ _ z3
  have z4 : (pF ed m b).length = (eF t e.at_ e.held).length := congrArg List.length z3
  exact absurd z4 (by show ¬ (4 = 3); decide)
theorem kp_none {x : Addr} (h : PSt CP CE H a ed m g e b) (h' : H' ed ≠ none) (h'' : H' a ≠ none) (k : Kp ed a H H') (hx : H' x = none) : H x = none := by
  cases q : H x with
  | none => rfl
  | some o =>
    by_cases z1 : x = ed
    · subst z1
      exact absurd hx h'
    · by_cases z2 : x = a
      · subst z2
        exact absurd hx h''
      · have := k x o q z1 z2
        rw [hx] at this
        cases this
theorem PSt.some_a (h : PSt CP CE H a ed m g e b) : H a ≠ none := by
  obtain ⟨dx, h1⟩ := h.pl
  rw [h1]
  exact fun z => nomatch z
theorem PSt.some_e (h : PSt CP CE H a ed m g e b) : H ed ≠ none := by
  obtain ⟨dx2, t, h2, _⟩ := h.ed
  rw [h2]
  exact fun z => nomatch z
/-- what is neither the editor nor the player: a list, a tuple, a dict -/
theorem PSt.not {x : Addr} {o : HO} (h : PSt CP CE H a ed m g e b) (hx : H x = some o) (ho : ∀ C dx fs, o ≠ .ins C dx fs) : x ≠ ed ∧ x ≠ a := by
  obtain ⟨dx, h1⟩ := h.pl
  obtain ⟨dx2, t, h2, _⟩ := h.ed
  exact ⟨ne_of hx h2 (ho _ _ _), ne_of hx h1 (ho _ _ _)⟩
theorem PSt.tup {x : Addr} {xs : List V} (h : PSt CP CE H a ed m g e b) (k : Kp ed a H H') (hx : H x = some (.tup xs)) : H' x = some (.tup xs) := by
  obtain ⟨n1, n2⟩ := h.not hx (fun _ _ _ z => nomatch z)
  exact k x _ hx n1 n2
theorem PSt.lst {x : Addr} {xs : List V} (h : PSt CP CE H a ed m g e b) (k : Kp ed a H H') (hx : H x = some (.lst xs)) : H' x = some (.lst xs) := by
  obtain ⟨n1, n2⟩ := h.not hx (fun _ _ _ z => nomatch z)
  exact k x _ hx n1 n2
theorem PSt.cmds {x : Addr} {cs : List Ue10.Cmd} (h : PSt CP CE H a ed m g e b) (k : Kp ed a H H') (hx : CmdsAt H x cs) : CmdsAt H' x cs := by
  obtain ⟨as, h1, h2⟩ := hx
  exact ⟨as, h.lst k h1, paired_imp (fun c y z => h.tup k z) h2⟩
theorem PSt.macs (h : PSt CP CE H a ed m g e b) (k : Kp ed a H H') : MacAt H' m g := by
  obtain ⟨ms, h1, h2⟩ := h.mac
  exact ⟨ms, h.lst k h1, paired_imp (fun c y z => h.cmds k z) h2⟩
theorem PSt.keys {kvs : List En} (h : PSt CP CE H a ed m g e b) (k : Kp ed a H H') (hx : KeysAt H kvs) : KeysAt H' kvs := hx.keep fun c xs z => h.tup k z
theorem PSt.nd {P : Program} {w : World} {d : Addr} {kvs : List En} (h : PSt CP CE H a ed m g e b) (k : Kp ed a H H') (hx : H d = some (nd P w d kvs)) : H' d = some (nd P w d kvs) := by
  obtain ⟨n1, n2⟩ := h.not hx (fun C dx fs z => by
    have z' : HO.ext _ = HO.ins C dx fs := z
    cases z')
  exact k d _ hx n1 n2
theorem RzK.kp (r : RzK K cR n ed a H E) (h : PSt CP CE H a ed m g e b) {e' : Ed} {b' : Left} {g' : List (List Ue10.Cmd)} (h' : PSt CP CE H' a ed m g' e' b') (k : Kp ed a H H') : RzK K cR n ed a H' E := fun C d H2 rf k2 nd hd =>
  r C d H2 rf (k.trans k2) (kp_none h h'.some_e h'.some_a k nd) hd
end
/-- what a def of the player may do, the specification answering x -/
structure PK (CP CE : Addr) (K : PySem.W.Frag) (cR a ed m : Addr) (g : List (List Ue10.Cmd)) (H : Hp) (Q : VK) (E : XK) (x : Out × Left) : Prop where
  ok : ∀ e' H', x.1 = .ok e' → Kp ed a H H' → PSt CP CE H' a ed m g e' x.2 → Q (.bl true) H'
  no : ∀ e' H', x.1 = .failed e' → Kp ed a H H' → PSt CP CE H' a ed m g e' x.2 → Q (.bl false) H'
  nv : x.1 = .endless → RzK K cR (-9) ed a H E
  tm : x.1 = .over → RzK K cR (-8) ed a H E
theorem Rz.ofK {K : PySem.W.Frag} {cR : Addr} {n : Int} {ed a : Addr} {H : Hp} {E : XK} (r : RzK K cR n ed a H E) : ∀ C d H', RfC K cR C → Same H H' → H d = none → H' d = some (.xd (numF n)) → E (.ref C) (some d) H' := fun C d H' rf s nd hd => r C d H' rf (same_kp s) nd hd

theorem does_ok {e e' : Ed} {c : Ue10.Cmd} (o : EOk e) (h : does e c = some e') : EOk e' := by
  have hp := o.pl
  have hs := o.sz
  have ins : ∀ b, Ue10.put e b = some e' → EOk e' := by
    intro b h
    unfold Ue10.put Ue10.LONG at h
    by_cases z : 60 ≤ e.text.length
    · rw [if_pos z] at h
      cases h
    · rw [if_neg z] at h
      cases h
      constructor
      · show e.at_ + 1 ≤ (e.text.take e.at_ ++ b :: e.text.drop e.at_).length
        rw [List.length_append, List.length_take, List.length_cons, List.length_drop]
        omega
      · show (e.text.take e.at_ ++ b :: e.text.drop e.at_).length ≤ 60
        rw [List.length_append, List.length_take, List.length_cons, List.length_drop]
        omega
  cases c with
  | insert b => exact ins b h
  | left =>
    have h : (if e.at_ = 0 then none else some { e with at_ := e.at_ - 1 }) = some e' := h
    by_cases z : e.at_ = 0
    · rw [if_pos z] at h
      cases h
    · rw [if_neg z] at h
      cases h
      exact ⟨by show e.at_ - 1 ≤ e.text.length; omega, hs⟩
  | right =>
    have h : (if e.text.length ≤ e.at_ then none else some { e with at_ := e.at_ + 1 }) = some e' := h
    by_cases z : e.text.length ≤ e.at_
    · rw [if_pos z] at h
      cases h
    · rw [if_neg z] at h
      cases h
      exact ⟨by show e.at_ + 1 ≤ e.text.length; omega, hs⟩
  | delete =>
    have h : (if e.text.length ≤ e.at_ then none else some { e with text := e.text.take e.at_ ++ e.text.drop (e.at_ + 1) }) = some e' := h
    by_cases z : e.text.length ≤ e.at_
    · rw [if_pos z] at h
      cases h
    · rw [if_neg z] at h
      cases h
      constructor
      · show e.at_ ≤ (e.text.take e.at_ ++ e.text.drop (e.at_ + 1)).length
        rw [List.length_append, List.length_take, List.length_drop]
        omega
      · show (e.text.take e.at_ ++ e.text.drop (e.at_ + 1)).length ≤ 60
        rw [List.length_append, List.length_take, List.length_drop]
        omega
  | find b =>
    have h : ((e.text.drop (e.at_ + 1)).findIdx? fun c => c == b).map (fun k => { e with at_ := e.at_ + 1 + k }) = some e' := h
    obtain ⟨k, hk, rfl⟩ := Option.map_eq_some_iff.mp h
    have := (List.findIdx?_eq_some_iff_findIdx_eq.mp hk).1
    rw [List.length_drop] at this
    exact ⟨by show e.at_ + 1 + k ≤ e.text.length; omega, hs⟩
  | back b =>
    have h : ((e.text.take e.at_).reverse.findIdx? fun c => c == b).map (fun k => { e with at_ := e.at_ - 1 - k }) = some e' := h
    obtain ⟨k, hk, rfl⟩ := Option.map_eq_some_iff.mp h
    exact ⟨by show e.at_ - 1 - k ≤ e.text.length; omega, hs⟩
  | home =>
    cases h
    exact ⟨Nat.zero_le _, hs⟩
  | end_ =>
    cases h
    exact ⟨Nat.le_refl _, hs⟩
  | swap =>
    match q : e.text.drop e.at_ with
    | [] =>
      have h : (match e.text.drop e.at_ with | a :: b :: l => some { e with text := e.text.take e.at_ ++ (b :: a :: l) } | _ => none) = some e' := h
      rw [q] at h
      cases h
    | [_] =>
      have h : (match e.text.drop e.at_ with | a :: b :: l => some { e with text := e.text.take e.at_ ++ (b :: a :: l) } | _ => none) = some e' := h
      rw [q] at h
      cases h
    | x :: y :: l =>
      have h : (match e.text.drop e.at_ with | a :: b :: l => some { e with text := e.text.take e.at_ ++ (b :: a :: l) } | _ => none) = some e' := h
      rw [q] at h
      cases h
      have hl : (e.text.drop e.at_).length = l.length + 2 := by
        rw [q]
        rfl
      rw [List.length_drop] at hl
      constructor
      · show e.at_ ≤ (e.text.take e.at_ ++ y :: x :: l).length
        rw [List.length_append, List.length_take, List.length_cons, List.length_cons]
        omega
      · show (e.text.take e.at_ ++ y :: x :: l).length ≤ 60
        rw [List.length_append, List.length_take, List.length_cons, List.length_cons]
        omega
  | is_ b =>
    have h : (if e.text[e.at_]? = some b then some e else none) = some e' := h
    by_cases z : e.text[e.at_]? = some b
    · rw [if_pos z] at h
      cases h
      exact o
    · rw [if_neg z] at h
      cases h
  | isnt b =>
    have h : (if e.text[e.at_]? = some b then none else some e) = some e' := h
    by_cases z : e.text[e.at_]? = some b
    · rw [if_pos z] at h
      cases h
    · rw [if_neg z] at h
      cases h
      exact o
  | hold =>
    have h : (e.text[e.at_]?).map (fun b => { e with held := some b }) = some e' := h
    obtain ⟨k, hk, rfl⟩ := Option.map_eq_some_iff.mp h
    exact ⟨hp, hs⟩
  | put =>
    have h : (e.held.bind fun b => Ue10.put e b) = some e' := h
    obtain ⟨b, hb, h⟩ := Option.bind_eq_some_iff.mp h
    exact ins b h
  | play r => cases h
  | times r n => cases h
  | until_ r => cases h
/-- a plain command, counted -/
def counted (c : Ue10.Cmd) (e : Ed) (b : Left) : Out × Left := if b.plain = 0 then (.over, b) else match does e c with
  | none => (.failed e, ⟨b.plain - 1, b.plays⟩)
  | some d => (.ok d, ⟨b.plain - 1, b.plays⟩)
def spPyInit (CP : Addr) : Sp := fun vs H Q _ => ∃ (a dx ed m : Addr), vs = [.ref a, .ref ed, .ref m] ∧ H a = some (.ins CP dx []) ∧ ∀ H', Keeps a H H' → PlAt CP H' a ed m Ue10.FULL → Q .non H'
def spCounted (CP CE : Addr) (K : PySem.W.Frag) (cR : Addr) : Sp := fun vs H Q E => ∃ (a c ed m : Addr) (g : List (List Ue10.Cmd)) (e : Ed) (b : Left) (x : Ue10.Cmd), vs = [.ref a, .ref c] ∧ PSt CP CE H a ed m g e b ∧ CmdAt H c x ∧ isPl x = true ∧
  PK CP CE K cR a ed m g H Q E (counted x e b)
section
variable {P : Program} {w : World} {K : PySem.W.Frag} {mg : Str → Option Value} {base : Heap} {CP CE cR f : Addr}
theorem ok_py_init (D : Df K "__init__" "Player.__init__" s_Player_init ["self", "editor", "macros"] f) (Y : PyC K CP) : Cb P w K mg base CX0 1 f ["self", "editor", "macros"] (spPyInit CP) := by
  refine D.ok sc_Player_init (fun vs H Q _ h => ?_) (fun cdv A outer s H vs Q _ hr h => ?_)
  · obtain ⟨a, dx, ed, m, rfl, _⟩ := h
    rfl
  · refine ⟨_, pss_cons (ps_fld (pv 0) (pv 1) rfl) (pss_cons (ps_fld (pv 0) (pv 2) rfl) (pss_cons (ps_fld (pv 0) pe_int rfl) (pss_one (ps_fld (pv 0) pe_int rfl)))), ?_⟩
    obtain ⟨a, dx, ed, m, rfl, ha, k⟩ := h
    refine ⟨_, rfl, _, rfl, a, CP, dx, _, rfl, ha, Y.cl, Y.nE, (by show 0 < 1000; decide), ?_⟩
    refine ⟨_, rfl, _, rfl, a, CP, dx, _, rfl, upd_same, Y.cl, Y.nM, (by show 1 < 1000; decide), ?_⟩
    refine ⟨_, rfl, a, CP, dx, _, rfl, upd_same, Y.cl, Y.nC, (by show 2 < 1000; decide), ?_⟩
    refine ⟨_, rfl, a, CP, dx, _, rfl, upd_same, Y.cl, Y.nY, (by show 3 < 1000; decide), ?_⟩
    refine k _ Keeps.refl.upd.upd.upd.upd ⟨dx, ?_⟩
    rw [upd_same]
    refine congrArg (fun q => some (HO.ins CP dx q)) ?_
    have h1 : putF "macros" (.ref m) ([(("editor" : Str), V.ref ed)] : List (Str × V)) = ([(("editor" : Str), V.ref ed), (("macros" : Str), V.ref m)] : List (Str × V)) := (pt1 (by decide +kernel)).trans rfl
    have h2 : putF "plain_count" (.int 0) ([(("editor" : Str), V.ref ed), (("macros" : Str), V.ref m)] : List (Str × V)) = ([(("editor" : Str), V.ref ed), (("macros" : Str), V.ref m), (("plain_count" : Str), V.int 0)] : List (Str × V)) :=
      (pt1 (by decide +kernel)).trans (congrArg _ ((pt1 (by decide +kernel)).trans rfl))
    show putF "playing_count" (.int 0) (putF "plain_count" (.int 0) (putF "macros" (.ref m) ([(("editor" : Str), V.ref ed)] : List (Str × V)))) = _
    rw [h1, h2]
    exact (pt1 (by decide +kernel)).trans (congrArg _ ((pt1 (by decide +kernel)).trans (congrArg _ ((pt1 (by decide +kernel)).trans rfl))))
theorem ok_counted {fp : Addr} {t1 : Tok} (D : Df K "do_counted" "Player.do_counted" s_Player_do_counted ["self", "command"] f) (Y : PyC K CP) (g1 : mg "MOST_PLAIN" = some (.int 20000 t1)) (R : RzT P w K mg base cR "TooMuch" (-8))
    (Cp : Cb P w K mg base CX0 3 fp ["editor", "command"] (spDoPl CE)) (gp : mg "do_plain" = some (.ref fp)) : Cb P w K mg base (L2.CX P w) 4 f ["self", "command"] (spCounted CP CE K cR) := by
  refine D.okX sc_Player_do_counted (fun vs H Q _ h => ?_) (fun cdv A outer s H vs Q E hr h => ?_)
  · obtain ⟨a, c, ed, m, g, e, b, x, rfl, _⟩ := h
    rfl
  · refine ⟨_, pss_cons (ps_if (pt_cmpR op_eq (pe_fld (pv 0) rfl) (pe_glob (v := .int 20000) rfl g1 ⟨_, rfl⟩) (nomark _)) (pss_one (ps_rz R hr (by decide) (by rfl) rfl (takes_of rfl rfl rfl rfl))) pss_nil)
      (pss_cons (ps_fldaug (pv 0) pe_int in_add) (pss_one (ps_ret (pe_cb Cp hr (by decide) (by rfl) gp (pa_cons (pe_fld (pv 0) rfl) (pa_cons (pv 1) pa_nil)))))), ?_⟩
    obtain ⟨a, c, ed, m, g, e, b, x, rfl, st, hc, hp, k⟩ := h
    obtain ⟨dx, ha⟩ := st.pl
    have hbc := st.bk.c
    refine ⟨_, rfl, _, _, _, _, _, rfl, ha, Y.cl, Y.nC, pF_c, rfl, _, rfl, ?_⟩
    by_cases z : b.plain = 0
    · refine ifT (decide_eq_true (congrArg V.int (by rw [z]; rfl))) ?_
      exact Rz.ofK (k.tm (by unfold counted; rw [if_pos z]))
    · refine ifF (decide_eq_false (fun q => z (by injection q with q; omega))) ?_
      refine ⟨_, rfl, _, _, _, _, _, rfl, ha, Y.cl, Y.nC, pF_c, _, _, rfl, rfl, dx, _, ha, pF_len, ?_⟩
      rw [pF_put_c (b := b) (b' := ⟨b.plain - 1, b.plays⟩) (by show (20000 - (b.plain : Int)) + 1 = 20000 - ((b.plain - 1 : Nat) : Int); omega) rfl]
      have hne := ed_ne st
      have kA : Keeps a H (upd H a (.ins CP dx (pF ed m ⟨b.plain - 1, b.plays⟩))) := Keeps.refl.upd
      have hed : EdAt CE (upd H a (.ins CP dx (pF ed m ⟨b.plain - 1, b.plays⟩))) ed e := by
        obtain ⟨dx2, t, h2, h3⟩ := st.ed
        exact ⟨dx2, t, (upd_ne hne).trans h2, st.tup kA.kpA h3⟩
      refine ⟨_, rfl, _, _, _, _, _, rfl, upd_same, Y.cl, Y.nE, pF_e, _, rfl, ed, c, e, x, rfl, hed, st.ok, st.tup kA.kpA hc, hp, fun H' kE hE => ?_⟩
      have kk : Kp ed a H H' := kA.kpA.trans kE.kpE
      have hpl : PlAt CP H' a ed m ⟨b.plain - 1, b.plays⟩ := ⟨dx, kE _ _ upd_same (Ne.symm hne)⟩
      cases hd : does e x with
      | none =>
        rw [hd] at hE
        have ec : counted x e b = (.failed e, ⟨b.plain - 1, b.plays⟩) := by
          unfold counted
          rw [if_neg z, hd]
        have k' := k.no e H'
        rw [ec] at k'
        exact k' rfl kk ⟨hpl, hE, st.ok, st.macs kk, ⟨by show b.plain - 1 ≤ 20000; omega, st.bk.y⟩⟩
      | some d =>
        rw [hd] at hE
        have ec : counted x e b = (.ok d, ⟨b.plain - 1, b.plays⟩) := by
          unfold counted
          rw [if_neg z, hd]
        have k' := k.ok d H'
        rw [ec] at k'
        exact k' rfl kk ⟨hpl, hE, does_ok st.ok hd, st.macs kk, ⟨by show b.plain - 1 ≤ 20000; omega, st.bk.y⟩⟩
end
end Mp
/-! Rows of playings: the specification's walks, one turn at a time. -/
namespace Mp
open Ue10

theorem fi_none {S : List Ed} {e : Ed} (h : e ∉ S) : (S.findIdx? fun x => x == e) = none := by
  rw [List.findIdx?_eq_none_iff]
  intro x hx
  simpa using fun z : x = e => h (z ▸ hx)
theorem fi_some : ∀ {S : List Ed} {e : Ed} {k : Nat}, S.Nodup → S[k]? = some e → (S.findIdx? fun x => x == e) = some k
  | [], _, _, _, h => by simp at h
  | x :: S, e, 0, _, h => by
    simp at h
    subst h
    rw [List.findIdx?_cons]
    simp
  | x :: S, e, k + 1, nd, h => by
    have h' : S[k]? = some e := by simpa using h
    have hm : e ∈ S := List.mem_of_getElem? h'
    have hne : (x == e) = false := by
      simpa using fun z : x = e => (List.nodup_cons.mp nd).1 (z ▸ hm)
    rw [List.findIdx?_cons, hne, fi_some (List.nodup_cons.mp nd).2 h']
    rfl
section
variable {play : Player} {r n f : Nat} {S : List Ed} {e d : Ed} {b : Left}
/-- so many are done -/
theorem times_done (h : S.length = n) : timesFrom play r n (f + 1) S.reverse e b = (.ok e, b) := by
  unfold timesFrom
  rw [List.length_reverse, if_pos h]
/-- too many in a row -/
theorem times_over (h : S.length < n) (ne : e ∉ S) (hs : 1000 ≤ S.length) : timesFrom play r n (f + 1) S.reverse e b = (.over, b) := by
  unfold timesFrom
  rw [List.length_reverse, if_neg (by omega), List.reverse_reverse, fi_none ne]
  exact if_pos hs
/-- one more -/
theorem times_step (h : S.length < n) (ne : e ∉ S) (hs : S.length < 1000) : timesFrom play r n (f + 1) S.reverse e b = (match play r e b with
    | (.ok d, c) => timesFrom play r n f (S ++ [e]).reverse d c
    | x => x) := by
  rw [timesFrom.eq_def]
  dsimp only
  rw [List.length_reverse, if_neg (by omega), List.reverse_reverse, fi_none ne]
  dsimp only
  rw [if_neg (show ¬ STATES ≤ S.length by show ¬ 1000 ≤ S.length; omega), List.reverse_append]
  rfl
/-- it comes round -/
theorem times_round {k : Nat} {x : Ed} (nd : S.Nodup) (hk : S[k]? = some d) (hn : S.length ≤ n) (hx : S[k + (n - k) % (S.length - k)]? = some x) : timesFrom play r n (f + 1) S.reverse d b = (.ok x, b) := by
  have hkl := (List.getElem?_eq_some_iff.mp hk).1
  by_cases h : S.length = n
  · rw [times_done h]
    rw [← h, Nat.mod_self, Nat.add_zero, hk] at hx
    cases hx
    rfl
  · rw [timesFrom.eq_def]
    dsimp only
    rw [List.length_reverse, if_neg h, List.reverse_reverse, fi_some nd hk]
    dsimp only
    rw [hx]
    rfl
theorem round_lt {k : Nat} (hk : k < S.length) : k + (n - k) % (S.length - k) < S.length := by
  have := Nat.mod_lt (n - k) (show 0 < S.length - k by omega)
  omega
theorem head_rev_append : (S ++ [e]).reverse.head? = some e := by
  rw [List.reverse_append]
  rfl
theorem until_over (ne : e ∉ S) (hs : 1000 ≤ S.length) : untilFrom play r (f + 1) S.reverse e b = (.over, b) := by
  have h1 : ¬ S.reverse.head? = some e := fun z => ne (List.mem_reverse.mp (List.mem_of_mem_head? z))
  have h2 : ¬ S.reverse.contains e = true := fun z => ne (List.mem_reverse.mp (List.contains_iff_mem.mp z))
  unfold untilFrom
  rw [if_neg h1, if_neg h2, List.length_reverse]
  exact if_pos hs
theorem until_step (ne : e ∉ S) (hs : S.length < 1000) : untilFrom play r (f + 1) S.reverse e b = (match play r e b with
    | (.ok d, c) => untilFrom play r f (S ++ [e]).reverse d c
    | (.failed d, c) => (.ok d, c)
    | x => x) := by
  have h1 : ¬ S.reverse.head? = some e := fun z => ne (List.mem_reverse.mp (List.mem_of_mem_head? z))
  have h2 : ¬ S.reverse.contains e = true := fun z => ne (List.mem_reverse.mp (List.contains_iff_mem.mp z))
  rw [untilFrom.eq_def]
  dsimp only
  rw [if_neg h1, if_neg h2, List.length_reverse, if_neg (show ¬ STATES ≤ S.length by show ¬ 1000 ≤ S.length; omega), List.reverse_append]
  rfl
/-- as it was -/
theorem until_same : untilFrom play r (f + 1) (S ++ [e]).reverse e b = (.ok e, b) := by
  unfold untilFrom
  rw [if_pos head_rev_append]
/-- as it was before, but not right before -/
theorem until_round (ne : d ≠ e) (h : d ∈ S ++ [e]) : untilFrom play r (f + 1) (S ++ [e]).reverse d b = (.endless, b) := by
  have h1 : ¬ (S ++ [e]).reverse.head? = some d := fun z => by
    rw [head_rev_append] at z
    exact ne (Option.some.inj z).symm
  have h2 : (S ++ [e]).reverse.contains d = true := List.contains_iff_mem.mpr (List.mem_reverse.mpr h)
  unfold untilFrom
  rw [if_neg h1, if_pos h2]
theorem per_over (ne : e ∉ S) (hs : 1000 ≤ S.length) : periodFrom play r (f + 1) S.reverse e b = [-8] := by
  unfold periodFrom
  rw [List.length_reverse, List.reverse_reverse, fi_none ne]
  exact if_pos hs
theorem per_step (ne : e ∉ S) (hs : S.length < 1000) : periodFrom play r (f + 1) S.reverse e b = (match play r e b with
    | (.ok d, c) => periodFrom play r f (S ++ [e]).reverse d c
    | (.failed _, _) => Ue10.ints [1, S.length]
    | (.endless, _) => [-9]
    | (.over, _) => [-8]) := by
  rw [periodFrom.eq_def]
  dsimp only
  rw [List.length_reverse, List.reverse_reverse, fi_none ne]
  dsimp only
  rw [if_neg (show ¬ STATES ≤ S.length by show ¬ 1000 ≤ S.length; omega), List.reverse_append]
  rfl
theorem per_round {k : Nat} (nd : S.Nodup) (hk : S[k]? = some d) : periodFrom play r (f + 1) S.reverse d b = Ue10.ints [0, k, S.length - k] := by
  rw [periodFrom.eq_def]
  dsimp only
  rw [List.length_reverse, List.reverse_reverse, fi_some nd hk]
end
/-- one command of a row -/
def oneCmd (play : Player) (c : Cmd) (e : Ed) (b : Left) : Out × Left := match c with
  | .play r => play r e b
  | .times r n => timesFrom play r n (STATES + 2) [] e b
  | .until_ r => untilFrom play r (STATES + 2) [] e b
  | c => if b.plain = 0 then (.over, b) else match does e c with
    | none => (.failed e, ⟨b.plain - 1, b.plays⟩)
    | some d => (.ok d, ⟨b.plain - 1, b.plays⟩)
theorem runs_cons {play : Player} {c : Cmd} {l : List Cmd} {e : Ed} {b : Left} : runs play (c :: l) e b = (match oneCmd play c e b with
    | (.ok d, n) => runs play l d n
    | y => y) := by
  cases c <;> rfl
end Mp
namespace Mp
open PySem PySem.Spec PyProof.Rows L2
open Ue10 (does plays runs timesFrom untilFrom)

theorem hdI_inj {a b : Option Nat} (h : hdI a = hdI b) : a = b := by
  cases a with
  | none =>
    cases b with
    | none => rfl
    | some y =>
      have h : (0 : Int) = (y : Int) + 1 := h
      omega
  | some x =>
    cases b with
    | none =>
      have h : (x : Int) + 1 = 0 := h
      omega
    | some y =>
      have h : (x : Int) + 1 = (y : Int) + 1 := h
      have : x = y := by omega
      rw [this]
theorem cast_inj : ∀ {a b : List Nat}, a.map (fun (n : Nat) => (n : Int)) = b.map (fun (n : Nat) => (n : Int)) → a = b
  | [], [], _ => rfl
  | [], _ :: _, h => by simp at h
  | _ :: _, [], h => by simp at h
  | x :: a, y :: b, h => by
    rw [List.map_cons, List.map_cons] at h
    injection h with h1 h2
    have : x = y := by omega
    rw [this, cast_inj h2]
theorem ek_inj {a b : Ed} (h : ek a = ek b) : a = b := by
  obtain ⟨t, p, q⟩ := a
  obtain ⟨t', p', q'⟩ := b
  unfold ek at h
  injection h with h1 h2 h3
  have e1 := cast_inj h1
  have e2 : p = p' := by
    have : (p : Int) = (p' : Int) := h2
    omega
  have e3 := hdI_inj h3
  subst e1 e2 e3
  rfl
/-- the entries of seen: the states in their order, each with how many playings were ahead of it -/
def TD : Nat → List En → List Ed → Prop
  | _, [], [] => True
  | k, x :: kvs, e :: S => x.1 = ek e ∧ x.2.2 = .int (k : Int) ∧ TD (k + 1) kvs S
  | _, _, _ => False
theorem TD.keys : ∀ {k : Nat} {kvs : List En} {S : List Ed}, TD k kvs S → kvs.map (·.1) = S.map ek
  | _, [], [], _ => rfl
  | _, _ :: _, _ :: _, h => by
    rw [List.map_cons, List.map_cons, h.1, TD.keys h.2.2]
theorem TD.len {k : Nat} {kvs : List En} {S : List Ed} (h : TD k kvs S) : kvs.length = S.length := by
  have z := congrArg List.length h.keys
  rw [List.length_map, List.length_map] at z
  exact z
theorem TD.val {d : Ed} : ∀ {k : Nat} {kvs : List En} {S : List Ed}, TD k kvs S → valN kvs (ek d) = (S.findIdx? fun x => x == d).map fun i => V.int ((k + i : Nat) : Int)
  | _, [], [], _ => rfl
  | k, x :: kvs, e :: S, h => by
    unfold valN
    rw [List.find?_cons, List.findIdx?_cons]
    by_cases z : e = d
    · subst z
      rw [decide_eq_true h.1]
      have q : (e == e) = true := by simp
      rw [q]
      show some x.2.2 = some (V.int ((k + 0 : Nat) : Int))
      rw [h.2.1]
      rfl
    · have z1 : ¬ x.1 = ek d := fun q => z (ek_inj (h.1.symm.trans q))
      have z2 : (e == d) = false := by simpa using z
      rw [decide_eq_false z1, z2]
      have ih := TD.val (d := d) h.2.2
      unfold valN at ih
      dsimp only
      rw [ih]
      show _ = ((S.findIdx? fun x => x == d).map fun i => i + 1).map _
      rw [Option.map_map]
      congr 1
      funext i
      show V.int ((k + 1 + i : Nat) : Int) = V.int ((k + (i + 1) : Nat) : Int)
      rw [Nat.add_assoc, Nat.add_comm 1 i]
theorem TD.snoc {e : Ed} {a : Addr} : ∀ {k : Nat} {kvs : List En} {S : List Ed}, TD k kvs S → TD k (kvs ++ [(ek e, a, .int ((k + S.length : Nat) : Int))]) (S ++ [e])
  | k, [], [], _ => ⟨rfl, rfl, trivial⟩
  | k, x :: kvs, y :: S, h => by
    have ih := TD.snoc (e := e) (a := a) h.2.2
    refine ⟨h.1, h.2.1, ?_⟩
    have q : k + (y :: S).length = k + 1 + S.length := by
      rw [List.length_cons]
      omega
    rw [q]
    exact ih
theorem keys_mem {kvs : List En} {S : List Ed} (h : kvs.map (·.1) = S.map ek) (d : Ed) : (valN kvs (ek d)).isSome = decide (d ∈ S) := by
  rw [valN_isSome, h]
  by_cases z : d ∈ S
  · rw [decide_eq_true z, decide_eq_true (List.mem_map.mpr ⟨d, z, rfl⟩)]
  · rw [decide_eq_false z, decide_eq_false (fun q => by
      obtain ⟨x, hx, e⟩ := List.mem_map.mp q
      exact z (ek_inj e ▸ hx))]
theorem keys_get {H : Hp} {kvs : List En} {S : List Ed} (h : kvs.map (·.1) = S.map ek) (ka : KeysAt H kvs) {i : Nat} {x : Ed} (hx : S[i]? = some x) : ∃ a, (kvs.map fun x => V.ref x.2.1)[i]? = some (.ref a) ∧ StAt H a (ek x) := by
  have h1 : (kvs.map (·.1))[i]? = some (ek x) := by
    rw [h, List.getElem?_map, hx]
    rfl
  rw [List.getElem?_map] at h1
  obtain ⟨y, hy, e⟩ := Option.map_eq_some_iff.mp h1
  refine ⟨y.2.1, ?_, ?_⟩
  · rw [List.getElem?_map, hy]
    rfl
  · rw [← e]
    exact ka y (List.mem_of_getElem? hy)

/-! ### promises -/
def dep (d : Nat) : V := .int (6 - (d : Int))
def spPlay (CP CE : Addr) (K : PySem.W.Frag) (cR : Addr) (d : Nat) : Sp := fun vs H Q E => ∃ (a ed m : Addr) (g : List (List Ue10.Cmd)) (e : Ed) (b : Left) (r : Nat), vs = [.ref a, .int (r : Int), dep d] ∧ r < 10 ∧ GOk g ∧ PSt CP CE H a ed m g e b ∧
  PK CP CE K cR a ed m g H Q E (plays g d r e b)
def spNext (P : Program) (w : World) (CP CE : Addr) (K : PySem.W.Frag) (cR : Addr) (d : Nat) : Sp := fun vs H Q E => ∃ (a ed m : Addr) (g : List (List Ue10.Cmd)) (e : Ed) (b : Left) (r : Nat) (s : Addr) (kvs : List En), vs = [.ref a, .int (r : Int), dep d, .ref s] ∧ r < 10 ∧ GOk g ∧
  PSt CP CE H a ed m g e b ∧ H s = some (nd P w s kvs) ∧ KeysAt H kvs ∧ PK CP CE K cR a ed m g H Q E (if 1000 < kvs.length then (.over, b) else plays g d r e b)
def spTimes (CP CE : Addr) (K : PySem.W.Frag) (cR : Addr) (d : Nat) : Sp := fun vs H Q E => ∃ (a ed m : Addr) (g : List (List Ue10.Cmd)) (e : Ed) (b : Left) (r n : Nat), vs = [.ref a, .int (r : Int), .int (n : Int), dep d] ∧ r < 10 ∧ GOk g ∧ PSt CP CE H a ed m g e b ∧
  PK CP CE K cR a ed m g H Q E (timesFrom (plays g d) r n 1002 [] e b)
def spUntil (CP CE : Addr) (K : PySem.W.Frag) (cR : Addr) (d : Nat) : Sp := fun vs H Q E => ∃ (a ed m : Addr) (g : List (List Ue10.Cmd)) (e : Ed) (b : Left) (r : Nat), vs = [.ref a, .int (r : Int), dep d] ∧ r < 10 ∧ GOk g ∧ PSt CP CE H a ed m g e b ∧
  PK CP CE K cR a ed m g H Q E (untilFrom (plays g d) r 1002 [] e b)
def spCmd (CP CE : Addr) (K : PySem.W.Frag) (cR : Addr) (d : Nat) : Sp := fun vs H Q E => ∃ (a ed m : Addr) (g : List (List Ue10.Cmd)) (e : Ed) (b : Left) (c : Addr) (x : Ue10.Cmd), vs = [.ref a, .ref c, dep d] ∧ CmdAt H c x ∧ Ue10.cmdOk x = true ∧ GOk g ∧ PSt CP CE H a ed m g e b ∧
  PK CP CE K cR a ed m g H Q E (oneCmd (plays g d) x e b)
def spRow (CP CE : Addr) (K : PySem.W.Frag) (cR : Addr) (d : Nat) : Sp := fun vs H Q E => ∃ (a ed m : Addr) (g : List (List Ue10.Cmd)) (e : Ed) (b : Left) (l : Addr) (cs : List Ue10.Cmd), vs = [.ref a, .ref l, dep d] ∧ CmdsAt H l cs ∧ (∀ x ∈ cs, Ue10.cmdOk x = true) ∧ GOk g ∧ PSt CP CE H a ed m g e b ∧
  PK CP CE K cR a ed m g H Q E (runs (plays g d) cs e b)
def spBehind (P : Program) (w : World) : Sp := fun vs H Q _ => ∃ (n k : Nat) (s : Addr) (kvs : List En), vs = [.int (n : Int), .ref s, .int (k : Int)] ∧ H s = some (nd P w s kvs) ∧ KeysAt H kvs ∧ k < kvs.length ∧ k ≤ n ∧
  ∀ H' a, Same H H' → (kvs.map fun x => V.ref x.2.1)[k + (n - k) % (kvs.length - k)]? = some (.ref a) → Q (.ref a) H'
/-- no promise at all -/
def spNot : Sp := fun _ _ _ _ => False
section
variable {P : Program} {w : World} {K : PySem.W.Frag} {mg : Str → Option Value} {base : Heap} {CP CE cR f : Addr}
theorem cb_not {x qual : Str} {st : Stmt} {ps : List Str} {k : Nat} {CX : CXT} (D : Df K x qual st ps f) : Cb P w K mg base CX k f ps spNot := by
  obtain ⟨fd, F, b⟩ := D.ex
  exact ⟨fd, ⟨fun _ _ _ _ h => h.elim, fun _ _ _ _ _ _ _ _ _ _ _ _ _ h => h.elim⟩, b, F.kp⟩
theorem ok_behind (D : Df K "state_behind" "state_behind" s_state_behind ["times", "seen", "first"] f) (ml : mg "len" = none) (mli : mg "list" = none) : Cb P w K mg base CX0 1 f ["times", "seen", "first"] (spBehind P w) := by
  refine D.ok sc_state_behind (fun vs H Q _ h => ?_) (fun cdv A outer s H vs Q _ hr h => ?_)
  · obtain ⟨n, k, s, kvs, rfl, _⟩ := h
    rfl
  · refine ⟨_, pss_cons (ps_set (i := 3) sc_state_behind.nd rfl (Or.inl rfl) (pe_op op_sub (pe_callB call_nlen (by rfl) ml PySem.boot_len (pa_cons (pv 1) pa_nil)) (pv 2)))
      (pss_one (ps_ret (pe_ix ix_list (pe_callTy (call_nlist rfl) (by rfl) mli (by decide +kernel) (pa_cons (pv 1) pa_nil)) (pe_op op_add (pv 2) (pe_op op_mod (pe_op op_sub (pv 0) (pv 2)) (pv 3))) (fun _ _ => rfl)))), ?_⟩
    obtain ⟨n, k, s, kvs, rfl, hs, ka, hk, hn, q⟩ := h
    have hk0 := Nat.mod_lt (n - k) (show 0 < kvs.length - k by omega)
    have e1 : (k : Int) + ((n : Int) - (k : Int)) % ((kvs.length : Int) - (k : Int)) = ((k + (n - k) % (kvs.length - k) : Nat) : Int) := by
      have e2 : (n : Int) - (k : Int) = ((n - k : Nat) : Int) := by omega
      have e3 : (kvs.length : Int) - (k : Int) = ((kvs.length - k : Nat) : Int) := by omega
      rw [e2, e3, Int.natCast_add, Int.natCast_emod]
    obtain ⟨y, hy⟩ : ∃ y, kvs[k + (n - k) % (kvs.length - k)]? = some y := ⟨_, List.getElem?_eq_getElem (by omega)⟩
    have hy2 : (kvs.map fun x => V.ref x.2.1)[k + (n - k) % (kvs.length - k)]? = some (.ref y.2.1) := by
      rw [List.getElem?_map, hy]
      rfl
    refine ⟨_, rfl, s, kvs, rfl, hs, ka, _, rfl, _, _, rfl, rfl, ?_⟩
    refine ⟨_, rfl, s, kvs, rfl, hs, fun p np => ?_⟩
    refine ⟨_, rfl, _, rfl, _, rfl, _, _, rfl, rfl, _, rfl, _, _, rfl, rfl, (by show (0 : Int) < (kvs.length : Int) - (k : Int); omega), _, _, rfl, rfl, p, _, _, _, rfl, rfl, SqL.of upd_same, ?_, q _ y.2.1 (same_new np) hy2⟩
    rw [e1]
    exact atI_nat hy2
theorem ok_play {fr : Addr} {t1 t2 : Tok} {d k : Nat} {spR : Sp} (D : Df K "play" "Player.play" s_Player_play ["self", "slot", "depth"] f) (Y : PyC K CP) (g1 : mg "MOST_DEEP" = some (.int 6 t1)) (g2 : mg "MOST_PLAYINGS" = some (.int 20000 t2)) (R : RzT P w K mg base cR "TooMuch" (-8))
    (Cr : Cb P w K mg base (L2.CX P w) (k + 3) fr ["self", "commands", "depth"] spR) (mr : Meth K CP "do_row" fr) (hd : d ≤ 6) (hR : ∀ d', d = d' + 1 → spR = spRow CP CE K cR d') : Cb P w K mg base (L2.CX P w) (k + 4) f ["self", "slot", "depth"] (spPlay CP CE K cR d) := by
  refine D.okX sc_Player_play (fun vs H Q _ h => ?_) (fun cdv A outer s H vs Q E hr h => ?_)
  · obtain ⟨a, ed, m, g, e, b, r, rfl, _⟩ := h
    rfl
  · refine ⟨_, pss_cons (ps_if (pt_cmpR op_eq (pv 2) (pe_glob (v := .int 6) rfl g1 ⟨_, rfl⟩) (nomark _)) (pss_one (ps_ret pe_bl)) pss_nil)
      (pss_cons (ps_if (pt_cmpR op_eq (pe_fld (pv 0) rfl) (pe_glob (v := .int 20000) rfl g2 ⟨_, rfl⟩) (nomark _)) (pss_one (ps_rz R hr (by omega) (by rfl) rfl (takes_of rfl rfl rfl rfl))) pss_nil)
      (pss_cons (ps_fldaug (pv 0) pe_int in_add)
      (pss_one (ps_ret (pe_mbX Cr Y.cl mr hr (by omega) (takes_of rfl rfl rfl rfl) (pv 0) (pa_cons (pe_ix ix_list (pe_fld (pv 0) rfl) (pv 1) (fun _ _ => rfl)) (pa_cons (pe_op op_add (pv 2) pe_int) pa_nil))))))), ?_⟩
    obtain ⟨a, ed, m, g, e, b, r, rfl, hr10, gok, st, k0⟩ := h
    obtain ⟨dx, ha⟩ := st.pl
    have hby := st.bk.y
    refine ⟨_, rfl, rfl, _, rfl, ?_⟩
    cases d with
    | zero =>
      refine ifT rfl ?_
      exact k0.no e H rfl Kp.refl st
    | succ d' =>
      refine ifF (decide_eq_false (fun q => by injection q with q; have q : (6 : Int) - ((d' + 1 : Nat) : Int) = 6 := q; omega)) ?_
      have hsp := hR d' rfl
      subst hsp
      have ep : plays g (d' + 1) r e b = if b.plays = 0 then (.over, b) else runs (plays g d') (g.getD r []) e ⟨b.plain, b.plays - 1⟩ := rfl
      rw [ep] at k0
      refine ⟨_, rfl, _, _, _, _, _, rfl, ha, Y.cl, Y.nY, pF_y, rfl, _, rfl, ?_⟩
      by_cases z : b.plays = 0
      · refine ifT (decide_eq_true (congrArg V.int (by rw [z]; rfl))) ?_
        rw [if_pos z] at k0
        exact Rz.ofK (k0.tm rfl)
      · refine ifF (decide_eq_false (fun q => z (by injection q with q; omega))) ?_
        rw [if_neg z] at k0
        refine ⟨_, rfl, _, _, _, _, _, rfl, ha, Y.cl, Y.nY, pF_y, _, _, rfl, rfl, dx, _, ha, pF_len, ?_⟩
        rw [pF_put_y (b := b) (b' := ⟨b.plain, b.plays - 1⟩) (by show (20000 - (b.plays : Int)) + 1 = 20000 - ((b.plays - 1 : Nat) : Int); omega) rfl]
        have hne := ed_ne st
        have kA : Keeps a H (upd H a (.ins CP dx (pF ed m ⟨b.plain, b.plays - 1⟩))) := Keeps.refl.upd
        have hed : EdAt CE (upd H a (.ins CP dx (pF ed m ⟨b.plain, b.plays - 1⟩))) ed e := by
          obtain ⟨dx2, t, h2, h3⟩ := st.ed
          exact ⟨dx2, t, (upd_ne hne).trans h2, st.tup kA.kpA h3⟩
        have st1 : PSt CP CE (upd H a (.ins CP dx (pF ed m ⟨b.plain, b.plays - 1⟩))) a ed m g e ⟨b.plain, b.plays - 1⟩ := ⟨⟨dx, upd_same⟩, hed, st.ok, st.macs kA.kpA, ⟨st.bk.c, by show b.plays - 1 ≤ 20000; omega⟩⟩
        obtain ⟨ms, hm, hpr⟩ := st1.mac
        obtain ⟨cs, hcs⟩ : ∃ cs, g[r]? = some cs := ⟨_, List.getElem?_eq_getElem (by rw [gok.len]; exact hr10)⟩
        have hml : ms.length = g.length := Paired.length hpr
        obtain ⟨la, hla⟩ : ∃ la, ms[r]? = some la := ⟨_, List.getElem?_eq_getElem (by rw [hml, gok.len]; exact hr10)⟩
        obtain ⟨cs', hcs', hca⟩ := paired_get hpr hla
        rw [hcs] at hcs'
        cases hcs'
        have hg : g.getD r [] = cs := by
          rw [List.getD_eq_getElem?_getD, hcs]
          rfl
        rw [hg] at k0
        have hla2 : (ms.map V.ref)[r]? = some (.ref la) := by
          rw [List.getElem?_map, hla]
          rfl
        refine ⟨_, rfl, a, dx, _, rfl, upd_same, pF_no (by decide +kernel) (by decide +kernel) (by decide +kernel) (by decide +kernel), _, rfl, _, _, _, _, _, rfl, upd_same, Y.cl, Y.nM, pF_m, _, rfl, m, _, _, _, rfl, rfl, SqL.of hm, atI_nat hla2, _, rfl, _, _, rfl, rfl, ?_⟩
        refine ⟨a, ed, m, g, e, _, la, cs, ?_, hca, (gok.ok cs (List.mem_of_getElem? hcs)).2, gok, st1, ?_⟩
        · show [V.ref a, V.ref la, V.int (6 - ((d' + 1 : Nat) : Int) + 1)] = [V.ref a, V.ref la, V.int (6 - (d' : Int))]
          have : (6 : Int) - ((d' + 1 : Nat) : Int) + 1 = 6 - (d' : Int) := by omega
          rw [this]
        · exact ⟨fun e' H' h1 h2 h3 => k0.ok e' H' h1 (kA.kpA.trans h2) h3, fun e' H' h1 h2 h3 => k0.no e' H' h1 (kA.kpA.trans h2) h3, fun h1 => (k0.nv h1).kp st st1 kA.kpA, fun h1 => (k0.tm h1).kp st st1 kA.kpA⟩
theorem ok_next {fp : Addr} {t1 : Tok} {d k : Nat} (D : Df K "play_next" "Player.play_next" s_Player_play_next ["self", "slot", "depth", "seen"] f) (Y : PyC K CP) (ml : mg "len" = none) (g1 : mg "MOST_IN_A_ROW" = some (.int 1000 t1)) (R : RzT P w K mg base cR "TooMuch" (-8))
    (Cp : Cb P w K mg base (L2.CX P w) (k + 4) fp ["self", "slot", "depth"] (spPlay CP CE K cR d)) (mp : Meth K CP "play" fp) : Cb P w K mg base (L2.CX P w) (k + 5) f ["self", "slot", "depth", "seen"] (spNext P w CP CE K cR d) := by
  refine D.okX sc_Player_play_next (fun vs H Q _ h => ?_) (fun cdv A outer s H vs Q E hr h => ?_)
  · obtain ⟨a, ed, m, g, e, b, r, s, kvs, rfl, _⟩ := h
    rfl
  · refine ⟨_, pss_cons (ps_if (pt_cmpR op_gt (pe_callB call_nlen (by rfl) ml PySem.boot_len (pa_cons (pv 3) pa_nil)) (pe_glob (v := .int 1000) rfl g1 ⟨_, rfl⟩) (nomark _)) (pss_one (ps_rz R hr (by omega) (by rfl) rfl (takes_of rfl rfl rfl rfl))) pss_nil)
      (pss_one (ps_ret (pe_mbX Cp Y.cl mp hr (by omega) (takes_of rfl rfl rfl rfl) (pv 0) (pa_cons (pv 1) (pa_cons (pv 2) pa_nil))))), ?_⟩
    obtain ⟨a, ed, m, g, e, b, r, s, kvs, rfl, hr10, gok, st, hs, ka, k0⟩ := h
    obtain ⟨dx, ha⟩ := st.pl
    refine ⟨_, rfl, s, kvs, rfl, hs, ka, _, _, rfl, rfl, _, rfl, ?_⟩
    by_cases c : 1000 < kvs.length
    · rw [if_pos c] at k0
      refine ifT (decide_eq_true (by omega)) ?_
      exact Rz.ofK (k0.tm rfl)
    · rw [if_neg c] at k0
      refine ifF (decide_eq_false (by omega)) ?_
      exact ⟨_, rfl, a, dx, _, rfl, ha, pF_no (by decide +kernel) (by decide +kernel) (by decide +kernel) (by decide +kernel), _, rfl, _, rfl, a, ed, m, g, e, b, r, rfl, hr10, gok, st, k0⟩
end
end Mp
namespace Mp
open PySem PySem.Spec PyProof.Rows L2
open Ue10 (does plays runs timesFrom untilFrom)

theorem hu9 {k : Nat} {A : Around} (hr : Room k A) : A.units + 9 < cLine := by
  have := hr.un
  omega
theorem nd_ins {P : Program} {w : World} {d : Addr} {kvs : List En} {C dx : Addr} {fs : List (Str × V)} : nd P w d kvs ≠ .ins C dx fs := fun z => by
  have z' : HO.ext _ = HO.ins C dx fs := z
  cases z'
theorem nd_lst {P : Program} {w : World} {d : Addr} {kvs : List En} {xs : List V} : nd P w d kvs ≠ .lst xs := fun z => by
  have z' : HO.ext _ = HO.lst xs := z
  cases z'
section
variable {P : Program} {w : World} {CP CE : Addr} {H H' : Hp} {a ed m p : Addr} {g : List (List Ue10.Cmd)} {e : Ed} {b : Left}
theorem PSt.same (h : PSt CP CE H a ed m g e b) (s : Same H H') : PSt CP CE H' a ed m g e b := by
  obtain ⟨dx, h1⟩ := h.pl
  obtain ⟨dx2, t, h2, h3⟩ := h.ed
  exact ⟨⟨dx, s _ _ h1⟩, ⟨dx2, t, s _ _ h2, s _ _ h3⟩, h.ok, h.macs (same_kp s), h.bk⟩
/-- the dict at p changes -/
theorem PSt.butD (h : PSt CP CE H a ed m g e b) {kvs : List En} (hp : H p = some (Mp.nd P w p kvs)) (k : Keeps p H H') : PSt CP CE H' a ed m g e b := by
  obtain ⟨dx, h1⟩ := h.pl
  obtain ⟨dx2, t, h2, h3⟩ := h.ed
  have tu : ∀ {x : Addr} {xs : List V}, H x = some (.tup xs) → H' x = some (.tup xs) := fun {x xs} z => k x _ z (ne_of z hp (Ne.symm nd_tup))
  have ls : ∀ {x : Addr} {xs : List V}, H x = some (.lst xs) → H' x = some (.lst xs) := fun {x xs} z => k x _ z (ne_of z hp (Ne.symm nd_lst))
  refine ⟨⟨dx, k _ _ h1 (ne_of h1 hp (Ne.symm nd_ins))⟩, ⟨dx2, t, k _ _ h2 (ne_of h2 hp (Ne.symm nd_ins)), tu h3⟩, h.ok, ?_, h.bk⟩
  obtain ⟨ms, m1, m2⟩ := h.mac
  refine ⟨ms, ls m1, paired_imp (fun c y z => ?_) m2⟩
  obtain ⟨as, c1, c2⟩ := z
  exact ⟨as, ls c1, paired_imp (fun c y z => tu z) c2⟩
theorem keys_butD {kvs kvs' : List En} (hp : H p = some (nd P w p kvs)) (k : Keeps p H H') (ka : KeysAt H kvs') : KeysAt H' kvs' := ka.keep fun c xs z => k c _ z (ne_of z hp (Ne.symm nd_tup))
theorem st_butD {kvs : List En} {q : Addr} {x : Ek} (hp : H p = some (nd P w p kvs)) (k : Keeps p H H') (s : StAt H q x) : StAt H' q x := s.keep fun c xs z => k c _ z (ne_of z hp (Ne.symm nd_tup))
/-- .. and it is new since H0 -/
theorem Kp.butD {H0 : Hp} (h : Kp ed a H0 H) (np : H0 p = none) (k : Keeps p H H') : Kp ed a H0 H' := fun c o z n1 n2 => k c o (h c o z n1 n2) (ne_of_none z np)
end
/-- in play_times's loop, ahead of its test: S the states so far but the one that it stands at, x -/
structure TInv (P : Program) (w : World) (CP CE : Addr) (a ed m : Addr) (g : List (List Ue10.Cmd)) (p : Addr) (H : Hp) (d r n : Nat) (e : Ed) (b : Left) (S : List Ed) (x : Ed) (b1 : Left) (kvs : List En) (H1 : Hp) : Prop where
  kp : Kp ed a H H1
  st : PSt CP CE H1 a ed m g x b1
  hp : H1 p = some (Mp.nd P w p kvs)
  ka : KeysAt H1 kvs
  td : TD 0 kvs (S ++ [x])
  nod : (S ++ [x]).Nodup
  oks : ∀ y ∈ S ++ [x], EOk y
  hn : S.length ≤ n
  h1000 : S.length ≤ 1000
  eq : timesFrom (plays g d) r n 1002 [] e b = timesFrom (plays g d) r n (1001 - S.length + 1) S.reverse x b1
def sgT (a p : Addr) (r n d : Nat) (v : Option V) : L2.St := [some (.ref a), some (.int (r : Int)), some (.int (n : Int)), some (dep d), some (.ref p), v]
theorem nodup_snoc {S : List Ed} {x y : Ed} (h : (S ++ [x]).Nodup) (hy : y ∉ S ++ [x]) : (S ++ [x] ++ [y]).Nodup := by
  rw [List.nodup_append]
  refine ⟨h, by simp, fun u hu v hv z => ?_⟩
  rw [List.mem_singleton] at hv
  subst hv z
  exact hy hu
theorem not_mem_of_nodup {S : List Ed} {x : Ed} (h : (S ++ [x]).Nodup) : x ∉ S := fun z => by
  rw [List.nodup_append] at h
  exact h.2.2 x z x (List.mem_singleton.mpr rfl) rfl
section
variable {P : Program} {w : World} {K : PySem.W.Frag} {mg : Str → Option Value} {base : Heap} {CP CE cR f : Addr}
theorem ok_times {fn fs fr fb : Addr} {d k : Nat} (D : Df K "play_times" "Player.play_times" s_Player_play_times ["self", "slot", "times", "depth"] f) (Y : PyC K CP) (E : EdC K CE) (ml : mg "len" = none)
    (Cn : Cb P w K mg base (L2.CX P w) (k + 5) fn ["self", "slot", "depth", "seen"] (spNext P w CP CE K cR d)) (mn : Meth K CP "play_next" fn) (Cs : Cb P w K mg base CX0 1 fs ["self"] (spState CE)) (ms : Meth K CE "state" fs)
    (Cr : Cb P w K mg base CX0 1 fr ["self", "state"] (spRestore CE)) (mr : Meth K CE "restore" fr) (Cbh : Cb P w K mg base CX0 1 fb ["times", "seen", "first"] (spBehind P w)) (gb : mg "state_behind" = some (.ref fb)) :
    Cb P w K mg base (L2.CX P w) (k + 6) f ["self", "slot", "times", "depth"] (spTimes CP CE K cR d) := by
  refine D.okX sc_Player_play_times (fun vs H Q _ h => ?_) (fun cdv A outer s H vs Q EX hr h => ?_)
  · obtain ⟨a, ed, m, g, e, b, r, n, rfl, _⟩ := h
    rfl
  · refine ⟨_, pss_cons (ps_set (i := 4) sc_Player_play_times.nd rfl (Or.inl rfl) (pe_dispN (hu9 hr) (pe_mb0 Cs E.cl ms hr (by omega) (pe_fld (pv 0) rfl)) pe_int))
      (pss_cons (ps_while (passes_of rfl) (pt_cmpR op_le (pe_callB call_nlen (by rfl) ml PySem.boot_len (pa_cons (pv 4) pa_nil)) (pv 2) (nomark _))
        (pss_cons (ps_if (pt_not (pt_val (pe_mbX Cn Y.cl mn hr (by omega) (takes_of rfl rfl rfl rfl) (pv 0) (pa_cons (pv 1) (pa_cons (pv 3) (pa_cons (pv 4) pa_nil)))))) (pss_one (ps_ret pe_bl)) pss_nil)
        (pss_cons (ps_set (i := 5) sc_Player_play_times.nd rfl (Or.inl rfl) (pe_mb0 Cs E.cl ms hr (by omega) (pe_fld (pv 0) rfl)))
        (pss_cons (ps_if (pt_cmpR (op_nin (hu9 hr)) (pv 5) (pv 4) (by rfl)) (pss_cons (ps_expr (pe_mb Cr E.cl mr hr (by omega) (pe_fld (pv 0) rfl) (pa_cons (pe_cb Cbh hr (by omega) (by rfl) gb (pa_cons (pv 2) (pa_cons (pv 4) (pa_cons (pe_nget (hu9 hr) (pv 4) (pv 5) (fun _ _ => rfl)) pa_nil)))) pa_nil))) (pss_one (ps_ret pe_bl))) pss_nil)
        (pss_one (ps_asg (pe_callB call_nlen (by rfl) ml PySem.boot_len (pa_cons (pv 4) pa_nil)) (pg_sub (pv 4) (pv 5) (set_nd (hu9 hr)))))))))
      (pss_one (ps_ret pe_bl))), ?_⟩
    obtain ⟨a, ed, m, g, e, b, r, n, rfl, hr10, gok, st, k0⟩ := h
    intro p np
    have s1 : Same H (upd H p (nd P w p [])) := same_new np
    have st1 := st.same s1
    obtain ⟨dx, ha⟩ := st1.pl
    obtain ⟨dx2, t, he, ht⟩ := st1.ed
    refine ⟨_, rfl, _, _, _, _, _, rfl, ha, Y.cl, Y.nE, pF_e, ed, dx2, _, rfl, he, eF_no (by decide +kernel) (by decide +kernel) (by decide +kernel), ed, e, rfl, st1.ed, fun H2 q s2 nq hst => ⟨q, ek e, rfl, s2 _ _ upd_same, hst, ?_⟩⟩
    have hp2 : H2 p = some (nd P w p []) := s2 _ _ upd_same
    have kD : Keeps p H2 (upd H2 p (nd P w p [(ek e, q, .int 0)])) := Keeps.refl.upd
    have kp0 : Kp ed a H H2 := same_kp (same_trans s1 s2)
    refine ⟨fun mz σ H1 => ∃ S x b1 kvs v, mz = 1001 - S.length ∧ σ = sgT a p r n d v ∧ TInv P w CP CE a ed m g p H d r n e b S x b1 kvs H1, ⟨_, [], e, b, [(ek e, q, .int 0)], none, rfl, rfl, ?_⟩, ?_⟩
    · refine ⟨kp0.butD np kD, (st1.same s2).butD hp2 kD, upd_same, fun x hx => ?_, ⟨rfl, rfl, trivial⟩, by simp, fun y hy => ?_, Nat.zero_le _, Nat.zero_le _, rfl⟩
      · rw [List.mem_singleton] at hx
        subst hx
        exact st_butD hp2 kD hst
      · rw [List.nil_append, List.mem_singleton] at hy
        subst hy
        exact st.ok
    rintro mz σ H1 ⟨S, x, b1, kvs, v, rfl, rfl, I⟩
    have hlen : kvs.length = S.length + 1 := by
      rw [I.td.len, List.length_append]
      rfl
    have hxS := not_mem_of_nodup I.nod
    have hn1 := I.hn
    have h10 := I.h1000
    refine ⟨_, rfl, p, kvs, rfl, I.hp, I.ka, _, rfl, _, _, rfl, rfl, _, rfl, ?_⟩
    by_cases c : S.length = n
    · refine ifF (decide_eq_false (by omega)) ?_
      refine k0.ok x H1 ?_ I.kp ?_
      · rw [I.eq, times_done c]
      · rw [I.eq, times_done c]
        exact I.st
    · refine ifT (decide_eq_true (by omega)) ?_
      refine ⟨fun σ' H' => ∃ m', m' < 1001 - S.length ∧ ∃ S x b1 kvs v, m' = 1001 - S.length ∧ σ' = sgT a p r n d v ∧ TInv P w CP CE a ed m g p H d r n e b S x b1 kvs H', fun σ' H' z => z, ?_⟩
      obtain ⟨dx3, ha3⟩ := I.st.pl
      refine ⟨_, rfl, a, dx3, _, rfl, ha3, pF_no (by decide +kernel) (by decide +kernel) (by decide +kernel) (by decide +kernel), _, rfl, _, rfl, _, rfl, a, ed, m, g, x, b1, r, p, kvs, rfl, hr10, gok, I.st, I.hp, I.ka, ?_⟩
      by_cases c2 : S.length < 1000
      · rw [if_neg (by omega)]
        have heq := I.eq
        rw [times_step (by omega) hxS c2] at heq
        -- what the specification does with this playing
        cases hpl : plays g d r x b1 with
        | mk o b2 =>
          rw [hpl] at heq
          refine ⟨fun e' H2' h1 k1 st2 => ?_, fun e' H2' h1 k1 st2 => ?_, fun h1 => ?_, fun h1 => ?_⟩
          · have h1 : o = .ok e' := h1
            subst h1
            have heq : timesFrom (plays g d) r n 1002 [] e b = timesFrom (plays g d) r n (1001 - S.length) (S ++ [x]).reverse e' b2 := heq
            refine ⟨_, rfl, ifF rfl ?_⟩
            obtain ⟨dx4, ha4⟩ := st2.pl
            obtain ⟨dx5, t5, he5, ht5⟩ := st2.ed
            refine ⟨_, rfl, _, _, _, _, _, rfl, ha4, Y.cl, Y.nE, pF_e, ed, dx5, _, rfl, he5, eF_no (by decide +kernel) (by decide +kernel) (by decide +kernel), ed, e', rfl, st2.ed, fun H3 q3 s3 nq3 hst3 => ?_⟩
            have k3 : Kp ed a H1 H3 := k1.trans (same_kp s3)
            have st3 := st2.same s3
            have hp3 := I.st.nd k3 I.hp
            have ka3 := I.st.keys k3 I.ka
            refine ⟨_, rfl, _, rfl, q3, p, ek e', kvs, rfl, rfl, hp3, ka3, hst3, _, rfl, ?_⟩
            rw [keys_mem I.td.keys]
            by_cases c3 : e' ∈ S ++ [x]
            · refine ifT (decide_eq_true c3) ?_
              obtain ⟨kk, hkk⟩ := List.mem_iff_getElem?.mp c3
              have hkl := (List.getElem?_eq_some_iff.mp hkk).1
              have hsl : (S ++ [x]).length = S.length + 1 := by
                rw [List.length_append]
                rfl
              have hv : valN kvs (ek e') = some (.int (kk : Int)) := by
                rw [I.td.val, fi_some I.nod hkk]
                show some (V.int ((0 + kk : Nat) : Int)) = _
                rw [Nat.zero_add]
              obtain ⟨y, hy⟩ : ∃ y, (S ++ [x])[kk + (n - kk) % ((S ++ [x]).length - kk)]? = some y := ⟨_, List.getElem?_eq_getElem (round_lt hkl)⟩
              have e0 : 1001 - S.length = 1000 - S.length + 1 := by omega
              rw [e0, times_round I.nod hkk (by omega) hy] at heq
              obtain ⟨dx6, ha6⟩ := st3.pl
              obtain ⟨dx7, t7, he7, ht7⟩ := st3.ed
              refine ⟨_, rfl, _, _, _, _, _, rfl, ha6, Y.cl, Y.nE, pF_e, ed, dx7, _, rfl, he7, eF_no (by decide +kernel) (by decide +kernel) (by decide +kernel), _, rfl, _, rfl, _, rfl, _, rfl, p, q3, ek e', kvs, _, rfl, rfl, hp3, ka3, hst3, hv, n, kk, p, kvs, rfl, hp3, ka3, (by omega), (by omega), fun H4 ad s4 hget => ?_⟩
              obtain ⟨ad', h5, h6⟩ := keys_get I.td.keys ka3 hy
              rw [hlen] at hget
              rw [hsl] at h5
              rw [hget] at h5
              cases h5
              refine ⟨ed, ad, e', y, rfl, ?_, h6.keep (fun c xs z => s4 _ _ z), fun H5 k5 hE5 => ?_⟩
              · exact ⟨dx7, t7, s4 _ _ he7, s4 _ _ ht7⟩
              · have st4 := st3.same s4
                have k6 : Kp ed a H H5 := I.kp.trans (k3.trans ((same_kp s4).trans k5.kpE))
                refine k0.ok y H5 (by rw [heq]) k6 ?_
                rw [heq]
                obtain ⟨dx8, ha8⟩ := st4.pl
                refine ⟨⟨dx8, k5 _ _ ha8 (Ne.symm (ed_ne st4))⟩, hE5, ?_, st4.macs k5.kpE, st4.bk⟩
                -- y is one of the states that were seen
                exact I.oks y (List.mem_of_getElem? hy)
            · refine ifF (decide_eq_false c3) ?_
              have hv : valN kvs (ek e') = none := by
                have z := keys_mem I.td.keys e'
                rw [decide_eq_false c3] at z
                cases hq : valN kvs (ek e') with
                | none => rfl
                | some u =>
                  rw [hq] at z
                  cases z
              refine ⟨_, rfl, p, kvs, rfl, hp3, ka3, _, rfl, _, rfl, p, q3, ek e', kvs, rfl, rfl, hp3, ka3, hst3, hv, (by rw [hlen, sizeLine_eq]; omega), ?_⟩
              have kD3 : Keeps p H3 (upd H3 p (nd P w p (kvs ++ [(ek e', q3, .int ((kvs.length : Nat) : Int))]))) := Keeps.refl.upd
              have hsl : (S ++ [x]).length = S.length + 1 := by
                rw [List.length_append]
                rfl
              refine ⟨1001 - (S ++ [x]).length, by omega, S ++ [x], e', b2, _, some (.ref q3), rfl, rfl, ⟨(I.kp.trans k3).butD np kD3, st3.butD hp3 kD3, upd_same, fun y hy => ?_, ?_, nodup_snoc I.nod c3, fun y hy => ?_, by omega, by omega, ?_⟩⟩
              · rcases List.mem_append.mp hy with z | z
                · exact keys_butD hp3 kD3 ka3 y z
                · rw [List.mem_singleton] at z
                  subst z
                  exact st_butD hp3 kD3 hst3
              · have z := I.td.snoc (e := e') (a := q3)
                rw [Nat.zero_add, hsl, ← hlen] at z
                exact z
              · rcases List.mem_append.mp hy with z | z
                · exact I.oks y z
                · rw [List.mem_singleton] at z
                  subst z
                  exact st3.ok
              · rw [heq]
                have e0 : 1001 - (S ++ [x]).length + 1 = 1001 - S.length := by omega
                rw [e0]
          · have h1 : o = .failed e' := h1
            subst h1
            have heq : timesFrom (plays g d) r n 1002 [] e b = (.failed e', b2) := heq
            refine ⟨_, rfl, ifT rfl ?_⟩
            refine k0.no e' H2' (by rw [heq]) (I.kp.trans k1) ?_
            rw [heq]
            exact st2
          · have h1 : o = .endless := h1
            subst h1
            have heq : timesFrom (plays g d) r n 1002 [] e b = (.endless, b2) := heq
            exact (k0.nv (by rw [heq])).kp st I.st I.kp
          · have h1 : o = .over := h1
            subst h1
            have heq : timesFrom (plays g d) r n 1002 [] e b = (.over, b2) := heq
            exact (k0.tm (by rw [heq])).kp st I.st I.kp
      · rw [if_pos (by omega)]
        have heq := I.eq
        rw [times_over (by omega) hxS (by omega)] at heq
        refine ⟨fun e' H2' h1 => (nomatch h1), fun e' H2' h1 => (nomatch h1), fun h1 => (nomatch h1), fun _ => (k0.tm (by rw [heq])).kp st I.st I.kp⟩
end
end Mp
namespace Mp
open PySem PySem.Spec PyProof.Rows L2
open Ue10 (does plays runs timesFrom untilFrom)

/-! ### state == before -/
def Ek.dat (e : Ek) : PyData := .tuple [.tuple (e.text.map PyData.int), .int e.at_, .int e.held]
theorem ints_lay : ∀ l : List Int, PyData.canLayAll0 (l.map PyData.int) = true
  | [] => rfl
  | x :: l => by
    rw [List.map_cons, PyData.canLayAll0, ints_lay l]
    rfl
theorem ints_deep : ∀ l : List Int, PyData.depthAll (l.map PyData.int) = 0
  | [] => rfl
  | x :: l => by
    rw [List.map_cons, PyData.depthAll, ints_deep l]
    rfl
theorem Ek.shaped (e : Ek) : SeqAt.shaped e.dat = true := by
  unfold SeqAt.shaped Ek.dat
  simp only [PyData.canLay0, PyData.canLayAll0, ints_lay, PyData.depth, PyData.depthAll, ints_deep]
  decide
theorem ints_eqv : ∀ l m : List Int, PyData.eqvAll (l.map PyData.int) (m.map PyData.int) = decide (l = m)
  | [], [] => rfl
  | [], _ :: _ => rfl
  | _ :: _, [] => rfl
  | x :: l, y :: m => by
    rw [List.map_cons, List.map_cons, PyData.eqvAll, ints_eqv l m, PyData.eqv]
    by_cases h : x = y
    · subst h
      simp
    · simp [h]
theorem Ek.eqv (e f : Ek) : PyData.eqv e.dat f.dat = decide (e = f) := by
  obtain ⟨t, p, q⟩ := e
  obtain ⟨t', p', q'⟩ := f
  unfold Ek.dat
  simp only [PyData.eqv, PyData.eqvAll, ints_eqv, Bool.and_true]
  by_cases h1 : t = t'
  · by_cases h2 : p = p'
    · by_cases h3 : q = q'
      · subst h1 h2 h3
        simp
      · simp [h3]
    · simp [h2]
  · simp [h1]
theorem ints_dp {K : PySem.W.Frag} {H : Hp} : ∀ l : List Int, DpAll K H (l.map V.int) (l.map PyData.int)
  | [] => .nil
  | x :: l => .cons (.int x) (ints_dp l)
theorem StAt.dp {K : PySem.W.Frag} {H : Hp} {b : Addr} {e : Ek} (s : StAt H b e) : Dp K H (.ref b) e.dat := by
  obtain ⟨t, h1, h2⟩ := s
  exact .tup (SqT.of h1) (.cons (.tup (SqT.of h2) (ints_dp _)) (.cons (.int _) (.cons (.int _) .nil)))
theorem hu64 {k : Nat} {A : Around} (hr : Room k A) : A.units + 64 < cLine := by
  have := hr.un
  omega
/-- in play_until's loop, ahead of its test -/
structure UInv (P : Program) (w : World) (CP CE : Addr) (a ed m : Addr) (g : List (List Ue10.Cmd)) (p q : Addr) (H : Hp) (d r : Nat) (e : Ed) (b : Left) (S : List Ed) (x : Ed) (b1 : Left) (kvs : List En) (H1 : Hp) : Prop where
  kp : Kp ed a H H1
  st : PSt CP CE H1 a ed m g x b1
  hp : H1 p = some (Mp.nd P w p kvs)
  hq : StAt H1 q (ek x)
  ka : KeysAt H1 kvs
  td : kvs.map (·.1) = (S ++ [x]).map ek
  nod : (S ++ [x]).Nodup
  h1000 : S.length ≤ 1000
  eq : untilFrom (plays g d) r 1002 [] e b = untilFrom (plays g d) r (1001 - S.length + 1) S.reverse x b1
def sgU (a p q : Addr) (r d : Nat) (v : Option V) : L2.St := [some (.ref a), some (.int (r : Int)), some (dep d), some (.ref q), some (.ref p), v]
section
variable {P : Program} {w : World} {K : PySem.W.Frag} {mg : Str → Option Value} {base : Heap} {CP CE cR f : Addr}
theorem ok_until {fn fs : Addr} {d k : Nat} (D : Df K "play_until" "Player.play_until" s_Player_play_until ["self", "slot", "depth"] f) (Y : PyC K CP) (E : EdC K CE)
    (Cn : Cb P w K mg base (L2.CX P w) (k + 5) fn ["self", "slot", "depth", "seen"] (spNext P w CP CE K cR d)) (mn : Meth K CP "play_next" fn) (Cs : Cb P w K mg base CX0 1 fs ["self"] (spState CE)) (ms : Meth K CE "state" fs)
    (R : RzT P w K mg base cR "NeverStops" (-9)) : Cb P w K mg base (L2.CX P w) (k + 6) f ["self", "slot", "depth"] (spUntil CP CE K cR d) := by
  refine D.okX sc_Player_play_until (fun vs H Q _ h => ?_) (fun cdv A outer s H vs Q EX hr h => ?_)
  · obtain ⟨a, ed, m, g, e, b, r, rfl, _⟩ := h
    rfl
  · refine ⟨_, pss_cons (ps_set (i := 3) sc_Player_play_until.nd rfl (Or.inl rfl) (pe_mb0 Cs E.cl ms hr (by omega) (pe_fld (pv 0) rfl)))
      (pss_cons (ps_set (i := 4) sc_Player_play_until.nd rfl (Or.inl rfl) (pe_dispN (hu9 hr) (pv 3) pe_bl))
      (pss_cons (ps_while (passes_of rfl) (pt_val (pe_mbX Cn Y.cl mn hr (by omega) (takes_of rfl rfl rfl rfl) (pv 0) (pa_cons (pv 1) (pa_cons (pv 2) (pa_cons (pv 4) pa_nil)))))
        (pss_cons (ps_set (i := 5) sc_Player_play_until.nd rfl (Or.inl rfl) (pe_mb0 Cs E.cl ms hr (by omega) (pe_fld (pv 0) rfl)))
        (pss_cons (ps_if (pt_cmpR (op_eqD (hu64 hr)) (pv 5) (pv 3) (nomark _)) (pss_one (ps_ret pe_bl)) pss_nil)
        (pss_cons (ps_if (pt_cmpR (op_nin (hu9 hr)) (pv 5) (pv 4) (by rfl)) (pss_one (ps_rz R hr (by omega) (by rfl) rfl (takes_of rfl rfl rfl rfl))) pss_nil)
        (pss_cons (ps_asg pe_bl (pg_sub (pv 4) (pv 5) (set_nd (hu9 hr))))
        (pss_one (ps_set (i := 3) sc_Player_play_until.nd rfl (Or.inl rfl) (pv 5))))))))
      (pss_one (ps_ret pe_bl)))), ?_⟩
    obtain ⟨a, ed, m, g, e, b, r, rfl, hr10, gok, st, k0⟩ := h
    obtain ⟨dx, ha⟩ := st.pl
    obtain ⟨dx2, t, he, ht⟩ := st.ed
    refine ⟨_, rfl, _, _, _, _, _, rfl, ha, Y.cl, Y.nE, pF_e, ed, dx2, _, rfl, he, eF_no (by decide +kernel) (by decide +kernel) (by decide +kernel), ed, e, rfl, st.ed, fun H2 q s2 nq hst => ?_⟩
    intro p np
    have hpn : H p = none := same_none s2 np
    refine ⟨_, rfl, q, ek e, rfl, upd_same, hst.keep (fun c xs z => same_new np _ _ z), ?_⟩
    have sD : Same H2 (upd H2 p (nd P w p [])) := same_new np
    have kD : Keeps p (upd H2 p (nd P w p [])) (upd (upd H2 p (nd P w p [])) p (nd P w p [(ek e, q, .bl true)])) := Keeps.refl.upd
    have hp1 : (upd H2 p (nd P w p [])) p = some (nd P w p []) := upd_same
    refine ⟨fun mz σ H1 => ∃ S x b1 kvs q v, mz = 1001 - S.length ∧ σ = sgU a p q r d v ∧ UInv P w CP CE a ed m g p q H d r e b S x b1 kvs H1, ⟨_, [], e, b, [(ek e, q, .bl true)], q, none, rfl, rfl, ?_⟩, ?_⟩
    · refine ⟨(same_kp (same_trans s2 sD)).butD hpn kD, ((st.same s2).same sD).butD hp1 kD, upd_same, ?_, fun x hx => ?_, rfl, by simp, Nat.zero_le _, rfl⟩
      · exact st_butD hp1 kD (hst.keep (fun c xs z => sD _ _ z))
      · rw [List.mem_singleton] at hx
        subst hx
        exact st_butD hp1 kD (hst.keep (fun c xs z => sD _ _ z))
    rintro mz σ H1 ⟨S, x, b1, kvs, q1, v, rfl, rfl, I⟩
    have hlen : kvs.length = S.length + 1 := by
      have z := congrArg List.length I.td
      rw [List.length_map, List.length_map, List.length_append] at z
      exact z
    have hxS := not_mem_of_nodup I.nod
    have h10 := I.h1000
    obtain ⟨dx3, ha3⟩ := I.st.pl
    refine ⟨_, rfl, a, dx3, _, rfl, ha3, pF_no (by decide +kernel) (by decide +kernel) (by decide +kernel) (by decide +kernel), _, rfl, _, rfl, _, rfl, a, ed, m, g, x, b1, r, p, kvs, rfl, hr10, gok, I.st, I.hp, I.ka, ?_⟩
    by_cases c2 : S.length < 1000
    · rw [if_neg (by omega)]
      have heq := I.eq
      rw [until_step hxS c2] at heq
      cases hpl : plays g d r x b1 with
      | mk o b2 =>
        rw [hpl] at heq
        refine ⟨fun e' H2' h1 k1 st2 => ?_, fun e' H2' h1 k1 st2 => ?_, fun h1 => ?_, fun h1 => ?_⟩
        · have h1 : o = .ok e' := h1
          subst h1
          have heq : untilFrom (plays g d) r 1002 [] e b = untilFrom (plays g d) r (1001 - S.length) (S ++ [x]).reverse e' b2 := heq
          refine ⟨_, rfl, ifT rfl ?_⟩
          refine ⟨fun σ' H' => ∃ m', m' < 1001 - S.length ∧ ∃ S x b1 kvs q v, m' = 1001 - S.length ∧ σ' = sgU a p q r d v ∧ UInv P w CP CE a ed m g p q H d r e b S x b1 kvs H', fun σ' H' z => z, ?_⟩
          obtain ⟨dx4, ha4⟩ := st2.pl
          obtain ⟨dx5, t5, he5, ht5⟩ := st2.ed
          refine ⟨_, rfl, _, _, _, _, _, rfl, ha4, Y.cl, Y.nE, pF_e, ed, dx5, _, rfl, he5, eF_no (by decide +kernel) (by decide +kernel) (by decide +kernel), ed, e', rfl, st2.ed, fun H3 q3 s3 nq3 hst3 => ?_⟩
          have k3 : Kp ed a H1 H3 := k1.trans (same_kp s3)
          have st3 := st2.same s3
          have hp3 := I.st.nd k3 I.hp
          have ka3 := I.st.keys k3 I.ka
          have hq3 : StAt H3 q1 (ek x) := I.hq.keep fun c xs z => I.st.tup k3 z
          have hsl : (S ++ [x]).length = S.length + 1 := by
            rw [List.length_append]
            rfl
          have e0 : 1001 - S.length = 1000 - S.length + 1 := by omega
          refine ⟨_, rfl, _, rfl, _, _, hst3.dp, hq3.dp, Ek.shaped _, Ek.shaped _, _, rfl, ?_⟩
          rw [Ek.eqv]
          by_cases c4 : e' = x
          · subst c4
            refine ifT (decide_eq_true rfl) ?_
            rw [e0, until_same] at heq
            refine k0.ok e' H3 (by rw [heq]) (I.kp.trans k3) ?_
            rw [heq]
            exact st3
          · refine ifF (decide_eq_false (fun z => c4 (ek_inj z))) ?_
            refine ⟨_, rfl, _, rfl, q3, p, ek e', kvs, rfl, rfl, hp3, ka3, hst3, _, rfl, ?_⟩
            rw [keys_mem I.td]
            by_cases c3 : e' ∈ S ++ [x]
            · refine ifT (decide_eq_true c3) ?_
              rw [e0, until_round c4 c3] at heq
              exact Rz.ofK ((k0.nv (by rw [heq])).kp st st3 (I.kp.trans k3))
            · refine ifF (decide_eq_false c3) ?_
              have hv : valN kvs (ek e') = none := by
                have z := keys_mem I.td e'
                rw [decide_eq_false c3] at z
                cases hq : valN kvs (ek e') with
                | none => rfl
                | some u =>
                  rw [hq] at z
                  cases z
              refine ⟨_, rfl, _, rfl, p, q3, ek e', kvs, rfl, rfl, hp3, ka3, hst3, hv, (by rw [hlen, sizeLine_eq]; omega), _, rfl, ?_⟩
              have kD3 : Keeps p H3 (upd H3 p (nd P w p (kvs ++ [(ek e', q3, .bl true)]))) := Keeps.refl.upd
              refine ⟨1001 - (S ++ [x]).length, by omega, S ++ [x], e', b2, _, q3, some (.ref q3), rfl, rfl, ⟨(I.kp.trans k3).butD hpn kD3, st3.butD hp3 kD3, upd_same, st_butD hp3 kD3 hst3, fun y hy => ?_, ?_, nodup_snoc I.nod c3, by omega, ?_⟩⟩
              · rcases List.mem_append.mp hy with z | z
                · exact keys_butD hp3 kD3 ka3 y z
                · rw [List.mem_singleton] at z
                  subst z
                  exact st_butD hp3 kD3 hst3
              · rw [List.map_append, I.td, List.map_append (l₁ := S ++ [x])]
                rfl
              · rw [heq]
                have e1 : 1001 - (S ++ [x]).length + 1 = 1001 - S.length := by omega
                rw [e1]
        · have h1 : o = .failed e' := h1
          subst h1
          have heq : untilFrom (plays g d) r 1002 [] e b = (.ok e', b2) := heq
          refine ⟨_, rfl, ifF rfl ?_⟩
          refine k0.ok e' H2' (by rw [heq]) (I.kp.trans k1) ?_
          rw [heq]
          exact st2
        · have h1 : o = .endless := h1
          subst h1
          have heq : untilFrom (plays g d) r 1002 [] e b = (.endless, b2) := heq
          exact (k0.nv (by rw [heq])).kp st I.st I.kp
        · have h1 : o = .over := h1
          subst h1
          have heq : untilFrom (plays g d) r 1002 [] e b = (.over, b2) := heq
          exact (k0.tm (by rw [heq])).kp st I.st I.kp
    · rw [if_pos (by omega)]
      have heq := I.eq
      rw [until_over hxS (by omega)] at heq
      refine ⟨fun e' H2' h1 => (nomatch h1), fun e' H2' h1 => (nomatch h1), fun h1 => (nomatch h1), fun _ => (k0.tm (by rw [heq])).kp st I.st I.kp⟩
theorem ok_cmd {fc fp ft fu : Addr} {t1 t2 : Tok} {d k : Nat} (D : Df K "do_command" "Player.do_command" s_Player_do_command ["self", "command", "depth"] f) (Y : PyC K CP) (g1 : mg "PLAY_ONCE" = some (.int 13 t1)) (g2 : mg "PLAY_TIMES" = some (.int 14 t2))
    (Cc : Cb P w K mg base (L2.CX P w) 4 fc ["self", "command"] (spCounted CP CE K cR)) (mc : Meth K CP "do_counted" fc) (Cp : Cb P w K mg base (L2.CX P w) (k + 4) fp ["self", "slot", "depth"] (spPlay CP CE K cR d)) (mp : Meth K CP "play" fp)
    (Ct : Cb P w K mg base (L2.CX P w) (k + 6) ft ["self", "slot", "times", "depth"] (spTimes CP CE K cR d)) (mt : Meth K CP "play_times" ft) (Cu : Cb P w K mg base (L2.CX P w) (k + 6) fu ["self", "slot", "depth"] (spUntil CP CE K cR d)) (mu : Meth K CP "play_until" fu) :
    Cb P w K mg base (L2.CX P w) (k + 7) f ["self", "command", "depth"] (spCmd CP CE K cR d) := by
  refine D.okX sc_Player_do_command (fun vs H Q _ h => ?_) (fun cdv A outer s H vs Q EX hr h => ?_)
  · obtain ⟨a, ed, m, g, e, b, c, x, rfl, _⟩ := h
    rfl
  · refine ⟨_, pss_cons (ps_if (pt_cmpR op_lt (pe_ix ix_tup (pv 1) pe_int (fun _ _ => rfl)) (pe_glob (v := .int 13) rfl g1 ⟨_, rfl⟩) (nomark _)) (pss_one (ps_ret (pe_mbX Cc Y.cl mc hr (by omega) (takes_of rfl rfl rfl rfl) (pv 0) (pa_cons (pv 1) pa_nil)))) pss_nil)
      (pss_cons (ps_if (pt_cmpR op_eq (pe_ix ix_tup (pv 1) pe_int (fun _ _ => rfl)) (pe_glob (v := .int 13) rfl g1 ⟨_, rfl⟩) (nomark _)) (pss_one (ps_ret (pe_mbX Cp Y.cl mp hr (by omega) (takes_of rfl rfl rfl rfl) (pv 0) (pa_cons (pe_ix ix_tup (pv 1) pe_int (fun _ _ => rfl)) (pa_cons (pv 2) pa_nil))))) pss_nil)
      (pss_cons (ps_if (pt_cmpR op_eq (pe_ix ix_tup (pv 1) pe_int (fun _ _ => rfl)) (pe_glob (v := .int 14) rfl g2 ⟨_, rfl⟩) (nomark _)) (pss_one (ps_ret (pe_mbX Ct Y.cl mt hr (by omega) (takes_of rfl rfl rfl rfl) (pv 0) (pa_cons (pe_ix ix_tup (pv 1) pe_int (fun _ _ => rfl)) (pa_cons (pe_ix ix_tup (pv 1) pe_int (fun _ _ => rfl)) (pa_cons (pv 2) pa_nil)))))) pss_nil)
      (pss_one (ps_ret (pe_mbX Cu Y.cl mu hr (by omega) (takes_of rfl rfl rfl rfl) (pv 0) (pa_cons (pe_ix ix_tup (pv 1) pe_int (fun _ _ => rfl)) (pa_cons (pv 2) pa_nil))))))), ?_⟩
    obtain ⟨a, ed, m, g, e, b, c, x, rfl, hc, hok, gok, st, k0⟩ := h
    obtain ⟨dx, ha⟩ := st.pl
    cases x with
    | insert z => exact ⟨_, rfl, c, _, _, _, rfl, rfl, SqT.of hc, atI_nat (j := 0) rfl, _, _, rfl, rfl, _, rfl, ifT rfl ⟨_, rfl, a, dx, _, rfl, ha, pF_no (by decide +kernel) (by decide +kernel) (by decide +kernel) (by decide +kernel), _, rfl, a, c, ed, m, g, e, b, _, rfl, st, hc, rfl, k0⟩⟩
    | left => exact ⟨_, rfl, c, _, _, _, rfl, rfl, SqT.of hc, atI_nat (j := 0) rfl, _, _, rfl, rfl, _, rfl, ifT rfl ⟨_, rfl, a, dx, _, rfl, ha, pF_no (by decide +kernel) (by decide +kernel) (by decide +kernel) (by decide +kernel), _, rfl, a, c, ed, m, g, e, b, _, rfl, st, hc, rfl, k0⟩⟩
    | right => exact ⟨_, rfl, c, _, _, _, rfl, rfl, SqT.of hc, atI_nat (j := 0) rfl, _, _, rfl, rfl, _, rfl, ifT rfl ⟨_, rfl, a, dx, _, rfl, ha, pF_no (by decide +kernel) (by decide +kernel) (by decide +kernel) (by decide +kernel), _, rfl, a, c, ed, m, g, e, b, _, rfl, st, hc, rfl, k0⟩⟩
    | delete => exact ⟨_, rfl, c, _, _, _, rfl, rfl, SqT.of hc, atI_nat (j := 0) rfl, _, _, rfl, rfl, _, rfl, ifT rfl ⟨_, rfl, a, dx, _, rfl, ha, pF_no (by decide +kernel) (by decide +kernel) (by decide +kernel) (by decide +kernel), _, rfl, a, c, ed, m, g, e, b, _, rfl, st, hc, rfl, k0⟩⟩
    | find z => exact ⟨_, rfl, c, _, _, _, rfl, rfl, SqT.of hc, atI_nat (j := 0) rfl, _, _, rfl, rfl, _, rfl, ifT rfl ⟨_, rfl, a, dx, _, rfl, ha, pF_no (by decide +kernel) (by decide +kernel) (by decide +kernel) (by decide +kernel), _, rfl, a, c, ed, m, g, e, b, _, rfl, st, hc, rfl, k0⟩⟩
    | back z => exact ⟨_, rfl, c, _, _, _, rfl, rfl, SqT.of hc, atI_nat (j := 0) rfl, _, _, rfl, rfl, _, rfl, ifT rfl ⟨_, rfl, a, dx, _, rfl, ha, pF_no (by decide +kernel) (by decide +kernel) (by decide +kernel) (by decide +kernel), _, rfl, a, c, ed, m, g, e, b, _, rfl, st, hc, rfl, k0⟩⟩
    | home => exact ⟨_, rfl, c, _, _, _, rfl, rfl, SqT.of hc, atI_nat (j := 0) rfl, _, _, rfl, rfl, _, rfl, ifT rfl ⟨_, rfl, a, dx, _, rfl, ha, pF_no (by decide +kernel) (by decide +kernel) (by decide +kernel) (by decide +kernel), _, rfl, a, c, ed, m, g, e, b, _, rfl, st, hc, rfl, k0⟩⟩
    | end_ => exact ⟨_, rfl, c, _, _, _, rfl, rfl, SqT.of hc, atI_nat (j := 0) rfl, _, _, rfl, rfl, _, rfl, ifT rfl ⟨_, rfl, a, dx, _, rfl, ha, pF_no (by decide +kernel) (by decide +kernel) (by decide +kernel) (by decide +kernel), _, rfl, a, c, ed, m, g, e, b, _, rfl, st, hc, rfl, k0⟩⟩
    | swap => exact ⟨_, rfl, c, _, _, _, rfl, rfl, SqT.of hc, atI_nat (j := 0) rfl, _, _, rfl, rfl, _, rfl, ifT rfl ⟨_, rfl, a, dx, _, rfl, ha, pF_no (by decide +kernel) (by decide +kernel) (by decide +kernel) (by decide +kernel), _, rfl, a, c, ed, m, g, e, b, _, rfl, st, hc, rfl, k0⟩⟩
    | is_ z => exact ⟨_, rfl, c, _, _, _, rfl, rfl, SqT.of hc, atI_nat (j := 0) rfl, _, _, rfl, rfl, _, rfl, ifT rfl ⟨_, rfl, a, dx, _, rfl, ha, pF_no (by decide +kernel) (by decide +kernel) (by decide +kernel) (by decide +kernel), _, rfl, a, c, ed, m, g, e, b, _, rfl, st, hc, rfl, k0⟩⟩
    | isnt z => exact ⟨_, rfl, c, _, _, _, rfl, rfl, SqT.of hc, atI_nat (j := 0) rfl, _, _, rfl, rfl, _, rfl, ifT rfl ⟨_, rfl, a, dx, _, rfl, ha, pF_no (by decide +kernel) (by decide +kernel) (by decide +kernel) (by decide +kernel), _, rfl, a, c, ed, m, g, e, b, _, rfl, st, hc, rfl, k0⟩⟩
    | hold => exact ⟨_, rfl, c, _, _, _, rfl, rfl, SqT.of hc, atI_nat (j := 0) rfl, _, _, rfl, rfl, _, rfl, ifT rfl ⟨_, rfl, a, dx, _, rfl, ha, pF_no (by decide +kernel) (by decide +kernel) (by decide +kernel) (by decide +kernel), _, rfl, a, c, ed, m, g, e, b, _, rfl, st, hc, rfl, k0⟩⟩
    | put => exact ⟨_, rfl, c, _, _, _, rfl, rfl, SqT.of hc, atI_nat (j := 0) rfl, _, _, rfl, rfl, _, rfl, ifT rfl ⟨_, rfl, a, dx, _, rfl, ha, pF_no (by decide +kernel) (by decide +kernel) (by decide +kernel) (by decide +kernel), _, rfl, a, c, ed, m, g, e, b, _, rfl, st, hc, rfl, k0⟩⟩
    | play r =>
      exact ⟨_, rfl, c, _, _, _, rfl, rfl, SqT.of hc, atI_nat (j := 0) rfl, _, _, rfl, rfl, _, rfl, ifF rfl ⟨_, rfl, c, _, _, _, rfl, rfl, SqT.of hc, atI_nat (j := 0) rfl, rfl, _, rfl, ifT rfl ⟨_, rfl, a, dx, _, rfl, ha, pF_no (by decide +kernel) (by decide +kernel) (by decide +kernel) (by decide +kernel), _, rfl, c, _, _, _, rfl, rfl, SqT.of hc, atI_nat (j := 1) rfl, _, rfl, a, ed, m, g, e, b, r, rfl, of_decide_eq_true hok, gok, st, k0⟩⟩⟩
    | times r n =>
      exact ⟨_, rfl, c, _, _, _, rfl, rfl, SqT.of hc, atI_nat (j := 0) rfl, _, _, rfl, rfl, _, rfl, ifF rfl ⟨_, rfl, c, _, _, _, rfl, rfl, SqT.of hc, atI_nat (j := 0) rfl, rfl, _, rfl, ifF rfl ⟨_, rfl, c, _, _, _, rfl, rfl, SqT.of hc, atI_nat (j := 0) rfl, rfl, _, rfl, ifT rfl ⟨_, rfl, a, dx, _, rfl, ha, pF_no (by decide +kernel) (by decide +kernel) (by decide +kernel) (by decide +kernel), _, rfl, c, _, _, _, rfl, rfl, SqT.of hc, atI_nat (j := 1) rfl, _, rfl, c, _, _, _, rfl, rfl, SqT.of hc, atI_nat (j := 2) rfl, _, rfl, a, ed, m, g, e, b, r, n, rfl, of_decide_eq_true hok, gok, st, k0⟩⟩⟩⟩
    | until_ r =>
      exact ⟨_, rfl, c, _, _, _, rfl, rfl, SqT.of hc, atI_nat (j := 0) rfl, _, _, rfl, rfl, _, rfl, ifF rfl ⟨_, rfl, c, _, _, _, rfl, rfl, SqT.of hc, atI_nat (j := 0) rfl, rfl, _, rfl, ifF rfl ⟨_, rfl, c, _, _, _, rfl, rfl, SqT.of hc, atI_nat (j := 0) rfl, rfl, _, rfl, ifF rfl ⟨_, rfl, a, dx, _, rfl, ha, pF_no (by decide +kernel) (by decide +kernel) (by decide +kernel) (by decide +kernel), _, rfl, c, _, _, _, rfl, rfl, SqT.of hc, atI_nat (j := 1) rfl, _, rfl, a, ed, m, g, e, b, r, rfl, of_decide_eq_true hok, gok, st, k0⟩⟩⟩⟩
theorem ok_row {fc : Addr} {d k : Nat} (D : Df K "do_row" "Player.do_row" s_Player_do_row ["self", "commands", "depth"] f) (Y : PyC K CP) (Cc : Cb P w K mg base (L2.CX P w) (k + 7) fc ["self", "command", "depth"] (spCmd CP CE K cR d)) (mc : Meth K CP "do_command" fc) :
    Cb P w K mg base (L2.CX P w) (k + 8) f ["self", "commands", "depth"] (spRow CP CE K cR d) := by
  refine D.okX sc_Player_do_row (fun vs H Q _ h => ?_) (fun cdv A outer s H vs Q EX hr h => ?_)
  · obtain ⟨a, ed, m, g, e, b, l, cs, rfl, _⟩ := h
    rfl
  · refine ⟨_, pss_cons (ps_for (passes_of rfl) rfl (pi_list (pv 1)) (pg_name (i := 3) sc_Player_do_row.nd rfl (Or.inl rfl)) (pss_one (ps_if (pt_not (pt_val (pe_mbX Cc Y.cl mc hr (by omega) (takes_of rfl rfl rfl rfl) (pv 0) (pa_cons (pv 3) (pa_cons (pv 2) pa_nil))))) (pss_one (ps_ret pe_bl)) pss_nil)))
      (pss_one (ps_ret pe_bl)), ?_⟩
    obtain ⟨a, ed, m, g, e, b, l, cs, rfl, hcs, hok, gok, st, k0⟩ := h
    obtain ⟨as, hl, hpr⟩ := id hcs
    have hlen : as.length = cs.length := Paired.length hpr
    refine ⟨_, rfl, l, rfl, ⟨_, SqL.of hl⟩, for_list (K := K) (a := l) (xs := as.map V.ref) (fun i σ H' => ∃ x b1 v, σ = [some (.ref a), some (.ref l), some (dep d), v] ∧ Kp ed a H H' ∧ PSt CP CE H' a ed m g x b1 ∧ runs (plays g d) cs e b = runs (plays g d) (cs.drop i) x b1)
      ⟨e, b, none, rfl, Kp.refl, st, rfl⟩ (fun i σ H' _ ⟨x, b1, v, _, kp, _, _⟩ => SqL.of (st.lst kp hl)) ?_ ?_⟩
    · rintro i y σ H' hy ⟨x, b1, v, rfl, kp, st1, heq⟩
      rw [List.getElem?_map] at hy
      obtain ⟨ca, hca, rfl⟩ := Option.map_eq_some_iff.mp hy
      obtain ⟨c, hc, hcc⟩ := paired_get hpr hca
      have hcl := (List.getElem?_eq_some_iff.mp hc).1
      have hdr : cs.drop i = c :: cs.drop (i + 1) := by
        rw [List.drop_eq_getElem_cons hcl]
        rw [List.getElem?_eq_getElem hcl] at hc
        rw [Option.some.inj hc]
      rw [hdr, runs_cons] at heq
      obtain ⟨dx, ha⟩ := st1.pl
      refine ⟨_, rfl, a, dx, _, rfl, ha, pF_no (by decide +kernel) (by decide +kernel) (by decide +kernel) (by decide +kernel), _, rfl, _, rfl, a, ed, m, g, x, b1, ca, c, rfl, st.tup kp hcc, hok c (List.mem_of_getElem? hc), gok, st1, ?_⟩
      cases hone : oneCmd (plays g d) c x b1 with
      | mk o b2 =>
        rw [hone] at heq
        refine ⟨fun e' H2' h1 k1 st2 => ?_, fun e' H2' h1 k1 st2 => ?_, fun h1 => ?_, fun h1 => ?_⟩
        · have h1 : o = .ok e' := h1
          subst h1
          exact ⟨_, rfl, ifF rfl ⟨e', b2, _, rfl, kp.trans k1, st2, heq⟩⟩
        · have h1 : o = .failed e' := h1
          subst h1
          have heq : runs (plays g d) cs e b = (.failed e', b2) := heq
          refine ⟨_, rfl, ifT rfl ?_⟩
          refine k0.no e' H2' (by rw [heq]) (kp.trans k1) ?_
          rw [heq]
          exact st2
        · have h1 : o = .endless := h1
          subst h1
          have heq : runs (plays g d) cs e b = (.endless, b2) := heq
          exact (k0.nv (by rw [heq])).kp st st1 kp
        · have h1 : o = .over := h1
          subst h1
          have heq : runs (plays g d) cs e b = (.over, b2) := heq
          exact (k0.tm (by rw [heq])).kp st st1 kp
    · rintro σ H' ⟨x, b1, v, rfl, kp, st1, heq⟩
      rw [List.length_map, hlen, List.drop_length] at heq
      have heq : runs (plays g d) cs e b = (.ok x, b1) := heq
      refine k0.ok x H' (by rw [heq]) kp ?_
      rw [heq]
      exact st1
/-- where the player's defs stand, and that they stand there -/
structure PyA where
  row : Addr
  cmd : Addr
  counted : Addr
  play : Addr
  next : Addr
  times : Addr
  until_ : Addr
structure PyD (K : PySem.W.Frag) (CP : Addr) (p : PyA) : Prop where
  row : Df K "do_row" "Player.do_row" s_Player_do_row ["self", "commands", "depth"] p.row
  cmd : Df K "do_command" "Player.do_command" s_Player_do_command ["self", "command", "depth"] p.cmd
  counted : Df K "do_counted" "Player.do_counted" s_Player_do_counted ["self", "command"] p.counted
  play : Df K "play" "Player.play" s_Player_play ["self", "slot", "depth"] p.play
  next : Df K "play_next" "Player.play_next" s_Player_play_next ["self", "slot", "depth", "seen"] p.next
  times : Df K "play_times" "Player.play_times" s_Player_play_times ["self", "slot", "times", "depth"] p.times
  until_ : Df K "play_until" "Player.play_until" s_Player_play_until ["self", "slot", "depth"] p.until_
  mrow : Meth K CP "do_row" p.row
  mcmd : Meth K CP "do_command" p.cmd
  mcounted : Meth K CP "do_counted" p.counted
  mplay : Meth K CP "play" p.play
  mnext : Meth K CP "play_next" p.next
  mtimes : Meth K CP "play_times" p.times
  muntil : Meth K CP "play_until" p.until_
/-- a row of commands, so many playings may be within one another -/
theorem rows_ok {p : PyA} {fs fr fb fp : Addr} {t1 t2 t3 t4 t5 t6 : Tok} (D : PyD K CP p) (Y : PyC K CP) (E : EdC K CE) (ml : mg "len" = none) (g1 : mg "MOST_DEEP" = some (.int 6 t1)) (g2 : mg "MOST_PLAYINGS" = some (.int 20000 t2))
    (g3 : mg "MOST_IN_A_ROW" = some (.int 1000 t3)) (g4 : mg "PLAY_ONCE" = some (.int 13 t4)) (g5 : mg "PLAY_TIMES" = some (.int 14 t5)) (g6 : mg "MOST_PLAIN" = some (.int 20000 t6)) (R8 : RzT P w K mg base cR "TooMuch" (-8)) (R9 : RzT P w K mg base cR "NeverStops" (-9))
    (Cs : Cb P w K mg base CX0 1 fs ["self"] (spState CE)) (ms : Meth K CE "state" fs) (Cr : Cb P w K mg base CX0 1 fr ["self", "state"] (spRestore CE)) (mr : Meth K CE "restore" fr)
    (Cbh : Cb P w K mg base CX0 1 fb ["times", "seen", "first"] (spBehind P w)) (gb : mg "state_behind" = some (.ref fb)) (Cp : Cb P w K mg base CX0 3 fp ["editor", "command"] (spDoPl CE)) (gp : mg "do_plain" = some (.ref fp)) :
    ∀ d, d ≤ 6 → Cb P w K mg base (L2.CX P w) (5 * d + 8) p.row ["self", "commands", "depth"] (spRow CP CE K cR d) ∧ Cb P w K mg base (L2.CX P w) (5 * d + 4) p.play ["self", "slot", "depth"] (spPlay CP CE K cR d) ∧
      Cb P w K mg base (L2.CX P w) (5 * d + 5) p.next ["self", "slot", "depth", "seen"] (spNext P w CP CE K cR d) := by
  have Cc := ok_counted (CP := CP) (CE := CE) D.counted Y g6 R8 Cp gp
  have up : ∀ d, Cb P w K mg base (L2.CX P w) (5 * d + 4) p.play ["self", "slot", "depth"] (spPlay CP CE K cR d) → Cb P w K mg base (L2.CX P w) (5 * d + 8) p.row ["self", "commands", "depth"] (spRow CP CE K cR d) ∧
      Cb P w K mg base (L2.CX P w) (5 * d + 4) p.play ["self", "slot", "depth"] (spPlay CP CE K cR d) ∧ Cb P w K mg base (L2.CX P w) (5 * d + 5) p.next ["self", "slot", "depth", "seen"] (spNext P w CP CE K cR d) := fun d c => by
    have n := ok_next D.next Y ml g3 R8 c D.mplay
    have t := ok_times D.times Y E ml n D.mnext Cs ms Cr mr Cbh gb
    have u := ok_until D.until_ Y E n D.mnext Cs ms R9
    have x := ok_cmd D.cmd Y g4 g5 Cc D.mcounted c D.mplay t D.mtimes u D.muntil
    exact ⟨ok_row D.row Y x D.mcmd, c, n⟩
  intro d
  induction d with
  | zero =>
    intro _
    exact up 0 (ok_play (k := 0) (spR := spNot) D.play Y g1 g2 R8 (cb_not D.row) D.mrow (by omega) (fun d' h => by omega))
  | succ d ih =>
    intro h
    refine up (d + 1) ?_
    have e : 5 * (d + 1) + 4 = (5 * d + 5) + 4 := by omega
    rw [e]
    exact ok_play (k := 5 * d + 5) D.play Y g1 g2 R8 (ih (by omega)).1 D.mrow h (fun d' z => by
      have : d = d' := by omega
      rw [this])
end
end Mp
/-! find_period: a register again and again. -/
namespace Mp
open PySem PySem.Spec PyProof.Rows L2
open Ue10 (does plays runs timesFrom untilFrom periodFrom)

/-- in find_period's loop, ahead of its test: S the states so far but the one that it stands at, x -/
structure QInv (P : Program) (w : World) (CP CE : Addr) (a ed m : Addr) (g : List (List Ue10.Cmd)) (p : Addr) (H : Hp) (d r : Nat) (e : Ed) (b : Left) (S : List Ed) (x : Ed) (b1 : Left) (kvs : List En) (H1 : Hp) : Prop where
  kp : Kp ed a H H1
  st : PSt CP CE H1 a ed m g x b1
  hp : H1 p = some (Mp.nd P w p kvs)
  ka : KeysAt H1 kvs
  td : TD 0 kvs (S ++ [x])
  nod : (S ++ [x]).Nodup
  h1000 : S.length ≤ 1000
  eq : periodFrom (plays g d) r 1002 [] e b = periodFrom (plays g d) r (1001 - S.length + 1) S.reverse x b1
def sgQ (a p : Addr) (r : Nat) (v : Option V) : L2.St := [some (.ref a), some (.int (r : Int)), some (.ref p), v]
def spPer (CP CE : Addr) (K : PySem.W.Frag) (cR : Addr) : Sp := fun vs H Q E => ∃ (a ed m : Addr) (g : List (List Ue10.Cmd)) (e : Ed) (b : Left) (r : Nat), vs = [.ref a, .int (r : Int)] ∧ r < 10 ∧ GOk g ∧ PSt CP CE H a ed m g e b ∧
  (∀ H' p ys, periodFrom (plays g 6) r 1002 [] e b = Ue10.ints ys → Kp ed a H H' → H p = none → H' p = some (.lst (tx ys)) → Q (.ref p) H') ∧
  (periodFrom (plays g 6) r 1002 [] e b = [-9] → RzK K cR (-9) ed a H E) ∧ (periodFrom (plays g 6) r 1002 [] e b = [-8] → RzK K cR (-8) ed a H E)
section
variable {P : Program} {w : World} {K : PySem.W.Frag} {mg : Str → Option Value} {base : Heap} {CP CE cR f : Addr}
theorem ok_period {fn fs : Addr} (D : Df K "find_period" "Player.find_period" s_Player_find_period ["self", "slot"] f) (Y : PyC K CP) (E : EdC K CE) (ml : mg "len" = none)
    (Cn : Cb P w K mg base (L2.CX P w) 35 fn ["self", "slot", "depth", "seen"] (spNext P w CP CE K cR 6)) (mn : Meth K CP "play_next" fn) (Cs : Cb P w K mg base CX0 1 fs ["self"] (spState CE)) (ms : Meth K CE "state" fs) :
    Cb P w K mg base (L2.CX P w) 36 f ["self", "slot"] (spPer CP CE K cR) := by
  refine D.okX sc_Player_find_period (fun vs H Q _ h => ?_) (fun cdv A outer s H vs Q EX hr h => ?_)
  · obtain ⟨a, ed, m, g, e, b, r, rfl, _⟩ := h
    rfl
  · refine ⟨_, pss_cons (ps_set (i := 2) sc_Player_find_period.nd rfl (Or.inl rfl) (pe_dispN (hu9 hr) (pe_mb0 Cs E.cl ms hr (by decide) (pe_fld (pv 0) rfl)) pe_int))
      (pss_cons (ps_while (passes_of rfl) (pt_val (pe_mbX Cn Y.cl mn hr (by decide) (takes_of rfl rfl rfl rfl) (pv 0) (pa_cons (pv 1) (pa_cons pe_int (pa_cons (pv 2) pa_nil)))))
        (pss_cons (ps_set (i := 3) sc_Player_find_period.nd rfl (Or.inl rfl) (pe_mb0 Cs E.cl ms hr (by decide) (pe_fld (pv 0) rfl)))
        (pss_cons (ps_if (pt_cmpR (op_nin (hu9 hr)) (pv 3) (pv 2) (by rfl)) (pss_one (ps_ret (pe_lst (pa_cons pe_int (pa_cons (pe_nget (hu9 hr) (pv 2) (pv 3) (fun _ _ => rfl)) (pa_cons (pe_op op_sub (pe_callB call_nlen (by rfl) ml PySem.boot_len (pa_cons (pv 2) pa_nil)) (pe_nget (hu9 hr) (pv 2) (pv 3) (fun _ _ => rfl))) pa_nil)))))) pss_nil)
        (pss_one (ps_asg (pe_callB call_nlen (by rfl) ml PySem.boot_len (pa_cons (pv 2) pa_nil)) (pg_sub (pv 2) (pv 3) (set_nd (hu9 hr))))))))
      (pss_one (ps_ret (pe_lst (pa_cons pe_int (pa_cons (pe_op op_sub (pe_callB call_nlen (by rfl) ml PySem.boot_len (pa_cons (pv 2) pa_nil)) pe_int) pa_nil)))))), ?_⟩
    obtain ⟨a, ed, m, g, e, b, r, rfl, hr10, gok, st, kok, knv, ktm⟩ := h
    intro p np
    have s1 : Same H (upd H p (nd P w p [])) := same_new np
    have st1 := st.same s1
    obtain ⟨dx, ha⟩ := st1.pl
    obtain ⟨dx2, t, he, ht⟩ := st1.ed
    refine ⟨_, rfl, _, _, _, _, _, rfl, ha, Y.cl, Y.nE, pF_e, ed, dx2, _, rfl, he, eF_no (by decide +kernel) (by decide +kernel) (by decide +kernel), ed, e, rfl, st1.ed, fun H2 q s2 nq hst => ⟨q, ek e, rfl, s2 _ _ upd_same, hst, ?_⟩⟩
    have hp2 : H2 p = some (nd P w p []) := s2 _ _ upd_same
    have kD : Keeps p H2 (upd H2 p (nd P w p [(ek e, q, .int 0)])) := Keeps.refl.upd
    have kp0 : Kp ed a H H2 := same_kp (same_trans s1 s2)
    refine ⟨fun mz σ H1 => ∃ S x b1 kvs v, mz = 1001 - S.length ∧ σ = sgQ a p r v ∧ QInv P w CP CE a ed m g p H 6 r e b S x b1 kvs H1, ⟨_, [], e, b, [(ek e, q, .int 0)], none, rfl, rfl, ?_⟩, ?_⟩
    · refine ⟨kp0.butD np kD, (st1.same s2).butD hp2 kD, upd_same, fun x hx => ?_, ⟨rfl, rfl, trivial⟩, by simp, Nat.zero_le _, rfl⟩
      rw [List.mem_singleton] at hx
      subst hx
      exact st_butD hp2 kD hst
    rintro mz σ H1 ⟨S, x, b1, kvs, v, rfl, rfl, I⟩
    have hlen : kvs.length = S.length + 1 := by
      rw [I.td.len, List.length_append]
      rfl
    have hxS := not_mem_of_nodup I.nod
    have h10 := I.h1000
    obtain ⟨dx3, ha3⟩ := I.st.pl
    have none_of : ∀ {H' : Hp} {x' : Ed} {b' : Left} {q : Addr}, Kp ed a H H' → PSt CP CE H' a ed m g x' b' → H' q = none → H q = none := fun {H' x' b' q} k' s' n' => kp_none st s'.some_e s'.some_a k' n'
    refine ⟨_, rfl, a, dx3, _, rfl, ha3, pF_no (by decide +kernel) (by decide +kernel) (by decide +kernel) (by decide +kernel), _, rfl, _, rfl, a, ed, m, g, x, b1, r, p, kvs, rfl, hr10, gok, I.st, I.hp, I.ka, ?_⟩
    by_cases c2 : S.length < 1000
    · rw [if_neg (by omega)]
      have heq := I.eq
      rw [per_step hxS c2] at heq
      cases hpl : plays g 6 r x b1 with
      | mk o b2 =>
        rw [hpl] at heq
        refine ⟨fun e' H2' h1 k1 st2 => ?_, fun e' H2' h1 k1 st2 => ?_, fun h1 => ?_, fun h1 => ?_⟩
        · have h1 : o = .ok e' := h1
          subst h1
          have heq : periodFrom (plays g 6) r 1002 [] e b = periodFrom (plays g 6) r (1001 - S.length) (S ++ [x]).reverse e' b2 := heq
          refine ⟨_, rfl, ifT rfl ?_⟩
          refine ⟨fun σ' H' => ∃ m', m' < 1001 - S.length ∧ ∃ S x b1 kvs v, m' = 1001 - S.length ∧ σ' = sgQ a p r v ∧ QInv P w CP CE a ed m g p H 6 r e b S x b1 kvs H', fun σ' H' z => z, ?_⟩
          obtain ⟨dx4, ha4⟩ := st2.pl
          obtain ⟨dx5, t5, he5, ht5⟩ := st2.ed
          refine ⟨_, rfl, _, _, _, _, _, rfl, ha4, Y.cl, Y.nE, pF_e, ed, dx5, _, rfl, he5, eF_no (by decide +kernel) (by decide +kernel) (by decide +kernel), ed, e', rfl, st2.ed, fun H3 q3 s3 nq3 hst3 => ?_⟩
          have k3 : Kp ed a H1 H3 := k1.trans (same_kp s3)
          have st3 := st2.same s3
          have hp3 := I.st.nd k3 I.hp
          have ka3 := I.st.keys k3 I.ka
          have hsl : (S ++ [x]).length = S.length + 1 := by
            rw [List.length_append]
            rfl
          refine ⟨_, rfl, _, rfl, q3, p, ek e', kvs, rfl, rfl, hp3, ka3, hst3, _, rfl, ?_⟩
          rw [keys_mem I.td.keys]
          by_cases c3 : e' ∈ S ++ [x]
          · refine ifT (decide_eq_true c3) ?_
            obtain ⟨kk, hkk⟩ := List.mem_iff_getElem?.mp c3
            have hkl := (List.getElem?_eq_some_iff.mp hkk).1
            have hv : valN kvs (ek e') = some (.int (kk : Int)) := by
              rw [I.td.val, fi_some I.nod hkk]
              show some (V.int ((0 + kk : Nat) : Int)) = _
              rw [Nat.zero_add]
            have e0 : 1001 - S.length = 1000 - S.length + 1 := by omega
            rw [e0, per_round I.nod hkk] at heq
            refine ⟨_, rfl, _, rfl, p, q3, ek e', kvs, _, rfl, rfl, hp3, ka3, hst3, hv, _, rfl, p, kvs, rfl, hp3, ka3, _, rfl, _, rfl, p, q3, ek e', kvs, _, rfl, rfl, hp3, ka3, hst3, hv, _, _, rfl, rfl, (by show 3 ≤ sizeLine; rw [sizeLine_eq]; omega), fun pl npl => ?_⟩
            refine kok _ pl [0, kk, (S ++ [x]).length - kk] heq (I.kp.trans (k3.trans (same_kp (same_new npl)))) (none_of (I.kp.trans k3) st3 npl) ?_
            rw [upd_same]
            dsimp only
            have e9 : ((kvs.length : Nat) : Int) - (kk : Int) = (((S ++ [x]).length - kk : Nat) : Int) := by omega
            rw [e9]
            rfl
          · refine ifF (decide_eq_false c3) ?_
            have hv : valN kvs (ek e') = none := by
              have z := keys_mem I.td.keys e'
              rw [decide_eq_false c3] at z
              cases hq : valN kvs (ek e') with
              | none => rfl
              | some u =>
                rw [hq] at z
                cases z
            refine ⟨_, rfl, p, kvs, rfl, hp3, ka3, _, rfl, _, rfl, p, q3, ek e', kvs, rfl, rfl, hp3, ka3, hst3, hv, (by rw [hlen, sizeLine_eq]; omega), ?_⟩
            have kD3 : Keeps p H3 (upd H3 p (nd P w p (kvs ++ [(ek e', q3, .int ((kvs.length : Nat) : Int))]))) := Keeps.refl.upd
            refine ⟨1001 - (S ++ [x]).length, by omega, S ++ [x], e', b2, _, some (.ref q3), rfl, rfl, ⟨(I.kp.trans k3).butD np kD3, st3.butD hp3 kD3, upd_same, fun y hy => ?_, ?_, nodup_snoc I.nod c3, by omega, ?_⟩⟩
            · rcases List.mem_append.mp hy with z | z
              · exact keys_butD hp3 kD3 ka3 y z
              · rw [List.mem_singleton] at z
                subst z
                exact st_butD hp3 kD3 hst3
            · have z := I.td.snoc (e := e') (a := q3)
              rw [Nat.zero_add, hsl, ← hlen] at z
              exact z
            · rw [heq]
              have e0 : 1001 - (S ++ [x]).length + 1 = 1001 - S.length := by omega
              rw [e0]
        · have h1 : o = .failed e' := h1
          subst h1
          have heq : periodFrom (plays g 6) r 1002 [] e b = Ue10.ints [1, S.length] := heq
          refine ⟨_, rfl, ifF rfl ?_⟩
          have hp3 := I.st.nd k1 I.hp
          have ka3 := I.st.keys k1 I.ka
          refine ⟨_, rfl, p, kvs, rfl, hp3, ka3, _, _, rfl, rfl, (by show 2 ≤ sizeLine; rw [sizeLine_eq]; omega), fun pl npl => ?_⟩
          refine kok _ pl [1, S.length] heq (I.kp.trans (k1.trans (same_kp (same_new npl)))) (none_of (I.kp.trans k1) st2 npl) ?_
          rw [upd_same]
          dsimp only
          have e9 : ((kvs.length : Nat) : Int) - 1 = ((S.length : Nat) : Int) := by omega
          rw [e9]
          rfl
        · have h1 : o = .endless := h1
          subst h1
          exact (knv heq).kp st I.st I.kp
        · have h1 : o = .over := h1
          subst h1
          exact (ktm heq).kp st I.st I.kp
    · rw [if_pos (by omega)]
      have heq := I.eq
      rw [per_over hxS (by omega)] at heq
      refine ⟨fun e' H2' h1 => (nomatch h1), fun e' H2' h1 => (nomatch h1), fun h1 => (nomatch h1), fun _ => (ktm heq).kp st I.st I.kp⟩
end
end Mp
/-! The list that is handed in, call by call. -/
namespace Mp
open Ue10

/-- ints that are naturals -/
def ci (l : List Nat) : List Int := l.map fun (n : Nat) => (n : Int)
theorem ci_toNat {l : List Int} (h : ∀ z ∈ l, 0 ≤ z) : ci (l.map Int.toNat) = l := by
  unfold ci
  rw [List.map_map]
  conv => rhs; rw [← List.map_id l]
  refine List.map_congr_left fun z hz => ?_
  have := h z hz
  show ((z.toNat : Nat) : Int) = z
  omega
/-- the call x stands in ns from the i-th number on, the next one at j -/
inductive Turn (ns : List Int) (i j : Nat) : Call → Prop
  | text (x n : Nat) (row : List Nat) : ns[i]? = some 0 → ns[i + 1]? = some (x : Int) → ns[i + 2]? = some (n : Int) → i + 3 + n ≤ ns.length → j = i + 3 + n → n ≤ 80 → (ns.drop (i + 3)).take n = ci row → Turn ns i j (.text row x)
  | do_ (n : Nat) (row : List Nat) (cs : List Cmd) : ns[i]? = some 1 → ns[i + 1]? = some (n : Int) → i + 2 + n ≤ ns.length → j = i + 2 + n → n ≤ 160 → (ns.drop (i + 2)).take n = ci row → Ue10Neutral.cmdsIn (row.length + 1) row = some cs → Turn ns i j (.do_ cs)
  | set (r n : Nat) (row : List Nat) (cs : List Cmd) : ns[i]? = some 2 → ns[i + 1]? = some (r : Int) → ns[i + 2]? = some (n : Int) → i + 3 + n ≤ ns.length → j = i + 3 + n → n ≤ 160 → (ns.drop (i + 3)).take n = ci row →
      Ue10Neutral.cmdsIn (row.length + 1) row = some cs → Turn ns i j (.set r cs)
  | get (r : Nat) : ns[i]? = some 3 → ns[i + 1]? = some (r : Int) → j = i + 2 → Turn ns i j (.get r)
  | record (r : Nat) (m : Bool) : ns[i]? = some 4 → ns[i + 1]? = some (r : Int) → ns[i + 2]? = some (if m = true then 1 else 0) → j = i + 3 → Turn ns i j (.record r m)
  | halt_ : ns[i]? = some 5 → j = i + 1 → Turn ns i j .halt_
  | shows : ns[i]? = some 6 → j = i + 1 → Turn ns i j .shows
  | undo : ns[i]? = some 7 → j = i + 1 → Turn ns i j .undo
  | would (n : Nat) (row : List Nat) (cs : List Cmd) : ns[i]? = some 8 → ns[i + 1]? = some (n : Int) → i + 2 + n ≤ ns.length → j = i + 2 + n → n ≤ 160 → (ns.drop (i + 2)).take n = ci row → Ue10Neutral.cmdsIn (row.length + 1) row = some cs → Turn ns i j (.would cs)
  | period (r : Nat) : ns[i]? = some 9 → ns[i + 1]? = some (r : Int) → j = i + 2 → Turn ns i j (.period r)
theorem lt_get {ns : List Int} {i : Nat} {a : Int} (h : ns[i]? = some a) : i < ns.length := (List.getElem?_eq_some_iff.mp h).1
theorem Turn.le {ns : List Int} {i j : Nat} {x : Call} : Turn ns i j x → j ≤ ns.length
  | .text _ _ _ _ _ _ h e _ _ => by omega
  | .do_ _ _ _ _ _ h e _ _ _ => by omega
  | .set _ _ _ _ _ _ _ h e _ _ _ => by omega
  | .get _ _ h e => by have := lt_get h; omega
  | .record _ _ _ _ h e => by have := lt_get h; omega
  | .halt_ h e => by have := lt_get h; omega
  | .shows h e => by have := lt_get h; omega
  | .undo h e => by have := lt_get h; omega
  | .would _ _ _ _ _ h e _ _ _ => by omega
  | .period _ _ h e => by have := lt_get h; omega
/-- the calls xs stand in ns from the i-th number on, to its end -/
def Turns (ns : List Int) : Nat → List Call → Prop
  | i, [] => i = ns.length
  | i, x :: xs => ∃ j, Turn ns i j x ∧ i < j ∧ i < ns.length ∧ Turns ns j xs
theorem row_some {r x s : List Int} (h : PyFlat.row r = some (x, s)) : ∃ n : Nat, ∃ r', r = (n : Int) :: r' ∧ n ≤ r'.length ∧ x = r'.take n ∧ s = r'.drop n := by
  cases r with
  | nil => cases h
  | cons n r =>
    have h : (if 0 ≤ n ∧ n.toNat ≤ r.length then some (r.take n.toNat, r.drop n.toNat) else none) = some (x, s) := h
    by_cases c : 0 ≤ n ∧ n.toNat ≤ r.length
    · rw [if_pos c] at h
      cases h
      refine ⟨n.toNat, r, ?_, c.2, rfl, rfl⟩
      have : ((n.toNat : Nat) : Int) = n := by omega
      rw [this]
    · rw [if_neg c] at h
      cases h
theorem rows1_some {r : List Int} {xs : List (List Int)} {t : List Int} (h : PyFlat.rows 1 r = some (xs, t)) : ∃ n : Nat, ∃ r', r = (n : Int) :: r' ∧ n ≤ r'.length ∧ xs = [r'.take n] ∧ t = r'.drop n := by
  unfold PyFlat.rows at h
  cases q : PyFlat.row r with
  | none =>
    rw [q] at h
    cases h
  | some p =>
    obtain ⟨x, s⟩ := p
    rw [q] at h
    have h : some ([x], s) = some (xs, t) := h
    cases h
    obtain ⟨n, r', h1, h2, h3, h4⟩ := row_some q
    exact ⟨n, r', h1, h2, by rw [h3], h4⟩
theorem drop_cons {ns : List Int} {i : Nat} {a : Int} {l : List Int} (h : ns.drop i = a :: l) : ns[i]? = some a ∧ ns.drop (i + 1) = l ∧ i < ns.length := by
  have hi : i < ns.length := by
    by_cases c : i < ns.length
    · exact c
    · rw [List.drop_eq_nil_of_le (by omega)] at h
      cases h
  rw [List.drop_eq_getElem_cons hi] at h
  injection h with h1 h2
  exact ⟨by rw [List.getElem?_eq_getElem hi, h1], h2, hi⟩
theorem call_of {l : List Int} (h : Ue10Neutral.asked1 l = true) : ∃ x, Ue10Neutral.callIn (l.map Int.toNat) = some x ∧ (∀ z ∈ l, 0 ≤ z) ∧ ∀ s, Ue10Neutral.step s l = Ue10.step s x := by
  unfold Ue10Neutral.asked1 Ue10Neutral.callOf at h
  by_cases c : l.all Ue10Neutral.nat = false
  · rw [if_pos c] at h
    cases h
  · rw [if_neg c] at h
    obtain ⟨x, hx⟩ := Option.isSome_iff_exists.mp h
    refine ⟨x, hx, fun z hz => ?_, fun s => ?_⟩
    · have c' : l.all Ue10Neutral.nat = true := by
        cases q : l.all Ue10Neutral.nat with
        | true => rfl
        | false => exact absurd q c
      have := List.all_eq_true.mp c' z hz
      unfold Ue10Neutral.nat at this
      have := (Bool.and_eq_true_iff.mp this).1
      exact of_decide_eq_true this
    · unfold Ue10Neutral.step Ue10Neutral.callOf
      rw [if_neg c, hx]
theorem call_shape {p : Int} {r : List Int} {n k : Nat} {c : List (List Int)} {t : List Int} (hs : PyUe10.shape p = some (n, k)) (h : PyFlat.call PyUe10.shape (p :: r) = some (c, t)) :
    n ≤ r.length ∧ ∃ xs, PyFlat.rows k (r.drop n) = some (xs, t) ∧ c = (p :: r.take n) :: xs := by
  unfold PyFlat.call at h
  dsimp only at h
  rw [hs] at h
  dsimp only at h
  by_cases z : r.length < n
  · rw [if_pos z] at h
    cases h
  · rw [if_neg z] at h
    cases q : PyFlat.rows k (r.drop n) with
    | none =>
      rw [q] at h
      cases h
    | some y =>
      obtain ⟨xs, t'⟩ := y
      rw [q] at h
      cases h
      exact ⟨by omega, xs, rfl, rfl⟩
theorem natCast_eq {z : Int} (h : 0 ≤ z) : z = ((z.toNat : Nat) : Int) := by omega
theorem lists_len {p : Int} {xs row : List Int} {b : List (Int × Int)} {lo hi : Int} {least most : Nat} (hb : PyUe10.bound p = (b, [(lo, hi, least, most)])) (h : PyInside.call PyUe10.bound [p :: xs, row] = true) : row.length ≤ most := by
  unfold PyInside.call at h
  dsimp only at h
  rw [hb] at h
  have h2 := (Bool.and_eq_true_iff.mp h).2
  unfold PyInside.lists at h2
  have h3 := (Bool.and_eq_true_iff.mp (Bool.and_eq_true_iff.mp (Bool.and_eq_true_iff.mp h2).1).1).2
  exact of_decide_eq_true h3
section
variable {ns : List Int} {i : Nat} {p : Int} {r : List Int} {c : List (List Int)} {t : List Int}
/-- what a call's end is -/
def Ends (ns : List Int) (i : Nat) (c : List (List Int)) (t : List Int) : Prop := ∃ x j, Turn ns i j x ∧ i < j ∧ t = ns.drop j ∧ ∀ s, Ue10Neutral.step s ((PyUe10.whole c).headD []) = Ue10.step s x
/-- a row alone: do, would -/
theorem ends_row {k : Nat} {mk : List Cmd → Call} (hd : ns.drop i = (k : Int) :: r) (hs : PyUe10.shape (k : Int) = some (0, 1)) (hw : ∀ row, PyUe10.whole [[(k : Int)], row] = [(k : Int) :: row]) (hbd : PyUe10.bound (k : Int) = ([], [(0, 4294967295, 0, 160)]))
    (hc : ∀ l, Ue10Neutral.callIn (k :: l) = (Ue10Neutral.cmdsIn (l.length + 1) l).map mk)
    (mkT : ∀ (j n : Nat) (row : List Nat) (cs : List Cmd), ns[i]? = some (k : Int) → ns[i + 1]? = some (n : Int) → i + 2 + n ≤ ns.length → j = i + 2 + n → n ≤ 160 → (ns.drop (i + 2)).take n = ci row → Ue10Neutral.cmdsIn (row.length + 1) row = some cs → Turn ns i j (mk cs))
    (h : PyFlat.call PyUe10.shape ((k : Int) :: r) = some (c, t)) (hb : PyInside.call PyUe10.bound c = true) (ha : Ue10Neutral.asked1 ((PyUe10.whole c).headD []) = true) : Ends ns i c t := by
  obtain ⟨_, xs, hr, rfl⟩ := call_shape hs h
  obtain ⟨n, r', e1, e2, rfl, rfl⟩ := rows1_some hr
  have e1 : r = (n : Int) :: r' := e1
  subst e1
  obtain ⟨a1, a2, a3⟩ := drop_cons hd
  obtain ⟨b1, b2, b3⟩ := drop_cons a2
  have e3 : (k : Int) :: List.take 0 ((n : Int) :: r') = [(k : Int)] := rfl
  rw [e3] at ha hb ⊢
  have hl : (r'.take n).length = n := by
    rw [List.length_take]
    omega
  have hn := lists_len hbd hb
  rw [hl] at hn
  unfold Ends
  rw [hw] at ha ⊢
  obtain ⟨x, q1, q2, q3⟩ := call_of ha
  have q1 : Ue10Neutral.callIn ((k : Int).toNat :: (r'.take n).map Int.toNat) = some x := q1
  rw [Int.toNat_natCast, hc] at q1
  obtain ⟨cs, q4, rfl⟩ := Option.map_eq_some_iff.mp q1
  have hlen : r'.length = ns.length - (i + 2) := by
    have z := congrArg List.length b2
    rw [List.length_drop] at z
    exact z.symm
  refine ⟨mk cs, i + 2 + n, mkT _ n ((r'.take n).map Int.toNat) cs a1 b1 (by omega) rfl hn ?_ q4, by omega, ?_, q3⟩
  · rw [b2, ci_toNat]
    exact fun z hz => q2 z (List.mem_cons_of_mem _ hz)
  · rw [← b2, List.drop_drop]
/-- a number and a row: text, set -/
theorem ends_num {k : Nat} {most : Nat} (hd : ns.drop i = (k : Int) :: r) (hs : PyUe10.shape (k : Int) = some (1, 1)) (hw : ∀ x row, PyUe10.whole [[(k : Int), x], row] = [(k : Int) :: x :: row]) (hbd : PyUe10.bound (k : Int) = ([(0, 4294967295)], [(0, 4294967295, 0, most)]))
    (mkT : ∀ (j x n : Nat) (row : List Nat) (y : Call), ns[i]? = some (k : Int) → ns[i + 1]? = some (x : Int) → ns[i + 2]? = some (n : Int) → i + 3 + n ≤ ns.length → j = i + 3 + n → n ≤ most → (ns.drop (i + 3)).take n = ci row → Ue10Neutral.callIn (k :: x :: row) = some y → Turn ns i j y)
    (h : PyFlat.call PyUe10.shape ((k : Int) :: r) = some (c, t)) (hb : PyInside.call PyUe10.bound c = true) (ha : Ue10Neutral.asked1 ((PyUe10.whole c).headD []) = true) : Ends ns i c t := by
  obtain ⟨h1, xs, hr, rfl⟩ := call_shape hs h
  cases r with
  | nil => exact absurd h1 (by decide)
  | cons x0 r =>
    obtain ⟨n, r', e1, e2, rfl, rfl⟩ := rows1_some hr
    have e1 : r = (n : Int) :: r' := e1
    subst e1
    obtain ⟨a1, a2, a3⟩ := drop_cons hd
    obtain ⟨b1, b2, b3⟩ := drop_cons a2
    obtain ⟨d1, d2, d3⟩ := drop_cons b2
    have e3 : (k : Int) :: List.take 1 (x0 :: (n : Int) :: r') = [(k : Int), x0] := rfl
    rw [e3] at ha hb ⊢
    have hl : (r'.take n).length = n := by
      rw [List.length_take]
      omega
    have hn := lists_len hbd hb
    rw [hl] at hn
    unfold Ends
    rw [hw] at ha ⊢
    obtain ⟨x, q1, q2, q3⟩ := call_of ha
    have q1 : Ue10Neutral.callIn ((k : Int).toNat :: x0.toNat :: (r'.take n).map Int.toNat) = some x := q1
    rw [Int.toNat_natCast] at q1
    have hx0 : 0 ≤ x0 := q2 x0 (List.mem_cons_of_mem _ List.mem_cons_self)
    have hlen : r'.length = ns.length - (i + 3) := by
      have z := congrArg List.length d2
      rw [List.length_drop] at z
      exact z.symm
    refine ⟨x, i + 3 + n, mkT _ x0.toNat n ((r'.take n).map Int.toNat) x a1 (by rw [b1, ← natCast_eq hx0]) d1 (by omega) rfl hn ?_ q1, by omega, ?_, q3⟩
    · rw [d2, ci_toNat]
      exact fun z hz => q2 z (List.mem_cons_of_mem _ (List.mem_cons_of_mem _ hz))
    · rw [← d2, List.drop_drop]
/-- no row -/
theorem ends_none {k m : Nat} (hd : ns.drop i = (k : Int) :: r) (hs : PyUe10.shape (k : Int) = some (m, 0)) (hw : ∀ l : List Int, l.length = m → PyUe10.whole [(k : Int) :: l] = [(k : Int) :: l])
    (mkT : ∀ (l : List Int) (y : Call), l.length = m → ns[i]? = some (k : Int) → (∀ a, a < m → ns[i + 1 + a]? = l[a]?) → (∀ z ∈ l, 0 ≤ z) → Ue10Neutral.callIn (k :: l.map Int.toNat) = some y → Turn ns i (i + 1 + m) y)
    (h : PyFlat.call PyUe10.shape ((k : Int) :: r) = some (c, t)) (ha : Ue10Neutral.asked1 ((PyUe10.whole c).headD []) = true) : Ends ns i c t := by
  obtain ⟨h1, xs, hr, rfl⟩ := call_shape hs h
  have hr : some ([], r.drop m) = some (xs, t) := hr
  cases hr
  obtain ⟨a1, a2, a3⟩ := drop_cons hd
  have hl : (r.take m).length = m := by
    rw [List.length_take]
    omega
  unfold Ends
  rw [hw _ hl] at ha ⊢
  obtain ⟨x, q1, q2, q3⟩ := call_of ha
  have q1 : Ue10Neutral.callIn ((k : Int).toNat :: (r.take m).map Int.toNat) = some x := q1
  rw [Int.toNat_natCast] at q1
  refine ⟨x, i + 1 + m, mkT (r.take m) x hl a1 (fun a haa => ?_) (fun z hz => q2 z (List.mem_cons_of_mem _ hz)) q1, by omega, ?_, q3⟩
  · rw [List.getElem?_take, if_pos haa, ← a2, List.getElem?_drop]
  · rw [← a2, List.drop_drop]
theorem call_ends (hd : ns.drop i = p :: r) (h : PyFlat.call PyUe10.shape (p :: r) = some (c, t)) (hb : PyInside.call PyUe10.bound c = true) (ha : Ue10Neutral.asked1 ((PyUe10.whole c).headD []) = true) : Ends ns i c t := by
  by_cases h0 : p = 0
  · subst h0
    refine ends_num (k := 0) hd rfl (fun _ _ => rfl) rfl (fun j x n row y z1 z2 z3 z4 z5 z6 z7 z8 => ?_) h hb ha
    cases z8
    exact .text x n row z1 z2 z3 z4 z5 z6 z7
  by_cases h1 : p = 1
  · subst h1
    exact ends_row (k := 1) (mk := .do_) hd rfl (fun _ => rfl) rfl (fun _ => rfl) (fun j n row cs z1 z2 z3 z4 z5 z6 z7 => .do_ n row cs z1 z2 z3 z4 z5 z6 z7) h hb ha
  by_cases h2 : p = 2
  · subst h2
    refine ends_num (k := 2) hd rfl (fun _ _ => rfl) rfl (fun j x n row y z1 z2 z3 z4 z5 z6 z7 z8 => ?_) h hb ha
    have z8 : (Ue10Neutral.cmdsIn (row.length + 1) row).map (fun w => Call.set x w) = some y := z8
    obtain ⟨cs, z9, rfl⟩ := Option.map_eq_some_iff.mp z8
    exact .set x n row cs z1 z2 z3 z4 z5 z6 z7 z9
  by_cases h3 : p = 3
  · subst h3
    refine ends_none (k := 3) hd rfl (fun l hl => ?_) (fun l y hl z1 z2 z3 z4 => ?_) h ha
    · match l, hl with
      | [_], _ => rfl
    · match l, hl, z2, z3, z4 with
      | [x], _, z2, z3, z4 =>
        have z4 : some (Call.get x.toNat) = some y := z4
        cases z4
        have hx := z3 x List.mem_cons_self
        exact .get _ z1 ((z2 0 (by decide)).trans (by rw [← natCast_eq hx]; rfl)) rfl
  by_cases h4 : p = 4
  · subst h4
    refine ends_none (k := 4) hd rfl (fun l hl => ?_) (fun l y hl z1 z2 z3 z4 => ?_) h ha
    · match l, hl with
      | [_, _], _ => rfl
    · match l, hl, z2, z3, z4 with
      | [x, u], _, z2, z3, z4 =>
        have z4 : (if u.toNat = 0 then some (Call.record x.toNat false) else if u.toNat = 1 then some (Call.record x.toNat true) else none) = some y := z4
        have hx := z3 x List.mem_cons_self
        have hu := z3 u (List.mem_cons_of_mem _ List.mem_cons_self)
        by_cases c0 : u.toNat = 0
        · rw [if_pos c0] at z4
          cases z4
          refine .record _ false z1 ((z2 0 (by decide)).trans (by rw [← natCast_eq hx]; rfl)) ((z2 1 (by decide)).trans ?_) rfl
          have : u = 0 := by omega
          rw [this]
          rfl
        · rw [if_neg c0] at z4
          by_cases c1 : u.toNat = 1
          · rw [if_pos c1] at z4
            cases z4
            refine .record _ true z1 ((z2 0 (by decide)).trans (by rw [← natCast_eq hx]; rfl)) ((z2 1 (by decide)).trans ?_) rfl
            have : u = 1 := by omega
            rw [this]
            rfl
          · rw [if_neg c1] at z4
            cases z4
  by_cases h5 : p = 5
  · subst h5
    refine ends_none (k := 5) hd rfl (fun l hl => ?_) (fun l y hl z1 z2 z3 z4 => ?_) h ha
    · match l, hl with
      | [], _ => rfl
    · match l, hl, z4 with
      | [], _, z4 =>
        cases z4
        exact .halt_ z1 rfl
  by_cases h6 : p = 6
  · subst h6
    refine ends_none (k := 6) hd rfl (fun l hl => ?_) (fun l y hl z1 z2 z3 z4 => ?_) h ha
    · match l, hl with
      | [], _ => rfl
    · match l, hl, z4 with
      | [], _, z4 =>
        cases z4
        exact .shows z1 rfl
  by_cases h7 : p = 7
  · subst h7
    refine ends_none (k := 7) hd rfl (fun l hl => ?_) (fun l y hl z1 z2 z3 z4 => ?_) h ha
    · match l, hl with
      | [], _ => rfl
    · match l, hl, z4 with
      | [], _, z4 =>
        cases z4
        exact .undo z1 rfl
  by_cases h8 : p = 8
  · subst h8
    exact ends_row (k := 8) (mk := .would) hd rfl (fun _ => rfl) rfl (fun _ => rfl) (fun j n row cs z1 z2 z3 z4 z5 z6 z7 => .would n row cs z1 z2 z3 z4 z5 z6 z7) h hb ha
  by_cases h9 : p = 9
  · subst h9
    refine ends_none (k := 9) hd rfl (fun l hl => ?_) (fun l y hl z1 z2 z3 z4 => ?_) h ha
    · match l, hl with
      | [_], _ => rfl
    · match l, hl, z2, z3, z4 with
      | [x], _, z2, z3, z4 =>
        have z4 : some (Call.period x.toNat) = some y := z4
        cases z4
        have hx := z3 x List.mem_cons_self
        exact .period _ z1 ((z2 0 (by decide)).trans (by rw [← natCast_eq hx]; rfl)) rfl
  · unfold PyFlat.call PyUe10.shape at h
    dsimp only at h
    rw [if_neg h0, if_neg h1, if_neg h2, if_neg h3, if_neg h4, if_neg h5, if_neg h6, if_neg h7, if_neg h8, if_neg h9] at h
    cases h
end
/-- the answers, call by call -/
def playedC : St → List Call → List (List Int)
  | _, [] => []
  | s, c :: r => (step s c).2 :: playedC (step s c).1 r
theorem calls_turns {ns : List Int} : ∀ {raw : List (List (List Int))} {f i : Nat}, i ≤ ns.length → PyFlat.calls PyUe10.shape f (ns.drop i) = some raw → PyInside.calls PyUe10.bound raw = true →
    (∀ c ∈ raw, Ue10Neutral.asked1 ((PyUe10.whole c).headD []) = true) →
    ∃ xs : List Call, xs.length = raw.length ∧ Turns ns i xs ∧ ∀ s, PyFlat.played (fun s c => Ue10Neutral.step s (c.headD [])) s (raw.map PyUe10.whole) = playedC s xs := by
  intro raw f
  induction f generalizing raw with
  | zero =>
    intro i hi h _ _
    cases q : ns.drop i with
    | nil =>
      rw [q] at h
      have h : some [] = some raw := h
      cases h
      have : ns.length ≤ i := List.drop_eq_nil_iff.mp q
      exact ⟨[], rfl, by show i = ns.length; omega, fun s => rfl⟩
    | cons p r =>
      rw [q] at h
      cases h
  | succ f ih =>
    intro i hi h hb ha
    cases q : ns.drop i with
    | nil =>
      rw [q] at h
      have h : some [] = some raw := h
      cases h
      have : ns.length ≤ i := List.drop_eq_nil_iff.mp q
      exact ⟨[], rfl, by show i = ns.length; omega, fun s => rfl⟩
    | cons p r =>
      rw [q] at h
      unfold PyFlat.calls at h
      cases q2 : PyFlat.call PyUe10.shape (p :: r) with
      | none =>
        rw [q2] at h
        cases h
      | some ct =>
        obtain ⟨c, t⟩ := ct
        rw [q2] at h
        dsimp only at h
        cases q3 : PyFlat.calls PyUe10.shape f t with
        | none =>
          rw [q3] at h
          cases h
        | some cs =>
          rw [q3] at h
          cases h
          have hb' := List.all_eq_true.mp hb
          obtain ⟨x, j, tx, hij, ht, hstep⟩ := call_ends q q2 (hb' c List.mem_cons_self) (ha c List.mem_cons_self)
          rw [ht] at q3
          have hj : j ≤ ns.length := tx.le
          obtain ⟨xs, l1, l2, l3⟩ := ih hj q3 (List.all_eq_true.mpr fun y hy => hb' y (List.mem_cons_of_mem _ hy)) (fun y hy => ha y (List.mem_cons_of_mem _ hy))
          refine ⟨x :: xs, by rw [List.length_cons, List.length_cons, l1], ⟨j, tx, hij, (drop_cons q).2.2, l2⟩, fun s => ?_⟩
          show (Ue10Neutral.step s ((PyUe10.whole c).headD [])).2 :: PyFlat.played _ (Ue10Neutral.step s ((PyUe10.whole c).headD [])).1 (cs.map PyUe10.whole) = _
          rw [hstep, l3]
          rfl
/-- what is asked: some calls stand in the list, and these are its answers -/
theorem asked_turns {ns : List Int} (h : PyUe10.answers_asked ns = true) : ∃ xs : List Call, xs ≠ [] ∧ xs.length ≤ 30 ∧ Turns ns 0 xs ∧ PyUe10.answers ns = PyFlat.told (playedC init xs) := by
  unfold PyUe10.answers_asked at h
  cases q : PyFlat.calls PyUe10.shape ns.length ns with
  | none =>
    rw [q] at h
    cases h
  | some raw =>
    rw [q] at h
    dsimp only at h
    obtain ⟨h, _⟩ := Bool.and_eq_true_iff.mp h
    obtain ⟨h, hasked⟩ := Bool.and_eq_true_iff.mp h
    obtain ⟨h, hin⟩ := Bool.and_eq_true_iff.mp h
    obtain ⟨hne, hmost⟩ := Bool.and_eq_true_iff.mp h
    unfold Ue10Neutral.asked at hasked
    have hall := (Bool.and_eq_true_iff.mp hasked).1
    have hall : ∀ c ∈ raw, Ue10Neutral.asked1 ((PyUe10.whole c).headD []) = true := fun c hc =>
      List.all_eq_true.mp hall _ (List.mem_map.mpr ⟨PyUe10.whole c, List.mem_map.mpr ⟨c, hc, rfl⟩, rfl⟩)
    obtain ⟨xs, l1, l2, l3⟩ := calls_turns (i := 0) (Nat.zero_le _) (by rw [List.drop_zero]; exact q) hin hall
    have hm : raw.length ≤ 30 := of_decide_eq_true hmost
    refine ⟨xs, fun z => ?_, by omega, l2, ?_⟩
    · subst z
      have : raw = [] := List.length_eq_zero_iff.mp l1.symm
      subst this
      cases hne
    · unfold PyUe10.answers PyUe10.calls
      rw [q]
      dsimp only
      rw [l3]
      rfl
end Mp
/-! answers: the loop over the calls. -/
namespace Mp
open PySem PySem.Spec PyProof.Rows L2

/-- all of T is as it was, but the reader -/
def FrT (T : Addr → Prop) (rd : Addr) (H H' : Hp) : Prop := ∀ b o, H b = some o → T b → b ≠ rd → H' b = some o
/-- how a session lies in the heap, with nothing of its own in T: itself, its state -/
abbrev SAt := (Addr → Prop) → Hp → Addr → Ue10.House → Prop
def spCall (K : PySem.W.Frag) (CR : Addr) (SA : SAt) : Sp := fun vs H Q _ => ∃ (se rd l : Addr) (T : Addr → Prop) (g : Ue10.House) (i j : Nat) (ns : List Int) (x : Ue10.Call), vs = [.ref se, .ref rd] ∧ SA T H se g ∧ g.old.length ≤ 9999999 ∧ T rd ∧ RdAt CR H rd l i ∧ SqL K H l (ix ns) ∧ Turn ns i j x ∧
  ∀ H' p, FrT T rd H H' → SA T H' se (Ue10.step g x).1 → RdAt CR H' rd l j → H p = none → H' p = some (.lst (ix (Ue10.step g x).2)) → Q (.ref p) H'
def spSeNew (SA : SAt) (CS : Addr) : Sp := fun vs H Q _ => ∃ (a dx : Addr) (T : Addr → Prop), vs = [.ref a] ∧ H a = some (.ins CS dx []) ∧ (∀ t, T t → H t ≠ none) ∧ ¬ T a ∧ ∀ H', Keeps a H H' → SA T H' a Ue10.init → Q .non H'
/-- what is known of a session, whatever its fields F -/
structure SaOk (CS : Addr) (SA : SAt) (F : List Str) : Prop where
  same : ∀ {T H H' a g}, SA T H a g → Same H H' → SA T H' a g
  keep : ∀ {T H H' a g t}, SA T H a g → T t → (∀ xs, H t ≠ some (.tup xs)) → Keeps t H H' → H' t ≠ none → SA T H' a g
  more : ∀ {T H a g t o}, SA T H a g → H t = none → SA (fun b => T b ∨ b = t) (upd H t o) a g
  nt : ∀ {T H a g}, SA T H a g → ¬ T a
  cls : ∀ {T H a g}, SA T H a g → ∃ dx fs, H a = some (.ins CS dx fs) ∧ ∀ x : Str, F.all (fun y => !(x == y)) = true → fs.lookup x = none
def spAns (K : PySem.W.Frag) : Sp := fun vs H Q _ => ∃ (l : Addr) (ns : List Int) (xs : List Ue10.Call), vs = [.ref l] ∧ SqL K H l (ix ns) ∧ Turns ns 0 xs ∧ (PyFlat.told (playedC Ue10.init xs)).length ≤ 10000000 ∧
  ∀ H' p, H' p = some (.lst (ix (PyFlat.told (playedC Ue10.init xs)))) → Q (.ref p) H'
/-- of each call at most one more can be undone -/
theorem step_old (g : Ue10.House) (x : Ue10.Call) : (Ue10.step g x).1.old.length ≤ g.old.length + 1 := by
  cases x with
  | text t p =>
    show (if _ then (g, _) else _ : Ue10.House × List Int).1.old.length ≤ _
    split
    · exact Nat.le_succ _
    · exact Nat.zero_le _
  | do_ l =>
    show (if Ue10.programOk l = false then (g, _) else _ : Ue10.House × List Int).1.old.length ≤ _
    split
    · exact Nat.le_succ _
    · split
      · exact Nat.le_succ _
      · split
        · exact Nat.le_refl _
        · split
          · exact Nat.le_succ _
          · exact Nat.le_refl _
  | set r l =>
    show (if _ then (g, _) else if _ then (g, _) else _ : Ue10.House × List Int).1.old.length ≤ _
    split
    · exact Nat.le_succ _
    · split
      · exact Nat.le_succ _
      · exact Nat.le_succ _
  | get r => exact Nat.le_succ _
  | record r m =>
    show (if _ then (g, _) else if _ then (g, _) else _ : Ue10.House × List Int).1.old.length ≤ _
    split
    · exact Nat.le_succ _
    · split
      · exact Nat.le_succ _
      · exact Nat.le_succ _
  | halt_ =>
    obtain ⟨ed, regs, rec, old⟩ := g
    cases rec with
    | none => exact Nat.le_succ _
    | some y => exact Nat.le_succ _
  | shows => exact Nat.le_succ _
  | undo =>
    obtain ⟨ed, regs, rec, old⟩ := g
    cases old with
    | nil => exact Nat.le_succ _
    | cons e l =>
      show l.length ≤ (e :: l).length + 1
      rw [List.length_cons]
      omega
  | would l => exact Nat.le_succ _
  | period r => exact Nat.le_succ _
theorem told_cons (a : List Int) (r : List (List Int)) : PyFlat.told (a :: r) = (a.length : Int) :: a ++ PyFlat.told r := rfl
section
variable {P : Program} {w : World} {K : PySem.W.Frag} {mg : Str → Option Value} {base : Heap} {CR CS f : Addr} {fd : FuncData} {SA : SAt}
theorem ok_answers {fi fe fs fc : Addr} {k : Nat} (F : Fun K "answers" "answers" s_answers f fd) (R : RdC K CR) (Ci : Cb P w K mg base CX0 1 fi ["self", "numbers"] (spRdInit CR)) (Mi : Mk K CR fi) (gR : mg "Reader" = some (.ref CR)) (Ce : Cb P w K mg base CX0 1 fe ["self"] (spAtEnd K CR)) (me : Meth K CR "at_end" fe)
    (Cs : Cb P w K mg base CX0 k fs ["self"] (spSeNew SA CS)) (Ms : Mk K CS fs) (gS : mg "Session" = some (.ref CS)) (Cc : Cb P w K mg base CX0 (k + 2) fc ["session", "reader"] (spCall K CR SA)) (gc : mg "answer_call" = some (.ref fc)) (ml : mg "len" = none)
    {F' : List Str} (S : SaOk CS SA F') : FnOk P w K mg base CX0 (k + 3) f fd ["calls"] (spAns K) := by
  refine F.ok sc_answers (fun vs H Q _ h => ?_) (fun cdv A outer s H vs Q _ hr h => ?_)
  · obtain ⟨l, ns, xs, rfl, _⟩ := h
    rfl
  · refine ⟨_, pss_cons (ps_set (i := 1) sc_answers.nd rfl (Or.inl rfl) (pe_mk Ci Mi hr (by omega) (by rfl) gR (pa_cons (pv 0) pa_nil)))
      (pss_cons (ps_set (i := 2) sc_answers.nd rfl (Or.inl rfl) (pe_mk0 Cs Ms hr (by omega) (by rfl) gS))
      (pss_cons (ps_set (i := 3) sc_answers.nd rfl (Or.inl rfl) (pe_lst pa_nil))
      (pss_cons (ps_while PassesOwn.never (pt_not (pt_val (pe_mb0 Ce R.cl me hr (by omega) (pv 1))))
        (pss_cons (ps_set (i := 4) sc_answers.nd rfl (Or.inl rfl) (pe_cb Cc hr (by omega) (by rfl) gc (pa_cons (pv 2) (pa_cons (pv 1) pa_nil))))
        (pss_cons (ps_expr (pe_bm PySem.F.plainAttrs_list PySem.F.slot_list_append PySem.F.type_list_append mt_append (pv 3) (pa_cons (pe_callB call_len_seq (by rfl) ml PySem.boot_len (pa_cons (pv 4) pa_nil)) pa_nil)))
        (pss_one (ps_expr (pe_bm PySem.F.plainAttrs_list PySem.F.slot_list_extend PySem.F.type_list_extend mt_extend (pv 3) (pa_cons (pv 4) pa_nil)))))))
      (pss_one (ps_ret (pv 3)))))), ?_⟩
    obtain ⟨l, ns, xs0, rfl, hl, ht, hz, k0⟩ := h
    refine ⟨_, rfl, ?_⟩
    intro rd d1 n1 n2 n3
    have s1 : Same H (upd (upd H d1 (.own rd)) rd (.ins CR d1 [])) := fun b o z => by
      rw [upd_ne (ne_of_none z n1), upd_ne (ne_of_none z n2)]
      exact z
    refine ⟨rd, d1, l, rfl, upd_same, fun H1 k1 hR1 => ⟨rfl, ?_⟩⟩
    have s2 : Same H H1 := fun b o z => k1 b o (s1 b o z) (ne_of_none z n1)
    intro se d2 m1 m2 m3
    obtain ⟨dxr, hr1⟩ := id hR1
    have s3 : Same H1 (upd (upd H1 d2 (.own se)) se (.ins CS d2 [])) := fun b o z => by
      rw [upd_ne (ne_of_none z m1), upd_ne (ne_of_none z m2)]
      exact z
    have ho1 : ∀ {b}, (H b ≠ none ∨ b = rd) → H1 b ≠ none := fun {b} z => by
      rcases z with z | rfl
      · cases q : H b with
        | none => exact absurd q z
        | some o =>
          rw [s2 _ _ q]
          exact fun y => nomatch y
      · rw [hr1]
        exact fun y => nomatch y
    refine ⟨se, d2, fun b => H b ≠ none ∨ b = rd, rfl, upd_same, fun t z => ?_, fun z => ho1 z m1, fun H2 k2 hS2 => ⟨rfl, ?_⟩⟩
    · cases q : H1 t with
      | none => exact absurd q (ho1 z)
      | some o =>
        rw [s3 _ _ q]
        exact fun y => nomatch y
    have s4 : Same H1 H2 := fun b o z => k2 b o (s3 b o z) (ne_of_none z m1)
    refine ⟨(by show 0 ≤ sizeLine; omega), fun td ntd => ?_⟩
    have s5 : Same H2 (upd H2 td (.lst [])) := same_new ntd
    have hS5 := S.more (o := .lst []) hS2 ntd
    have htd0 : H td = none := same_none s2 (same_none s4 ntd)
    generalize hT0 : (fun b => (H b ≠ none ∨ b = rd) ∨ b = td) = T at hS5
    have tH : ∀ {b o}, H b = some o → T b := fun {b o} z => by
      rw [← hT0]
      exact .inl (.inl (by rw [z]; exact fun y => nomatch y))
    have trd : T rd := by
      rw [← hT0]
      exact .inl (.inr rfl)
    have ttd : T td := by
      rw [← hT0]
      exact .inr rfl
    refine ⟨fun mz σ H3 => ∃ (i : Nat) (xs : List Ue10.Call) (g : Ue10.House) (out : List Int) (v : Option V), mz = xs.length ∧ σ = [some (.ref l), some (.ref rd), some (.ref se), some (.ref td), v] ∧ Same H H3 ∧
      RdAt CR H3 rd l i ∧ SA T H3 se g ∧ H3 td = some (.lst (ix out)) ∧ Turns ns i xs ∧ g.old.length ≤ out.length ∧ out ++ PyFlat.told (playedC g xs) = PyFlat.told (playedC Ue10.init xs0),
      ⟨_, 0, xs0, Ue10.init, [], none, rfl, rfl, same_trans s2 (same_trans s4 s5), ⟨dxr, s5 _ _ (s4 _ _ hr1)⟩, hS5, upd_same, ht, Nat.le_refl _, rfl⟩, ?_⟩
    rintro mz σ H3 ⟨i, xs, g, out, v, rfl, rfl, sH, hR3, hS3, htd, hT, hold, heq⟩
    obtain ⟨dx3, hr3⟩ := id hR3
    have hl3 := sq_same hl sH
    refine ⟨_, rfl, rd, dx3, _, rfl, hr3, rF_no (by decide +kernel) (by decide +kernel), rd, l, i, ns, rfl, hR3, hl3, _, rfl, ?_⟩
    cases xs with
    | nil =>
      have hi : i = ns.length := hT
      rw [decide_eq_true (by omega : ns.length ≤ i)]
      refine ifF rfl ⟨_, rfl, k0 H3 td ?_⟩
      have e0 : PyFlat.told (playedC g []) = [] := rfl
      rw [← heq, e0, List.append_nil]
      exact htd
    | cons x xs =>
      obtain ⟨j, hturn, hij, hlt, hrest⟩ := hT
      rw [decide_eq_false (by omega : ¬ ns.length ≤ i)]
      refine ifT rfl ?_
      refine ⟨fun σ' H4 => ∃ mz', mz' < (x :: xs).length ∧ ∃ (i : Nat) (xs : List Ue10.Call) (g : Ue10.House) (out : List Int) (v : Option V), mz' = xs.length ∧ σ' = [some (.ref l), some (.ref rd), some (.ref se), some (.ref td), v] ∧ Same H H4 ∧
        RdAt CR H4 rd l i ∧ SA T H4 se g ∧ H4 td = some (.lst (ix out)) ∧ Turns ns i xs ∧ g.old.length ≤ out.length ∧ out ++ PyFlat.told (playedC g xs) = PyFlat.told (playedC Ue10.init xs0), fun σ' H' z => z, ?_⟩
      have heq' : out ++ (((Ue10.step g x).2.length : Int) :: (Ue10.step g x).2 ++ PyFlat.told (playedC (Ue10.step g x).1 xs)) = PyFlat.told (playedC Ue10.init xs0) := heq
      have hlen : out.length + (1 + (Ue10.step g x).2.length) ≤ 10000000 := by
        have z := congrArg List.length heq'
        rw [List.length_append, List.length_append, List.length_cons] at z
        omega
      refine ⟨_, rfl, _, rfl, se, rd, l, T, g, i, j, ns, x, rfl, hS3, (by omega), trd, hR3, hl3, hturn, fun H4 p fr hS4 hR4 np hp => ?_⟩
      have ntrd : td ≠ rd := ne_of htd hr3 (fun z => nomatch z)
      have htd4 : H4 td = some (.lst (ix out)) := fr td _ htd ttd ntrd
      have sH4 : Same H H4 := fun b o z => fr b o (sH b o z) (tH z) (ne_of_none z n1)
      have hptd : p ≠ td := Ne.symm (ne_of_none htd np)
      refine ⟨_, rfl, .inl ⟨rfl, _, SqL.of htd4⟩, _, rfl, p, _, rfl, .inl (SqL.of hp), td, _, _, rfl, rfl, htd4, (by rw [ix_len, sizeLine_eq]; omega), ?_⟩
      have kt : Keeps td H4 (upd H4 td (.lst (ix out ++ [.int (((ix (Ue10.step g x).2).length : Nat) : Int)]))) := Keeps.refl.upd
      have hp5 := kt _ _ hp hptd
      refine ⟨_, rfl, .inl ⟨rfl, _, SqL.of upd_same⟩, _, rfl, td, p, _, _, rfl, rfl, upd_same, hp5, ?_, ?_⟩
      · rw [List.length_append, ix_len, ix_len, sizeLine_eq]
        show out.length + 1 + _ ≤ _
        omega
      have kt2 := kt.upd (o := .lst (ix out ++ [.int (((ix (Ue10.step g x).2).length : Nat) : Int)] ++ ix (Ue10.step g x).2))
      obtain ⟨dx4, hr4⟩ := hR4
      refine ⟨xs.length, by rw [List.length_cons]; omega, j, xs, (Ue10.step g x).1, out ++ [((Ue10.step g x).2.length : Int)] ++ (Ue10.step g x).2, _, rfl, rfl, fun b o z => kt2 b o (sH4 b o z) (ne_of_none z htd0), ⟨dx4, kt2 _ _ hr4 (ne_of hr4 htd4 (fun z => nomatch z))⟩,
        S.keep hS4 ttd (fun xs => by rw [htd4]; exact fun z => nomatch z) kt2 (by rw [upd_same]; exact fun z => nomatch z), ?_, hrest, ?_, ?_⟩
      · rw [upd_same]
        refine congrArg (fun q => some (HO.lst q)) ?_
        unfold ix
        rw [List.map_append, List.map_append, List.length_map]
        rfl
      · have := step_old g x
        rw [List.length_append, List.length_append]
        show _ ≤ out.length + 1 + _
        omega
      · rw [← heq', List.append_assoc, List.append_assoc]
        rfl
end
end Mp
/-! answer_call: one call, or its refusal. -/
namespace Mp
open PySem PySem.Spec PyProof.Rows L2

/-- what the def of the n-th call promises: its number is taken from the reader already -/
def spX (K : PySem.W.Frag) (CR cR : Addr) (SA : SAt) (n : Nat) : Sp := fun vs H Q E => ∃ (se rd l : Addr) (T : Addr → Prop) (g : Ue10.House) (i j : Nat) (ns : List Int) (x : Ue10.Call), vs = [.ref se, .ref rd] ∧ SA T H se g ∧ g.old.length ≤ 9999999 ∧ T rd ∧ RdAt CR H rd l (i + 1) ∧ SqL K H l (ix ns) ∧ Turn ns i j x ∧ ns[i]? = some (n : Int) ∧
  (∀ H' p, FrT T rd H H' → SA T H' se (Ue10.step g x).1 → RdAt CR H' rd l j → H p = none → H' p = some (.lst (ix (Ue10.step g x).2)) → Q (.ref p) H') ∧
  ∀ z C d H', RfC K cR C → Ue10.step g x = (g, [z]) → Keeps rd H H' → RdAt CR H' rd l j → H d = none → H' d = some (.xd (numF z)) → E (.ref C) (some d) H'
theorem Turn.num {ns : List Int} {i j : Nat} {x : Ue10.Call} : Turn ns i j x → ∃ n : Nat, n < 10 ∧ ns[i]? = some (n : Int)
  | .text _ _ _ h _ _ _ _ _ _ => ⟨0, by decide, h⟩
  | .do_ _ _ _ h _ _ _ _ _ _ => ⟨1, by decide, h⟩
  | .set _ _ _ _ h _ _ _ _ _ _ _ => ⟨2, by decide, h⟩
  | .get _ h _ _ => ⟨3, by decide, h⟩
  | .record _ _ h _ _ _ => ⟨4, by decide, h⟩
  | .halt_ h _ => ⟨5, by decide, h⟩
  | .shows h _ => ⟨6, by decide, h⟩
  | .undo h _ => ⟨7, by decide, h⟩
  | .would _ _ _ h _ _ _ _ _ _ => ⟨8, by decide, h⟩
  | .period _ h _ _ => ⟨9, by decide, h⟩
section
variable {P : Program} {w : World} {K : PySem.W.Frag} {mg : Str → Option Value} {base : Heap} {CR cR f : Addr} {SA : SAt}
theorem ok_call {ft dC : Addr} {fs : List (Int × Addr)} {k : Nat} (D : Df K "answer_call" "answer_call" s_answer_call ["session", "reader"] f) (R : RdC K CR) (Ct : Cb P w K mg base CX0 1 ft ["self"] (spTake K CR)) (mt : Meth K CR "take" ft) (gR : mg "Refused" = some (.ref cR)) (gC : mg "CALLS" = some (.ref dC))
    (F : KFd K dC fs) (hF : ∀ n : Nat, n < 10 → ∃ a, fs.lookup (n : Int) = some a ∧ HeldX P w K mg base k a (spX K CR cR SA n)) (hk : 1 ≤ k)
    {CS : Addr} {F' : List Str} (S : SaOk CS SA F') :
    Cb P w K mg base CX0 (k + 1) f ["session", "reader"] (spCall K CR SA) := by
  refine D.ok sc_answer_call (fun vs H Q _ h => ?_) (fun cdv A outer s H vs Q _ hr h => ?_)
  · obtain ⟨se, rd, l, T, g, i, j, ns, x, rfl, _⟩ := h
    rfl
  · refine ⟨_, pss_cons (ps_set (i := 2) sc_answer_call.nd rfl (Or.inl rfl) (pe_ix ix_fd (pe_glob (v := .ref dC) rfl gC rfl) (pe_mb0 Ct R.cl mt hr hk (pv 1)) (fun _ _ => rfl)))
      (pss_one (ps_try_as (i := 3) rfl rfl sc_answer_call.nd rfl rfl ⟨rfl, by decide, .inl gR⟩ takes0
        (fun W pn xe tk _ => pss_one (ps_ret (pe_callXS (i := 2) (C := fun a sp => ∃ n : Nat, sp = spX K CR cR SA n ∧ HeldX P w K mg base k a sp) (fun a sp z => z.choose_spec.2) hr rfl (Or.inl rfl) (fun σ => passAt tk σ) (pa_cons (pv 0) (pa_cons (pv 1) pa_nil)))))
        (fun a oe cls d pn hz hf => pss_one (ps_ret (pe_lst (pa_cons (pe_xn hz hf (pv 3)) pa_nil)))))), ?_⟩
    obtain ⟨se, rd, l, T, g, i, j, ns, x, rfl, hS, hold, trd, hR, hl, hT, k0⟩ := h
    obtain ⟨n, hn, hns⟩ := hT.num
    obtain ⟨a, ha, hH⟩ := hF n hn
    obtain ⟨dx, hr1⟩ := id hR
    have rdt : ∀ {H'} {i}, RdAt CR H' rd l i → ∀ xs, H' rd ≠ some (.tup xs) := fun {H' i} ⟨_, z⟩ xs => by
      rw [z]
      exact fun y => nomatch y
    have rdn : ∀ {H'} {i}, RdAt CR H' rd l i → H' rd ≠ none := fun {H' i} ⟨_, z⟩ => by
      rw [z]
      exact fun y => nomatch y
    refine ⟨_, rfl, rd, dx, _, rfl, hr1, rF_no (by decide +kernel) (by decide +kernel), rd, l, i, ns, _, rfl, hR, hl, hns, fun H1 k1 hR1 => ?_⟩
    have hl1 := sq_keeps hr1 hl k1
    have hS1 := S.keep hS trd (rdt hR) k1 (rdn hR1)
    obtain ⟨dx1, hr1'⟩ := id hR1
    have back : ∀ {b : Addr}, H1 b = none → H b = none := fun {b} z => by
      cases q : H b with
      | none => rfl
      | some o =>
        have hb : b ≠ rd := fun e => by
          rw [e, hr1'] at z
          cases z
        have := k1 b o q hb
        rw [z] at this
        cases this
    have fr1 : ∀ {H'}, FrT T rd H1 H' → FrT T rd H H' := fun {H'} fr b o z n1 n2 => fr b o (k1 b o z n2) n1 n2
    refine ⟨dC, fs, _, a, rfl, rfl, F, ha, a, _, rfl, ⟨n, rfl, hH⟩, _, rfl, _, rfl, se, rd, l, T, g, i, j, ns, x, rfl, hS1, hold, trd, hR1, hl1, hT, hns, fun H2 p fr hS2 hR2 np hp => ?_, fun z C d H2 rf hst kp2 hR2 nd hd => ?_⟩
    · exact k0 H2 p (fr1 fr) hS2 hR2 (back np) hp
    · refine ⟨true, rf.te, fun _ e ne => ?_, fun q => Bool.noConfusion q⟩
      refine ⟨rfl, C, d, numF z, .int z, rfl, rf.xf, rf.ex.no, rfl, hd, lk0, (by show 1 ≤ sizeLine; rw [sizeLine_eq]; omega), fun p np => ?_⟩
      have hst1 : (Ue10.step g x).1 = g := by rw [hst]
      have hst2 : (Ue10.step g x).2 = [z] := by rw [hst]
      obtain ⟨dx2, hr2⟩ := id hR2
      have hS2 := S.keep hS1 trd (rdt hR1) kp2 (rdn hR2)
      have np1 : H1 p = none := by
        cases q : H1 p with
        | none => rfl
        | some o =>
          have q4 : p ≠ rd := fun e => by rw [e, hr2] at np; cases np
          have := kp2 p o q q4
          rw [np] at this
          cases this
      have sp : Same H2 (upd H2 p (.lst [.int z])) := same_new np
      refine k0 _ p (fr1 (fun b o y n1 n2 => sp b o (kp2 b o y n2))) ?_ ⟨dx2, sp _ _ hr2⟩ (back np1) ?_
      · rw [hst1]
        exact S.same hS2 sp
      · rw [hst2, upd_same]
        rfl
end
end Mp
/-! The session: how it lies in the heap; its calls. -/
namespace Mp
open PySem PySem.Spec PyProof.Rows L2

def rfV : Option (Nat × List Ue10.Cmd) → V
  | none => .non
  | some y => .int (y.1 : Int)
def sF (ed m : Addr) (v : V) (rc el : Addr) : List (Str × V) := [("editor", .ref ed), ("macros", .ref m), ("recorded_for", v), ("recorded", .ref rc), ("earlier", .ref el)]
structure SeC (K : PySem.W.Frag) (C : Addr) : Prop where
  cl : Cls K C
  nE : NoAttr K C "editor"
  nM : NoAttr K C "macros"
  nF : NoAttr K C "recorded_for"
  nR : NoAttr K C "recorded"
  nL : NoAttr K C "earlier"
section
variable {ed m rc ed' rc' el el' : Addr} {v v' : V}
theorem sF_e : (sF ed m v rc el).lookup ("editor" : Str) = some (.ref ed) := lk0
theorem sF_m : (sF ed m v rc el).lookup ("macros" : Str) = some (.ref m) := (lk1 (by decide +kernel)).trans lk0
theorem sF_f : (sF ed m v rc el).lookup ("recorded_for" : Str) = some v := (lk1 (by decide +kernel)).trans ((lk1 (by decide +kernel)).trans lk0)
theorem sF_r : (sF ed m v rc el).lookup ("recorded" : Str) = some (.ref rc) := (lk1 (by decide +kernel)).trans ((lk1 (by decide +kernel)).trans ((lk1 (by decide +kernel)).trans lk0))
theorem sF_l : (sF ed m v rc el).lookup ("earlier" : Str) = some (.ref el) := (lk1 (by decide +kernel)).trans ((lk1 (by decide +kernel)).trans ((lk1 (by decide +kernel)).trans ((lk1 (by decide +kernel)).trans lk0)))
theorem sF_no {x : Str} (h1 : (x == ("editor" : Str)) = false) (h2 : (x == ("macros" : Str)) = false) (h3 : (x == ("recorded_for" : Str)) = false) (h4 : (x == ("recorded" : Str)) = false) (h5 : (x == ("earlier" : Str)) = false) : (sF ed m v rc el).lookup x = none :=
  (lk1 h1).trans ((lk1 h2).trans ((lk1 h3).trans ((lk1 h4).trans ((lk1 h5).trans rfl))))
theorem sF_put_e : putF "editor" (.ref ed') (sF ed m v rc el) = sF ed' m v rc el := pt0
theorem sF_put_f : putF "recorded_for" v' (sF ed m v rc el) = sF ed m v' rc el := (pt1 (by decide +kernel)).trans (congrArg _ ((pt1 (by decide +kernel)).trans (congrArg _ pt0)))
theorem sF_put_r : putF "recorded" (.ref rc') (sF ed m v rc el) = sF ed m v rc' el := (pt1 (by decide +kernel)).trans (congrArg _ ((pt1 (by decide +kernel)).trans (congrArg _ ((pt1 (by decide +kernel)).trans (congrArg _ pt0)))))
theorem sF_put_l : putF "earlier" (.ref el') (sF ed m v rc el) = sF ed m v rc el' := (pt1 (by decide +kernel)).trans (congrArg _ ((pt1 (by decide +kernel)).trans (congrArg _ ((pt1 (by decide +kernel)).trans (congrArg _ ((pt1 (by decide +kernel)).trans (congrArg _ pt0)))))))
theorem sF_len : (sF ed m v rc el).length < 1000 := by show 5 < 1000; decide
end
def RecAt (H : Hp) (rc : Addr) : Option (Nat × List Ue10.Cmd) → Prop
  | none => True
  | some y => CmdsAt H rc y.2
/-- what a session has of its own, and may change -/
def Own (H : Hp) (a ed m b : Addr) : Prop := b = a ∨ b = ed ∨ b = m ∨ (∃ ms, H m = some (.lst ms) ∧ V.ref b ∈ ms) ∨ ∃ C dx fs, H a = some (.ins C dx fs) ∧ fs.lookup ("recorded" : Str) = some (.ref b) ∧ fs.lookup ("recorded_for" : Str) ≠ some .non
theorem paired_mem {α β : Type} {F G : α → β → Prop} : ∀ {l : List α} {m : List β}, (∀ a b, a ∈ l → F a b → G a b) → Paired F l m → Paired G l m
  | _, _, _, .nil => .nil
  | _, _, h, .cons r t => .cons (h _ _ (List.mem_cons_self ..) r) (paired_mem (fun a b z => h a b (List.mem_cons_of_mem _ z)) t)
theorem paired_left {α β : Type} {F : α → β → Prop} : ∀ {l : List α} {m : List β} {a : α}, Paired F l m → a ∈ l → ∃ b, F a b
  | _, _, _, .nil, h => nomatch h
  | _, _, _, .cons r t, h => by
    rcases List.mem_cons.mp h with rfl | h
    · exact ⟨_, r⟩
    · exact paired_left t h
/-- nothing of its own is in T -/
structure Av (T : Addr → Prop) (H : Hp) (a ed m : Addr) : Prop where
  tr : ∀ t, T t → H t ≠ none
  no : ∀ b, Own H a ed m b → ¬ T b
theorem Own.eq {H H' : Hp} {a ed m b : Addr} (e1 : H' a = H a) (e2 : H' m = H m) : Own H' a ed m b → Own H a ed m b
  | .inl h => .inl h
  | .inr (.inl h) => .inr (.inl h)
  | .inr (.inr (.inl h)) => .inr (.inr (.inl h))
  | .inr (.inr (.inr (.inl h))) => .inr (.inr (.inr (.inl (by rw [← e2]; exact h))))
  | .inr (.inr (.inr (.inr h))) => .inr (.inr (.inr (.inr (by rw [← e1]; exact h))))
theorem Av.of {T : Addr → Prop} {H H' : Hp} {a ed ed' m m' : Addr} (h : Av T H a ed m) (ht : ∀ t, T t → H' t ≠ none) (ho : ∀ b, Own H' a ed' m' b → Own H a ed m b ∨ ¬ T b) : Av T H' a ed' m' := ⟨ht, fun b z t => (ho b z).elim (fun y => h.no b y t) (fun y => y t)⟩
theorem Av.fresh {T : Addr → Prop} {H : Hp} {a ed m b : Addr} (h : Av T H a ed m) (n : H b = none) : ¬ T b := fun t => h.tr b t n
/-- a register is set -/
theorem Av.reg {T : Addr → Prop} {H H' : Hp} {a ed m : Addr} {ms ms' : List V} (h : Av T H a ed m) (ht : ∀ t, T t → H' t ≠ none) (e1 : H' a = H a) (hm : H m = some (.lst ms)) (hm' : H' m = some (.lst ms')) (hx : ∀ b, V.ref b ∈ ms' → V.ref b ∈ ms ∨ ¬ T b) : Av T H' a ed m := by
  refine h.of ht fun b z => ?_
  rcases z with z | z | z | ⟨ms2, z1, z2⟩ | z
  · exact .inl (.inl z)
  · exact .inl (.inr (.inl z))
  · exact .inl (.inr (.inr (.inl z)))
  · rw [hm'] at z1
    cases z1
    exact (hx b z2).imp (fun y => .inr (.inr (.inr (.inl ⟨_, hm, y⟩)))) id
  · rw [e1] at z
    exact .inl (.inr (.inr (.inr (.inr z))))
/-- fields of the session are set -/
theorem Av.fld {T : Addr → Prop} {H H' : Hp} {a ed ed' m C dx : Addr} {fs' : List (Str × V)} (h : Av T H a ed m) (ht : ∀ t, T t → H' t ≠ none) (e2 : H' m = H m) (h1 : H' a = some (.ins C dx fs'))
    (hr : ∀ b, fs'.lookup ("recorded" : Str) = some (.ref b) → fs'.lookup ("recorded_for" : Str) ≠ some .non → Own H a ed m b ∨ ¬ T b) (he : ed' = ed ∨ ¬ T ed') : Av T H' a ed' m := by
  refine h.of ht fun b z => ?_
  rcases z with z | z | z | z | ⟨C2, dx2, fs2, z1, z2, z3⟩
  · exact .inl (.inl z)
  · rcases he with he | he
    · exact .inl (.inr (.inl (z.trans he)))
    · exact .inr (by rw [z]; exact he)
  · exact .inl (.inr (.inr (.inl z)))
  · rw [e2] at z
    exact .inl (.inr (.inr (.inr (.inl z))))
  · rw [h1] at z1
    cases z1
    exact hr b z2 z3
theorem upd_some {H : Hp} {a t : Addr} {o : HO} (h : H t ≠ none) : upd H a o t ≠ none := by
  by_cases e : t = a
  · rw [e, upd_same]
    exact fun y => nomatch y
  · rw [upd_ne e]
    exact h
theorem same_some {H H' : Hp} {b : Addr} (s : Same H H') (h : H b ≠ none) : H' b = H b := by
  cases q : H b with
  | none => exact absurd q h
  | some o => exact s _ _ q
/-- at a: a session in the state g, its editor at ed, its registers at m, nothing of its own in T -/
structure SesI (T : Addr → Prop) (CS CE : Addr) (H : Hp) (a : Addr) (g : Ue10.House) (de m el : Addr) : Prop where
  ob : ∃ dx rc, H a = some (.ins CS dx (sF de m (rfV g.recording) rc el)) ∧ RecAt H rc g.recording
  ed : EdAt CE H de g.ed
  ok : EOk g.ed
  mac : MacAt H m g.registers
  gok : GOk g.registers
  rok : ∀ r cs, g.recording = some (r, cs) → r < 10 ∧ cs.length ≤ 40 ∧ ∀ x ∈ cs, Ue10.cmdOk x = true
  av : Av T H a de m
/-- T, and the list of what can be undone -/
def TU (T : Addr → Prop) (el : Addr) : Addr → Prop := fun b => T b ∨ b = el
/-- at el: the editors that can be had back, the newest last -/
def OldI (T : Addr → Prop) (CE : Addr) (H : Hp) (el : Addr) (old : List Ed) : Prop := ¬ T el ∧ (∀ e ∈ old, EOk e) ∧ ∃ es : List Addr, H el = some (.lst (es.map V.ref).reverse) ∧ Paired (fun x e => EdAt CE H x e ∧ ¬ T x) es old
def SesA (CS CE : Addr) : SAt := fun T H a g => ∃ ed m el, SesI (TU T el) CS CE H a g ed m el ∧ OldI T CE H el g.old
section
variable {CS CE : Addr} {H H' : Hp} {a el : Addr} {old : List Ed} {T : Addr → Prop}
theorem OldI.mv (h : OldI T CE H el old) (k : ∀ b o, H b = some o → (b = el ∨ (∃ xs, o = .tup xs) ∨ ((∃ C dx fs, o = .ins C dx fs ∧ fs.length = 3) ∧ ¬ T b)) → H' b = some o) : OldI T CE H' el old := by
  obtain ⟨h1, h2, es, h3, h4⟩ := h
  exact ⟨h1, h2, es, k _ _ h3 (.inl rfl), paired_imp (fun x e ⟨⟨dx, t, z1, z2⟩, z3⟩ => ⟨⟨dx, t, k _ _ z1 (.inr (.inr ⟨⟨_, _, _, rfl, rfl⟩, z3⟩)), k _ _ z2 (.inr (.inl ⟨_, rfl⟩))⟩, z3⟩) h4⟩
theorem OldI.same (h : OldI T CE H el old) (s : Same H H') : OldI T CE H' el old := h.mv fun b o z _ => s b o z
theorem OldI.lst (h : OldI T CE H el old) : ∃ xs, H el = some (.lst xs) := by
  obtain ⟨_, _, es, h3, _⟩ := h
  exact ⟨_, h3⟩
theorem OldI.kse {dx : Addr} {fs : List (Str × V)} (h : OldI T CE H el old) (h1 : H a = some (.ins CS dx fs)) (hf : fs.length = 5) (k : Keeps a H H') : OldI T CE H' el old := by
  refine h.mv fun b o z y => k b o z fun e => ?_
  obtain ⟨xs, hl⟩ := h.lst
  rcases y with y | ⟨ys, y⟩ | ⟨⟨C, dx', fs', y, y3⟩, _⟩
  · rw [← y, e, h1] at hl
    cases hl
  · rw [e, h1, y] at z
    cases z
  · rw [e, h1, y] at z
    cases z
    rw [hf] at y3
    cases y3
theorem OldI.km {m : Addr} {xs : List V} (h : OldI T CE H el old) (hm : H m = some (.lst xs)) (ne : el ≠ m) (k : Keeps m H H') : OldI T CE H' el old := by
  refine h.mv fun b o z y => k b o z fun e => ?_
  rcases y with y | ⟨ys, y⟩ | ⟨⟨C, dx', fs', y, y3⟩, _⟩
  · exact ne (y.symm.trans e)
  · rw [e, hm, y] at z
    cases z
  · rw [e, hm, y] at z
    cases z
theorem OldI.keep {t : Addr} (h : OldI T CE H el old) (ht : T t) (nt : ∀ xs, H t ≠ some (.tup xs)) (k : Keeps t H H') : OldI T CE H' el old := by
  refine h.mv fun b o z y => k b o z fun e => ?_
  rcases y with y | ⟨ys, y⟩ | ⟨_, y⟩
  · exact h.1 (by rw [← y, e]; exact ht)
  · exact nt ys (by rw [← e, z, y])
  · exact y (by rw [e]; exact ht)
theorem OldI.more {t : Addr} {o : HO} (h : OldI T CE H el old) (nt : H t = none) : OldI (fun b => T b ∨ b = t) CE (upd H t o) el old := by
  obtain ⟨h1, h2, es, h3, h4⟩ := h
  have s := same_new (o := o) nt
  refine ⟨fun z => ?_, h2, es, s _ _ h3, paired_imp (fun x e ⟨⟨dx, t', z1, z2⟩, z3⟩ => ⟨⟨dx, t', s _ _ z1, s _ _ z2⟩, fun z => ?_⟩) h4⟩
  · rcases z with z | z
    · exact h1 z
    · rw [z, nt] at h3
      cases h3
  · rcases z with z | z
    · exact z3 z
    · rw [z, nt] at z1
      cases z1
end
/-- all of T is as it was -/
def FrA (T : Addr → Prop) (H H' : Hp) : Prop := ∀ b o, H b = some o → T b → H' b = some o
theorem FrA.tr {T : Addr → Prop} {H H' : Hp} (h : FrA T H H') (t : ∀ t, T t → H t ≠ none) : ∀ t, T t → H' t ≠ none := fun b z => by
  cases q : H b with
  | none => exact absurd q (t b z)
  | some o =>
    rw [h b o q z]
    exact fun y => nomatch y
/-- tuples and lists, all but the list at m, are as they were -/
def TL (m : Addr) (H H' : Hp) : Prop := (∀ b xs, H b = some (.tup xs) → H' b = some (.tup xs)) ∧ ∀ b xs, H b = some (.lst xs) → b ≠ m → H' b = some (.lst xs)
section
variable {CS CE : Addr} {H H' : Hp} {a ed m el : Addr} {g : Ue10.House} {T : Addr → Prop}
theorem TL.cmds {p : Addr} {cs : List Ue10.Cmd} (h : TL m H H') (hp : p ≠ m) (c : CmdsAt H p cs) : CmdsAt H' p cs := by
  obtain ⟨as, h1, h2⟩ := c
  exact ⟨as, h.2 _ _ h1 hp, paired_imp (fun a b z => h.1 _ _ z) h2⟩
theorem SesI.ne (h : SesI T CS CE H a g ed m el) : a ≠ ed := by
  obtain ⟨dx, rc, h1, _⟩ := h.ob
  obtain ⟨dx2, t, h2, _⟩ := h.ed
  intro z
  rw [← z, h1] at h2
  have z2 := Option.some.inj h2
  injection z2 with _ _ z3
  have z4 : (sF ed m (rfV g.recording) rc el).length = (eF t g.ed.at_ g.ed.held).length := congrArg List.length z3
  exact absurd z4 (by show ¬ (5 = 3); decide)
theorem SesI.same (h : SesI T CS CE H a g ed m el) (s : Same H H') : SesI T CS CE H' a g ed m el := by
  obtain ⟨dx, rc, h1, h2⟩ := h.ob
  obtain ⟨dx2, t, h3, h4⟩ := h.ed
  obtain ⟨ms, h5, h6⟩ := h.mac
  refine ⟨⟨dx, rc, s _ _ h1, ?_⟩, ⟨dx2, t, s _ _ h3, s _ _ h4⟩, h.ok, ⟨ms, s _ _ h5, paired_imp (fun c y z => z.same s) h6⟩, h.gok, h.rok, h.av.of (fun t z => by rw [same_some s (h.av.tr t z)]; exact h.av.tr t z) (fun b z => .inl (z.eq ((s _ _ h1).trans h1.symm) ((s _ _ h5).trans h5.symm)))⟩
  cases q : g.recording with
  | none => trivial
  | some y =>
    rw [q] at h2
    exact CmdsAt.same h2 s
theorem SesI.kinds (h : SesI T CS CE H a g ed m el) : (∃ C dx fs, H a = some (.ins C dx fs)) ∧ (∃ C dx fs, H ed = some (.ins C dx fs)) ∧ (∃ xs, H m = some (.lst xs)) := by
  obtain ⟨dx, rc, h1, h2⟩ := h.ob
  obtain ⟨dx2, t, h3, h4⟩ := h.ed
  obtain ⟨ms, h5, h6⟩ := h.mac
  exact ⟨⟨_, _, _, h1⟩, ⟨_, _, _, h3⟩, ⟨_, h5⟩⟩
theorem keeps_some {t c : Addr} (k : Keeps c H H') (hc : H' c ≠ none) (h : H t ≠ none) : H' t ≠ none := by
  by_cases e : t = c
  · rw [e]
    exact hc
  · cases q : H t with
    | none => exact absurd q h
    | some o =>
      rw [k t o q e]
      exact fun y => nomatch y
theorem SesI.own_rc {dx rc : Addr} (h : H a = some (.ins CS dx (sF ed m (rfV g.recording) rc el))) (q : rfV g.recording ≠ .non) : Own H a ed m rc := .inr (.inr (.inr (.inr ⟨_, _, _, h, sF_r, by rw [sF_f]; exact fun y => q (Option.some.inj y)⟩)))
/-- another editor -/
theorem SesI.avE {H2 : Hp} {x dx rc : Addr} (h : SesI T CS CE H a g ed m el) (s : Same H H2) (h1 : H2 a = some (.ins CS dx (sF ed m (rfV g.recording) rc el))) (h' : H' a = some (.ins CS dx (sF x m (rfV g.recording) rc el))) (k : Keeps a H2 H') (nx : x = ed ∨ ¬ T x) : Av T H' a x m := by
  have h2 := h.same s
  obtain ⟨dx0, rc0, y1, _⟩ := h.ob
  obtain ⟨ms, y5, _⟩ := h.mac
  have n : m ≠ a := ne_of y5 y1 (fun z => nomatch z)
  refine h.av.fld (fun t z => keeps_some k (by rw [h']; exact fun y => nomatch y) (h2.av.tr t z)) ((k _ _ (s _ _ y5) n).trans y5.symm) h' (fun b y1' y2' => .inl ?_) nx
  rw [sF_r] at y1'
  cases y1'
  rw [sF_f] at y2'
  have e1 : H2 a = H a := (s _ _ y1).trans y1.symm
  rw [e1] at h1
  exact SesI.own_rc h1 (fun y => y2' (congrArg some y))
/-- something of T changes -/
theorem SesI.keep {t : Addr} (h : SesI T CS CE H a g ed m el) (ht : T t) (nt : ∀ xs, H t ≠ some (.tup xs)) (k : Keeps t H H') (ns : H' t ≠ none) : SesI T CS CE H' a g ed m el := by
  obtain ⟨dx, rc, h1, h2⟩ := h.ob
  obtain ⟨dx2, t2, h3, h4⟩ := h.ed
  obtain ⟨ms, h5, h6⟩ := h.mac
  have ne : ∀ {b}, Own H a ed m b → b ≠ t := fun {b} z e => h.av.no b z (by rw [e]; exact ht)
  have tu : ∀ {b xs}, H b = some (.tup xs) → H' b = some (.tup xs) := fun {b xs} z => k b _ z (fun e => nt xs (by rw [← e]; exact z))
  have cm : ∀ {p cs}, p ≠ t → CmdsAt H p cs → CmdsAt H' p cs := fun {p cs} n ⟨as, c1, c2⟩ => ⟨as, k _ _ c1 n, paired_imp (fun _ _ z => tu z) c2⟩
  have h1' := k _ _ h1 (ne (.inl rfl))
  have h5' := k _ _ h5 (ne (.inr (.inr (.inl rfl))))
  refine ⟨⟨dx, rc, h1', ?_⟩, ⟨dx2, t2, k _ _ h3 (ne (.inr (.inl rfl))), tu h4⟩, h.ok, ⟨ms, h5', paired_mem (fun c y hc z => cm (ne (.inr (.inr (.inr (.inl ⟨_, h5, List.mem_map_of_mem hc⟩))))) z) h6⟩, h.gok, h.rok, h.av.of (fun b z => ?_) (fun b z => .inl (z.eq (h1'.trans h1.symm) (h5'.trans h5.symm)))⟩
  · cases q : g.recording with
    | none => trivial
    | some y =>
      rw [q] at h2
      exact cm (ne (.inr (.inr (.inr (.inr ⟨_, _, _, h1, sF_r, by rw [sF_f, q]; exact fun y => nomatch y⟩))))) h2
  · by_cases e : b = t
    · rw [e]
      exact ns
    · cases q : H b with
      | none => exact absurd q (h.av.tr b z)
      | some o =>
        rw [k b o q e]
        exact fun y => nomatch y
theorem SesI.more {t : Addr} {o : HO} (h : SesI T CS CE H a g ed m el) (nt : H t = none) : SesI (fun b => T b ∨ b = t) CS CE (upd H t o) a g ed m el := by
  have hs := h.same (same_new (o := o) nt)
  obtain ⟨dx, rc, h1, h2⟩ := h.ob
  obtain ⟨dx2, t2, h3, h4⟩ := h.ed
  obtain ⟨ms, h5, h6⟩ := h.mac
  have s := same_new (o := o) nt
  refine ⟨hs.ob, hs.ed, hs.ok, hs.mac, hs.gok, hs.rok, ⟨fun b z => ?_, fun b z y => ?_⟩⟩
  · rcases z with z | rfl
    · exact hs.av.tr b z
    · rw [upd_same]
      exact fun y => nomatch y
  · rcases y with y | rfl
    · exact hs.av.no b z y
    · have z2 : Own H a ed m b := z.eq ((s _ _ h1).trans h1.symm) ((s _ _ h5).trans h5.symm)
      rcases z2 with rfl | rfl | rfl | ⟨ms', e1, e2⟩ | ⟨C, dx', fs, e1, e2, e3⟩
      · rw [nt] at h1
        cases h1
      · rw [nt] at h3
        cases h3
      · rw [nt] at h5
        cases h5
      · rw [h5] at e1
        cases e1
        obtain ⟨c, hc, e⟩ := List.mem_map.mp e2
        cases e
        obtain ⟨y, as, q, _⟩ := paired_left h6 hc
        rw [nt] at q
        cases q
      · rw [h1] at e1
        cases e1
        rw [sF_r] at e2
        cases e2
        rw [sF_f] at e3
        cases q : g.recording with
        | none =>
          rw [q] at e3
          exact e3 rfl
        | some y =>
          rw [q] at h2
          obtain ⟨as, z3, _⟩ := h2
          rw [nt] at z3
          cases z3
end
theorem SesI.mono {T T2 : Addr → Prop} {CS CE : Addr} {H : Hp} {a ed m el : Addr} {g : Ue10.House} (h : SesI T CS CE H a g ed m el) (k : ∀ b, T2 b → T b) : SesI T2 CS CE H a g ed m el := ⟨h.ob, h.ed, h.ok, h.mac, h.gok, h.rok, ⟨fun t z => h.av.tr t (k t z), fun b z t => h.av.no b z (k b t)⟩⟩
section
variable {CS CE : Addr} {H H' : Hp} {a ed m el : Addr} {g g' : Ue10.House} {T : Addr → Prop}
theorem SesI.cmdK {b : Addr} {ys : List Ue10.Cmd} (h : SesI T CS CE H a g ed m el) (k : Keeps a H H') : CmdsAt H b ys → CmdsAt H' b ys := fun ⟨bs, c1, c2⟩ => by
  obtain ⟨dx0, rc, y1, _⟩ := h.ob
  exact ⟨bs, k _ _ c1 (ne_of c1 y1 (fun y => nomatch y)), paired_imp (fun u v (y : H u = some (.tup (tx (Ue10.numbersOf v)))) => k u _ y (ne_of y y1 (fun y => nomatch y))) c2⟩
theorem SesI.edK {x : Addr} {e : Ed} (h : SesI T CS CE H a g ed m el) (k : Keeps a H H') : EdAt CE H x e → EdAt CE H' x e := fun ⟨dxe, te, e1, e2⟩ => by
  obtain ⟨dx0, rc, y1, _⟩ := h.ob
  refine ⟨dxe, te, k _ _ e1 (fun z => ?_), k _ _ e2 (ne_of e2 y1 (fun y => nomatch y))⟩
  rw [z, y1] at e1
  have z2 := Option.some.inj e1
  injection z2 with _ _ z3
  have z4 : (sF ed m (rfV g.recording) rc el).length = (eF te e.at_ e.held).length := congrArg List.length z3
  exact absurd z4 (by show ¬ (5 = 3); decide)
theorem SesI.recK {rc : Addr} (h : SesI T CS CE H a g ed m el) (k : Keeps a H H') : ∀ {r : Option (Nat × List Ue10.Cmd)}, RecAt H rc r → RecAt H' rc r
  | none, _ => trivial
  | some _, z => h.cmdK k z
/-- fields of the session are set -/
theorem SesI.put {dx rc' ed' el' : Addr} (h : SesI T CS CE H a g ed m el) (k : Keeps a H H') (h1 : H' a = some (.ins CS dx (sF ed' m (rfV g'.recording) rc' el'))) (hr : RecAt H' rc' g'.recording) (he : EdAt CE H' ed' g'.ed) (ok : EOk g'.ed) (hg : g'.registers = g.registers)
    (rok : ∀ r cs, g'.recording = some (r, cs) → r < 10 ∧ cs.length ≤ 40 ∧ ∀ x ∈ cs, Ue10.cmdOk x = true) (orc : g'.recording ≠ none → ¬ T rc') (oed : ¬ T ed') : SesI T CS CE H' a g' ed' m el' := by
  obtain ⟨dx0, rc, y1, _⟩ := h.ob
  obtain ⟨ms, y5, y6⟩ := h.mac
  have y5' := k _ _ y5 (ne_of y5 y1 (fun y => nomatch y))
  refine ⟨⟨dx, rc', h1, hr⟩, he, ok, ⟨ms, y5', by rw [hg]; exact paired_imp (fun _ _ z => h.cmdK k z) y6⟩, by rw [hg]; exact h.gok, rok, ?_⟩
  refine ⟨fun t z => keeps_some k (by rw [h1]; exact fun y => nomatch y) (h.av.tr t z), fun b z tb => ?_⟩
  rcases z with z | z | z | ⟨ms', z1, z2⟩ | ⟨C2, dx2, fs2, z1, z2, z3⟩
  · exact h.av.no b (.inl z) tb
  · exact oed (by rw [← z]; exact tb)
  · exact h.av.no b (.inr (.inr (.inl z))) tb
  · rw [y5'] at z1
    cases z1
    exact h.av.no b (.inr (.inr (.inr (.inl ⟨_, y5, z2⟩)))) tb
  · rw [h1] at z1
    cases z1
    rw [sF_r] at z2
    cases z2
    rw [sF_f] at z3
    refine orc (fun q => z3 ?_) tb
    rw [q]
    rfl
end
theorem sesA_ok {CS CE : Addr} : SaOk CS (SesA CS CE) ["editor", "macros", "recorded_for", "recorded", "earlier"] where
  same := fun ⟨ed, m, el, h, o⟩ s => ⟨ed, m, el, h.same s, o.same s⟩
  keep := fun ⟨ed, m, el, h, o⟩ ht nt k ns => ⟨ed, m, el, h.keep (.inl ht) nt k ns, o.keep ht nt k⟩
  more := fun ⟨ed, m, el, h, o⟩ nt => ⟨ed, m, el, (h.more nt).mono fun b z => z.elim (fun y => y.elim (fun x => .inl (.inl x)) .inr) (fun y => .inl (.inr y)), o.more nt⟩
  nt := fun ⟨ed, m, el, h, o⟩ z => h.av.no _ (.inl rfl) (.inl z)
  cls := fun ⟨ed, m, el, h, o⟩ => by
    obtain ⟨dx, rc, h1, h2⟩ := h.ob
    refine ⟨dx, _, h1, fun x hx => ?_⟩
    have e : ∀ y ∈ (["editor", "macros", "recorded_for", "recorded", "earlier"] : List Str), (x == y) = false := fun y hy => by
      have := List.all_eq_true.mp hx y hy
      simpa using this
    exact sF_no (e _ (by decide +kernel)) (e _ (by decide +kernel)) (e _ (by decide +kernel)) (e _ (by decide +kernel)) (e _ (by decide +kernel))
/-- what a call of the session may do -/
structure MOk (K : PySem.W.Frag) (cR : Addr) (SA : SAt) (T : Addr → Prop) (se : Addr) (g : Ue10.House) (x : Ue10.Call) (H : Hp) (Q : VK) (E : XK) : Prop where
  ok : ∀ H' p, FrA T H H' → SA T H' se (Ue10.step g x).1 → H p = none → H' p = some (.lst (ix (Ue10.step g x).2)) → Q (.ref p) H'
  no : ∀ z C d H', RfC K cR C → Ue10.step g x = (g, [z]) → Same H H' → H d = none → H' d = some (.xd (numF z)) → E (.ref C) (some d) H'
theorem MOk.rz {K : PySem.W.Frag} {cR : Addr} {SA : SAt} {T : Addr → Prop} {se : Addr} {g : Ue10.House} {x : Ue10.Call} {H : Hp} {Q : VK} {E : XK} {z : Int} (h : MOk K cR SA T se g x H Q E) (e : Ue10.step g x = (g, [z])) : Rz K cR z H E := fun C d H' rf s nd hd => h.no z C d H' rf e s nd hd
def spSlot (K : PySem.W.Frag) (cR : Addr) : Sp := fun vs H Q E => ∃ r : Nat, vs = [.int (r : Int)] ∧ (r < 10 → Q .non H) ∧ (10 ≤ r → Rz K cR (-2) H E)
/-- session.get(r) and its like: one number -/
def spM1 (K : PySem.W.Frag) (cR : Addr) (SA : SAt) (x : Nat → Ue10.Call) : Sp := fun vs H Q E => ∃ (se : Addr) (T : Addr → Prop) (g : Ue10.House) (r : Nat), vs = [.ref se, .int (r : Int)] ∧ SA T H se g ∧ MOk K cR SA T se g (x r) H Q E
section
variable {P : Program} {w : World} {K : PySem.W.Frag} {mg : Str → Option Value} {base : Heap} {CS CE cR f : Addr}
theorem ok_slot {t1 : Tok} (D : Df K "check_slot" "check_slot" s_check_slot ["slot"] f) (g1 : mg "LAST_SLOT" = some (.int 9 t1)) (R : RzT P w K mg base cR "NoSuchRegister" (-2)) : Cb P w K mg base (L2.CX P w) 4 f ["slot"] (spSlot K cR) := by
  refine D.okX sc_check_slot (fun vs H Q _ h => ?_) (fun cdv A outer s H vs Q E hr h => ?_)
  · obtain ⟨r, rfl, _⟩ := h
    rfl
  · refine ⟨_, pss_one (ps_if (pt_cmpR op_gt (pv 0) (pe_glob (v := .int 9) rfl g1 ⟨_, rfl⟩) (nomark _)) (pss_one (ps_rz R hr (by decide) (by rfl) rfl (takes_of rfl rfl rfl rfl))) pss_nil), ?_⟩
    obtain ⟨r, rfl, k1, k0⟩ := h
    refine ⟨_, rfl, _, _, rfl, rfl, _, rfl, ?_⟩
    by_cases c : r < 10
    · refine ifF (decide_eq_false (by omega)) (k1 c)
    · refine ifT (decide_eq_true (by omega)) (k0 (by omega))
theorem step_get {g : Ue10.House} {r : Nat} (h : r < 10) : Ue10.step g (.get r) = (g, ((g.registers.getD r []).length : Int) :: Ue10.ints ((g.registers.getD r []).flatMap Ue10.numbersOf)) := by
  show (g, if 10 ≤ r then [-2] else _) = _
  rw [if_neg (by omega)]
theorem reg_get {H : Hp} {m : Addr} {g : List (List Ue10.Cmd)} {r : Nat} (h : MacAt H m g) (ok : GOk g) (hr : r < 10) : ∃ (ms : List Addr) (la : Addr) (cs : List Ue10.Cmd), H m = some (.lst (ms.map V.ref)) ∧ (ms.map V.ref)[r]? = some (.ref la) ∧ CmdsAt H la cs ∧ g.getD r [] = cs ∧ cs.length ≤ 40 ∧ (∀ x ∈ cs, Ue10.cmdOk x = true) := by
  obtain ⟨ms, hm, hpr⟩ := h
  obtain ⟨cs, hcs⟩ : ∃ cs, g[r]? = some cs := ⟨_, List.getElem?_eq_getElem (by rw [ok.len]; exact hr)⟩
  have hml : ms.length = g.length := Paired.length hpr
  obtain ⟨la, hla⟩ : ∃ la, ms[r]? = some la := ⟨_, List.getElem?_eq_getElem (by rw [hml, ok.len]; exact hr)⟩
  obtain ⟨cs', hcs', hca⟩ := paired_get hpr hla
  rw [hcs] at hcs'
  cases hcs'
  refine ⟨ms, la, cs, hm, ?_, hca, ?_, (ok.ok cs (List.mem_of_getElem? hcs)).1, (ok.ok cs (List.mem_of_getElem? hcs)).2⟩
  · rw [List.getElem?_map, hla]
    rfl
  · rw [List.getD_eq_getElem?_getD, hcs]
    rfl
theorem numbers_len (x : Ue10.Cmd) : (Ue10.numbersOf x).length ≤ 3 := by
  cases x <;> simp [Ue10.numbersOf]
theorem flat_len : ∀ cs : List Ue10.Cmd, (cs.flatMap Ue10.numbersOf).length ≤ 3 * cs.length
  | [] => Nat.le_refl _
  | x :: cs => by
    rw [List.flatMap_cons, List.length_append, List.length_cons]
    have := numbers_len x
    have := flat_len cs
    omega
theorem ix_ints (l : List Nat) : ix (Ue10.ints l) = tx l := by
  unfold ix Ue10.ints tx
  rw [List.map_map]
  rfl
theorem ok_get {fc : Addr} (D : Df K "look_up" "Session.look_up" s_Session_look_up ["self", "slot"] f) (Z : SeC K CS) (ml : mg "len" = none) (Cc : Cb P w K mg base (L2.CX P w) 4 fc ["slot"] (spSlot K cR)) (gc : mg "check_slot" = some (.ref fc)) :
    Cb P w K mg base (L2.CX P w) 5 f ["self", "slot"] (spM1 K cR (SesA CS CE) .get) := by
  refine D.okX sc_Session_look_up (fun vs H Q _ h => ?_) (fun cdv A outer s H vs Q E hr h => ?_)
  · obtain ⟨se, T, g, r, rfl, _⟩ := h
    rfl
  · refine ⟨_, pss_cons (ps_expr (pe_cbX Cc hr (by decide) (by rfl) gc (takes_of rfl rfl rfl rfl) (pa_cons (pv 1) pa_nil)))
      (pss_cons (ps_set (i := 2) sc_Session_look_up.nd rfl (Or.inl rfl) (pe_lst (pa_cons (pe_callB call_len_seq (by rfl) ml PySem.boot_len (pa_cons (pe_ix ix_list (pe_fld (pv 0) rfl) (pv 1) (fun _ _ => rfl)) pa_nil)) pa_nil)))
      (pss_cons (ps_for (passes_of rfl) rfl (pi_list (pe_ix ix_list (pe_fld (pv 0) rfl) (pv 1) (fun _ _ => rfl))) (pg_name (i := 3) sc_Session_look_up.nd rfl (Or.inl rfl))
        (pss_one (ps_expr (pe_bm PySem.F.plainAttrs_list PySem.F.slot_list_extend PySem.F.type_list_extend mt_extT (pv 2) (pa_cons (pv 3) pa_nil)))))
      (pss_one (ps_ret (pv 2))))), ?_⟩
    obtain ⟨se, T, g, r, rfl, ⟨ed, m, el, hS, hO⟩, k⟩ := h
    refine ⟨_, rfl, r, rfl, fun hr10 => ?_, fun hr10 => k.rz (by show (g, if 10 ≤ r then [-2] else _) = _; rw [if_pos hr10])⟩
    obtain ⟨dx, rc, h1, h2⟩ := hS.ob
    obtain ⟨ms, la, cs, hm, hla, hca, hg, h40, _⟩ := reg_get hS.mac hS.gok hr10
    obtain ⟨as, ha1, ha2⟩ := id hca
    have hlen : as.length = cs.length := Paired.length ha2
    refine ⟨_, rfl, _, _, _, _, _, rfl, h1, Z.cl, Z.nM, sF_m, _, rfl, m, _, _, _, rfl, rfl, SqL.of hm, atI_nat hla, la, _, rfl, .inl (SqL.of ha1), (by show 1 ≤ sizeLine; rw [sizeLine_eq]; omega), fun p np => ?_⟩
    rw [List.length_map, hlen]
    have s1 : Same H (upd H p (.lst [.int (cs.length : Int)])) := same_new np
    have hlap : la ≠ p := ne_of_none ha1 np
    refine ⟨_, rfl, _, _, _, _, _, rfl, s1 _ _ h1, Z.cl, Z.nM, sF_m, _, rfl, m, _, _, _, rfl, rfl, SqL.of (s1 _ _ hm), atI_nat hla, la, rfl, ⟨_, SqL.of (s1 _ _ ha1)⟩, for_list (K := K) (a := la) (xs := as.map V.ref) (fun i σ H' => (∃ v, σ = [some (.ref se), some (.int (r : Int)), some (.ref p), v]) ∧ Keeps p (upd H p (.lst [.int (cs.length : Int)])) H' ∧ H' p = some (.lst (.int (cs.length : Int) :: tx ((cs.take i).flatMap Ue10.numbersOf))))
      ⟨⟨none, rfl⟩, Keeps.refl, upd_same⟩ (fun i σ H' _ z => SqL.of (z.2.1 _ _ (s1 _ _ ha1) hlap)) ?_ ?_⟩
    · rintro i y σ H' hy ⟨⟨v, rfl⟩, kp, hp⟩
      rw [List.getElem?_map] at hy
      obtain ⟨ca, hca', rfl⟩ := Option.map_eq_some_iff.mp hy
      obtain ⟨c, hc, hcc⟩ := paired_get ha2 hca'
      have hcc' : H' ca = some (.tup (tx (Ue10.numbersOf c))) := kp _ _ (s1 _ _ hcc) (ne_of_none hcc np)
      have e : cs.take (i + 1) = cs.take i ++ [c] := by
        rw [List.take_add_one, hc]
        rfl
      refine ⟨_, rfl, .inl ⟨rfl, _, SqL.of hp⟩, _, rfl, p, ca, _, _, rfl, rfl, hp, SqT.of hcc', ?_, ⟨_, rfl⟩, kp.upd, ?_⟩
      · have f1 := flat_len (cs.take i)
        have f2 := numbers_len c
        have f3 : (cs.take i).length ≤ 40 := by
          rw [List.length_take]
          omega
        rw [List.length_cons, tx_len, tx_len, sizeLine_eq]
        omega
      · rw [upd_same, e, List.flatMap_append]
        refine congrArg (fun q => some (HO.lst q)) ?_
        show V.int (cs.length : Int) :: (tx _ ++ tx _) = _
        rw [tx_app]
        show _ = V.int (cs.length : Int) :: tx (_ ++ (Ue10.numbersOf c ++ []))
        rw [List.append_nil]
    · rintro σ H' ⟨⟨v, rfl⟩, kp, hp⟩
      rw [List.length_map, hlen, List.take_length] at hp
      have sH : Same H H' := fun b o z => kp b o (s1 b o z) (ne_of_none z np)
      refine ⟨_, rfl, k.ok H' p (fun b o z _ => sH b o z) ?_ np ?_⟩
      · rw [step_get hr10]
        exact ⟨ed, m, el, hS.same sH, hO.same sH⟩
      · rw [step_get hr10, hp, hg]
        refine congrArg (fun q => some (HO.lst q)) ?_
        show _ = V.int (cs.length : Int) :: ix (Ue10.ints _)
        rw [ix_ints]
end
end Mp
namespace Mp
open PySem PySem.Spec PyProof.Rows L2

/-- a list of commands is none of registers -/
theorem cmds_ne {H : Hp} {p m : Addr} {cs : List Ue10.Cmd} {g : List (List Ue10.Cmd)} (hc : CmdsAt H p cs) (hm : MacAt H m g) (ok : GOk g) : p ≠ m := by
  obtain ⟨as, h1, h2⟩ := hc
  obtain ⟨ms, h3, h4⟩ := hm
  intro z
  rw [z, h3] at h1
  have e := Option.some.inj h1
  injection e with e
  have hl : ms.length = 10 := (Paired.length h4).trans ok.len
  cases ms with
  | nil => cases hl
  | cons y ms =>
    cases as with
    | nil => cases e
    | cons u as =>
      injection e with e1 e2
      injection e1 with e1
      cases h2 with
      | cons r1 _ =>
        cases h4 with
        | cons r2 _ =>
          obtain ⟨bs, r3, _⟩ := r2
          have r1 : H u = some _ := r1
          rw [← e1, r3] at r1
          cases r1
/-- session.set(r, commands) and its like -/
def spMset (K : PySem.W.Frag) (cR : Addr) (SA : SAt) : Sp := fun vs H Q E => ∃ (se l : Addr) (T : Addr → Prop) (g : Ue10.House) (r f : Nat) (row : List Nat) (cs : List Ue10.Cmd), vs = [.ref se, .int (r : Int), .ref l] ∧ SA T H se g ∧ SqL K H l (tx row) ∧ row.length ≤ 1000 ∧ Ue10Neutral.cmdsIn f row = some cs ∧ MOk K cR SA T se g (.set r cs) H Q E
def spMrec (K : PySem.W.Frag) (cR : Addr) (SA : SAt) : Sp := fun vs H Q E => ∃ (se : Addr) (T : Addr → Prop) (g : Ue10.House) (r : Nat) (b : Bool), vs = [.ref se, .int (r : Int), .int (if b = true then 1 else 0)] ∧ SA T H se g ∧ MOk K cR SA T se g (.record r b) H Q E
def spMtext (K : PySem.W.Frag) (cR : Addr) (SA : SAt) : Sp := fun vs H Q E => ∃ (se l : Addr) (T : Addr → Prop) (g : Ue10.House) (p : Nat) (row : List Nat), vs = [.ref se, .int (p : Int), .ref l] ∧ SA T H se g ∧ SqL K H l (tx row) ∧ row.length ≤ 1000 ∧ MOk K cR SA T se g (.text row p) H Q E
section
variable {P : Program} {w : World} {K : PySem.W.Frag} {mg : Str → Option Value} {base : Heap} {CS CE cR f : Addr}
theorem paired_set {α β : Type} {F : α → β → Prop} {a : α} {b : β} (h : F a b) : ∀ {l : List α} {m : List β} (i : Nat), Paired F l m → Paired F (l.set i a) (m.set i b)
  | _, _, _, .nil => .nil
  | _, _, 0, .cons _ t => .cons h t
  | _, _, i + 1, .cons r t => .cons r (paired_set h i t)
theorem gok_set {g : List (List Ue10.Cmd)} {r : Nat} {cs : List Ue10.Cmd} (ok : GOk g) (h : Ue10.programOk cs = true) : GOk (g.set r cs) := by
  have h := Bool.and_eq_true_iff.mp h
  refine ⟨by rw [List.length_set]; exact ok.len, fun l hl => ?_⟩
  rcases List.mem_or_eq_of_mem_set hl with z | z
  · exact ok.ok l z
  · subst z
    exact ⟨of_decide_eq_true h.1, fun x hx => List.all_eq_true.mp h.2 x hx⟩
theorem gok_set2 {g : List (List Ue10.Cmd)} {r : Nat} {cs : List Ue10.Cmd} (ok : GOk g) (h4 : cs.length ≤ 40) (hc : ∀ x ∈ cs, Ue10.cmdOk x = true) : GOk (g.set r cs) := by
  refine ⟨by rw [List.length_set]; exact ok.len, fun l hl => ?_⟩
  rcases List.mem_or_eq_of_mem_set hl with z | z
  · exact ok.ok l z
  · subst z
    exact ⟨h4, hc⟩
/-- a register is set -/
theorem SesI.setReg {T : Addr → Prop} {H : Hp} {a ed m el q : Addr} {g : Ue10.House} {ms : List Addr} {r : Nat} {cs : List Ue10.Cmd} (h : SesI T CS CE H a g ed m el) (hm : H m = some (.lst (ms.map V.ref))) (hr : r < 10) (hq : CmdsAt H q cs) (h4 : cs.length ≤ 40) (hc : ∀ x ∈ cs, Ue10.cmdOk x = true) (nq : ¬ T q) :
    SesI T CS CE (upd H m (.lst ((ms.map V.ref).set r (.ref q)))) a { g with registers := g.registers.set r cs } ed m el := by
  obtain ⟨dx, rc, h1, h2⟩ := h.ob
  obtain ⟨dx2, t2, h3, h4'⟩ := h.ed
  obtain ⟨ms0, y5, y6⟩ := h.mac
  have ems : ms0 = ms := by
    rw [hm] at y5
    have e := Option.some.inj y5
    injection e with e
    have inj : ∀ {l l' : List Addr}, l.map V.ref = l'.map V.ref → l' = l := fun {l} => by
      induction l with
      | nil =>
        intro l' z
        cases l' with
        | nil => rfl
        | cons _ _ => cases z
      | cons x l ih =>
        intro l' z
        cases l' with
        | nil => cases z
        | cons y l' =>
          injection z with z1 z2
          injection z1 with z1
          rw [ih z2, z1]
    exact inj e
  subst ems
  have kM : Keeps m H (upd H m (.lst ((ms0.map V.ref).set r (.ref q)))) := Keeps.refl.upd
  have tu : ∀ {b xs}, H b = some (.tup xs) → (upd H m (.lst ((ms0.map V.ref).set r (.ref q)))) b = some (.tup xs) := fun {b xs} z => kM b _ z (ne_of z hm (fun y => nomatch y))
  have cm : ∀ {b ys}, CmdsAt H b ys → CmdsAt (upd H m (.lst ((ms0.map V.ref).set r (.ref q)))) b ys := fun {b ys} z => by
    have hb := cmds_ne z h.mac h.gok
    obtain ⟨bs, c1, c2⟩ := z
    exact ⟨bs, kM _ _ c1 hb, paired_imp (fun _ _ y => tu y) c2⟩
  have ims : a ≠ m := ne_of h1 hm (fun z => nomatch z)
  have hset : (ms0.map V.ref).set r (.ref q) = (ms0.set r q).map V.ref := by
    rw [List.map_set]
  have av2 : Av T (upd H m (.lst ((ms0.map V.ref).set r (.ref q)))) a ed m := by
    refine h.av.reg (fun t z => upd_some (h.av.tr t z)) (upd_ne ims) y5 upd_same fun b z => ?_
    rcases List.mem_or_eq_of_mem_set z with z | z
    · exact .inl z
    · cases z
      exact .inr nq
  refine ⟨⟨dx, rc, kM _ _ h1 ims, ?_⟩, ⟨dx2, t2, kM _ _ h3 (ne_of h3 hm (fun z => nomatch z)), tu h4'⟩, h.ok, ⟨ms0.set r q, by rw [upd_same, hset], paired_set (cm hq) r (paired_imp (fun _ _ z => cm z) y6)⟩, gok_set2 h.gok h4 hc, h.rok, av2⟩
  show RecAt _ rc g.recording
  cases hrec : g.recording with
  | none => trivial
  | some y =>
    rw [hrec] at h2
    exact cm h2
theorem ok_fill {fc fr : Addr} (D : Df K "fill" "Session.fill" s_Session_fill ["self", "slot", "numbers"] f) (Z : SeC K CS) (ml : mg "len" = none) (Cc : Cb P w K mg base (L2.CX P w) 4 fc ["slot"] (spSlot K cR)) (gc : mg "check_slot" = some (.ref fc))
    (Cr : Cb P w K mg base (L2.CX P w) 5 fr ["numbers"] (spReadC K cR)) (gr : mg "read_commands" = some (.ref fr)) : Cb P w K mg base (L2.CX P w) 6 f ["self", "slot", "numbers"] (spMset K cR (SesA CS CE)) := by
  refine D.okX sc_Session_fill (fun vs H Q _ h => ?_) (fun cdv A outer s H vs Q E hr h => ?_)
  · obtain ⟨se, l, T, g, r, f, row, cs, rfl, _⟩ := h
    rfl
  · refine ⟨_, pss_cons (ps_expr (pe_cbX Cc hr (by decide) (by rfl) gc (takes_of rfl rfl rfl rfl) (pa_cons (pv 1) pa_nil)))
      (pss_cons (ps_asg (pe_cbX Cr hr (by decide) (by rfl) gr (takes_of rfl rfl rfl rfl) (pa_cons (pv 2) pa_nil)) (pg_sub (pe_fld (pv 0) rfl) (pv 1) set_list))
      (pss_one (ps_ret (pe_lst (pa_cons (pe_callB call_len_seq (by rfl) ml PySem.boot_len (pa_cons (pe_ix ix_list (pe_fld (pv 0) rfl) (pv 1) (fun _ _ => rfl)) pa_nil)) pa_nil))))), ?_⟩
    obtain ⟨se, l, T, g, r, f0, row, cs, rfl, ⟨ed, m, el, hS, hO⟩, hl, hz, hc, k⟩ := h
    refine ⟨_, rfl, r, rfl, fun hr10 => ?_, fun hr10 => k.rz (by show (if 10 ≤ r then (g, [-2]) else _) = _; rw [if_pos hr10])⟩
    refine ⟨_, rfl, l, row, f0, cs, rfl, hl, hz, hc, fun hok H1 q s1 nq hq => ?_, fun hok => k.rz (by show (if 10 ≤ r then (g, [-2]) else if Ue10.programOk cs = false then (g, [-1]) else _) = _; rw [if_neg (by omega), if_pos hok])⟩
    have hS1 := hS.same s1
    obtain ⟨dx, rc, h1, h2⟩ := hS1.ob
    obtain ⟨ms, hm, hpr⟩ := hS1.mac
    have hml : ms.length = 10 := (Paired.length hpr).trans hS1.gok.len
    have hqm : q ≠ m := cmds_ne hq hS1.mac hS1.gok
    have hst : Ue10.step g (.set r cs) = ({ g with registers := g.registers.set r cs }, Ue10.ints [cs.length]) := by
      show (if 10 ≤ r then (g, [-2]) else if Ue10.programOk cs = false then (g, [-1]) else _) = _
      rw [if_neg (by omega), if_neg (by rw [hok]; decide)]
    refine ⟨_, rfl, _, _, _, _, _, rfl, h1, Z.cl, Z.nM, sF_m, _, rfl, m, _, _, r, rfl, rfl, hm, ?_, ?_⟩
    · unfold ixN
      rw [if_pos (by omega), if_pos (by rw [List.length_map, hml]; omega), Int.toNat_natCast]
    have kM : Keeps m H1 (upd H1 m (.lst ((ms.map V.ref).set r (.ref q)))) := Keeps.refl.upd
    have ims : se ≠ m := ne_of h1 hm (fun z => nomatch z)
    have h1' := kM _ _ h1 ims
    have hset : (ms.map V.ref).set r (.ref q) = (ms.set r q).map V.ref := by
      rw [List.map_set]
    obtain ⟨as, hqa, hqb⟩ := id hq
    have hal : as.length = cs.length := Paired.length hqb
    refine ⟨_, rfl, _, _, _, _, _, rfl, h1', Z.cl, Z.nM, sF_m, _, rfl, m, _, _, _, rfl, rfl, SqL.of upd_same, atI_nat (by rw [List.getElem?_set_self (by rw [List.length_map, hml]; exact hr10)]), q, _, rfl, .inl (SqL.of (kM _ _ hqa hqm)), (by show 1 ≤ sizeLine; rw [sizeLine_eq]; omega), fun p np => ?_⟩
    have s3 : Same (upd H1 m (.lst ((ms.map V.ref).set r (.ref q)))) (upd (upd H1 m (.lst ((ms.map V.ref).set r (.ref q)))) p (.lst [.int (((as.map V.ref).length : Nat) : Int)])) := same_new np
    have hS2 := hS1.setReg hm hr10 hq (of_decide_eq_true (Bool.and_eq_true_iff.mp hok).1) (fun x hx => List.all_eq_true.mp (Bool.and_eq_true_iff.mp hok).2 x hx) (hS.av.fresh nq)
    have hO2 := ((hO.same s1).km hm (fun e => hS.av.no m (.inr (.inr (.inl rfl))) (.inr e.symm)) kM)
    refine k.ok _ p (fun b o z tb => s3 b o (kM b o (s1 b o z) (fun e => hS.av.no m (.inr (.inr (.inl rfl))) (.inl (by rw [← e]; exact tb))))) ?_ ?_ ?_
    · rw [hst]
      exact ⟨ed, m, el, hS2.same s3, hO2.same s3⟩
    · refine same_none s1 ?_
      have hpm : p ≠ m := fun e => by
        rw [e, upd_same] at np
        cases np
      rw [upd_ne hpm] at np
      exact np
    · rw [hst, upd_same, List.length_map, hal]
      rfl
theorem ok_record {fc : Addr} (D : Df K "record" "Session.record" s_Session_record ["self", "slot", "more"] f) (Z : SeC K CS) (ml : mg "len" = none) (Cc : Cb P w K mg base (L2.CX P w) 4 fc ["slot"] (spSlot K cR)) (gc : mg "check_slot" = some (.ref fc)) (R : RzT P w K mg base cR "OutOfTurn" (-7)) :
    Cb P w K mg base (L2.CX P w) 5 f ["self", "slot", "more"] (spMrec K cR (SesA CS CE)) := by
  refine D.okX sc_Session_record (fun vs H Q _ h => ?_) (fun cdv A outer s H vs Q E hr h => ?_)
  · obtain ⟨se, T, g, r, b, rfl, _⟩ := h
    rfl
  · refine ⟨_, pss_cons (ps_expr (pe_cbX Cc hr (by decide) (by rfl) gc (takes_of rfl rfl rfl rfl) (pa_cons (pv 1) pa_nil)))
      (pss_cons (ps_if (pt_cmp (pc_notN (pe_fld (pv 0) rfl))) (pss_one (ps_rz R hr (by decide) (by rfl) rfl (takes_of rfl rfl rfl rfl))) pss_nil)
      (pss_cons (ps_fld (pv 0) (pv 1) rfl)
      (pss_cons (ps_fld (pv 0) (pe_ifExp (pt_cmpR op_eq (pv 2) pe_int (nomark _)) (pe_ix ix_list (pe_fld (pv 0) rfl) (pv 1) (fun _ _ => rfl)) (pe_lst pa_nil)) rfl)
      (pss_one (ps_ret (pe_lst (pa_cons (pe_callB call_len_seq (by rfl) ml PySem.boot_len (pa_cons (pe_fld (pv 0) rfl) pa_nil)) pa_nil))))))), ?_⟩
    obtain ⟨se, T, g, r, b, rfl, ⟨ed, m, el, hS, hO⟩, k⟩ := h
    refine ⟨_, rfl, r, rfl, fun hr10 => ?_, fun hr10 => k.rz (by show (if 10 ≤ r then (g, [-2]) else _) = _; rw [if_pos hr10])⟩
    obtain ⟨dx, rc, h1, h2⟩ := hS.ob
    refine ⟨_, rfl, _, _, _, _, _, rfl, h1, Z.cl, Z.nF, sF_f, _, rfl, ?_⟩
    cases hrec : g.recording with
    | some y =>
      refine ifT rfl ?_
      exact k.rz (by show (if 10 ≤ r then (g, [-2]) else if g.recording.isSome = true then (g, [-7]) else _) = _; rw [if_neg (by omega), if_pos (by rw [hrec]; rfl)])
    | none =>
      refine ifF rfl ?_
      have hst : Ue10.step g (.record r b) = ({ g with recording := some (r, if b = true then g.registers.getD r [] else []) }, Ue10.ints [if b = true then (g.registers.getD r []).length else 0]) := by
        show (if 10 ≤ r then (g, [-2]) else if g.recording.isSome = true then (g, [-7]) else _) = _
        rw [if_neg (by omega), if_neg (by rw [hrec]; decide)]
      rw [hrec] at h1
      refine ⟨_, rfl, _, rfl, se, CS, dx, _, rfl, h1, Z.cl, Z.nF, sF_len, ?_⟩
      rw [sF_put_f]
      have kA : Keeps se H (upd H se (.ins CS dx (sF ed m (.int (r : Int)) rc el))) := Keeps.refl.upd
      have fin : ∀ (H2 : Hp) (q : Addr) (cs : List Ue10.Cmd), ¬ TU T el q → Keeps se H H2 → H2 se = some (.ins CS dx (sF ed m (.int (r : Int)) q el)) → CmdsAt H2 q cs → (if b = true then g.registers.getD r [] else []) = cs → cs.length ≤ 40 → (∀ x ∈ cs, Ue10.cmdOk x = true) →
          ∀ p, H2 p = none → Q (.ref p) (upd H2 p (.lst [.int (cs.length : Int)])) := fun H2 q cs oq k2 h3 hq hcs h40 hok p np => by
        have s3 : Same H2 (upd H2 p (.lst [.int (cs.length : Int)])) := same_new np
        have npse : p ≠ se := fun e => by
          rw [e, h3] at np
          cases np
        have hS2 : SesI (TU T el) CS CE H2 se { g with recording := some (r, if b = true then g.registers.getD r [] else []) } ed m el := hS.put k2 h3 (by show RecAt H2 q (some (r, _)); rw [hcs]; exact hq) (hS.edK k2 hS.ed) hS.ok rfl (fun r' cs' e => by
          rw [hcs] at e
          cases e
          exact ⟨hr10, h40, hok⟩) (fun _ => oq) (hS.av.no ed (.inr (.inl rfl)))
        have hO2 := hO.kse h1 rfl k2
        refine k.ok _ p (fun b o z tb => s3 b o (k2 b o z (fun e => hS.av.no se (.inl rfl) (.inl (by rw [← e]; exact tb))))) ?_ ?_ ?_
        · rw [hst]
          exact ⟨ed, m, el, hS2.same s3, hO2.same s3⟩
        · cases q0 : H p with
          | none => rfl
          | some o =>
            have := k2 p o q0 npse
            rw [np] at this
            cases this
        · rw [hst, upd_same]
          refine congrArg (fun q => some (HO.lst q)) ?_
          have : (if b = true then (g.registers.getD r []).length else 0) = cs.length := by
            rw [← hcs]
            cases b <;> rfl
          rw [this]
          rfl
      have ht : decide (V.int (if b = true then 1 else 0) = V.int 1) = b := by
        cases b <;> rfl
      refine ⟨_, rfl, rfl, _, rfl, ?_⟩
      rw [ht]
      have h1A := upd_same (H := H) (a := se) (o := .ins CS dx (sF ed m (.int (r : Int)) rc el))
      cases b with
      | true =>
        refine ifT rfl ?_
        obtain ⟨ms, la, cs, hm, hla, hca, hg, h40, hok⟩ := reg_get hS.mac hS.gok hr10
        have hcm : CmdsAt H la cs := hca
        obtain ⟨as, ha1, ha2⟩ := id hca
        have hal : as.length = cs.length := Paired.length ha2
        have hmA := kA _ _ hm (ne_of hm h1 (fun z => nomatch z))
        refine ⟨_, rfl, _, _, _, _, _, rfl, h1A, Z.cl, Z.nM, sF_m, _, rfl, m, _, _, _, rfl, rfl, SqL.of hmA, atI_nat hla, _, rfl, se, CS, dx, _, rfl, upd_same, Z.cl, Z.nR, sF_len, ?_⟩
        rw [sF_put_r]
        have kB := kA.upd (o := .ins CS dx (sF ed m (.int (r : Int)) la el))
        have ha1B := kB _ _ ha1 (ne_of ha1 h1 (fun z => nomatch z))
        have hB : CmdsAt (upd (upd H se (.ins CS dx (sF ed m (.int (r : Int)) rc el))) se (.ins CS dx (sF ed m (.int (r : Int)) la el))) la cs := ⟨as, ha1B, paired_imp (fun u v (y : H u = some (.tup (tx (Ue10.numbersOf v)))) => kB u _ y (ne_of y h1 (fun z => nomatch z))) ha2⟩
        refine ⟨_, rfl, _, _, _, _, _, rfl, upd_same, Z.cl, Z.nR, sF_r, la, _, rfl, .inl (SqL.of ha1B), (by show 1 ≤ sizeLine; rw [sizeLine_eq]; omega), fun p np => ?_⟩
        rw [List.length_map, hal]
        exact fin _ la cs (hS.av.no la (.inr (.inr (.inr (.inl ⟨_, hm, List.mem_of_getElem? hla⟩))))) kB upd_same hB hg h40 hok p np
      | false =>
        refine ifF rfl ?_
        refine ⟨(by show 0 ≤ sizeLine; omega), fun q nq => ?_⟩
        have sq : Same (upd H se (.ins CS dx (sF ed m (.int (r : Int)) rc el))) (upd (upd H se (.ins CS dx (sF ed m (.int (r : Int)) rc el))) q (.lst [])) := same_new nq
        have h1q := sq _ _ h1A
        have nqs : q ≠ se := fun e => by
          rw [e, upd_same] at nq
          cases nq
        refine ⟨_, rfl, se, CS, dx, _, rfl, h1q, Z.cl, Z.nR, sF_len, ?_⟩
        rw [sF_put_r]
        have kB := (kA.new nq (o := .lst [])).upd (o := .ins CS dx (sF ed m (.int (r : Int)) q el))
        have hqB : (upd (upd (upd H se (.ins CS dx (sF ed m (.int (r : Int)) rc el))) q (.lst [])) se (.ins CS dx (sF ed m (.int (r : Int)) q el))) q = some (.lst []) := by
          rw [upd_ne nqs, upd_same]
        refine ⟨_, rfl, _, _, _, _, _, rfl, upd_same, Z.cl, Z.nR, sF_r, q, _, rfl, .inl (SqL.of hqB), (by show 1 ≤ sizeLine; rw [sizeLine_eq]; omega), fun p np => ?_⟩
        exact fin _ q [] (hS.av.fresh (by rw [upd_ne nqs] at nq; exact nq)) kB upd_same ⟨[], hqB, .nil⟩ rfl (by decide) (fun x hx => nomatch hx) p np
end
end Mp
namespace Mp
open PySem PySem.Spec PyProof.Rows L2
theorem yes_if {σ : L2.St} {H : Hp} {A B : Hp → Prop} (h : A H) : tYes σ H (fun b H3 => if b = true then A H3 else B H3) := ifT (c := true) (A := A H) (B := B H) rfl h
theorem rec_imp {H H' : Hp} {rc : Addr} (h : ∀ b ys, CmdsAt H b ys → CmdsAt H' b ys) : ∀ {r : Option (Nat × List Ue10.Cmd)}, RecAt H rc r → RecAt H' rc r
  | none, _ => trivial
  | some _, z => h _ _ z
section
variable {P : Program} {w : World} {K : PySem.W.Frag} {mg : Str → Option Value} {base : Heap} {CS CE cR f : Addr}
theorem any_big (row : List Nat) : ((row.map fun b => decide (255 < b)).any id) = !(row.all fun b => decide (b ≤ 255)) := by
  induction row with
  | nil => rfl
  | cons b row ih =>
    rw [List.map_cons, List.any_cons, List.all_cons, ih]
    by_cases h : b ≤ 255
    · rw [decide_eq_true h, decide_eq_false (by omega : ¬ 255 < b)]
      rfl
    · rw [decide_eq_false h, decide_eq_true (by omega : 255 < b)]
      rfl
theorem ok_text {fi : Addr} {t1 t2 : Tok} (D : Df K "start_text" "Session.start_text" s_Session_start_text ["self", "place", "numbers"] f) (Z : SeC K CS) (ml : mg "len" = none) (ma : mg "any" = none) (mt : mg "tuple" = none) (g1 : mg "MOST_BYTES" = some (.int 60 t1)) (g2 : mg "LAST_BYTE" = some (.int 255 t2))
    (R : RzT P w K mg base cR "WrongNumbers" (-1)) (Ci : Cb P w K mg base CX0 1 fi ["self", "text", "place", "held"] (spEdInit CE)) (M : Mk K CE fi) (gE : mg "Editor" = some (.ref CE)) : Cb P w K mg base (L2.CX P w) 4 f ["self", "place", "numbers"] (spMtext K cR (SesA CS CE)) := by
  refine D.okX sc_Session_start_text (fun vs H Q _ h => ?_) (fun cdv A outer s H vs Q E hr h => ?_)
  · obtain ⟨se, l, T, g, p, row, rfl, _⟩ := h
    rfl
  · refine ⟨_, pss_cons (ps_if (PW.pt (pw_or (pt_cmpR op_gt (pe_callB call_len_seq (by rfl) ml PySem.boot_len (pa_cons (pv 2) pa_nil)) (pe_glob (v := .int 60) rfl g1 ⟨_, rfl⟩) (nomark _)) (pw_or1 (pt_cmpR op_gt (pv 1) (pe_callB call_len_seq (by rfl) ml PySem.boot_len (pa_cons (pv 2) pa_nil)) (nomark _)))))
        (pss_one (ps_rz R hr (by decide) (by rfl) rfl (takes_of rfl rfl rfl rfl))) pss_nil)
      (pss_cons (ps_if (pt_val (pe_callB (cr_any rfl) (by rfl) ma (by decide +kernel) (pa_cons (pe_lc (own := [("number", 3)]) (g := gName 3) (tt := tYes) rfl sc_Session_start_text.nd (pi_list (pv 2)) (blkOk_by (own := [("number", 3)]) (N := ["self", "place", "numbers", "number"]) (sc := defScope s_Session_start_text) (by decide +kernel))
          (fun _ _ _ _ _ => pg_name (i := 3) sc_Session_start_text.nd rfl (Or.inl rfl)) (fun _ _ _ _ _ => pts_nil) (fun _ _ _ _ _ => pe_cmpR op_gt (pv 3) (pe_glob (v := .int 255) rfl g2 ⟨_, rfl⟩) (nomark _))) pa_nil)))
        (pss_one (ps_rz R hr (by decide) (by rfl) rfl (takes_of rfl rfl rfl rfl))) pss_nil)
      (pss_cons (ps_fld (pv 0) (pe_mk Ci M hr (by decide) (by rfl) gE (pa_cons (pe_callTy call_tuple_of (by rfl) mt (by decide +kernel) (pa_cons (pv 2) pa_nil)) (pa_cons (pv 1) (pa_cons pe_int pa_nil)))) rfl)
      (pss_cons (ps_fld (pv 0) (pe_lst pa_nil) rfl)
      (pss_one (ps_ret (pe_lst (pa_cons (pe_callB call_len_seq (by rfl) ml PySem.boot_len (pa_cons (pv 2) pa_nil)) pa_nil))))))), ?_⟩
    obtain ⟨se, l, T, g, p, row, rfl, ⟨ed, m, el, hS, hO⟩, hl, hz, k⟩ := h
    have bad : ((row.all fun b => decide (b ≤ 255)) = false ∨ Ue10.LONG < row.length ∨ row.length < p) → Ue10.step g (.text row p) = (g, [-1]) := fun z => by
      show (if (row.all fun b => decide (b ≤ 255)) = false ∨ Ue10.LONG < row.length ∨ row.length < p then (g, [-1]) else _) = _
      rw [if_pos z]
    refine ⟨_, rfl, l, _, rfl, .inl hl, _, _, rfl, rfl, _, rfl, ?_⟩
    rw [tx_len]
    by_cases c1 : 60 < row.length
    · refine ifT (decide_eq_true (by omega)) ?_
      refine ifT rfl ?_
      exact k.rz (bad (.inr (.inl c1)))
    · refine ifF (decide_eq_false (by omega)) ?_
      refine ⟨_, rfl, _, rfl, l, _, rfl, .inl hl, _, _, rfl, rfl, _, rfl, ?_⟩
      rw [tx_len]
      by_cases c2 : row.length < p
      · refine ifT (decide_eq_true (by omega)) ?_
        exact k.rz (bad (.inr (.inr c2)))
      · refine ifF (decide_eq_false (by omega)) ?_
        refine ⟨_, rfl, l, rfl, ⟨_, hl⟩, fun dl ndl => ?_⟩
        have s0 : ∀ o, Same H (upd H dl o) := fun o => same_new ndl
        refine lc_list (K := K) (a := l) (xs := tx row) (fun i H' => Keeps dl H H' ∧ H' dl = some (.lst ((row.take i).map fun b => V.bl (decide (255 < b)))) ∧ ∀ b o, H b = some o → H' b = some o) ?_ (fun i H' _ z => sq_same hl z.2.2) ?_ ?_
        · exact ⟨Keeps.refl.new ndl, upd_same, s0 _⟩
        · rintro i x H' hx ⟨kp, hd, sm⟩
          rw [tx_at] at hx
          obtain ⟨b, hb, rfl⟩ := Option.map_eq_some_iff.mp hx
          refine ⟨rfl, ?_⟩
          refine yes_if ?_
          refine ⟨_, rfl, _, _, rfl, rfl, _, hd, ?_, kp.upd, ?_, fun c o z => ?_⟩
          · rw [List.length_map, List.length_take, sizeLine_eq]
            omega
          · rw [upd_same, List.take_add_one, hb, List.map_append]
            refine congrArg (fun q => some (HO.lst (_ ++ [V.bl q]))) ?_
            by_cases z : 255 < b
            · rw [decide_eq_true z, decide_eq_true (by omega)]
            · rw [decide_eq_false z, decide_eq_false (by omega)]
          · rw [upd_ne (ne_of_none z ndl)]
            exact sm c o z
        · rintro H1 ⟨kp, hd, sm⟩
          rw [tx_len, List.take_length] at hd
          have hd' : H1 dl = some (.lst ((row.map fun b => decide (255 < b)).map V.bl)) := by
            rw [hd, List.map_map]
            rfl
          refine ⟨dl, _, rfl, SqL.of hd', _, rfl, ?_⟩
          rw [any_big]
          cases c3 : row.all fun b => decide (b ≤ 255) with
          | false =>
            refine ifT rfl ?_
            exact Rz.same (k.rz (bad (.inl c3))) sm
          | true =>
            refine ifF rfl ?_
            have hst : Ue10.step g (.text row p) = ({ g with ed := ⟨row, p, none⟩, old := [] }, Ue10.ints [row.length]) := by
              show (if (row.all fun b => decide (b ≤ 255)) = false ∨ Ue10.LONG < row.length ∨ row.length < p then (g, [-1]) else _) = _
              rw [if_neg]
              rintro (z | z | z)
              · rw [c3] at z
                cases z
              · exact c1 z
              · exact c2 z
            have hl1 := sq_same hl sm
            refine ⟨_, rfl, l, _, rfl, .inl ⟨hl1, fun t nt => ?_⟩⟩
            refine ⟨_, rfl, ?_⟩
            intro x d2 nx nd ne
            have st : Same H1 (upd H1 t (.tup (tx row))) := same_new nt
            have s2 : Same (upd H1 t (.tup (tx row))) (upd (upd (upd H1 t (.tup (tx row))) d2 (.own x)) x (.ins CE d2 [])) := fun b o z => by
              rw [upd_ne (ne_of_none z nx), upd_ne (ne_of_none z nd)]
              exact z
            refine ⟨x, d2, t, ⟨row, p, none⟩, _, _, rfl, rfl, rfl, upd_same, s2 _ _ upd_same, fun H2 k2 hE2 => ⟨rfl, ?_⟩⟩
            have s3 : Same H H2 := fun b o z => k2 b o (s2 b o (st b o (sm b o z))) (ne_of_none (st b o (sm b o z)) nx)
            have hS2 := hS.same s3
            obtain ⟨dx, rc, h1, h2⟩ := hS2.ob
            have nxH : H x = none := same_none sm (same_none st nx)
            refine ⟨_, rfl, se, CS, dx, _, rfl, h1, Z.cl, Z.nE, sF_len, ?_⟩
            rw [sF_put_e]
            have kA : Keeps se H2 (upd H2 se (.ins CS dx (sF x m (rfV g.recording) rc el))) := Keeps.refl.upd
            refine ⟨(by show 0 ≤ sizeLine; omega), fun l2 nl2 => ?_⟩
            have hls : l2 ≠ se := fun e => by
              rw [e, upd_same] at nl2
              cases nl2
            have nl2' : H2 l2 = none := by
              rw [upd_ne hls] at nl2
              exact nl2
            refine ⟨_, rfl, se, CS, dx, _, rfl, by rw [upd_ne (Ne.symm hls), upd_same], Z.cl, Z.nL, sF_len, ?_⟩
            rw [sF_put_l]
            have kB := (kA.new nl2 (o := .lst [])).upd (o := .ins CS dx (sF x m (rfV g.recording) rc l2))
            have h5 := upd_same (H := upd (upd H2 se (.ins CS dx (sF x m (rfV g.recording) rc el))) l2 (.lst [])) (a := se) (o := .ins CS dx (sF x m (rfV g.recording) rc l2))
            have kC : Keeps se (upd H2 l2 (.lst [])) (upd (upd (upd H2 se (.ins CS dx (sF x m (rfV g.recording) rc el))) l2 (.lst [])) se (.ins CS dx (sF x m (rfV g.recording) rc l2))) := fun b o z n => by
              rw [upd_ne n]
              by_cases e : b = l2
              · rw [e, upd_same] at z ⊢
                exact z
              · rw [upd_ne e] at z ⊢
                rw [upd_ne n]
                exact z
            have hl5 : (upd (upd (upd H2 se (.ins CS dx (sF x m (rfV g.recording) rc el))) l2 (.lst [])) se (.ins CS dx (sF x m (rfV g.recording) rc l2))) l2 = some (.lst []) := kC _ _ upd_same hls
            have hl3 := sq_keeps h1 (sq_same hl s3) kB
            generalize upd (upd (upd H2 se (.ins CS dx (sF x m (rfV g.recording) rc el))) l2 (.lst [])) se (.ins CS dx (sF x m (rfV g.recording) rc l2)) = H5 at *
            refine ⟨_, rfl, l, _, rfl, .inl hl3, (by show 1 ≤ sizeLine; rw [sizeLine_eq]; omega), fun q nq => ?_⟩
            rw [tx_len]
            have s4 : Same H5 (upd H5 q (.lst [.int (row.length : Int)])) := same_new nq
            have nTl : ¬ T l2 := fun z => hS2.av.fresh nl2' (.inl z)
            have hSm : SesI (TU T l2) CS CE (upd H2 l2 (.lst [])) se g ed m el := (hS2.more nl2').mono fun b z => z.elim (fun y => .inl (.inl y)) .inr
            have h1m := same_new (o := .lst []) nl2' _ _ h1
            have hxl : x ≠ l2 := fun z => by
              obtain ⟨dxe, te, e1, e2⟩ := hE2
              rw [z, nl2'] at e1
              cases e1
            have hS3 : SesI (TU T l2) CS CE H5 se { g with ed := ⟨row, p, none⟩, old := [] } x m l2 := hSm.put kC h5 (hS2.recK kB h2) (hS2.edK kB hE2) ⟨by show p ≤ row.length; omega, by show row.length ≤ 60; omega⟩ rfl hS.rok
              (fun y => hSm.av.no rc (SesI.own_rc h1m (fun z => y (by
                show g.recording = none
                cases q0 : g.recording with
                | none => rfl
                | some y0 =>
                  rw [q0] at z
                  cases z))))
              (fun z => z.elim (fun y => hS.av.fresh nxH (.inl y)) hxl)
            have hO3 : OldI T CE H5 l2 [] := ⟨nTl, (fun e he => nomatch he), [], hl5, .nil⟩
            refine k.ok _ q (fun b o z tb => s4 b o (kB b o (s3 b o z) (fun e => hS.av.no se (.inl rfl) (.inl (by rw [← e]; exact tb))))) ?_ ?_ ?_
            · rw [hst]
              exact ⟨x, m, l2, hS3.same s4, hO3.same s4⟩
            · have hqs : q ≠ se := fun e => by
                rw [e, h5] at nq
                cases nq
              refine same_none s3 ?_
              cases q0 : H2 q with
              | none => rfl
              | some o =>
                have := kB q o q0 hqs
                rw [nq] at this
                cases this
            · rw [hst, upd_same]
              rfl
end
end Mp
namespace Mp
open PySem PySem.Spec PyProof.Rows L2
open Ue10 (does plays runs timesFrom untilFrom)

/-- the state with the commands put to what is recorded; none: too many -/
def recd (g : Ue10.House) (cs : List Ue10.Cmd) : Option Ue10.House := match g.recording with
  | none => some g
  | some y => if 40 < (y.2 ++ cs).length then none else some { g with recording := some (y.1, y.2 ++ cs) }
def spPut (K : PySem.W.Frag) (CS CE cR : Addr) : Sp := fun vs H Q E => ∃ (se ed m el c : Addr) (T : Addr → Prop) (g : Ue10.House) (cs : List Ue10.Cmd), vs = [.ref se, .ref c] ∧ SesI T CS CE H se g ed m el ∧ CmdsAt H c cs ∧ (∀ x ∈ cs, Ue10.cmdOk x = true) ∧ (recd g cs = none → Rz K cR (-5) H E) ∧
  ∀ g' H', recd g cs = some g' → Keeps se H H' → SesI T CS CE H' se g' ed m el → Q .non H'
def spMdo (K : PySem.W.Frag) (cR : Addr) (SA : SAt) : Sp := fun vs H Q E => ∃ (se l : Addr) (T : Addr → Prop) (g : Ue10.House) (f : Nat) (row : List Nat) (cs : List Ue10.Cmd), vs = [.ref se, .ref l] ∧ SA T H se g ∧ g.old.length ≤ 9999999 ∧ SqL K H l (tx row) ∧ row.length ≤ 1000 ∧ Ue10Neutral.cmdsIn f row = some cs ∧ MOk K cR SA T se g (.do_ cs) H Q E
def spMwould (K : PySem.W.Frag) (cR : Addr) (SA : SAt) (x : List Ue10.Cmd → Ue10.Call) : Sp := fun vs H Q E => ∃ (se l : Addr) (T : Addr → Prop) (g : Ue10.House) (f : Nat) (row : List Nat) (cs : List Ue10.Cmd), vs = [.ref se, .ref l] ∧ SA T H se g ∧ SqL K H l (tx row) ∧ row.length ≤ 1000 ∧ Ue10Neutral.cmdsIn f row = some cs ∧ MOk K cR SA T se g (x cs) H Q E
def spNewP (CP CS CE : Addr) : Sp := fun vs H Q _ => ∃ (se ed m el : Addr) (T : Addr → Prop) (g : Ue10.House), vs = [.ref se] ∧ SesI T CS CE H se g ed m el ∧ ∀ H' a b, Same H H' → H a = none → H b = none → PSt CP CE H' a b m g.registers g.ed Ue10.FULL → Q (.ref a) H'
def spTry (CP CE : Addr) (K : PySem.W.Frag) (cR : Addr) : Sp := fun vs H Q E => ∃ (a b m c : Addr) (g : List (List Ue10.Cmd)) (e : Ed) (cs : List Ue10.Cmd), vs = [.ref a, .ref c] ∧ CmdsAt H c cs ∧ (∀ x ∈ cs, Ue10.cmdOk x = true) ∧ GOk g ∧ PSt CP CE H a b m g e Ue10.FULL ∧
  (∀ (v : Bool) e' H' p, ((runs (plays g 6) cs e Ue10.FULL).1 = if v = true then .ok e' else .failed e') → Kp b a H H' → PSt CP CE H' a b m g e' (runs (plays g 6) cs e Ue10.FULL).2 → H p = none → H' p = some (.lst (ix (Ue10.outRow (runs (plays g 6) cs e Ue10.FULL).1 (runs (plays g 6) cs e Ue10.FULL).2))) → Q (.ref p) H') ∧
  ((runs (plays g 6) cs e Ue10.FULL).1 = .endless → RzK K cR (-9) b a H E) ∧ ((runs (plays g 6) cs e Ue10.FULL).1 = .over → RzK K cR (-8) b a H E)
theorem recd_same {g g' : Ue10.House} {cs : List Ue10.Cmd} (h : recd g cs = some g') : g'.ed = g.ed ∧ g'.old = g.old := by
  unfold recd at h
  cases q : g.recording with
  | none =>
    rw [q] at h
    cases h
    exact ⟨rfl, rfl⟩
  | some y =>
    rw [q] at h
    dsimp only at h
    by_cases c4 : 40 < (y.2 ++ cs).length
    · rw [if_pos c4] at h
      cases h
    · rw [if_neg c4] at h
      cases h
      exact ⟨rfl, rfl⟩
theorem rf_ne {r : Option (Nat × List Ue10.Cmd)} (h : r ≠ none) : rfV r ≠ .non := by
  cases r with
  | none => exact absurd rfl h
  | some y => exact fun z => nomatch z
theorem paired_app {α β : Type} {F : α → β → Prop} : ∀ {l l' : List α} {m m' : List β}, Paired F l m → Paired F l' m' → Paired F (l ++ l') (m ++ m')
  | _, _, _, _, .nil, s => s
  | _, _, _, _, .cons r t, s => .cons r (paired_app t s)
theorem ite_tC {σ : L2.St} {H : Hp} {R : VK} {v : Bool} {i j : Int} (h : R (.int (if v = true then i else j)) H) : if v = true then tC (.int i) σ H R else tC (.int j) σ H R := by
  cases v <;> exact h
theorem PK.of {CP CE : Addr} {K : PySem.W.Frag} {cR a ed m : Addr} {g : List (List Ue10.Cmd)} {H : Hp} {Q : VK} {E : XK} {x : Out × Left} (tail : ∀ (v : Bool) (e' : Ed) (H' : Hp), (x.1 = if v = true then .ok e' else .failed e') → Kp ed a H H' → PSt CP CE H' a ed m g e' x.2 → Q (.bl v) H')
    (nv : x.1 = .endless → RzK K cR (-9) ed a H E) (tm : x.1 = .over → RzK K cR (-8) ed a H E) : PK CP CE K cR a ed m g H Q E x := ⟨fun e' H' h => tail true e' H' h, fun e' H' h => tail false e' H' h, nv, tm⟩
theorem step_do {g : Ue10.House} {cs : List Ue10.Cmd} (hok : Ue10.programOk cs = true) : Ue10.step g (.do_ cs) = (match Ue10.edOf (runs (plays g.registers 6) cs g.ed Ue10.FULL).1 with
    | none => (g, Ue10.outRow (runs (plays g.registers 6) cs g.ed Ue10.FULL).1 (runs (plays g.registers 6) cs g.ed Ue10.FULL).2)
    | some e => match recd g cs with
      | none => (g, [-5])
      | some g' => ({ g' with ed := e, old := g.ed :: g.old }, Ue10.outRow (runs (plays g.registers 6) cs g.ed Ue10.FULL).1 (runs (plays g.registers 6) cs g.ed Ue10.FULL).2)) := by
  obtain ⟨ed, regs, rec, old⟩ := g
  unfold Ue10.step Ue10.run Ue10.DEEP
  dsimp only
  rw [if_neg (by rw [hok]; decide)]
  cases Ue10.edOf (runs (plays regs 6) cs ed Ue10.FULL).1 with
  | none => rfl
  | some e =>
    unfold recd
    cases rec with
    | none => rfl
    | some y =>
      dsimp only
      by_cases c4 : 40 < (y.2 ++ cs).length
      · rw [if_pos c4, if_pos c4]
      · rw [if_neg c4, if_neg c4]
section
variable {P : Program} {w : World} {K : PySem.W.Frag} {mg : Str → Option Value} {base : Heap} {CS CE CP cR f : Addr}
theorem ok_put {t1 : Tok} (D : Df K "put_to_record" "Session.put_to_record" s_Session_put_to_record ["self", "commands"] f) (Z : SeC K CS) (ml : mg "len" = none) (g1 : mg "MOST_COMMANDS" = some (.int 40 t1)) (R : RzT P w K mg base cR "RecordFull" (-5)) :
    Cb P w K mg base (L2.CX P w) 4 f ["self", "commands"] (spPut K CS CE cR) := by
  refine D.okX sc_Session_put_to_record (fun vs H Q _ h => ?_) (fun cdv A outer s H vs Q E hr h => ?_)
  · obtain ⟨se, ed, m, el, c, T, g, cs, rfl, _⟩ := h
    rfl
  · refine ⟨_, pss_cons (ps_if (pt_cmp (pc_isN (pe_fld (pv 0) rfl))) (pss_one ps_retN) pss_nil)
      (pss_cons (ps_if (pt_cmpR op_gt (pe_op op_add (pe_callB call_len_seq (by rfl) ml PySem.boot_len (pa_cons (pe_fld (pv 0) rfl) pa_nil)) (pe_callB call_len_seq (by rfl) ml PySem.boot_len (pa_cons (pv 1) pa_nil))) (pe_glob (v := .int 40) rfl g1 ⟨_, rfl⟩) (nomark _)) (pss_one (ps_rz R hr (by decide) (by rfl) rfl (takes_of rfl rfl rfl rfl))) pss_nil)
      (pss_one (ps_fld (pv 0) (pe_op op_cat (pe_fld (pv 0) rfl) (pv 1)) rfl))), ?_⟩
    obtain ⟨se, ed, m, el, c, T, g, cs, rfl, hS, hc, hok, k0, k1⟩ := h
    obtain ⟨dx, rc, h1, h2⟩ := hS.ob
    refine ⟨_, rfl, _, _, _, _, _, rfl, h1, Z.cl, Z.nF, sF_f, _, rfl, ?_⟩
    cases hrec : g.recording with
    | none =>
      refine ifT rfl ?_
      exact k1 g H (by unfold recd; rw [hrec]) Keeps.refl hS
    | some y =>
      refine ifF rfl ?_
      rw [hrec] at h1 h2
      obtain ⟨as, ha1, ha2⟩ := (show CmdsAt H rc y.2 from h2)
      obtain ⟨bs, hb1, hb2⟩ := id hc
      have hal : as.length = y.2.length := Paired.length ha2
      have hbl : bs.length = cs.length := Paired.length hb2
      refine ⟨_, rfl, _, _, _, _, _, rfl, h1, Z.cl, Z.nR, sF_r, rc, _, rfl, .inl (SqL.of ha1), _, rfl, c, _, rfl, .inl (SqL.of hb1), _, _, rfl, rfl, _, _, rfl, rfl, _, rfl, ?_⟩
      rw [List.length_map, List.length_map, hal, hbl]
      by_cases c4 : 40 < (y.2 ++ cs).length
      · have c5 := c4
        rw [List.length_append] at c5
        refine ifT (decide_eq_true (by omega)) ?_
        exact k0 (by unfold recd; rw [hrec]; exact if_pos c4)
      · have c5 := c4
        rw [List.length_append] at c5
        refine ifF (decide_eq_false (by omega)) ?_
        refine ⟨_, rfl, _, _, _, _, _, rfl, h1, Z.cl, Z.nR, sF_r, _, rfl, rc, c, _, _, rfl, rfl, ha1, hb1, ?_, fun q nq => ?_⟩
        · rw [List.length_map, List.length_map, hal, hbl, sizeLine_eq]
          omega
        have sq : Same H (upd H q (.lst (as.map V.ref ++ bs.map V.ref))) := same_new nq
        have h1q := sq _ _ h1
        refine ⟨_, rfl, se, CS, dx, _, rfl, h1q, Z.cl, Z.nR, sF_len, ?_⟩
        rw [sF_put_r]
        have kB : Keeps se H (upd (upd H q (.lst (as.map V.ref ++ bs.map V.ref))) se (.ins CS dx (sF ed m (rfV (some y)) q el))) := (Keeps.refl.new nq).upd
        have hqs : q ≠ se := Ne.symm (ne_of_none h1 nq)
        refine k1 { g with recording := some (y.1, y.2 ++ cs) } _ (by unfold recd; rw [hrec]; exact if_neg c4) kB ?_
        have tu : ∀ {b xs}, H b = some (.tup xs) → (upd (upd H q (.lst (as.map V.ref ++ bs.map V.ref))) se (.ins CS dx (sF ed m (rfV (some y)) q el))) b = some (.tup xs) := fun {b xs} z => kB b _ z (ne_of z h1 (fun y => nomatch y))
        refine hS.put kB upd_same ⟨as ++ bs, ?_, paired_imp (fun _ _ z => tu z) (paired_app ha2 hb2)⟩ (hS.edK kB hS.ed) hS.ok rfl (fun r' cs' e => ?_) (fun _ => hS.av.fresh nq) (hS.av.no ed (.inr (.inl rfl)))
        · rw [upd_ne hqs, upd_same, List.map_append]
        · cases e
          obtain ⟨o1, o2, o3⟩ := hS.rok y.1 y.2 hrec
          refine ⟨o1, by omega, fun x hx => ?_⟩
          rcases List.mem_append.mp hx with z | z
          · exact o3 x z
          · exact hok x z
theorem ok_new_player {ft fi : Addr} (D : Df K "new_player" "Session.new_player" s_Session_new_player ["self"] f) (Z : SeC K CS) (E : EdC K CE) (Ct : Cb P w K mg base CX0 3 ft ["self"] (spTwin CE)) (mt : Meth K CE "twin" ft) (Ci : Cb P w K mg base CX0 1 fi ["self", "editor", "macros"] (spPyInit CP)) (M : Mk K CP fi) (gP : mg "Player" = some (.ref CP)) :
    Cb P w K mg base CX0 4 f ["self"] (spNewP CP CS CE) := by
  refine D.ok sc_Session_new_player (fun vs H Q _ h => ?_) (fun cdv A outer s H vs Q _ hr h => ?_)
  · obtain ⟨se, ed, m, el, T, g, rfl, _⟩ := h
    rfl
  · refine ⟨_, pss_one (ps_ret (pe_mk Ci M hr (by decide) (by rfl) gP (pa_cons (pe_mb0 Ct E.cl mt hr (by decide) (pe_fld (pv 0) rfl)) (pa_cons (pe_fld (pv 0) rfl) pa_nil)))), ?_⟩
    obtain ⟨se, ed, m, el, T, g, rfl, hS, k⟩ := h
    obtain ⟨dx, rc, h1, h2⟩ := hS.ob
    obtain ⟨dxe, te, he, hte⟩ := hS.ed
    refine ⟨_, rfl, _, _, _, _, _, rfl, h1, Z.cl, Z.nE, sF_e, ed, dxe, _, rfl, he, eF_no (by decide +kernel) (by decide +kernel) (by decide +kernel), ed, g.ed, rfl, hS.ed, fun H2 b s2 nb hE2 => ?_⟩
    have h12 := s2 _ _ h1
    refine ⟨_, rfl, _, _, _, _, _, rfl, h12, Z.cl, Z.nM, sF_m, ?_⟩
    intro a d2 na nd2 ne
    have s3 : Same H2 (upd (upd H2 d2 (.own a)) a (.ins CP d2 [])) := fun x o z => by
      rw [upd_ne (ne_of_none z na), upd_ne (ne_of_none z nd2)]
      exact z
    refine ⟨a, d2, b, m, rfl, upd_same, fun H3 k3 hP3 => ⟨rfl, ?_⟩⟩
    have s4 : Same H2 H3 := fun x o z => k3 x o (s3 x o z) (ne_of_none z na)
    have s14 : Same H H3 := same_trans s2 s4
    have hE3 : EdAt CE H3 b g.ed := by
      obtain ⟨q1, q2, q3, q4⟩ := hE2
      exact ⟨q1, q2, s4 _ _ q3, s4 _ _ q4⟩
    have hS3 := hS.same s14
    exact k H3 a b s14 (same_none s2 na) nb ⟨hP3, hE3, hS3.ok, hS3.mac, ⟨Nat.le_refl _, Nat.le_refl _⟩⟩
theorem ok_try {fw fl : Addr} (D : Df K "try_out" "try_out" s_try_out ["player", "commands"] f) (Y : PyC K CP) (E : EdC K CE) (Cw : Cb P w K mg base (L2.CX P w) 38 fw ["self", "commands", "depth"] (spRow CP CE K cR 6)) (mw : Meth K CP "do_row" fw)
    (Cl : Cb P w K mg base CX0 1 fl ["self"] (spTold CE)) (ml : Meth K CE "told" fl) : Cb P w K mg base (L2.CX P w) 39 f ["player", "commands"] (spTry CP CE K cR) := by
  refine D.okX sc_try_out (fun vs H Q _ h => ?_) (fun cdv A outer s H vs Q EX hr h => ?_)
  · obtain ⟨a, b, m, c, g, e, cs, rfl, _⟩ := h
    rfl
  · refine ⟨_, pss_cons (ps_set (i := 2) sc_try_out.nd rfl (Or.inl rfl) (pe_mbX Cw Y.cl mw hr (by decide) (takes_of rfl rfl rfl rfl) (pv 0) (pa_cons (pv 1) (pa_cons pe_int pa_nil))))
      (pss_one (ps_ret (pe_op op_cat (pe_lst (pa_cons (pe_ifExp (pt_val (pv 2)) pe_int pe_int) (pa_cons (pe_fld (pv 0) rfl) pa_nil))) (pe_mb0 Cl E.cl ml hr (by decide) (pe_fld (pv 0) rfl))))), ?_⟩
    obtain ⟨a, b, m, c, g, e, cs, rfl, hcs, hall, gok, st, kok, knv, ktm⟩ := h
    obtain ⟨dxp, hpa⟩ := st.pl
    refine ⟨_, rfl, a, dxp, _, rfl, hpa, pF_no (by decide +kernel) (by decide +kernel) (by decide +kernel) (by decide +kernel), _, rfl, a, b, m, g, e, Ue10.FULL, c, cs, rfl, hcs, hall, gok, st, ?_⟩
    refine PK.of (fun v e' H4 hx kp st4 => ?_) knv ktm
    have kv := kok v e'
    have hrow : Ue10.outRow (runs (plays g 6) cs e Ue10.FULL).1 (runs (plays g 6) cs e Ue10.FULL).2 = Ue10.ints ([if v = true then 0 else 1, 20000 - (runs (plays g 6) cs e Ue10.FULL).2.plain] ++ Ue10.edRow e') := by
      rw [hx]
      cases v <;> rfl
    rw [hrow] at kv
    have kv := fun H' p => kv H' p hx
    generalize (runs (plays g 6) cs e Ue10.FULL).2 = bl at st4 kv
    have hbl := st4.bk.c
    obtain ⟨dxq, hq⟩ := st4.pl
    obtain ⟨dxe4, te4, e1, e2⟩ := st4.ed
    refine ⟨_, rfl, _, rfl, ?_⟩
    refine ite_tC ?_
    refine ⟨_, rfl, _, _, _, _, _, rfl, hq, Y.cl, Y.nC, pF_c, (by show 2 ≤ sizeLine; rw [sizeLine_eq]; omega), fun p7 n7 => ?_⟩
    have s7 : Same H4 (upd H4 p7 (.lst [.int (if v = true then 0 else 1), .int (20000 - (bl.plain : Int))])) := same_new n7
    refine ⟨_, rfl, _, _, _, _, _, rfl, s7 _ _ hq, Y.cl, Y.nE, pF_e, b, dxe4, _, rfl, s7 _ _ e1, eF_no (by decide +kernel) (by decide +kernel) (by decide +kernel), b, e', rfl, ⟨dxe4, te4, s7 _ _ e1, s7 _ _ e2⟩, fun H8 p8 s8 n8 h8 => ?_⟩
    refine ⟨p7, p8, _, _, rfl, rfl, s8 _ _ upd_same, h8, ?_, fun p9 n9 => ?_⟩
    · rw [tx_len, sizeLine_eq]
      show 2 + 3 ≤ _
      omega
    have s9 : Same H8 (upd H8 p9 (.lst ([.int (if v = true then 0 else 1), .int (20000 - (bl.plain : Int))] ++ tx (Ue10.edRow e')))) := same_new n9
    have s78 := same_trans s7 s8
    have st8 := st4.same s78
    refine kv _ p9 (kp.trans (same_kp (same_trans s78 s9))) (st8.same s9) (kp_none st st8.some_e st8.some_a (kp.trans (same_kp s78)) n9) ?_
    rw [upd_same, ix_ints]
    refine congrArg (fun q => some (HO.lst q)) ?_
    have e9 : (20000 : Int) - (bl.plain : Int) = ((20000 - bl.plain : Nat) : Int) := by omega
    rw [e9]
    cases v <;> rfl
theorem ok_do {fr fn ft fp : Addr} (D : Df K "do" "Session.do" s_Session_do ["self", "numbers"] f) (Z : SeC K CS) (Y : PyC K CP) (Cr : Cb P w K mg base (L2.CX P w) 5 fr ["numbers"] (spReadC K cR)) (gr : mg "read_commands" = some (.ref fr))
    (Cn : Cb P w K mg base CX0 4 fn ["self"] (spNewP CP CS CE)) (mn : Meth K CS "new_player" fn) (Ct : Cb P w K mg base (L2.CX P w) 39 ft ["player", "commands"] (spTry CP CE K cR)) (gt : mg "try_out" = some (.ref ft))
    (Cp : Cb P w K mg base (L2.CX P w) 4 fp ["self", "commands"] (spPut K CS CE cR)) (mp : Meth K CS "put_to_record" fp) : Cb P w K mg base (L2.CX P w) 40 f ["self", "numbers"] (spMdo K cR (SesA CS CE)) := by
  refine D.okX sc_Session_do (fun vs H Q _ h => ?_) (fun cdv A outer s H vs Q EX hr h => ?_)
  · obtain ⟨se, l, T, g, f, row, cs, rfl, _⟩ := h
    rfl
  · refine ⟨_, pss_cons (ps_set (i := 2) sc_Session_do.nd rfl (Or.inl rfl) (pe_cbX Cr hr (by decide) (by rfl) gr (takes_of rfl rfl rfl rfl) (pa_cons (pv 1) pa_nil)))
      (pss_cons (ps_set (i := 3) sc_Session_do.nd rfl (Or.inl rfl) (pe_mb0 Cn Z.cl mn hr (by decide) (pv 0)))
      (pss_cons (ps_set (i := 4) sc_Session_do.nd rfl (Or.inl rfl) (pe_cbX Ct hr (by decide) (by rfl) gt (takes_of rfl rfl rfl rfl) (pa_cons (pv 3) (pa_cons (pv 2) pa_nil))))
      (pss_cons (ps_expr (pe_mbX Cp Z.cl mp hr (by decide) (takes_of rfl rfl rfl rfl) (pv 0) (pa_cons (pv 2) pa_nil)))
      (pss_cons (ps_expr (pe_bm PySem.F.plainAttrs_list PySem.F.slot_list_append PySem.F.type_list_append mt_append (pe_fld (pv 0) rfl) (pa_cons (pe_fld (pv 0) rfl) pa_nil)))
      (pss_cons (ps_fld (pv 0) (pe_fld (pv 3) rfl) rfl)
      (pss_one (ps_ret (pv 4)))))))), ?_⟩
    obtain ⟨se, l, T, g, f0, row, cs, rfl, ⟨ed, m, el, hS, hO⟩, hold, hl, hz, hc, k⟩ := h
    refine ⟨_, rfl, l, row, f0, cs, rfl, hl, hz, hc, fun hok H1 c s1 nc hcs => ?_, fun hok => k.rz (by show (if Ue10.programOk cs = false then (g, [-1]) else _) = _; rw [if_pos hok])⟩
    have hS1 := hS.same s1
    obtain ⟨dx, rc, h1, h2⟩ := hS1.ob
    have hok2 := Bool.and_eq_true_iff.mp hok
    have hall : ∀ x ∈ cs, Ue10.cmdOk x = true := fun x hx => List.all_eq_true.mp hok2.2 x hx
    refine ⟨_, rfl, se, dx, _, rfl, h1, sF_no (by decide +kernel) (by decide +kernel) (by decide +kernel) (by decide +kernel) (by decide +kernel), se, ed, m, el, TU T el, g, rfl, hS1, fun H3 a b s3 na nb st3 => ?_⟩
    have sH3 : Same H H3 := same_trans s1 s3
    have nbH : H b = none := same_none s1 nb
    have naH : H a = none := same_none s1 na
    have back : ∀ {H4 : Hp}, Kp b a H3 H4 → Same H H4 := fun {H4} kp x o z => kp x o (sH3 x o z) (ne_of_none z nbH) (ne_of_none z naH)
    have hst := step_do (g := g) hok
    refine ⟨_, rfl, _, rfl, a, b, m, c, g.registers, g.ed, cs, rfl, hcs.same s3, hall, hS.gok, st3, fun v e' H4 p4 hx kp st4 n4 h4 => ?_, fun hx => ?_, fun hx => ?_⟩
    · have hed : Ue10.edOf (runs (plays g.registers 6) cs g.ed Ue10.FULL).1 = some e' := by
        rw [hx]
        cases v <;> rfl
      rw [hed] at hst
      generalize (runs (plays g.registers 6) cs g.ed Ue10.FULL).2 = bl at st4 hst h4
      have sH4 := back kp
      have hS4 := hS.same sH4
      have hcs4 : CmdsAt H4 c cs := st3.cmds kp (hcs.same s3)
      obtain ⟨dx4, rc4, h14, h24⟩ := hS4.ob
      refine ⟨_, rfl, se, dx4, _, rfl, h14, sF_no (by decide +kernel) (by decide +kernel) (by decide +kernel) (by decide +kernel) (by decide +kernel), _, rfl, se, ed, m, el, c, TU T el, g, cs, rfl, hS4, hcs4, hall, fun h40 => ?_, fun g5 H5 h40 k5 hS5 => ?_⟩
      · rw [h40] at hst
        exact Rz.same (k.rz hst) sH4
      · rw [h40] at hst
        dsimp only at hst
        obtain ⟨r1, r2⟩ := recd_same h40
        have hO5 := (hO.same sH4).kse h14 rfl k5
        obtain ⟨ddx, rc5, o1, o2⟩ := hS5.ob
        obtain ⟨nTl, okO, es, hel, hpr⟩ := hO5
        have hlen : es.length = g.old.length := Paired.length hpr
        have nase : a ≠ se := fun z => by
          rw [z] at naH
          obtain ⟨_, _, z1, _⟩ := hS.ob
          rw [z1] at naH
          cases naH
        have nbse : b ≠ se := fun z => by
          rw [z] at nbH
          obtain ⟨_, _, z1, _⟩ := hS.ob
          rw [z1] at nbH
          cases nbH
        refine ⟨_, rfl, _, _, _, _, _, rfl, o1, Z.cl, Z.nL, sF_l, .inl ⟨rfl, _, SqL.of hel⟩, _, rfl, _, _, _, _, _, rfl, o1, Z.cl, Z.nE, sF_e, el, _, _, rfl, rfl, hel, (by rw [List.length_reverse, List.length_map, hlen, sizeLine_eq]; omega), ?_⟩
        have k6 : Keeps el H5 (upd H5 el (.lst ((es.map V.ref).reverse ++ [.ref ed]))) := Keeps.refl.upd
        have hS6 := hS5.keep (.inr rfl) (fun xs z => by rw [hel] at z; cases z) k6 (by rw [upd_same]; exact fun y => nomatch y)
        have tu6 : ∀ {x xs}, H5 x = some (.tup xs) → (upd H5 el (.lst ((es.map V.ref).reverse ++ [.ref ed]))) x = some (.tup xs) := fun {x xs} z => k6 x _ z (ne_of z hel (fun y => nomatch y))
        have in6 : ∀ {x C dx fs}, H5 x = some (.ins C dx fs) → (upd H5 el (.lst ((es.map V.ref).reverse ++ [.ref ed]))) x = some (.ins C dx fs) := fun {x C dx fs} z => k6 x _ z (ne_of z hel (fun y => nomatch y))
        have ed6 : ∀ {x y}, EdAt CE H5 x y → EdAt CE (upd H5 el (.lst ((es.map V.ref).reverse ++ [.ref ed]))) x y := fun {x y} ⟨q1, q2, q3, q4⟩ => ⟨q1, q2, in6 q3, tu6 q4⟩
        have hO6 : OldI T CE (upd H5 el (.lst ((es.map V.ref).reverse ++ [.ref ed]))) el (g.ed :: g.old) := by
          refine ⟨nTl, fun e he => ?_, ed :: es, ?_, .cons ⟨ed6 (by rw [← r1]; exact hS5.ed), fun z => hS.av.no ed (.inr (.inl rfl)) (.inl z)⟩ (paired_imp (fun x y z => ⟨ed6 z.1, z.2⟩) hpr)⟩
          · rcases List.mem_cons.mp he with z | z
            · rw [z]
              exact hS.ok
            · exact okO e z
          · rw [upd_same, List.map_cons, List.reverse_cons]
        obtain ⟨dxq, hq⟩ := st4.pl
        have hq6 := in6 (k5 _ _ hq nase)
        have hEb6 : EdAt CE (upd H5 el (.lst ((es.map V.ref).reverse ++ [.ref ed]))) b e' := ed6 (hS4.edK k5 st4.ed)
        have hp4 : (upd H5 el (.lst ((es.map V.ref).reverse ++ [.ref ed]))) p4 = some _ := k6 _ _ (k5 _ _ h4 (ne_of h4 h14 (fun z => nomatch z))) (fun e => by
          obtain ⟨xs, z⟩ := hO.lst
          have z2 := sH3 _ _ z
          rw [← e, n4] at z2
          cases z2)
        have fr6 : ∀ x o, H x = some o → x ≠ se → x ≠ el → (upd H5 el (.lst ((es.map V.ref).reverse ++ [.ref ed]))) x = some o := fun x o z n1 n2 => k6 x o (k5 x o (sH4 x o z) n1) n2
        generalize upd H5 el (.lst ((es.map V.ref).reverse ++ [.ref ed])) = H6 at *
        obtain ⟨ddx6, rc6, o16, o26⟩ := hS6.ob
        refine ⟨_, rfl, _, _, _, _, _, rfl, hq6, Y.cl, Y.nE, pF_e, _, rfl, se, CS, ddx6, _, rfl, o16, Z.cl, Z.nE, sF_len, ?_⟩
        rw [sF_put_e]
        have k7 : Keeps se H6 (upd H6 se (.ins CS ddx6 (sF b m (rfV g5.recording) rc6 el))) := Keeps.refl.upd
        have hS7 : SesI (TU T el) CS CE (upd H6 se (.ins CS ddx6 (sF b m (rfV g5.recording) rc6 el))) se { g5 with ed := e', old := g.ed :: g.old } b m el := hS6.put k7 upd_same (hS6.recK k7 o26) (hS6.edK k7 hEb6) st4.ok rfl hS6.rok (fun y => hS6.av.no rc6 (SesI.own_rc o16 (rf_ne y))) (hS.av.fresh nbH)
        have hO7 := hO6.kse o16 rfl k7
        refine ⟨_, rfl, k.ok _ p4 (fun x o z tb => k7 x o (fr6 x o z (fun e => hS.av.no se (.inl rfl) (.inl (by rw [← e]; exact tb))) (fun e => nTl (by rw [← e]; exact tb))) (fun e => hS.av.no se (.inl rfl) (.inl (by rw [← e]; exact tb)))) ?_ (same_none sH3 n4) ?_⟩
        · rw [hst]
          exact ⟨b, m, el, hS7, hO7⟩
        · rw [hst]
          exact k7 _ _ hp4 (ne_of hp4 o16 (fun z => nomatch z))
    · rw [hx] at hst
      exact fun C d H5 rf kp nd hd => k.no (-9) C d H5 rf hst (back kp) (same_none sH3 nd) hd
    · rw [hx] at hst
      exact fun C d H5 rf kp nd hd => k.no (-8) C d H5 rf hst (back kp) (same_none sH3 nd) hd
theorem step_would {g : Ue10.House} {cs : List Ue10.Cmd} (hok : Ue10.programOk cs = true) : Ue10.step g (.would cs) = (g, Ue10.outRow (runs (plays g.registers 6) cs g.ed Ue10.FULL).1 (runs (plays g.registers 6) cs g.ed Ue10.FULL).2) := by
  show (g, if Ue10.programOk cs = false then [-1] else _) = _
  rw [if_neg (by rw [hok]; decide)]
  rfl
theorem ok_would {fr fn ft : Addr} (D : Df K "would" "Session.would" s_Session_would ["self", "numbers"] f) (Z : SeC K CS) (Cr : Cb P w K mg base (L2.CX P w) 5 fr ["numbers"] (spReadC K cR)) (gr : mg "read_commands" = some (.ref fr))
    (Cn : Cb P w K mg base CX0 4 fn ["self"] (spNewP CP CS CE)) (mn : Meth K CS "new_player" fn) (Ct : Cb P w K mg base (L2.CX P w) 39 ft ["player", "commands"] (spTry CP CE K cR)) (gt : mg "try_out" = some (.ref ft)) :
    Cb P w K mg base (L2.CX P w) 40 f ["self", "numbers"] (spMwould K cR (SesA CS CE) .would) := by
  refine D.okX sc_Session_would (fun vs H Q _ h => ?_) (fun cdv A outer s H vs Q EX hr h => ?_)
  · obtain ⟨se, l, T, g, f, row, cs, rfl, _⟩ := h
    rfl
  · refine ⟨_, pss_one (ps_ret (pe_cbX Ct hr (by decide) (by rfl) gt (takes_of rfl rfl rfl rfl) (pa_cons (pe_mb0 Cn Z.cl mn hr (by decide) (pv 0)) (pa_cons (pe_cbX Cr hr (by decide) (by rfl) gr (takes_of rfl rfl rfl rfl) (pa_cons (pv 1) pa_nil)) pa_nil)))), ?_⟩
    obtain ⟨se, l, T, g, f0, row, cs, rfl, ⟨ed, m, el, hS, hO⟩, hl, hz, hc, k⟩ := h
    obtain ⟨dx, rc, h1, h2⟩ := hS.ob
    refine ⟨_, rfl, se, dx, _, rfl, h1, sF_no (by decide +kernel) (by decide +kernel) (by decide +kernel) (by decide +kernel) (by decide +kernel), se, ed, m, el, TU T el, g, rfl, hS, fun H3 a b s3 na nb st3 => ?_⟩
    refine ⟨_, rfl, l, row, f0, cs, rfl, sq_same hl s3, hz, hc, fun hok H1 c s1 nc hcs => ?_, fun hok => Rz.same (k.rz (by show (g, if Ue10.programOk cs = false then [-1] else _) = _; rw [if_pos hok])) s3⟩
    have hok2 := Bool.and_eq_true_iff.mp hok
    have hall : ∀ x ∈ cs, Ue10.cmdOk x = true := fun x hx => List.all_eq_true.mp hok2.2 x hx
    have s31 := same_trans s3 s1
    have back : ∀ {H4 : Hp}, Kp b a H1 H4 → Same H H4 := fun {H4} kp x o z => kp x o (s31 x o z) (ne_of_none z nb) (ne_of_none z na)
    have hst := step_would (g := g) hok
    refine ⟨a, b, m, c, g.registers, g.ed, cs, rfl, hcs, hall, hS.gok, st3.same s1, fun v e' H4 p4 hx kp st4 n4 h4 => ?_, fun hx => ?_, fun hx => ?_⟩
    · refine k.ok H4 p4 (fun x o z _ => back kp x o z) ?_ (same_none s31 n4) ?_
      · rw [hst]
        exact ⟨ed, m, el, hS.same (back kp), hO.same (back kp)⟩
      · rw [hst]
        exact h4
    · rw [hx] at hst
      exact fun C d H5 rf kp nd hd => k.no (-9) C d H5 rf hst (back kp) (same_none s31 nd) hd
    · rw [hx] at hst
      exact fun C d H5 rf kp nd hd => k.no (-8) C d H5 rf hst (back kp) (same_none s31 nd) hd
end
end Mp
/-! The defs of the calls: the numbers taken, then the session asked. -/
namespace Mp
open PySem PySem.Spec PyProof.Rows L2

def spM0 (K : PySem.W.Frag) (cR : Addr) (SA : SAt) (x : Ue10.Call) : Sp := fun vs H Q E => ∃ (se : Addr) (T : Addr → Prop) (g : Ue10.House), vs = [.ref se] ∧ SA T H se g ∧ MOk K cR SA T se g x H Q E
/-- the rest of a call, once its numbers are taken -/
structure XK' (K : PySem.W.Frag) (CR cR : Addr) (SA : SAt) (T : Addr → Prop) (se rd l : Addr) (g : Ue10.House) (j : Nat) (x : Ue10.Call) (H : Hp) (Q : VK) (E : XK) : Prop where
  ok : ∀ H' p, FrT T rd H H' → SA T H' se (Ue10.step g x).1 → RdAt CR H' rd l j → H p = none → H' p = some (.lst (ix (Ue10.step g x).2)) → Q (.ref p) H'
  no : ∀ z C d H', RfC K cR C → Ue10.step g x = (g, [z]) → Keeps rd H H' → RdAt CR H' rd l j → H d = none → H' d = some (.xd (numF z)) → E (.ref C) (some d) H'
section
variable {K : PySem.W.Frag} {CR CS cR : Addr} {SA : SAt} {F : List Str} {T : Addr → Prop} {se rd l : Addr} {g : Ue10.House} {i j : Nat} {x : Ue10.Call} {H H2 : Hp} {Q : VK} {E : XK}
theorem rd_tup (hR : RdAt CR H rd l i) : ∀ xs, H rd ≠ some (.tup xs) := by
  obtain ⟨_, z⟩ := hR
  rw [z]
  exact fun xs y => nomatch y
theorem rd_some (hR : RdAt CR H rd l i) : H rd ≠ none := by
  obtain ⟨_, z⟩ := hR
  rw [z]
  exact fun y => nomatch y
theorem XK'.mok (k : XK' K CR cR SA T se rd l g j x H Q E) (S : SaOk CS SA F) (hS : SA T H se g) (trd : T rd) (hR : RdAt CR H rd l i) (kp : Keeps rd H H2) (hR2 : RdAt CR H2 rd l j) : MOk K cR SA T se g x H2 Q E := by
  obtain ⟨dx, hr⟩ := id hR
  obtain ⟨dx2, hr2⟩ := id hR2
  have back : ∀ {b : Addr}, H2 b = none → H b = none := fun {b} z => by
    cases q : H b with
    | none => rfl
    | some o =>
      have hb : b ≠ rd := fun e => by
        rw [e, hr2] at z
        cases z
      have := kp b o q hb
      rw [z] at this
      cases this
  constructor
  · intro H' p fr hS' np hp
    exact k.ok H' p (fun b o z q1 q4 => fr b o (kp b o z q4) q1) hS' ⟨dx2, fr _ _ hr2 trd⟩ (back np) hp
  · intro z C d H' rf e s nd hd
    exact k.no z C d H' rf e (fun b o y q4 => s b o (kp b o y q4)) ⟨dx2, s _ _ hr2⟩ (back nd) hd
end
theorem tx_ci (row : List Nat) : ix (ci row) = tx row := by
  unfold ix ci tx
  rw [List.map_map]
  rfl
section
variable {P : Program} {w : World} {K : PySem.W.Frag} {mg : Str → Option Value} {base : Heap} {CR CS cR f : Addr} {SA : SAt} {F : List Str}
/-- the number at the next place is known -/
theorem Turn.at {ns : List Int} {i j n : Nat} {x : Ue10.Call} (h : Turn ns i j x) (hn : ns[i]? = some (n : Int)) : match n with
    | 0 => ∃ (p n : Nat) (row : List Nat), x = .text row p ∧ ns[i + 1]? = some (p : Int) ∧ ns[i + 2]? = some (n : Int) ∧ i + 3 + n ≤ ns.length ∧ j = i + 3 + n ∧ n ≤ 80 ∧ (ns.drop (i + 3)).take n = ci row
    | 1 => ∃ (n : Nat) (row : List Nat) (cs : List Ue10.Cmd), x = .do_ cs ∧ ns[i + 1]? = some (n : Int) ∧ i + 2 + n ≤ ns.length ∧ j = i + 2 + n ∧ n ≤ 160 ∧ (ns.drop (i + 2)).take n = ci row ∧ Ue10Neutral.cmdsIn (row.length + 1) row = some cs
    | 2 => ∃ (r n : Nat) (row : List Nat) (cs : List Ue10.Cmd), x = .set r cs ∧ ns[i + 1]? = some (r : Int) ∧ ns[i + 2]? = some (n : Int) ∧ i + 3 + n ≤ ns.length ∧ j = i + 3 + n ∧ n ≤ 160 ∧ (ns.drop (i + 3)).take n = ci row ∧ Ue10Neutral.cmdsIn (row.length + 1) row = some cs
    | 3 => ∃ r : Nat, x = .get r ∧ ns[i + 1]? = some (r : Int) ∧ j = i + 2
    | 4 => ∃ (r : Nat) (m : Bool), x = .record r m ∧ ns[i + 1]? = some (r : Int) ∧ ns[i + 2]? = some (if m = true then 1 else 0) ∧ j = i + 3
    | 5 => x = .halt_ ∧ j = i + 1
    | 6 => x = .shows ∧ j = i + 1
    | 7 => x = .undo ∧ j = i + 1
    | 8 => ∃ (n : Nat) (row : List Nat) (cs : List Ue10.Cmd), x = .would cs ∧ ns[i + 1]? = some (n : Int) ∧ i + 2 + n ≤ ns.length ∧ j = i + 2 + n ∧ n ≤ 160 ∧ (ns.drop (i + 2)).take n = ci row ∧ Ue10Neutral.cmdsIn (row.length + 1) row = some cs
    | 9 => ∃ r : Nat, x = .period r ∧ ns[i + 1]? = some (r : Int) ∧ j = i + 2
    | _ => True := by
  cases h with
  | text p q row a1 a2 a3 a4 a5 a6 a7 =>
    rw [a1] at hn
    obtain rfl : n = 0 := by have := Option.some.inj hn; omega
    exact ⟨p, q, row, rfl, a2, a3, a4, a5, a6, a7⟩
  | do_ q row cs a1 a2 a4 a5 a6 a7 a8 =>
    rw [a1] at hn
    obtain rfl : n = 1 := by have := Option.some.inj hn; omega
    exact ⟨q, row, cs, rfl, a2, a4, a5, a6, a7, a8⟩
  | set r q row cs a1 a2 a3 a4 a5 a6 a7 a8 =>
    rw [a1] at hn
    obtain rfl : n = 2 := by have := Option.some.inj hn; omega
    exact ⟨r, q, row, cs, rfl, a2, a3, a4, a5, a6, a7, a8⟩
  | get r a1 a2 a3 =>
    rw [a1] at hn
    obtain rfl : n = 3 := by have := Option.some.inj hn; omega
    exact ⟨r, rfl, a2, a3⟩
  | record r m a1 a2 a3 a4 =>
    rw [a1] at hn
    obtain rfl : n = 4 := by have := Option.some.inj hn; omega
    exact ⟨r, m, rfl, a2, a3, a4⟩
  | halt_ a1 a2 =>
    rw [a1] at hn
    obtain rfl : n = 5 := by have := Option.some.inj hn; omega
    exact ⟨rfl, a2⟩
  | shows a1 a2 =>
    rw [a1] at hn
    obtain rfl : n = 6 := by have := Option.some.inj hn; omega
    exact ⟨rfl, a2⟩
  | undo a1 a2 =>
    rw [a1] at hn
    obtain rfl : n = 7 := by have := Option.some.inj hn; omega
    exact ⟨rfl, a2⟩
  | would q row cs a1 a2 a4 a5 a6 a7 a8 =>
    rw [a1] at hn
    obtain rfl : n = 8 := by have := Option.some.inj hn; omega
    exact ⟨q, row, cs, rfl, a2, a4, a5, a6, a7, a8⟩
  | period r a1 a2 a3 =>
    rw [a1] at hn
    obtain rfl : n = 9 := by have := Option.some.inj hn; omega
    exact ⟨r, rfl, a2, a3⟩
/-- session.look_up and its like -/
theorem ok_answer_get {k : Nat} {ft fm : Addr} (D : Df K "answer_get" "answer_get" s_answer_get ["session", "reader"] f) (R : RdC K CR) (Ct : Cb P w K mg base CX0 1 ft ["self"] (spTake K CR)) (mt : Meth K CR "take" ft) (S : SaOk CS SA F) (cS : Cls K CS)
    (Cm : Cb P w K mg base (L2.CX P w) k fm ["self", "slot"] (spM1 K cR SA .get)) (mm : Meth K CS "look_up" fm) (hF : F.all (fun y => !(("look_up" : Str) == y)) = true) (hk : 1 ≤ k) : Cb P w K mg base (L2.CX P w) (k + 1) f ["session", "reader"] (spX K CR cR SA 3) := by
  refine D.okX sc_answer_get (fun vs H Q _ h => ?_) (fun cdv A outer s H vs Q E hr h => ?_)
  · obtain ⟨se, rd, l, T, g, i, j, ns, x, rfl, _⟩ := h
    rfl
  · refine ⟨_, pss_cons (ps_set (i := 2) sc_answer_get.nd rfl (Or.inl rfl) (pe_mb0 Ct R.cl mt hr hk (pv 1)))
      (pss_one (ps_ret (pe_mbX Cm cS mm hr (Nat.le_refl _) (takes_of rfl rfl rfl rfl) (pv 0) (pa_cons (pv 2) pa_nil)))), ?_⟩
    obtain ⟨se, rd, l, T, g, i, j, ns, x, rfl, hS, hold, trd, hR, hl, hT, hn, k1, k2⟩ := h
    obtain ⟨r, rfl, hr1, rfl⟩ := hT.at hn
    obtain ⟨dx, hrd⟩ := id hR
    refine ⟨_, rfl, rd, dx, _, rfl, hrd, rF_no (by decide +kernel) (by decide +kernel), rd, l, i + 1, ns, _, rfl, hR, hl, hr1, fun H1 kp hR1 => ?_⟩
    have hS1 := S.keep hS trd (rd_tup hR) kp (rd_some hR1)
    obtain ⟨dx1, fs1, hs1, hn1⟩ := S.cls hS1
    refine ⟨_, rfl, se, dx1, fs1, rfl, hs1, hn1 _ hF, _, rfl, se, T, g, r, rfl, hS1, ?_⟩
    exact XK'.mok ⟨k1, k2⟩ S hS trd hR kp hR1
theorem ok_answer_record {k : Nat} {ft fm : Addr} (D : Df K "answer_record" "answer_record" s_answer_record ["session", "reader"] f) (R : RdC K CR) (Ct : Cb P w K mg base CX0 1 ft ["self"] (spTake K CR)) (mt : Meth K CR "take" ft) (S : SaOk CS SA F) (cS : Cls K CS)
    (Cm : Cb P w K mg base (L2.CX P w) k fm ["self", "slot", "more"] (spMrec K cR SA)) (mm : Meth K CS "record" fm) (hF : F.all (fun y => !(("record" : Str) == y)) = true) (hk : 1 ≤ k) : Cb P w K mg base (L2.CX P w) (k + 1) f ["session", "reader"] (spX K CR cR SA 4) := by
  refine D.okX sc_answer_record (fun vs H Q _ h => ?_) (fun cdv A outer s H vs Q E hr h => ?_)
  · obtain ⟨se, rd, l, T, g, i, j, ns, x, rfl, _⟩ := h
    rfl
  · refine ⟨_, pss_cons (ps_set (i := 2) sc_answer_record.nd rfl (Or.inl rfl) (pe_mb0 Ct R.cl mt hr hk (pv 1))) (pss_cons (ps_set (i := 3) sc_answer_record.nd rfl (Or.inl rfl) (pe_mb0 Ct R.cl mt hr hk (pv 1)))
      (pss_one (ps_ret (pe_mbX Cm cS mm hr (Nat.le_refl _) (takes_of rfl rfl rfl rfl) (pv 0) (pa_cons (pv 2) (pa_cons (pv 3) pa_nil)))))), ?_⟩
    obtain ⟨se, rd, l, T, g, i, j, ns, x, rfl, hS, hold, trd, hR, hl, hT, hn, k1, k2⟩ := h
    obtain ⟨r, b, rfl, hr1, hr2, rfl⟩ := hT.at hn
    obtain ⟨dx, hrd⟩ := id hR
    refine ⟨_, rfl, rd, dx, _, rfl, hrd, rF_no (by decide +kernel) (by decide +kernel), rd, l, i + 1, ns, _, rfl, hR, hl, hr1, fun H1 kp hR1 => ?_⟩
    obtain ⟨dx1, hrd1⟩ := id hR1
    have hl1 := sq_keeps hrd hl kp
    refine ⟨_, rfl, rd, dx1, _, rfl, hrd1, rF_no (by decide +kernel) (by decide +kernel), rd, l, i + 2, ns, _, rfl, hR1, hl1, hr2, fun H2 kp2 hR2 => ?_⟩
    have kp3 := kp.trans kp2
    have hS1 := S.keep hS trd (rd_tup hR) kp3 (rd_some hR2)
    obtain ⟨dx2, fs1, hs1, hn1⟩ := S.cls hS1
    refine ⟨_, rfl, se, dx2, fs1, rfl, hs1, hn1 _ hF, _, rfl, _, rfl, se, T, g, r, b, rfl, hS1, ?_⟩
    exact XK'.mok ⟨k1, k2⟩ S hS trd hR kp3 hR2
theorem row_at {H : Hp} {q : Addr} {ns : List Int} {i n : Nat} {row : List Nat} (h : H q = some (.lst (ix ((ns.drop i).take n)))) (e : (ns.drop i).take n = ci row) : SqL K H q (tx row) := by
  rw [e, tx_ci] at h
  exact SqL.of h
theorem row_len {ns : List Int} {i n b : Nat} {row : List Nat} (e : (ns.drop i).take n = ci row) (h : n ≤ b) : row.length ≤ b := by
  have e2 : ((ns.drop i).take n).length = row.length := by
    rw [e]
    exact List.length_map _
  rw [List.length_take] at e2
  omega
theorem ok_answer_text {k : Nat} {ft fr fm : Addr} (D : Df K "answer_text" "answer_text" s_answer_text ["session", "reader"] f) (R : RdC K CR) (Ct : Cb P w K mg base CX0 1 ft ["self"] (spTake K CR)) (mt : Meth K CR "take" ft) (Cr : Cb P w K mg base CX0 2 fr ["self"] (spTakeRow K CR)) (mr : Meth K CR "take_row" fr) (S : SaOk CS SA F) (cS : Cls K CS)
    (Cm : Cb P w K mg base (L2.CX P w) k fm ["self", "place", "numbers"] (spMtext K cR SA)) (mm : Meth K CS "start_text" fm) (hF : F.all (fun y => !(("start_text" : Str) == y)) = true) (hk : 2 ≤ k) : Cb P w K mg base (L2.CX P w) (k + 1) f ["session", "reader"] (spX K CR cR SA 0) := by
  refine D.okX sc_answer_text (fun vs H Q _ h => ?_) (fun cdv A outer s H vs Q E hr h => ?_)
  · obtain ⟨se, rd, l, T, g, i, j, ns, x, rfl, _⟩ := h
    rfl
  · refine ⟨_, pss_cons (ps_set (i := 2) sc_answer_text.nd rfl (Or.inl rfl) (pe_mb0 Ct R.cl mt hr (by omega) (pv 1))) (pss_cons (ps_set (i := 3) sc_answer_text.nd rfl (Or.inl rfl) (pe_mb0 Cr R.cl mr hr hk (pv 1)))
      (pss_one (ps_ret (pe_mbX Cm cS mm hr (Nat.le_refl _) (takes_of rfl rfl rfl rfl) (pv 0) (pa_cons (pv 2) (pa_cons (pv 3) pa_nil)))))), ?_⟩
    obtain ⟨se, rd, l, T, g, i, j, ns, x, rfl, hS, hold, trd, hR, hl, hT, hn, k1, k2⟩ := h
    obtain ⟨p, n, row, rfl, hr1, hr2, hle, rfl, hn80, hrow⟩ := hT.at hn
    obtain ⟨dx, hrd⟩ := id hR
    refine ⟨_, rfl, rd, dx, _, rfl, hrd, rF_no (by decide +kernel) (by decide +kernel), rd, l, i + 1, ns, _, rfl, hR, hl, hr1, fun H1 kp hR1 => ?_⟩
    obtain ⟨dx1, hrd1⟩ := id hR1
    have hl1 := sq_keeps hrd hl kp
    refine ⟨_, rfl, rd, dx1, _, rfl, hrd1, rF_no (by decide +kernel) (by decide +kernel), rd, l, i + 2, n, ns, rfl, hR1, hl1, hr2, hle, fun H2 q kp2 hR2 nq hq => ?_⟩
    have kp3 := kp.trans kp2
    have hS1 := S.keep hS trd (rd_tup hR) kp3 (rd_some hR2)
    obtain ⟨dx2, fs1, hs1, hn1⟩ := S.cls hS1
    refine ⟨_, rfl, se, dx2, fs1, rfl, hs1, hn1 _ hF, _, rfl, _, rfl, se, q, T, g, p, row, rfl, hS1, row_at hq hrow, row_len hrow (by omega), ?_⟩
    exact XK'.mok ⟨k1, k2⟩ S hS trd hR kp3 hR2
theorem ok_answer_set {k : Nat} {ft fr fm : Addr} (D : Df K "answer_set" "answer_set" s_answer_set ["session", "reader"] f) (R : RdC K CR) (Ct : Cb P w K mg base CX0 1 ft ["self"] (spTake K CR)) (mt : Meth K CR "take" ft) (Cr : Cb P w K mg base CX0 2 fr ["self"] (spTakeRow K CR)) (mr : Meth K CR "take_row" fr) (S : SaOk CS SA F) (cS : Cls K CS)
    (Cm : Cb P w K mg base (L2.CX P w) k fm ["self", "slot", "numbers"] (spMset K cR SA)) (mm : Meth K CS "fill" fm) (hF : F.all (fun y => !(("fill" : Str) == y)) = true) (hk : 2 ≤ k) : Cb P w K mg base (L2.CX P w) (k + 1) f ["session", "reader"] (spX K CR cR SA 2) := by
  refine D.okX sc_answer_set (fun vs H Q _ h => ?_) (fun cdv A outer s H vs Q E hr h => ?_)
  · obtain ⟨se, rd, l, T, g, i, j, ns, x, rfl, _⟩ := h
    rfl
  · refine ⟨_, pss_cons (ps_set (i := 2) sc_answer_set.nd rfl (Or.inl rfl) (pe_mb0 Ct R.cl mt hr (by omega) (pv 1))) (pss_cons (ps_set (i := 3) sc_answer_set.nd rfl (Or.inl rfl) (pe_mb0 Cr R.cl mr hr hk (pv 1)))
      (pss_one (ps_ret (pe_mbX Cm cS mm hr (Nat.le_refl _) (takes_of rfl rfl rfl rfl) (pv 0) (pa_cons (pv 2) (pa_cons (pv 3) pa_nil)))))), ?_⟩
    obtain ⟨se, rd, l, T, g, i, j, ns, x, rfl, hS, hold, trd, hR, hl, hT, hn, k1, k2⟩ := h
    obtain ⟨p, n, row, cs, rfl, hr1, hr2, hle, rfl, hn80, hrow, hcs⟩ := hT.at hn
    obtain ⟨dx, hrd⟩ := id hR
    refine ⟨_, rfl, rd, dx, _, rfl, hrd, rF_no (by decide +kernel) (by decide +kernel), rd, l, i + 1, ns, _, rfl, hR, hl, hr1, fun H1 kp hR1 => ?_⟩
    obtain ⟨dx1, hrd1⟩ := id hR1
    have hl1 := sq_keeps hrd hl kp
    refine ⟨_, rfl, rd, dx1, _, rfl, hrd1, rF_no (by decide +kernel) (by decide +kernel), rd, l, i + 2, n, ns, rfl, hR1, hl1, hr2, hle, fun H2 q kp2 hR2 nq hq => ?_⟩
    have kp3 := kp.trans kp2
    have hS1 := S.keep hS trd (rd_tup hR) kp3 (rd_some hR2)
    obtain ⟨dx2, fs1, hs1, hn1⟩ := S.cls hS1
    refine ⟨_, rfl, se, dx2, fs1, rfl, hs1, hn1 _ hF, _, rfl, _, rfl, se, q, T, g, p, _, row, cs, rfl, hS1, row_at hq hrow, row_len hrow (by omega), hcs, ?_⟩
    exact XK'.mok ⟨k1, k2⟩ S hS trd hR kp3 hR2
theorem ok_answer_do {k : Nat} {fr fm : Addr} (D : Df K "answer_do" "answer_do" s_answer_do ["session", "reader"] f) (R : RdC K CR) (Cr : Cb P w K mg base CX0 2 fr ["self"] (spTakeRow K CR)) (mr : Meth K CR "take_row" fr) (S : SaOk CS SA F) (cS : Cls K CS)
    (Cm : Cb P w K mg base (L2.CX P w) k fm ["self", "numbers"] (spMdo K cR SA)) (mm : Meth K CS "do" fm) (hF : F.all (fun y => !(("do" : Str) == y)) = true) (hk : 2 ≤ k) : Cb P w K mg base (L2.CX P w) (k + 1) f ["session", "reader"] (spX K CR cR SA 1) := by
  refine D.okX sc_answer_do (fun vs H Q _ h => ?_) (fun cdv A outer s H vs Q E hr h => ?_)
  · obtain ⟨se, rd, l, T, g, i, j, ns, x, rfl, _⟩ := h
    rfl
  · refine ⟨_, pss_cons (ps_set (i := 2) sc_answer_do.nd rfl (Or.inl rfl) (pe_mb0 Cr R.cl mr hr hk (pv 1)))
      (pss_one (ps_ret (pe_mbX Cm cS mm hr (Nat.le_refl _) (takes_of rfl rfl rfl rfl) (pv 0) (pa_cons (pv 2) pa_nil)))), ?_⟩
    obtain ⟨se, rd, l, T, g, i, j, ns, x, rfl, hS, hold, trd, hR, hl, hT, hn, k1, k2⟩ := h
    obtain ⟨n, row, cs, rfl, hr2, hle, rfl, hn80, hrow, hcs⟩ := hT.at hn
    obtain ⟨dx, hrd⟩ := id hR
    refine ⟨_, rfl, rd, dx, _, rfl, hrd, rF_no (by decide +kernel) (by decide +kernel), rd, l, i + 1, n, ns, rfl, hR, hl, hr2, hle, fun H2 q kp hR2 nq hq => ?_⟩
    have hS1 := S.keep hS trd (rd_tup hR) kp (rd_some hR2)
    obtain ⟨dx2, fs1, hs1, hn1⟩ := S.cls hS1
    refine ⟨_, rfl, se, dx2, fs1, rfl, hs1, hn1 _ hF, _, rfl, se, q, T, g, _, row, cs, rfl, hS1, hold, row_at hq hrow, row_len hrow (by omega), hcs, ?_⟩
    exact XK'.mok ⟨k1, k2⟩ S hS trd hR kp hR2
theorem ok_answer_would {k : Nat} {fr fm : Addr} (D : Df K "answer_would" "answer_would" s_answer_would ["session", "reader"] f) (R : RdC K CR) (Cr : Cb P w K mg base CX0 2 fr ["self"] (spTakeRow K CR)) (mr : Meth K CR "take_row" fr) (S : SaOk CS SA F) (cS : Cls K CS)
    (Cm : Cb P w K mg base (L2.CX P w) k fm ["self", "numbers"] (spMwould K cR SA .would)) (mm : Meth K CS "would" fm) (hF : F.all (fun y => !(("would" : Str) == y)) = true) (hk : 2 ≤ k) : Cb P w K mg base (L2.CX P w) (k + 1) f ["session", "reader"] (spX K CR cR SA 8) := by
  refine D.okX sc_answer_would (fun vs H Q _ h => ?_) (fun cdv A outer s H vs Q E hr h => ?_)
  · obtain ⟨se, rd, l, T, g, i, j, ns, x, rfl, _⟩ := h
    rfl
  · refine ⟨_, pss_cons (ps_set (i := 2) sc_answer_would.nd rfl (Or.inl rfl) (pe_mb0 Cr R.cl mr hr hk (pv 1)))
      (pss_one (ps_ret (pe_mbX Cm cS mm hr (Nat.le_refl _) (takes_of rfl rfl rfl rfl) (pv 0) (pa_cons (pv 2) pa_nil)))), ?_⟩
    obtain ⟨se, rd, l, T, g, i, j, ns, x, rfl, hS, hold, trd, hR, hl, hT, hn, k1, k2⟩ := h
    obtain ⟨n, row, cs, rfl, hr2, hle, rfl, hn80, hrow, hcs⟩ := hT.at hn
    obtain ⟨dx, hrd⟩ := id hR
    refine ⟨_, rfl, rd, dx, _, rfl, hrd, rF_no (by decide +kernel) (by decide +kernel), rd, l, i + 1, n, ns, rfl, hR, hl, hr2, hle, fun H2 q kp hR2 nq hq => ?_⟩
    have hS1 := S.keep hS trd (rd_tup hR) kp (rd_some hR2)
    obtain ⟨dx2, fs1, hs1, hn1⟩ := S.cls hS1
    refine ⟨_, rfl, se, dx2, fs1, rfl, hs1, hn1 _ hF, _, rfl, se, q, T, g, _, row, cs, rfl, hS1, row_at hq hrow, row_len hrow (by omega), hcs, ?_⟩
    exact XK'.mok ⟨k1, k2⟩ S hS trd hR kp hR2
theorem ok_answer_period {k : Nat} {ft fm : Addr} (D : Df K "answer_period" "answer_period" s_answer_period ["session", "reader"] f) (R : RdC K CR) (Ct : Cb P w K mg base CX0 1 ft ["self"] (spTake K CR)) (mt : Meth K CR "take" ft) (S : SaOk CS SA F) (cS : Cls K CS)
    (Cm : Cb P w K mg base (L2.CX P w) k fm ["self", "slot"] (spM1 K cR SA .period)) (mm : Meth K CS "period" fm) (hF : F.all (fun y => !(("period" : Str) == y)) = true) (hk : 1 ≤ k) : Cb P w K mg base (L2.CX P w) (k + 1) f ["session", "reader"] (spX K CR cR SA 9) := by
  refine D.okX sc_answer_period (fun vs H Q _ h => ?_) (fun cdv A outer s H vs Q E hr h => ?_)
  · obtain ⟨se, rd, l, T, g, i, j, ns, x, rfl, _⟩ := h
    rfl
  · refine ⟨_, pss_cons (ps_set (i := 2) sc_answer_period.nd rfl (Or.inl rfl) (pe_mb0 Ct R.cl mt hr hk (pv 1)))
      (pss_one (ps_ret (pe_mbX Cm cS mm hr (Nat.le_refl _) (takes_of rfl rfl rfl rfl) (pv 0) (pa_cons (pv 2) pa_nil)))), ?_⟩
    obtain ⟨se, rd, l, T, g, i, j, ns, x, rfl, hS, hold, trd, hR, hl, hT, hn, k1, k2⟩ := h
    obtain ⟨r, rfl, hr1, rfl⟩ := hT.at hn
    obtain ⟨dx, hrd⟩ := id hR
    refine ⟨_, rfl, rd, dx, _, rfl, hrd, rF_no (by decide +kernel) (by decide +kernel), rd, l, i + 1, ns, _, rfl, hR, hl, hr1, fun H1 kp hR1 => ?_⟩
    have hS1 := S.keep hS trd (rd_tup hR) kp (rd_some hR1)
    obtain ⟨dx1, fs1, hs1, hn1⟩ := S.cls hS1
    refine ⟨_, rfl, se, dx1, fs1, rfl, hs1, hn1 _ hF, _, rfl, se, T, g, r, rfl, hS1, ?_⟩
    exact XK'.mok ⟨k1, k2⟩ S hS trd hR kp hR1
theorem ok_answer_stop {k : Nat} {fm : Addr} (D : Df K "answer_stop" "answer_stop" s_answer_stop ["session", "reader"] f) (S : SaOk CS SA F) (cS : Cls K CS)
    (Cm : Cb P w K mg base (L2.CX P w) k fm ["self"] (spM0 K cR SA .halt_)) (mm : Meth K CS "stop_recording" fm) (hF : F.all (fun y => !(("stop_recording" : Str) == y)) = true) : Cb P w K mg base (L2.CX P w) (k + 1) f ["session", "reader"] (spX K CR cR SA 5) := by
  refine D.okX sc_answer_stop (fun vs H Q _ h => ?_) (fun cdv A outer s H vs Q E hr h => ?_)
  · obtain ⟨se, rd, l, T, g, i, j, ns, x, rfl, _⟩ := h
    rfl
  · refine ⟨_, pss_one (ps_ret (pe_mbX0 Cm cS mm hr (Nat.le_refl _) (takes_of rfl rfl rfl rfl) (pv 0))), ?_⟩
    obtain ⟨se, rd, l, T, g, i, j, ns, x, rfl, hS, hold, trd, hR, hl, hT, hn, k1, k2⟩ := h
    obtain ⟨rfl, rfl⟩ := hT.at hn
    obtain ⟨dx1, fs1, hs1, hn1⟩ := S.cls hS
    refine ⟨_, rfl, se, dx1, fs1, rfl, hs1, hn1 _ hF, se, T, g, rfl, hS, ?_⟩
    exact XK'.mok ⟨k1, k2⟩ S hS trd hR Keeps.refl hR
theorem ok_answer_shows {k : Nat} {fm : Addr} (D : Df K "answer_shows" "answer_shows" s_answer_shows ["session", "reader"] f) (S : SaOk CS SA F) (cS : Cls K CS)
    (Cm : Cb P w K mg base (L2.CX P w) k fm ["self"] (spM0 K cR SA .shows)) (mm : Meth K CS "shows" fm) (hF : F.all (fun y => !(("shows" : Str) == y)) = true) : Cb P w K mg base (L2.CX P w) (k + 1) f ["session", "reader"] (spX K CR cR SA 6) := by
  refine D.okX sc_answer_shows (fun vs H Q _ h => ?_) (fun cdv A outer s H vs Q E hr h => ?_)
  · obtain ⟨se, rd, l, T, g, i, j, ns, x, rfl, _⟩ := h
    rfl
  · refine ⟨_, pss_one (ps_ret (pe_mbX0 Cm cS mm hr (Nat.le_refl _) (takes_of rfl rfl rfl rfl) (pv 0))), ?_⟩
    obtain ⟨se, rd, l, T, g, i, j, ns, x, rfl, hS, hold, trd, hR, hl, hT, hn, k1, k2⟩ := h
    obtain ⟨rfl, rfl⟩ := hT.at hn
    obtain ⟨dx1, fs1, hs1, hn1⟩ := S.cls hS
    refine ⟨_, rfl, se, dx1, fs1, rfl, hs1, hn1 _ hF, se, T, g, rfl, hS, ?_⟩
    exact XK'.mok ⟨k1, k2⟩ S hS trd hR Keeps.refl hR
theorem ok_answer_undo {k : Nat} {fm : Addr} (D : Df K "answer_undo" "answer_undo" s_answer_undo ["session", "reader"] f) (S : SaOk CS SA F) (cS : Cls K CS)
    (Cm : Cb P w K mg base (L2.CX P w) k fm ["self"] (spM0 K cR SA .undo)) (mm : Meth K CS "undo" fm) (hF : F.all (fun y => !(("undo" : Str) == y)) = true) : Cb P w K mg base (L2.CX P w) (k + 1) f ["session", "reader"] (spX K CR cR SA 7) := by
  refine D.okX sc_answer_undo (fun vs H Q _ h => ?_) (fun cdv A outer s H vs Q E hr h => ?_)
  · obtain ⟨se, rd, l, T, g, i, j, ns, x, rfl, _⟩ := h
    rfl
  · refine ⟨_, pss_one (ps_ret (pe_mbX0 Cm cS mm hr (Nat.le_refl _) (takes_of rfl rfl rfl rfl) (pv 0))), ?_⟩
    obtain ⟨se, rd, l, T, g, i, j, ns, x, rfl, hS, hold, trd, hR, hl, hT, hn, k1, k2⟩ := h
    obtain ⟨rfl, rfl⟩ := hT.at hn
    obtain ⟨dx1, fs1, hs1, hn1⟩ := S.cls hS
    refine ⟨_, rfl, se, dx1, fs1, rfl, hs1, hn1 _ hF, se, T, g, rfl, hS, ?_⟩
    exact XK'.mok ⟨k1, k2⟩ S hS trd hR Keeps.refl hR
end
end Mp
/-! The session: stop, shows, undo, period. -/
namespace Mp
open PySem PySem.Spec PyProof.Rows L2
open Ue10 (does plays runs timesFrom untilFrom periodFrom)
theorem last_rev {x : V} {l : List V} : ((x :: l).reverse)[((x :: l).reverse).length - 1]? = some x := by
  rw [List.reverse_cons, List.length_append, List.getElem?_append_right (by show l.reverse.length ≤ l.reverse.length + 1 - 1; omega)]
  have e : l.reverse.length + ([x] : List V).length - 1 - l.reverse.length = 0 := by
    show l.reverse.length + 1 - 1 - l.reverse.length = 0
    omega
  rw [e]
  rfl
theorem drop_rev {x : V} {l : List V} : ((x :: l).reverse).dropLast = l.reverse := by
  rw [List.reverse_cons, List.dropLast_concat]
section
variable {P : Program} {w : World} {K : PySem.W.Frag} {mg : Str → Option Value} {base : Heap} {CS CE CP cR f : Addr}
theorem ok_stop (D : Df K "stop_recording" "Session.stop_recording" s_Session_stop_recording ["self"] f) (Z : SeC K CS) (ml : mg "len" = none) (R : RzT P w K mg base cR "OutOfTurn" (-7)) : Cb P w K mg base (L2.CX P w) 4 f ["self"] (spM0 K cR (SesA CS CE) .halt_) := by
  refine D.okX sc_Session_stop_recording (fun vs H Q _ h => ?_) (fun cdv A outer s H vs Q E hr h => ?_)
  · obtain ⟨se, T, g, rfl, _⟩ := h
    rfl
  · refine ⟨_, pss_cons (ps_set (i := 1) sc_Session_stop_recording.nd rfl (Or.inl rfl) (pe_fld (pv 0) rfl))
      (pss_cons (ps_if (pt_cmp (pc_isN (pv 1))) (pss_one (ps_rz R hr (by decide) (by rfl) rfl (takes_of rfl rfl rfl rfl))) pss_nil)
      (pss_cons (ps_asg (pe_fld (pv 0) rfl) (pg_sub (pe_fld (pv 0) rfl) (pv 1) set_list))
      (pss_cons (ps_fld (pv 0) pe_non rfl)
      (pss_one (ps_ret (pe_lst (pa_cons (pv 1) (pa_cons (pe_callB call_len_seq (by rfl) ml PySem.boot_len (pa_cons (pe_fld (pv 0) rfl) pa_nil)) pa_nil)))))))), ?_⟩
    obtain ⟨se, T, g, rfl, ⟨ed, m, el, hS, hO⟩, k⟩ := h
    obtain ⟨dx, rc, h1, h2⟩ := hS.ob
    refine ⟨_, rfl, _, _, _, _, _, rfl, h1, Z.cl, Z.nF, sF_f, _, rfl, _, rfl, ?_⟩
    cases hrec : g.recording with
    | none =>
      refine ifT rfl ?_
      exact k.rz (by show (match g.recording with | none => (g, [-7]) | some x => _) = _; rw [hrec])
    | some y =>
      refine ifF rfl ?_
      have hst : Ue10.step g .halt_ = ({ g with registers := g.registers.set y.1 y.2, recording := none }, Ue10.ints [y.1, y.2.length]) := by
        show (match g.recording with | none => (g, [-7]) | some x => _) = _
        rw [hrec]
      obtain ⟨hr10, h40, hok⟩ := hS.rok y.1 y.2 hrec
      have orc : ¬ TU T el rc := hS.av.no rc (SesI.own_rc h1 (by rw [hrec]; exact fun z => nomatch z))
      rw [hrec] at h1 h2
      obtain ⟨ms, hm, hpr⟩ := hS.mac
      have hml : ms.length = 10 := (Paired.length hpr).trans hS.gok.len
      have hrm : rc ≠ m := cmds_ne (show CmdsAt H rc y.2 from h2) hS.mac hS.gok
      obtain ⟨as, ha1, ha2⟩ := (show CmdsAt H rc y.2 from h2)
      have hal : as.length = y.2.length := Paired.length ha2
      refine ⟨_, rfl, _, _, _, _, _, rfl, h1, Z.cl, Z.nR, sF_r, _, rfl, _, _, _, _, _, rfl, h1, Z.cl, Z.nM, sF_m, _, rfl, m, _, _, y.1, rfl, rfl, hm, ?_, ?_⟩
      · unfold ixN
        rw [if_pos (by omega), if_pos (by rw [List.length_map, hml]; omega), Int.toNat_natCast]
      have kM : Keeps m H (upd H m (.lst ((ms.map V.ref).set y.1 (.ref rc)))) := Keeps.refl.upd
      have hS2 := hS.setReg hm hr10 (show CmdsAt H rc y.2 from h2) h40 hok orc
      have hO2 := hO.km hm (fun e => hS.av.no m (.inr (.inr (.inl rfl))) (.inr e.symm)) kM
      have ims : se ≠ m := ne_of h1 hm (fun z => nomatch z)
      have h12 := kM _ _ h1 ims
      have ha12 := kM _ _ ha1 hrm
      have fr2 : ∀ b o, H b = some o → T b → (upd H m (.lst ((ms.map V.ref).set y.1 (.ref rc)))) b = some o := fun b o z tb => kM b o z (fun e => hS.av.no m (.inr (.inr (.inl rfl))) (.inl (by rw [← e]; exact tb)))
      have nn2 : ∀ b, (upd H m (.lst ((ms.map V.ref).set y.1 (.ref rc)))) b = none → H b = none := fun b z => by
        have hb : b ≠ m := fun e => by
          rw [e, upd_same] at z
          cases z
        rw [upd_ne hb] at z
        exact z
      generalize upd H m (.lst ((ms.map V.ref).set y.1 (.ref rc))) = H2 at *
      refine ⟨_, rfl, se, CS, dx, _, rfl, h12, Z.cl, Z.nF, sF_len, ?_⟩
      rw [sF_put_f]
      have k3 : Keeps se H2 (upd H2 se (.ins CS dx (sF ed m .non rc el))) := Keeps.refl.upd
      have hS3 : SesI (TU T el) CS CE (upd H2 se (.ins CS dx (sF ed m .non rc el))) se { g with registers := g.registers.set y.1 y.2, recording := none } ed m el := hS2.put k3 upd_same trivial (hS2.edK k3 hS2.ed) hS2.ok rfl (fun r cs z => nomatch z) (fun z => absurd rfl z) (hS.av.no ed (.inr (.inl rfl)))
      have hO3 := hO2.kse h12 rfl k3
      have ha13 := k3 _ _ ha12 (ne_of ha12 h12 (fun z => nomatch z))
      refine ⟨_, rfl, _, rfl, _, _, _, _, _, rfl, upd_same, Z.cl, Z.nR, sF_r, rc, _, rfl, .inl (SqL.of ha13), (by show 2 ≤ sizeLine; rw [sizeLine_eq]; omega), fun p np => ?_⟩
      have s4 : Same (upd H2 se (.ins CS dx (sF ed m .non rc el))) (upd (upd H2 se (.ins CS dx (sF ed m .non rc el))) p (.lst [.int (y.1 : Int), .int (((as.map V.ref).length : Nat) : Int)])) := same_new np
      refine k.ok _ p (fun b o z tb => s4 b o (k3 b o (fr2 b o z tb) (fun e => hS.av.no se (.inl rfl) (.inl (by rw [← e]; exact tb))))) ?_ ?_ ?_
      · rw [hst]
        exact ⟨ed, m, el, hS3.same s4, hO3.same s4⟩
      · have hps : p ≠ se := fun e => by
          rw [e, upd_same] at np
          cases np
        rw [upd_ne hps] at np
        exact nn2 p np
      · rw [hst, upd_same, List.length_map, hal]
        rfl
theorem ok_shows {fl : Addr} (D : Df K "shows" "Session.shows" s_Session_shows ["self"] f) (Z : SeC K CS) (E : EdC K CE) (mli : mg "list" = none) (Cl : Cb P w K mg base CX0 1 fl ["self"] (spTold CE)) (ml : Meth K CE "told" fl) : Cb P w K mg base (L2.CX P w) 4 f ["self"] (spM0 K cR (SesA CS CE) .shows) := by
  refine D.okX sc_Session_shows (fun vs H Q _ h => ?_) (fun cdv A outer s H vs Q EX hr h => ?_)
  · obtain ⟨se, T, g, rfl, _⟩ := h
    rfl
  · refine ⟨_, pss_one (ps_ret (pe_op op_cat (pe_mb0 Cl E.cl ml hr (by decide) (pe_fld (pv 0) rfl)) (pe_callTy call_list_of (by rfl) mli (by decide +kernel) (pa_cons (pe_fld (pe_fld (pv 0) rfl) rfl) pa_nil)))), ?_⟩
    obtain ⟨se, T, g, rfl, ⟨ed, m, el, hS, hO⟩, k⟩ := h
    obtain ⟨dx, rc, h1, h2⟩ := hS.ob
    obtain ⟨dxe, te, he, hte⟩ := hS.ed
    refine ⟨_, rfl, _, _, _, _, _, rfl, h1, Z.cl, Z.nE, sF_e, ed, dxe, _, rfl, he, eF_no (by decide +kernel) (by decide +kernel) (by decide +kernel), ed, g.ed, rfl, hS.ed, fun H2 p2 s2 n2 hp2 => ?_⟩
    refine ⟨_, rfl, _, _, _, _, _, rfl, s2 _ _ h1, Z.cl, Z.nE, sF_e, _, _, _, _, _, rfl, s2 _ _ he, E.cl, E.nT, eF_t, te, _, rfl, .inr (SqT.of (s2 _ _ hte)), fun p3 n3 => ?_⟩
    have s3 : Same H2 (upd H2 p3 (.lst (tx g.ed.text))) := same_new n3
    refine ⟨p2, p3, _, _, rfl, rfl, s3 _ _ hp2, upd_same, ?_, fun p4 n4 => ?_⟩
    · rw [tx_len, tx_len, sizeLine_eq]
      have := hS.ok.sz
      show 3 + _ ≤ _
      omega
    have s4 : Same (upd H2 p3 (.lst (tx g.ed.text))) (upd (upd H2 p3 (.lst (tx g.ed.text))) p4 (.lst (tx (Ue10.edRow g.ed) ++ tx g.ed.text))) := same_new n4
    have sA := same_trans s2 (same_trans s3 s4)
    have hst : Ue10.step g .shows = (g, Ue10.ints (Ue10.edRow g.ed ++ g.ed.text)) := rfl
    refine k.ok _ p4 (fun b o z _ => sA b o z) ?_ (same_none s2 (same_none s3 n4)) ?_
    · rw [hst]
      exact ⟨ed, m, el, hS.same sA, hO.same sA⟩
    · rw [hst, upd_same, ix_ints, tx_app]
theorem ok_undo {fl : Addr} (D : Df K "undo" "Session.undo" s_Session_undo ["self"] f) (Z : SeC K CS) (E : EdC K CE) (mln : mg "len" = none) (R : RzT P w K mg base cR "OutOfTurn" (-7)) (Cl : Cb P w K mg base CX0 1 fl ["self"] (spTold CE)) (ml : Meth K CE "told" fl) :
    Cb P w K mg base (L2.CX P w) 4 f ["self"] (spM0 K cR (SesA CS CE) .undo) := by
  refine D.okX sc_Session_undo (fun vs H Q _ h => ?_) (fun cdv A outer s H vs Q EX hr h => ?_)
  · obtain ⟨se, T, g, rfl, _⟩ := h
    rfl
  · refine ⟨_, pss_cons (ps_if (pt_cmpR op_eq (pe_callB call_len_seq (by rfl) mln PySem.boot_len (pa_cons (pe_fld (pv 0) rfl) pa_nil)) pe_int (nomark _)) (pss_one (ps_rz R hr (by decide) (by rfl) rfl (takes_of rfl rfl rfl rfl))) pss_nil)
      (pss_cons (ps_fld (pv 0) (pe_bm0 PySem.F.plainAttrs_list PySem.F.slot_list_pop PySem.F.type_list_pop mt_pop (pe_fld (pv 0) rfl)) rfl)
      (pss_one (ps_ret (pe_mb0 Cl E.cl ml hr (by decide) (pe_fld (pv 0) rfl))))), ?_⟩
    obtain ⟨se, T, g, rfl, ⟨ed, m, el, hS, hO⟩, k⟩ := h
    obtain ⟨dx, rc, h1, h2⟩ := hS.ob
    obtain ⟨nTl, okO, es, hel, hpr⟩ := hO
    refine ⟨_, rfl, _, _, _, _, _, rfl, h1, Z.cl, Z.nL, sF_l, el, _, rfl, .inl (SqL.of hel), rfl, _, rfl, ?_⟩
    rw [List.length_reverse, List.length_map]
    cases hold : g.old with
    | nil =>
      rw [hold] at hpr
      cases hpr
      refine ifT (decide_eq_true rfl) ?_
      exact k.rz (by show (match g.old with | [] => (g, [-7]) | e :: l => _) = _; rw [hold])
    | cons e old =>
      rw [hold] at hpr okO
      cases hpr with
      | @cons x _ es _ hx hpr =>
        refine ifF (decide_eq_false (fun z => by injection z with z; rw [List.length_cons] at z; omega)) ?_
        have hst : Ue10.step g .undo = ({ g with ed := e, old := old }, Ue10.ints (Ue10.edRow e)) := by
          show (match g.old with | [] => (g, [-7]) | e :: l => _) = _
          rw [hold]
        refine ⟨_, rfl, _, _, _, _, _, rfl, h1, Z.cl, Z.nL, sF_l, .inl ⟨rfl, _, SqL.of hel⟩, el, _, _, rfl, rfl, hel, last_rev, ?_⟩
        rw [List.map_cons, drop_rev]
        have k2 : Keeps el H (upd H el (.lst (es.map V.ref).reverse)) := Keeps.refl.upd
        have hS2 := hS.keep (.inr rfl) (fun xs z => by rw [hel] at z; cases z) k2 (by rw [upd_same]; exact fun y => nomatch y)
        have tu2 : ∀ {x xs}, H x = some (.tup xs) → (upd H el (.lst (es.map V.ref).reverse)) x = some (.tup xs) := fun {x xs} z => k2 x _ z (ne_of z hel (fun y => nomatch y))
        have in2 : ∀ {x C dx fs}, H x = some (.ins C dx fs) → (upd H el (.lst (es.map V.ref).reverse)) x = some (.ins C dx fs) := fun {x C dx fs} z => k2 x _ z (ne_of z hel (fun y => nomatch y))
        have ed2 : ∀ {x y}, EdAt CE H x y → EdAt CE (upd H el (.lst (es.map V.ref).reverse)) x y := fun {x y} ⟨q1, q2, q3, q4⟩ => ⟨q1, q2, in2 q3, tu2 q4⟩
        have hO2 : OldI T CE (upd H el (.lst (es.map V.ref).reverse)) el old := ⟨nTl, fun e' he' => okO e' (List.mem_cons_of_mem _ he'), es, upd_same, paired_imp (fun x y z => ⟨ed2 z.1, z.2⟩) hpr⟩
        have hx2 := ed2 hx.1
        have h12 := in2 h1
        have fr2 : ∀ b o, H b = some o → T b → (upd H el (.lst (es.map V.ref).reverse)) b = some o := fun b o z tb => k2 b o z (fun e => nTl (by rw [← e]; exact tb))
        have nn2 : ∀ b, (upd H el (.lst (es.map V.ref).reverse)) b = none → H b = none := fun b z => by
          have hb : b ≠ el := fun e => by
            rw [e, upd_same] at z
            cases z
          rw [upd_ne hb] at z
          exact z
        have h22 : RecAt (upd H el (.lst (es.map V.ref).reverse)) rc g.recording := by
          obtain ⟨dx', rc', y1, y2⟩ := hS2.ob
          rw [h12] at y1
          have z2 := Option.some.inj y1
          injection z2 with _ _ z3
          have z4 := congrArg (fun fs => List.lookup ("recorded" : Str) fs) z3
          rw [sF_r, sF_r] at z4
          cases z4
          exact y2
        have xel : x ≠ el := fun z => by
          obtain ⟨_, _, q3, _⟩ := hx.1
          rw [z, hel] at q3
          cases q3
        generalize upd H el (.lst (es.map V.ref).reverse) = H2 at *
        refine ⟨_, rfl, se, CS, dx, _, rfl, h12, Z.cl, Z.nE, sF_len, ?_⟩
        rw [sF_put_e]
        have k3 : Keeps se H2 (upd H2 se (.ins CS dx (sF x m (rfV g.recording) rc el))) := Keeps.refl.upd
        have hS3 : SesI (TU T el) CS CE (upd H2 se (.ins CS dx (sF x m (rfV g.recording) rc el))) se { g with ed := e, old := old } x m el := hS2.put k3 upd_same (hS2.recK k3 h22) (hS2.edK k3 hx2) (okO e (List.mem_cons_self ..)) rfl hS.rok (fun y => hS2.av.no rc (SesI.own_rc h12 (rf_ne y))) (fun z => z.elim hx.2 xel)
        have hO3 := hO2.kse h12 rfl k3
        obtain ⟨dxe, te, e1, e2⟩ := hS3.ed
        refine ⟨_, rfl, _, _, _, _, _, rfl, upd_same, Z.cl, Z.nE, sF_e, x, dxe, _, rfl, e1, eF_no (by decide +kernel) (by decide +kernel) (by decide +kernel), x, e, rfl, hS3.ed, fun H4 p4 s4 n4 h4 => ?_⟩
        refine k.ok _ p4 (fun b o z tb => s4 b o (k3 b o (fr2 b o z tb) (fun e => hS.av.no se (.inl rfl) (.inl (by rw [← e]; exact tb))))) ?_ ?_ ?_
        · rw [hst]
          exact ⟨x, m, el, hS3.same s4, hO3.same s4⟩
        · have hps : p4 ≠ se := fun e => by
            rw [e, upd_same] at n4
            cases n4
          rw [upd_ne hps] at n4
          exact nn2 p4 n4
        · rw [hst, h4, ix_ints]
theorem ok_ses_period {fc fn ff : Addr} (D : Df K "period" "Session.period" s_Session_period ["self", "slot"] f) (Z : SeC K CS) (Y : PyC K CP) (Cc : Cb P w K mg base (L2.CX P w) 4 fc ["slot"] (spSlot K cR)) (gc : mg "check_slot" = some (.ref fc))
    (Cn : Cb P w K mg base CX0 4 fn ["self"] (spNewP CP CS CE)) (mn : Meth K CS "new_player" fn) (Cf : Cb P w K mg base (L2.CX P w) 36 ff ["self", "slot"] (spPer CP CE K cR)) (mf : Meth K CP "find_period" ff) :
    Cb P w K mg base (L2.CX P w) 37 f ["self", "slot"] (spM1 K cR (SesA CS CE) .period) := by
  refine D.okX sc_Session_period (fun vs H Q _ h => ?_) (fun cdv A outer s H vs Q EX hr h => ?_)
  · obtain ⟨se, T, g, r, rfl, _⟩ := h
    rfl
  · refine ⟨_, pss_cons (ps_expr (pe_cbX Cc hr (by decide) (by rfl) gc (takes_of rfl rfl rfl rfl) (pa_cons (pv 1) pa_nil)))
      (pss_cons (ps_set (i := 2) sc_Session_period.nd rfl (Or.inl rfl) (pe_mb0 Cn Z.cl mn hr (by decide) (pv 0)))
      (pss_one (ps_ret (pe_mbX Cf Y.cl mf hr (by decide) (takes_of rfl rfl rfl rfl) (pv 2) (pa_cons (pv 1) pa_nil))))), ?_⟩
    obtain ⟨se, T, g, r, rfl, ⟨ed, m, el, hS, hO⟩, k⟩ := h
    refine ⟨_, rfl, r, rfl, fun hr10 => ?_, fun hr10 => k.rz (by show (g, if 10 ≤ r then [-2] else _) = _; rw [if_pos hr10])⟩
    obtain ⟨dx, rc, h1, h2⟩ := hS.ob
    have hst : Ue10.step g (.period r) = (g, periodFrom (plays g.registers 6) r 1002 [] g.ed Ue10.FULL) := by
      show (g, if 10 ≤ r then [-2] else _) = _
      rw [if_neg (by omega)]
      rfl
    refine ⟨_, rfl, se, dx, _, rfl, h1, sF_no (by decide +kernel) (by decide +kernel) (by decide +kernel) (by decide +kernel) (by decide +kernel), se, ed, m, el, TU T el, g, rfl, hS, fun H3 a b s3 na nb st3 => ?_⟩
    obtain ⟨dxp, hpa⟩ := st3.pl
    have back : ∀ {H4 : Hp}, Kp b a H3 H4 → Same H H4 := fun {H4} kp x o z => kp x o (s3 x o z) (ne_of_none z nb) (ne_of_none z na)
    refine ⟨_, rfl, a, dxp, _, rfl, hpa, pF_no (by decide +kernel) (by decide +kernel) (by decide +kernel) (by decide +kernel), _, rfl, a, b, m, g.registers, g.ed, Ue10.FULL, r, rfl, hr10, hS.gok, st3, fun H4 p4 ys hy kp n4 h4 => ?_, fun hx => ?_, fun hx => ?_⟩
    · refine k.ok H4 p4 (fun x o z _ => back kp x o z) ?_ (same_none s3 n4) ?_
      · rw [hst]
        exact ⟨ed, m, el, hS.same (back kp), hO.same (back kp)⟩
      · rw [hst, hy, ix_ints]
        exact h4
    · rw [hx] at hst
      exact fun C d H5 rf kp nd hd => k.no (-9) C d H5 rf hst (back kp) (same_none s3 nd) hd
    · rw [hx] at hst
      exact fun C d H5 rf kp nd hd => k.no (-8) C d H5 rf hst (back kp) (same_none s3 nd) hd
end
end Mp
/-! A new session. -/
namespace Mp
open PySem PySem.Spec PyProof.Rows L2
theorem paired_rep {α β : Type} {F : α → β → Prop} {y : β} : ∀ {n : Nat} {l : List α}, l.length = n → (∀ a ∈ l, F a y) → Paired F l (List.replicate n y)
  | 0, [], _, _ => .nil
  | n + 1, a :: l, h, k => .cons (k a (List.mem_cons_self ..)) (paired_rep (Nat.succ.inj h) fun b hb => k b (List.mem_cons_of_mem _ hb))
theorem putF_len {f : Str} {v : V} : ∀ {fs : List (Str × V)}, (putF f v fs).length ≤ fs.length + 1
  | [] => Nat.le_refl _
  | (g, x) :: r => by
    by_cases h : g = f
    · subst h
      rw [pt0]
      exact Nat.le_succ _
    · rw [pt1 h]
      have := putF_len (f := f) (v := v) (fs := r)
      exact Nat.succ_le_succ this
theorem putF_len3 {f g h : Str} {u v y : V} {n : Nat} (hn : 3 ≤ n) : (putF f u (putF g v (putF h y []))).length ≤ n := by
  have h1 := putF_len (f := h) (v := y) (fs := [])
  have h2 := putF_len (f := g) (v := v) (fs := putF h y [])
  have h3 := putF_len (f := f) (v := u) (fs := putF g v (putF h y []))
  have h0 : ([] : List (Str × V)).length = 0 := rfl
  omega
theorem putF_len2 {g h : Str} {v y : V} {n : Nat} (hn : 2 ≤ n) : (putF g v (putF h y [])).length ≤ n := by
  have h1 := putF_len (f := h) (v := y) (fs := [])
  have h2 := putF_len (f := g) (v := v) (fs := putF h y [])
  have h0 : ([] : List (Str × V)).length = 0 := rfl
  omega
/-- the fields but the last -/
def sF4 (ed m : Addr) (v : V) (rc : Addr) : List (Str × V) := [("editor", .ref ed), ("macros", .ref m), ("recorded_for", v), ("recorded", .ref rc)]
theorem sF_put5 {ed m rc el : Addr} {v : V} : putF "earlier" (V.ref el) (sF4 ed m v rc) = sF ed m v rc el := (pt1 (by decide +kernel)).trans (congrArg _ ((pt1 (by decide +kernel)).trans (congrArg _ ((pt1 (by decide +kernel)).trans (congrArg _ ((pt1 (by decide +kernel)).trans rfl))))))
theorem sF_new {ed m rc : Addr} {v : V} : putF "recorded" (V.ref rc) (putF "recorded_for" v (putF "macros" (V.ref m) (putF "editor" (V.ref ed) []))) = sF4 ed m v rc := by
  have e1 : putF "editor" (V.ref ed) [] = [(("editor" : Str), V.ref ed)] := rfl
  have e2 : putF "macros" (V.ref m) [(("editor" : Str), V.ref ed)] = [(("editor" : Str), V.ref ed), (("macros" : Str), V.ref m)] := (pt1 (by decide +kernel)).trans rfl
  have e3 : putF "recorded_for" v [(("editor" : Str), V.ref ed), (("macros" : Str), V.ref m)] = [(("editor" : Str), V.ref ed), (("macros" : Str), V.ref m), (("recorded_for" : Str), v)] := (pt1 (by decide +kernel)).trans (congrArg _ ((pt1 (by decide +kernel)).trans rfl))
  rw [e1, e2, e3]
  exact (pt1 (by decide +kernel)).trans (congrArg _ ((pt1 (by decide +kernel)).trans (congrArg _ ((pt1 (by decide +kernel)).trans rfl))))
section
variable {P : Program} {w : World} {K : PySem.W.Frag} {mg : Str → Option Value} {base : Heap} {CS CE f : Addr}
theorem ok_se_init {fi : Addr} {t1 : Tok} (D : Df K "__init__" "Session.__init__" s_Session_init ["self"] f) (S : SeC K CS) (E : EdC K CE) (Ci : Cb P w K mg base CX0 1 fi ["self", "text", "place", "held"] (spEdInit CE)) (M : Mk K CE fi) (gE : mg "Editor" = some (.ref CE))
    (g1 : mg "LAST_SLOT" = some (.int 9 t1)) (mr : mg "range" = none) : Cb P w K mg base CX0 3 f ["self"] (spSeNew (SesA CS CE) CS) := by
  refine D.ok sc_Session_init (fun vs H Q _ h => ?_) (fun cdv A outer s H vs Q _ hr h => ?_)
  · obtain ⟨a, dx, T, rfl, _⟩ := h
    rfl
  · refine ⟨_, pss_cons (ps_fld (pv 0) (pe_mk Ci M hr (by decide) (by rfl) gE (pa_cons (pe_tup pa_nil) (pa_cons pe_int (pa_cons pe_int pa_nil)))) rfl)
      (pss_cons (ps_fld (pv 0) (pe_lc (own := [("slot", 1)]) (g := gName 1) (tt := tYes) rfl sc_Session_init.nd (pi_range1 (by rfl) mr (pa_cons (pe_op op_add (pe_glob (v := .int 9) rfl g1 ⟨_, rfl⟩) pe_int) pa_nil))
        (blkOk_by (own := [("slot", 1)]) (N := ["self", "slot"]) (sc := defScope s_Session_init) (by decide +kernel)) (fun _ _ _ _ _ => pg_name (i := 1) sc_Session_init.nd rfl (Or.inl rfl)) (fun _ _ _ _ _ => pts_nil) (fun _ _ _ _ _ => pe_lst pa_nil)) rfl)
      (pss_cons (ps_fld (pv 0) pe_non rfl) (pss_cons (ps_fld (pv 0) (pe_lst pa_nil) rfl) (pss_one (ps_fld (pv 0) (pe_lst pa_nil) rfl))))), ?_⟩
    obtain ⟨a, dx, T, rfl, ha, htr, hta0, k⟩ := h
    refine ⟨(by show 0 ≤ sizeLine; omega), fun t nt => ?_⟩
    intro x d2 nx nd ne
    have htx : t ≠ x := fun z => by rw [z, upd_same] at nx; cases nx
    have htd : t ≠ d2 := fun z => by rw [z, upd_same] at nd; cases nd
    have hat : a ≠ t := ne_of_none ha nt
    have ha1 := same_new (o := .tup []) nt _ _ ha
    have hax : a ≠ x := ne_of_none ha1 nx
    have had : a ≠ d2 := ne_of_none ha1 nd
    refine ⟨x, d2, t, ⟨[], 0, none⟩, 0, 0, rfl, rfl, rfl, upd_same, ?_, fun H1 k1 hE1 => ⟨rfl, _, rfl, a, CS, dx, [], rfl, ?_, S.cl, S.nE, (by show 0 < 1000; decide), ?_⟩⟩
    · rw [upd_ne htx, upd_ne htd, upd_same]
      rfl
    · refine k1 a _ ?_ hax
      rw [upd_ne hax, upd_ne had]
      exact ha1
    · have hx1 : H1 x ≠ none := by
        obtain ⟨dxe, te, he, _⟩ := hE1
        rw [he]
        exact fun z => nomatch z
      have haH1 : H1 a = some (.ins CS dx []) := k1 a _ (by
        rw [upd_ne hax, upd_ne had]
        exact ha1) hax
      have sH1 : Keeps a H H1 := fun b o z n => k1 b o (by
        have z1 := same_new (o := .tup []) nt _ _ z
        rw [upd_ne (ne_of_none z1 nx), upd_ne (ne_of_none z1 nd)]
        exact z1) (ne_of_none (same_new (o := .tup []) nt _ _ z) nx)
      refine ⟨_, _, rfl, rfl, _, rfl, (by decide), (by decide), fun m nm => ?_⟩
      have ham : a ≠ m := fun z => by rw [← z, upd_same] at nm; cases nm
      have hxa : x ≠ a := Ne.symm hax
      have nm1 : H1 m = none := by
        rw [upd_ne (Ne.symm ham)] at nm
        exact nm
      refine ⟨fun i q H2 => q = 10 - i ∧ i ≤ 10 ∧ (∃ as : List Addr, as.length = i ∧ H2 m = some (.lst (as.map V.ref)) ∧ ∀ b ∈ as, b ≠ m ∧ H b = none ∧ H2 b = some (.lst [])) ∧ Keeps m (upd H1 a (HO.ins CS dx (putF "editor" (V.ref x) []))) H2,
        ⟨10, rfl, Nat.zero_le _, ⟨[], rfl, upd_same, fun b hb => nomatch hb⟩, Keeps.refl.upd⟩, ?_⟩
      rintro i q H2 ⟨rfl, hi, ⟨as, hal, hm, hem⟩, kp⟩
      rcases Nat.lt_or_ge i 10 with hlt | hge
      · refine .inr ⟨hlt, fun H' => ∃ q, q < 10 - i ∧ (q = 10 - (i + 1) ∧ i + 1 ≤ 10 ∧ (∃ as : List Addr, as.length = i + 1 ∧ H' m = some (.lst (as.map V.ref)) ∧ ∀ b ∈ as, b ≠ m ∧ H b = none ∧ H' b = some (.lst [])) ∧ Keeps m (upd H1 a (HO.ins CS dx (putF "editor" (V.ref x) []))) H'), fun H' z => z, ?_⟩
        rintro v H' ⟨rfl, rfl⟩
        refine ⟨rfl, (by show 0 ≤ sizeLine; omega), fun e ne => ⟨as.map V.ref, ?_, ?_, 10 - (i + 1), by omega, rfl, by omega, ⟨as ++ [e], ?_, ?_, ?_⟩, ?_⟩⟩
        · exact same_new ne _ _ hm
        · rw [List.length_map, sizeLine_eq]
          omega
        · rw [List.length_append, hal]
          rfl
        · rw [upd_same, List.map_append]
          rfl
        · have hme : m ≠ e := ne_of_none hm ne
          intro b hb
          rcases List.mem_append.mp hb with z | z
          · obtain ⟨hbm, hb1, hb2⟩ := hem b z
            refine ⟨hbm, hb1, ?_⟩
            rw [upd_ne hbm]
            exact same_new ne _ _ hb2
          · obtain rfl := List.mem_singleton.mp z
            refine ⟨Ne.symm hme, ?_, ?_⟩
            · have hba : b ≠ a := fun e => by
                rw [e, kp a _ upd_same ham] at ne
                cases ne
              cases q : H b with
              | none => rfl
              | some o =>
                have y := kp b o (by rw [upd_ne hba]; exact sH1 b o q hba) (Ne.symm hme)
                rw [ne] at y
                cases y
            · rw [upd_ne (Ne.symm hme), upd_same]
        · exact (kp.new ne).upd
      · have : i = 10 := by omega
        subst this
        refine .inl ⟨hge, ?_⟩
        have ha2 := kp a _ upd_same ham
        have kpa : ∀ {b o}, H1 b = some o → b ≠ a → H2 b = some o := fun {b o} z n => kp b o (by rw [upd_ne n]; exact z) (ne_of_none z nm1)
        refine ⟨_, rfl, a, CS, dx, _, rfl, ha2, S.cl, S.nM, (by show 1 < 1000; decide), ?_⟩
        refine ⟨_, rfl, a, CS, dx, _, rfl, upd_same, S.cl, S.nF, Nat.lt_of_le_of_lt (putF_len2 (Nat.le_refl _)) (by decide), ?_⟩
        refine ⟨(by show 0 ≤ sizeLine; omega), fun rc nrc => ?_⟩
        have harc : a ≠ rc := fun z => by rw [← z, upd_same] at nrc; cases nrc
        refine ⟨_, rfl, a, CS, dx, _, rfl, by rw [upd_ne harc, upd_same], S.cl, S.nR, Nat.lt_of_le_of_lt (putF_len3 (Nat.le_refl _)) (by decide), ?_⟩
        rw [sF_new]
        have kpL : ∀ {b o}, H2 b = some o → b ≠ a → upd (upd (upd (upd H2 a (HO.ins CS dx (putF "macros" (V.ref m) (putF "editor" (V.ref x) [])))) a (HO.ins CS dx (putF "recorded_for" V.non (putF "macros" (V.ref m) (putF "editor" (V.ref x) []))))) rc (HO.lst [])) a (HO.ins CS dx (sF4 x m V.non rc)) b = some o := fun {b o} z n => by
          have z2 : upd (upd H2 a (HO.ins CS dx (putF "macros" (V.ref m) (putF "editor" (V.ref x) [])))) a (HO.ins CS dx (putF "recorded_for" V.non (putF "macros" (V.ref m) (putF "editor" (V.ref x) [])))) b = some o := by
            rw [upd_ne n, upd_ne n]
            exact z
          rw [upd_ne n, upd_ne (ne_of_none z2 nrc)]
          exact z2
        have nxH : H x = none := by
          rw [upd_ne (Ne.symm htx)] at nx
          exact nx
        have nH1 : ∀ {b}, b ≠ a → H1 b = none → H b = none := fun {b} n z => by
          cases q : H b with
          | none => rfl
          | some o =>
            rw [sH1 b o q n] at z
            cases z
        have nmH : H m = none := nH1 (Ne.symm ham) nm1
        have haL : (upd (upd (upd (upd H2 a (HO.ins CS dx (putF "macros" (V.ref m) (putF "editor" (V.ref x) [])))) a (HO.ins CS dx (putF "recorded_for" V.non (putF "macros" (V.ref m) (putF "editor" (V.ref x) []))))) rc (HO.lst [])) a (HO.ins CS dx (sF4 x m V.non rc))) a = some (HO.ins CS dx (sF4 x m V.non rc)) := upd_same
        generalize upd (upd (upd (upd H2 a (HO.ins CS dx (putF "macros" (V.ref m) (putF "editor" (V.ref x) [])))) a (HO.ins CS dx (putF "recorded_for" V.non (putF "macros" (V.ref m) (putF "editor" (V.ref x) []))))) rc (HO.lst [])) a (HO.ins CS dx (sF4 x m V.non rc)) = HL at *
        refine ⟨(by show 0 ≤ sizeLine; omega), fun el nel => ?_⟩
        have hael : a ≠ el := fun z => by rw [← z, haL] at nel; cases nel
        refine ⟨_, rfl, a, CS, dx, _, rfl, by rw [upd_ne hael]; exact haL, S.cl, S.nL, (by show 4 < 1000; decide), ?_⟩
        rw [sF_put5]
        have kp9 : ∀ {b o}, H2 b = some o → b ≠ a → upd (upd HL el (.lst [])) a (HO.ins CS dx (sF x m V.non rc el)) b = some o := fun {b o} z n => by
          rw [upd_ne n, upd_ne (ne_of_none (kpL z n) nel)]
          exact kpL z n
        have ne9 : ∀ {b o}, H2 b = some o → b ≠ a → b ≠ el := fun {b o} z n => ne_of_none (kpL z n) nel
        have fr : ∀ b o, H b = some o → b ≠ a → upd (upd HL el (.lst [])) a (HO.ins CS dx (sF x m V.non rc el)) b = some o := fun b o z n => kp9 (kpa (sH1 b o z n) n) n
        have hl9 : upd (upd HL el (.lst [])) a (HO.ins CS dx (sF x m V.non rc el)) el = some (.lst []) := by
          rw [upd_ne (Ne.symm hael), upd_same]
        have nTl : ¬ T el := fun z => by
          cases q : H el with
          | none => exact htr el z q
          | some o => exact ne9 (kpa (sH1 el o q (Ne.symm hael)) (Ne.symm hael)) (Ne.symm hael) rfl
        refine k _ fr ⟨x, m, el, ?_, nTl, (fun e he => nomatch he), [], hl9, .nil⟩
        · obtain ⟨dxe, te, he1, he2⟩ := hE1
          have hta : te ≠ a := ne_of he2 haH1 (fun z => nomatch z)
          refine ⟨⟨dx, rc, upd_same, trivial⟩, ⟨dxe, te, kp9 (kpa he1 hxa) hxa, kp9 (kpa he2 hta) hta⟩, ⟨Nat.le_refl _, Nat.zero_le _⟩, ⟨as, kp9 hm (Ne.symm ham), ?_⟩, ⟨rfl, ?_⟩, (fun r cs z => nomatch z), ⟨fun t z => ?_, fun b z tb => ?_⟩⟩
          · exact paired_rep (n := 10) hal fun b hb => ⟨[], kp9 (hem b hb).2.2 (ne_of (hem b hb).2.2 ha2 (fun z => nomatch z)), .nil⟩
          · intro l hl
            obtain rfl := List.eq_of_mem_replicate hl
            exact ⟨Nat.zero_le _, fun y hy => nomatch hy⟩
          · rcases z with z | z
            · have hna : t ≠ a := fun e => hta0 (by rw [← e]; exact z)
              cases q : H t with
              | none => exact absurd q (htr t z)
              | some o =>
                rw [fr t o q hna]
                exact fun y => nomatch y
            · rw [z, hl9]
              exact fun y => nomatch y
          · rcases z with z | z | z | ⟨ms, z1, z2⟩ | ⟨C, dx', fs, z1, z2, z3⟩
            · rw [z] at tb
              exact tb.elim hta0 hael
            · rw [z] at tb
              exact tb.elim (fun tb => htr x tb nxH) (ne9 (kpa he1 hxa) hxa)
            · rw [z] at tb
              exact tb.elim (fun tb => htr m tb nmH) (ne9 hm (Ne.symm ham))
            · rw [kp9 hm (Ne.symm ham)] at z1
              cases z1
              obtain ⟨c, hc, e⟩ := List.mem_map.mp z2
              cases e
              exact tb.elim (fun tb => htr b tb (hem b hc).2.1) (ne9 (hem b hc).2.2 (ne_of (hem b hc).2.2 ha2 (fun z => nomatch z)))
            · rw [upd_same] at z1
              cases z1
              rw [sF_f] at z3
              exact z3 rfl
end
end Mp
/-! What the program's top has written. -/
namespace Mp
open PySem PySem.Spec PyProof.Rows L2
theorem Df.kp {K : PySem.W.Frag} {x qual : Str} {st : Stmt} {ps : List Str} {f : Addr} (D : Df K x qual st ps f) : PySem.W.keepIn K (.ref f) = true := by
  obtain ⟨fd, F, _⟩ := D.ex
  exact F.kp
/-- how the arguments of a def meet its parameters -/
def Bi (x qual : Str) (st : Stmt) (ps : List Str) : Prop := ∀ (kV doc pm : Value) (an : Option Addr) (cdv ct : Value) (us : List Value), us.length = ps.length → bindArgs (PySem.W.fnOf x qual (defArgs st) (defBody st) (defScope st) .none kV doc pm an cdv ct) ⟨us, []⟩ = pure (ps.zip us)
theorem df_mk {K : PySem.W.Frag} {x qual : Str} {st : Stmt} {ps : List Str} {f : Addr} {oc : Value} {od an : Option Addr} {osl : Array (Option Value)} {kV doc pm cdv ct : Value} (l : K.lookup f = some ⟨oc, od, .func (PySem.W.fnOf x qual (defArgs st) (defBody st) (defScope st) .none kV doc pm an cdv ct), osl⟩)
    (c : PySem.W.codeIn K cdv qual = true) (k : PySem.W.keepIn K (.ref f) = true) (b : Bi x qual st ps) : Df K x qual st ps f := ⟨_, fun_mk (st := st) l c k, (fun_mk (st := st) l c k).binds b⟩
/-- the def that is asked: its arguments meet its parameters, whatever the heap -/
structure DfT (K : PySem.W.Frag) (x qual : Str) (st : Stmt) (ps : List Str) (f : Addr) : Prop where
  ex : ∃ fd, Fun K x qual st f fd ∧ ∀ (s : Shared) (us : List Value), us.length = ps.length → BindsTo s fd ⟨us, []⟩ (ps.zip us)
theorem dft_mk {K : PySem.W.Frag} {x qual : Str} {st : Stmt} {ps : List Str} {f : Addr} {oc : Value} {od an : Option Addr} {osl : Array (Option Value)} {kV doc pm cdv ct : Value} (l : K.lookup f = some ⟨oc, od, .func (PySem.W.fnOf x qual (defArgs st) (defBody st) (defScope st) .none kV doc pm an cdv ct), osl⟩)
    (c : PySem.W.codeIn K cdv qual = true) (k : PySem.W.keepIn K (.ref f) = true) (b : Bi x qual st ps) : DfT K x qual st ps f := ⟨_, fun_mk (st := st) l c k, fun s us hu => .of_eq (b _ _ _ _ _ _ us hu)⟩
def ExcO (K : PySem.W.Frag) (C : Addr) : Prop := ∃ nm q N bs bm sn sub ab col dd k0 k1 k2 k3 k5, K.lookup C = some (excClassObj nm q C N bs bm true sn sub ab col dd k0 k1 k2 k3 k5 "Exception.__new__") ∧ RefsEX bm
theorem exco_mk {K : PySem.W.Frag} {C : Addr} {nm q N bs bm sn sub ab col dd k0 k1 k2 k3 k5} (l : K.lookup C = some (excClassObj nm q C N bs bm true sn sub ab col dd k0 k1 k2 k3 k5 "Exception.__new__")) (r : RefsEX bm) : ExcO K C := ⟨nm, q, N, bs, bm, sn, sub, ab, col, dd, k0, k1, k2, k3, k5, l, r⟩
theorem exm2 {K : PySem.W.Frag} {C S : Addr} (h1 : PySem.W.subIn K (.ref S) (.type "BaseException") = some true) (h2 : PySem.W.isClsIn K S = true) (h3 : PySem.W.typeIn K (.ref S) = some (.type "type")) (h4 : PySem.W.subIn K (.ref C) (.ref S) = some true) :
    PySem.W.exmOne K (.ref C) (.ref S) = some true := by
  have e1 : (PySem.W.subIn K (.ref S) (.type "BaseException") == some true) = true := by rw [h1] <;> rfl
  have e2 : ((PySem.W.clsIn K S).isSome && PySem.W.typeIn K (.ref S) == some (.type "type")) = true := by
    have h2' : (PySem.W.clsIn K S).isSome = true := h2
    rw [h2', h3] <;> rfl
  show (if (PySem.W.subIn K (.ref S) (.type "BaseException") == some true) = true then (if ((PySem.W.clsIn K S).isSome && PySem.W.typeIn K (.ref S) == some (.type "type")) = true then PySem.W.subIn K (.ref C) (.ref S) else none) else none) = some true
  rw [if_pos e1, if_pos e2]
  exact h4
/-- a written tuple of naturals -/
def isNats : List Value → List Nat → Bool
  | [], [] => true
  | .int i _ :: l, n :: m => decide (i = (n : Int)) && isNats l m
  | _, _ => false
theorem nats_vals : ∀ {l : List Value} {m : List Nat}, isNats l m = true → Vals (tx m) l
  | [], [], _ => .nil
  | .int i _ :: l, n :: m, h => by
    obtain ⟨h1, h2⟩ := Bool.and_eq_true_iff.mp h
    exact .cons ⟨_, by rw [of_decide_eq_true h1]⟩ (nats_vals h2)
structure TupK (K : PySem.W.Frag) (d : Addr) (m : List Nat) : Prop where
  sq : ∀ H, SqT K H d (tx m)
theorem tupk_mk {K : PySem.W.Frag} {d : Addr} {m : List Nat} {dd : Option Addr} {its : Array Value} {n : Nat} {sl : Array (Option Value)} (l : K.lookup d = some ⟨.type "tuple", dd, .seq its n, sl⟩) (r : (isNats its.toList m && decide (its.size ≤ 1000)) = true) : TupK K d m := by
  obtain ⟨h1, h2⟩ := Bool.and_eq_true_iff.mp r
  have h2 := of_decide_eq_true h2
  exact ⟨fun H => .inr ⟨_, its, n, l, rfl, rfl, by rw [sizeLine_eq]; omega, nats_vals h1⟩⟩
/-- a written dict from ints to defs -/
def isFd : List DictEntry → List (Int × Addr) → Bool
  | [], [] => true
  | ⟨h, .int i _, .ref a⟩ :: l, p :: m => decide (h = hashInt p.1) && (decide (i = p.1) && (decide (a = p.2) && isFd l m))
  | _, _ => false
theorem fd_parts : ∀ {l : List DictEntry} {m : List (Int × Addr)}, isFd l m = true → l.map (fun e => e.hash) = m.map (fun p => hashInt p.1) ∧ l.map (fun e => e.val) = m.map (fun p => Value.ref p.2) ∧ Paired (fun (e : DictEntry) (p : Int × Addr) => ∃ t, e.key = .int p.1 t) l m
  | [], [], _ => ⟨rfl, rfl, .nil⟩
  | ⟨h, .int i t, .ref a⟩ :: l, p :: m, q => by
    obtain ⟨h1, q⟩ := Bool.and_eq_true_iff.mp q
    obtain ⟨h2, q⟩ := Bool.and_eq_true_iff.mp q
    obtain ⟨h3, q⟩ := Bool.and_eq_true_iff.mp q
    obtain ⟨r1, r2, r3⟩ := fd_parts q
    have h1 := of_decide_eq_true h1
    have h2 := of_decide_eq_true h2
    have h3 := of_decide_eq_true h3
    subst h1 h2 h3
    exact ⟨by rw [List.map_cons, List.map_cons, r1], by rw [List.map_cons, List.map_cons, r2], .cons ⟨t, rfl⟩ r3⟩
theorem kfd_mk {K : PySem.W.Frag} {d : Addr} {fs : List (Int × Addr)} {es : Array DictEntry} {n : Nat} (l : K.lookup d = some ⟨.type "dict", none, .dict es n, #[]⟩) (r : isFd es.toList fs = true) (nd : (fs.map (·.1)).Nodup) : KFd K d fs := by
  obtain ⟨h1, h2, h3⟩ := fd_parts r
  exact ⟨⟨es, n, l, h1, h2, h3⟩, nd⟩
theorem bi_Refused_init : Bi "__init__" "Refused.__init__" s_Refused_init ["self", "number"] := fun _ _ _ _ _ _ us hl => match us, hl with | [_, _], _ => rfl
theorem bi_WrongNumbers_init : Bi "__init__" "WrongNumbers.__init__" s_WrongNumbers_init ["self"] := fun _ _ _ _ _ _ us hl => match us, hl with | [_], _ => rfl
theorem bi_NoSuchRegister_init : Bi "__init__" "NoSuchRegister.__init__" s_NoSuchRegister_init ["self"] := fun _ _ _ _ _ _ us hl => match us, hl with | [_], _ => rfl
theorem bi_RecordFull_init : Bi "__init__" "RecordFull.__init__" s_RecordFull_init ["self"] := fun _ _ _ _ _ _ us hl => match us, hl with | [_], _ => rfl
theorem bi_OutOfTurn_init : Bi "__init__" "OutOfTurn.__init__" s_OutOfTurn_init ["self"] := fun _ _ _ _ _ _ us hl => match us, hl with | [_], _ => rfl
theorem bi_TooMuch_init : Bi "__init__" "TooMuch.__init__" s_TooMuch_init ["self"] := fun _ _ _ _ _ _ us hl => match us, hl with | [_], _ => rfl
theorem bi_NeverStops_init : Bi "__init__" "NeverStops.__init__" s_NeverStops_init ["self"] := fun _ _ _ _ _ _ us hl => match us, hl with | [_], _ => rfl
theorem bi_Reader_init : Bi "__init__" "Reader.__init__" s_Reader_init ["self", "numbers"] := fun _ _ _ _ _ _ us hl => match us, hl with | [_, _], _ => rfl
theorem bi_Reader_at_end : Bi "at_end" "Reader.at_end" s_Reader_at_end ["self"] := fun _ _ _ _ _ _ us hl => match us, hl with | [_], _ => rfl
theorem bi_Reader_take : Bi "take" "Reader.take" s_Reader_take ["self"] := fun _ _ _ _ _ _ us hl => match us, hl with | [_], _ => rfl
theorem bi_Reader_take_row : Bi "take_row" "Reader.take_row" s_Reader_take_row ["self"] := fun _ _ _ _ _ _ us hl => match us, hl with | [_], _ => rfl
theorem bi_read_commands : Bi "read_commands" "read_commands" s_read_commands ["numbers"] := fun _ _ _ _ _ _ us hl => match us, hl with | [_], _ => rfl
theorem bi_split_commands : Bi "split_commands" "split_commands" s_split_commands ["numbers"] := fun _ _ _ _ _ _ us hl => match us, hl with | [_], _ => rfl
theorem bi_check_command : Bi "check_command" "check_command" s_check_command ["command"] := fun _ _ _ _ _ _ us hl => match us, hl with | [_], _ => rfl
theorem bi_Editor_init : Bi "__init__" "Editor.__init__" s_Editor_init ["self", "text", "place", "held"] := fun _ _ _ _ _ _ us hl => match us, hl with | [_, _, _, _], _ => rfl
theorem bi_Editor_state : Bi "state" "Editor.state" s_Editor_state ["self"] := fun _ _ _ _ _ _ us hl => match us, hl with | [_], _ => rfl
theorem bi_Editor_restore : Bi "restore" "Editor.restore" s_Editor_restore ["self", "state"] := fun _ _ _ _ _ _ us hl => match us, hl with | [_, _], _ => rfl
theorem bi_Editor_twin : Bi "twin" "Editor.twin" s_Editor_twin ["self"] := fun _ _ _ _ _ _ us hl => match us, hl with | [_], _ => rfl
theorem bi_Editor_told : Bi "told" "Editor.told" s_Editor_told ["self"] := fun _ _ _ _ _ _ us hl => match us, hl with | [_], _ => rfl
theorem bi_Editor_here : Bi "here" "Editor.here" s_Editor_here ["self"] := fun _ _ _ _ _ _ us hl => match us, hl with | [_], _ => rfl
theorem bi_put_in : Bi "put_in" "put_in" s_put_in ["editor", "byte"] := fun _ _ _ _ _ _ us hl => match us, hl with | [_, _], _ => rfl
theorem bi_go_left : Bi "go_left" "go_left" s_go_left ["editor"] := fun _ _ _ _ _ _ us hl => match us, hl with | [_], _ => rfl
theorem bi_go_right : Bi "go_right" "go_right" s_go_right ["editor"] := fun _ _ _ _ _ _ us hl => match us, hl with | [_], _ => rfl
theorem bi_take_out : Bi "take_out" "take_out" s_take_out ["editor"] := fun _ _ _ _ _ _ us hl => match us, hl with | [_], _ => rfl
theorem bi_go_to_any : Bi "go_to_any" "go_to_any" s_go_to_any ["editor", "byte", "places"] := fun _ _ _ _ _ _ us hl => match us, hl with | [_, _, _], _ => rfl
theorem bi_seek_right : Bi "seek_right" "seek_right" s_seek_right ["editor", "byte"] := fun _ _ _ _ _ _ us hl => match us, hl with | [_, _], _ => rfl
theorem bi_seek_left : Bi "seek_left" "seek_left" s_seek_left ["editor", "byte"] := fun _ _ _ _ _ _ us hl => match us, hl with | [_, _], _ => rfl
theorem bi_go_first : Bi "go_first" "go_first" s_go_first ["editor"] := fun _ _ _ _ _ _ us hl => match us, hl with | [_], _ => rfl
theorem bi_go_last : Bi "go_last" "go_last" s_go_last ["editor"] := fun _ _ _ _ _ _ us hl => match us, hl with | [_], _ => rfl
theorem bi_exchange : Bi "exchange" "exchange" s_exchange ["editor"] := fun _ _ _ _ _ _ us hl => match us, hl with | [_], _ => rfl
theorem bi_expect : Bi "expect" "expect" s_expect ["editor", "byte"] := fun _ _ _ _ _ _ us hl => match us, hl with | [_, _], _ => rfl
theorem bi_expect_other : Bi "expect_other" "expect_other" s_expect_other ["editor", "byte"] := fun _ _ _ _ _ _ us hl => match us, hl with | [_, _], _ => rfl
theorem bi_hold : Bi "hold" "hold" s_hold ["editor"] := fun _ _ _ _ _ _ us hl => match us, hl with | [_], _ => rfl
theorem bi_put_held : Bi "put_held" "put_held" s_put_held ["editor"] := fun _ _ _ _ _ _ us hl => match us, hl with | [_], _ => rfl
theorem bi_do_plain : Bi "do_plain" "do_plain" s_do_plain ["editor", "command"] := fun _ _ _ _ _ _ us hl => match us, hl with | [_, _], _ => rfl
theorem bi_Player_init : Bi "__init__" "Player.__init__" s_Player_init ["self", "editor", "macros"] := fun _ _ _ _ _ _ us hl => match us, hl with | [_, _, _], _ => rfl
theorem bi_Player_do_row : Bi "do_row" "Player.do_row" s_Player_do_row ["self", "commands", "depth"] := fun _ _ _ _ _ _ us hl => match us, hl with | [_, _, _], _ => rfl
theorem bi_Player_do_command : Bi "do_command" "Player.do_command" s_Player_do_command ["self", "command", "depth"] := fun _ _ _ _ _ _ us hl => match us, hl with | [_, _, _], _ => rfl
theorem bi_Player_do_counted : Bi "do_counted" "Player.do_counted" s_Player_do_counted ["self", "command"] := fun _ _ _ _ _ _ us hl => match us, hl with | [_, _], _ => rfl
theorem bi_Player_play : Bi "play" "Player.play" s_Player_play ["self", "slot", "depth"] := fun _ _ _ _ _ _ us hl => match us, hl with | [_, _, _], _ => rfl
theorem bi_Player_play_next : Bi "play_next" "Player.play_next" s_Player_play_next ["self", "slot", "depth", "seen"] := fun _ _ _ _ _ _ us hl => match us, hl with | [_, _, _, _], _ => rfl
theorem bi_Player_play_times : Bi "play_times" "Player.play_times" s_Player_play_times ["self", "slot", "times", "depth"] := fun _ _ _ _ _ _ us hl => match us, hl with | [_, _, _, _], _ => rfl
theorem bi_Player_play_until : Bi "play_until" "Player.play_until" s_Player_play_until ["self", "slot", "depth"] := fun _ _ _ _ _ _ us hl => match us, hl with | [_, _, _], _ => rfl
theorem bi_Player_find_period : Bi "find_period" "Player.find_period" s_Player_find_period ["self", "slot"] := fun _ _ _ _ _ _ us hl => match us, hl with | [_, _], _ => rfl
theorem bi_state_behind : Bi "state_behind" "state_behind" s_state_behind ["times", "seen", "first"] := fun _ _ _ _ _ _ us hl => match us, hl with | [_, _, _], _ => rfl
theorem bi_Session_init : Bi "__init__" "Session.__init__" s_Session_init ["self"] := fun _ _ _ _ _ _ us hl => match us, hl with | [_], _ => rfl
theorem bi_Session_start_text : Bi "start_text" "Session.start_text" s_Session_start_text ["self", "place", "numbers"] := fun _ _ _ _ _ _ us hl => match us, hl with | [_, _, _], _ => rfl
theorem bi_Session_new_player : Bi "new_player" "Session.new_player" s_Session_new_player ["self"] := fun _ _ _ _ _ _ us hl => match us, hl with | [_], _ => rfl
theorem bi_Session_do : Bi "do" "Session.do" s_Session_do ["self", "numbers"] := fun _ _ _ _ _ _ us hl => match us, hl with | [_, _], _ => rfl
theorem bi_Session_would : Bi "would" "Session.would" s_Session_would ["self", "numbers"] := fun _ _ _ _ _ _ us hl => match us, hl with | [_, _], _ => rfl
theorem bi_Session_put_to_record : Bi "put_to_record" "Session.put_to_record" s_Session_put_to_record ["self", "commands"] := fun _ _ _ _ _ _ us hl => match us, hl with | [_, _], _ => rfl
theorem bi_Session_fill : Bi "fill" "Session.fill" s_Session_fill ["self", "slot", "numbers"] := fun _ _ _ _ _ _ us hl => match us, hl with | [_, _, _], _ => rfl
theorem bi_Session_look_up : Bi "look_up" "Session.look_up" s_Session_look_up ["self", "slot"] := fun _ _ _ _ _ _ us hl => match us, hl with | [_, _], _ => rfl
theorem bi_Session_record : Bi "record" "Session.record" s_Session_record ["self", "slot", "more"] := fun _ _ _ _ _ _ us hl => match us, hl with | [_, _, _], _ => rfl
theorem bi_Session_stop_recording : Bi "stop_recording" "Session.stop_recording" s_Session_stop_recording ["self"] := fun _ _ _ _ _ _ us hl => match us, hl with | [_], _ => rfl
theorem bi_Session_shows : Bi "shows" "Session.shows" s_Session_shows ["self"] := fun _ _ _ _ _ _ us hl => match us, hl with | [_], _ => rfl
theorem bi_Session_undo : Bi "undo" "Session.undo" s_Session_undo ["self"] := fun _ _ _ _ _ _ us hl => match us, hl with | [_], _ => rfl
theorem bi_Session_period : Bi "period" "Session.period" s_Session_period ["self", "slot"] := fun _ _ _ _ _ _ us hl => match us, hl with | [_, _], _ => rfl
theorem bi_try_out : Bi "try_out" "try_out" s_try_out ["player", "commands"] := fun _ _ _ _ _ _ us hl => match us, hl with | [_, _], _ => rfl
theorem bi_check_slot : Bi "check_slot" "check_slot" s_check_slot ["slot"] := fun _ _ _ _ _ _ us hl => match us, hl with | [_], _ => rfl
theorem bi_answer_text : Bi "answer_text" "answer_text" s_answer_text ["session", "reader"] := fun _ _ _ _ _ _ us hl => match us, hl with | [_, _], _ => rfl
theorem bi_answer_do : Bi "answer_do" "answer_do" s_answer_do ["session", "reader"] := fun _ _ _ _ _ _ us hl => match us, hl with | [_, _], _ => rfl
theorem bi_answer_set : Bi "answer_set" "answer_set" s_answer_set ["session", "reader"] := fun _ _ _ _ _ _ us hl => match us, hl with | [_, _], _ => rfl
theorem bi_answer_get : Bi "answer_get" "answer_get" s_answer_get ["session", "reader"] := fun _ _ _ _ _ _ us hl => match us, hl with | [_, _], _ => rfl
theorem bi_answer_record : Bi "answer_record" "answer_record" s_answer_record ["session", "reader"] := fun _ _ _ _ _ _ us hl => match us, hl with | [_, _], _ => rfl
theorem bi_answer_stop : Bi "answer_stop" "answer_stop" s_answer_stop ["session", "reader"] := fun _ _ _ _ _ _ us hl => match us, hl with | [_, _], _ => rfl
theorem bi_answer_shows : Bi "answer_shows" "answer_shows" s_answer_shows ["session", "reader"] := fun _ _ _ _ _ _ us hl => match us, hl with | [_, _], _ => rfl
theorem bi_answer_undo : Bi "answer_undo" "answer_undo" s_answer_undo ["session", "reader"] := fun _ _ _ _ _ _ us hl => match us, hl with | [_, _], _ => rfl
theorem bi_answer_would : Bi "answer_would" "answer_would" s_answer_would ["session", "reader"] := fun _ _ _ _ _ _ us hl => match us, hl with | [_, _], _ => rfl
theorem bi_answer_period : Bi "answer_period" "answer_period" s_answer_period ["session", "reader"] := fun _ _ _ _ _ _ us hl => match us, hl with | [_, _], _ => rfl
theorem bi_answer_call : Bi "answer_call" "answer_call" s_answer_call ["session", "reader"] := fun _ _ _ _ _ _ us hl => match us, hl with | [_, _], _ => rfl
theorem bi_answers : Bi "answers" "answers" s_answers ["calls"] := fun _ _ _ _ _ _ us hl => match us, hl with | [_], _ => rfl
/-- where all stands -/
structure Adr where
  c_Reader : Addr
  c_Editor : Addr
  c_Player : Addr
  c_Session : Addr
  c_Refused : Addr
  c_WrongNumbers : Addr
  c_NoSuchRegister : Addr
  c_RecordFull : Addr
  c_OutOfTurn : Addr
  c_TooMuch : Addr
  c_NeverStops : Addr
  Refused_init : Addr
  WrongNumbers_init : Addr
  NoSuchRegister_init : Addr
  RecordFull_init : Addr
  OutOfTurn_init : Addr
  TooMuch_init : Addr
  NeverStops_init : Addr
  Reader_init : Addr
  Reader_at_end : Addr
  Reader_take : Addr
  Reader_take_row : Addr
  read_commands : Addr
  split_commands : Addr
  check_command : Addr
  Editor_init : Addr
  Editor_state : Addr
  Editor_restore : Addr
  Editor_twin : Addr
  Editor_told : Addr
  Editor_here : Addr
  put_in : Addr
  go_left : Addr
  go_right : Addr
  take_out : Addr
  go_to_any : Addr
  seek_right : Addr
  seek_left : Addr
  go_first : Addr
  go_last : Addr
  exchange : Addr
  expect : Addr
  expect_other : Addr
  hold : Addr
  put_held : Addr
  do_plain : Addr
  Player_init : Addr
  Player_do_row : Addr
  Player_do_command : Addr
  Player_do_counted : Addr
  Player_play : Addr
  Player_play_next : Addr
  Player_play_times : Addr
  Player_play_until : Addr
  Player_find_period : Addr
  state_behind : Addr
  Session_init : Addr
  Session_start_text : Addr
  Session_new_player : Addr
  Session_do : Addr
  Session_would : Addr
  Session_put_to_record : Addr
  Session_fill : Addr
  Session_look_up : Addr
  Session_record : Addr
  Session_stop_recording : Addr
  Session_shows : Addr
  Session_undo : Addr
  Session_period : Addr
  try_out : Addr
  check_slot : Addr
  answer_text : Addr
  answer_do : Addr
  answer_set : Addr
  answer_get : Addr
  answer_record : Addr
  answer_stop : Addr
  answer_shows : Addr
  answer_undo : Addr
  answer_would : Addr
  answer_period : Addr
  answer_call : Addr
  answers : Addr
  q_LENGTHS : Addr
  q_BARE : Addr
  q_WITH_BYTE : Addr
  q_CALLS : Addr
structure Txt (K : PySem.W.Frag) (mg : Str → Option Value) (A : Adr) : Prop where
  b_any : mg "any" = none
  b_len : mg "len" = none
  b_list : mg "list" = none
  b_range : mg "range" = none
  b_tuple : mg "tuple" = none
  k_FIRST_THAT_PLAYS : ∃ t, mg "FIRST_THAT_PLAYS" = some (.int 13 t)
  k_LAST_BYTE : ∃ t, mg "LAST_BYTE" = some (.int 255 t)
  k_LAST_SLOT : ∃ t, mg "LAST_SLOT" = some (.int 9 t)
  k_MOST_COMMANDS : ∃ t, mg "MOST_COMMANDS" = some (.int 40 t)
  k_MOST_BYTES : ∃ t, mg "MOST_BYTES" = some (.int 60 t)
  k_PLAY_ONCE : ∃ t, mg "PLAY_ONCE" = some (.int 13 t)
  k_PLAY_TIMES : ∃ t, mg "PLAY_TIMES" = some (.int 14 t)
  k_MOST_DEEP : ∃ t, mg "MOST_DEEP" = some (.int 6 t)
  k_MOST_IN_A_ROW : ∃ t, mg "MOST_IN_A_ROW" = some (.int 1000 t)
  k_MOST_PLAIN : ∃ t, mg "MOST_PLAIN" = some (.int 20000 t)
  k_MOST_PLAYINGS : ∃ t, mg "MOST_PLAYINGS" = some (.int 20000 t)
  g_c_Reader : mg "Reader" = some (.ref A.c_Reader)
  g_c_Editor : mg "Editor" = some (.ref A.c_Editor)
  g_c_Player : mg "Player" = some (.ref A.c_Player)
  g_c_Session : mg "Session" = some (.ref A.c_Session)
  g_c_Refused : mg "Refused" = some (.ref A.c_Refused)
  g_c_WrongNumbers : mg "WrongNumbers" = some (.ref A.c_WrongNumbers)
  g_c_NoSuchRegister : mg "NoSuchRegister" = some (.ref A.c_NoSuchRegister)
  g_c_RecordFull : mg "RecordFull" = some (.ref A.c_RecordFull)
  g_c_OutOfTurn : mg "OutOfTurn" = some (.ref A.c_OutOfTurn)
  g_c_TooMuch : mg "TooMuch" = some (.ref A.c_TooMuch)
  g_c_NeverStops : mg "NeverStops" = some (.ref A.c_NeverStops)
  d_Refused_init : Df K "__init__" "Refused.__init__" s_Refused_init ["self", "number"] A.Refused_init
  d_WrongNumbers_init : Df K "__init__" "WrongNumbers.__init__" s_WrongNumbers_init ["self"] A.WrongNumbers_init
  d_NoSuchRegister_init : Df K "__init__" "NoSuchRegister.__init__" s_NoSuchRegister_init ["self"] A.NoSuchRegister_init
  d_RecordFull_init : Df K "__init__" "RecordFull.__init__" s_RecordFull_init ["self"] A.RecordFull_init
  d_OutOfTurn_init : Df K "__init__" "OutOfTurn.__init__" s_OutOfTurn_init ["self"] A.OutOfTurn_init
  d_TooMuch_init : Df K "__init__" "TooMuch.__init__" s_TooMuch_init ["self"] A.TooMuch_init
  d_NeverStops_init : Df K "__init__" "NeverStops.__init__" s_NeverStops_init ["self"] A.NeverStops_init
  d_Reader_init : Df K "__init__" "Reader.__init__" s_Reader_init ["self", "numbers"] A.Reader_init
  d_Reader_at_end : Df K "at_end" "Reader.at_end" s_Reader_at_end ["self"] A.Reader_at_end
  m_Reader_at_end : Meth K A.c_Reader "at_end" A.Reader_at_end
  d_Reader_take : Df K "take" "Reader.take" s_Reader_take ["self"] A.Reader_take
  m_Reader_take : Meth K A.c_Reader "take" A.Reader_take
  d_Reader_take_row : Df K "take_row" "Reader.take_row" s_Reader_take_row ["self"] A.Reader_take_row
  m_Reader_take_row : Meth K A.c_Reader "take_row" A.Reader_take_row
  g_read_commands : mg "read_commands" = some (.ref A.read_commands)
  d_read_commands : Df K "read_commands" "read_commands" s_read_commands ["numbers"] A.read_commands
  g_split_commands : mg "split_commands" = some (.ref A.split_commands)
  d_split_commands : Df K "split_commands" "split_commands" s_split_commands ["numbers"] A.split_commands
  g_check_command : mg "check_command" = some (.ref A.check_command)
  d_check_command : Df K "check_command" "check_command" s_check_command ["command"] A.check_command
  d_Editor_init : Df K "__init__" "Editor.__init__" s_Editor_init ["self", "text", "place", "held"] A.Editor_init
  d_Editor_state : Df K "state" "Editor.state" s_Editor_state ["self"] A.Editor_state
  m_Editor_state : Meth K A.c_Editor "state" A.Editor_state
  d_Editor_restore : Df K "restore" "Editor.restore" s_Editor_restore ["self", "state"] A.Editor_restore
  m_Editor_restore : Meth K A.c_Editor "restore" A.Editor_restore
  d_Editor_twin : Df K "twin" "Editor.twin" s_Editor_twin ["self"] A.Editor_twin
  m_Editor_twin : Meth K A.c_Editor "twin" A.Editor_twin
  d_Editor_told : Df K "told" "Editor.told" s_Editor_told ["self"] A.Editor_told
  m_Editor_told : Meth K A.c_Editor "told" A.Editor_told
  d_Editor_here : Df K "here" "Editor.here" s_Editor_here ["self"] A.Editor_here
  m_Editor_here : Meth K A.c_Editor "here" A.Editor_here
  g_put_in : mg "put_in" = some (.ref A.put_in)
  d_put_in : Df K "put_in" "put_in" s_put_in ["editor", "byte"] A.put_in
  g_go_left : mg "go_left" = some (.ref A.go_left)
  d_go_left : Df K "go_left" "go_left" s_go_left ["editor"] A.go_left
  g_go_right : mg "go_right" = some (.ref A.go_right)
  d_go_right : Df K "go_right" "go_right" s_go_right ["editor"] A.go_right
  g_take_out : mg "take_out" = some (.ref A.take_out)
  d_take_out : Df K "take_out" "take_out" s_take_out ["editor"] A.take_out
  g_go_to_any : mg "go_to_any" = some (.ref A.go_to_any)
  d_go_to_any : Df K "go_to_any" "go_to_any" s_go_to_any ["editor", "byte", "places"] A.go_to_any
  g_seek_right : mg "seek_right" = some (.ref A.seek_right)
  d_seek_right : Df K "seek_right" "seek_right" s_seek_right ["editor", "byte"] A.seek_right
  g_seek_left : mg "seek_left" = some (.ref A.seek_left)
  d_seek_left : Df K "seek_left" "seek_left" s_seek_left ["editor", "byte"] A.seek_left
  g_go_first : mg "go_first" = some (.ref A.go_first)
  d_go_first : Df K "go_first" "go_first" s_go_first ["editor"] A.go_first
  g_go_last : mg "go_last" = some (.ref A.go_last)
  d_go_last : Df K "go_last" "go_last" s_go_last ["editor"] A.go_last
  g_exchange : mg "exchange" = some (.ref A.exchange)
  d_exchange : Df K "exchange" "exchange" s_exchange ["editor"] A.exchange
  g_expect : mg "expect" = some (.ref A.expect)
  d_expect : Df K "expect" "expect" s_expect ["editor", "byte"] A.expect
  g_expect_other : mg "expect_other" = some (.ref A.expect_other)
  d_expect_other : Df K "expect_other" "expect_other" s_expect_other ["editor", "byte"] A.expect_other
  g_hold : mg "hold" = some (.ref A.hold)
  d_hold : Df K "hold" "hold" s_hold ["editor"] A.hold
  g_put_held : mg "put_held" = some (.ref A.put_held)
  d_put_held : Df K "put_held" "put_held" s_put_held ["editor"] A.put_held
  g_do_plain : mg "do_plain" = some (.ref A.do_plain)
  d_do_plain : Df K "do_plain" "do_plain" s_do_plain ["editor", "command"] A.do_plain
  d_Player_init : Df K "__init__" "Player.__init__" s_Player_init ["self", "editor", "macros"] A.Player_init
  d_Player_do_row : Df K "do_row" "Player.do_row" s_Player_do_row ["self", "commands", "depth"] A.Player_do_row
  m_Player_do_row : Meth K A.c_Player "do_row" A.Player_do_row
  d_Player_do_command : Df K "do_command" "Player.do_command" s_Player_do_command ["self", "command", "depth"] A.Player_do_command
  m_Player_do_command : Meth K A.c_Player "do_command" A.Player_do_command
  d_Player_do_counted : Df K "do_counted" "Player.do_counted" s_Player_do_counted ["self", "command"] A.Player_do_counted
  m_Player_do_counted : Meth K A.c_Player "do_counted" A.Player_do_counted
  d_Player_play : Df K "play" "Player.play" s_Player_play ["self", "slot", "depth"] A.Player_play
  m_Player_play : Meth K A.c_Player "play" A.Player_play
  d_Player_play_next : Df K "play_next" "Player.play_next" s_Player_play_next ["self", "slot", "depth", "seen"] A.Player_play_next
  m_Player_play_next : Meth K A.c_Player "play_next" A.Player_play_next
  d_Player_play_times : Df K "play_times" "Player.play_times" s_Player_play_times ["self", "slot", "times", "depth"] A.Player_play_times
  m_Player_play_times : Meth K A.c_Player "play_times" A.Player_play_times
  d_Player_play_until : Df K "play_until" "Player.play_until" s_Player_play_until ["self", "slot", "depth"] A.Player_play_until
  m_Player_play_until : Meth K A.c_Player "play_until" A.Player_play_until
  d_Player_find_period : Df K "find_period" "Player.find_period" s_Player_find_period ["self", "slot"] A.Player_find_period
  m_Player_find_period : Meth K A.c_Player "find_period" A.Player_find_period
  g_state_behind : mg "state_behind" = some (.ref A.state_behind)
  d_state_behind : Df K "state_behind" "state_behind" s_state_behind ["times", "seen", "first"] A.state_behind
  d_Session_init : Df K "__init__" "Session.__init__" s_Session_init ["self"] A.Session_init
  d_Session_start_text : Df K "start_text" "Session.start_text" s_Session_start_text ["self", "place", "numbers"] A.Session_start_text
  m_Session_start_text : Meth K A.c_Session "start_text" A.Session_start_text
  d_Session_new_player : Df K "new_player" "Session.new_player" s_Session_new_player ["self"] A.Session_new_player
  m_Session_new_player : Meth K A.c_Session "new_player" A.Session_new_player
  d_Session_do : Df K "do" "Session.do" s_Session_do ["self", "numbers"] A.Session_do
  m_Session_do : Meth K A.c_Session "do" A.Session_do
  d_Session_would : Df K "would" "Session.would" s_Session_would ["self", "numbers"] A.Session_would
  m_Session_would : Meth K A.c_Session "would" A.Session_would
  d_Session_put_to_record : Df K "put_to_record" "Session.put_to_record" s_Session_put_to_record ["self", "commands"] A.Session_put_to_record
  m_Session_put_to_record : Meth K A.c_Session "put_to_record" A.Session_put_to_record
  d_Session_fill : Df K "fill" "Session.fill" s_Session_fill ["self", "slot", "numbers"] A.Session_fill
  m_Session_fill : Meth K A.c_Session "fill" A.Session_fill
  d_Session_look_up : Df K "look_up" "Session.look_up" s_Session_look_up ["self", "slot"] A.Session_look_up
  m_Session_look_up : Meth K A.c_Session "look_up" A.Session_look_up
  d_Session_record : Df K "record" "Session.record" s_Session_record ["self", "slot", "more"] A.Session_record
  m_Session_record : Meth K A.c_Session "record" A.Session_record
  d_Session_stop_recording : Df K "stop_recording" "Session.stop_recording" s_Session_stop_recording ["self"] A.Session_stop_recording
  m_Session_stop_recording : Meth K A.c_Session "stop_recording" A.Session_stop_recording
  d_Session_shows : Df K "shows" "Session.shows" s_Session_shows ["self"] A.Session_shows
  m_Session_shows : Meth K A.c_Session "shows" A.Session_shows
  d_Session_undo : Df K "undo" "Session.undo" s_Session_undo ["self"] A.Session_undo
  m_Session_undo : Meth K A.c_Session "undo" A.Session_undo
  d_Session_period : Df K "period" "Session.period" s_Session_period ["self", "slot"] A.Session_period
  m_Session_period : Meth K A.c_Session "period" A.Session_period
  g_try_out : mg "try_out" = some (.ref A.try_out)
  d_try_out : Df K "try_out" "try_out" s_try_out ["player", "commands"] A.try_out
  g_check_slot : mg "check_slot" = some (.ref A.check_slot)
  d_check_slot : Df K "check_slot" "check_slot" s_check_slot ["slot"] A.check_slot
  g_answer_text : mg "answer_text" = some (.ref A.answer_text)
  d_answer_text : Df K "answer_text" "answer_text" s_answer_text ["session", "reader"] A.answer_text
  g_answer_do : mg "answer_do" = some (.ref A.answer_do)
  d_answer_do : Df K "answer_do" "answer_do" s_answer_do ["session", "reader"] A.answer_do
  g_answer_set : mg "answer_set" = some (.ref A.answer_set)
  d_answer_set : Df K "answer_set" "answer_set" s_answer_set ["session", "reader"] A.answer_set
  g_answer_get : mg "answer_get" = some (.ref A.answer_get)
  d_answer_get : Df K "answer_get" "answer_get" s_answer_get ["session", "reader"] A.answer_get
  g_answer_record : mg "answer_record" = some (.ref A.answer_record)
  d_answer_record : Df K "answer_record" "answer_record" s_answer_record ["session", "reader"] A.answer_record
  g_answer_stop : mg "answer_stop" = some (.ref A.answer_stop)
  d_answer_stop : Df K "answer_stop" "answer_stop" s_answer_stop ["session", "reader"] A.answer_stop
  g_answer_shows : mg "answer_shows" = some (.ref A.answer_shows)
  d_answer_shows : Df K "answer_shows" "answer_shows" s_answer_shows ["session", "reader"] A.answer_shows
  g_answer_undo : mg "answer_undo" = some (.ref A.answer_undo)
  d_answer_undo : Df K "answer_undo" "answer_undo" s_answer_undo ["session", "reader"] A.answer_undo
  g_answer_would : mg "answer_would" = some (.ref A.answer_would)
  d_answer_would : Df K "answer_would" "answer_would" s_answer_would ["session", "reader"] A.answer_would
  g_answer_period : mg "answer_period" = some (.ref A.answer_period)
  d_answer_period : Df K "answer_period" "answer_period" s_answer_period ["session", "reader"] A.answer_period
  g_answer_call : mg "answer_call" = some (.ref A.answer_call)
  d_answer_call : Df K "answer_call" "answer_call" s_answer_call ["session", "reader"] A.answer_call
  g_answers : mg "answers" = some (.ref A.answers)
  d_answers : DfT K "answers" "answers" s_answers ["calls"] A.answers
  cl_Reader : Cls K A.c_Reader
  mk_Reader : Mk K A.c_Reader A.Reader_init
  n_Reader_numbers : NoAttr K A.c_Reader "numbers"
  n_Reader_position : NoAttr K A.c_Reader "position"
  cl_Editor : Cls K A.c_Editor
  mk_Editor : Mk K A.c_Editor A.Editor_init
  n_Editor_text : NoAttr K A.c_Editor "text"
  n_Editor_place : NoAttr K A.c_Editor "place"
  n_Editor_held : NoAttr K A.c_Editor "held"
  cl_Player : Cls K A.c_Player
  mk_Player : Mk K A.c_Player A.Player_init
  n_Player_editor : NoAttr K A.c_Player "editor"
  n_Player_macros : NoAttr K A.c_Player "macros"
  n_Player_plain_count : NoAttr K A.c_Player "plain_count"
  n_Player_playing_count : NoAttr K A.c_Player "playing_count"
  cl_Session : Cls K A.c_Session
  mk_Session : Mk K A.c_Session A.Session_init
  n_Session_editor : NoAttr K A.c_Session "editor"
  n_Session_macros : NoAttr K A.c_Session "macros"
  n_Session_recorded_for : NoAttr K A.c_Session "recorded_for"
  n_Session_recorded : NoAttr K A.c_Session "recorded"
  n_Session_earlier : NoAttr K A.c_Session "earlier"
  x_root : PySem.W.readsIn K A.c_Refused (.type "type") = true ∧ PySem.W.specialIn K (.ref A.c_Refused) "__getattribute__" = some (some (.builtin "type.__getattribute__")) ∧ PySem.W.findCls K (.ref A.c_Refused) (.type "type") "__init__" = some (.val (.ref A.Refused_init))
  x_WrongNumbers : RfC K A.c_Refused A.c_WrongNumbers ∧ PySem.W.findIn K (.ref A.c_WrongNumbers) "__init__" = some (some (.ref A.WrongNumbers_init)) ∧ PySem.W.typeIn K (.ref A.WrongNumbers_init) = some (.type "function")
  x_NoSuchRegister : RfC K A.c_Refused A.c_NoSuchRegister ∧ PySem.W.findIn K (.ref A.c_NoSuchRegister) "__init__" = some (some (.ref A.NoSuchRegister_init)) ∧ PySem.W.typeIn K (.ref A.NoSuchRegister_init) = some (.type "function")
  x_RecordFull : RfC K A.c_Refused A.c_RecordFull ∧ PySem.W.findIn K (.ref A.c_RecordFull) "__init__" = some (some (.ref A.RecordFull_init)) ∧ PySem.W.typeIn K (.ref A.RecordFull_init) = some (.type "function")
  x_OutOfTurn : RfC K A.c_Refused A.c_OutOfTurn ∧ PySem.W.findIn K (.ref A.c_OutOfTurn) "__init__" = some (some (.ref A.OutOfTurn_init)) ∧ PySem.W.typeIn K (.ref A.OutOfTurn_init) = some (.type "function")
  x_TooMuch : RfC K A.c_Refused A.c_TooMuch ∧ PySem.W.findIn K (.ref A.c_TooMuch) "__init__" = some (some (.ref A.TooMuch_init)) ∧ PySem.W.typeIn K (.ref A.TooMuch_init) = some (.type "function")
  x_NeverStops : RfC K A.c_Refused A.c_NeverStops ∧ PySem.W.findIn K (.ref A.c_NeverStops) "__init__" = some (some (.ref A.NeverStops_init)) ∧ PySem.W.typeIn K (.ref A.NeverStops_init) = some (.type "function")
  t_LENGTHS : mg "LENGTHS" = some (.ref A.q_LENGTHS) ∧ ∀ H, SqT K H A.q_LENGTHS (tx [2, 1, 1, 1, 2, 2, 1, 1, 1, 2, 2, 1, 1, 2, 3, 2])
  t_BARE : mg "BARE" = some (.ref A.q_BARE) ∧ KFd K A.q_BARE [(1, A.go_left), (2, A.go_right), (3, A.take_out), (6, A.go_first), (7, A.go_last), (8, A.exchange), (11, A.hold), (12, A.put_held)]
  t_WITH_BYTE : mg "WITH_BYTE" = some (.ref A.q_WITH_BYTE) ∧ KFd K A.q_WITH_BYTE [(0, A.put_in), (4, A.seek_right), (5, A.seek_left), (9, A.expect), (10, A.expect_other)]
  t_CALLS : mg "CALLS" = some (.ref A.q_CALLS) ∧ KFd K A.q_CALLS [(0, A.answer_text), (1, A.answer_do), (2, A.answer_set), (3, A.answer_get), (4, A.answer_record), (5, A.answer_stop), (6, A.answer_shows), (7, A.answer_undo), (8, A.answer_would), (9, A.answer_period)]
theorem txt_mk {K : PySem.W.Frag} {h : Heap} {mg : Str → Option Value} (X : K.In h) (G : h.Ns mainGlobals mg) {c_Reader c_Editor c_Player c_Session c_Refused c_WrongNumbers c_NoSuchRegister c_RecordFull c_OutOfTurn c_TooMuch c_NeverStops Refused_init WrongNumbers_init NoSuchRegister_init RecordFull_init OutOfTurn_init TooMuch_init NeverStops_init Reader_init Reader_at_end Reader_take Reader_take_row read_commands split_commands check_command Editor_init Editor_state Editor_restore Editor_twin Editor_told Editor_here put_in go_left go_right take_out go_to_any seek_right seek_left go_first go_last exchange expect expect_other hold put_held do_plain Player_init Player_do_row Player_do_command Player_do_counted Player_play Player_play_next Player_play_times Player_play_until Player_find_period state_behind Session_init Session_start_text Session_new_player Session_do Session_would Session_put_to_record Session_fill Session_look_up Session_record Session_stop_recording Session_shows Session_undo Session_period try_out check_slot answer_text answer_do answer_set answer_get answer_record answer_stop answer_shows answer_undo answer_would answer_period answer_call answers q_LENGTHS q_BARE q_WITH_BYTE q_CALLS : Addr} {tk_FIRST_THAT_PLAYS tk_LAST_BYTE tk_LAST_SLOT tk_MOST_COMMANDS tk_MOST_BYTES tk_PLAY_ONCE tk_PLAY_TIMES tk_MOST_DEEP tk_MOST_IN_A_ROW tk_MOST_PLAIN tk_MOST_PLAYINGS : Tok}
    (zb_any : PySem.W.nsIn K mainGlobals "any" = some none)
    (zb_len : PySem.W.nsIn K mainGlobals "len" = some none)
    (zb_list : PySem.W.nsIn K mainGlobals "list" = some none)
    (zb_range : PySem.W.nsIn K mainGlobals "range" = some none)
    (zb_tuple : PySem.W.nsIn K mainGlobals "tuple" = some none)
    (zk_FIRST_THAT_PLAYS : PySem.W.nsIn K mainGlobals "FIRST_THAT_PLAYS" = some (some (.int 13 tk_FIRST_THAT_PLAYS)))
    (zk_LAST_BYTE : PySem.W.nsIn K mainGlobals "LAST_BYTE" = some (some (.int 255 tk_LAST_BYTE)))
    (zk_LAST_SLOT : PySem.W.nsIn K mainGlobals "LAST_SLOT" = some (some (.int 9 tk_LAST_SLOT)))
    (zk_MOST_COMMANDS : PySem.W.nsIn K mainGlobals "MOST_COMMANDS" = some (some (.int 40 tk_MOST_COMMANDS)))
    (zk_MOST_BYTES : PySem.W.nsIn K mainGlobals "MOST_BYTES" = some (some (.int 60 tk_MOST_BYTES)))
    (zk_PLAY_ONCE : PySem.W.nsIn K mainGlobals "PLAY_ONCE" = some (some (.int 13 tk_PLAY_ONCE)))
    (zk_PLAY_TIMES : PySem.W.nsIn K mainGlobals "PLAY_TIMES" = some (some (.int 14 tk_PLAY_TIMES)))
    (zk_MOST_DEEP : PySem.W.nsIn K mainGlobals "MOST_DEEP" = some (some (.int 6 tk_MOST_DEEP)))
    (zk_MOST_IN_A_ROW : PySem.W.nsIn K mainGlobals "MOST_IN_A_ROW" = some (some (.int 1000 tk_MOST_IN_A_ROW)))
    (zk_MOST_PLAIN : PySem.W.nsIn K mainGlobals "MOST_PLAIN" = some (some (.int 20000 tk_MOST_PLAIN)))
    (zk_MOST_PLAYINGS : PySem.W.nsIn K mainGlobals "MOST_PLAYINGS" = some (some (.int 20000 tk_MOST_PLAYINGS)))
    (zc_Reader : PySem.W.nsIn K mainGlobals "Reader" = some (some (.ref c_Reader)))
    (zc_Editor : PySem.W.nsIn K mainGlobals "Editor" = some (some (.ref c_Editor)))
    (zc_Player : PySem.W.nsIn K mainGlobals "Player" = some (some (.ref c_Player)))
    (zc_Session : PySem.W.nsIn K mainGlobals "Session" = some (some (.ref c_Session)))
    (zc_Refused : PySem.W.nsIn K mainGlobals "Refused" = some (some (.ref c_Refused)))
    (zc_WrongNumbers : PySem.W.nsIn K mainGlobals "WrongNumbers" = some (some (.ref c_WrongNumbers)))
    (zc_NoSuchRegister : PySem.W.nsIn K mainGlobals "NoSuchRegister" = some (some (.ref c_NoSuchRegister)))
    (zc_RecordFull : PySem.W.nsIn K mainGlobals "RecordFull" = some (some (.ref c_RecordFull)))
    (zc_OutOfTurn : PySem.W.nsIn K mainGlobals "OutOfTurn" = some (some (.ref c_OutOfTurn)))
    (zc_TooMuch : PySem.W.nsIn K mainGlobals "TooMuch" = some (some (.ref c_TooMuch)))
    (zc_NeverStops : PySem.W.nsIn K mainGlobals "NeverStops" = some (some (.ref c_NeverStops)))
    (za_Refused_init : PySem.W.findIn K (.ref c_Refused) "__init__" = some (some (.ref Refused_init)))
    (zd_Refused_init : Df K "__init__" "Refused.__init__" s_Refused_init ["self", "number"] Refused_init)
    (za_WrongNumbers_init : PySem.W.findIn K (.ref c_WrongNumbers) "__init__" = some (some (.ref WrongNumbers_init)))
    (zd_WrongNumbers_init : Df K "__init__" "WrongNumbers.__init__" s_WrongNumbers_init ["self"] WrongNumbers_init)
    (za_NoSuchRegister_init : PySem.W.findIn K (.ref c_NoSuchRegister) "__init__" = some (some (.ref NoSuchRegister_init)))
    (zd_NoSuchRegister_init : Df K "__init__" "NoSuchRegister.__init__" s_NoSuchRegister_init ["self"] NoSuchRegister_init)
    (za_RecordFull_init : PySem.W.findIn K (.ref c_RecordFull) "__init__" = some (some (.ref RecordFull_init)))
    (zd_RecordFull_init : Df K "__init__" "RecordFull.__init__" s_RecordFull_init ["self"] RecordFull_init)
    (za_OutOfTurn_init : PySem.W.findIn K (.ref c_OutOfTurn) "__init__" = some (some (.ref OutOfTurn_init)))
    (zd_OutOfTurn_init : Df K "__init__" "OutOfTurn.__init__" s_OutOfTurn_init ["self"] OutOfTurn_init)
    (za_TooMuch_init : PySem.W.findIn K (.ref c_TooMuch) "__init__" = some (some (.ref TooMuch_init)))
    (zd_TooMuch_init : Df K "__init__" "TooMuch.__init__" s_TooMuch_init ["self"] TooMuch_init)
    (za_NeverStops_init : PySem.W.findIn K (.ref c_NeverStops) "__init__" = some (some (.ref NeverStops_init)))
    (zd_NeverStops_init : Df K "__init__" "NeverStops.__init__" s_NeverStops_init ["self"] NeverStops_init)
    (za_Reader_init : PySem.W.findIn K (.ref c_Reader) "__init__" = some (some (.ref Reader_init)))
    (zi_Reader_init : PySem.W.isFn K (.ref Reader_init) = true)
    (zd_Reader_init : Df K "__init__" "Reader.__init__" s_Reader_init ["self", "numbers"] Reader_init)
    (za_Reader_at_end : PySem.W.findIn K (.ref c_Reader) "at_end" = some (some (.ref Reader_at_end)))
    (zi_Reader_at_end : PySem.W.isFn K (.ref Reader_at_end) = true)
    (zd_Reader_at_end : Df K "at_end" "Reader.at_end" s_Reader_at_end ["self"] Reader_at_end)
    (za_Reader_take : PySem.W.findIn K (.ref c_Reader) "take" = some (some (.ref Reader_take)))
    (zi_Reader_take : PySem.W.isFn K (.ref Reader_take) = true)
    (zd_Reader_take : Df K "take" "Reader.take" s_Reader_take ["self"] Reader_take)
    (za_Reader_take_row : PySem.W.findIn K (.ref c_Reader) "take_row" = some (some (.ref Reader_take_row)))
    (zi_Reader_take_row : PySem.W.isFn K (.ref Reader_take_row) = true)
    (zd_Reader_take_row : Df K "take_row" "Reader.take_row" s_Reader_take_row ["self"] Reader_take_row)
    (za_read_commands : PySem.W.nsIn K mainGlobals "read_commands" = some (some (.ref read_commands)))
    (zd_read_commands : Df K "read_commands" "read_commands" s_read_commands ["numbers"] read_commands)
    (za_split_commands : PySem.W.nsIn K mainGlobals "split_commands" = some (some (.ref split_commands)))
    (zd_split_commands : Df K "split_commands" "split_commands" s_split_commands ["numbers"] split_commands)
    (za_check_command : PySem.W.nsIn K mainGlobals "check_command" = some (some (.ref check_command)))
    (zd_check_command : Df K "check_command" "check_command" s_check_command ["command"] check_command)
    (za_Editor_init : PySem.W.findIn K (.ref c_Editor) "__init__" = some (some (.ref Editor_init)))
    (zi_Editor_init : PySem.W.isFn K (.ref Editor_init) = true)
    (zd_Editor_init : Df K "__init__" "Editor.__init__" s_Editor_init ["self", "text", "place", "held"] Editor_init)
    (za_Editor_state : PySem.W.findIn K (.ref c_Editor) "state" = some (some (.ref Editor_state)))
    (zi_Editor_state : PySem.W.isFn K (.ref Editor_state) = true)
    (zd_Editor_state : Df K "state" "Editor.state" s_Editor_state ["self"] Editor_state)
    (za_Editor_restore : PySem.W.findIn K (.ref c_Editor) "restore" = some (some (.ref Editor_restore)))
    (zi_Editor_restore : PySem.W.isFn K (.ref Editor_restore) = true)
    (zd_Editor_restore : Df K "restore" "Editor.restore" s_Editor_restore ["self", "state"] Editor_restore)
    (za_Editor_twin : PySem.W.findIn K (.ref c_Editor) "twin" = some (some (.ref Editor_twin)))
    (zi_Editor_twin : PySem.W.isFn K (.ref Editor_twin) = true)
    (zd_Editor_twin : Df K "twin" "Editor.twin" s_Editor_twin ["self"] Editor_twin)
    (za_Editor_told : PySem.W.findIn K (.ref c_Editor) "told" = some (some (.ref Editor_told)))
    (zi_Editor_told : PySem.W.isFn K (.ref Editor_told) = true)
    (zd_Editor_told : Df K "told" "Editor.told" s_Editor_told ["self"] Editor_told)
    (za_Editor_here : PySem.W.findIn K (.ref c_Editor) "here" = some (some (.ref Editor_here)))
    (zi_Editor_here : PySem.W.isFn K (.ref Editor_here) = true)
    (zd_Editor_here : Df K "here" "Editor.here" s_Editor_here ["self"] Editor_here)
    (za_put_in : PySem.W.nsIn K mainGlobals "put_in" = some (some (.ref put_in)))
    (zd_put_in : Df K "put_in" "put_in" s_put_in ["editor", "byte"] put_in)
    (za_go_left : PySem.W.nsIn K mainGlobals "go_left" = some (some (.ref go_left)))
    (zd_go_left : Df K "go_left" "go_left" s_go_left ["editor"] go_left)
    (za_go_right : PySem.W.nsIn K mainGlobals "go_right" = some (some (.ref go_right)))
    (zd_go_right : Df K "go_right" "go_right" s_go_right ["editor"] go_right)
    (za_take_out : PySem.W.nsIn K mainGlobals "take_out" = some (some (.ref take_out)))
    (zd_take_out : Df K "take_out" "take_out" s_take_out ["editor"] take_out)
    (za_go_to_any : PySem.W.nsIn K mainGlobals "go_to_any" = some (some (.ref go_to_any)))
    (zd_go_to_any : Df K "go_to_any" "go_to_any" s_go_to_any ["editor", "byte", "places"] go_to_any)
    (za_seek_right : PySem.W.nsIn K mainGlobals "seek_right" = some (some (.ref seek_right)))
    (zd_seek_right : Df K "seek_right" "seek_right" s_seek_right ["editor", "byte"] seek_right)
    (za_seek_left : PySem.W.nsIn K mainGlobals "seek_left" = some (some (.ref seek_left)))
    (zd_seek_left : Df K "seek_left" "seek_left" s_seek_left ["editor", "byte"] seek_left)
    (za_go_first : PySem.W.nsIn K mainGlobals "go_first" = some (some (.ref go_first)))
    (zd_go_first : Df K "go_first" "go_first" s_go_first ["editor"] go_first)
    (za_go_last : PySem.W.nsIn K mainGlobals "go_last" = some (some (.ref go_last)))
    (zd_go_last : Df K "go_last" "go_last" s_go_last ["editor"] go_last)
    (za_exchange : PySem.W.nsIn K mainGlobals "exchange" = some (some (.ref exchange)))
    (zd_exchange : Df K "exchange" "exchange" s_exchange ["editor"] exchange)
    (za_expect : PySem.W.nsIn K mainGlobals "expect" = some (some (.ref expect)))
    (zd_expect : Df K "expect" "expect" s_expect ["editor", "byte"] expect)
    (za_expect_other : PySem.W.nsIn K mainGlobals "expect_other" = some (some (.ref expect_other)))
    (zd_expect_other : Df K "expect_other" "expect_other" s_expect_other ["editor", "byte"] expect_other)
    (za_hold : PySem.W.nsIn K mainGlobals "hold" = some (some (.ref hold)))
    (zd_hold : Df K "hold" "hold" s_hold ["editor"] hold)
    (za_put_held : PySem.W.nsIn K mainGlobals "put_held" = some (some (.ref put_held)))
    (zd_put_held : Df K "put_held" "put_held" s_put_held ["editor"] put_held)
    (za_do_plain : PySem.W.nsIn K mainGlobals "do_plain" = some (some (.ref do_plain)))
    (zd_do_plain : Df K "do_plain" "do_plain" s_do_plain ["editor", "command"] do_plain)
    (za_Player_init : PySem.W.findIn K (.ref c_Player) "__init__" = some (some (.ref Player_init)))
    (zi_Player_init : PySem.W.isFn K (.ref Player_init) = true)
    (zd_Player_init : Df K "__init__" "Player.__init__" s_Player_init ["self", "editor", "macros"] Player_init)
    (za_Player_do_row : PySem.W.findIn K (.ref c_Player) "do_row" = some (some (.ref Player_do_row)))
    (zi_Player_do_row : PySem.W.isFn K (.ref Player_do_row) = true)
    (zd_Player_do_row : Df K "do_row" "Player.do_row" s_Player_do_row ["self", "commands", "depth"] Player_do_row)
    (za_Player_do_command : PySem.W.findIn K (.ref c_Player) "do_command" = some (some (.ref Player_do_command)))
    (zi_Player_do_command : PySem.W.isFn K (.ref Player_do_command) = true)
    (zd_Player_do_command : Df K "do_command" "Player.do_command" s_Player_do_command ["self", "command", "depth"] Player_do_command)
    (za_Player_do_counted : PySem.W.findIn K (.ref c_Player) "do_counted" = some (some (.ref Player_do_counted)))
    (zi_Player_do_counted : PySem.W.isFn K (.ref Player_do_counted) = true)
    (zd_Player_do_counted : Df K "do_counted" "Player.do_counted" s_Player_do_counted ["self", "command"] Player_do_counted)
    (za_Player_play : PySem.W.findIn K (.ref c_Player) "play" = some (some (.ref Player_play)))
    (zi_Player_play : PySem.W.isFn K (.ref Player_play) = true)
    (zd_Player_play : Df K "play" "Player.play" s_Player_play ["self", "slot", "depth"] Player_play)
    (za_Player_play_next : PySem.W.findIn K (.ref c_Player) "play_next" = some (some (.ref Player_play_next)))
    (zi_Player_play_next : PySem.W.isFn K (.ref Player_play_next) = true)
    (zd_Player_play_next : Df K "play_next" "Player.play_next" s_Player_play_next ["self", "slot", "depth", "seen"] Player_play_next)
    (za_Player_play_times : PySem.W.findIn K (.ref c_Player) "play_times" = some (some (.ref Player_play_times)))
    (zi_Player_play_times : PySem.W.isFn K (.ref Player_play_times) = true)
    (zd_Player_play_times : Df K "play_times" "Player.play_times" s_Player_play_times ["self", "slot", "times", "depth"] Player_play_times)
    (za_Player_play_until : PySem.W.findIn K (.ref c_Player) "play_until" = some (some (.ref Player_play_until)))
    (zi_Player_play_until : PySem.W.isFn K (.ref Player_play_until) = true)
    (zd_Player_play_until : Df K "play_until" "Player.play_until" s_Player_play_until ["self", "slot", "depth"] Player_play_until)
    (za_Player_find_period : PySem.W.findIn K (.ref c_Player) "find_period" = some (some (.ref Player_find_period)))
    (zi_Player_find_period : PySem.W.isFn K (.ref Player_find_period) = true)
    (zd_Player_find_period : Df K "find_period" "Player.find_period" s_Player_find_period ["self", "slot"] Player_find_period)
    (za_state_behind : PySem.W.nsIn K mainGlobals "state_behind" = some (some (.ref state_behind)))
    (zd_state_behind : Df K "state_behind" "state_behind" s_state_behind ["times", "seen", "first"] state_behind)
    (za_Session_init : PySem.W.findIn K (.ref c_Session) "__init__" = some (some (.ref Session_init)))
    (zi_Session_init : PySem.W.isFn K (.ref Session_init) = true)
    (zd_Session_init : Df K "__init__" "Session.__init__" s_Session_init ["self"] Session_init)
    (za_Session_start_text : PySem.W.findIn K (.ref c_Session) "start_text" = some (some (.ref Session_start_text)))
    (zi_Session_start_text : PySem.W.isFn K (.ref Session_start_text) = true)
    (zd_Session_start_text : Df K "start_text" "Session.start_text" s_Session_start_text ["self", "place", "numbers"] Session_start_text)
    (za_Session_new_player : PySem.W.findIn K (.ref c_Session) "new_player" = some (some (.ref Session_new_player)))
    (zi_Session_new_player : PySem.W.isFn K (.ref Session_new_player) = true)
    (zd_Session_new_player : Df K "new_player" "Session.new_player" s_Session_new_player ["self"] Session_new_player)
    (za_Session_do : PySem.W.findIn K (.ref c_Session) "do" = some (some (.ref Session_do)))
    (zi_Session_do : PySem.W.isFn K (.ref Session_do) = true)
    (zd_Session_do : Df K "do" "Session.do" s_Session_do ["self", "numbers"] Session_do)
    (za_Session_would : PySem.W.findIn K (.ref c_Session) "would" = some (some (.ref Session_would)))
    (zi_Session_would : PySem.W.isFn K (.ref Session_would) = true)
    (zd_Session_would : Df K "would" "Session.would" s_Session_would ["self", "numbers"] Session_would)
    (za_Session_put_to_record : PySem.W.findIn K (.ref c_Session) "put_to_record" = some (some (.ref Session_put_to_record)))
    (zi_Session_put_to_record : PySem.W.isFn K (.ref Session_put_to_record) = true)
    (zd_Session_put_to_record : Df K "put_to_record" "Session.put_to_record" s_Session_put_to_record ["self", "commands"] Session_put_to_record)
    (za_Session_fill : PySem.W.findIn K (.ref c_Session) "fill" = some (some (.ref Session_fill)))
    (zi_Session_fill : PySem.W.isFn K (.ref Session_fill) = true)
    (zd_Session_fill : Df K "fill" "Session.fill" s_Session_fill ["self", "slot", "numbers"] Session_fill)
    (za_Session_look_up : PySem.W.findIn K (.ref c_Session) "look_up" = some (some (.ref Session_look_up)))
    (zi_Session_look_up : PySem.W.isFn K (.ref Session_look_up) = true)
    (zd_Session_look_up : Df K "look_up" "Session.look_up" s_Session_look_up ["self", "slot"] Session_look_up)
    (za_Session_record : PySem.W.findIn K (.ref c_Session) "record" = some (some (.ref Session_record)))
    (zi_Session_record : PySem.W.isFn K (.ref Session_record) = true)
    (zd_Session_record : Df K "record" "Session.record" s_Session_record ["self", "slot", "more"] Session_record)
    (za_Session_stop_recording : PySem.W.findIn K (.ref c_Session) "stop_recording" = some (some (.ref Session_stop_recording)))
    (zi_Session_stop_recording : PySem.W.isFn K (.ref Session_stop_recording) = true)
    (zd_Session_stop_recording : Df K "stop_recording" "Session.stop_recording" s_Session_stop_recording ["self"] Session_stop_recording)
    (za_Session_shows : PySem.W.findIn K (.ref c_Session) "shows" = some (some (.ref Session_shows)))
    (zi_Session_shows : PySem.W.isFn K (.ref Session_shows) = true)
    (zd_Session_shows : Df K "shows" "Session.shows" s_Session_shows ["self"] Session_shows)
    (za_Session_undo : PySem.W.findIn K (.ref c_Session) "undo" = some (some (.ref Session_undo)))
    (zi_Session_undo : PySem.W.isFn K (.ref Session_undo) = true)
    (zd_Session_undo : Df K "undo" "Session.undo" s_Session_undo ["self"] Session_undo)
    (za_Session_period : PySem.W.findIn K (.ref c_Session) "period" = some (some (.ref Session_period)))
    (zi_Session_period : PySem.W.isFn K (.ref Session_period) = true)
    (zd_Session_period : Df K "period" "Session.period" s_Session_period ["self", "slot"] Session_period)
    (za_try_out : PySem.W.nsIn K mainGlobals "try_out" = some (some (.ref try_out)))
    (zd_try_out : Df K "try_out" "try_out" s_try_out ["player", "commands"] try_out)
    (za_check_slot : PySem.W.nsIn K mainGlobals "check_slot" = some (some (.ref check_slot)))
    (zd_check_slot : Df K "check_slot" "check_slot" s_check_slot ["slot"] check_slot)
    (za_answer_text : PySem.W.nsIn K mainGlobals "answer_text" = some (some (.ref answer_text)))
    (zd_answer_text : Df K "answer_text" "answer_text" s_answer_text ["session", "reader"] answer_text)
    (za_answer_do : PySem.W.nsIn K mainGlobals "answer_do" = some (some (.ref answer_do)))
    (zd_answer_do : Df K "answer_do" "answer_do" s_answer_do ["session", "reader"] answer_do)
    (za_answer_set : PySem.W.nsIn K mainGlobals "answer_set" = some (some (.ref answer_set)))
    (zd_answer_set : Df K "answer_set" "answer_set" s_answer_set ["session", "reader"] answer_set)
    (za_answer_get : PySem.W.nsIn K mainGlobals "answer_get" = some (some (.ref answer_get)))
    (zd_answer_get : Df K "answer_get" "answer_get" s_answer_get ["session", "reader"] answer_get)
    (za_answer_record : PySem.W.nsIn K mainGlobals "answer_record" = some (some (.ref answer_record)))
    (zd_answer_record : Df K "answer_record" "answer_record" s_answer_record ["session", "reader"] answer_record)
    (za_answer_stop : PySem.W.nsIn K mainGlobals "answer_stop" = some (some (.ref answer_stop)))
    (zd_answer_stop : Df K "answer_stop" "answer_stop" s_answer_stop ["session", "reader"] answer_stop)
    (za_answer_shows : PySem.W.nsIn K mainGlobals "answer_shows" = some (some (.ref answer_shows)))
    (zd_answer_shows : Df K "answer_shows" "answer_shows" s_answer_shows ["session", "reader"] answer_shows)
    (za_answer_undo : PySem.W.nsIn K mainGlobals "answer_undo" = some (some (.ref answer_undo)))
    (zd_answer_undo : Df K "answer_undo" "answer_undo" s_answer_undo ["session", "reader"] answer_undo)
    (za_answer_would : PySem.W.nsIn K mainGlobals "answer_would" = some (some (.ref answer_would)))
    (zd_answer_would : Df K "answer_would" "answer_would" s_answer_would ["session", "reader"] answer_would)
    (za_answer_period : PySem.W.nsIn K mainGlobals "answer_period" = some (some (.ref answer_period)))
    (zd_answer_period : Df K "answer_period" "answer_period" s_answer_period ["session", "reader"] answer_period)
    (za_answer_call : PySem.W.nsIn K mainGlobals "answer_call" = some (some (.ref answer_call)))
    (zd_answer_call : Df K "answer_call" "answer_call" s_answer_call ["session", "reader"] answer_call)
    (za_answers : PySem.W.nsIn K mainGlobals "answers" = some (some (.ref answers)))
    (zd_answers : DfT K "answers" "answers" s_answers ["calls"] answers)
    (zpg_Reader : PySem.W.plainGet K c_Reader Str.empty = true)
    (zhd_Reader : PySem.W.hasDictIn K c_Reader = true)
    (zpo_Reader : PySem.W.plainOver K c_Reader = true)
    (zsa_Reader : PySem.W.findIn K (.ref c_Reader) "__setattr__" = some (some (.builtin "object.__setattr__")))
    (zmk_Reader : PySem.W.makesIn K c_Reader = true)
    (zkc_Reader : PySem.W.keepIn K (.ref c_Reader) = true)
    (zn_Reader_numbers : PySem.W.findIn K (.ref c_Reader) "numbers" = some none)
    (zn_Reader_position : PySem.W.findIn K (.ref c_Reader) "position" = some none)
    (zpg_Editor : PySem.W.plainGet K c_Editor Str.empty = true)
    (zhd_Editor : PySem.W.hasDictIn K c_Editor = true)
    (zpo_Editor : PySem.W.plainOver K c_Editor = true)
    (zsa_Editor : PySem.W.findIn K (.ref c_Editor) "__setattr__" = some (some (.builtin "object.__setattr__")))
    (zmk_Editor : PySem.W.makesIn K c_Editor = true)
    (zkc_Editor : PySem.W.keepIn K (.ref c_Editor) = true)
    (zn_Editor_text : PySem.W.findIn K (.ref c_Editor) "text" = some none)
    (zn_Editor_place : PySem.W.findIn K (.ref c_Editor) "place" = some none)
    (zn_Editor_held : PySem.W.findIn K (.ref c_Editor) "held" = some none)
    (zpg_Player : PySem.W.plainGet K c_Player Str.empty = true)
    (zhd_Player : PySem.W.hasDictIn K c_Player = true)
    (zpo_Player : PySem.W.plainOver K c_Player = true)
    (zsa_Player : PySem.W.findIn K (.ref c_Player) "__setattr__" = some (some (.builtin "object.__setattr__")))
    (zmk_Player : PySem.W.makesIn K c_Player = true)
    (zkc_Player : PySem.W.keepIn K (.ref c_Player) = true)
    (zn_Player_editor : PySem.W.findIn K (.ref c_Player) "editor" = some none)
    (zn_Player_macros : PySem.W.findIn K (.ref c_Player) "macros" = some none)
    (zn_Player_plain_count : PySem.W.findIn K (.ref c_Player) "plain_count" = some none)
    (zn_Player_playing_count : PySem.W.findIn K (.ref c_Player) "playing_count" = some none)
    (zpg_Session : PySem.W.plainGet K c_Session Str.empty = true)
    (zhd_Session : PySem.W.hasDictIn K c_Session = true)
    (zpo_Session : PySem.W.plainOver K c_Session = true)
    (zsa_Session : PySem.W.findIn K (.ref c_Session) "__setattr__" = some (some (.builtin "object.__setattr__")))
    (zmk_Session : PySem.W.makesIn K c_Session = true)
    (zkc_Session : PySem.W.keepIn K (.ref c_Session) = true)
    (zn_Session_editor : PySem.W.findIn K (.ref c_Session) "editor" = some none)
    (zn_Session_macros : PySem.W.findIn K (.ref c_Session) "macros" = some none)
    (zn_Session_recorded_for : PySem.W.findIn K (.ref c_Session) "recorded_for" = some none)
    (zn_Session_recorded : PySem.W.findIn K (.ref c_Session) "recorded" = some none)
    (zn_Session_earlier : PySem.W.findIn K (.ref c_Session) "earlier" = some none)
    (zxi : PySem.W.isClsIn K c_Refused = true)
    (zxb : PySem.W.subIn K (.ref c_Refused) (.type "BaseException") = some true)
    (zxt : PySem.W.typeIn K (.ref c_Refused) = some (.type "type"))
    (zxr : PySem.W.readsIn K c_Refused (.type "type") = true)
    (zxg : PySem.W.specialIn K (.ref c_Refused) "__getattribute__" = some (some (.builtin "type.__getattribute__")))
    (zxf : PySem.W.findCls K (.ref c_Refused) (.type "type") "__init__" = some (.val (.ref Refused_init)))
    (zx_WrongNumbers : ExcO K c_WrongNumbers)
    (zxs_WrongNumbers : PySem.W.findIn K (.ref c_WrongNumbers) "__setattr__" = some (some (.builtin "object.__setattr__")))
    (zxb_WrongNumbers : PySem.W.subIn K (.ref c_WrongNumbers) (.type "BaseException") = some true)
    (zxt_WrongNumbers : PySem.W.typeIn K (.ref c_WrongNumbers) = some (.type "type"))
    (zxk_WrongNumbers : PySem.W.keepIn K (.ref c_WrongNumbers) = true)
    (zxn_WrongNumbers : PySem.W.findIn K (.ref c_WrongNumbers) "number" = some none)
    (zxu_WrongNumbers : PySem.W.subIn K (.ref c_WrongNumbers) (.ref c_Refused) = some true)
    (zxa_WrongNumbers : PySem.W.findIn K (.ref c_WrongNumbers) "__getattribute__" = some (some (.builtin "BaseException.__getattribute__")))
    (zxo_WrongNumbers : PySem.W.findIn K (.ref c_WrongNumbers) "__getattr__" = some none)
    (zxd_WrongNumbers : PySem.W.hasDictIn K c_WrongNumbers = true)
    (zxy_WrongNumbers : PySem.W.typeIn K (.ref WrongNumbers_init) = some (.type "function"))
    (zx_NoSuchRegister : ExcO K c_NoSuchRegister)
    (zxs_NoSuchRegister : PySem.W.findIn K (.ref c_NoSuchRegister) "__setattr__" = some (some (.builtin "object.__setattr__")))
    (zxb_NoSuchRegister : PySem.W.subIn K (.ref c_NoSuchRegister) (.type "BaseException") = some true)
    (zxt_NoSuchRegister : PySem.W.typeIn K (.ref c_NoSuchRegister) = some (.type "type"))
    (zxk_NoSuchRegister : PySem.W.keepIn K (.ref c_NoSuchRegister) = true)
    (zxn_NoSuchRegister : PySem.W.findIn K (.ref c_NoSuchRegister) "number" = some none)
    (zxu_NoSuchRegister : PySem.W.subIn K (.ref c_NoSuchRegister) (.ref c_Refused) = some true)
    (zxa_NoSuchRegister : PySem.W.findIn K (.ref c_NoSuchRegister) "__getattribute__" = some (some (.builtin "BaseException.__getattribute__")))
    (zxo_NoSuchRegister : PySem.W.findIn K (.ref c_NoSuchRegister) "__getattr__" = some none)
    (zxd_NoSuchRegister : PySem.W.hasDictIn K c_NoSuchRegister = true)
    (zxy_NoSuchRegister : PySem.W.typeIn K (.ref NoSuchRegister_init) = some (.type "function"))
    (zx_RecordFull : ExcO K c_RecordFull)
    (zxs_RecordFull : PySem.W.findIn K (.ref c_RecordFull) "__setattr__" = some (some (.builtin "object.__setattr__")))
    (zxb_RecordFull : PySem.W.subIn K (.ref c_RecordFull) (.type "BaseException") = some true)
    (zxt_RecordFull : PySem.W.typeIn K (.ref c_RecordFull) = some (.type "type"))
    (zxk_RecordFull : PySem.W.keepIn K (.ref c_RecordFull) = true)
    (zxn_RecordFull : PySem.W.findIn K (.ref c_RecordFull) "number" = some none)
    (zxu_RecordFull : PySem.W.subIn K (.ref c_RecordFull) (.ref c_Refused) = some true)
    (zxa_RecordFull : PySem.W.findIn K (.ref c_RecordFull) "__getattribute__" = some (some (.builtin "BaseException.__getattribute__")))
    (zxo_RecordFull : PySem.W.findIn K (.ref c_RecordFull) "__getattr__" = some none)
    (zxd_RecordFull : PySem.W.hasDictIn K c_RecordFull = true)
    (zxy_RecordFull : PySem.W.typeIn K (.ref RecordFull_init) = some (.type "function"))
    (zx_OutOfTurn : ExcO K c_OutOfTurn)
    (zxs_OutOfTurn : PySem.W.findIn K (.ref c_OutOfTurn) "__setattr__" = some (some (.builtin "object.__setattr__")))
    (zxb_OutOfTurn : PySem.W.subIn K (.ref c_OutOfTurn) (.type "BaseException") = some true)
    (zxt_OutOfTurn : PySem.W.typeIn K (.ref c_OutOfTurn) = some (.type "type"))
    (zxk_OutOfTurn : PySem.W.keepIn K (.ref c_OutOfTurn) = true)
    (zxn_OutOfTurn : PySem.W.findIn K (.ref c_OutOfTurn) "number" = some none)
    (zxu_OutOfTurn : PySem.W.subIn K (.ref c_OutOfTurn) (.ref c_Refused) = some true)
    (zxa_OutOfTurn : PySem.W.findIn K (.ref c_OutOfTurn) "__getattribute__" = some (some (.builtin "BaseException.__getattribute__")))
    (zxo_OutOfTurn : PySem.W.findIn K (.ref c_OutOfTurn) "__getattr__" = some none)
    (zxd_OutOfTurn : PySem.W.hasDictIn K c_OutOfTurn = true)
    (zxy_OutOfTurn : PySem.W.typeIn K (.ref OutOfTurn_init) = some (.type "function"))
    (zx_TooMuch : ExcO K c_TooMuch)
    (zxs_TooMuch : PySem.W.findIn K (.ref c_TooMuch) "__setattr__" = some (some (.builtin "object.__setattr__")))
    (zxb_TooMuch : PySem.W.subIn K (.ref c_TooMuch) (.type "BaseException") = some true)
    (zxt_TooMuch : PySem.W.typeIn K (.ref c_TooMuch) = some (.type "type"))
    (zxk_TooMuch : PySem.W.keepIn K (.ref c_TooMuch) = true)
    (zxn_TooMuch : PySem.W.findIn K (.ref c_TooMuch) "number" = some none)
    (zxu_TooMuch : PySem.W.subIn K (.ref c_TooMuch) (.ref c_Refused) = some true)
    (zxa_TooMuch : PySem.W.findIn K (.ref c_TooMuch) "__getattribute__" = some (some (.builtin "BaseException.__getattribute__")))
    (zxo_TooMuch : PySem.W.findIn K (.ref c_TooMuch) "__getattr__" = some none)
    (zxd_TooMuch : PySem.W.hasDictIn K c_TooMuch = true)
    (zxy_TooMuch : PySem.W.typeIn K (.ref TooMuch_init) = some (.type "function"))
    (zx_NeverStops : ExcO K c_NeverStops)
    (zxs_NeverStops : PySem.W.findIn K (.ref c_NeverStops) "__setattr__" = some (some (.builtin "object.__setattr__")))
    (zxb_NeverStops : PySem.W.subIn K (.ref c_NeverStops) (.type "BaseException") = some true)
    (zxt_NeverStops : PySem.W.typeIn K (.ref c_NeverStops) = some (.type "type"))
    (zxk_NeverStops : PySem.W.keepIn K (.ref c_NeverStops) = true)
    (zxn_NeverStops : PySem.W.findIn K (.ref c_NeverStops) "number" = some none)
    (zxu_NeverStops : PySem.W.subIn K (.ref c_NeverStops) (.ref c_Refused) = some true)
    (zxa_NeverStops : PySem.W.findIn K (.ref c_NeverStops) "__getattribute__" = some (some (.builtin "BaseException.__getattribute__")))
    (zxo_NeverStops : PySem.W.findIn K (.ref c_NeverStops) "__getattr__" = some none)
    (zxd_NeverStops : PySem.W.hasDictIn K c_NeverStops = true)
    (zxy_NeverStops : PySem.W.typeIn K (.ref NeverStops_init) = some (.type "function"))
    (zq_LENGTHS : PySem.W.nsIn K mainGlobals "LENGTHS" = some (some (.ref q_LENGTHS)))
    (zt_LENGTHS : TupK K q_LENGTHS [2, 1, 1, 1, 2, 2, 1, 1, 1, 2, 2, 1, 1, 2, 3, 2])
    (zq_BARE : PySem.W.nsIn K mainGlobals "BARE" = some (some (.ref q_BARE)))
    (zt_BARE : KFd K q_BARE [(1, go_left), (2, go_right), (3, take_out), (6, go_first), (7, go_last), (8, exchange), (11, hold), (12, put_held)])
    (zq_WITH_BYTE : PySem.W.nsIn K mainGlobals "WITH_BYTE" = some (some (.ref q_WITH_BYTE)))
    (zt_WITH_BYTE : KFd K q_WITH_BYTE [(0, put_in), (4, seek_right), (5, seek_left), (9, expect), (10, expect_other)])
    (zq_CALLS : PySem.W.nsIn K mainGlobals "CALLS" = some (some (.ref q_CALLS)))
    (zt_CALLS : KFd K q_CALLS [(0, answer_text), (1, answer_do), (2, answer_set), (3, answer_get), (4, answer_record), (5, answer_stop), (6, answer_shows), (7, answer_undo), (8, answer_would), (9, answer_period)]) :
    Txt K mg ⟨c_Reader, c_Editor, c_Player, c_Session, c_Refused, c_WrongNumbers, c_NoSuchRegister, c_RecordFull, c_OutOfTurn, c_TooMuch, c_NeverStops, Refused_init, WrongNumbers_init, NoSuchRegister_init, RecordFull_init, OutOfTurn_init, TooMuch_init, NeverStops_init, Reader_init, Reader_at_end, Reader_take, Reader_take_row, read_commands, split_commands, check_command, Editor_init, Editor_state, Editor_restore, Editor_twin, Editor_told, Editor_here, put_in, go_left, go_right, take_out, go_to_any, seek_right, seek_left, go_first, go_last, exchange, expect, expect_other, hold, put_held, do_plain, Player_init, Player_do_row, Player_do_command, Player_do_counted, Player_play, Player_play_next, Player_play_times, Player_play_until, Player_find_period, state_behind, Session_init, Session_start_text, Session_new_player, Session_do, Session_would, Session_put_to_record, Session_fill, Session_look_up, Session_record, Session_stop_recording, Session_shows, Session_undo, Session_period, try_out, check_slot, answer_text, answer_do, answer_set, answer_get, answer_record, answer_stop, answer_shows, answer_undo, answer_would, answer_period, answer_call, answers, q_LENGTHS, q_BARE, q_WITH_BYTE, q_CALLS⟩ where
  b_any := PySem.W.mg_none_of X G zb_any
  b_len := PySem.W.mg_none_of X G zb_len
  b_list := PySem.W.mg_none_of X G zb_list
  b_range := PySem.W.mg_none_of X G zb_range
  b_tuple := PySem.W.mg_none_of X G zb_tuple
  k_FIRST_THAT_PLAYS := ⟨_, PySem.W.mg_of X G zk_FIRST_THAT_PLAYS⟩
  k_LAST_BYTE := ⟨_, PySem.W.mg_of X G zk_LAST_BYTE⟩
  k_LAST_SLOT := ⟨_, PySem.W.mg_of X G zk_LAST_SLOT⟩
  k_MOST_COMMANDS := ⟨_, PySem.W.mg_of X G zk_MOST_COMMANDS⟩
  k_MOST_BYTES := ⟨_, PySem.W.mg_of X G zk_MOST_BYTES⟩
  k_PLAY_ONCE := ⟨_, PySem.W.mg_of X G zk_PLAY_ONCE⟩
  k_PLAY_TIMES := ⟨_, PySem.W.mg_of X G zk_PLAY_TIMES⟩
  k_MOST_DEEP := ⟨_, PySem.W.mg_of X G zk_MOST_DEEP⟩
  k_MOST_IN_A_ROW := ⟨_, PySem.W.mg_of X G zk_MOST_IN_A_ROW⟩
  k_MOST_PLAIN := ⟨_, PySem.W.mg_of X G zk_MOST_PLAIN⟩
  k_MOST_PLAYINGS := ⟨_, PySem.W.mg_of X G zk_MOST_PLAYINGS⟩
  g_c_Reader := PySem.W.mg_of X G zc_Reader
  g_c_Editor := PySem.W.mg_of X G zc_Editor
  g_c_Player := PySem.W.mg_of X G zc_Player
  g_c_Session := PySem.W.mg_of X G zc_Session
  g_c_Refused := PySem.W.mg_of X G zc_Refused
  g_c_WrongNumbers := PySem.W.mg_of X G zc_WrongNumbers
  g_c_NoSuchRegister := PySem.W.mg_of X G zc_NoSuchRegister
  g_c_RecordFull := PySem.W.mg_of X G zc_RecordFull
  g_c_OutOfTurn := PySem.W.mg_of X G zc_OutOfTurn
  g_c_TooMuch := PySem.W.mg_of X G zc_TooMuch
  g_c_NeverStops := PySem.W.mg_of X G zc_NeverStops
  d_Refused_init := zd_Refused_init
  d_WrongNumbers_init := zd_WrongNumbers_init
  d_NoSuchRegister_init := zd_NoSuchRegister_init
  d_RecordFull_init := zd_RecordFull_init
  d_OutOfTurn_init := zd_OutOfTurn_init
  d_TooMuch_init := zd_TooMuch_init
  d_NeverStops_init := zd_NeverStops_init
  d_Reader_init := zd_Reader_init
  d_Reader_at_end := zd_Reader_at_end
  m_Reader_at_end := ⟨za_Reader_at_end, zi_Reader_at_end, (zd_Reader_at_end).kp⟩
  d_Reader_take := zd_Reader_take
  m_Reader_take := ⟨za_Reader_take, zi_Reader_take, (zd_Reader_take).kp⟩
  d_Reader_take_row := zd_Reader_take_row
  m_Reader_take_row := ⟨za_Reader_take_row, zi_Reader_take_row, (zd_Reader_take_row).kp⟩
  g_read_commands := PySem.W.mg_of X G za_read_commands
  d_read_commands := zd_read_commands
  g_split_commands := PySem.W.mg_of X G za_split_commands
  d_split_commands := zd_split_commands
  g_check_command := PySem.W.mg_of X G za_check_command
  d_check_command := zd_check_command
  d_Editor_init := zd_Editor_init
  d_Editor_state := zd_Editor_state
  m_Editor_state := ⟨za_Editor_state, zi_Editor_state, (zd_Editor_state).kp⟩
  d_Editor_restore := zd_Editor_restore
  m_Editor_restore := ⟨za_Editor_restore, zi_Editor_restore, (zd_Editor_restore).kp⟩
  d_Editor_twin := zd_Editor_twin
  m_Editor_twin := ⟨za_Editor_twin, zi_Editor_twin, (zd_Editor_twin).kp⟩
  d_Editor_told := zd_Editor_told
  m_Editor_told := ⟨za_Editor_told, zi_Editor_told, (zd_Editor_told).kp⟩
  d_Editor_here := zd_Editor_here
  m_Editor_here := ⟨za_Editor_here, zi_Editor_here, (zd_Editor_here).kp⟩
  g_put_in := PySem.W.mg_of X G za_put_in
  d_put_in := zd_put_in
  g_go_left := PySem.W.mg_of X G za_go_left
  d_go_left := zd_go_left
  g_go_right := PySem.W.mg_of X G za_go_right
  d_go_right := zd_go_right
  g_take_out := PySem.W.mg_of X G za_take_out
  d_take_out := zd_take_out
  g_go_to_any := PySem.W.mg_of X G za_go_to_any
  d_go_to_any := zd_go_to_any
  g_seek_right := PySem.W.mg_of X G za_seek_right
  d_seek_right := zd_seek_right
  g_seek_left := PySem.W.mg_of X G za_seek_left
  d_seek_left := zd_seek_left
  g_go_first := PySem.W.mg_of X G za_go_first
  d_go_first := zd_go_first
  g_go_last := PySem.W.mg_of X G za_go_last
  d_go_last := zd_go_last
  g_exchange := PySem.W.mg_of X G za_exchange
  d_exchange := zd_exchange
  g_expect := PySem.W.mg_of X G za_expect
  d_expect := zd_expect
  g_expect_other := PySem.W.mg_of X G za_expect_other
  d_expect_other := zd_expect_other
  g_hold := PySem.W.mg_of X G za_hold
  d_hold := zd_hold
  g_put_held := PySem.W.mg_of X G za_put_held
  d_put_held := zd_put_held
  g_do_plain := PySem.W.mg_of X G za_do_plain
  d_do_plain := zd_do_plain
  d_Player_init := zd_Player_init
  d_Player_do_row := zd_Player_do_row
  m_Player_do_row := ⟨za_Player_do_row, zi_Player_do_row, (zd_Player_do_row).kp⟩
  d_Player_do_command := zd_Player_do_command
  m_Player_do_command := ⟨za_Player_do_command, zi_Player_do_command, (zd_Player_do_command).kp⟩
  d_Player_do_counted := zd_Player_do_counted
  m_Player_do_counted := ⟨za_Player_do_counted, zi_Player_do_counted, (zd_Player_do_counted).kp⟩
  d_Player_play := zd_Player_play
  m_Player_play := ⟨za_Player_play, zi_Player_play, (zd_Player_play).kp⟩
  d_Player_play_next := zd_Player_play_next
  m_Player_play_next := ⟨za_Player_play_next, zi_Player_play_next, (zd_Player_play_next).kp⟩
  d_Player_play_times := zd_Player_play_times
  m_Player_play_times := ⟨za_Player_play_times, zi_Player_play_times, (zd_Player_play_times).kp⟩
  d_Player_play_until := zd_Player_play_until
  m_Player_play_until := ⟨za_Player_play_until, zi_Player_play_until, (zd_Player_play_until).kp⟩
  d_Player_find_period := zd_Player_find_period
  m_Player_find_period := ⟨za_Player_find_period, zi_Player_find_period, (zd_Player_find_period).kp⟩
  g_state_behind := PySem.W.mg_of X G za_state_behind
  d_state_behind := zd_state_behind
  d_Session_init := zd_Session_init
  d_Session_start_text := zd_Session_start_text
  m_Session_start_text := ⟨za_Session_start_text, zi_Session_start_text, (zd_Session_start_text).kp⟩
  d_Session_new_player := zd_Session_new_player
  m_Session_new_player := ⟨za_Session_new_player, zi_Session_new_player, (zd_Session_new_player).kp⟩
  d_Session_do := zd_Session_do
  m_Session_do := ⟨za_Session_do, zi_Session_do, (zd_Session_do).kp⟩
  d_Session_would := zd_Session_would
  m_Session_would := ⟨za_Session_would, zi_Session_would, (zd_Session_would).kp⟩
  d_Session_put_to_record := zd_Session_put_to_record
  m_Session_put_to_record := ⟨za_Session_put_to_record, zi_Session_put_to_record, (zd_Session_put_to_record).kp⟩
  d_Session_fill := zd_Session_fill
  m_Session_fill := ⟨za_Session_fill, zi_Session_fill, (zd_Session_fill).kp⟩
  d_Session_look_up := zd_Session_look_up
  m_Session_look_up := ⟨za_Session_look_up, zi_Session_look_up, (zd_Session_look_up).kp⟩
  d_Session_record := zd_Session_record
  m_Session_record := ⟨za_Session_record, zi_Session_record, (zd_Session_record).kp⟩
  d_Session_stop_recording := zd_Session_stop_recording
  m_Session_stop_recording := ⟨za_Session_stop_recording, zi_Session_stop_recording, (zd_Session_stop_recording).kp⟩
  d_Session_shows := zd_Session_shows
  m_Session_shows := ⟨za_Session_shows, zi_Session_shows, (zd_Session_shows).kp⟩
  d_Session_undo := zd_Session_undo
  m_Session_undo := ⟨za_Session_undo, zi_Session_undo, (zd_Session_undo).kp⟩
  d_Session_period := zd_Session_period
  m_Session_period := ⟨za_Session_period, zi_Session_period, (zd_Session_period).kp⟩
  g_try_out := PySem.W.mg_of X G za_try_out
  d_try_out := zd_try_out
  g_check_slot := PySem.W.mg_of X G za_check_slot
  d_check_slot := zd_check_slot
  g_answer_text := PySem.W.mg_of X G za_answer_text
  d_answer_text := zd_answer_text
  g_answer_do := PySem.W.mg_of X G za_answer_do
  d_answer_do := zd_answer_do
  g_answer_set := PySem.W.mg_of X G za_answer_set
  d_answer_set := zd_answer_set
  g_answer_get := PySem.W.mg_of X G za_answer_get
  d_answer_get := zd_answer_get
  g_answer_record := PySem.W.mg_of X G za_answer_record
  d_answer_record := zd_answer_record
  g_answer_stop := PySem.W.mg_of X G za_answer_stop
  d_answer_stop := zd_answer_stop
  g_answer_shows := PySem.W.mg_of X G za_answer_shows
  d_answer_shows := zd_answer_shows
  g_answer_undo := PySem.W.mg_of X G za_answer_undo
  d_answer_undo := zd_answer_undo
  g_answer_would := PySem.W.mg_of X G za_answer_would
  d_answer_would := zd_answer_would
  g_answer_period := PySem.W.mg_of X G za_answer_period
  d_answer_period := zd_answer_period
  g_answer_call := PySem.W.mg_of X G za_answer_call
  d_answer_call := zd_answer_call
  g_answers := PySem.W.mg_of X G za_answers
  d_answers := zd_answers
  cl_Reader := ⟨zpg_Reader, zhd_Reader, zpo_Reader, zsa_Reader⟩
  mk_Reader := ⟨zmk_Reader, za_Reader_init, zi_Reader_init, zkc_Reader⟩
  n_Reader_numbers := zn_Reader_numbers
  n_Reader_position := zn_Reader_position
  cl_Editor := ⟨zpg_Editor, zhd_Editor, zpo_Editor, zsa_Editor⟩
  mk_Editor := ⟨zmk_Editor, za_Editor_init, zi_Editor_init, zkc_Editor⟩
  n_Editor_text := zn_Editor_text
  n_Editor_place := zn_Editor_place
  n_Editor_held := zn_Editor_held
  cl_Player := ⟨zpg_Player, zhd_Player, zpo_Player, zsa_Player⟩
  mk_Player := ⟨zmk_Player, za_Player_init, zi_Player_init, zkc_Player⟩
  n_Player_editor := zn_Player_editor
  n_Player_macros := zn_Player_macros
  n_Player_plain_count := zn_Player_plain_count
  n_Player_playing_count := zn_Player_playing_count
  cl_Session := ⟨zpg_Session, zhd_Session, zpo_Session, zsa_Session⟩
  mk_Session := ⟨zmk_Session, za_Session_init, zi_Session_init, zkc_Session⟩
  n_Session_editor := zn_Session_editor
  n_Session_macros := zn_Session_macros
  n_Session_recorded_for := zn_Session_recorded_for
  n_Session_recorded := zn_Session_recorded
  n_Session_earlier := zn_Session_earlier
  x_root := ⟨zxr, zxg, zxf⟩
  x_WrongNumbers := ⟨⟨⟨zx_WrongNumbers, zxs_WrongNumbers, zxb_WrongNumbers, zxt_WrongNumbers, zxk_WrongNumbers, zxn_WrongNumbers⟩, exm2 zxb zxi zxt zxu_WrongNumbers, ⟨zxa_WrongNumbers, zxo_WrongNumbers, zxb_WrongNumbers, zxd_WrongNumbers⟩⟩, za_WrongNumbers_init, zxy_WrongNumbers⟩
  x_NoSuchRegister := ⟨⟨⟨zx_NoSuchRegister, zxs_NoSuchRegister, zxb_NoSuchRegister, zxt_NoSuchRegister, zxk_NoSuchRegister, zxn_NoSuchRegister⟩, exm2 zxb zxi zxt zxu_NoSuchRegister, ⟨zxa_NoSuchRegister, zxo_NoSuchRegister, zxb_NoSuchRegister, zxd_NoSuchRegister⟩⟩, za_NoSuchRegister_init, zxy_NoSuchRegister⟩
  x_RecordFull := ⟨⟨⟨zx_RecordFull, zxs_RecordFull, zxb_RecordFull, zxt_RecordFull, zxk_RecordFull, zxn_RecordFull⟩, exm2 zxb zxi zxt zxu_RecordFull, ⟨zxa_RecordFull, zxo_RecordFull, zxb_RecordFull, zxd_RecordFull⟩⟩, za_RecordFull_init, zxy_RecordFull⟩
  x_OutOfTurn := ⟨⟨⟨zx_OutOfTurn, zxs_OutOfTurn, zxb_OutOfTurn, zxt_OutOfTurn, zxk_OutOfTurn, zxn_OutOfTurn⟩, exm2 zxb zxi zxt zxu_OutOfTurn, ⟨zxa_OutOfTurn, zxo_OutOfTurn, zxb_OutOfTurn, zxd_OutOfTurn⟩⟩, za_OutOfTurn_init, zxy_OutOfTurn⟩
  x_TooMuch := ⟨⟨⟨zx_TooMuch, zxs_TooMuch, zxb_TooMuch, zxt_TooMuch, zxk_TooMuch, zxn_TooMuch⟩, exm2 zxb zxi zxt zxu_TooMuch, ⟨zxa_TooMuch, zxo_TooMuch, zxb_TooMuch, zxd_TooMuch⟩⟩, za_TooMuch_init, zxy_TooMuch⟩
  x_NeverStops := ⟨⟨⟨zx_NeverStops, zxs_NeverStops, zxb_NeverStops, zxt_NeverStops, zxk_NeverStops, zxn_NeverStops⟩, exm2 zxb zxi zxt zxu_NeverStops, ⟨zxa_NeverStops, zxo_NeverStops, zxb_NeverStops, zxd_NeverStops⟩⟩, za_NeverStops_init, zxy_NeverStops⟩
  t_LENGTHS := ⟨PySem.W.mg_of X G zq_LENGTHS, fun H => (zt_LENGTHS).sq H⟩
  t_BARE := ⟨PySem.W.mg_of X G zq_BARE, zt_BARE⟩
  t_WITH_BYTE := ⟨PySem.W.mg_of X G zq_WITH_BYTE, zt_WITH_BYTE⟩
  t_CALLS := ⟨PySem.W.mg_of X G zq_CALLS, zt_CALLS⟩
end Mp
/-! All defs below the session keep their promises. -/
namespace Mp
open PySem PySem.Spec PyProof.Rows L2
structure Low (P : Program) (w : World) (K : PySem.W.Frag) (mg : Str → Option Value) (base : Heap) (A : Adr) : Prop where
  ed : EdC K A.c_Editor
  rd : RdC K A.c_Reader
  py : PyC K A.c_Player
  r1 : RzT P w K mg base A.c_Refused "WrongNumbers" (-1)
  r2 : RzT P w K mg base A.c_Refused "NoSuchRegister" (-2)
  r5 : RzT P w K mg base A.c_Refused "RecordFull" (-5)
  r7 : RzT P w K mg base A.c_Refused "OutOfTurn" (-7)
  r8 : RzT P w K mg base A.c_Refused "TooMuch" (-8)
  r9 : RzT P w K mg base A.c_Refused "NeverStops" (-9)
  rdInit : Cb P w K mg base CX0 1 A.Reader_init ["self", "numbers"] (spRdInit A.c_Reader)
  atEnd : Cb P w K mg base CX0 1 A.Reader_at_end ["self"] (spAtEnd K A.c_Reader)
  take : Cb P w K mg base CX0 1 A.Reader_take ["self"] (spTake K A.c_Reader)
  takeRow : Cb P w K mg base CX0 2 A.Reader_take_row ["self"] (spTakeRow K A.c_Reader)
  readC : Cb P w K mg base (L2.CX P w) 5 A.read_commands ["numbers"] (spReadC K A.c_Refused)
  edInit : Cb P w K mg base CX0 1 A.Editor_init ["self", "text", "place", "held"] (spEdInit A.c_Editor)
  state : Cb P w K mg base CX0 1 A.Editor_state ["self"] (spState A.c_Editor)
  restore : Cb P w K mg base CX0 1 A.Editor_restore ["self", "state"] (spRestore A.c_Editor)
  twin : Cb P w K mg base CX0 3 A.Editor_twin ["self"] (spTwin A.c_Editor)
  told : Cb P w K mg base CX0 1 A.Editor_told ["self"] (spTold A.c_Editor)
  pyInit : Cb P w K mg base CX0 1 A.Player_init ["self", "editor", "macros"] (spPyInit A.c_Player)
  rows : ∀ d, d ≤ 6 → Cb P w K mg base (L2.CX P w) (5 * d + 8) A.Player_do_row ["self", "commands", "depth"] (spRow A.c_Player A.c_Editor K A.c_Refused d) ∧ Cb P w K mg base (L2.CX P w) (5 * d + 4) A.Player_play ["self", "slot", "depth"] (spPlay A.c_Player A.c_Editor K A.c_Refused d) ∧
      Cb P w K mg base (L2.CX P w) (5 * d + 5) A.Player_play_next ["self", "slot", "depth", "seen"] (spNext P w A.c_Player A.c_Editor K A.c_Refused d)
theorem Txt.low {P : Program} {w : World} {K : PySem.W.Frag} {mg : Str → Option Value} {base : Heap} {A : Adr} (T : Txt K mg A) : Low P w K mg base A := by
  obtain ⟨_, k1⟩ := T.k_FIRST_THAT_PLAYS
  obtain ⟨_, k2⟩ := T.k_LAST_BYTE
  obtain ⟨_, k3⟩ := T.k_LAST_SLOT
  obtain ⟨_, k4⟩ := T.k_MOST_COMMANDS
  obtain ⟨_, k5⟩ := T.k_MOST_BYTES
  obtain ⟨_, k6⟩ := T.k_PLAY_ONCE
  obtain ⟨_, k7⟩ := T.k_PLAY_TIMES
  obtain ⟨_, k8⟩ := T.k_MOST_DEEP
  obtain ⟨_, k9⟩ := T.k_MOST_IN_A_ROW
  obtain ⟨_, k10⟩ := T.k_MOST_PLAIN
  obtain ⟨_, k11⟩ := T.k_MOST_PLAYINGS
  have ed : EdC K A.c_Editor := ⟨T.cl_Editor, T.n_Editor_text, T.n_Editor_place, T.n_Editor_held⟩
  have rd : RdC K A.c_Reader := ⟨T.cl_Reader, T.n_Reader_numbers, T.n_Reader_position⟩
  have py : PyC K A.c_Player := ⟨T.cl_Player, T.n_Player_editor, T.n_Player_macros, T.n_Player_plain_count, T.n_Player_playing_count⟩
  have rt : RefT P w K mg base A.c_Refused := ⟨_, _, T.g_c_Refused, T.x_root.1, T.x_root.2.1, T.x_root.2.2, ok_refused_init T.d_Refused_init⟩
  have r1 : RzT P w K mg base A.c_Refused "WrongNumbers" (-1) := ⟨_, _, T.x_WrongNumbers.1, T.g_c_WrongNumbers, T.x_WrongNumbers.2.1, T.x_WrongNumbers.2.2, ok_WrongNumbers_init T.d_WrongNumbers_init rt⟩
  have r2 : RzT P w K mg base A.c_Refused "NoSuchRegister" (-2) := ⟨_, _, T.x_NoSuchRegister.1, T.g_c_NoSuchRegister, T.x_NoSuchRegister.2.1, T.x_NoSuchRegister.2.2, ok_NoSuchRegister_init T.d_NoSuchRegister_init rt⟩
  have r5 : RzT P w K mg base A.c_Refused "RecordFull" (-5) := ⟨_, _, T.x_RecordFull.1, T.g_c_RecordFull, T.x_RecordFull.2.1, T.x_RecordFull.2.2, ok_RecordFull_init T.d_RecordFull_init rt⟩
  have r7 : RzT P w K mg base A.c_Refused "OutOfTurn" (-7) := ⟨_, _, T.x_OutOfTurn.1, T.g_c_OutOfTurn, T.x_OutOfTurn.2.1, T.x_OutOfTurn.2.2, ok_OutOfTurn_init T.d_OutOfTurn_init rt⟩
  have r8 : RzT P w K mg base A.c_Refused "TooMuch" (-8) := ⟨_, _, T.x_TooMuch.1, T.g_c_TooMuch, T.x_TooMuch.2.1, T.x_TooMuch.2.2, ok_TooMuch_init T.d_TooMuch_init rt⟩
  have r9 : RzT P w K mg base A.c_Refused "NeverStops" (-9) := ⟨_, _, T.x_NeverStops.1, T.g_c_NeverStops, T.x_NeverStops.2.1, T.x_NeverStops.2.2, ok_NeverStops_init T.d_NeverStops_init rt⟩
  have take := ok_take (P := P) (w := w) (mg := mg) (base := base) T.d_Reader_take rd
  have takeRow := ok_take_row T.d_Reader_take_row rd take T.m_Reader_take
  have split := ok_split (P := P) (w := w) (base := base) T.d_split_commands T.b_len T.b_tuple T.t_LENGTHS.1 T.t_LENGTHS.2
  have check := ok_check T.d_check_command T.b_len k1 k3 k2 r1
  have readC := ok_readC T.d_read_commands T.b_len k4 split T.g_split_commands check T.g_check_command r1
  have here := ok_here (P := P) (w := w) (base := base) T.d_Editor_here ed T.b_len
  have putIn := ok_put_in (P := P) (w := w) (base := base) T.d_put_in ed T.b_len k5
  have any := ok_go_to_any (P := P) (w := w) (mg := mg) (base := base) T.d_go_to_any ed
  have edInit := ok_ed_init (P := P) (w := w) (mg := mg) (base := base) T.d_Editor_init ed
  have state := ok_state (P := P) (w := w) (mg := mg) (base := base) T.d_Editor_state ed
  have restore := ok_restore (P := P) (w := w) (mg := mg) (base := base) T.d_Editor_restore ed
  have twin := ok_twin T.d_Editor_twin ed edInit T.mk_Editor T.g_c_Editor
  have told := ok_told (P := P) (w := w) (base := base) T.d_Editor_told ed T.b_len
  have pl : PlOk P w K mg base A.c_Editor ⟨A.go_left, A.go_right, A.take_out, A.go_first, A.go_last, A.exchange, A.hold, A.put_held, A.put_in, A.seek_right, A.seek_left, A.expect, A.expect_other⟩ :=
    { goLeft := ok_go_left T.d_go_left ed
      goRight := ok_go_right T.d_go_right ed here T.m_Editor_here
      takeOut := ok_take_out T.d_take_out ed here T.m_Editor_here
      goFirst := ok_go_first T.d_go_first ed
      goLast := ok_go_last T.d_go_last ed T.b_len
      exch := ok_exchange T.d_exchange ed T.b_len
      hold := ok_hold T.d_hold ed here T.m_Editor_here
      putHeld := ok_put_held T.d_put_held ed putIn T.g_put_in
      putIn := putIn
      seekR := ok_seek_right T.d_seek_right ed any T.g_go_to_any T.b_len T.b_list T.b_range
      seekL := ok_seek_left T.d_seek_left ed any T.g_go_to_any T.b_list T.b_range
      expect := ok_expect T.d_expect ed here T.m_Editor_here
      expectO := ok_expect_other T.d_expect_other ed here T.m_Editor_here }
  have doPlain := ok_do_plain T.d_do_plain pl T.t_BARE.2 T.t_BARE.1 T.t_WITH_BYTE.2 T.t_WITH_BYTE.1 T.b_len
  have pyInit := ok_py_init (P := P) (w := w) (mg := mg) (base := base) T.d_Player_init py
  have behind := ok_behind (P := P) (w := w) (base := base) T.d_state_behind T.b_len T.b_list
  have pd : PyD K A.c_Player ⟨A.Player_do_row, A.Player_do_command, A.Player_do_counted, A.Player_play, A.Player_play_next, A.Player_play_times, A.Player_play_until⟩ :=
    ⟨T.d_Player_do_row, T.d_Player_do_command, T.d_Player_do_counted, T.d_Player_play, T.d_Player_play_next, T.d_Player_play_times, T.d_Player_play_until, T.m_Player_do_row, T.m_Player_do_command, T.m_Player_do_counted, T.m_Player_play, T.m_Player_play_next, T.m_Player_play_times, T.m_Player_play_until⟩
  have rows := rows_ok pd py ed T.b_len k8 k11 k9 k6 k7 k10 r8 r9 state T.m_Editor_state restore T.m_Editor_restore behind T.g_state_behind doPlain T.g_do_plain
  exact ⟨ed, rd, py, r1, r2, r5, r7, r8, r9, ok_rd_init T.d_Reader_init rd, ok_at_end T.d_Reader_at_end rd T.b_len, take, takeRow, readC, edInit, state, restore, twin, told, pyInit, rows⟩
end Mp
/-! From the text to the def that is asked. -/
namespace Mp
open PySem PySem.Spec PyProof.Rows L2
theorem Cb.heldX {P : Program} {w : World} {K : PySem.W.Frag} {mg : Str → Option Value} {base : Heap} {k j : Nat} {f : Addr} {ps : List Str} {sp : Sp} (c : Cb P w K mg base (L2.CX P w) k f ps sp) (h : k ≤ j) : HeldX P w K mg base j f sp := by
  obtain ⟨fd, F, b, kp⟩ := c.ex
  exact ⟨fd, ps, F.mono h, kp, b⟩
section
variable {P : Program} {w : World} {K : PySem.W.Frag} {mg : Str → Option Value} {base : Heap} {A : Adr}
theorem Txt.ans (T : Txt K mg A) {fd : FuncData} (F : Fun K "answers" "answers" s_answers A.answers fd) :
    FnOk P w K mg base CX0 60 A.answers fd ["calls"] (spAns K) := by
  have L : Low P w K mg base A := T.low
  obtain ⟨_, k2⟩ := T.k_LAST_BYTE
  obtain ⟨_, k3⟩ := T.k_LAST_SLOT
  obtain ⟨_, k4⟩ := T.k_MOST_COMMANDS
  obtain ⟨_, k5⟩ := T.k_MOST_BYTES
  have Z : SeC K A.c_Session := ⟨T.cl_Session, T.n_Session_editor, T.n_Session_macros, T.n_Session_recorded_for, T.n_Session_recorded, T.n_Session_earlier⟩
  have slot := ok_slot T.d_check_slot k3 L.r2
  have mget := ok_get (CE := A.c_Editor) T.d_Session_look_up Z T.b_len slot T.g_check_slot
  have mset := ok_fill (CE := A.c_Editor) T.d_Session_fill Z T.b_len slot T.g_check_slot L.readC T.g_read_commands
  have mrec := ok_record (CE := A.c_Editor) T.d_Session_record Z T.b_len slot T.g_check_slot L.r7
  have mtext := ok_text T.d_Session_start_text Z T.b_len T.b_any T.b_tuple k5 k2 L.r1 L.edInit T.mk_Editor T.g_c_Editor
  have mput := ok_put (CE := A.c_Editor) T.d_Session_put_to_record Z T.b_len k4 L.r5
  have mnew := ok_new_player T.d_Session_new_player Z L.ed L.twin T.m_Editor_twin L.pyInit T.mk_Player T.g_c_Player
  have mtry := ok_try T.d_try_out L.py L.ed (L.rows 6 (Nat.le_refl _)).1 T.m_Player_do_row L.told T.m_Editor_told
  have mdo := ok_do T.d_Session_do Z L.py L.readC T.g_read_commands mnew T.m_Session_new_player mtry T.g_try_out mput T.m_Session_put_to_record
  have mwould := ok_would T.d_Session_would Z L.readC T.g_read_commands mnew T.m_Session_new_player mtry T.g_try_out
  have mstop := ok_stop (CE := A.c_Editor) T.d_Session_stop_recording Z T.b_len L.r7
  have mshows := ok_shows (cR := A.c_Refused) T.d_Session_shows Z L.ed T.b_list L.told T.m_Editor_told
  have mundo := ok_undo T.d_Session_undo Z L.ed T.b_len L.r7 L.told T.m_Editor_told
  have mfind := ok_period T.d_Player_find_period L.py L.ed T.b_len (L.rows 6 (Nat.le_refl _)).2.2 T.m_Player_play_next L.state T.m_Editor_state
  have mper := ok_ses_period T.d_Session_period Z L.py slot T.g_check_slot mnew T.m_Session_new_player mfind T.m_Player_find_period
  have S := sesA_ok (CS := A.c_Session) (CE := A.c_Editor)
  have x0 := ok_answer_text T.d_answer_text L.rd L.take T.m_Reader_take L.takeRow T.m_Reader_take_row S T.cl_Session mtext T.m_Session_start_text (by decide +kernel) (by decide)
  have x1 := ok_answer_do T.d_answer_do L.rd L.takeRow T.m_Reader_take_row S T.cl_Session mdo T.m_Session_do (by decide +kernel) (by decide)
  have x2 := ok_answer_set T.d_answer_set L.rd L.take T.m_Reader_take L.takeRow T.m_Reader_take_row S T.cl_Session mset T.m_Session_fill (by decide +kernel) (by decide)
  have x3 := ok_answer_get T.d_answer_get L.rd L.take T.m_Reader_take S T.cl_Session mget T.m_Session_look_up (by decide +kernel) (by decide)
  have x4 := ok_answer_record T.d_answer_record L.rd L.take T.m_Reader_take S T.cl_Session mrec T.m_Session_record (by decide +kernel) (by decide)
  have x5 := ok_answer_stop (CR := A.c_Reader) T.d_answer_stop S T.cl_Session mstop T.m_Session_stop_recording (by decide +kernel)
  have x6 := ok_answer_shows (CR := A.c_Reader) T.d_answer_shows S T.cl_Session mshows T.m_Session_shows (by decide +kernel)
  have x7 := ok_answer_undo (CR := A.c_Reader) T.d_answer_undo S T.cl_Session mundo T.m_Session_undo (by decide +kernel)
  have x8 := ok_answer_would T.d_answer_would L.rd L.takeRow T.m_Reader_take_row S T.cl_Session mwould T.m_Session_would (by decide +kernel) (by decide)
  have x9 := ok_answer_period T.d_answer_period L.rd L.take T.m_Reader_take S T.cl_Session mper T.m_Session_period (by decide +kernel) (by decide)
  have call := ok_call (k := 45) T.d_answer_call L.rd L.take T.m_Reader_take T.g_c_Refused T.t_CALLS.1 T.t_CALLS.2 (fun n hn => ?_) (by decide) S
  · have init := ok_se_init T.d_Session_init Z L.ed L.edInit T.mk_Editor T.g_c_Editor k3 T.b_range
    have a := ok_answers (k := 57) F L.rd L.rdInit T.mk_Reader T.g_c_Reader L.atEnd T.m_Reader_at_end (init.mono (by decide)) T.mk_Session T.g_c_Session (call.mono (by decide)) T.g_answer_call T.b_len S
    exact a
  · match n, hn with
    | 0, _ => exact ⟨_, rfl, x0.heldX (by decide)⟩
    | 1, _ => exact ⟨_, rfl, x1.heldX (by decide)⟩
    | 2, _ => exact ⟨_, rfl, x2.heldX (by decide)⟩
    | 3, _ => exact ⟨_, rfl, x3.heldX (by decide)⟩
    | 4, _ => exact ⟨_, rfl, x4.heldX (by decide)⟩
    | 5, _ => exact ⟨_, rfl, x5.heldX (by decide)⟩
    | 6, _ => exact ⟨_, rfl, x6.heldX (by decide)⟩
    | 7, _ => exact ⟨_, rfl, x7.heldX (by decide)⟩
    | 8, _ => exact ⟨_, rfl, x8.heldX (by decide)⟩
    | 9, _ => exact ⟨_, rfl, x9.heldX (by decide)⟩
    | n + 10, h => exact absurd h (by omega)
end
theorem short_len {n : Nat} {l : List Int} (h : PyFlat.short n l = true) : l.length ≤ n := by
  unfold PyFlat.short at h
  exact of_decide_eq_true h
theorem asked_len {ns : List Int} (h : PyUe10.answers_asked ns = true) : (PyUe10.answers ns).length ≤ 10000000 := by
  unfold PyUe10.answers_asked at h
  cases q : PyFlat.calls PyUe10.shape ns.length ns with
  | none =>
    rw [q] at h
    cases h
  | some raw =>
    rw [q] at h
    dsimp only at h
    exact short_len (Bool.and_eq_true_iff.mp h).2
theorem all_mk {P : Program} {w : World} {K : PySem.W.Frag} {mg : Str → Option Value} {fa : Addr} {A : Adr} (T : Txt K mg A) (hfa : mg "answers" = some (.ref fa)) :
    ∃ fd : FuncData, (∀ (s : Shared) (us : List Value), us.length = (["calls"] : List Str).length → BindsTo s fd ⟨us, []⟩ ((["calls"] : List Str).zip us)) ∧ ∀ base : Heap, K.In base → base.Ns mainGlobals mg → FnOk P w K mg base CX0 60 fa fd ["calls"] (spAns K) := by
  obtain ⟨fd, F, b⟩ := T.d_answers.ex
  have e := hfa.symm.trans T.g_answers
  cases e
  exact ⟨fd, b, fun base _ _ => T.ans F⟩
theorem sp_ans {K : PySem.W.Frag} {H : Hp} {l : Addr} {ns : List Int} {Q : VK} {E : XK} (hl : SqL K H l (ns.map V.int)) (h : PyUe10.answers_asked ns = true) (k : ∀ H' p, H' p = some (.lst ((PyUe10.answers ns).map V.int)) → Q (.ref p) H') : spAns K [.ref l] H Q E := by
  obtain ⟨xs, _, _, ht, he⟩ := asked_turns h
  have hz := asked_len h
  rw [he] at hz
  refine ⟨l, ns, xs, rfl, hl, ht, hz, fun H' p hp => k H' p ?_⟩
  rw [he]
  exact hp
end Mp
open PySem PySem.W PyProof.Rows
theorem PySem.Challenge.cw_macroplays_s01_answers_holds : PySem.Challenge.rw_macroplays_s01_answers.Holds := by
  w_on; k_headS; (case hw => exact ⟨[.list [.int 6]], by decide +kernel, by decide +kernel⟩)
  k_fillS
  refine L2.walk_specK (r := PySem.Challenge.rw_macroplays_s01_answers) (k := 60) (CX := L2.CX0) (ps := ["calls"]) (sp := Mp.spAns) (by decide +kernel) rfl rfl ⟨rfl, by decide, by decide⟩ (fun w h Y => PySem.W.kIn_of Y) ?F ?S (fun _ _ _ _ z => z)
  case F =>
    intro w mg fa h Y KX G hmg
    refine' Mp.all_mk (Mp.txt_mk KX G ?zb_any ?zb_len ?zb_list ?zb_range ?zb_tuple ?zk_FIRST_THAT_PLAYS ?zk_LAST_BYTE ?zk_LAST_SLOT ?zk_MOST_COMMANDS ?zk_MOST_BYTES ?zk_PLAY_ONCE ?zk_PLAY_TIMES ?zk_MOST_DEEP ?zk_MOST_IN_A_ROW ?zk_MOST_PLAIN ?zk_MOST_PLAYINGS ?zc_Reader ?zc_Editor ?zc_Player ?zc_Session ?zc_Refused ?zc_WrongNumbers ?zc_NoSuchRegister ?zc_RecordFull ?zc_OutOfTurn ?zc_TooMuch ?zc_NeverStops ?za_Refused_init ?zd_Refused_init ?za_WrongNumbers_init ?zd_WrongNumbers_init ?za_NoSuchRegister_init ?zd_NoSuchRegister_init ?za_RecordFull_init ?zd_RecordFull_init ?za_OutOfTurn_init ?zd_OutOfTurn_init ?za_TooMuch_init ?zd_TooMuch_init ?za_NeverStops_init ?zd_NeverStops_init ?za_Reader_init ?zi_Reader_init ?zd_Reader_init ?za_Reader_at_end ?zi_Reader_at_end ?zd_Reader_at_end ?za_Reader_take ?zi_Reader_take ?zd_Reader_take ?za_Reader_take_row ?zi_Reader_take_row ?zd_Reader_take_row ?za_read_commands ?zd_read_commands ?za_split_commands ?zd_split_commands ?za_check_command ?zd_check_command ?za_Editor_init ?zi_Editor_init ?zd_Editor_init ?za_Editor_state ?zi_Editor_state ?zd_Editor_state ?za_Editor_restore ?zi_Editor_restore ?zd_Editor_restore ?za_Editor_twin ?zi_Editor_twin ?zd_Editor_twin ?za_Editor_told ?zi_Editor_told ?zd_Editor_told ?za_Editor_here ?zi_Editor_here ?zd_Editor_here ?za_put_in ?zd_put_in ?za_go_left ?zd_go_left ?za_go_right ?zd_go_right ?za_take_out ?zd_take_out ?za_go_to_any ?zd_go_to_any ?za_seek_right ?zd_seek_right ?za_seek_left ?zd_seek_left ?za_go_first ?zd_go_first ?za_go_last ?zd_go_last ?za_exchange ?zd_exchange ?za_expect ?zd_expect ?za_expect_other ?zd_expect_other ?za_hold ?zd_hold ?za_put_held ?zd_put_held ?za_do_plain ?zd_do_plain ?za_Player_init ?zi_Player_init ?zd_Player_init ?za_Player_do_row ?zi_Player_do_row ?zd_Player_do_row ?za_Player_do_command ?zi_Player_do_command ?zd_Player_do_command ?za_Player_do_counted ?zi_Player_do_counted ?zd_Player_do_counted ?za_Player_play ?zi_Player_play ?zd_Player_play ?za_Player_play_next ?zi_Player_play_next ?zd_Player_play_next ?za_Player_play_times ?zi_Player_play_times ?zd_Player_play_times ?za_Player_play_until ?zi_Player_play_until ?zd_Player_play_until ?za_Player_find_period ?zi_Player_find_period ?zd_Player_find_period ?za_state_behind ?zd_state_behind ?za_Session_init ?zi_Session_init ?zd_Session_init ?za_Session_start_text ?zi_Session_start_text ?zd_Session_start_text ?za_Session_new_player ?zi_Session_new_player ?zd_Session_new_player ?za_Session_do ?zi_Session_do ?zd_Session_do ?za_Session_would ?zi_Session_would ?zd_Session_would ?za_Session_put_to_record ?zi_Session_put_to_record ?zd_Session_put_to_record ?za_Session_fill ?zi_Session_fill ?zd_Session_fill ?za_Session_look_up ?zi_Session_look_up ?zd_Session_look_up ?za_Session_record ?zi_Session_record ?zd_Session_record ?za_Session_stop_recording ?zi_Session_stop_recording ?zd_Session_stop_recording ?za_Session_shows ?zi_Session_shows ?zd_Session_shows ?za_Session_undo ?zi_Session_undo ?zd_Session_undo ?za_Session_period ?zi_Session_period ?zd_Session_period ?za_try_out ?zd_try_out ?za_check_slot ?zd_check_slot ?za_answer_text ?zd_answer_text ?za_answer_do ?zd_answer_do ?za_answer_set ?zd_answer_set ?za_answer_get ?zd_answer_get ?za_answer_record ?zd_answer_record ?za_answer_stop ?zd_answer_stop ?za_answer_shows ?zd_answer_shows ?za_answer_undo ?zd_answer_undo ?za_answer_would ?zd_answer_would ?za_answer_period ?zd_answer_period ?za_answer_call ?zd_answer_call ?za_answers ?zd_answers ?zpg_Reader ?zhd_Reader ?zpo_Reader ?zsa_Reader ?zmk_Reader ?zkc_Reader ?zn_Reader_numbers ?zn_Reader_position ?zpg_Editor ?zhd_Editor ?zpo_Editor ?zsa_Editor ?zmk_Editor ?zkc_Editor ?zn_Editor_text ?zn_Editor_place ?zn_Editor_held ?zpg_Player ?zhd_Player ?zpo_Player ?zsa_Player ?zmk_Player ?zkc_Player ?zn_Player_editor ?zn_Player_macros ?zn_Player_plain_count ?zn_Player_playing_count ?zpg_Session ?zhd_Session ?zpo_Session ?zsa_Session ?zmk_Session ?zkc_Session ?zn_Session_editor ?zn_Session_macros ?zn_Session_recorded_for ?zn_Session_recorded ?zn_Session_earlier ?zxi ?zxb ?zxt ?zxr ?zxg ?zxf ?zx_WrongNumbers ?zxs_WrongNumbers ?zxb_WrongNumbers ?zxt_WrongNumbers ?zxk_WrongNumbers ?zxn_WrongNumbers ?zxu_WrongNumbers ?zxa_WrongNumbers ?zxo_WrongNumbers ?zxd_WrongNumbers ?zxy_WrongNumbers ?zx_NoSuchRegister ?zxs_NoSuchRegister ?zxb_NoSuchRegister ?zxt_NoSuchRegister ?zxk_NoSuchRegister ?zxn_NoSuchRegister ?zxu_NoSuchRegister ?zxa_NoSuchRegister ?zxo_NoSuchRegister ?zxd_NoSuchRegister ?zxy_NoSuchRegister ?zx_RecordFull ?zxs_RecordFull ?zxb_RecordFull ?zxt_RecordFull ?zxk_RecordFull ?zxn_RecordFull ?zxu_RecordFull ?zxa_RecordFull ?zxo_RecordFull ?zxd_RecordFull ?zxy_RecordFull ?zx_OutOfTurn ?zxs_OutOfTurn ?zxb_OutOfTurn ?zxt_OutOfTurn ?zxk_OutOfTurn ?zxn_OutOfTurn ?zxu_OutOfTurn ?zxa_OutOfTurn ?zxo_OutOfTurn ?zxd_OutOfTurn ?zxy_OutOfTurn ?zx_TooMuch ?zxs_TooMuch ?zxb_TooMuch ?zxt_TooMuch ?zxk_TooMuch ?zxn_TooMuch ?zxu_TooMuch ?zxa_TooMuch ?zxo_TooMuch ?zxd_TooMuch ?zxy_TooMuch ?zx_NeverStops ?zxs_NeverStops ?zxb_NeverStops ?zxt_NeverStops ?zxk_NeverStops ?zxn_NeverStops ?zxu_NeverStops ?zxa_NeverStops ?zxo_NeverStops ?zxd_NeverStops ?zxy_NeverStops ?zq_LENGTHS ?zt_LENGTHS ?zq_BARE ?zt_BARE ?zq_WITH_BYTE ?zt_WITH_BYTE ?zq_CALLS ?zt_CALLS) hmg
    (case zb_any => k_is)
    (case zb_len => k_is)
    (case zb_list => k_is)
    (case zb_range => k_is)
    (case zb_tuple => k_is)
    (case zk_FIRST_THAT_PLAYS => k_is)
    (case zk_LAST_BYTE => k_is)
    (case zk_LAST_SLOT => k_is)
    (case zk_MOST_COMMANDS => k_is)
    (case zk_MOST_BYTES => k_is)
    (case zk_PLAY_ONCE => k_is)
    (case zk_PLAY_TIMES => k_is)
    (case zk_MOST_DEEP => k_is)
    (case zk_MOST_IN_A_ROW => k_is)
    (case zk_MOST_PLAIN => k_is)
    (case zk_MOST_PLAYINGS => k_is)
    (case zc_Reader => k_is)
    (case zc_Editor => k_is)
    (case zc_Player => k_is)
    (case zc_Session => k_is)
    (case zc_Refused => k_is)
    (case zc_WrongNumbers => k_is)
    (case zc_NoSuchRegister => k_is)
    (case zc_RecordFull => k_is)
    (case zc_OutOfTurn => k_is)
    (case zc_TooMuch => k_is)
    (case zc_NeverStops => k_is)
    (case za_Refused_init => k_is)
    (case zd_Refused_init => refine' Mp.df_mk ?l ?c ?k Mp.bi_Refused_init; (case l => k_is); (case c => k_is); (case k => k_is))
    (case za_WrongNumbers_init => k_is)
    (case zd_WrongNumbers_init => refine' Mp.df_mk ?l ?c ?k Mp.bi_WrongNumbers_init; (case l => k_is); (case c => k_is); (case k => k_is))
    (case za_NoSuchRegister_init => k_is)
    (case zd_NoSuchRegister_init => refine' Mp.df_mk ?l ?c ?k Mp.bi_NoSuchRegister_init; (case l => k_is); (case c => k_is); (case k => k_is))
    (case za_RecordFull_init => k_is)
    (case zd_RecordFull_init => refine' Mp.df_mk ?l ?c ?k Mp.bi_RecordFull_init; (case l => k_is); (case c => k_is); (case k => k_is))
    (case za_OutOfTurn_init => k_is)
    (case zd_OutOfTurn_init => refine' Mp.df_mk ?l ?c ?k Mp.bi_OutOfTurn_init; (case l => k_is); (case c => k_is); (case k => k_is))
    (case za_TooMuch_init => k_is)
    (case zd_TooMuch_init => refine' Mp.df_mk ?l ?c ?k Mp.bi_TooMuch_init; (case l => k_is); (case c => k_is); (case k => k_is))
    (case za_NeverStops_init => k_is)
    (case zd_NeverStops_init => refine' Mp.df_mk ?l ?c ?k Mp.bi_NeverStops_init; (case l => k_is); (case c => k_is); (case k => k_is))
    (case za_Reader_init => k_is)
    (case zi_Reader_init => k_is)
    (case zd_Reader_init => refine' Mp.df_mk ?l ?c ?k Mp.bi_Reader_init; (case l => k_is); (case c => k_is); (case k => k_is))
    (case za_Reader_at_end => k_is)
    (case zi_Reader_at_end => k_is)
    (case zd_Reader_at_end => refine' Mp.df_mk ?l ?c ?k Mp.bi_Reader_at_end; (case l => k_is); (case c => k_is); (case k => k_is))
    (case za_Reader_take => k_is)
    (case zi_Reader_take => k_is)
    (case zd_Reader_take => refine' Mp.df_mk ?l ?c ?k Mp.bi_Reader_take; (case l => k_is); (case c => k_is); (case k => k_is))
    (case za_Reader_take_row => k_is)
    (case zi_Reader_take_row => k_is)
    (case zd_Reader_take_row => refine' Mp.df_mk ?l ?c ?k Mp.bi_Reader_take_row; (case l => k_is); (case c => k_is); (case k => k_is))
    (case za_read_commands => k_is)
    (case zd_read_commands => refine' Mp.df_mk ?l ?c ?k Mp.bi_read_commands; (case l => k_is); (case c => k_is); (case k => k_is))
    (case za_split_commands => k_is)
    (case zd_split_commands => refine' Mp.df_mk ?l ?c ?k Mp.bi_split_commands; (case l => k_is); (case c => k_is); (case k => k_is))
    (case za_check_command => k_is)
    (case zd_check_command => refine' Mp.df_mk ?l ?c ?k Mp.bi_check_command; (case l => k_is); (case c => k_is); (case k => k_is))
    (case za_Editor_init => k_is)
    (case zi_Editor_init => k_is)
    (case zd_Editor_init => refine' Mp.df_mk ?l ?c ?k Mp.bi_Editor_init; (case l => k_is); (case c => k_is); (case k => k_is))
    (case za_Editor_state => k_is)
    (case zi_Editor_state => k_is)
    (case zd_Editor_state => refine' Mp.df_mk ?l ?c ?k Mp.bi_Editor_state; (case l => k_is); (case c => k_is); (case k => k_is))
    (case za_Editor_restore => k_is)
    (case zi_Editor_restore => k_is)
    (case zd_Editor_restore => refine' Mp.df_mk ?l ?c ?k Mp.bi_Editor_restore; (case l => k_is); (case c => k_is); (case k => k_is))
    (case za_Editor_twin => k_is)
    (case zi_Editor_twin => k_is)
    (case zd_Editor_twin => refine' Mp.df_mk ?l ?c ?k Mp.bi_Editor_twin; (case l => k_is); (case c => k_is); (case k => k_is))
    (case za_Editor_told => k_is)
    (case zi_Editor_told => k_is)
    (case zd_Editor_told => refine' Mp.df_mk ?l ?c ?k Mp.bi_Editor_told; (case l => k_is); (case c => k_is); (case k => k_is))
    (case za_Editor_here => k_is)
    (case zi_Editor_here => k_is)
    (case zd_Editor_here => refine' Mp.df_mk ?l ?c ?k Mp.bi_Editor_here; (case l => k_is); (case c => k_is); (case k => k_is))
    (case za_put_in => k_is)
    (case zd_put_in => refine' Mp.df_mk ?l ?c ?k Mp.bi_put_in; (case l => k_is); (case c => k_is); (case k => k_is))
    (case za_go_left => k_is)
    (case zd_go_left => refine' Mp.df_mk ?l ?c ?k Mp.bi_go_left; (case l => k_is); (case c => k_is); (case k => k_is))
    (case za_go_right => k_is)
    (case zd_go_right => refine' Mp.df_mk ?l ?c ?k Mp.bi_go_right; (case l => k_is); (case c => k_is); (case k => k_is))
    (case za_take_out => k_is)
    (case zd_take_out => refine' Mp.df_mk ?l ?c ?k Mp.bi_take_out; (case l => k_is); (case c => k_is); (case k => k_is))
    (case za_go_to_any => k_is)
    (case zd_go_to_any => refine' Mp.df_mk ?l ?c ?k Mp.bi_go_to_any; (case l => k_is); (case c => k_is); (case k => k_is))
    (case za_seek_right => k_is)
    (case zd_seek_right => refine' Mp.df_mk ?l ?c ?k Mp.bi_seek_right; (case l => k_is); (case c => k_is); (case k => k_is))
    (case za_seek_left => k_is)
    (case zd_seek_left => refine' Mp.df_mk ?l ?c ?k Mp.bi_seek_left; (case l => k_is); (case c => k_is); (case k => k_is))
    (case za_go_first => k_is)
    (case zd_go_first => refine' Mp.df_mk ?l ?c ?k Mp.bi_go_first; (case l => k_is); (case c => k_is); (case k => k_is))
    (case za_go_last => k_is)
    (case zd_go_last => refine' Mp.df_mk ?l ?c ?k Mp.bi_go_last; (case l => k_is); (case c => k_is); (case k => k_is))
    (case za_exchange => k_is)
    (case zd_exchange => refine' Mp.df_mk ?l ?c ?k Mp.bi_exchange; (case l => k_is); (case c => k_is); (case k => k_is))
    (case za_expect => k_is)
    (case zd_expect => refine' Mp.df_mk ?l ?c ?k Mp.bi_expect; (case l => k_is); (case c => k_is); (case k => k_is))
    (case za_expect_other => k_is)
    (case zd_expect_other => refine' Mp.df_mk ?l ?c ?k Mp.bi_expect_other; (case l => k_is); (case c => k_is); (case k => k_is))
    (case za_hold => k_is)
    (case zd_hold => refine' Mp.df_mk ?l ?c ?k Mp.bi_hold; (case l => k_is); (case c => k_is); (case k => k_is))
    (case za_put_held => k_is)
    (case zd_put_held => refine' Mp.df_mk ?l ?c ?k Mp.bi_put_held; (case l => k_is); (case c => k_is); (case k => k_is))
    (case za_do_plain => k_is)
    (case zd_do_plain => refine' Mp.df_mk ?l ?c ?k Mp.bi_do_plain; (case l => k_is); (case c => k_is); (case k => k_is))
    (case za_Player_init => k_is)
    (case zi_Player_init => k_is)
    (case zd_Player_init => refine' Mp.df_mk ?l ?c ?k Mp.bi_Player_init; (case l => k_is); (case c => k_is); (case k => k_is))
    (case za_Player_do_row => k_is)
    (case zi_Player_do_row => k_is)
    (case zd_Player_do_row => refine' Mp.df_mk ?l ?c ?k Mp.bi_Player_do_row; (case l => k_is); (case c => k_is); (case k => k_is))
    (case za_Player_do_command => k_is)
    (case zi_Player_do_command => k_is)
    (case zd_Player_do_command => refine' Mp.df_mk ?l ?c ?k Mp.bi_Player_do_command; (case l => k_is); (case c => k_is); (case k => k_is))
    (case za_Player_do_counted => k_is)
    (case zi_Player_do_counted => k_is)
    (case zd_Player_do_counted => refine' Mp.df_mk ?l ?c ?k Mp.bi_Player_do_counted; (case l => k_is); (case c => k_is); (case k => k_is))
    (case za_Player_play => k_is)
    (case zi_Player_play => k_is)
    (case zd_Player_play => refine' Mp.df_mk ?l ?c ?k Mp.bi_Player_play; (case l => k_is); (case c => k_is); (case k => k_is))
    (case za_Player_play_next => k_is)
    (case zi_Player_play_next => k_is)
    (case zd_Player_play_next => refine' Mp.df_mk ?l ?c ?k Mp.bi_Player_play_next; (case l => k_is); (case c => k_is); (case k => k_is))
    (case za_Player_play_times => k_is)
    (case zi_Player_play_times => k_is)
    (case zd_Player_play_times => refine' Mp.df_mk ?l ?c ?k Mp.bi_Player_play_times; (case l => k_is); (case c => k_is); (case k => k_is))
    (case za_Player_play_until => k_is)
    (case zi_Player_play_until => k_is)
    (case zd_Player_play_until => refine' Mp.df_mk ?l ?c ?k Mp.bi_Player_play_until; (case l => k_is); (case c => k_is); (case k => k_is))
    (case za_Player_find_period => k_is)
    (case zi_Player_find_period => k_is)
    (case zd_Player_find_period => refine' Mp.df_mk ?l ?c ?k Mp.bi_Player_find_period; (case l => k_is); (case c => k_is); (case k => k_is))
    (case za_state_behind => k_is)
    (case zd_state_behind => refine' Mp.df_mk ?l ?c ?k Mp.bi_state_behind; (case l => k_is); (case c => k_is); (case k => k_is))
    (case za_Session_init => k_is)
    (case zi_Session_init => k_is)
    (case zd_Session_init => refine' Mp.df_mk ?l ?c ?k Mp.bi_Session_init; (case l => k_is); (case c => k_is); (case k => k_is))
    (case za_Session_start_text => k_is)
    (case zi_Session_start_text => k_is)
    (case zd_Session_start_text => refine' Mp.df_mk ?l ?c ?k Mp.bi_Session_start_text; (case l => k_is); (case c => k_is); (case k => k_is))
    (case za_Session_new_player => k_is)
    (case zi_Session_new_player => k_is)
    (case zd_Session_new_player => refine' Mp.df_mk ?l ?c ?k Mp.bi_Session_new_player; (case l => k_is); (case c => k_is); (case k => k_is))
    (case za_Session_do => k_is)
    (case zi_Session_do => k_is)
    (case zd_Session_do => refine' Mp.df_mk ?l ?c ?k Mp.bi_Session_do; (case l => k_is); (case c => k_is); (case k => k_is))
    (case za_Session_would => k_is)
    (case zi_Session_would => k_is)
    (case zd_Session_would => refine' Mp.df_mk ?l ?c ?k Mp.bi_Session_would; (case l => k_is); (case c => k_is); (case k => k_is))
    (case za_Session_put_to_record => k_is)
    (case zi_Session_put_to_record => k_is)
    (case zd_Session_put_to_record => refine' Mp.df_mk ?l ?c ?k Mp.bi_Session_put_to_record; (case l => k_is); (case c => k_is); (case k => k_is))
    (case za_Session_fill => k_is)
    (case zi_Session_fill => k_is)
    (case zd_Session_fill => refine' Mp.df_mk ?l ?c ?k Mp.bi_Session_fill; (case l => k_is); (case c => k_is); (case k => k_is))
    (case za_Session_look_up => k_is)
    (case zi_Session_look_up => k_is)
    (case zd_Session_look_up => refine' Mp.df_mk ?l ?c ?k Mp.bi_Session_look_up; (case l => k_is); (case c => k_is); (case k => k_is))
    (case za_Session_record => k_is)
    (case zi_Session_record => k_is)
    (case zd_Session_record => refine' Mp.df_mk ?l ?c ?k Mp.bi_Session_record; (case l => k_is); (case c => k_is); (case k => k_is))
    (case za_Session_stop_recording => k_is)
    (case zi_Session_stop_recording => k_is)
    (case zd_Session_stop_recording => refine' Mp.df_mk ?l ?c ?k Mp.bi_Session_stop_recording; (case l => k_is); (case c => k_is); (case k => k_is))
    (case za_Session_shows => k_is)
    (case zi_Session_shows => k_is)
    (case zd_Session_shows => refine' Mp.df_mk ?l ?c ?k Mp.bi_Session_shows; (case l => k_is); (case c => k_is); (case k => k_is))
    (case za_Session_undo => k_is)
    (case zi_Session_undo => k_is)
    (case zd_Session_undo => refine' Mp.df_mk ?l ?c ?k Mp.bi_Session_undo; (case l => k_is); (case c => k_is); (case k => k_is))
    (case za_Session_period => k_is)
    (case zi_Session_period => k_is)
    (case zd_Session_period => refine' Mp.df_mk ?l ?c ?k Mp.bi_Session_period; (case l => k_is); (case c => k_is); (case k => k_is))
    (case za_try_out => k_is)
    (case zd_try_out => refine' Mp.df_mk ?l ?c ?k Mp.bi_try_out; (case l => k_is); (case c => k_is); (case k => k_is))
    (case za_check_slot => k_is)
    (case zd_check_slot => refine' Mp.df_mk ?l ?c ?k Mp.bi_check_slot; (case l => k_is); (case c => k_is); (case k => k_is))
    (case za_answer_text => k_is)
    (case zd_answer_text => refine' Mp.df_mk ?l ?c ?k Mp.bi_answer_text; (case l => k_is); (case c => k_is); (case k => k_is))
    (case za_answer_do => k_is)
    (case zd_answer_do => refine' Mp.df_mk ?l ?c ?k Mp.bi_answer_do; (case l => k_is); (case c => k_is); (case k => k_is))
    (case za_answer_set => k_is)
    (case zd_answer_set => refine' Mp.df_mk ?l ?c ?k Mp.bi_answer_set; (case l => k_is); (case c => k_is); (case k => k_is))
    (case za_answer_get => k_is)
    (case zd_answer_get => refine' Mp.df_mk ?l ?c ?k Mp.bi_answer_get; (case l => k_is); (case c => k_is); (case k => k_is))
    (case za_answer_record => k_is)
    (case zd_answer_record => refine' Mp.df_mk ?l ?c ?k Mp.bi_answer_record; (case l => k_is); (case c => k_is); (case k => k_is))
    (case za_answer_stop => k_is)
    (case zd_answer_stop => refine' Mp.df_mk ?l ?c ?k Mp.bi_answer_stop; (case l => k_is); (case c => k_is); (case k => k_is))
    (case za_answer_shows => k_is)
    (case zd_answer_shows => refine' Mp.df_mk ?l ?c ?k Mp.bi_answer_shows; (case l => k_is); (case c => k_is); (case k => k_is))
    (case za_answer_undo => k_is)
    (case zd_answer_undo => refine' Mp.df_mk ?l ?c ?k Mp.bi_answer_undo; (case l => k_is); (case c => k_is); (case k => k_is))
    (case za_answer_would => k_is)
    (case zd_answer_would => refine' Mp.df_mk ?l ?c ?k Mp.bi_answer_would; (case l => k_is); (case c => k_is); (case k => k_is))
    (case za_answer_period => k_is)
    (case zd_answer_period => refine' Mp.df_mk ?l ?c ?k Mp.bi_answer_period; (case l => k_is); (case c => k_is); (case k => k_is))
    (case za_answer_call => k_is)
    (case zd_answer_call => refine' Mp.df_mk ?l ?c ?k Mp.bi_answer_call; (case l => k_is); (case c => k_is); (case k => k_is))
    (case za_answers => k_is)
    (case zd_answers => refine' Mp.dft_mk ?l ?c ?k Mp.bi_answers; (case l => k_is); (case c => k_is); (case k => k_is))
    (case zpg_Reader => k_is)
    (case zhd_Reader => k_is)
    (case zpo_Reader => k_is)
    (case zsa_Reader => k_is)
    (case zmk_Reader => k_is)
    (case zkc_Reader => k_is)
    (case zn_Reader_numbers => k_is)
    (case zn_Reader_position => k_is)
    (case zpg_Editor => k_is)
    (case zhd_Editor => k_is)
    (case zpo_Editor => k_is)
    (case zsa_Editor => k_is)
    (case zmk_Editor => k_is)
    (case zkc_Editor => k_is)
    (case zn_Editor_text => k_is)
    (case zn_Editor_place => k_is)
    (case zn_Editor_held => k_is)
    (case zpg_Player => k_is)
    (case zhd_Player => k_is)
    (case zpo_Player => k_is)
    (case zsa_Player => k_is)
    (case zmk_Player => k_is)
    (case zkc_Player => k_is)
    (case zn_Player_editor => k_is)
    (case zn_Player_macros => k_is)
    (case zn_Player_plain_count => k_is)
    (case zn_Player_playing_count => k_is)
    (case zpg_Session => k_is)
    (case zhd_Session => k_is)
    (case zpo_Session => k_is)
    (case zsa_Session => k_is)
    (case zmk_Session => k_is)
    (case zkc_Session => k_is)
    (case zn_Session_editor => k_is)
    (case zn_Session_macros => k_is)
    (case zn_Session_recorded_for => k_is)
    (case zn_Session_recorded => k_is)
    (case zn_Session_earlier => k_is)
    (case zxi => k_is)
    (case zxb => k_is)
    (case zxt => k_is)
    (case zxr => k_is)
    (case zxg => k_is)
    (case zxf => k_is)
    (case zx_WrongNumbers => refine' Mp.exco_mk ?l ?r; (case l => k_is); (case r => exact Mp.RefsEX.own Mp.RefsEX.base))
    (case zxs_WrongNumbers => k_is)
    (case zxb_WrongNumbers => k_is)
    (case zxt_WrongNumbers => k_is)
    (case zxk_WrongNumbers => k_is)
    (case zxn_WrongNumbers => k_is)
    (case zxu_WrongNumbers => first | rfl | k_is)
    (case zxa_WrongNumbers => k_is)
    (case zxo_WrongNumbers => k_is)
    (case zxd_WrongNumbers => k_is)
    (case zxy_WrongNumbers => k_is)
    (case zx_NoSuchRegister => refine' Mp.exco_mk ?l ?r; (case l => k_is); (case r => exact Mp.RefsEX.own Mp.RefsEX.base))
    (case zxs_NoSuchRegister => k_is)
    (case zxb_NoSuchRegister => k_is)
    (case zxt_NoSuchRegister => k_is)
    (case zxk_NoSuchRegister => k_is)
    (case zxn_NoSuchRegister => k_is)
    (case zxu_NoSuchRegister => first | rfl | k_is)
    (case zxa_NoSuchRegister => k_is)
    (case zxo_NoSuchRegister => k_is)
    (case zxd_NoSuchRegister => k_is)
    (case zxy_NoSuchRegister => k_is)
    (case zx_RecordFull => refine' Mp.exco_mk ?l ?r; (case l => k_is); (case r => exact Mp.RefsEX.own Mp.RefsEX.base))
    (case zxs_RecordFull => k_is)
    (case zxb_RecordFull => k_is)
    (case zxt_RecordFull => k_is)
    (case zxk_RecordFull => k_is)
    (case zxn_RecordFull => k_is)
    (case zxu_RecordFull => first | rfl | k_is)
    (case zxa_RecordFull => k_is)
    (case zxo_RecordFull => k_is)
    (case zxd_RecordFull => k_is)
    (case zxy_RecordFull => k_is)
    (case zx_OutOfTurn => refine' Mp.exco_mk ?l ?r; (case l => k_is); (case r => exact Mp.RefsEX.own Mp.RefsEX.base))
    (case zxs_OutOfTurn => k_is)
    (case zxb_OutOfTurn => k_is)
    (case zxt_OutOfTurn => k_is)
    (case zxk_OutOfTurn => k_is)
    (case zxn_OutOfTurn => k_is)
    (case zxu_OutOfTurn => first | rfl | k_is)
    (case zxa_OutOfTurn => k_is)
    (case zxo_OutOfTurn => k_is)
    (case zxd_OutOfTurn => k_is)
    (case zxy_OutOfTurn => k_is)
    (case zx_TooMuch => refine' Mp.exco_mk ?l ?r; (case l => k_is); (case r => exact Mp.RefsEX.own Mp.RefsEX.base))
    (case zxs_TooMuch => k_is)
    (case zxb_TooMuch => k_is)
    (case zxt_TooMuch => k_is)
    (case zxk_TooMuch => k_is)
    (case zxn_TooMuch => k_is)
    (case zxu_TooMuch => first | rfl | k_is)
    (case zxa_TooMuch => k_is)
    (case zxo_TooMuch => k_is)
    (case zxd_TooMuch => k_is)
    (case zxy_TooMuch => k_is)
    (case zx_NeverStops => refine' Mp.exco_mk ?l ?r; (case l => k_is); (case r => exact Mp.RefsEX.own Mp.RefsEX.base))
    (case zxs_NeverStops => k_is)
    (case zxb_NeverStops => k_is)
    (case zxt_NeverStops => k_is)
    (case zxk_NeverStops => k_is)
    (case zxn_NeverStops => k_is)
    (case zxu_NeverStops => first | rfl | k_is)
    (case zxa_NeverStops => k_is)
    (case zxo_NeverStops => k_is)
    (case zxd_NeverStops => k_is)
    (case zxy_NeverStops => k_is)
    (case zq_LENGTHS => k_is)
    (case zt_LENGTHS => refine' Mp.tupk_mk ?l ?r; (case l => k_is); (case r => rfl))
    (case zq_BARE => k_is)
    (case zt_BARE => refine' Mp.kfd_mk ?l ?r (by decide); (case l => k_is); (case r => first | rfl | decide +kernel))
    (case zq_WITH_BYTE => k_is)
    (case zt_WITH_BYTE => refine' Mp.kfd_mk ?l ?r (by decide); (case l => k_is); (case r => first | rfl | decide +kernel))
    (case zq_CALLS => k_is)
    (case zt_CALLS => refine' Mp.kfd_mk ?l ?r (by decide); (case l => k_is); (case r => first | rfl | decide +kernel))
  case S =>
    intro K H xs a hO hwi hask hx
    cases hx with
    | cons h1 h2 =>
      cases h2
      cases h1 with
      | lst hs ha =>
        have e := L2.ints_dw a.1 _ ha
        subst e
        exact Mp.sp_ans hs hask fun H' p hp => .lst (L2.SqL.of hp) (L2.dw_ints _)
