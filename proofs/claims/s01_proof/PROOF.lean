import PyProof.Rows.All
import Wide.All
import OpenK.AllK
import Wide.FinOn
import Open.SpecLaws
import KE.OsGo
import KE.KDictWalk
import KE.KDictSum
import HandS.Base
import HandS.Call
import HandS.List
import HandS.Comp
import HandS.Dict
import HandS.Iter
import HandS.Ends
import HandS.Spec
import HandS.Words
import HandS.WordsList
import HandS.WordsDict
import HandS.Evl
import HandS.Wide
import HandS.Set
import HandS.Strs
import HandS.SetFor
import HandS.SortInts
import HandS.Conv
import KE.KDictCopyH
import HandS.Sort
import HandS.Rev
import PyFlatLaws
import PyProof.Rows.BitMore
import HandS.ForSpec
import PySem.Challenge.RW_putcalls_s01_answers
set_option Elab.async false
set_option linter.all false
set_option maxRecDepth 100000
set_option maxHeartbeats 8000000
namespace Pc
open PySem PySem.Spec PyProof.Rows L2 Evl
/-! ### machine rules that the layer lacks -/
/-! xs.extend(t), t a tuple -/
theorem extend_by_tuple {l b : Addr} {old more : Array Value} {e1 e2 : Nat} {dd : Option Addr} {sl : Array (Option Value)} (short : (!old.isEmpty && Builtin.List.listTooLong (old.size + more.size)) = false) (small : old.size + more.size ≤ sizeLine) :
    Meets (Builtin.«list.extend» ⟨[.ref l, .ref b], []⟩) fun _ R s => s.heap.get? l = some { cls := .type "list", dict := none, data := .seq old e1, slots := #[] } ∧ s.heap.get? b = some { cls := .type "tuple", dict := dd, data := .seq more e2, slots := sl } ∧
      R (.ok (.ret Value.none)) { s with heap := s.heap.update l (Obj.mapSeq fun x => x ++ more), toks := s.toks } := by
  refine .of_wp fun _ _ _ R st pre => ?_
  rcases st with ⟨hp, gn, dr, tk, os⟩
  rcases pre with ⟨atL, atB, fin⟩
  have notLong : ¬ (!old.isEmpty && Builtin.List.listTooLong (old.size + more.size)) = true := fun z => Bool.noConfusion (short.symm.trans z)
  have s1 := AutoSeq1.sub_tuple_list
  have s2 := AutoSeq1.sub_tuple_tuple
  have s3 := AutoSeq1.sub_list_list
  have s4 := AutoSeq1.sub_list_tuple
  have s5 := AutoSeq1.idx_int
  have both : (old ++ more).size ≤ sizeLine + 1 := Nat.le_trans (Nat.le_of_eq Array.size_append) (Nat.le_succ_of_le small)
  have oldOk : old.size ≤ sizeLine := Nat.le_trans (Nat.le_add_right _ _) small
  wp_walk using (wpAny_updateSeq atL rfl (hz := oldOk) (_hz' := both)), AutoSeq1.wpAny_loadPart' atL, AutoSeq1.wpAny_loadPart' atB
  exact ⟨_, rfl, fin⟩
section
variable {X : Cx}
def rExtendT (K : PySem.W.Frag) : V → List V → Hp → VK → Prop := fun x vs H Q => ∃ l b xs zs, x = .ref l ∧ vs = [.ref b] ∧ H l = some (.lst xs) ∧ H b = some (.tup zs) ∧ xs.length + zs.length ≤ sizeLine ∧ Q .non (upd H l (.lst (xs ++ zs)))
theorem mt_extendT : MtM X "list.extend" (rExtendT X.K) := fun pins s σ H x vs v us Q inv rx rvs ⟨l, b, xs, zs, ex, evs, atL, atB, small, q⟩ => by
  subst ex evs
  cases rx
  rcases rvs.one with ⟨u, rfl, ru⟩
  cases ru
  rcases inv.lstM atL with ⟨_, its, ep, rl, hl, obL⟩
  rcases inv.hok b _ atB with ⟨_, its2, rt, ⟨cls, dd, dat, sl⟩, obT, ec, ep2, ed⟩
  dsimp only at ec ed
  subst ec ed
  have n1 := rl.length
  have n2 := rt.length
  have fits : its.toArray.size + its2.toArray.size ≤ sizeLine := by
    simp only [List.size_toArray, ← n1, ← n2]
    exact small
  have notLong := notLongL fits
  refine call_meets F.slot_list_extend ⟨_, obL, rfl⟩ F.entry_list_extend (F.args_list_extend_2 _ _) (extend_by_tuple (by rw [notLong]; exact Bool.and_false _) fits) ⟨obL, obT, .non, _, ?_, rfl, q⟩
  exact inv.lset (its' := its ++ its2) atL obL (by simp) (rl.append rt) (by rw [List.length_append]; omega)
/-! xs[i], where it is read for xs[i] += n -/
theorem get_list : PGet X (rIxL X.K) := fun pins s σ H o i ov iv Q inv ro ri ⟨p, xs, k, z, eo, ei, sq, hk, q⟩ => by
  subst eo ei
  cases ro
  rcases ri with ⟨tk, rfl⟩
  rcases inv.list sq with ⟨its, rl, there, _⟩
  rcases atI_get hk with ⟨j, e1, e2, _, lo, hi⟩
  rcases rl.get e2 with ⟨u, eu, ru⟩
  have len := rl.length
  have l63 := line63
  have back : EP X pins σ Q u s := ⟨z, H, inv, ru, q⟩
  rcases Int.lt_or_le k 0 with neg | pos
  · have ej := e1
    rw [seqIndex_neg neg lo] at ej
    have ej' : (k + (its.toArray.size : Int)).toNat = j := by rw [List.size_toArray, ← len]; exact Option.some.inj ej
    refine wpAny_getItem_list_neg there.isList neg (by rw [List.size_toArray]; omega) (by omega) ?_ back
    rw [ej']
    simpa using eu
  · have ej := e1
    rw [seqIndex_of pos hi] at ej
    have ej' : k.toNat = j := Option.some.inj ej
    refine wpAny_getItem_list there.isList pos (by omega) ?_ back
    rw [ej']
    simpa using eu
end
end Pc

namespace Pc
open PySem PySem.Spec PyProof.Rows L2 Evl
/-! set(xs), xs a list of any length whose numbers are below 4000 -/
section
variable {s : Shared} {w : World} {P : Program} {E : Value → Shared → Prop} {A : Around}
/-- a set as it is born -/
abbrev blank (w : World) : Obj := { cls := .type "set", dict := none, data := .set #[] 0 (.fresh 0 0 (!w.params.followText "set-order")) }
abbrev born (w : World) (s : Shared) : Shared := { s with heap := s.heap.push (blank w) }
/-- such a set has 4000 members at most -/
theorem few_members {hp : Heap} {a : Addr} {S : Int → Bool} {n : Nat} (R : SetR w hp a S n) (low : ∀ k, S k = true → (0 : Int) ≤ k ∧ k < 4000) : n ≤ 4000 := by
  rcases R with ⟨o, es, ep, t, _, _, _, _, nodup, mem, _, _, size, _⟩
  have all : es.toList.map keyOf ⊆ (List.range 4000).map Int.ofNat := by
    intro k hk
    have hk' := low k ((mem k).mpr hk)
    refine List.mem_map.mpr ⟨k.toNat, List.mem_range.mpr (by omega), ?_⟩
    show ((k.toNat : Nat) : Int) = k
    omega
  have count := nodup.length_le_of_subset all
  simp only [List.length_map, List.length_range, Array.length_toList, size] at count
  exact count
theorem fill_set {src : Addr} {fp wr : List Addr} {G : Array GenState → Array GenState → Prop} {n : Nat} {Pv : Nat → Value → Prop} {St : Nat → Shared → Prop} {R : Result → Shared → Prop}
    (W : WalksS P w A.in1 src fp wr G n Pv St) (home : Addr) (apart : home ∉ fp) (ns : List Int) (hn : n = ns.length) (low : ∀ k ∈ ns, (0 : Int) ≤ k ∧ k < 4000) (reads : ∀ i v, Pv i v → ∃ k t, ns[i]? = some k ∧ v = .int k t) :
    ∀ (left : List Int) (i : Nat) (s : Shared) (c : Nat), ns.drop i = left → i ≤ n → St i s → SetR w s.heap home (fun j => decide (j ∈ ns.take i)) c →
      (∀ s' c, Moved (home :: wr) G s s' → SetR w s'.heap home (fun j => decide (j ∈ ns)) c → R (.ok (.ret .none)) s') →
      codeAny (model P w) A (.builtin "set.update.loop" ⟨[.ref home, .ref src], []⟩) R s := by
  have apartW : home ∉ wr := fun z => apart (W.sub home z)
  have wide : ∀ b, b ∈ wr → b ∈ home :: wr := fun _ z => .tail _ z
  intro left
  induction left with
  | nil =>
    intro i s c gone le st mem fin
    have len := congrArg List.length gone
    rw [List.length_drop] at len
    obtain rfl : i = n := Nat.le_antisymm le (by rw [hn]; exact Nat.le_of_sub_eq_zero len)
    rw [List.take_of_length_le (Nat.le_of_eq hn.symm)] at mem
    refine codeAny_builtin F.entry_set_update_loop (Eq.mpr (by rw [Around.under_plainId F.plain_set_update_loop]) ?_)
    exact wpAny_bind (W.done s _ _ st fun s' mv => wpAny_pure (fin s' c (mv.mono wide) (mem.at fun o at' => mv.heap home o apartW at')))
  | cons z rest ih =>
    intro i s c gone le st mem fin
    have more : i < ns.length := by
      rcases Nat.lt_or_ge i ns.length with z | z
      · exact z
      · rw [List.drop_eq_nil_of_le z] at gone
        cases gone
    rw [List.drop_eq_getElem_cons more] at gone
    injection gone with ez gone'
    have get : ns[i]? = some z := (List.getElem?_eq_getElem more).trans (congrArg some ez)
    refine codeAny_builtin F.entry_set_update_loop (Eq.mpr (by rw [Around.under_plainId F.plain_set_update_loop]) ?_)
    refine wpAny_bind (W.item i s _ _ (by rw [hn]; exact more) st fun v s' pv st' mv => ?_)
    rcases reads i v pv with ⟨y, tk, ey, rfl⟩
    obtain rfl : z = y := Option.some.inj (get.symm.trans ey)
    have mem' := mem.at (h' := s'.heap) fun o at' => mv.heap home o apartW at'
    have few := few_members mem' fun k hk => low k (List.mem_of_mem_take (of_decide_eq_true hk))
    refine wpAny_bind (wpAny_holding (wpAny_holding (wpAny_bind ((intKind P w).pyHash (k := z) (intKind_is _ _ _ _) ?_))))
    refine setR_add_hashed (s := { s' with toks := s'.toks + 1 }) mem' (Nat.lt_of_le_of_lt (Nat.succ_le_succ few) (by decide)) fun hp same mem2 => ?_
    have other : ∀ b, b ≠ home → hp.get? b = s'.heap.get? b := fun b nb => same.2 b nb
    refine wpAny_pure ⟨plainId_quiet F.plain_set_update_loop _, ih (i + 1) _ _ gone' (by rw [hn]; exact more) (W.frame _ s' _ _ st' (Nat.le_succ _) fun b inF o at' => ?_) (mem2.congr fun j => ?_) fun s2 c2 mv2 mem3 => fin s2 c2 (Moved.trans W.gtrans ((mv.mono wide).then_heap (Nat.le_succ _) fun b o notIn at' => ?_) mv2) mem3⟩
    · exact (other b fun e => apart (e ▸ inF)).trans at'
    · rw [List.take_add_one, get]
      simp [List.mem_append]
    · exact (other b fun e => notIn (e ▸ .head _)).trans at'
end
end Pc

namespace Pc
open PySem PySem.Spec PyProof.Rows L2 Evl
section
variable {s : Shared} {w : World} {P : Program} {E : Value → Shared → Prop} {A : Around}
/-- set.__init__ over a list -/
theorem init_set {l : Addr} {items : Array Value} (ns : List Int) {Q : PySem.Fin → Shared → Prop} (calm : A.handled = none) (hl : s.heap.IsList l items) (are : IntsAre items.toList ns) (low : ∀ k ∈ ns, (0 : Int) ≤ k ∧ k < 4000)
    (fin : ∀ (hp : Heap) (tk c : Nat), SetR w hp s.heap.objs.size (fun j => decide (j ∈ ns)) c → (∀ b o, s.heap.get? b = some o → hp.get? b = some o) → Q (.done (.ret .none)) { s with heap := hp, toks := tk }) :
    wpAny (model P w) A (Builtin.«set.__init__» ⟨[.ref s.heap.objs.size, .ref l], []⟩) Q E (born w s) := by
  have many : items.size = ns.length := Array.length_toList.symm.trans are.length
  rcases hl with ⟨⟨cls, dd, dat, sl⟩, atL, ec, ep, ed⟩
  dsimp only at ec ed
  subst ec ed
  have before : l < s.heap.objs.size := Heap.lt_size atL
  have atL1 := Heap.get?_push_of_some (blank w) atL
  have list1 : (s.heap.push (blank w)).IsList l items := ⟨_, atL1, rfl, ep, rfl⟩
  have atS : (s.heap.push (blank w)).get? s.heap.objs.size = some (blank w) := Heap.get?_push_size _ rfl
  have grown : (s.heap.push (blank w)).objs.size = s.heap.objs.size + 1 := Heap.size_push ..
  have n1 := F.sub_list_set
  have n2 := F.sub_list_frozenset
  have n3 : (Value.type "list" == Value.type "dict") = false := by decide
  unfold Builtin.«set.__init__»
  unfold noKeywords
  unfold Builtin.Frozenset.updateFrom
  generalize it : pyIter = iter
  wp_walk
  subst it
  refine wpAny_pyIter_list list1 (wpAny_bind (wpAny_runValue ?_))
  have ne : l ≠ (s.heap.push (blank w)).objs.size := Nat.ne_of_lt (by rw [grown]; exact Nat.lt_succ_of_lt before)
  refine fill_set (Walks.list (by simp [calm]) _ l ne items).toS s.heap.objs.size (fun z => ?_) ns many low (fun i v hv => ?_) ns 0 _ 0 rfl (Nat.zero_le _) ⟨⟨_, Heap.get?_push_size _ rfl, rfl, rfl⟩, list1.push _⟩ (setR_new_at (Heap.get?_push_of_some _ atS)) fun s' c mv mem => ?_
  · rcases List.mem_cons.1 z with z | z
    · exact Nat.ne_of_lt (Nat.lt_succ_self _) (z.trans grown)
    · exact Nat.ne_of_lt before (List.mem_singleton.1 z).symm
  · have lt := (Array.getElem?_eq_some_iff.mp hv).1
    rcases are.int_at i v ((Array.getElem?_toList ..).trans hv) with ⟨tk, e⟩
    have lt' : i < ns.length := many ▸ lt
    refine ⟨ns[i], tk, List.getElem?_eq_getElem lt', e.trans ?_⟩
    simp [List.getD_eq_getElem?_getD, List.getElem?_eq_getElem lt']
  · rcases s' with ⟨hp, gn, dr, tk, os⟩
    obtain rfl : gn = s.gens := mv.gens
    obtain rfl : dr = s.drawn := mv.drawn
    obtain rfl : os = s.os := mv.os
    refine wpAny_pure (wpAny_pure (fin hp tk c mem fun b o at' => ?_))
    have old := Heap.lt_size at'
    refine mv.heap b o (fun z => ?_) (Heap.get?_push_of_some _ (Heap.get?_push_of_some _ at'))
    rcases List.mem_cons.1 z with z | z
    · exact Nat.ne_of_lt old z
    · exact Nat.ne_of_lt (Nat.lt_succ_of_lt old) ((List.mem_singleton.1 z).trans grown)
theorem call_set {xs : Addr} {items : Array Value} (ns : List Int) {Q : Value → Shared → Prop} (calm : A.handled = none) (hl : s.heap.IsList xs items) (are : IntsAre items.toList ns) (low : ∀ k ∈ ns, (0 : Int) ≤ k ∧ k < 4000)
    (fin : ∀ (hp : Heap) (tk c : Nat), SetR w hp s.heap.objs.size (fun j => decide (j ∈ ns)) c → (∀ b o, s.heap.get? b = some o → hp.get? b = some o) → Q (.ref s.heap.objs.size) { s with heap := hp, toks := tk }) :
    wpAny (model P w) A (call (.type "set") [.ref xs]) Q E s := by
  rcases F.called_set.mro with ⟨mc, mt, m0⟩
  have m1 := F.called_set.made
  have m2 := F.called_set.sub
  have m3 := F.called_set.notType
  have m4 := F.called_set.canCreate
  have m5 := F.typeCall_set_1 (.ref xs)
  have typed : (born w s).TypeIs (.ref s.heap.objs.size) "set" := ⟨blank w, Heap.get?_push_size _ rfl, rfl⟩
  have m6 := F.called_set.init.lookup
  have m7 := F.called_set.init.bind (.ref s.heap.objs.size)
  refine wpAny_call (codeAny_of_tree (wpAny_pure ⟨Code.quiet_builtin _ (by decide +kernel), codeAny_builtin F.entry_type_call (Eq.mpr (by rw [Around.under_plain (weight_type_call_type "set" [.ref xs] []) rfl]) ?_)⟩))
  repeat any_goals first | assumption | wp_step
  refine codeAny_mono (code_set_led1 (.ref xs) (E := E) (Q₁ := fun made at1 => made = .ref s.heap.objs.size ∧ at1 = born w s) ⟨rfl, rfl⟩) fun r at1 got => ?_
  rcases r with e | fl
  · exact got
  cases fl with
  | ret made =>
    rcases got with ⟨rfl, rfl⟩
    repeat any_goals first | assumption | wp_step
    refine codeAny_mono (codeAny_call_builtin (R := wants (fun r at2 => r = .none ∧ ∃ hp tk c, at2 = { s with heap := hp, toks := tk } ∧ SetR w hp s.heap.objs.size (fun j => decide (j ∈ ns)) c ∧ ∀ b o, s.heap.get? b = some o → hp.get? b = some o) E) F.called_set.init.plain F.entry_set_init (check_set_init_1 typed (init_set ns (by simp [calm]) hl are low fun hp tk c mem kept => ⟨rfl, hp, tk, c, rfl, mem, kept⟩))) fun r at2 got => ?_
    rcases r with e | fl
    · exact got
    cases fl with
    | ret x =>
      rcases got with ⟨rfl, hp, tk, c, rfl, mem, kept⟩
      repeat any_goals first | assumption | wp_step
      exact fin hp tk c mem kept
    | _ => exact got.elim
  | _ => exact got.elim
end
end Pc

namespace Pc
open PySem PySem.Spec PyProof.Rows L2 Evl
/-! sorted(s), s a set of ints with any number of members -/
section
variable {s : Shared} {w : World} {P : Program} {E : Value → Shared → Prop} {A : Around}
theorem call_sorted {home : Addr} {S : Int → Bool} {n : Nat} {Q : Value → Shared → Prop} (set : SetR w s.heap home S n) (calm : A.handled = none)
    (fin : ∀ s' p (out : List Value) (c : Nat) (ns : List Int), (∀ b o, s.heap.get? b = some o → s'.heap.get? b = some o) ∧ s'.gens = s.gens ∧ s'.os = s.os ∧ s.heap.objs.size ≤ p ∧
      s'.heap.get? p = some (seqObj "list" out.toArray c) → IntsAre out ns → ns.Pairwise (· < ·) ∧ (∀ k, k ∈ ns ↔ S k = true) ∧ ns.length = n → Q (.ref p) s') :
    wpAny (model P w) A (call (.builtin "sorted") [.ref home]) Q E s := by
  rcases set with ⟨ob, es, ep, tab, at', exact', dat, good, nodup, mem, bound, fit, size, rising, led⟩
  refine Calls.call_function_entry kind_sorted plain_sorted entry_sorted (args_sorted1 _) (wpAny_bind (m := checkCount "sorted" 1 1 _) (wpAny_pure (wpAny_bind ?_)))
  refine collect_set (A := A.in1) calm ⟨ob, at', exact'.1, dat⟩ fit bound rising led fun s1 got kept grown sameG sameO perm => ?_
  have many : got.length = n := perm.length_eq.trans (by rw [List.length_map, Array.length_toList, size])
  have small : got.length ≤ sizeLine := many ▸ size ▸ fits_of_scanBound bound
  have whole : IntsAre got (got.map Builtin.Re.reRawOf) := by
    refine ints_of got fun v hv => ?_
    rcases List.mem_map.1 (perm.mem_iff.mp hv) with ⟨en, hen, rfl⟩
    rcases good en hen with ⟨k, tk, ek, _⟩
    exact ⟨k, tk, ek⟩
  have keys : (got.map Builtin.Re.reRawOf).Perm (es.toList.map keyOf) := by
    have pm := perm.map Builtin.Re.reRawOf
    rwa [show (es.toList.map (·.2)).map Builtin.Re.reRawOf = es.toList.map keyOf from List.map_map] at pm
  have laid : (s1.heap.push (seqObj "list" got.toArray 0)).get? s1.heap.objs.size = some (seqObj "list" got.toArray 0) := Heap.get?_push_size _ rfl
  refine wpAny_bind (wpAny_newList (wpAny_bind (wpAny_holding (wpAny_call_entry slot_list_sort ⟨_, laid, rfl⟩ entry_list_sort
    (SrtO.list_sort_ord SrtO.swo_int laid small (fun two => SrtO.ints_sortable whole two) fun out up stable => ⟨_, rfl, ?_⟩) (args_list_sort _)))) small)
  rcases SrtO.ints_out whole up stable with ⟨are, same, le⟩
  rcases sortedHeap_at (vs := got) (out := out.toArray) laid with ⟨c, there⟩
  have all := same.trans keys
  refine wpAny_pure ⟨_, rfl, fin _ s1.heap.objs.size out c (out.map SrtO.iv) ⟨fun b u hb => ?_, sameG, sameO, grown, there⟩ are ⟨lt_of_le_nodup _ le (all.nodup_iff.mpr nodup), fun k => all.mem_iff.trans (mem k).symm, ?_⟩⟩
  · have old := kept b u hb
    have lt := Heap.lt_size old
    exact (sortedHeap_old (Nat.ne_of_lt lt) (size_push' .. ▸ Nat.lt_succ_of_lt lt)).trans (Heap.get?_push_of_some _ old)
  · rw [all.length_eq, List.length_map, Array.length_toList, size]
end
section
variable {X : Cx}
/-- set(xs), ints from 0 to 3999 -/
def rSetOf (K : PySem.W.Frag) (w : World) : List V → Hp → VK → Prop := fun vs H Q => ∃ (a : Addr) (ns : List Int), vs = [V.ref a] ∧ SqL K H a (ns.map V.int) ∧ (∀ k ∈ ns, (0 : Int) ≤ k ∧ k < 4000) ∧
  ∀ p n, H p = none → Q (.ref p) (upd H p (SetO w p (fun j => decide (j ∈ ns)) n))
theorem cr_setOf (hc : X.calm = true) : CallR X (.type "set") (rSetOf X.K X.w) := fun pins s σ H vs us Q inv rel ⟨a, ns, ev, sq, low, q⟩ => by
  subst ev
  rcases inv.list sq with ⟨its, rl, there, _⟩
  rw [Vals.ref1 rel]
  refine call_set ns (inv.ok.hd hc) there.isList rl.ints low fun hp tk c mem kept => ?_
  have new := inv.hok.fresh (Nat.le_refl s.heap.objs.size)
  exact ⟨.ref s.heap.objs.size, _, inv.laid (t' := tk) kept (Nat.le_refl _) (setO_new mem), rfl, q _ c new⟩
/-- sorted(found), any number of members -/
def rSortedSetB (w : World) : List V → Hp → VK → Prop := fun vs H Q => ∃ (a : Addr) (S : Int → Bool) (n : Nat), vs = [V.ref a] ∧ H a = some (SetO w a S n) ∧
  ∀ (ns : List Int) (p : Addr), ns.Pairwise (· < ·) → (∀ k : Int, k ∈ ns ↔ S k = true) → H p = none → Q (.ref p) (upd H p (.lst (ns.map V.int)))
theorem cr_sortedSetB (hc : X.calm = true) : CallR X (.builtin "sorted") (rSortedSetB X.w) := fun pins s σ H vs us Q inv rel ⟨a, S, n, ev, atS, q⟩ => by
  subst ev
  rw [Vals.ref1 rel]
  have set := setO_get inv atS
  have bound : n < scanBound := by
    rcases set with ⟨_, es, _, _, _, _, _, _, _, _, lt, _, size, _⟩
    exact size ▸ lt
  refine call_sorted set (inv.ok.hd hc) fun s' p out c ns ⟨kept, sameG, sameO, grown, there⟩ are ⟨up, mem, many⟩ => ?_
  have free : H p = none := inv.hok.fresh grown
  have small : (ns.map V.int).length ≤ sizeLine := by
    rw [List.length_map, many]
    exact fits_of_scanBound bound
  rcases s' with ⟨hp, gn, dr, tk, os⟩
  cases sameO
  have eg : gn = s.gens := sameG
  refine ⟨.ref p, upd H p (.lst (ns.map V.int)), ?_, rfl, q ns p up mem free⟩
  exact inv.call (ch := []) (Un.laid kept grown free) (inv.hok.laid kept grown ⟨small, out, c, vals_of_ints are, there⟩) (by rw [eg]; exact inv.bare) fun _ z => nomatch z
end
end Pc


namespace Pc
open PySem PySem.Spec PyProof.Rows L2 Evl
/-! sum(d.values()), d a dict with tuples as keys and ints as values -/
section
variable {X : Cx} {o : Expr} {p pos apos mpos : Pos} {td : TE}
def tSumValsT (td : TE) : TE := fun σ H Q => td σ H fun x H1 => ∃ (a : Addr) (kvs : List (List Key × V)) (is : List Int), x = V.ref a ∧ H1 a = some (.dT kvs) ∧ kvs.map (·.2) = is.map V.int ∧ Q (.int is.sum) H1
theorem preSum_is (is : List Int) : ∀ n, n ≤ is.length → preSum (fun i => is.getD i 0) n = (is.take n).sum
  | 0, _ => by simp [preSum]
  | n + 1, h => by
    have ih := preSum_is is n (Nat.le_of_succ_le h)
    have e : is[n]? = some (is[n]'h) := List.getElem?_eq_getElem h
    show preSum (fun i => is.getD i 0) n + is.getD n 0 = _
    rw [ih, List.take_add_one, e, List.sum_append, List.getD_eq_getElem?_getD, e]
    simp
/-- what d.values() makes -/
abbrev seen (a : Addr) : Obj := { cls := .type "dict_values", data := .fields #[.ref a] }
theorem paired_at {H : Hp} {l : List (List Key × V)} {m : List (List Key × Addr × Value)} (z : Paired (fun (p : List Key × V) (q : List Key × Addr × Value) => p.1 = q.1 ∧ H q.2.1 = some (.tup (p.1.map kV)) ∧ RelV p.2 q.2.2) l m) : ∀ (i : Nat) (h1 : i < l.length) (h2 : i < m.length), RelV l[i].2 m[i].2.2 := by
  induction z with
  | nil => exact fun i h1 => absurd h1 (Nat.not_lt_zero _)
  | cons hq t ih =>
    intro i h1 h2
    cases i with
    | zero => exact hq.2.2
    | succ i => exact ih i (Nat.lt_of_succ_lt_succ h1) (Nat.lt_of_succ_lt_succ h2)
theorem pe_sumValsT (hc : X.calm = true) (hg : Gl X "sum") (hm : X.mg "sum" = none) (hd : PE X o td) (hbase : attributeBase o "values" X.env (eval o X.env) = eval o X.env := by rfl) (hline : (apos.endLine == mpos.line) = true := by rfl)
    (alone : starEach [Expr.Call (.Attribute o "values" apos) [] [] mpos] X.env = [(false, eval (Expr.Call (.Attribute o "values" apos) [] [] mpos) X.env)] := by rfl) :
    PE X (.Call (.Name "sum" p) [.Call (.Attribute o "values" apos) [] [] mpos] [] pos) (tSumValsT td) := .mk fun pins s σ H Q inv wish => by
  refine wpAny_Call_Name_kw (ld_blt inv hg hm boot_sum ?_ (by first | decide +kernel | decide) (by first | decide +kernel | decide))
  rw [alone]
  refine PySem.callWith_builtin1 (wpAny_Call_method0_late hbase hline (thn (hd.run pins s σ H _ inv wish) fun v s1 ⟨x, H1, inv1, r1, a, kvs, is, ex, ha, hv, q⟩ => ?_))
  subst ex
  cases (show v = Value.ref a from r1)
  rcases inv1.hok a _ ha with ⟨_, sys, xs, rel, ob, es, ep, there, exd, dat, hes, _⟩
  have raw : s1.heap.DictRaw a es ep := ⟨ob, there, exd, dat⟩
  have lower : a < s1.heap.objs.size := Heap.lt_size there
  refine ⟨"dict", _, F.plainAttrs_dict, F.slot_dict_values, F.type_dict_values, ⟨ob, there, exd.1⟩, fun b e => by cases e; exact ⟨ob, there, exd.2.1⟩, Calls.callWith_builtin rfl (PySem.evalArgs_none ?_)⟩
  refine call_meetsIn F.slot_dict_values ⟨ob, there, exd.1⟩ F.entry_dict_values (F.args_dict_values_1 _) (meets_dict_values_raw a sys) ⟨⟨es, ep, raw⟩, ?_⟩
  have stays : ∀ b u, s1.heap.get? b = some u → (s1.heap.push (seen a)).get? b = some u := fun _ _ e => Heap.get?_push_of_some (seen a) e
  have raw1 : (s1.heap.push (seen a)).DictRaw a es ep := ⟨ob, stays _ _ there, exd, dat⟩
  have pairs : kvs.length = xs.length := Paired.length rel
  have ints' : kvs.length = is.length := by simpa using congrArg List.length hv
  have many : es.size = is.length := by rw [← Array.length_toList, hes, List.length_map, ← pairs, ints']
  have reads : ∀ (i : Nat) (v : Value), (∃ hi : i < es.size, v = es[i].val) → ∃ t, v = Value.int (is.getD i 0) t := fun i v ⟨hi, e⟩ => by
    have hi' : i < is.length := many ▸ hi
    have hk : i < kvs.length := ints' ▸ hi'
    have hx : i < xs.length := pairs ▸ hk
    have e1 : es[i] = entryOfKey (tupleKind (mixKind X.prog X.w)) xs[i] := by
      have e2 : es.toList[i]? = (xs.map (entryOfKey (tupleKind (mixKind X.prog X.w))))[i]? := by rw [hes]
      rw [Array.getElem?_toList, Array.getElem?_eq_getElem hi, List.getElem?_map, List.getElem?_eq_getElem hx] at e2
      exact Option.some.inj e2
    have e3 : kvs[i].2 = V.int is[i] := by
      have e4 : (kvs.map (·.2))[i]? = (is.map V.int)[i]? := by rw [hv]
      rw [List.getElem?_map, List.getElem?_map, List.getElem?_eq_getElem hk, List.getElem?_eq_getElem hi'] at e4
      exact Option.some.inj e4
    have hr := paired_at rel i hk hx
    rw [e3] at hr
    rcases hr with ⟨t, e5⟩
    refine ⟨t, ?_⟩
    rw [e, e1, List.getD_eq_getElem?_getD, List.getElem?_eq_getElem hi']
    exact e5
  refine call_sum_walkAnyS ?_
  obtain ⟨oI, St, hit, W, st⟩ := (KdlSrc.rawValues (prog := X.prog) (w := X.w) (r := s1.heap.objs.size) (d := a) (es := es) (ep := ep)).iter X.A.in1 { s1 with heap := s1.heap.push (seen a) } (inv1.ok.hd hc) ⟨⟨_, Heap.get?_push_size _ rfl, rfl, rfl⟩, raw1⟩
  refine hit _ _ ⟨_, _, _, _, es.size, _, _, (fun i => is.getD i 0), rfl, W.toS, st, fun b hb => ?_, reads, fun s' t' mv => ?_⟩
  · have two : ((s1.heap.push (seen a)).push oI).objs.size = s1.heap.objs.size + 1 + 1 := by simp only [Heap.size_push]
    refine Nat.lt_of_lt_of_eq ?_ two.symm
    refine (List.mem_cons.1 hb).elim (fun e => ?_) fun e => ?_
    · rw [e, Heap.size_push]
      exact Nat.lt_succ_self _
    · exact (List.mem_singleton.1 e) ▸ Nat.lt_succ_of_lt (Nat.lt_succ_of_lt lower)
  · have kept : ∀ b u, s1.heap.get? b = some u → s'.heap.get? b = some u := fun b u e =>
      mv.heap b u (fun hI => absurd (Heap.lt_size e) (by rw [List.mem_singleton.1 hI, Heap.size_push]; exact Nat.not_lt.mpr (Nat.le_succ _))) (Heap.get?_push_of_some _ (stays b u e))
    have total : preSum (fun i => is.getD i 0) es.size = is.sum := by
      rw [preSum_is is es.size (Nat.le_of_eq many), many, List.take_length]
    rw [total, Moved.eq_with mv]
    exact ⟨.int _, H1, inv1.kept (t' := s'.toks) kept, ⟨t', rfl⟩, q⟩
end
end Pc

namespace Pc
open PySem PySem.Spec PyProof.Rows L2 Evl
/-! ### names for what the operators ask -/
def rAddI : R2 := rI0 fun i j => .int (i + j)
def rSubI : R2 := rI0 fun i j => .int (i - j)
def rMulI : R2 := rI CMul fun i j => .int (i * j)
def rModI : R2 := rI (fun _ j => 0 < j) fun i j => .int (i % j)
def rFdivI : R2 := rI CDivW fun i j => .int (i / j)
def rAndI : R2 := rI0 fun i j => .int (Builtin.bitAnd i j)
def rOrI : R2 := rI0 fun i j => .int (Builtin.bitOr i j)
def rXorI : R2 := rI0 fun i j => .int (Builtin.bitXor i j)
def rPowI : R2 := rI CPow fun i j => .int (i ^ j.toNat)
def rShlI : R2 := rI CPow fun i j => .int (i * 2 ^ j.toNat)
def rShrI : R2 := rI (fun _ j => 0 ≤ j) fun i j => .int (i / 2 ^ j.toNat)
def rLtI : R2 := rI0 fun i j => .bl (decide (i < j))
def rLeI : R2 := rI0 fun i j => .bl (decide (i ≤ j))
def rGtI : R2 := rI0 fun i j => .bl (decide (j < i))
def rGeI : R2 := rI0 fun i j => .bl (decide (j ≤ i))
def rNegI : V → Hp → VK → Prop := rU fun i => .int (-i)
/-- something asked of what stands before "is None" -/
def rAskN (ask : V → Bool) : R2 := fun one two H Q => two = V.non ∧ Q (V.bl (ask one)) H
def rIsN : R2 := rAskN fun one => decide (one = V.non)
def rNotN : R2 := rAskN fun one => !decide (one = V.non)
def rTupleS (K : PySem.W.Frag) : List V → Hp → VK → Prop := fun xs H Q => ∃ p ys, xs = [.ref p] ∧ ((SqL K H p ys ∧ ∀ l, H l = none → Q (.ref l) (upd H l (.tup ys))) ∨ (SqT K H p ys ∧ Q (.ref p) H))
section
variable {base : Heap} {mg : Str → Option Value} {K : PySem.W.Frag} {w : World} {P : Program}
/-- a def of the text behind the top -/
structure DefAt (K : PySem.W.Frag) (mg : Str → Option Value) (x : Str) (st : Stmt) (ps : List Str) (f : Addr) : Prop where
  g : mg x = some (.ref f)
  fn : ∃ fd, Fun K x x st f fd ∧ Binds K fd ps []
structure ClassAt (K : PySem.W.Frag) (mg : Str → Option Value) (x qual : Str) (st : Stmt) (ps : List Str) (C f : Addr) : Prop where
  g : mg x = some (.ref C)
  cl : Cls K C
  mak : Mk K C f
  fn : ∃ fd, Fun K "__init__" qual st f fd ∧ Binds K fd ps []
/-- a def keeps its promise, and may be called by its name -/
def DefOk (P : Program) (w : World) (K : PySem.W.Frag) (mg : Str → Option Value) (base : Heap) (k : Nat) (f : Addr) (x : Str) (ps : List Str) (sp : Sp) : Prop :=
  mg x = some (.ref f) ∧ PySem.W.keepIn K (.ref f) = true ∧ ∃ fd, FnOk P w K mg base CX0 k f fd ps sp ∧ Binds K fd ps []
def MakeOk (P : Program) (w : World) (K : PySem.W.Frag) (mg : Str → Option Value) (base : Heap) (k : Nat) (C f : Addr) (x : Str) (ps : List Str) (sp : Sp) : Prop :=
  mg x = some (.ref C) ∧ Mk K C f ∧ ∃ fd, FnOk P w K mg base CX0 k f fd ps sp ∧ Binds K fd ps []
/-- a body, begun with what was handed in, does what sp asks -/
abbrev Serves (P : Program) (w : World) (K : PySem.W.Frag) (mg : Str → Option Value) (base : Heap) (k : Nat) (N : List Str) (qual : Str) (st : Stmt) (f : Addr) (sp : Sp) : Prop :=
  ∀ (code : Value) (A : Around) (os : List Env) (sh : Shared) (H : Hp) (given : List V) (Q : VK) (E : XK),
    Room k (A.deeper (envOfC qual (defScope st) sh.heap.objs.size f code)) →
    sp given H Q E →
    ∃ t, PSs (cxOf CX0 P w K mg base N qual (defScope st) f code A os sh H E).nox (defBody st) t ∧ t { nx := fun _ H' => Q .non H', rt := Q } (start N given) H
theorem DefAt.ok {x : Str} {st : Stmt} {ps N : List Str} {f : Addr} {k : Nat} {sp : Sp} (D : DefAt K mg x st ps f) (S : FnScope N ps (defScope st)) (len : ∀ vs H Q E, sp vs H Q E → vs.length = ps.length)
    (serves : Serves P w K mg base k N x st f sp) : DefOk P w K mg base (k + 1) f x ps sp := by
  obtain ⟨fd, F, b⟩ := D.fn
  exact ⟨D.g, F.kp, fd, F.ok S len serves, b⟩
theorem ClassAt.ok {x qual : Str} {st : Stmt} {ps N : List Str} {C f : Addr} {k : Nat} {sp : Sp} (D : ClassAt K mg x qual st ps C f) (S : FnScope N ps (defScope st)) (len : ∀ vs H Q E, sp vs H Q E → vs.length = ps.length)
    (serves : Serves P w K mg base k N qual st f sp) : MakeOk P w K mg base (k + 1) C f x ps sp := by
  obtain ⟨fd, F, b⟩ := D.fn
  exact ⟨D.g, D.mak, fd, F.ok S len serves, b⟩
end
section
variable {X : Cx} {k : Nat} {f C : Addr} {ps : List Str} {sp : Sp} {x : Str} {p pos : Pos} {e : Expr} {es : List Expr} {t : TA}
theorem pe_callD (F : DefOk X.prog X.w X.K X.mg X.base k f x ps sp) (hr : Room k X.A) (hg : Gl X x) (ha : PA X (e :: es) t) (hdb : (x == ("__debug__" : Str)) = false := by decide)
    (nostar : starEach (e :: es) X.env = (false, eval e X.env) :: starEach es X.env := by rfl)
    (nostars : (backTo pos (starEach es X.env)).any (·.1) = false := by rfl) :
    PE X (.Call (.Name x p) (e :: es) [] pos) (tCall sp [] E0 t) := by
  obtain ⟨hm, hk, fd, G, b⟩ := F
  exact pe_call G hr hg hm hk b .nil pass0 ha hdb nostar nostars
theorem pe_callD0 (F : DefOk X.prog X.w X.K X.mg X.base k f x ps sp) (hr : Room k X.A) (hg : Gl X x) (hdb : (x == ("__debug__" : Str)) = false := by decide) : PE X (.Call (.Name x p) [] [] pos) (tCall sp [] E0 tNil) := by
  obtain ⟨hm, hk, fd, G, b⟩ := F
  exact pe_call0 G hr hg hm hk b .nil pass0 hdb
theorem pe_makeD (F : MakeOk X.prog X.w X.K X.mg X.base k C f x ps sp) (hr : Room (k + 1) X.A) (hg : Gl X x) (ha : PA X (e :: es) t) (hdb : (x == ("__debug__" : Str)) = false := by decide)
    (nostar : starEach (e :: es) X.env = (false, eval e X.env) :: starEach es X.env := by rfl)
    (nostars : (backTo pos (starEach es X.env)).any (·.1) = false := by rfl) :
    PE X (.Call (.Name x p) (e :: es) [] pos) (tMake C sp [] E0 t) := by
  obtain ⟨hm, M, fd, G, b⟩ := F
  exact pe_make M G hr hg hm b .nil pass0 ha hdb nostar nostars
theorem pe_makeD0 (F : MakeOk X.prog X.w X.K X.mg X.base k C f x ps sp) (hr : Room (k + 1) X.A) (hg : Gl X x) (hdb : (x == ("__debug__" : Str)) = false := by decide) : PE X (.Call (.Name x p) [] [] pos) (tMake C sp [] E0 tNil) := by
  obtain ⟨hm, M, fd, G, b⟩ := F
  exact pe_make0 M G hr hg hm b .nil pass0 hdb
theorem pe_gi {n : Int} (h : ∃ t, X.mg x = some (.int n t)) (hg : Gl X x) (hd : (x == ("__debug__" : Str)) = false := by decide) : PE X (.Name x pos) (tC (.int n)) := by
  obtain ⟨t, h⟩ := h
  exact pe_glob hg h ⟨t, rfl⟩ hd
end
end Pc

namespace Pc
open PySem PySem.Spec PyProof.Rows L2 Evl
def topS (i : Nat) : Stmt := PySem.Challenge.pw_putcalls_s01_answers.main.body.getD i (.Pass ⟨0, 0, 0, 0⟩)
structure Adr where
  C_Block : Addr
  f_Block : Addr
  C_Function : Addr
  f_Function : Addr
  C_Program : Addr
  f_Program : Addr
  f_calls_among : Addr
  f_all_calls : Addr
  f_row_at : Addr
  f_calls_standing : Addr
  f_has_wrong_name : Addr
  f_is_wrong_target : Addr
  f_add_function : Addr
  f_add_block : Addr
  f_put_row : Addr
  f_add_num : Addr
  f_add_two : Addr
  f_add_say : Addr
  f_add_call : Addr
  f_put_end : Addr
  f_add_jump : Addr
  f_add_fork : Addr
  f_add_give : Addr
  f_is_wrong_way : Addr
  f_is_wrong_ending : Addr
  f_is_wrong_function : Addr
  f_is_wrong_call : Addr
  f_is_sound : Addr
  f_list_in_numbers : Addr
  f_row_in_numbers : Addr
  f_ending_in_numbers : Addr
  f_unended_in_numbers : Addr
  f_function_in_numbers : Addr
  f_program_in_numbers : Addr
  C_Begun : Addr
  f_Begun : Addr
  C_Run : Addr
  f_Run : Addr
  f_result : Addr
  f_word_of : Addr
  f_words_of : Addr
  f_do_two : Addr
  f_do_call : Addr
  f_do_row : Addr
  f_go_on : Addr
  f_give : Addr
  f_do_ending : Addr
  f_do_step : Addr
  f_run_of : Addr
  f_how_it_stands : Addr
  f_times_made : Addr
  f_calls_made : Addr
  f_names_in_row : Addr
  f_names_in_ending : Addr
  f_names_of : Addr
  f_other_names : Addr
  f_first_free_name : Addr
  f_names_above : Addr
  f_row_above : Addr
  f_block_of : Addr
  f_copied_ending : Addr
  f_copied_blocks : Addr
  f_put_in : Addr
  f_with_put_in : Addr
  C_Choice : Addr
  f_Choice : Addr
  f_function_size : Addr
  f_program_size : Addr
  f_may_be_put_in : Addr
  f_all_choices : Addr
  f_size_with : Addr
  f_is_better : Addr
  f_choice_for : Addr
  f_tell_shows : Addr
  f_run_refusal : Addr
  f_choice_refusal : Addr
  f_run_in_numbers : Addr
  f_tell_run : Addr
  f_tell_counts : Addr
  f_is_call_at : Addr
  f_tell_putin : Addr
  f_tell_choose : Addr
  f_with_choice : Addr
  f_tell_runchosen : Addr
  f_tell_whole : Addr
  f_split_calls : Addr
  f_build : Addr
  f_tell : Addr
  f_answer : Addr
  f_answers : Addr
  c_WHOLE_NUMBERS : Addr
  c_HAS_LIST : Addr
structure Top (K : PySem.W.Frag) (mg : Str → Option Value) (A : Adr) : Prop where
  g_ROW_NUM : ∃ t, mg "ROW_NUM" = some (.int 0 t)
  g_ROW_TWO : ∃ t, mg "ROW_TWO" = some (.int 2 t)
  g_ROW_SAY : ∃ t, mg "ROW_SAY" = some (.int 3 t)
  g_ROW_CALL : ∃ t, mg "ROW_CALL" = some (.int 4 t)
  g_END_JUMP : ∃ t, mg "END_JUMP" = some (.int 0 t)
  g_END_FORK : ∃ t, mg "END_FORK" = some (.int 1 t)
  g_END_GIVE : ∃ t, mg "END_GIVE" = some (.int 2 t)
  g_GREATEST_NAME : ∃ t, mg "GREATEST_NAME" = some (.int 23 t)
  g_GREATEST_OPERATION : ∃ t, mg "GREATEST_OPERATION" = some (.int 10 t)
  g_GREATEST_CALLED : ∃ t, mg "GREATEST_CALLED" = some (.int 4 t)
  g_FIRST_TARGET : ∃ t, mg "FIRST_TARGET" = some (.int 1 t)
  g_LAST_TARGET : ∃ t, mg "LAST_TARGET" = some (.int 5 t)
  g_MOST_WORDS : ∃ t, mg "MOST_WORDS" = some (.int 4 t)
  g_MOST_FUNCTIONS : ∃ t, mg "MOST_FUNCTIONS" = some (.int 5 t)
  g_MOST_BLOCKS : ∃ t, mg "MOST_BLOCKS" = some (.int 6 t)
  g_MOST_TAKEN : ∃ t, mg "MOST_TAKEN" = some (.int 4 t)
  g_MOST_ROWS : ∃ t, mg "MOST_ROWS" = some (.int 8 t)
  g_MOST_CALLS : ∃ t, mg "MOST_CALLS" = some (.int 8 t)
  g_MOST_HANDED_TO_FUNCTION : ∃ t, mg "MOST_HANDED_TO_FUNCTION" = some (.int 4 t)
  g_MOST_HANDED_BY_JUMP : ∃ t, mg "MOST_HANDED_BY_JUMP" = some (.int 4 t)
  g_MOST_HANDED_BY_FORK : ∃ t, mg "MOST_HANDED_BY_FORK" = some (.int 8 t)
  g_WORDS : ∃ t, mg "WORDS" = some (.int 4294967296 t)
  g_BITS : ∃ t, mg "BITS" = some (.int 32 t)
  g_SUM : ∃ t, mg "SUM" = some (.int 0 t)
  g_LESS : ∃ t, mg "LESS" = some (.int 1 t)
  g_PRODUCT : ∃ t, mg "PRODUCT" = some (.int 2 t)
  g_AND : ∃ t, mg "AND" = some (.int 3 t)
  g_OR : ∃ t, mg "OR" = some (.int 4 t)
  g_EXCLUSIVE_OR : ∃ t, mg "EXCLUSIVE_OR" = some (.int 5 t)
  g_UP : ∃ t, mg "UP" = some (.int 6 t)
  g_DOWN : ∃ t, mg "DOWN" = some (.int 7 t)
  g_IS_LESS : ∃ t, mg "IS_LESS" = some (.int 8 t)
  g_IS_SAME : ∃ t, mg "IS_SAME" = some (.int 9 t)
  g_QUOTIENT : ∃ t, mg "QUOTIENT" = some (.int 10 t)
  g_MOST_STEPS : ∃ t, mg "MOST_STEPS" = some (.int 1000 t)
  g_NOT_REFUSED : ∃ t, mg "NOT_REFUSED" = some (.int 0 t)
  g_FUNCTION : ∃ t, mg "FUNCTION" = some (.int 0 t)
  g_BLOCK : ∃ t, mg "BLOCK" = some (.int 1 t)
  g_NUM : ∃ t, mg "NUM" = some (.int 2 t)
  g_TWO : ∃ t, mg "TWO" = some (.int 3 t)
  g_SAY : ∃ t, mg "SAY" = some (.int 4 t)
  g_CALL : ∃ t, mg "CALL" = some (.int 5 t)
  g_JUMP : ∃ t, mg "JUMP" = some (.int 6 t)
  g_FORK : ∃ t, mg "FORK" = some (.int 7 t)
  g_GIVE : ∃ t, mg "GIVE" = some (.int 8 t)
  g_SHOWS : ∃ t, mg "SHOWS" = some (.int 9 t)
  g_RUN : ∃ t, mg "RUN" = some (.int 10 t)
  g_COUNTS : ∃ t, mg "COUNTS" = some (.int 11 t)
  g_PUTIN : ∃ t, mg "PUTIN" = some (.int 12 t)
  g_CHOOSE : ∃ t, mg "CHOOSE" = some (.int 13 t)
  g_RUNCHOSEN : ∃ t, mg "RUNCHOSEN" = some (.int 14 t)
  g_WHOLE_NUMBERS : mg "WHOLE_NUMBERS" = some (.ref A.c_WHOLE_NUMBERS)
  s_WHOLE_NUMBERS : ∀ H, SqT K H A.c_WHOLE_NUMBERS [.int 1, .int 0, .int 2, .int 4, .int 1, .int 2, .int 1, .int 4, .int 1, .int 0, .int 2, .int 2, .int 3, .int 3, .int 3, .int 3]
  g_HAS_LIST : mg "HAS_LIST" = some (.ref A.c_HAS_LIST)
  s_HAS_LIST : ∀ H, SqT K H A.c_HAS_LIST [.bl false, .bl true, .bl false, .bl false, .bl false, .bl true, .bl true, .bl true, .bl false, .bl false, .bl true, .bl true, .bl false, .bl true, .bl true, .bl true]
  z_any : mg "any" = none
  z_len : mg "len" = none
  z_list : mg "list" = none
  z_range : mg "range" = none
  z_reversed : mg "reversed" = none
  z_set : mg "set" = none
  z_sorted : mg "sorted" = none
  z_sum : mg "sum" = none
  z_tuple : mg "tuple" = none
  d_Block : ClassAt K mg "Block" "Block.__init__" (inClass (topS 8) 0) ["self", "taken"] A.C_Block A.f_Block
  n_Block_taken : NoAttr K A.C_Block "taken"
  n_Block_rows : NoAttr K A.C_Block "rows"
  n_Block_ending : NoAttr K A.C_Block "ending"
  d_Function : ClassAt K mg "Function" "Function.__init__" (inClass (topS 9) 0) ["self", "handed"] A.C_Function A.f_Function
  n_Function_handed : NoAttr K A.C_Function "handed"
  n_Function_blocks : NoAttr K A.C_Function "blocks"
  d_Program : ClassAt K mg "Program" "Program.__init__" (inClass (topS 10) 0) ["self"] A.C_Program A.f_Program
  n_Program_functions : NoAttr K A.C_Program "functions"
  n_Program_unended : NoAttr K A.C_Program "unended"
  d_calls_among : DefAt K mg "calls_among" (topS 11) ["rows"] A.f_calls_among
  d_all_calls : DefAt K mg "all_calls" (topS 12) ["program"] A.f_all_calls
  d_row_at : DefAt K mg "row_at" (topS 13) ["program", "place"] A.f_row_at
  d_calls_standing : DefAt K mg "calls_standing" (topS 14) ["program"] A.f_calls_standing
  d_has_wrong_name : DefAt K mg "has_wrong_name" (topS 30) ["names"] A.f_has_wrong_name
  d_is_wrong_target : DefAt K mg "is_wrong_target" (topS 31) ["block"] A.f_is_wrong_target
  d_add_function : DefAt K mg "add_function" (topS 32) ["program", "k"] A.f_add_function
  d_add_block : DefAt K mg "add_block" (topS 33) ["program", "taken"] A.f_add_block
  d_put_row : DefAt K mg "put_row" (topS 34) ["program", "row", "names"] A.f_put_row
  d_add_num : DefAt K mg "add_num" (topS 35) ["program", "x", "n"] A.f_add_num
  d_add_two : DefAt K mg "add_two" (topS 36) ["program", "x", "o", "a", "b"] A.f_add_two
  d_add_say : DefAt K mg "add_say" (topS 37) ["program", "a"] A.f_add_say
  d_add_call : DefAt K mg "add_call" (topS 38) ["program", "x", "g", "handed"] A.f_add_call
  d_put_end : DefAt K mg "put_end" (topS 39) ["program", "ending"] A.f_put_end
  d_add_jump : DefAt K mg "add_jump" (topS 40) ["program", "t", "handed"] A.f_add_jump
  d_add_fork : DefAt K mg "add_fork" (topS 41) ["program", "v", "t", "u", "n", "handed"] A.f_add_fork
  d_add_give : DefAt K mg "add_give" (topS 42) ["program", "v"] A.f_add_give
  d_is_wrong_way : DefAt K mg "is_wrong_way" (topS 44) ["function", "t", "handed"] A.f_is_wrong_way
  d_is_wrong_ending : DefAt K mg "is_wrong_ending" (topS 45) ["function", "ending"] A.f_is_wrong_ending
  d_is_wrong_function : DefAt K mg "is_wrong_function" (topS 46) ["function"] A.f_is_wrong_function
  d_is_wrong_call : DefAt K mg "is_wrong_call" (topS 47) ["program", "row"] A.f_is_wrong_call
  d_is_sound : DefAt K mg "is_sound" (topS 48) ["program"] A.f_is_sound
  d_list_in_numbers : DefAt K mg "list_in_numbers" (topS 50) ["names"] A.f_list_in_numbers
  d_row_in_numbers : DefAt K mg "row_in_numbers" (topS 51) ["row"] A.f_row_in_numbers
  d_ending_in_numbers : DefAt K mg "ending_in_numbers" (topS 52) ["ending"] A.f_ending_in_numbers
  d_unended_in_numbers : DefAt K mg "unended_in_numbers" (topS 53) ["block"] A.f_unended_in_numbers
  d_function_in_numbers : DefAt K mg "function_in_numbers" (topS 54) ["function"] A.f_function_in_numbers
  d_program_in_numbers : DefAt K mg "program_in_numbers" (topS 55) ["program"] A.f_program_in_numbers
  d_Begun : ClassAt K mg "Begun" "Begun.__init__" (inClass (topS 70) 0) ["self", "f", "handed", "getter"] A.C_Begun A.f_Begun
  n_Begun_f : NoAttr K A.C_Begun "f"
  n_Begun_b : NoAttr K A.C_Begun "b"
  n_Begun_r : NoAttr K A.C_Begun "r"
  n_Begun_getter : NoAttr K A.C_Begun "getter"
  n_Begun_words : NoAttr K A.C_Begun "words"
  d_Run : ClassAt K mg "Run" "Run.__init__" (inClass (topS 71) 0) ["self", "program", "f", "handed"] A.C_Run A.f_Run
  n_Run_program : NoAttr K A.C_Run "program"
  n_Run_begun : NoAttr K A.C_Run "begun"
  n_Run_said : NoAttr K A.C_Run "said"
  n_Run_made : NoAttr K A.C_Run "made"
  n_Run_failed : NoAttr K A.C_Run "failed"
  n_Run_given : NoAttr K A.C_Run "given"
  d_result : DefAt K mg "result" (topS 72) ["o", "first", "second"] A.f_result
  d_word_of : DefAt K mg "word_of" (topS 73) ["begun", "name"] A.f_word_of
  d_words_of : DefAt K mg "words_of" (topS 74) ["begun", "names"] A.f_words_of
  d_do_two : DefAt K mg "do_two" (topS 75) ["run", "begun", "row"] A.f_do_two
  d_do_call : DefAt K mg "do_call" (topS 76) ["run", "begun", "row"] A.f_do_call
  d_do_row : DefAt K mg "do_row" (topS 77) ["run", "begun", "row"] A.f_do_row
  d_go_on : DefAt K mg "go_on" (topS 78) ["run", "begun", "t", "handed"] A.f_go_on
  d_give : DefAt K mg "give" (topS 79) ["run", "word"] A.f_give
  d_do_ending : DefAt K mg "do_ending" (topS 80) ["run", "begun", "ending"] A.f_do_ending
  d_do_step : DefAt K mg "do_step" (topS 81) ["run"] A.f_do_step
  d_run_of : DefAt K mg "run_of" (topS 82) ["program", "f", "n", "words"] A.f_run_of
  d_how_it_stands : DefAt K mg "how_it_stands" (topS 83) ["run"] A.f_how_it_stands
  d_times_made : DefAt K mg "times_made" (topS 84) ["run", "place"] A.f_times_made
  d_calls_made : DefAt K mg "calls_made" (topS 85) ["run"] A.f_calls_made
  d_names_in_row : DefAt K mg "names_in_row" (topS 87) ["row"] A.f_names_in_row
  d_names_in_ending : DefAt K mg "names_in_ending" (topS 88) ["ending"] A.f_names_in_ending
  d_names_of : DefAt K mg "names_of" (topS 89) ["function"] A.f_names_of
  d_other_names : DefAt K mg "other_names" (topS 90) ["function"] A.f_other_names
  d_first_free_name : DefAt K mg "first_free_name" (topS 91) ["function"] A.f_first_free_name
  d_names_above : DefAt K mg "names_above" (topS 92) ["names", "d"] A.f_names_above
  d_row_above : DefAt K mg "row_above" (topS 93) ["row", "d"] A.f_row_above
  d_block_of : DefAt K mg "block_of" (topS 95) ["taken", "rows", "ending"] A.f_block_of
  d_copied_ending : DefAt K mg "copied_ending" (topS 96) ["ending", "d", "n", "c"] A.f_copied_ending
  d_copied_blocks : DefAt K mg "copied_blocks" (topS 97) ["called", "d", "n", "c"] A.f_copied_blocks
  d_put_in : DefAt K mg "put_in" (topS 98) ["function", "functions", "b", "r"] A.f_put_in
  d_with_put_in : DefAt K mg "with_put_in" (topS 99) ["program", "places"] A.f_with_put_in
  d_Choice : ClassAt K mg "Choice" "Choice.__init__" (inClass (topS 101) 0) ["self", "places", "spared", "size"] A.C_Choice A.f_Choice
  n_Choice_places : NoAttr K A.C_Choice "places"
  n_Choice_spared : NoAttr K A.C_Choice "spared"
  n_Choice_size : NoAttr K A.C_Choice "size"
  d_function_size : DefAt K mg "function_size" (topS 102) ["function"] A.f_function_size
  d_program_size : DefAt K mg "program_size" (topS 103) ["program"] A.f_program_size
  d_may_be_put_in : DefAt K mg "may_be_put_in" (topS 104) ["program"] A.f_may_be_put_in
  d_all_choices : DefAt K mg "all_choices" (topS 105) ["places"] A.f_all_choices
  d_size_with : DefAt K mg "size_with" (topS 106) ["program", "own_sizes", "own_names", "places"] A.f_size_with
  d_is_better : DefAt K mg "is_better" (topS 107) ["one", "other"] A.f_is_better
  d_choice_for : DefAt K mg "choice_for" (topS 108) ["program", "size", "run"] A.f_choice_for
  d_tell_shows : DefAt K mg "tell_shows" (topS 112) ["program"] A.f_tell_shows
  d_run_refusal : DefAt K mg "run_refusal" (topS 113) ["program", "f", "n", "words"] A.f_run_refusal
  d_choice_refusal : DefAt K mg "choice_refusal" (topS 114) ["program", "size", "f", "n", "words"] A.f_choice_refusal
  d_run_in_numbers : DefAt K mg "run_in_numbers" (topS 115) ["run"] A.f_run_in_numbers
  d_tell_run : DefAt K mg "tell_run" (topS 116) ["program", "f", "n", "words"] A.f_tell_run
  d_tell_counts : DefAt K mg "tell_counts" (topS 117) ["program", "f", "n", "words"] A.f_tell_counts
  d_is_call_at : DefAt K mg "is_call_at" (topS 118) ["program", "f", "b", "r"] A.f_is_call_at
  d_tell_putin : DefAt K mg "tell_putin" (topS 119) ["program", "f", "b", "r"] A.f_tell_putin
  d_tell_choose : DefAt K mg "tell_choose" (topS 120) ["program", "size", "f", "n", "words"] A.f_tell_choose
  d_with_choice : DefAt K mg "with_choice" (topS 121) ["program", "size", "f", "n", "words"] A.f_with_choice
  d_tell_runchosen : DefAt K mg "tell_runchosen" (topS 122) ["program", "size", "f", "n", "words"] A.f_tell_runchosen
  d_tell_whole : DefAt K mg "tell_whole" (topS 123) ["program", "size", "f", "n", "words"] A.f_tell_whole
  d_split_calls : DefAt K mg "split_calls" (topS 142) ["calls"] A.f_split_calls
  d_build : DefAt K mg "build" (topS 143) ["program", "kind", "numbers", "listed"] A.f_build
  d_tell : DefAt K mg "tell" (topS 144) ["program", "kind", "numbers", "listed"] A.f_tell
  d_answer : DefAt K mg "answer" (topS 145) ["program", "kind", "numbers", "listed"] A.f_answer
  d_answers : DefAt K mg "answers" (topS 146) ["calls"] A.f_answers
section
variable {P : Program} {w : World} {K : PySem.W.Frag} {mg : Str → Option Value} {base : Heap} {A : Adr}
/-! ### Block (line 11) -/
abbrev s_Block : Stmt := inClass (topS 8) 0
abbrev N_Block : List Str := ["self", "taken"]
theorem sc_Block : FnScope N_Block ["self", "taken"] (defScope s_Block) := ⟨rfl, rfl, rfl, by decide +kernel, rfl, by decide +kernel, by decide +kernel⟩
def t_Block (K : PySem.W.Frag) (w : World) (A : Adr) : TS :=
  (tSeq (sFld K (tVar 0) (tVar 1) "taken")
    (tSeq (sFld K (tVar 0) (tLst tNil) "rows")
    (sFld K (tVar 0) (tC .non) "ending")))
theorem dv_Block {sp : Sp} (T : Top K mg A) (len : ∀ vs H Q E, sp vs H Q E → vs.length = 2)
    (h : ∀ vs H Q E, sp vs H Q E → t_Block K w A { nx := fun _ H' => Q .non H', rt := Q } (start N_Block vs) H) : MakeOk P w K mg base 1 A.C_Block A.f_Block "Block" ["self", "taken"] sp := by
  refine T.d_Block.ok sc_Block len (fun cdv Ar outer s H vs Q E hr q => ⟨t_Block K w A, ?_, h vs H Q E q⟩)
  exact (pss_cons (ps_fld (pv 0) (pv 1) rfl)
      (pss_cons (ps_fld (pv 0) (pe_lst pa_nil) rfl)
      (pss_one (ps_fld (pv 0) pe_non rfl))))
/-! ### Function (line 17) -/
abbrev s_Function : Stmt := inClass (topS 9) 0
abbrev N_Function : List Str := ["self", "handed"]
theorem sc_Function : FnScope N_Function ["self", "handed"] (defScope s_Function) := ⟨rfl, rfl, rfl, by decide +kernel, rfl, by decide +kernel, by decide +kernel⟩
def t_Function (K : PySem.W.Frag) (w : World) (A : Adr) : TS :=
  (tSeq (sFld K (tVar 0) (tVar 1) "handed")
    (sFld K (tVar 0) (tLst tNil) "blocks"))
theorem dv_Function {sp : Sp} (T : Top K mg A) (len : ∀ vs H Q E, sp vs H Q E → vs.length = 2)
    (h : ∀ vs H Q E, sp vs H Q E → t_Function K w A { nx := fun _ H' => Q .non H', rt := Q } (start N_Function vs) H) : MakeOk P w K mg base 1 A.C_Function A.f_Function "Function" ["self", "handed"] sp := by
  refine T.d_Function.ok sc_Function len (fun cdv Ar outer s H vs Q E hr q => ⟨t_Function K w A, ?_, h vs H Q E q⟩)
  exact (pss_cons (ps_fld (pv 0) (pv 1) rfl)
      (pss_one (ps_fld (pv 0) (pe_lst pa_nil) rfl)))
/-! ### Program (line 22) -/
abbrev s_Program : Stmt := inClass (topS 10) 0
abbrev N_Program : List Str := ["self"]
theorem sc_Program : FnScope N_Program ["self"] (defScope s_Program) := ⟨rfl, rfl, rfl, by decide +kernel, rfl, by decide +kernel, by decide +kernel⟩
def t_Program (K : PySem.W.Frag) (w : World) (A : Adr) : TS :=
  (tSeq (sFld K (tVar 0) (tLst tNil) "functions")
    (sFld K (tVar 0) (tC .non) "unended"))
theorem dv_Program {sp : Sp} (T : Top K mg A) (len : ∀ vs H Q E, sp vs H Q E → vs.length = 1)
    (h : ∀ vs H Q E, sp vs H Q E → t_Program K w A { nx := fun _ H' => Q .non H', rt := Q } (start N_Program vs) H) : MakeOk P w K mg base 1 A.C_Program A.f_Program "Program" ["self"] sp := by
  refine T.d_Program.ok sc_Program len (fun cdv Ar outer s H vs Q E hr q => ⟨t_Program K w A, ?_, h vs H Q E q⟩)
  exact (pss_cons (ps_fld (pv 0) (pe_lst pa_nil) rfl)
      (pss_one (ps_fld (pv 0) pe_non rfl)))
/-! ### calls_among (line 25) -/
abbrev s_calls_among : Stmt := topS 11
abbrev N_calls_among : List Str := ["rows", "r"]
theorem sc_calls_among : FnScope N_calls_among ["rows"] (defScope s_calls_among) := ⟨rfl, rfl, rfl, by decide +kernel, rfl, by decide +kernel, by decide +kernel⟩
def t_calls_among (K : PySem.W.Frag) (w : World) (A : Adr) : TS :=
  (tRet (tLc (iRng1 (tCons (tCB (rLenS K) (tCons (tVar 0) tNil)) tNil)) (gName 1) (tTest (tOp rEq (tOp (rIxT K) (tOp (rIxL K) (tVar 0) (tVar 1)) (tC (.int 0))) (tC (.int 4)))) (tVar 1) [1]))
theorem dv_calls_among {sp : Sp} (T : Top K mg A) (len : ∀ vs H Q E, sp vs H Q E → vs.length = 1)
    (h : ∀ vs H Q E, sp vs H Q E → t_calls_among K w A { nx := fun _ H' => Q .non H', rt := Q } (start N_calls_among vs) H) : DefOk P w K mg base 1 A.f_calls_among "calls_among" ["rows"] sp := by
  refine T.d_calls_among.ok sc_calls_among len (fun cdv Ar outer s H vs Q E hr q => ⟨t_calls_among K w A, ?_, h vs H Q E q⟩)
  exact (pss_one (ps_ret (pe_lc (own := [("r", 1)]) (g := gName 1) rfl sc_calls_among.nd (pi_range1 (by rfl) T.z_range (pa_cons (pe_callB call_len_seq (by rfl) T.z_len PySem.boot_len (pa_cons (pv 0) pa_nil)) pa_nil)) (blkOk_by (own := [("r", 1)]) (N := N_calls_among) (sc := defScope s_calls_among) (by decide +kernel)) (fun _ _ _ _ _ => pg_name (i := 1) sc_calls_among.nd rfl (Or.inl rfl)) (fun _ _ _ _ _ => (pts_one (pt_cmpR op_eq (pe_ix ix_tup (pe_ix ix_list (pv 0) (pv 1) (fun _ _ => rfl)) pe_int (fun _ _ => rfl)) (pe_gi T.g_ROW_CALL rfl) (nomark _)))) (fun _ _ _ _ _ => (pv 1)))))
/-! ### all_calls (line 27) -/
abbrev s_all_calls : Stmt := topS 12
abbrev N_all_calls : List Str := ["program", "places", "f", "blocks", "b", "r"]
theorem sc_all_calls : FnScope N_all_calls ["program"] (defScope s_all_calls) := ⟨rfl, rfl, rfl, by decide +kernel, rfl, by decide +kernel, by decide +kernel⟩
def t_all_calls (K : PySem.W.Frag) (w : World) (A : Adr) (sp_calls_among : Sp) : TS :=
  (tSeq (tAsg (tLst tNil) (gName 1))
    (tSeq (tFor (iRng1 (tCons (tCB (rLenS K) (tCons (tFld K (tVar 0) "functions") tNil)) tNil)) (gName 2) (tSeq (tAsg (tFld K (tOp (rIxL K) (tFld K (tVar 0) "functions") (tVar 2)) "blocks") (gName 3))
    (tFor (iRng1 (tCons (tCB (rLenS K) (tCons (tVar 3) tNil)) tNil)) (gName 4) (tDrop (tBM K "list" rExtend (tVar 1) (tCons (tLc (iList K (tCall sp_calls_among [] E0 (tCons (tFld K (tOp (rIxL K) (tVar 3) (tVar 4)) "rows") tNil))) (gName 5) tYes (tTup (tCons (tVar 2) (tCons (tVar 4) (tCons (tVar 5) tNil)))) [5]) tNil))))))
    (tRet (tVar 1))))
theorem dv_all_calls {sp : Sp} {sp_calls_among : Sp} (T : Top K mg A)
    (O_calls_among : DefOk P w K mg base 1 A.f_calls_among "calls_among" ["rows"] sp_calls_among) (len : ∀ vs H Q E, sp vs H Q E → vs.length = 1)
    (h : ∀ vs H Q E, sp vs H Q E → t_all_calls K w A sp_calls_among { nx := fun _ H' => Q .non H', rt := Q } (start N_all_calls vs) H) : DefOk P w K mg base 2 A.f_all_calls "all_calls" ["program"] sp := by
  refine T.d_all_calls.ok sc_all_calls len (fun cdv Ar outer s H vs Q E hr q => ⟨t_all_calls K w A sp_calls_among, ?_, h vs H Q E q⟩)
  exact (pss_cons (ps_set (i := 1) sc_all_calls.nd rfl (.inl rfl) (pe_lst pa_nil))
      (pss_cons (ps_for PassesOwn.never rfl (pi_range1 (by rfl) T.z_range (pa_cons (pe_callB call_len_seq (by rfl) T.z_len PySem.boot_len (pa_cons (pe_fld (pv 0) rfl) pa_nil)) pa_nil)) (pg_name (i := 2) sc_all_calls.nd rfl (.inr rfl)) (pss_cons (ps_set (i := 3) sc_all_calls.nd rfl (.inl rfl) (pe_fld (pe_ix ix_list (pe_fld (pv 0) rfl) (pv 2) (fun _ _ => rfl)) rfl))
      (pss_one (ps_for PassesOwn.never rfl (pi_range1 (by rfl) T.z_range (pa_cons (pe_callB call_len_seq (by rfl) T.z_len PySem.boot_len (pa_cons (pv 3) pa_nil)) pa_nil)) (pg_name (i := 4) sc_all_calls.nd rfl (.inr rfl)) (pss_one (ps_expr (pe_bm PySem.F.plainAttrs_list PySem.F.slot_list_extend PySem.F.type_list_extend mt_extend (pv 1) (pa_cons (pe_lc (own := [("r", 5)]) (g := gName 5) rfl sc_all_calls.nd (pi_list (pe_callD O_calls_among (hr.mono (by decide)) rfl (pa_cons (pe_fld (pe_ix ix_list (pv 3) (pv 4) (fun _ _ => rfl)) rfl) pa_nil))) (blkOk_by (own := [("r", 5)]) (N := N_all_calls) (sc := defScope s_all_calls) (by decide +kernel)) (fun _ _ _ _ _ => pg_name (i := 5) sc_all_calls.nd rfl (Or.inl rfl)) (fun _ _ _ _ _ => pts_nil) (fun _ _ _ _ _ => (pe_tup (pa_cons (pv 2) (pa_cons (pv 4) (pa_cons (pv 5) pa_nil)))))) pa_nil))))))))
      (pss_one (ps_ret (pv 1)))))
/-! ### row_at (line 34) -/
abbrev s_row_at : Stmt := topS 13
abbrev N_row_at : List Str := ["program", "place"]
theorem sc_row_at : FnScope N_row_at ["program", "place"] (defScope s_row_at) := ⟨rfl, rfl, rfl, by decide +kernel, rfl, by decide +kernel, by decide +kernel⟩
def t_row_at (K : PySem.W.Frag) (w : World) (A : Adr) : TS :=
  (tRet (tOp (rIxL K) (tFld K (tOp (rIxL K) (tFld K (tOp (rIxL K) (tFld K (tVar 0) "functions") (tOp (rIxT K) (tVar 1) (tC (.int 0)))) "blocks") (tOp (rIxT K) (tVar 1) (tC (.int 1)))) "rows") (tOp (rIxT K) (tVar 1) (tC (.int 2)))))
theorem dv_row_at {sp : Sp} (T : Top K mg A) (len : ∀ vs H Q E, sp vs H Q E → vs.length = 2)
    (h : ∀ vs H Q E, sp vs H Q E → t_row_at K w A { nx := fun _ H' => Q .non H', rt := Q } (start N_row_at vs) H) : DefOk P w K mg base 1 A.f_row_at "row_at" ["program", "place"] sp := by
  refine T.d_row_at.ok sc_row_at len (fun cdv Ar outer s H vs Q E hr q => ⟨t_row_at K w A, ?_, h vs H Q E q⟩)
  exact (pss_one (ps_ret (pe_ix ix_list (pe_fld (pe_ix ix_list (pe_fld (pe_ix ix_list (pe_fld (pv 0) rfl) (pe_ix ix_tup (pv 1) pe_int (fun _ _ => rfl)) (fun _ _ => rfl)) rfl) (pe_ix ix_tup (pv 1) pe_int (fun _ _ => rfl)) (fun _ _ => rfl)) rfl) (pe_ix ix_tup (pv 1) pe_int (fun _ _ => rfl)) (fun _ _ => rfl))))
/-! ### calls_standing (line 36) -/
abbrev s_calls_standing : Stmt := topS 14
abbrev N_calls_standing : List Str := ["program", "standing"]
theorem sc_calls_standing : FnScope N_calls_standing ["program"] (defScope s_calls_standing) := ⟨rfl, rfl, rfl, by decide +kernel, rfl, by decide +kernel, by decide +kernel⟩
def t_calls_standing (K : PySem.W.Frag) (w : World) (A : Adr) (sp_all_calls sp_calls_among : Sp) : TS :=
  (tSeq (tAsg (tCB (rLenS K) (tCons (tCall sp_all_calls [] E0 (tCons (tVar 0) tNil)) tNil)) (gName 1))
    (tSeq (tIfS (tTest (tOp rNotN (tFld K (tVar 0) "unended") (tC .non))) (tAug 1 (tCB (rLenS K) (tCons (tCall sp_calls_among [] E0 (tCons (tFld K (tFld K (tVar 0) "unended") "rows") tNil)) tNil)) (ipI fun i j => i + j)) tNext)
    (tRet (tVar 1))))
theorem dv_calls_standing {sp : Sp} {sp_all_calls sp_calls_among : Sp} (T : Top K mg A)
    (O_all_calls : DefOk P w K mg base 2 A.f_all_calls "all_calls" ["program"] sp_all_calls)
    (O_calls_among : DefOk P w K mg base 1 A.f_calls_among "calls_among" ["rows"] sp_calls_among) (len : ∀ vs H Q E, sp vs H Q E → vs.length = 1)
    (h : ∀ vs H Q E, sp vs H Q E → t_calls_standing K w A sp_all_calls sp_calls_among { nx := fun _ H' => Q .non H', rt := Q } (start N_calls_standing vs) H) : DefOk P w K mg base 3 A.f_calls_standing "calls_standing" ["program"] sp := by
  refine T.d_calls_standing.ok sc_calls_standing len (fun cdv Ar outer s H vs Q E hr q => ⟨t_calls_standing K w A sp_all_calls sp_calls_among, ?_, h vs H Q E q⟩)
  exact (pss_cons (ps_set (i := 1) sc_calls_standing.nd rfl (.inl rfl) (pe_callB call_len_seq (by rfl) T.z_len PySem.boot_len (pa_cons (pe_callD O_all_calls (hr.mono (by decide)) rfl (pa_cons (pv 0) pa_nil)) pa_nil)))
      (pss_cons (ps_if (pt_cmpR op_notN (pe_fld (pv 0) rfl) pe_non (nomark _)) (pss_one (ps_aug (i := 1) sc_calls_standing.nd rfl (.inl rfl) (pe_callB call_len_seq (by rfl) T.z_len PySem.boot_len (pa_cons (pe_callD O_calls_among (hr.mono (by decide)) rfl (pa_cons (pe_fld (pe_fld (pv 0) rfl) rfl) pa_nil)) pa_nil)) ip_add)) pss_nil)
      (pss_one (ps_ret (pv 1)))))
/-! ### has_wrong_name (line 56) -/
abbrev s_has_wrong_name : Stmt := topS 30
abbrev N_has_wrong_name : List Str := ["names", "name"]
theorem sc_has_wrong_name : FnScope N_has_wrong_name ["names"] (defScope s_has_wrong_name) := ⟨rfl, rfl, rfl, by decide +kernel, rfl, by decide +kernel, by decide +kernel⟩
def t_has_wrong_name (K : PySem.W.Frag) (w : World) (A : Adr) : TS :=
  (tRet (tCB (rAny K) (tCons (tLc (iList K (tVar 0)) (gName 1) tYes (tOp rGtI (tVar 1) (tC (.int 23))) [1]) tNil)))
theorem dv_has_wrong_name {sp : Sp} (T : Top K mg A) (len : ∀ vs H Q E, sp vs H Q E → vs.length = 1)
    (h : ∀ vs H Q E, sp vs H Q E → t_has_wrong_name K w A { nx := fun _ H' => Q .non H', rt := Q } (start N_has_wrong_name vs) H) : DefOk P w K mg base 1 A.f_has_wrong_name "has_wrong_name" ["names"] sp := by
  refine T.d_has_wrong_name.ok sc_has_wrong_name len (fun cdv Ar outer s H vs Q E hr q => ⟨t_has_wrong_name K w A, ?_, h vs H Q E q⟩)
  exact (pss_one (ps_ret (pe_callB (cr_any rfl) (by rfl) T.z_any (by decide +kernel) (pa_cons (pe_lc (own := [("name", 1)]) (g := gName 1) rfl sc_has_wrong_name.nd (pi_list (pv 0)) (blkOk_by (own := [("name", 1)]) (N := N_has_wrong_name) (sc := defScope s_has_wrong_name) (by decide +kernel)) (fun _ _ _ _ _ => pg_name (i := 1) sc_has_wrong_name.nd rfl (Or.inl rfl)) (fun _ _ _ _ _ => pts_nil) (fun _ _ _ _ _ => (pe_cmpR op_gt (pv 1) (pe_gi T.g_GREATEST_NAME rfl) (nomark _)))) pa_nil))))
/-! ### is_wrong_target (line 58) -/
abbrev s_is_wrong_target : Stmt := topS 31
abbrev N_is_wrong_target : List Str := ["block"]
theorem sc_is_wrong_target : FnScope N_is_wrong_target ["block"] (defScope s_is_wrong_target) := ⟨rfl, rfl, rfl, by decide +kernel, rfl, by decide +kernel, by decide +kernel⟩
def t_is_wrong_target (K : PySem.W.Frag) (w : World) (A : Adr) : TS :=
  (tRet (tOrV (tOp rLtI (tVar 0) (tC (.int 1))) (tOp rGtI (tVar 0) (tC (.int 5)))))
theorem dv_is_wrong_target {sp : Sp} (T : Top K mg A) (len : ∀ vs H Q E, sp vs H Q E → vs.length = 1)
    (h : ∀ vs H Q E, sp vs H Q E → t_is_wrong_target K w A { nx := fun _ H' => Q .non H', rt := Q } (start N_is_wrong_target vs) H) : DefOk P w K mg base 1 A.f_is_wrong_target "is_wrong_target" ["block"] sp := by
  refine T.d_is_wrong_target.ok sc_is_wrong_target len (fun cdv Ar outer s H vs Q E hr q => ⟨t_is_wrong_target K w A, ?_, h vs H Q E q⟩)
  exact (pss_one (ps_ret (pe_or (pe_cmpR op_lt (pv 0) (pe_gi T.g_FIRST_TARGET rfl) (nomark _)) (pe_one (pe_cmpR op_gt (pv 0) (pe_gi T.g_LAST_TARGET rfl) (nomark _))))))
/-! ### add_function (line 60) -/
abbrev s_add_function : Stmt := topS 32
abbrev N_add_function : List Str := ["program", "k"]
theorem sc_add_function : FnScope N_add_function ["program", "k"] (defScope s_add_function) := ⟨rfl, rfl, rfl, by decide +kernel, rfl, by decide +kernel, by decide +kernel⟩
def t_add_function (K : PySem.W.Frag) (w : World) (A : Adr) (sp_Function : Sp) : TS :=
  (tSeq (tIfS (tTest (tOp rNotN (tFld K (tVar 0) "unended") (tC .non))) (tRet (tUn rNegI (tC (.int 3)))) tNext)
    (tSeq (tIfS (tOr (tTest (tOp rGtI (tVar 1) (tC (.int 4)))) (tTest (tOp rGeI (tCB (rLenS K) (tCons (tFld K (tVar 0) "functions") tNil)) (tC (.int 5))))) (tRet (tUn rNegI (tC (.int 1)))) tNext)
    (tSeq (tDrop (tBM K "list" rAppend (tFld K (tVar 0) "functions") (tCons (tMake A.C_Function sp_Function [] E0 (tCons (tVar 1) tNil)) tNil)))
    (tRet (tOp rSubI (tCB (rLenS K) (tCons (tFld K (tVar 0) "functions") tNil)) (tC (.int 1)))))))
theorem dv_add_function {sp : Sp} {sp_Function : Sp} (T : Top K mg A)
    (O_Function : MakeOk P w K mg base 1 A.C_Function A.f_Function "Function" ["self", "handed"] sp_Function) (len : ∀ vs H Q E, sp vs H Q E → vs.length = 2)
    (h : ∀ vs H Q E, sp vs H Q E → t_add_function K w A sp_Function { nx := fun _ H' => Q .non H', rt := Q } (start N_add_function vs) H) : DefOk P w K mg base 3 A.f_add_function "add_function" ["program", "k"] sp := by
  refine T.d_add_function.ok sc_add_function len (fun cdv Ar outer s H vs Q E hr q => ⟨t_add_function K w A sp_Function, ?_, h vs H Q E q⟩)
  exact (pss_cons (ps_if (pt_cmpR op_notN (pe_fld (pv 0) rfl) pe_non (nomark _)) (pss_one (ps_ret (pe_un un_neg pe_int))) pss_nil)
      (pss_cons (ps_if (PW.pt (pw_or (pt_cmpR op_gt (pv 1) (pe_gi T.g_MOST_WORDS rfl) (nomark _)) (pw_or1 (pt_cmpR op_ge (pe_callB call_len_seq (by rfl) T.z_len PySem.boot_len (pa_cons (pe_fld (pv 0) rfl) pa_nil)) (pe_gi T.g_MOST_FUNCTIONS rfl) (nomark _))))) (pss_one (ps_ret (pe_un un_neg pe_int))) pss_nil)
      (pss_cons (ps_expr (pe_bm PySem.F.plainAttrs_list PySem.F.slot_list_append PySem.F.type_list_append mt_append (pe_fld (pv 0) rfl) (pa_cons (pe_makeD O_Function (hr.mono (by decide)) rfl (pa_cons (pv 1) pa_nil)) pa_nil)))
      (pss_one (ps_ret (pe_op op_sub (pe_callB call_len_seq (by rfl) T.z_len PySem.boot_len (pa_cons (pe_fld (pv 0) rfl) pa_nil)) pe_int))))))
/-! ### add_block (line 67) -/
abbrev s_add_block : Stmt := topS 33
abbrev N_add_block : List Str := ["program", "taken", "blocks"]
theorem sc_add_block : FnScope N_add_block ["program", "taken"] (defScope s_add_block) := ⟨rfl, rfl, rfl, by decide +kernel, rfl, by decide +kernel, by decide +kernel⟩
def t_add_block (K : PySem.W.Frag) (w : World) (A : Adr) (sp_has_wrong_name sp_Block : Sp) : TS :=
  (tSeq (tIfS (tOr (tTest (tOp rNotN (tFld K (tVar 0) "unended") (tC .non))) (tTest (tOp rEq (tCB (rLenS K) (tCons (tFld K (tVar 0) "functions") tNil)) (tC (.int 0))))) (tRet (tUn rNegI (tC (.int 3)))) tNext)
    (tSeq (tIfS (tB (tCall sp_has_wrong_name [] E0 (tCons (tVar 1) tNil))) (tRet (tUn rNegI (tC (.int 2)))) tNext)
    (tSeq (tAsg (tFld K (tOp (rIxL K) (tFld K (tVar 0) "functions") (tUn rNegI (tC (.int 1)))) "blocks") (gName 2))
    (tSeq (tIfS (tOr (tTest (tOp rGeI (tCB (rLenS K) (tCons (tVar 2) tNil)) (tC (.int 6)))) (tTest (tOp rGtI (tCB (rLenS K) (tCons (tVar 1) tNil)) (tC (.int 4))))) (tRet (tUn rNegI (tC (.int 1)))) tNext)
    (tSeq (sFld K (tVar 0) (tMake A.C_Block sp_Block [] E0 (tCons (tCB (rTupleS K) (tCons (tVar 1) tNil)) tNil)) "unended")
    (tRet (tCB (rLenS K) (tCons (tVar 2) tNil))))))))
theorem dv_add_block {sp : Sp} {sp_has_wrong_name sp_Block : Sp} (T : Top K mg A)
    (O_has_wrong_name : DefOk P w K mg base 1 A.f_has_wrong_name "has_wrong_name" ["names"] sp_has_wrong_name)
    (O_Block : MakeOk P w K mg base 1 A.C_Block A.f_Block "Block" ["self", "taken"] sp_Block) (len : ∀ vs H Q E, sp vs H Q E → vs.length = 2)
    (h : ∀ vs H Q E, sp vs H Q E → t_add_block K w A sp_has_wrong_name sp_Block { nx := fun _ H' => Q .non H', rt := Q } (start N_add_block vs) H) : DefOk P w K mg base 3 A.f_add_block "add_block" ["program", "taken"] sp := by
  refine T.d_add_block.ok sc_add_block len (fun cdv Ar outer s H vs Q E hr q => ⟨t_add_block K w A sp_has_wrong_name sp_Block, ?_, h vs H Q E q⟩)
  exact (pss_cons (ps_if (PW.pt (pw_or (pt_cmpR op_notN (pe_fld (pv 0) rfl) pe_non (nomark _)) (pw_or1 (pt_cmpR op_eq (pe_callB call_len_seq (by rfl) T.z_len PySem.boot_len (pa_cons (pe_fld (pv 0) rfl) pa_nil)) pe_int (nomark _))))) (pss_one (ps_ret (pe_un un_neg pe_int))) pss_nil)
      (pss_cons (ps_if (pt_val (pe_callD O_has_wrong_name (hr.mono (by decide)) rfl (pa_cons (pv 1) pa_nil))) (pss_one (ps_ret (pe_un un_neg pe_int))) pss_nil)
      (pss_cons (ps_set (i := 2) sc_add_block.nd rfl (.inl rfl) (pe_fld (pe_ix ix_list (pe_fld (pv 0) rfl) (pe_un un_neg pe_int) (fun _ _ => rfl)) rfl))
      (pss_cons (ps_if (PW.pt (pw_or (pt_cmpR op_ge (pe_callB call_len_seq (by rfl) T.z_len PySem.boot_len (pa_cons (pv 2) pa_nil)) (pe_gi T.g_MOST_BLOCKS rfl) (nomark _)) (pw_or1 (pt_cmpR op_gt (pe_callB call_len_seq (by rfl) T.z_len PySem.boot_len (pa_cons (pv 1) pa_nil)) (pe_gi T.g_MOST_TAKEN rfl) (nomark _))))) (pss_one (ps_ret (pe_un un_neg pe_int))) pss_nil)
      (pss_cons (ps_fld (pv 0) (pe_makeD O_Block (hr.mono (by decide)) rfl (pa_cons (pe_callTy call_tuple_of (by rfl) T.z_tuple (by decide +kernel) (pa_cons (pv 1) pa_nil)) pa_nil)) rfl)
      (pss_one (ps_ret (pe_callB call_len_seq (by rfl) T.z_len PySem.boot_len (pa_cons (pv 2) pa_nil)))))))))
/-! ### put_row (line 77) -/
abbrev s_put_row : Stmt := topS 34
abbrev N_put_row : List Str := ["program", "row", "names", "rows"]
theorem sc_put_row : FnScope N_put_row ["program", "row", "names"] (defScope s_put_row) := ⟨rfl, rfl, rfl, by decide +kernel, rfl, by decide +kernel, by decide +kernel⟩
def t_put_row (K : PySem.W.Frag) (w : World) (A : Adr) (sp_has_wrong_name : Sp) : TS :=
  (tSeq (tIfS (tB (tCall sp_has_wrong_name [] E0 (tCons (tVar 2) tNil))) (tRet (tUn rNegI (tC (.int 2)))) tNext)
    (tSeq (tAsg (tFld K (tFld K (tVar 0) "unended") "rows") (gName 3))
    (tSeq (tIfS (tTest (tOp rGeI (tCB (rLenS K) (tCons (tVar 3) tNil)) (tC (.int 8)))) (tRet (tUn rNegI (tC (.int 1)))) tNext)
    (tSeq (tDrop (tBM K "list" rAppend (tVar 3) (tCons (tVar 1) tNil)))
    (tRet (tCB (rLenS K) (tCons (tVar 3) tNil)))))))
theorem dv_put_row {sp : Sp} {sp_has_wrong_name : Sp} (T : Top K mg A)
    (O_has_wrong_name : DefOk P w K mg base 1 A.f_has_wrong_name "has_wrong_name" ["names"] sp_has_wrong_name) (len : ∀ vs H Q E, sp vs H Q E → vs.length = 3)
    (h : ∀ vs H Q E, sp vs H Q E → t_put_row K w A sp_has_wrong_name { nx := fun _ H' => Q .non H', rt := Q } (start N_put_row vs) H) : DefOk P w K mg base 2 A.f_put_row "put_row" ["program", "row", "names"] sp := by
  refine T.d_put_row.ok sc_put_row len (fun cdv Ar outer s H vs Q E hr q => ⟨t_put_row K w A sp_has_wrong_name, ?_, h vs H Q E q⟩)
  exact (pss_cons (ps_if (pt_val (pe_callD O_has_wrong_name (hr.mono (by decide)) rfl (pa_cons (pv 2) pa_nil))) (pss_one (ps_ret (pe_un un_neg pe_int))) pss_nil)
      (pss_cons (ps_set (i := 3) sc_put_row.nd rfl (.inl rfl) (pe_fld (pe_fld (pv 0) rfl) rfl))
      (pss_cons (ps_if (pt_cmpR op_ge (pe_callB call_len_seq (by rfl) T.z_len PySem.boot_len (pa_cons (pv 3) pa_nil)) (pe_gi T.g_MOST_ROWS rfl) (nomark _)) (pss_one (ps_ret (pe_un un_neg pe_int))) pss_nil)
      (pss_cons (ps_expr (pe_bm PySem.F.plainAttrs_list PySem.F.slot_list_append PySem.F.type_list_append mt_append (pv 3) (pa_cons (pv 1) pa_nil)))
      (pss_one (ps_ret (pe_callB call_len_seq (by rfl) T.z_len PySem.boot_len (pa_cons (pv 3) pa_nil))))))))
/-! ### add_num (line 85) -/
abbrev s_add_num : Stmt := topS 35
abbrev N_add_num : List Str := ["program", "x", "n"]
theorem sc_add_num : FnScope N_add_num ["program", "x", "n"] (defScope s_add_num) := ⟨rfl, rfl, rfl, by decide +kernel, rfl, by decide +kernel, by decide +kernel⟩
def t_add_num (K : PySem.W.Frag) (w : World) (A : Adr) (sp_put_row : Sp) : TS :=
  (tSeq (tIfS (tTest (tOp rIsN (tFld K (tVar 0) "unended") (tC .non))) (tRet (tUn rNegI (tC (.int 3)))) tNext)
    (tRet (tCall sp_put_row [] E0 (tCons (tVar 0) (tCons (tTup (tCons (tC (.int 0)) (tCons (tVar 1) (tCons (tVar 2) tNil)))) (tCons (tLst (tCons (tVar 1) tNil)) tNil))))))
theorem dv_add_num {sp : Sp} {sp_put_row : Sp} (T : Top K mg A)
    (O_put_row : DefOk P w K mg base 2 A.f_put_row "put_row" ["program", "row", "names"] sp_put_row) (len : ∀ vs H Q E, sp vs H Q E → vs.length = 3)
    (h : ∀ vs H Q E, sp vs H Q E → t_add_num K w A sp_put_row { nx := fun _ H' => Q .non H', rt := Q } (start N_add_num vs) H) : DefOk P w K mg base 3 A.f_add_num "add_num" ["program", "x", "n"] sp := by
  refine T.d_add_num.ok sc_add_num len (fun cdv Ar outer s H vs Q E hr q => ⟨t_add_num K w A sp_put_row, ?_, h vs H Q E q⟩)
  exact (pss_cons (ps_if (pt_cmpR op_isN (pe_fld (pv 0) rfl) pe_non (nomark _)) (pss_one (ps_ret (pe_un un_neg pe_int))) pss_nil)
      (pss_one (ps_ret (pe_callD O_put_row (hr.mono (by decide)) rfl (pa_cons (pv 0) (pa_cons (pe_tup (pa_cons (pe_gi T.g_ROW_NUM rfl) (pa_cons (pv 1) (pa_cons (pv 2) pa_nil)))) (pa_cons (pe_lst (pa_cons (pv 1) pa_nil)) pa_nil)))))))
/-! ### add_two (line 89) -/
abbrev s_add_two : Stmt := topS 36
abbrev N_add_two : List Str := ["program", "x", "o", "a", "b"]
theorem sc_add_two : FnScope N_add_two ["program", "x", "o", "a", "b"] (defScope s_add_two) := ⟨rfl, rfl, rfl, by decide +kernel, rfl, by decide +kernel, by decide +kernel⟩
def t_add_two (K : PySem.W.Frag) (w : World) (A : Adr) (sp_put_row : Sp) : TS :=
  (tSeq (tIfS (tTest (tOp rIsN (tFld K (tVar 0) "unended") (tC .non))) (tRet (tUn rNegI (tC (.int 3)))) tNext)
    (tSeq (tIfS (tTest (tOp rGtI (tVar 2) (tC (.int 10)))) (tRet (tUn rNegI (tC (.int 4)))) tNext)
    (tRet (tCall sp_put_row [] E0 (tCons (tVar 0) (tCons (tTup (tCons (tC (.int 2)) (tCons (tVar 1) (tCons (tVar 2) (tCons (tVar 3) (tCons (tVar 4) tNil)))))) (tCons (tLst (tCons (tVar 1) (tCons (tVar 3) (tCons (tVar 4) tNil)))) tNil)))))))
theorem dv_add_two {sp : Sp} {sp_put_row : Sp} (T : Top K mg A)
    (O_put_row : DefOk P w K mg base 2 A.f_put_row "put_row" ["program", "row", "names"] sp_put_row) (len : ∀ vs H Q E, sp vs H Q E → vs.length = 5)
    (h : ∀ vs H Q E, sp vs H Q E → t_add_two K w A sp_put_row { nx := fun _ H' => Q .non H', rt := Q } (start N_add_two vs) H) : DefOk P w K mg base 3 A.f_add_two "add_two" ["program", "x", "o", "a", "b"] sp := by
  refine T.d_add_two.ok sc_add_two len (fun cdv Ar outer s H vs Q E hr q => ⟨t_add_two K w A sp_put_row, ?_, h vs H Q E q⟩)
  exact (pss_cons (ps_if (pt_cmpR op_isN (pe_fld (pv 0) rfl) pe_non (nomark _)) (pss_one (ps_ret (pe_un un_neg pe_int))) pss_nil)
      (pss_cons (ps_if (pt_cmpR op_gt (pv 2) (pe_gi T.g_GREATEST_OPERATION rfl) (nomark _)) (pss_one (ps_ret (pe_un un_neg pe_int))) pss_nil)
      (pss_one (ps_ret (pe_callD O_put_row (hr.mono (by decide)) rfl (pa_cons (pv 0) (pa_cons (pe_tup (pa_cons (pe_gi T.g_ROW_TWO rfl) (pa_cons (pv 1) (pa_cons (pv 2) (pa_cons (pv 3) (pa_cons (pv 4) pa_nil)))))) (pa_cons (pe_lst (pa_cons (pv 1) (pa_cons (pv 3) (pa_cons (pv 4) pa_nil)))) pa_nil))))))))
/-! ### add_say (line 95) -/
abbrev s_add_say : Stmt := topS 37
abbrev N_add_say : List Str := ["program", "a"]
theorem sc_add_say : FnScope N_add_say ["program", "a"] (defScope s_add_say) := ⟨rfl, rfl, rfl, by decide +kernel, rfl, by decide +kernel, by decide +kernel⟩
def t_add_say (K : PySem.W.Frag) (w : World) (A : Adr) (sp_put_row : Sp) : TS :=
  (tSeq (tIfS (tTest (tOp rIsN (tFld K (tVar 0) "unended") (tC .non))) (tRet (tUn rNegI (tC (.int 3)))) tNext)
    (tRet (tCall sp_put_row [] E0 (tCons (tVar 0) (tCons (tTup (tCons (tC (.int 3)) (tCons (tVar 1) tNil))) (tCons (tLst (tCons (tVar 1) tNil)) tNil))))))
theorem dv_add_say {sp : Sp} {sp_put_row : Sp} (T : Top K mg A)
    (O_put_row : DefOk P w K mg base 2 A.f_put_row "put_row" ["program", "row", "names"] sp_put_row) (len : ∀ vs H Q E, sp vs H Q E → vs.length = 2)
    (h : ∀ vs H Q E, sp vs H Q E → t_add_say K w A sp_put_row { nx := fun _ H' => Q .non H', rt := Q } (start N_add_say vs) H) : DefOk P w K mg base 3 A.f_add_say "add_say" ["program", "a"] sp := by
  refine T.d_add_say.ok sc_add_say len (fun cdv Ar outer s H vs Q E hr q => ⟨t_add_say K w A sp_put_row, ?_, h vs H Q E q⟩)
  exact (pss_cons (ps_if (pt_cmpR op_isN (pe_fld (pv 0) rfl) pe_non (nomark _)) (pss_one (ps_ret (pe_un un_neg pe_int))) pss_nil)
      (pss_one (ps_ret (pe_callD O_put_row (hr.mono (by decide)) rfl (pa_cons (pv 0) (pa_cons (pe_tup (pa_cons (pe_gi T.g_ROW_SAY rfl) (pa_cons (pv 1) pa_nil))) (pa_cons (pe_lst (pa_cons (pv 1) pa_nil)) pa_nil)))))))
/-! ### add_call (line 99) -/
abbrev s_add_call : Stmt := topS 38
abbrev N_add_call : List Str := ["program", "x", "g", "handed"]
theorem sc_add_call : FnScope N_add_call ["program", "x", "g", "handed"] (defScope s_add_call) := ⟨rfl, rfl, rfl, by decide +kernel, rfl, by decide +kernel, by decide +kernel⟩
def t_add_call (K : PySem.W.Frag) (w : World) (A : Adr) (sp_calls_standing sp_put_row : Sp) : TS :=
  (tSeq (tIfS (tTest (tOp rIsN (tFld K (tVar 0) "unended") (tC .non))) (tRet (tUn rNegI (tC (.int 3)))) tNext)
    (tSeq (tIfS (tOr (tTest (tOp rGtI (tVar 2) (tC (.int 4)))) (tTest (tOp rGtI (tCB (rLenS K) (tCons (tVar 3) tNil)) (tC (.int 4))))) (tRet (tUn rNegI (tC (.int 4)))) tNext)
    (tSeq (tIfS (tTest (tOp rGeI (tCall sp_calls_standing [] E0 (tCons (tVar 0) tNil)) (tC (.int 8)))) (tRet (tUn rNegI (tC (.int 5)))) tNext)
    (tRet (tCall sp_put_row [] E0 (tCons (tVar 0) (tCons (tTup (tCons (tC (.int 4)) (tCons (tVar 1) (tCons (tVar 2) (tCons (tCB (rTupleS K) (tCons (tVar 3) tNil)) tNil))))) (tCons (tOp rCat (tLst (tCons (tVar 1) tNil)) (tVar 3)) tNil))))))))
theorem dv_add_call {sp : Sp} {sp_calls_standing sp_put_row : Sp} (T : Top K mg A)
    (O_calls_standing : DefOk P w K mg base 3 A.f_calls_standing "calls_standing" ["program"] sp_calls_standing)
    (O_put_row : DefOk P w K mg base 2 A.f_put_row "put_row" ["program", "row", "names"] sp_put_row) (len : ∀ vs H Q E, sp vs H Q E → vs.length = 4)
    (h : ∀ vs H Q E, sp vs H Q E → t_add_call K w A sp_calls_standing sp_put_row { nx := fun _ H' => Q .non H', rt := Q } (start N_add_call vs) H) : DefOk P w K mg base 4 A.f_add_call "add_call" ["program", "x", "g", "handed"] sp := by
  refine T.d_add_call.ok sc_add_call len (fun cdv Ar outer s H vs Q E hr q => ⟨t_add_call K w A sp_calls_standing sp_put_row, ?_, h vs H Q E q⟩)
  exact (pss_cons (ps_if (pt_cmpR op_isN (pe_fld (pv 0) rfl) pe_non (nomark _)) (pss_one (ps_ret (pe_un un_neg pe_int))) pss_nil)
      (pss_cons (ps_if (PW.pt (pw_or (pt_cmpR op_gt (pv 2) (pe_gi T.g_GREATEST_CALLED rfl) (nomark _)) (pw_or1 (pt_cmpR op_gt (pe_callB call_len_seq (by rfl) T.z_len PySem.boot_len (pa_cons (pv 3) pa_nil)) (pe_gi T.g_MOST_HANDED_TO_FUNCTION rfl) (nomark _))))) (pss_one (ps_ret (pe_un un_neg pe_int))) pss_nil)
      (pss_cons (ps_if (pt_cmpR op_ge (pe_callD O_calls_standing (hr.mono (by decide)) rfl (pa_cons (pv 0) pa_nil)) (pe_gi T.g_MOST_CALLS rfl) (nomark _)) (pss_one (ps_ret (pe_un un_neg pe_int))) pss_nil)
      (pss_one (ps_ret (pe_callD O_put_row (hr.mono (by decide)) rfl (pa_cons (pv 0) (pa_cons (pe_tup (pa_cons (pe_gi T.g_ROW_CALL rfl) (pa_cons (pv 1) (pa_cons (pv 2) (pa_cons (pe_callTy call_tuple_of (by rfl) T.z_tuple (by decide +kernel) (pa_cons (pv 3) pa_nil)) pa_nil))))) (pa_cons (pe_op op_cat (pe_lst (pa_cons (pv 1) pa_nil)) (pv 3)) pa_nil)))))))))
/-! ### put_end (line 107) -/
abbrev s_put_end : Stmt := topS 39
abbrev N_put_end : List Str := ["program", "ending", "block", "blocks"]
theorem sc_put_end : FnScope N_put_end ["program", "ending"] (defScope s_put_end) := ⟨rfl, rfl, rfl, by decide +kernel, rfl, by decide +kernel, by decide +kernel⟩
def t_put_end (K : PySem.W.Frag) (w : World) (A : Adr) : TS :=
  (tSeq (tAsg (tFld K (tVar 0) "unended") (gName 2))
    (tSeq (sFld K (tVar 2) (tVar 1) "ending")
    (tSeq (tAsg (tFld K (tOp (rIxL K) (tFld K (tVar 0) "functions") (tUn rNegI (tC (.int 1)))) "blocks") (gName 3))
    (tSeq (tDrop (tBM K "list" rAppend (tVar 3) (tCons (tVar 2) tNil)))
    (tSeq (sFld K (tVar 0) (tC .non) "unended")
    (tRet (tCB (rLenS K) (tCons (tVar 3) tNil))))))))
theorem dv_put_end {sp : Sp} (T : Top K mg A) (len : ∀ vs H Q E, sp vs H Q E → vs.length = 2)
    (h : ∀ vs H Q E, sp vs H Q E → t_put_end K w A { nx := fun _ H' => Q .non H', rt := Q } (start N_put_end vs) H) : DefOk P w K mg base 1 A.f_put_end "put_end" ["program", "ending"] sp := by
  refine T.d_put_end.ok sc_put_end len (fun cdv Ar outer s H vs Q E hr q => ⟨t_put_end K w A, ?_, h vs H Q E q⟩)
  exact (pss_cons (ps_set (i := 2) sc_put_end.nd rfl (.inl rfl) (pe_fld (pv 0) rfl))
      (pss_cons (ps_fld (pv 2) (pv 1) rfl)
      (pss_cons (ps_set (i := 3) sc_put_end.nd rfl (.inl rfl) (pe_fld (pe_ix ix_list (pe_fld (pv 0) rfl) (pe_un un_neg pe_int) (fun _ _ => rfl)) rfl))
      (pss_cons (ps_expr (pe_bm PySem.F.plainAttrs_list PySem.F.slot_list_append PySem.F.type_list_append mt_append (pv 3) (pa_cons (pv 2) pa_nil)))
      (pss_cons (ps_fld (pv 0) pe_non rfl)
      (pss_one (ps_ret (pe_callB call_len_seq (by rfl) T.z_len PySem.boot_len (pa_cons (pv 3) pa_nil)))))))))
/-! ### add_jump (line 114) -/
abbrev s_add_jump : Stmt := topS 40
abbrev N_add_jump : List Str := ["program", "t", "handed"]
theorem sc_add_jump : FnScope N_add_jump ["program", "t", "handed"] (defScope s_add_jump) := ⟨rfl, rfl, rfl, by decide +kernel, rfl, by decide +kernel, by decide +kernel⟩
def t_add_jump (K : PySem.W.Frag) (w : World) (A : Adr) (sp_has_wrong_name sp_is_wrong_target sp_put_end : Sp) : TS :=
  (tSeq (tIfS (tTest (tOp rIsN (tFld K (tVar 0) "unended") (tC .non))) (tRet (tUn rNegI (tC (.int 3)))) tNext)
    (tSeq (tIfS (tTest (tOp rGtI (tCB (rLenS K) (tCons (tVar 2) tNil)) (tC (.int 4)))) (tRet (tUn rNegI (tC (.int 1)))) tNext)
    (tSeq (tIfS (tOr (tB (tCall sp_has_wrong_name [] E0 (tCons (tVar 2) tNil))) (tB (tCall sp_is_wrong_target [] E0 (tCons (tVar 1) tNil)))) (tRet (tUn rNegI (tC (.int 2)))) tNext)
    (tRet (tCall sp_put_end [] E0 (tCons (tVar 0) (tCons (tTup (tCons (tC (.int 0)) (tCons (tVar 1) (tCons (tCB (rTupleS K) (tCons (tVar 2) tNil)) tNil)))) tNil)))))))
theorem dv_add_jump {sp : Sp} {sp_has_wrong_name sp_is_wrong_target sp_put_end : Sp} (T : Top K mg A)
    (O_has_wrong_name : DefOk P w K mg base 1 A.f_has_wrong_name "has_wrong_name" ["names"] sp_has_wrong_name)
    (O_is_wrong_target : DefOk P w K mg base 1 A.f_is_wrong_target "is_wrong_target" ["block"] sp_is_wrong_target)
    (O_put_end : DefOk P w K mg base 1 A.f_put_end "put_end" ["program", "ending"] sp_put_end) (len : ∀ vs H Q E, sp vs H Q E → vs.length = 3)
    (h : ∀ vs H Q E, sp vs H Q E → t_add_jump K w A sp_has_wrong_name sp_is_wrong_target sp_put_end { nx := fun _ H' => Q .non H', rt := Q } (start N_add_jump vs) H) : DefOk P w K mg base 2 A.f_add_jump "add_jump" ["program", "t", "handed"] sp := by
  refine T.d_add_jump.ok sc_add_jump len (fun cdv Ar outer s H vs Q E hr q => ⟨t_add_jump K w A sp_has_wrong_name sp_is_wrong_target sp_put_end, ?_, h vs H Q E q⟩)
  exact (pss_cons (ps_if (pt_cmpR op_isN (pe_fld (pv 0) rfl) pe_non (nomark _)) (pss_one (ps_ret (pe_un un_neg pe_int))) pss_nil)
      (pss_cons (ps_if (pt_cmpR op_gt (pe_callB call_len_seq (by rfl) T.z_len PySem.boot_len (pa_cons (pv 2) pa_nil)) (pe_gi T.g_MOST_HANDED_BY_JUMP rfl) (nomark _)) (pss_one (ps_ret (pe_un un_neg pe_int))) pss_nil)
      (pss_cons (ps_if (PW.pt (pw_or (pt_val (pe_callD O_has_wrong_name (hr.mono (by decide)) rfl (pa_cons (pv 2) pa_nil))) (pw_or1 (pt_val (pe_callD O_is_wrong_target (hr.mono (by decide)) rfl (pa_cons (pv 1) pa_nil)))))) (pss_one (ps_ret (pe_un un_neg pe_int))) pss_nil)
      (pss_one (ps_ret (pe_callD O_put_end (hr.mono (by decide)) rfl (pa_cons (pv 0) (pa_cons (pe_tup (pa_cons (pe_gi T.g_END_JUMP rfl) (pa_cons (pv 1) (pa_cons (pe_callTy call_tuple_of (by rfl) T.z_tuple (by decide +kernel) (pa_cons (pv 2) pa_nil)) pa_nil)))) pa_nil))))))))
/-! ### add_fork (line 122) -/
abbrev s_add_fork : Stmt := topS 41
abbrev N_add_fork : List Str := ["program", "v", "t", "u", "n", "handed"]
theorem sc_add_fork : FnScope N_add_fork ["program", "v", "t", "u", "n", "handed"] (defScope s_add_fork) := ⟨rfl, rfl, rfl, by decide +kernel, rfl, by decide +kernel, by decide +kernel⟩
def t_add_fork (K : PySem.W.Frag) (w : World) (A : Adr) (sp_has_wrong_name sp_is_wrong_target sp_put_end : Sp) : TS :=
  (tSeq (tIfS (tTest (tOp rIsN (tFld K (tVar 0) "unended") (tC .non))) (tRet (tUn rNegI (tC (.int 3)))) tNext)
    (tSeq (tIfS (tOr (tTest (tOp rLtI (tCB (rLenS K) (tCons (tVar 5) tNil)) (tVar 4))) (tTest (tOp rGtI (tCB (rLenS K) (tCons (tVar 5) tNil)) (tC (.int 8))))) (tRet (tUn rNegI (tC (.int 1)))) tNext)
    (tSeq (tIfS (tOr (tB (tCall sp_has_wrong_name [] E0 (tCons (tOp rCat (tLst (tCons (tVar 1) tNil)) (tVar 5)) tNil))) (tOr (tB (tCall sp_is_wrong_target [] E0 (tCons (tVar 2) tNil))) (tB (tCall sp_is_wrong_target [] E0 (tCons (tVar 3) tNil))))) (tRet (tUn rNegI (tC (.int 2)))) tNext)
    (tRet (tCall sp_put_end [] E0 (tCons (tVar 0) (tCons (tTup (tCons (tC (.int 1)) (tCons (tVar 1) (tCons (tVar 2) (tCons (tCB (rTupleS K) (tCons (tSl (rSlL K) (tVar 5) tNoPart (tPart (tVar 4))) tNil)) (tCons (tVar 3) (tCons (tCB (rTupleS K) (tCons (tSl (rSlL K) (tVar 5) (tPart (tVar 4)) tNoPart) tNil)) tNil))))))) tNil)))))))
theorem dv_add_fork {sp : Sp} {sp_has_wrong_name sp_is_wrong_target sp_put_end : Sp} (T : Top K mg A)
    (O_has_wrong_name : DefOk P w K mg base 1 A.f_has_wrong_name "has_wrong_name" ["names"] sp_has_wrong_name)
    (O_is_wrong_target : DefOk P w K mg base 1 A.f_is_wrong_target "is_wrong_target" ["block"] sp_is_wrong_target)
    (O_put_end : DefOk P w K mg base 1 A.f_put_end "put_end" ["program", "ending"] sp_put_end) (len : ∀ vs H Q E, sp vs H Q E → vs.length = 6)
    (h : ∀ vs H Q E, sp vs H Q E → t_add_fork K w A sp_has_wrong_name sp_is_wrong_target sp_put_end { nx := fun _ H' => Q .non H', rt := Q } (start N_add_fork vs) H) : DefOk P w K mg base 2 A.f_add_fork "add_fork" ["program", "v", "t", "u", "n", "handed"] sp := by
  refine T.d_add_fork.ok sc_add_fork len (fun cdv Ar outer s H vs Q E hr q => ⟨t_add_fork K w A sp_has_wrong_name sp_is_wrong_target sp_put_end, ?_, h vs H Q E q⟩)
  exact (pss_cons (ps_if (pt_cmpR op_isN (pe_fld (pv 0) rfl) pe_non (nomark _)) (pss_one (ps_ret (pe_un un_neg pe_int))) pss_nil)
      (pss_cons (ps_if (PW.pt (pw_or (pt_cmpR op_lt (pe_callB call_len_seq (by rfl) T.z_len PySem.boot_len (pa_cons (pv 5) pa_nil)) (pv 4) (nomark _)) (pw_or1 (pt_cmpR op_gt (pe_callB call_len_seq (by rfl) T.z_len PySem.boot_len (pa_cons (pv 5) pa_nil)) (pe_gi T.g_MOST_HANDED_BY_FORK rfl) (nomark _))))) (pss_one (ps_ret (pe_un un_neg pe_int))) pss_nil)
      (pss_cons (ps_if (PW.pt (pw_or (pt_val (pe_callD O_has_wrong_name (hr.mono (by decide)) rfl (pa_cons (pe_op op_cat (pe_lst (pa_cons (pv 1) pa_nil)) (pv 5)) pa_nil))) (pw_or (pt_val (pe_callD O_is_wrong_target (hr.mono (by decide)) rfl (pa_cons (pv 2) pa_nil))) (pw_or1 (pt_val (pe_callD O_is_wrong_target (hr.mono (by decide)) rfl (pa_cons (pv 3) pa_nil))))))) (pss_one (ps_ret (pe_un un_neg pe_int))) pss_nil)
      (pss_one (ps_ret (pe_callD O_put_end (hr.mono (by decide)) rfl (pa_cons (pv 0) (pa_cons (pe_tup (pa_cons (pe_gi T.g_END_FORK rfl) (pa_cons (pv 1) (pa_cons (pv 2) (pa_cons (pe_callTy call_tuple_of (by rfl) T.z_tuple (by decide +kernel) (pa_cons (pe_slice sl_list (pv 5) po_none (po_some (pv 4))) pa_nil)) (pa_cons (pv 3) (pa_cons (pe_callTy call_tuple_of (by rfl) T.z_tuple (by decide +kernel) (pa_cons (pe_slice sl_list (pv 5) (po_some (pv 4)) po_none) pa_nil)) pa_nil))))))) pa_nil))))))))
/-! ### add_give (line 130) -/
abbrev s_add_give : Stmt := topS 42
abbrev N_add_give : List Str := ["program", "v"]
theorem sc_add_give : FnScope N_add_give ["program", "v"] (defScope s_add_give) := ⟨rfl, rfl, rfl, by decide +kernel, rfl, by decide +kernel, by decide +kernel⟩
def t_add_give (K : PySem.W.Frag) (w : World) (A : Adr) (sp_has_wrong_name sp_put_end : Sp) : TS :=
  (tSeq (tIfS (tTest (tOp rIsN (tFld K (tVar 0) "unended") (tC .non))) (tRet (tUn rNegI (tC (.int 3)))) tNext)
    (tSeq (tIfS (tB (tCall sp_has_wrong_name [] E0 (tCons (tLst (tCons (tVar 1) tNil)) tNil))) (tRet (tUn rNegI (tC (.int 2)))) tNext)
    (tRet (tCall sp_put_end [] E0 (tCons (tVar 0) (tCons (tTup (tCons (tC (.int 2)) (tCons (tVar 1) tNil))) tNil))))))
theorem dv_add_give {sp : Sp} {sp_has_wrong_name sp_put_end : Sp} (T : Top K mg A)
    (O_has_wrong_name : DefOk P w K mg base 1 A.f_has_wrong_name "has_wrong_name" ["names"] sp_has_wrong_name)
    (O_put_end : DefOk P w K mg base 1 A.f_put_end "put_end" ["program", "ending"] sp_put_end) (len : ∀ vs H Q E, sp vs H Q E → vs.length = 2)
    (h : ∀ vs H Q E, sp vs H Q E → t_add_give K w A sp_has_wrong_name sp_put_end { nx := fun _ H' => Q .non H', rt := Q } (start N_add_give vs) H) : DefOk P w K mg base 2 A.f_add_give "add_give" ["program", "v"] sp := by
  refine T.d_add_give.ok sc_add_give len (fun cdv Ar outer s H vs Q E hr q => ⟨t_add_give K w A sp_has_wrong_name sp_put_end, ?_, h vs H Q E q⟩)
  exact (pss_cons (ps_if (pt_cmpR op_isN (pe_fld (pv 0) rfl) pe_non (nomark _)) (pss_one (ps_ret (pe_un un_neg pe_int))) pss_nil)
      (pss_cons (ps_if (pt_val (pe_callD O_has_wrong_name (hr.mono (by decide)) rfl (pa_cons (pe_lst (pa_cons (pv 1) pa_nil)) pa_nil))) (pss_one (ps_ret (pe_un un_neg pe_int))) pss_nil)
      (pss_one (ps_ret (pe_callD O_put_end (hr.mono (by decide)) rfl (pa_cons (pv 0) (pa_cons (pe_tup (pa_cons (pe_gi T.g_END_GIVE rfl) (pa_cons (pv 1) pa_nil))) pa_nil)))))))
/-! ### is_wrong_way (line 137) -/
abbrev s_is_wrong_way : Stmt := topS 44
abbrev N_is_wrong_way : List Str := ["function", "t", "handed"]
theorem sc_is_wrong_way : FnScope N_is_wrong_way ["function", "t", "handed"] (defScope s_is_wrong_way) := ⟨rfl, rfl, rfl, by decide +kernel, rfl, by decide +kernel, by decide +kernel⟩
def t_is_wrong_way (K : PySem.W.Frag) (w : World) (A : Adr) : TS :=
  (tRet (tOrV (tOp rGeI (tVar 1) (tCB (rLenS K) (tCons (tFld K (tVar 0) "blocks") tNil))) (tOp rNe (tCB (rLenS K) (tCons (tVar 2) tNil)) (tCB (rLenS K) (tCons (tFld K (tOp (rIxL K) (tFld K (tVar 0) "blocks") (tVar 1)) "taken") tNil)))))
theorem dv_is_wrong_way {sp : Sp} (T : Top K mg A) (len : ∀ vs H Q E, sp vs H Q E → vs.length = 3)
    (h : ∀ vs H Q E, sp vs H Q E → t_is_wrong_way K w A { nx := fun _ H' => Q .non H', rt := Q } (start N_is_wrong_way vs) H) : DefOk P w K mg base 1 A.f_is_wrong_way "is_wrong_way" ["function", "t", "handed"] sp := by
  refine T.d_is_wrong_way.ok sc_is_wrong_way len (fun cdv Ar outer s H vs Q E hr q => ⟨t_is_wrong_way K w A, ?_, h vs H Q E q⟩)
  exact (pss_one (ps_ret (pe_or (pe_cmpR op_ge (pv 1) (pe_callB call_len_seq (by rfl) T.z_len PySem.boot_len (pa_cons (pe_fld (pv 0) rfl) pa_nil)) (nomark _)) (pe_one (pe_cmpR op_ne (pe_callB call_len_seq (by rfl) T.z_len PySem.boot_len (pa_cons (pv 2) pa_nil)) (pe_callB call_len_seq (by rfl) T.z_len PySem.boot_len (pa_cons (pe_fld (pe_ix ix_list (pe_fld (pv 0) rfl) (pv 1) (fun _ _ => rfl)) rfl) pa_nil)) (nomark _))))))
/-! ### is_wrong_ending (line 139) -/
abbrev s_is_wrong_ending : Stmt := topS 45
abbrev N_is_wrong_ending : List Str := ["function", "ending"]
theorem sc_is_wrong_ending : FnScope N_is_wrong_ending ["function", "ending"] (defScope s_is_wrong_ending) := ⟨rfl, rfl, rfl, by decide +kernel, rfl, by decide +kernel, by decide +kernel⟩
def t_is_wrong_ending (K : PySem.W.Frag) (w : World) (A : Adr) (sp_is_wrong_way : Sp) : TS :=
  (tSeq (tIfS (tTest (tOp rEq (tOp (rIxT K) (tVar 1) (tC (.int 0))) (tC (.int 0)))) (tRet (tCall sp_is_wrong_way [] E0 (tCons (tVar 0) (tCons (tOp (rIxT K) (tVar 1) (tC (.int 1))) (tCons (tOp (rIxT K) (tVar 1) (tC (.int 2))) tNil))))) tNext)
    (tSeq (tIfS (tTest (tOp rEq (tOp (rIxT K) (tVar 1) (tC (.int 0))) (tC (.int 1)))) (tRet (tOrV (tCall sp_is_wrong_way [] E0 (tCons (tVar 0) (tCons (tOp (rIxT K) (tVar 1) (tC (.int 2))) (tCons (tOp (rIxT K) (tVar 1) (tC (.int 3))) tNil)))) (tCall sp_is_wrong_way [] E0 (tCons (tVar 0) (tCons (tOp (rIxT K) (tVar 1) (tC (.int 4))) (tCons (tOp (rIxT K) (tVar 1) (tC (.int 5))) tNil)))))) tNext)
    (tRet (tC (.bl false)))))
theorem dv_is_wrong_ending {sp : Sp} {sp_is_wrong_way : Sp} (T : Top K mg A)
    (O_is_wrong_way : DefOk P w K mg base 1 A.f_is_wrong_way "is_wrong_way" ["function", "t", "handed"] sp_is_wrong_way) (len : ∀ vs H Q E, sp vs H Q E → vs.length = 2)
    (h : ∀ vs H Q E, sp vs H Q E → t_is_wrong_ending K w A sp_is_wrong_way { nx := fun _ H' => Q .non H', rt := Q } (start N_is_wrong_ending vs) H) : DefOk P w K mg base 2 A.f_is_wrong_ending "is_wrong_ending" ["function", "ending"] sp := by
  refine T.d_is_wrong_ending.ok sc_is_wrong_ending len (fun cdv Ar outer s H vs Q E hr q => ⟨t_is_wrong_ending K w A sp_is_wrong_way, ?_, h vs H Q E q⟩)
  exact (pss_cons (ps_if (pt_cmpR op_eq (pe_ix ix_tup (pv 1) pe_int (fun _ _ => rfl)) (pe_gi T.g_END_JUMP rfl) (nomark _)) (pss_one (ps_ret (pe_callD O_is_wrong_way (hr.mono (by decide)) rfl (pa_cons (pv 0) (pa_cons (pe_ix ix_tup (pv 1) pe_int (fun _ _ => rfl)) (pa_cons (pe_ix ix_tup (pv 1) pe_int (fun _ _ => rfl)) pa_nil)))))) pss_nil)
      (pss_cons (ps_if (pt_cmpR op_eq (pe_ix ix_tup (pv 1) pe_int (fun _ _ => rfl)) (pe_gi T.g_END_FORK rfl) (nomark _)) (pss_one (ps_ret (pe_or (pe_callD O_is_wrong_way (hr.mono (by decide)) rfl (pa_cons (pv 0) (pa_cons (pe_ix ix_tup (pv 1) pe_int (fun _ _ => rfl)) (pa_cons (pe_ix ix_tup (pv 1) pe_int (fun _ _ => rfl)) pa_nil)))) (pe_one (pe_callD O_is_wrong_way (hr.mono (by decide)) rfl (pa_cons (pv 0) (pa_cons (pe_ix ix_tup (pv 1) pe_int (fun _ _ => rfl)) (pa_cons (pe_ix ix_tup (pv 1) pe_int (fun _ _ => rfl)) pa_nil)))))))) pss_nil)
      (pss_one (ps_ret pe_bl))))
/-! ### is_wrong_function (line 145) -/
abbrev s_is_wrong_function : Stmt := topS 46
abbrev N_is_wrong_function : List Str := ["function", "block"]
theorem sc_is_wrong_function : FnScope N_is_wrong_function ["function"] (defScope s_is_wrong_function) := ⟨rfl, rfl, rfl, by decide +kernel, rfl, by decide +kernel, by decide +kernel⟩
def t_is_wrong_function (K : PySem.W.Frag) (w : World) (A : Adr) (sp_is_wrong_ending : Sp) : TS :=
  (tSeq (tIfS (tOr (tTest (tOp rEq (tCB (rLenS K) (tCons (tFld K (tVar 0) "blocks") tNil)) (tC (.int 0)))) (tTest (tOp rGtI (tCB (rLenS K) (tCons (tFld K (tOp (rIxL K) (tFld K (tVar 0) "blocks") (tC (.int 0))) "taken") tNil)) (tC (.int 0))))) (tRet (tC (.bl true))) tNext)
    (tRet (tCB (rAny K) (tCons (tLc (iList K (tFld K (tVar 0) "blocks")) (gName 1) tYes (tCall sp_is_wrong_ending [] E0 (tCons (tVar 0) (tCons (tFld K (tVar 1) "ending") tNil))) [1]) tNil))))
theorem dv_is_wrong_function {sp : Sp} {sp_is_wrong_ending : Sp} (T : Top K mg A)
    (O_is_wrong_ending : DefOk P w K mg base 2 A.f_is_wrong_ending "is_wrong_ending" ["function", "ending"] sp_is_wrong_ending) (len : ∀ vs H Q E, sp vs H Q E → vs.length = 1)
    (h : ∀ vs H Q E, sp vs H Q E → t_is_wrong_function K w A sp_is_wrong_ending { nx := fun _ H' => Q .non H', rt := Q } (start N_is_wrong_function vs) H) : DefOk P w K mg base 3 A.f_is_wrong_function "is_wrong_function" ["function"] sp := by
  refine T.d_is_wrong_function.ok sc_is_wrong_function len (fun cdv Ar outer s H vs Q E hr q => ⟨t_is_wrong_function K w A sp_is_wrong_ending, ?_, h vs H Q E q⟩)
  exact (pss_cons (ps_if (PW.pt (pw_or (pt_cmpR op_eq (pe_callB call_len_seq (by rfl) T.z_len PySem.boot_len (pa_cons (pe_fld (pv 0) rfl) pa_nil)) pe_int (nomark _)) (pw_or1 (pt_cmpR op_gt (pe_callB call_len_seq (by rfl) T.z_len PySem.boot_len (pa_cons (pe_fld (pe_ix ix_list (pe_fld (pv 0) rfl) pe_int (fun _ _ => rfl)) rfl) pa_nil)) pe_int (nomark _))))) (pss_one (ps_ret pe_bl)) pss_nil)
      (pss_one (ps_ret (pe_callB (cr_any rfl) (by rfl) T.z_any (by decide +kernel) (pa_cons (pe_lc (own := [("block", 1)]) (g := gName 1) rfl sc_is_wrong_function.nd (pi_list (pe_fld (pv 0) rfl)) (blkOk_by (own := [("block", 1)]) (N := N_is_wrong_function) (sc := defScope s_is_wrong_function) (by decide +kernel)) (fun _ _ _ _ _ => pg_name (i := 1) sc_is_wrong_function.nd rfl (Or.inl rfl)) (fun _ _ _ _ _ => pts_nil) (fun _ _ _ _ _ => (pe_callD O_is_wrong_ending (hr.mono (by decide)) rfl (pa_cons (pv 0) (pa_cons (pe_fld (pv 1) rfl) pa_nil))))) pa_nil)))))
/-! ### is_wrong_call (line 149) -/
abbrev s_is_wrong_call : Stmt := topS 47
abbrev N_is_wrong_call : List Str := ["program", "row", "g"]
theorem sc_is_wrong_call : FnScope N_is_wrong_call ["program", "row"] (defScope s_is_wrong_call) := ⟨rfl, rfl, rfl, by decide +kernel, rfl, by decide +kernel, by decide +kernel⟩
def t_is_wrong_call (K : PySem.W.Frag) (w : World) (A : Adr) : TS :=
  (tSeq (tAsg (tOp (rIxT K) (tVar 1) (tC (.int 2))) (gName 2))
    (tRet (tOrV (tOp rGeI (tVar 2) (tCB (rLenS K) (tCons (tFld K (tVar 0) "functions") tNil))) (tOp rNe (tCB (rLenS K) (tCons (tOp (rIxT K) (tVar 1) (tC (.int 3))) tNil)) (tFld K (tOp (rIxL K) (tFld K (tVar 0) "functions") (tVar 2)) "handed")))))
theorem dv_is_wrong_call {sp : Sp} (T : Top K mg A) (len : ∀ vs H Q E, sp vs H Q E → vs.length = 2)
    (h : ∀ vs H Q E, sp vs H Q E → t_is_wrong_call K w A { nx := fun _ H' => Q .non H', rt := Q } (start N_is_wrong_call vs) H) : DefOk P w K mg base 1 A.f_is_wrong_call "is_wrong_call" ["program", "row"] sp := by
  refine T.d_is_wrong_call.ok sc_is_wrong_call len (fun cdv Ar outer s H vs Q E hr q => ⟨t_is_wrong_call K w A, ?_, h vs H Q E q⟩)
  exact (pss_cons (ps_set (i := 2) sc_is_wrong_call.nd rfl (.inl rfl) (pe_ix ix_tup (pv 1) pe_int (fun _ _ => rfl)))
      (pss_one (ps_ret (pe_or (pe_cmpR op_ge (pv 2) (pe_callB call_len_seq (by rfl) T.z_len PySem.boot_len (pa_cons (pe_fld (pv 0) rfl) pa_nil)) (nomark _)) (pe_one (pe_cmpR op_ne (pe_callB call_len_seq (by rfl) T.z_len PySem.boot_len (pa_cons (pe_ix ix_tup (pv 1) pe_int (fun _ _ => rfl)) pa_nil)) (pe_fld (pe_ix ix_list (pe_fld (pv 0) rfl) (pv 2) (fun _ _ => rfl)) rfl) (nomark _)))))))
/-! ### is_sound (line 152) -/
abbrev s_is_sound : Stmt := topS 48
abbrev N_is_sound : List Str := ["program", "function", "place"]
theorem sc_is_sound : FnScope N_is_sound ["program"] (defScope s_is_sound) := ⟨rfl, rfl, rfl, by decide +kernel, rfl, by decide +kernel, by decide +kernel⟩
def t_is_sound (K : PySem.W.Frag) (w : World) (A : Adr) (sp_is_wrong_function sp_all_calls sp_is_wrong_call sp_row_at : Sp) : TS :=
  (tSeq (tIfS (tOr (tTest (tOp rNotN (tFld K (tVar 0) "unended") (tC .non))) (tTest (tOp rEq (tCB (rLenS K) (tCons (tFld K (tVar 0) "functions") tNil)) (tC (.int 0))))) (tRet (tC (.bl false))) tNext)
    (tSeq (tIfS (tB (tCB (rAny K) (tCons (tLc (iList K (tFld K (tVar 0) "functions")) (gName 1) tYes (tCall sp_is_wrong_function [] E0 (tCons (tVar 1) tNil)) [1]) tNil))) (tRet (tC (.bl false))) tNext)
    (tRet (tNotV (tCB (rAny K) (tCons (tLc (iList K (tCall sp_all_calls [] E0 (tCons (tVar 0) tNil))) (gName 2) tYes (tCall sp_is_wrong_call [] E0 (tCons (tVar 0) (tCons (tCall sp_row_at [] E0 (tCons (tVar 0) (tCons (tVar 2) tNil))) tNil))) [2]) tNil))))))
theorem dv_is_sound {sp : Sp} {sp_is_wrong_function sp_all_calls sp_is_wrong_call sp_row_at : Sp} (T : Top K mg A)
    (O_is_wrong_function : DefOk P w K mg base 3 A.f_is_wrong_function "is_wrong_function" ["function"] sp_is_wrong_function)
    (O_all_calls : DefOk P w K mg base 2 A.f_all_calls "all_calls" ["program"] sp_all_calls)
    (O_is_wrong_call : DefOk P w K mg base 1 A.f_is_wrong_call "is_wrong_call" ["program", "row"] sp_is_wrong_call)
    (O_row_at : DefOk P w K mg base 1 A.f_row_at "row_at" ["program", "place"] sp_row_at) (len : ∀ vs H Q E, sp vs H Q E → vs.length = 1)
    (h : ∀ vs H Q E, sp vs H Q E → t_is_sound K w A sp_is_wrong_function sp_all_calls sp_is_wrong_call sp_row_at { nx := fun _ H' => Q .non H', rt := Q } (start N_is_sound vs) H) : DefOk P w K mg base 4 A.f_is_sound "is_sound" ["program"] sp := by
  refine T.d_is_sound.ok sc_is_sound len (fun cdv Ar outer s H vs Q E hr q => ⟨t_is_sound K w A sp_is_wrong_function sp_all_calls sp_is_wrong_call sp_row_at, ?_, h vs H Q E q⟩)
  exact (pss_cons (ps_if (PW.pt (pw_or (pt_cmpR op_notN (pe_fld (pv 0) rfl) pe_non (nomark _)) (pw_or1 (pt_cmpR op_eq (pe_callB call_len_seq (by rfl) T.z_len PySem.boot_len (pa_cons (pe_fld (pv 0) rfl) pa_nil)) pe_int (nomark _))))) (pss_one (ps_ret pe_bl)) pss_nil)
      (pss_cons (ps_if (pt_val (pe_callB (cr_any rfl) (by rfl) T.z_any (by decide +kernel) (pa_cons (pe_lc (own := [("function", 1)]) (g := gName 1) rfl sc_is_sound.nd (pi_list (pe_fld (pv 0) rfl)) (blkOk_by (own := [("function", 1)]) (N := N_is_sound) (sc := defScope s_is_sound) (by decide +kernel)) (fun _ _ _ _ _ => pg_name (i := 1) sc_is_sound.nd rfl (Or.inl rfl)) (fun _ _ _ _ _ => pts_nil) (fun _ _ _ _ _ => (pe_callD O_is_wrong_function (hr.mono (by decide)) rfl (pa_cons (pv 1) pa_nil)))) pa_nil))) (pss_one (ps_ret pe_bl)) pss_nil)
      (pss_one (ps_ret (pe_not (pe_callB (cr_any rfl) (by rfl) T.z_any (by decide +kernel) (pa_cons (pe_lc (own := [("place", 2)]) (g := gName 2) rfl sc_is_sound.nd (pi_list (pe_callD O_all_calls (hr.mono (by decide)) rfl (pa_cons (pv 0) pa_nil))) (blkOk_by (own := [("place", 2)]) (N := N_is_sound) (sc := defScope s_is_sound) (by decide +kernel)) (fun _ _ _ _ _ => pg_name (i := 2) sc_is_sound.nd rfl (Or.inl rfl)) (fun _ _ _ _ _ => pts_nil) (fun _ _ _ _ _ => (pe_callD O_is_wrong_call (hr.mono (by decide)) rfl (pa_cons (pv 0) (pa_cons (pe_callD O_row_at (hr.mono (by decide)) rfl (pa_cons (pv 0) (pa_cons (pv 2) pa_nil))) pa_nil))))) pa_nil)))))))
/-! ### list_in_numbers (line 159) -/
abbrev s_list_in_numbers : Stmt := topS 50
abbrev N_list_in_numbers : List Str := ["names"]
theorem sc_list_in_numbers : FnScope N_list_in_numbers ["names"] (defScope s_list_in_numbers) := ⟨rfl, rfl, rfl, by decide +kernel, rfl, by decide +kernel, by decide +kernel⟩
def t_list_in_numbers (K : PySem.W.Frag) (w : World) (A : Adr) : TS :=
  (tRet (tOp rCat (tLst (tCons (tCB (rLenS K) (tCons (tVar 0) tNil)) tNil)) (tCB (rListS K) (tCons (tVar 0) tNil))))
theorem dv_list_in_numbers {sp : Sp} (T : Top K mg A) (len : ∀ vs H Q E, sp vs H Q E → vs.length = 1)
    (h : ∀ vs H Q E, sp vs H Q E → t_list_in_numbers K w A { nx := fun _ H' => Q .non H', rt := Q } (start N_list_in_numbers vs) H) : DefOk P w K mg base 1 A.f_list_in_numbers "list_in_numbers" ["names"] sp := by
  refine T.d_list_in_numbers.ok sc_list_in_numbers len (fun cdv Ar outer s H vs Q E hr q => ⟨t_list_in_numbers K w A, ?_, h vs H Q E q⟩)
  exact (pss_one (ps_ret (pe_op op_cat (pe_lst (pa_cons (pe_callB call_len_seq (by rfl) T.z_len PySem.boot_len (pa_cons (pv 0) pa_nil)) pa_nil)) (pe_callTy call_list_of (by rfl) T.z_list (by decide +kernel) (pa_cons (pv 0) pa_nil)))))
/-! ### row_in_numbers (line 161) -/
abbrev s_row_in_numbers : Stmt := topS 51
abbrev N_row_in_numbers : List Str := ["row"]
theorem sc_row_in_numbers : FnScope N_row_in_numbers ["row"] (defScope s_row_in_numbers) := ⟨rfl, rfl, rfl, by decide +kernel, rfl, by decide +kernel, by decide +kernel⟩
def t_row_in_numbers (K : PySem.W.Frag) (w : World) (A : Adr) (sp_list_in_numbers : Sp) : TS :=
  (tSeq (tIfS (tTest (tOp rEq (tOp (rIxT K) (tVar 0) (tC (.int 0))) (tC (.int 4)))) (tRet (tOp rCat (tCB (rListS K) (tCons (tSl (rSlT K) (tVar 0) tNoPart (tPart (tC (.int 3)))) tNil)) (tCall sp_list_in_numbers [] E0 (tCons (tOp (rIxT K) (tVar 0) (tC (.int 3))) tNil)))) tNext)
    (tRet (tCB (rListS K) (tCons (tVar 0) tNil))))
theorem dv_row_in_numbers {sp : Sp} {sp_list_in_numbers : Sp} (T : Top K mg A)
    (O_list_in_numbers : DefOk P w K mg base 1 A.f_list_in_numbers "list_in_numbers" ["names"] sp_list_in_numbers) (len : ∀ vs H Q E, sp vs H Q E → vs.length = 1)
    (h : ∀ vs H Q E, sp vs H Q E → t_row_in_numbers K w A sp_list_in_numbers { nx := fun _ H' => Q .non H', rt := Q } (start N_row_in_numbers vs) H) : DefOk P w K mg base 2 A.f_row_in_numbers "row_in_numbers" ["row"] sp := by
  refine T.d_row_in_numbers.ok sc_row_in_numbers len (fun cdv Ar outer s H vs Q E hr q => ⟨t_row_in_numbers K w A sp_list_in_numbers, ?_, h vs H Q E q⟩)
  exact (pss_cons (ps_if (pt_cmpR op_eq (pe_ix ix_tup (pv 0) pe_int (fun _ _ => rfl)) (pe_gi T.g_ROW_CALL rfl) (nomark _)) (pss_one (ps_ret (pe_op op_cat (pe_callTy call_list_of (by rfl) T.z_list (by decide +kernel) (pa_cons (pe_slice sl_tup (pv 0) po_none (po_some pe_int)) pa_nil)) (pe_callD O_list_in_numbers (hr.mono (by decide)) rfl (pa_cons (pe_ix ix_tup (pv 0) pe_int (fun _ _ => rfl)) pa_nil))))) pss_nil)
      (pss_one (ps_ret (pe_callTy call_list_of (by rfl) T.z_list (by decide +kernel) (pa_cons (pv 0) pa_nil)))))
/-! ### ending_in_numbers (line 165) -/
abbrev s_ending_in_numbers : Stmt := topS 52
abbrev N_ending_in_numbers : List Str := ["ending", "to_t"]
theorem sc_ending_in_numbers : FnScope N_ending_in_numbers ["ending"] (defScope s_ending_in_numbers) := ⟨rfl, rfl, rfl, by decide +kernel, rfl, by decide +kernel, by decide +kernel⟩
def t_ending_in_numbers (K : PySem.W.Frag) (w : World) (A : Adr) (sp_list_in_numbers : Sp) : TS :=
  (tSeq (tIfS (tTest (tOp rEq (tOp (rIxT K) (tVar 0) (tC (.int 0))) (tC (.int 0)))) (tRet (tOp rCat (tCB (rListS K) (tCons (tSl (rSlT K) (tVar 0) tNoPart (tPart (tC (.int 2)))) tNil)) (tCall sp_list_in_numbers [] E0 (tCons (tOp (rIxT K) (tVar 0) (tC (.int 2))) tNil)))) tNext)
    (tSeq (tIfS (tTest (tOp rEq (tOp (rIxT K) (tVar 0) (tC (.int 0))) (tC (.int 1)))) (tSeq (tAsg (tOp rCat (tCB (rListS K) (tCons (tSl (rSlT K) (tVar 0) tNoPart (tPart (tC (.int 3)))) tNil)) (tCall sp_list_in_numbers [] E0 (tCons (tOp (rIxT K) (tVar 0) (tC (.int 3))) tNil))) (gName 1))
    (tRet (tOp rCat (tOp rCat (tVar 1) (tLst (tCons (tOp (rIxT K) (tVar 0) (tC (.int 4))) tNil))) (tCall sp_list_in_numbers [] E0 (tCons (tOp (rIxT K) (tVar 0) (tC (.int 5))) tNil))))) tNext)
    (tRet (tCB (rListS K) (tCons (tVar 0) tNil)))))
theorem dv_ending_in_numbers {sp : Sp} {sp_list_in_numbers : Sp} (T : Top K mg A)
    (O_list_in_numbers : DefOk P w K mg base 1 A.f_list_in_numbers "list_in_numbers" ["names"] sp_list_in_numbers) (len : ∀ vs H Q E, sp vs H Q E → vs.length = 1)
    (h : ∀ vs H Q E, sp vs H Q E → t_ending_in_numbers K w A sp_list_in_numbers { nx := fun _ H' => Q .non H', rt := Q } (start N_ending_in_numbers vs) H) : DefOk P w K mg base 2 A.f_ending_in_numbers "ending_in_numbers" ["ending"] sp := by
  refine T.d_ending_in_numbers.ok sc_ending_in_numbers len (fun cdv Ar outer s H vs Q E hr q => ⟨t_ending_in_numbers K w A sp_list_in_numbers, ?_, h vs H Q E q⟩)
  exact (pss_cons (ps_if (pt_cmpR op_eq (pe_ix ix_tup (pv 0) pe_int (fun _ _ => rfl)) (pe_gi T.g_END_JUMP rfl) (nomark _)) (pss_one (ps_ret (pe_op op_cat (pe_callTy call_list_of (by rfl) T.z_list (by decide +kernel) (pa_cons (pe_slice sl_tup (pv 0) po_none (po_some pe_int)) pa_nil)) (pe_callD O_list_in_numbers (hr.mono (by decide)) rfl (pa_cons (pe_ix ix_tup (pv 0) pe_int (fun _ _ => rfl)) pa_nil))))) pss_nil)
      (pss_cons (ps_if (pt_cmpR op_eq (pe_ix ix_tup (pv 0) pe_int (fun _ _ => rfl)) (pe_gi T.g_END_FORK rfl) (nomark _)) (pss_cons (ps_set (i := 1) sc_ending_in_numbers.nd rfl (.inl rfl) (pe_op op_cat (pe_callTy call_list_of (by rfl) T.z_list (by decide +kernel) (pa_cons (pe_slice sl_tup (pv 0) po_none (po_some pe_int)) pa_nil)) (pe_callD O_list_in_numbers (hr.mono (by decide)) rfl (pa_cons (pe_ix ix_tup (pv 0) pe_int (fun _ _ => rfl)) pa_nil))))
      (pss_one (ps_ret (pe_op op_cat (pe_op op_cat (pv 1) (pe_lst (pa_cons (pe_ix ix_tup (pv 0) pe_int (fun _ _ => rfl)) pa_nil))) (pe_callD O_list_in_numbers (hr.mono (by decide)) rfl (pa_cons (pe_ix ix_tup (pv 0) pe_int (fun _ _ => rfl)) pa_nil)))))) pss_nil)
      (pss_one (ps_ret (pe_callTy call_list_of (by rfl) T.z_list (by decide +kernel) (pa_cons (pv 0) pa_nil))))))
/-! ### unended_in_numbers (line 172) -/
abbrev s_unended_in_numbers : Stmt := topS 53
abbrev N_unended_in_numbers : List Str := ["block", "numbers", "row"]
theorem sc_unended_in_numbers : FnScope N_unended_in_numbers ["block"] (defScope s_unended_in_numbers) := ⟨rfl, rfl, rfl, by decide +kernel, rfl, by decide +kernel, by decide +kernel⟩
def t_unended_in_numbers (K : PySem.W.Frag) (w : World) (A : Adr) (sp_list_in_numbers sp_row_in_numbers : Sp) : TS :=
  (tSeq (tAsg (tCall sp_list_in_numbers [] E0 (tCons (tFld K (tVar 0) "taken") tNil)) (gName 1))
    (tSeq (tDrop (tBM K "list" rAppend (tVar 1) (tCons (tCB (rLenS K) (tCons (tFld K (tVar 0) "rows") tNil)) tNil)))
    (tSeq (tFor (iList K (tFld K (tVar 0) "rows")) (gName 2) (tDrop (tBM K "list" rExtend (tVar 1) (tCons (tCall sp_row_in_numbers [] E0 (tCons (tVar 2) tNil)) tNil))))
    (tRet (tVar 1)))))
theorem dv_unended_in_numbers {sp : Sp} {sp_list_in_numbers sp_row_in_numbers : Sp} (T : Top K mg A)
    (O_list_in_numbers : DefOk P w K mg base 1 A.f_list_in_numbers "list_in_numbers" ["names"] sp_list_in_numbers)
    (O_row_in_numbers : DefOk P w K mg base 2 A.f_row_in_numbers "row_in_numbers" ["row"] sp_row_in_numbers) (len : ∀ vs H Q E, sp vs H Q E → vs.length = 1)
    (h : ∀ vs H Q E, sp vs H Q E → t_unended_in_numbers K w A sp_list_in_numbers sp_row_in_numbers { nx := fun _ H' => Q .non H', rt := Q } (start N_unended_in_numbers vs) H) : DefOk P w K mg base 3 A.f_unended_in_numbers "unended_in_numbers" ["block"] sp := by
  refine T.d_unended_in_numbers.ok sc_unended_in_numbers len (fun cdv Ar outer s H vs Q E hr q => ⟨t_unended_in_numbers K w A sp_list_in_numbers sp_row_in_numbers, ?_, h vs H Q E q⟩)
  exact (pss_cons (ps_set (i := 1) sc_unended_in_numbers.nd rfl (.inl rfl) (pe_callD O_list_in_numbers (hr.mono (by decide)) rfl (pa_cons (pe_fld (pv 0) rfl) pa_nil)))
      (pss_cons (ps_expr (pe_bm PySem.F.plainAttrs_list PySem.F.slot_list_append PySem.F.type_list_append mt_append (pv 1) (pa_cons (pe_callB call_len_seq (by rfl) T.z_len PySem.boot_len (pa_cons (pe_fld (pv 0) rfl) pa_nil)) pa_nil)))
      (pss_cons (ps_for PassesOwn.never rfl (pi_list (pe_fld (pv 0) rfl)) (pg_name (i := 2) sc_unended_in_numbers.nd rfl (.inl rfl)) (pss_one (ps_expr (pe_bm PySem.F.plainAttrs_list PySem.F.slot_list_extend PySem.F.type_list_extend mt_extend (pv 1) (pa_cons (pe_callD O_row_in_numbers (hr.mono (by decide)) rfl (pa_cons (pv 2) pa_nil)) pa_nil)))))
      (pss_one (ps_ret (pv 1))))))
/-! ### function_in_numbers (line 178) -/
abbrev s_function_in_numbers : Stmt := topS 54
abbrev N_function_in_numbers : List Str := ["function", "numbers", "block"]
theorem sc_function_in_numbers : FnScope N_function_in_numbers ["function"] (defScope s_function_in_numbers) := ⟨rfl, rfl, rfl, by decide +kernel, rfl, by decide +kernel, by decide +kernel⟩
def t_function_in_numbers (K : PySem.W.Frag) (w : World) (A : Adr) (sp_unended_in_numbers sp_ending_in_numbers : Sp) : TS :=
  (tSeq (tAsg (tLst (tCons (tFld K (tVar 0) "handed") (tCons (tCB (rLenS K) (tCons (tFld K (tVar 0) "blocks") tNil)) tNil))) (gName 1))
    (tSeq (tFor (iList K (tFld K (tVar 0) "blocks")) (gName 2) (tSeq (tDrop (tBM K "list" rExtend (tVar 1) (tCons (tCall sp_unended_in_numbers [] E0 (tCons (tVar 2) tNil)) tNil)))
    (tDrop (tBM K "list" rExtend (tVar 1) (tCons (tCall sp_ending_in_numbers [] E0 (tCons (tFld K (tVar 2) "ending") tNil)) tNil)))))
    (tRet (tVar 1))))
theorem dv_function_in_numbers {sp : Sp} {sp_unended_in_numbers sp_ending_in_numbers : Sp} (T : Top K mg A)
    (O_unended_in_numbers : DefOk P w K mg base 3 A.f_unended_in_numbers "unended_in_numbers" ["block"] sp_unended_in_numbers)
    (O_ending_in_numbers : DefOk P w K mg base 2 A.f_ending_in_numbers "ending_in_numbers" ["ending"] sp_ending_in_numbers) (len : ∀ vs H Q E, sp vs H Q E → vs.length = 1)
    (h : ∀ vs H Q E, sp vs H Q E → t_function_in_numbers K w A sp_unended_in_numbers sp_ending_in_numbers { nx := fun _ H' => Q .non H', rt := Q } (start N_function_in_numbers vs) H) : DefOk P w K mg base 4 A.f_function_in_numbers "function_in_numbers" ["function"] sp := by
  refine T.d_function_in_numbers.ok sc_function_in_numbers len (fun cdv Ar outer s H vs Q E hr q => ⟨t_function_in_numbers K w A sp_unended_in_numbers sp_ending_in_numbers, ?_, h vs H Q E q⟩)
  exact (pss_cons (ps_set (i := 1) sc_function_in_numbers.nd rfl (.inl rfl) (pe_lst (pa_cons (pe_fld (pv 0) rfl) (pa_cons (pe_callB call_len_seq (by rfl) T.z_len PySem.boot_len (pa_cons (pe_fld (pv 0) rfl) pa_nil)) pa_nil))))
      (pss_cons (ps_for PassesOwn.never rfl (pi_list (pe_fld (pv 0) rfl)) (pg_name (i := 2) sc_function_in_numbers.nd rfl (.inl rfl)) (pss_cons (ps_expr (pe_bm PySem.F.plainAttrs_list PySem.F.slot_list_extend PySem.F.type_list_extend mt_extend (pv 1) (pa_cons (pe_callD O_unended_in_numbers (hr.mono (by decide)) rfl (pa_cons (pv 2) pa_nil)) pa_nil)))
      (pss_one (ps_expr (pe_bm PySem.F.plainAttrs_list PySem.F.slot_list_extend PySem.F.type_list_extend mt_extend (pv 1) (pa_cons (pe_callD O_ending_in_numbers (hr.mono (by decide)) rfl (pa_cons (pe_fld (pv 2) rfl) pa_nil)) pa_nil))))))
      (pss_one (ps_ret (pv 1)))))
/-! ### program_in_numbers (line 184) -/
abbrev s_program_in_numbers : Stmt := topS 55
abbrev N_program_in_numbers : List Str := ["program", "numbers", "function"]
theorem sc_program_in_numbers : FnScope N_program_in_numbers ["program"] (defScope s_program_in_numbers) := ⟨rfl, rfl, rfl, by decide +kernel, rfl, by decide +kernel, by decide +kernel⟩
def t_program_in_numbers (K : PySem.W.Frag) (w : World) (A : Adr) (sp_function_in_numbers : Sp) : TS :=
  (tSeq (tAsg (tLst (tCons (tCB (rLenS K) (tCons (tFld K (tVar 0) "functions") tNil)) tNil)) (gName 1))
    (tSeq (tFor (iList K (tFld K (tVar 0) "functions")) (gName 2) (tDrop (tBM K "list" rExtend (tVar 1) (tCons (tCall sp_function_in_numbers [] E0 (tCons (tVar 2) tNil)) tNil))))
    (tRet (tVar 1))))
theorem dv_program_in_numbers {sp : Sp} {sp_function_in_numbers : Sp} (T : Top K mg A)
    (O_function_in_numbers : DefOk P w K mg base 4 A.f_function_in_numbers "function_in_numbers" ["function"] sp_function_in_numbers) (len : ∀ vs H Q E, sp vs H Q E → vs.length = 1)
    (h : ∀ vs H Q E, sp vs H Q E → t_program_in_numbers K w A sp_function_in_numbers { nx := fun _ H' => Q .non H', rt := Q } (start N_program_in_numbers vs) H) : DefOk P w K mg base 5 A.f_program_in_numbers "program_in_numbers" ["program"] sp := by
  refine T.d_program_in_numbers.ok sc_program_in_numbers len (fun cdv Ar outer s H vs Q E hr q => ⟨t_program_in_numbers K w A sp_function_in_numbers, ?_, h vs H Q E q⟩)
  exact (pss_cons (ps_set (i := 1) sc_program_in_numbers.nd rfl (.inl rfl) (pe_lst (pa_cons (pe_callB call_len_seq (by rfl) T.z_len PySem.boot_len (pa_cons (pe_fld (pv 0) rfl) pa_nil)) pa_nil)))
      (pss_cons (ps_for PassesOwn.never rfl (pi_list (pe_fld (pv 0) rfl)) (pg_name (i := 2) sc_program_in_numbers.nd rfl (.inl rfl)) (pss_one (ps_expr (pe_bm PySem.F.plainAttrs_list PySem.F.slot_list_extend PySem.F.type_list_extend mt_extend (pv 1) (pa_cons (pe_callD O_function_in_numbers (hr.mono (by decide)) rfl (pa_cons (pv 2) pa_nil)) pa_nil)))))
      (pss_one (ps_ret (pv 1)))))
/-! ### Begun (line 205) -/
abbrev s_Begun : Stmt := inClass (topS 70) 0
abbrev N_Begun : List Str := ["self", "f", "handed", "getter", "name"]
theorem sc_Begun : FnScope N_Begun ["self", "f", "handed", "getter"] (defScope s_Begun) := ⟨rfl, rfl, rfl, by decide +kernel, rfl, by decide +kernel, by decide +kernel⟩
def t_Begun (K : PySem.W.Frag) (w : World) (A : Adr) : TS :=
  (tSeq (sFld K (tVar 0) (tVar 1) "f")
    (tSeq (sFld K (tVar 0) (tC (.int 0)) "b")
    (tSeq (sFld K (tVar 0) (tC (.int 0)) "r")
    (tSeq (sFld K (tVar 0) (tVar 3) "getter")
    (tSeq (sFld K (tVar 0) tDNewK "words")
    (tFor (iRng1 (tCons (tCB (rLenS K) (tCons (tVar 2) tNil)) tNil)) (gName 4) (sDPut (tFld K (tVar 0) "words") (tVar 4) (tOp (rIxL K) (tVar 2) (tVar 4)))))))))
theorem dv_Begun {sp : Sp} (T : Top K mg A) (len : ∀ vs H Q E, sp vs H Q E → vs.length = 4)
    (h : ∀ vs H Q E, sp vs H Q E → t_Begun K w A { nx := fun _ H' => Q .non H', rt := Q } (start N_Begun vs) H) : MakeOk P w K mg base 1 A.C_Begun A.f_Begun "Begun" ["self", "f", "handed", "getter"] sp := by
  refine T.d_Begun.ok sc_Begun len (fun cdv Ar outer s H vs Q E hr q => ⟨t_Begun K w A, ?_, h vs H Q E q⟩)
  have hu := hu_of hr
  exact (pss_cons (ps_fld (pv 0) (pv 1) rfl)
      (pss_cons (ps_fld (pv 0) pe_int rfl)
      (pss_cons (ps_fld (pv 0) pe_int rfl)
      (pss_cons (ps_fld (pv 0) (pv 3) rfl)
      (pss_cons (ps_fld (pv 0) pe_dnewK rfl)
      (pss_one (ps_for PassesOwn.never rfl (pi_range1 (by rfl) T.z_range (pa_cons (pe_callB call_len_seq (by rfl) T.z_len PySem.boot_len (pa_cons (pv 2) pa_nil)) pa_nil)) (pg_name (i := 4) sc_Begun.nd rfl (.inl rfl)) (pss_one (ps_dput hu (pe_fld (pv 0) rfl) (pv 4) (pe_ix ix_list (pv 2) (pv 4) (fun _ _ => rfl)) rfl)))))))))
/-! ### Run (line 215) -/
abbrev s_Run : Stmt := inClass (topS 71) 0
abbrev N_Run : List Str := ["self", "program", "f", "handed"]
theorem sc_Run : FnScope N_Run ["self", "program", "f", "handed"] (defScope s_Run) := ⟨rfl, rfl, rfl, by decide +kernel, rfl, by decide +kernel, by decide +kernel⟩
def t_Run (K : PySem.W.Frag) (w : World) (A : Adr) (sp_Begun : Sp) : TS :=
  (tSeq (sFld K (tVar 0) (tVar 1) "program")
    (tSeq (sFld K (tVar 0) (tLst (tCons (tMake A.C_Begun sp_Begun [] E0 (tCons (tVar 2) (tCons (tVar 3) (tCons (tC .non) tNil)))) tNil)) "begun")
    (tSeq (sFld K (tVar 0) (tLst tNil) "said")
    (tSeq (sFld K (tVar 0) tDNewT "made")
    (tSeq (sFld K (tVar 0) (tC (.bl false)) "failed")
    (sFld K (tVar 0) (tC .non) "given"))))))
theorem dv_Run {sp : Sp} {sp_Begun : Sp} (T : Top K mg A)
    (O_Begun : MakeOk P w K mg base 1 A.C_Begun A.f_Begun "Begun" ["self", "f", "handed", "getter"] sp_Begun) (len : ∀ vs H Q E, sp vs H Q E → vs.length = 4)
    (h : ∀ vs H Q E, sp vs H Q E → t_Run K w A sp_Begun { nx := fun _ H' => Q .non H', rt := Q } (start N_Run vs) H) : MakeOk P w K mg base 3 A.C_Run A.f_Run "Run" ["self", "program", "f", "handed"] sp := by
  refine T.d_Run.ok sc_Run len (fun cdv Ar outer s H vs Q E hr q => ⟨t_Run K w A sp_Begun, ?_, h vs H Q E q⟩)
  exact (pss_cons (ps_fld (pv 0) (pv 1) rfl)
      (pss_cons (ps_fld (pv 0) (pe_lst (pa_cons (pe_makeD O_Begun (hr.mono (by decide)) rfl (pa_cons (pv 2) (pa_cons (pv 3) (pa_cons pe_non pa_nil)))) pa_nil)) rfl)
      (pss_cons (ps_fld (pv 0) (pe_lst pa_nil) rfl)
      (pss_cons (ps_fld (pv 0) pe_dnewT rfl)
      (pss_cons (ps_fld (pv 0) pe_bl rfl)
      (pss_one (ps_fld (pv 0) pe_non rfl)))))))
/-! ### result (line 222) -/
abbrev s_result : Stmt := topS 72
abbrev N_result : List Str := ["o", "first", "second"]
theorem sc_result : FnScope N_result ["o", "first", "second"] (defScope s_result) := ⟨rfl, rfl, rfl, by decide +kernel, rfl, by decide +kernel, by decide +kernel⟩
def t_result (K : PySem.W.Frag) (w : World) (A : Adr) : TS :=
  (tSeq (tIfS (tTest (tOp rEq (tVar 0) (tC (.int 0)))) (tRet (tOp rModI (tOp rAddI (tVar 1) (tVar 2)) (tC (.int 4294967296)))) tNext)
    (tSeq (tIfS (tTest (tOp rEq (tVar 0) (tC (.int 1)))) (tRet (tOp rModI (tOp rSubI (tVar 1) (tVar 2)) (tC (.int 4294967296)))) tNext)
    (tSeq (tIfS (tTest (tOp rEq (tVar 0) (tC (.int 2)))) (tRet (tOp rModI (tOp rMulI (tVar 1) (tVar 2)) (tC (.int 4294967296)))) tNext)
    (tSeq (tIfS (tTest (tOp rEq (tVar 0) (tC (.int 3)))) (tRet (tOp rAndI (tVar 1) (tVar 2))) tNext)
    (tSeq (tIfS (tTest (tOp rEq (tVar 0) (tC (.int 4)))) (tRet (tOp rOrI (tVar 1) (tVar 2))) tNext)
    (tSeq (tIfS (tTest (tOp rEq (tVar 0) (tC (.int 5)))) (tRet (tOp rXorI (tVar 1) (tVar 2))) tNext)
    (tSeq (tIfS (tTest (tOp rEq (tVar 0) (tC (.int 6)))) (tRet (tOp rModI (tOp rShlI (tVar 1) (tOp rModI (tVar 2) (tC (.int 32)))) (tC (.int 4294967296)))) tNext)
    (tSeq (tIfS (tTest (tOp rEq (tVar 0) (tC (.int 7)))) (tRet (tOp rShrI (tVar 1) (tOp rModI (tVar 2) (tC (.int 32))))) tNext)
    (tSeq (tIfS (tTest (tOp rEq (tVar 0) (tC (.int 8)))) (tRet (tIf (tTest (tOp rLtI (tVar 1) (tVar 2))) (tC (.int 1)) (tC (.int 0)))) tNext)
    (tSeq (tIfS (tTest (tOp rEq (tVar 0) (tC (.int 9)))) (tRet (tIf (tTest (tOp rEq (tVar 1) (tVar 2))) (tC (.int 1)) (tC (.int 0)))) tNext)
    (tRet (tOp rFdivI (tVar 1) (tVar 2)))))))))))))
theorem dv_result {sp : Sp} (T : Top K mg A) (len : ∀ vs H Q E, sp vs H Q E → vs.length = 3)
    (h : ∀ vs H Q E, sp vs H Q E → t_result K w A { nx := fun _ H' => Q .non H', rt := Q } (start N_result vs) H) : DefOk P w K mg base 1 A.f_result "result" ["o", "first", "second"] sp := by
  refine T.d_result.ok sc_result len (fun cdv Ar outer s H vs Q E hr q => ⟨t_result K w A, ?_, h vs H Q E q⟩)
  exact (pss_cons (ps_if (pt_cmpR op_eq (pv 0) (pe_gi T.g_SUM rfl) (nomark _)) (pss_one (ps_ret (pe_op op_mod (pe_op op_add (pv 1) (pv 2)) (pe_gi T.g_WORDS rfl)))) pss_nil)
      (pss_cons (ps_if (pt_cmpR op_eq (pv 0) (pe_gi T.g_LESS rfl) (nomark _)) (pss_one (ps_ret (pe_op op_mod (pe_op op_sub (pv 1) (pv 2)) (pe_gi T.g_WORDS rfl)))) pss_nil)
      (pss_cons (ps_if (pt_cmpR op_eq (pv 0) (pe_gi T.g_PRODUCT rfl) (nomark _)) (pss_one (ps_ret (pe_op op_mod (pe_op op_mul (pv 1) (pv 2)) (pe_gi T.g_WORDS rfl)))) pss_nil)
      (pss_cons (ps_if (pt_cmpR op_eq (pv 0) (pe_gi T.g_AND rfl) (nomark _)) (pss_one (ps_ret (pe_op op_and (pv 1) (pv 2)))) pss_nil)
      (pss_cons (ps_if (pt_cmpR op_eq (pv 0) (pe_gi T.g_OR rfl) (nomark _)) (pss_one (ps_ret (pe_op op_or (pv 1) (pv 2)))) pss_nil)
      (pss_cons (ps_if (pt_cmpR op_eq (pv 0) (pe_gi T.g_EXCLUSIVE_OR rfl) (nomark _)) (pss_one (ps_ret (pe_op op_xor (pv 1) (pv 2)))) pss_nil)
      (pss_cons (ps_if (pt_cmpR op_eq (pv 0) (pe_gi T.g_UP rfl) (nomark _)) (pss_one (ps_ret (pe_op op_mod (pe_op op_shl (pv 1) (pe_op op_mod (pv 2) (pe_gi T.g_BITS rfl))) (pe_gi T.g_WORDS rfl)))) pss_nil)
      (pss_cons (ps_if (pt_cmpR op_eq (pv 0) (pe_gi T.g_DOWN rfl) (nomark _)) (pss_one (ps_ret (pe_op op_shr (pv 1) (pe_op op_mod (pv 2) (pe_gi T.g_BITS rfl))))) pss_nil)
      (pss_cons (ps_if (pt_cmpR op_eq (pv 0) (pe_gi T.g_IS_LESS rfl) (nomark _)) (pss_one (ps_ret (pe_ifExp (pt_cmpR op_lt (pv 1) (pv 2) (nomark _)) pe_int pe_int))) pss_nil)
      (pss_cons (ps_if (pt_cmpR op_eq (pv 0) (pe_gi T.g_IS_SAME rfl) (nomark _)) (pss_one (ps_ret (pe_ifExp (pt_cmpR op_eq (pv 1) (pv 2) (nomark _)) pe_int pe_int))) pss_nil)
      (pss_one (ps_ret (pe_op op_fdivW (pv 1) (pv 2))))))))))))))
/-! ### word_of (line 244) -/
abbrev s_word_of : Stmt := topS 73
abbrev N_word_of : List Str := ["begun", "name"]
theorem sc_word_of : FnScope N_word_of ["begun", "name"] (defScope s_word_of) := ⟨rfl, rfl, rfl, by decide +kernel, rfl, by decide +kernel, by decide +kernel⟩
def t_word_of (K : PySem.W.Frag) (w : World) (A : Adr) : TS :=
  (tRet (tDGet2 (tFld K (tVar 0) "words") (tVar 1) (tC (.int 0))))
theorem dv_word_of {sp : Sp} (T : Top K mg A) (len : ∀ vs H Q E, sp vs H Q E → vs.length = 2)
    (h : ∀ vs H Q E, sp vs H Q E → t_word_of K w A { nx := fun _ H' => Q .non H', rt := Q } (start N_word_of vs) H) : DefOk P w K mg base 1 A.f_word_of "word_of" ["begun", "name"] sp := by
  refine T.d_word_of.ok sc_word_of len (fun cdv Ar outer s H vs Q E hr q => ⟨t_word_of K w A, ?_, h vs H Q E q⟩)
  have hu := hu_of hr
  exact (pss_one (ps_ret (pe_dget2 hu (pe_fld (pv 0) rfl) (pv 1) pe_int ⟨rfl, rfl, rfl, rfl⟩)))
/-! ### words_of (line 246) -/
abbrev s_words_of : Stmt := topS 74
abbrev N_words_of : List Str := ["begun", "names", "name"]
theorem sc_words_of : FnScope N_words_of ["begun", "names"] (defScope s_words_of) := ⟨rfl, rfl, rfl, by decide +kernel, rfl, by decide +kernel, by decide +kernel⟩
def t_words_of (K : PySem.W.Frag) (w : World) (A : Adr) (sp_word_of : Sp) : TS :=
  (tRet (tLc (iTup K (tVar 1)) (gName 2) tYes (tCall sp_word_of [] E0 (tCons (tVar 0) (tCons (tVar 2) tNil))) [2]))
theorem dv_words_of {sp : Sp} {sp_word_of : Sp} (T : Top K mg A)
    (O_word_of : DefOk P w K mg base 1 A.f_word_of "word_of" ["begun", "name"] sp_word_of) (len : ∀ vs H Q E, sp vs H Q E → vs.length = 2)
    (h : ∀ vs H Q E, sp vs H Q E → t_words_of K w A sp_word_of { nx := fun _ H' => Q .non H', rt := Q } (start N_words_of vs) H) : DefOk P w K mg base 2 A.f_words_of "words_of" ["begun", "names"] sp := by
  refine T.d_words_of.ok sc_words_of len (fun cdv Ar outer s H vs Q E hr q => ⟨t_words_of K w A sp_word_of, ?_, h vs H Q E q⟩)
  exact (pss_one (ps_ret (pe_lc (own := [("name", 2)]) (g := gName 2) rfl sc_words_of.nd (pi_tup (pv 1)) (blkOk_by (own := [("name", 2)]) (N := N_words_of) (sc := defScope s_words_of) (by decide +kernel)) (fun _ _ _ _ _ => pg_name (i := 2) sc_words_of.nd rfl (Or.inl rfl)) (fun _ _ _ _ _ => pts_nil) (fun _ _ _ _ _ => (pe_callD O_word_of (hr.mono (by decide)) rfl (pa_cons (pv 0) (pa_cons (pv 2) pa_nil)))))))
/-! ### do_two (line 248) -/
abbrev s_do_two : Stmt := topS 75
abbrev N_do_two : List Str := ["run", "begun", "row", "first", "second"]
theorem sc_do_two : FnScope N_do_two ["run", "begun", "row"] (defScope s_do_two) := ⟨rfl, rfl, rfl, by decide +kernel, rfl, by decide +kernel, by decide +kernel⟩
def t_do_two (K : PySem.W.Frag) (w : World) (A : Adr) (sp_word_of sp_result : Sp) : TS :=
  (tSeq (tAsg (tCall sp_word_of [] E0 (tCons (tVar 1) (tCons (tOp (rIxT K) (tVar 2) (tC (.int 3))) tNil))) (gName 3))
    (tSeq (tAsg (tCall sp_word_of [] E0 (tCons (tVar 1) (tCons (tOp (rIxT K) (tVar 2) (tC (.int 4))) tNil))) (gName 4))
    (tIfS (tAnd (tTest (tOp rEq (tOp (rIxT K) (tVar 2) (tC (.int 2))) (tC (.int 10)))) (tTest (tOp rEq (tVar 4) (tC (.int 0))))) (sFld K (tVar 0) (tC (.bl true)) "failed") (sDPut (tFld K (tVar 1) "words") (tOp (rIxT K) (tVar 2) (tC (.int 1))) (tCall sp_result [] E0 (tCons (tOp (rIxT K) (tVar 2) (tC (.int 2))) (tCons (tVar 3) (tCons (tVar 4) tNil))))))))
theorem dv_do_two {sp : Sp} {sp_word_of sp_result : Sp} (T : Top K mg A)
    (O_word_of : DefOk P w K mg base 1 A.f_word_of "word_of" ["begun", "name"] sp_word_of)
    (O_result : DefOk P w K mg base 1 A.f_result "result" ["o", "first", "second"] sp_result) (len : ∀ vs H Q E, sp vs H Q E → vs.length = 3)
    (h : ∀ vs H Q E, sp vs H Q E → t_do_two K w A sp_word_of sp_result { nx := fun _ H' => Q .non H', rt := Q } (start N_do_two vs) H) : DefOk P w K mg base 2 A.f_do_two "do_two" ["run", "begun", "row"] sp := by
  refine T.d_do_two.ok sc_do_two len (fun cdv Ar outer s H vs Q E hr q => ⟨t_do_two K w A sp_word_of sp_result, ?_, h vs H Q E q⟩)
  have hu := hu_of hr
  exact (pss_cons (ps_set (i := 3) sc_do_two.nd rfl (.inl rfl) (pe_callD O_word_of (hr.mono (by decide)) rfl (pa_cons (pv 1) (pa_cons (pe_ix ix_tup (pv 2) pe_int (fun _ _ => rfl)) pa_nil))))
      (pss_cons (ps_set (i := 4) sc_do_two.nd rfl (.inl rfl) (pe_callD O_word_of (hr.mono (by decide)) rfl (pa_cons (pv 1) (pa_cons (pe_ix ix_tup (pv 2) pe_int (fun _ _ => rfl)) pa_nil))))
      (pss_one (ps_if (PW.pt (pw_and (pt_cmpR op_eq (pe_ix ix_tup (pv 2) pe_int (fun _ _ => rfl)) (pe_gi T.g_QUOTIENT rfl) (nomark _)) (pw_and1 (pt_cmpR op_eq (pv 4) pe_int (nomark _))))) (pss_one (ps_fld (pv 0) pe_bl rfl)) (pss_one (ps_dput hu (pe_fld (pv 1) rfl) (pe_ix ix_tup (pv 2) pe_int (fun _ _ => rfl)) (pe_callD O_result (hr.mono (by decide)) rfl (pa_cons (pe_ix ix_tup (pv 2) pe_int (fun _ _ => rfl)) (pa_cons (pv 3) (pa_cons (pv 4) pa_nil)))) rfl))))))
/-! ### do_call (line 255) -/
abbrev s_do_call : Stmt := topS 76
abbrev N_do_call : List Str := ["run", "begun", "row", "place"]
theorem sc_do_call : FnScope N_do_call ["run", "begun", "row"] (defScope s_do_call) := ⟨rfl, rfl, rfl, by decide +kernel, rfl, by decide +kernel, by decide +kernel⟩
def t_do_call (K : PySem.W.Frag) (w : World) (A : Adr) (sp_Begun sp_words_of : Sp) : TS :=
  (tSeq (tAsg (tTup (tCons (tFld K (tVar 1) "f") (tCons (tFld K (tVar 1) "b") (tCons (tFld K (tVar 1) "r") tNil)))) (gName 3))
    (tSeq (sDPut (tFld K (tVar 0) "made") (tVar 3) (tOp rAddI (tDGet2 (tFld K (tVar 0) "made") (tVar 3) (tC (.int 0))) (tC (.int 1))))
    (tDrop (tBM K "list" rAppend (tFld K (tVar 0) "begun") (tCons (tMake A.C_Begun sp_Begun [] E0 (tCons (tOp (rIxT K) (tVar 2) (tC (.int 2))) (tCons (tCall sp_words_of [] E0 (tCons (tVar 1) (tCons (tOp (rIxT K) (tVar 2) (tC (.int 3))) tNil))) (tCons (tOp (rIxT K) (tVar 2) (tC (.int 1))) tNil)))) tNil)))))
theorem dv_do_call {sp : Sp} {sp_Begun sp_words_of : Sp} (T : Top K mg A)
    (O_Begun : MakeOk P w K mg base 1 A.C_Begun A.f_Begun "Begun" ["self", "f", "handed", "getter"] sp_Begun)
    (O_words_of : DefOk P w K mg base 2 A.f_words_of "words_of" ["begun", "names"] sp_words_of) (len : ∀ vs H Q E, sp vs H Q E → vs.length = 3)
    (h : ∀ vs H Q E, sp vs H Q E → t_do_call K w A sp_Begun sp_words_of { nx := fun _ H' => Q .non H', rt := Q } (start N_do_call vs) H) : DefOk P w K mg base 3 A.f_do_call "do_call" ["run", "begun", "row"] sp := by
  refine T.d_do_call.ok sc_do_call len (fun cdv Ar outer s H vs Q E hr q => ⟨t_do_call K w A sp_Begun sp_words_of, ?_, h vs H Q E q⟩)
  have hu := hu_of hr
  exact (pss_cons (ps_set (i := 3) sc_do_call.nd rfl (.inl rfl) (pe_tup (pa_cons (pe_fld (pv 1) rfl) (pa_cons (pe_fld (pv 1) rfl) (pa_cons (pe_fld (pv 1) rfl) pa_nil)))))
      (pss_cons (ps_dput hu (pe_fld (pv 0) rfl) (pv 3) (pe_op op_add (pe_dget2 hu (pe_fld (pv 0) rfl) (pv 3) pe_int ⟨rfl, rfl, rfl, rfl⟩) pe_int) rfl)
      (pss_one (ps_expr (pe_bm PySem.F.plainAttrs_list PySem.F.slot_list_append PySem.F.type_list_append mt_append (pe_fld (pv 0) rfl) (pa_cons (pe_makeD O_Begun (hr.mono (by decide)) rfl (pa_cons (pe_ix ix_tup (pv 2) pe_int (fun _ _ => rfl)) (pa_cons (pe_callD O_words_of (hr.mono (by decide)) rfl (pa_cons (pv 1) (pa_cons (pe_ix ix_tup (pv 2) pe_int (fun _ _ => rfl)) pa_nil))) (pa_cons (pe_ix ix_tup (pv 2) pe_int (fun _ _ => rfl)) pa_nil)))) pa_nil))))))
/-! ### do_row (line 259) -/
abbrev s_do_row : Stmt := topS 77
abbrev N_do_row : List Str := ["run", "begun", "row"]
theorem sc_do_row : FnScope N_do_row ["run", "begun", "row"] (defScope s_do_row) := ⟨rfl, rfl, rfl, by decide +kernel, rfl, by decide +kernel, by decide +kernel⟩
def t_do_row (K : PySem.W.Frag) (w : World) (A : Adr) (sp_do_two sp_word_of sp_do_call : Sp) : TS :=
  (tSeq (tIfS (tTest (tOp rEq (tOp (rIxT K) (tVar 2) (tC (.int 0))) (tC (.int 0)))) (sDPut (tFld K (tVar 1) "words") (tOp (rIxT K) (tVar 2) (tC (.int 1))) (tOp (rIxT K) (tVar 2) (tC (.int 2)))) (tIfS (tTest (tOp rEq (tOp (rIxT K) (tVar 2) (tC (.int 0))) (tC (.int 2)))) (tDrop (tCall sp_do_two [] E0 (tCons (tVar 0) (tCons (tVar 1) (tCons (tVar 2) tNil))))) (tIfS (tTest (tOp rEq (tOp (rIxT K) (tVar 2) (tC (.int 0))) (tC (.int 3)))) (tDrop (tBM K "list" rAppend (tFld K (tVar 0) "said") (tCons (tCall sp_word_of [] E0 (tCons (tVar 1) (tCons (tOp (rIxT K) (tVar 2) (tC (.int 1))) tNil))) tNil))) (tDrop (tCall sp_do_call [] E0 (tCons (tVar 0) (tCons (tVar 1) (tCons (tVar 2) tNil))))))))
    (sFldAug K (tVar 1) (tC (.int 1)) L2.rAdd "r"))
theorem dv_do_row {sp : Sp} {sp_do_two sp_word_of sp_do_call : Sp} (T : Top K mg A)
    (O_do_two : DefOk P w K mg base 2 A.f_do_two "do_two" ["run", "begun", "row"] sp_do_two)
    (O_word_of : DefOk P w K mg base 1 A.f_word_of "word_of" ["begun", "name"] sp_word_of)
    (O_do_call : DefOk P w K mg base 3 A.f_do_call "do_call" ["run", "begun", "row"] sp_do_call) (len : ∀ vs H Q E, sp vs H Q E → vs.length = 3)
    (h : ∀ vs H Q E, sp vs H Q E → t_do_row K w A sp_do_two sp_word_of sp_do_call { nx := fun _ H' => Q .non H', rt := Q } (start N_do_row vs) H) : DefOk P w K mg base 4 A.f_do_row "do_row" ["run", "begun", "row"] sp := by
  refine T.d_do_row.ok sc_do_row len (fun cdv Ar outer s H vs Q E hr q => ⟨t_do_row K w A sp_do_two sp_word_of sp_do_call, ?_, h vs H Q E q⟩)
  have hu := hu_of hr
  exact (pss_cons (ps_if (pt_cmpR op_eq (pe_ix ix_tup (pv 2) pe_int (fun _ _ => rfl)) (pe_gi T.g_ROW_NUM rfl) (nomark _)) (pss_one (ps_dput hu (pe_fld (pv 1) rfl) (pe_ix ix_tup (pv 2) pe_int (fun _ _ => rfl)) (pe_ix ix_tup (pv 2) pe_int (fun _ _ => rfl)) rfl)) (pss_one (ps_if (pt_cmpR op_eq (pe_ix ix_tup (pv 2) pe_int (fun _ _ => rfl)) (pe_gi T.g_ROW_TWO rfl) (nomark _)) (pss_one (ps_expr (pe_callD O_do_two (hr.mono (by decide)) rfl (pa_cons (pv 0) (pa_cons (pv 1) (pa_cons (pv 2) pa_nil)))))) (pss_one (ps_if (pt_cmpR op_eq (pe_ix ix_tup (pv 2) pe_int (fun _ _ => rfl)) (pe_gi T.g_ROW_SAY rfl) (nomark _)) (pss_one (ps_expr (pe_bm PySem.F.plainAttrs_list PySem.F.slot_list_append PySem.F.type_list_append mt_append (pe_fld (pv 0) rfl) (pa_cons (pe_callD O_word_of (hr.mono (by decide)) rfl (pa_cons (pv 1) (pa_cons (pe_ix ix_tup (pv 2) pe_int (fun _ _ => rfl)) pa_nil))) pa_nil)))) (pss_one (ps_expr (pe_callD O_do_call (hr.mono (by decide)) rfl (pa_cons (pv 0) (pa_cons (pv 1) (pa_cons (pv 2) pa_nil)))))))))))
      (pss_one (ps_fldaug (pv 1) pe_int in_add)))
/-! ### go_on (line 269) -/
abbrev s_go_on : Stmt := topS 78
abbrev N_go_on : List Str := ["run", "begun", "t", "handed", "taken", "words", "at"]
theorem sc_go_on : FnScope N_go_on ["run", "begun", "t", "handed"] (defScope s_go_on) := ⟨rfl, rfl, rfl, by decide +kernel, rfl, by decide +kernel, by decide +kernel⟩
def t_go_on (K : PySem.W.Frag) (w : World) (A : Adr) (sp_words_of : Sp) : TS :=
  (tSeq (tAsg (tFld K (tOp (rIxL K) (tFld K (tOp (rIxL K) (tFld K (tFld K (tVar 0) "program") "functions") (tFld K (tVar 1) "f")) "blocks") (tVar 2)) "taken") (gName 4))
    (tSeq (tAsg (tCall sp_words_of [] E0 (tCons (tVar 1) (tCons (tVar 3) tNil))) (gName 5))
    (tSeq (tFor (iRng1 (tCons (tCB (rLenS K) (tCons (tVar 4) tNil)) tNil)) (gName 6) (sDPut (tFld K (tVar 1) "words") (tOp (rIxT K) (tVar 4) (tVar 6)) (tOp (rIxL K) (tVar 5) (tVar 6))))
    (tSeq (sFld K (tVar 1) (tVar 2) "b")
    (sFld K (tVar 1) (tC (.int 0)) "r")))))
theorem dv_go_on {sp : Sp} {sp_words_of : Sp} (T : Top K mg A)
    (O_words_of : DefOk P w K mg base 2 A.f_words_of "words_of" ["begun", "names"] sp_words_of) (len : ∀ vs H Q E, sp vs H Q E → vs.length = 4)
    (h : ∀ vs H Q E, sp vs H Q E → t_go_on K w A sp_words_of { nx := fun _ H' => Q .non H', rt := Q } (start N_go_on vs) H) : DefOk P w K mg base 3 A.f_go_on "go_on" ["run", "begun", "t", "handed"] sp := by
  refine T.d_go_on.ok sc_go_on len (fun cdv Ar outer s H vs Q E hr q => ⟨t_go_on K w A sp_words_of, ?_, h vs H Q E q⟩)
  have hu := hu_of hr
  exact (pss_cons (ps_set (i := 4) sc_go_on.nd rfl (.inl rfl) (pe_fld (pe_ix ix_list (pe_fld (pe_ix ix_list (pe_fld (pe_fld (pv 0) rfl) rfl) (pe_fld (pv 1) rfl) (fun _ _ => rfl)) rfl) (pv 2) (fun _ _ => rfl)) rfl))
      (pss_cons (ps_set (i := 5) sc_go_on.nd rfl (.inl rfl) (pe_callD O_words_of (hr.mono (by decide)) rfl (pa_cons (pv 1) (pa_cons (pv 3) pa_nil))))
      (pss_cons (ps_for PassesOwn.never rfl (pi_range1 (by rfl) T.z_range (pa_cons (pe_callB call_len_seq (by rfl) T.z_len PySem.boot_len (pa_cons (pv 4) pa_nil)) pa_nil)) (pg_name (i := 6) sc_go_on.nd rfl (.inl rfl)) (pss_one (ps_dput hu (pe_fld (pv 1) rfl) (pe_ix ix_tup (pv 4) (pv 6) (fun _ _ => rfl)) (pe_ix ix_list (pv 5) (pv 6) (fun _ _ => rfl)) rfl)))
      (pss_cons (ps_fld (pv 1) (pv 2) rfl)
      (pss_one (ps_fld (pv 1) pe_int rfl))))))
/-! ### give (line 276) -/
abbrev s_give : Stmt := topS 79
abbrev N_give : List Str := ["run", "word", "over", "caller"]
theorem sc_give : FnScope N_give ["run", "word"] (defScope s_give) := ⟨rfl, rfl, rfl, by decide +kernel, rfl, by decide +kernel, by decide +kernel⟩
def t_give (K : PySem.W.Frag) (w : World) (A : Adr) : TS :=
  (tSeq (tAsg (tBM0 K "list" rPop (tFld K (tVar 0) "begun")) (gName 2))
    (tIfS (tTest (tOp rEq (tCB (rLenS K) (tCons (tFld K (tVar 0) "begun") tNil)) (tC (.int 0)))) (sFld K (tVar 0) (tVar 1) "given") (tSeq (tAsg (tOp (rIxL K) (tFld K (tVar 0) "begun") (tUn rNegI (tC (.int 1)))) (gName 3))
    (sDPut (tFld K (tVar 3) "words") (tFld K (tVar 2) "getter") (tVar 1)))))
theorem dv_give {sp : Sp} (T : Top K mg A) (len : ∀ vs H Q E, sp vs H Q E → vs.length = 2)
    (h : ∀ vs H Q E, sp vs H Q E → t_give K w A { nx := fun _ H' => Q .non H', rt := Q } (start N_give vs) H) : DefOk P w K mg base 1 A.f_give "give" ["run", "word"] sp := by
  refine T.d_give.ok sc_give len (fun cdv Ar outer s H vs Q E hr q => ⟨t_give K w A, ?_, h vs H Q E q⟩)
  have hu := hu_of hr
  exact (pss_cons (ps_set (i := 2) sc_give.nd rfl (.inl rfl) (pe_bm0 PySem.F.plainAttrs_list PySem.F.slot_list_pop PySem.F.type_list_pop mt_pop (pe_fld (pv 0) rfl)))
      (pss_one (ps_if (pt_cmpR op_eq (pe_callB call_len_seq (by rfl) T.z_len PySem.boot_len (pa_cons (pe_fld (pv 0) rfl) pa_nil)) pe_int (nomark _)) (pss_one (ps_fld (pv 0) (pv 1) rfl)) (pss_cons (ps_set (i := 3) sc_give.nd rfl (.inl rfl) (pe_ix ix_list (pe_fld (pv 0) rfl) (pe_un un_neg pe_int) (fun _ _ => rfl)))
      (pss_one (ps_dput hu (pe_fld (pv 3) rfl) (pe_fld (pv 2) rfl) (pv 1) rfl))))))
/-! ### do_ending (line 283) -/
abbrev s_do_ending : Stmt := topS 80
abbrev N_do_ending : List Str := ["run", "begun", "ending"]
theorem sc_do_ending : FnScope N_do_ending ["run", "begun", "ending"] (defScope s_do_ending) := ⟨rfl, rfl, rfl, by decide +kernel, rfl, by decide +kernel, by decide +kernel⟩
def t_do_ending (K : PySem.W.Frag) (w : World) (A : Adr) (sp_go_on sp_word_of sp_give : Sp) : TS :=
  (tIfS (tTest (tOp rEq (tOp (rIxT K) (tVar 2) (tC (.int 0))) (tC (.int 0)))) (tDrop (tCall sp_go_on [] E0 (tCons (tVar 0) (tCons (tVar 1) (tCons (tOp (rIxT K) (tVar 2) (tC (.int 1))) (tCons (tOp (rIxT K) (tVar 2) (tC (.int 2))) tNil)))))) (tIfS (tTest (tOp rEq (tOp (rIxT K) (tVar 2) (tC (.int 0))) (tC (.int 1)))) (tIfS (tTest (tOp rNe (tCall sp_word_of [] E0 (tCons (tVar 1) (tCons (tOp (rIxT K) (tVar 2) (tC (.int 1))) tNil))) (tC (.int 0)))) (tDrop (tCall sp_go_on [] E0 (tCons (tVar 0) (tCons (tVar 1) (tCons (tOp (rIxT K) (tVar 2) (tC (.int 2))) (tCons (tOp (rIxT K) (tVar 2) (tC (.int 3))) tNil)))))) (tDrop (tCall sp_go_on [] E0 (tCons (tVar 0) (tCons (tVar 1) (tCons (tOp (rIxT K) (tVar 2) (tC (.int 4))) (tCons (tOp (rIxT K) (tVar 2) (tC (.int 5))) tNil))))))) (tDrop (tCall sp_give [] E0 (tCons (tVar 0) (tCons (tCall sp_word_of [] E0 (tCons (tVar 1) (tCons (tOp (rIxT K) (tVar 2) (tC (.int 1))) tNil))) tNil))))))
theorem dv_do_ending {sp : Sp} {sp_go_on sp_word_of sp_give : Sp} (T : Top K mg A)
    (O_go_on : DefOk P w K mg base 3 A.f_go_on "go_on" ["run", "begun", "t", "handed"] sp_go_on)
    (O_word_of : DefOk P w K mg base 1 A.f_word_of "word_of" ["begun", "name"] sp_word_of)
    (O_give : DefOk P w K mg base 1 A.f_give "give" ["run", "word"] sp_give) (len : ∀ vs H Q E, sp vs H Q E → vs.length = 3)
    (h : ∀ vs H Q E, sp vs H Q E → t_do_ending K w A sp_go_on sp_word_of sp_give { nx := fun _ H' => Q .non H', rt := Q } (start N_do_ending vs) H) : DefOk P w K mg base 4 A.f_do_ending "do_ending" ["run", "begun", "ending"] sp := by
  refine T.d_do_ending.ok sc_do_ending len (fun cdv Ar outer s H vs Q E hr q => ⟨t_do_ending K w A sp_go_on sp_word_of sp_give, ?_, h vs H Q E q⟩)
  exact (pss_one (ps_if (pt_cmpR op_eq (pe_ix ix_tup (pv 2) pe_int (fun _ _ => rfl)) (pe_gi T.g_END_JUMP rfl) (nomark _)) (pss_one (ps_expr (pe_callD O_go_on (hr.mono (by decide)) rfl (pa_cons (pv 0) (pa_cons (pv 1) (pa_cons (pe_ix ix_tup (pv 2) pe_int (fun _ _ => rfl)) (pa_cons (pe_ix ix_tup (pv 2) pe_int (fun _ _ => rfl)) pa_nil))))))) (pss_one (ps_if (pt_cmpR op_eq (pe_ix ix_tup (pv 2) pe_int (fun _ _ => rfl)) (pe_gi T.g_END_FORK rfl) (nomark _)) (pss_one (ps_if (pt_cmpR op_ne (pe_callD O_word_of (hr.mono (by decide)) rfl (pa_cons (pv 1) (pa_cons (pe_ix ix_tup (pv 2) pe_int (fun _ _ => rfl)) pa_nil))) pe_int (nomark _)) (pss_one (ps_expr (pe_callD O_go_on (hr.mono (by decide)) rfl (pa_cons (pv 0) (pa_cons (pv 1) (pa_cons (pe_ix ix_tup (pv 2) pe_int (fun _ _ => rfl)) (pa_cons (pe_ix ix_tup (pv 2) pe_int (fun _ _ => rfl)) pa_nil))))))) (pss_one (ps_expr (pe_callD O_go_on (hr.mono (by decide)) rfl (pa_cons (pv 0) (pa_cons (pv 1) (pa_cons (pe_ix ix_tup (pv 2) pe_int (fun _ _ => rfl)) (pa_cons (pe_ix ix_tup (pv 2) pe_int (fun _ _ => rfl)) pa_nil))))))))) (pss_one (ps_expr (pe_callD O_give (hr.mono (by decide)) rfl (pa_cons (pv 0) (pa_cons (pe_callD O_word_of (hr.mono (by decide)) rfl (pa_cons (pv 1) (pa_cons (pe_ix ix_tup (pv 2) pe_int (fun _ _ => rfl)) pa_nil))) pa_nil)))))))))
/-! ### do_step (line 293) -/
abbrev s_do_step : Stmt := topS 81
abbrev N_do_step : List Str := ["run", "begun", "block"]
theorem sc_do_step : FnScope N_do_step ["run"] (defScope s_do_step) := ⟨rfl, rfl, rfl, by decide +kernel, rfl, by decide +kernel, by decide +kernel⟩
def t_do_step (K : PySem.W.Frag) (w : World) (A : Adr) (sp_do_row sp_do_ending : Sp) : TS :=
  (tSeq (tAsg (tOp (rIxL K) (tFld K (tVar 0) "begun") (tUn rNegI (tC (.int 1)))) (gName 1))
    (tSeq (tAsg (tOp (rIxL K) (tFld K (tOp (rIxL K) (tFld K (tFld K (tVar 0) "program") "functions") (tFld K (tVar 1) "f")) "blocks") (tFld K (tVar 1) "b")) (gName 2))
    (tIfS (tTest (tOp rLtI (tFld K (tVar 1) "r") (tCB (rLenS K) (tCons (tFld K (tVar 2) "rows") tNil)))) (tDrop (tCall sp_do_row [] E0 (tCons (tVar 0) (tCons (tVar 1) (tCons (tOp (rIxL K) (tFld K (tVar 2) "rows") (tFld K (tVar 1) "r")) tNil))))) (tDrop (tCall sp_do_ending [] E0 (tCons (tVar 0) (tCons (tVar 1) (tCons (tFld K (tVar 2) "ending") tNil))))))))
theorem dv_do_step {sp : Sp} {sp_do_row sp_do_ending : Sp} (T : Top K mg A)
    (O_do_row : DefOk P w K mg base 4 A.f_do_row "do_row" ["run", "begun", "row"] sp_do_row)
    (O_do_ending : DefOk P w K mg base 4 A.f_do_ending "do_ending" ["run", "begun", "ending"] sp_do_ending) (len : ∀ vs H Q E, sp vs H Q E → vs.length = 1)
    (h : ∀ vs H Q E, sp vs H Q E → t_do_step K w A sp_do_row sp_do_ending { nx := fun _ H' => Q .non H', rt := Q } (start N_do_step vs) H) : DefOk P w K mg base 5 A.f_do_step "do_step" ["run"] sp := by
  refine T.d_do_step.ok sc_do_step len (fun cdv Ar outer s H vs Q E hr q => ⟨t_do_step K w A sp_do_row sp_do_ending, ?_, h vs H Q E q⟩)
  exact (pss_cons (ps_set (i := 1) sc_do_step.nd rfl (.inl rfl) (pe_ix ix_list (pe_fld (pv 0) rfl) (pe_un un_neg pe_int) (fun _ _ => rfl)))
      (pss_cons (ps_set (i := 2) sc_do_step.nd rfl (.inl rfl) (pe_ix ix_list (pe_fld (pe_ix ix_list (pe_fld (pe_fld (pv 0) rfl) rfl) (pe_fld (pv 1) rfl) (fun _ _ => rfl)) rfl) (pe_fld (pv 1) rfl) (fun _ _ => rfl)))
      (pss_one (ps_if (pt_cmpR op_lt (pe_fld (pv 1) rfl) (pe_callB call_len_seq (by rfl) T.z_len PySem.boot_len (pa_cons (pe_fld (pv 2) rfl) pa_nil)) (nomark _)) (pss_one (ps_expr (pe_callD O_do_row (hr.mono (by decide)) rfl (pa_cons (pv 0) (pa_cons (pv 1) (pa_cons (pe_ix ix_list (pe_fld (pv 2) rfl) (pe_fld (pv 1) rfl) (fun _ _ => rfl)) pa_nil)))))) (pss_one (ps_expr (pe_callD O_do_ending (hr.mono (by decide)) rfl (pa_cons (pv 0) (pa_cons (pv 1) (pa_cons (pe_fld (pv 2) rfl) pa_nil))))))))))
/-! ### run_of (line 300) -/
abbrev s_run_of : Stmt := topS 82
abbrev N_run_of : List Str := ["program", "f", "n", "words", "run", "done"]
theorem sc_run_of : FnScope N_run_of ["program", "f", "n", "words"] (defScope s_run_of) := ⟨rfl, rfl, rfl, by decide +kernel, rfl, by decide +kernel, by decide +kernel⟩
def t_run_of (K : PySem.W.Frag) (w : World) (A : Adr) (sp_Run sp_do_step : Sp) : TS :=
  (tSeq (tAsg (tMake A.C_Run sp_Run [] E0 (tCons (tVar 0) (tCons (tVar 1) (tCons (tVar 3) tNil)))) (gName 4))
    (tSeq (tAsg (tC (.int 0)) (gName 5))
    (tSeq (tWhile (tAnd (tTest (tOp rLtI (tVar 5) (tVar 2))) (tAnd (tTest (tOp rIsN (tFld K (tVar 4) "given") (tC .non))) (tNot (tB (tFld K (tVar 4) "failed"))))) (tSeq (tDrop (tCall sp_do_step [] E0 (tCons (tVar 4) tNil)))
    (tAug 5 (tC (.int 1)) (ipI fun i j => i + j))))
    (tRet (tVar 4)))))
theorem dv_run_of {sp : Sp} {sp_Run sp_do_step : Sp} (T : Top K mg A)
    (O_Run : MakeOk P w K mg base 3 A.C_Run A.f_Run "Run" ["self", "program", "f", "handed"] sp_Run)
    (O_do_step : DefOk P w K mg base 5 A.f_do_step "do_step" ["run"] sp_do_step) (len : ∀ vs H Q E, sp vs H Q E → vs.length = 4)
    (h : ∀ vs H Q E, sp vs H Q E → t_run_of K w A sp_Run sp_do_step { nx := fun _ H' => Q .non H', rt := Q } (start N_run_of vs) H) : DefOk P w K mg base 6 A.f_run_of "run_of" ["program", "f", "n", "words"] sp := by
  refine T.d_run_of.ok sc_run_of len (fun cdv Ar outer s H vs Q E hr q => ⟨t_run_of K w A sp_Run sp_do_step, ?_, h vs H Q E q⟩)
  exact (pss_cons (ps_set (i := 4) sc_run_of.nd rfl (.inl rfl) (pe_makeD O_Run (hr.mono (by decide)) rfl (pa_cons (pv 0) (pa_cons (pv 1) (pa_cons (pv 3) pa_nil)))))
      (pss_cons (ps_set (i := 5) sc_run_of.nd rfl (.inl rfl) pe_int)
      (pss_cons (ps_while PassesOwn.never (PW.pt (pw_and (pt_cmpR op_lt (pv 5) (pv 2) (nomark _)) (pw_and (pt_cmpR op_isN (pe_fld (pv 4) rfl) pe_non (nomark _)) (pw_and1 (pt_not (pt_val (pe_fld (pv 4) rfl))))))) (pss_cons (ps_expr (pe_callD O_do_step (hr.mono (by decide)) rfl (pa_cons (pv 4) pa_nil)))
      (pss_one (ps_aug (i := 5) sc_run_of.nd rfl (.inl rfl) pe_int ip_add))))
      (pss_one (ps_ret (pv 4))))))
/-! ### how_it_stands (line 307) -/
abbrev s_how_it_stands : Stmt := topS 83
abbrev N_how_it_stands : List Str := ["run"]
theorem sc_how_it_stands : FnScope N_how_it_stands ["run"] (defScope s_how_it_stands) := ⟨rfl, rfl, rfl, by decide +kernel, rfl, by decide +kernel, by decide +kernel⟩
def t_how_it_stands (K : PySem.W.Frag) (w : World) (A : Adr) : TS :=
  (tSeq (tIfS (tTest (tOp rNotN (tFld K (tVar 0) "given") (tC .non))) (tRet (tLst (tCons (tC (.int 0)) (tCons (tFld K (tVar 0) "given") tNil)))) tNext)
    (tSeq (tIfS (tB (tFld K (tVar 0) "failed")) (tRet (tLst (tCons (tC (.int 1)) tNil))) tNext)
    (tRet (tLst (tCons (tC (.int 2)) tNil)))))
theorem dv_how_it_stands {sp : Sp} (T : Top K mg A) (len : ∀ vs H Q E, sp vs H Q E → vs.length = 1)
    (h : ∀ vs H Q E, sp vs H Q E → t_how_it_stands K w A { nx := fun _ H' => Q .non H', rt := Q } (start N_how_it_stands vs) H) : DefOk P w K mg base 1 A.f_how_it_stands "how_it_stands" ["run"] sp := by
  refine T.d_how_it_stands.ok sc_how_it_stands len (fun cdv Ar outer s H vs Q E hr q => ⟨t_how_it_stands K w A, ?_, h vs H Q E q⟩)
  exact (pss_cons (ps_if (pt_cmpR op_notN (pe_fld (pv 0) rfl) pe_non (nomark _)) (pss_one (ps_ret (pe_lst (pa_cons pe_int (pa_cons (pe_fld (pv 0) rfl) pa_nil))))) pss_nil)
      (pss_cons (ps_if (pt_val (pe_fld (pv 0) rfl)) (pss_one (ps_ret (pe_lst (pa_cons pe_int pa_nil)))) pss_nil)
      (pss_one (ps_ret (pe_lst (pa_cons pe_int pa_nil))))))
/-! ### times_made (line 313) -/
abbrev s_times_made : Stmt := topS 84
abbrev N_times_made : List Str := ["run", "place"]
theorem sc_times_made : FnScope N_times_made ["run", "place"] (defScope s_times_made) := ⟨rfl, rfl, rfl, by decide +kernel, rfl, by decide +kernel, by decide +kernel⟩
def t_times_made (K : PySem.W.Frag) (w : World) (A : Adr) : TS :=
  (tRet (tDGet2 (tFld K (tVar 0) "made") (tVar 1) (tC (.int 0))))
theorem dv_times_made {sp : Sp} (T : Top K mg A) (len : ∀ vs H Q E, sp vs H Q E → vs.length = 2)
    (h : ∀ vs H Q E, sp vs H Q E → t_times_made K w A { nx := fun _ H' => Q .non H', rt := Q } (start N_times_made vs) H) : DefOk P w K mg base 1 A.f_times_made "times_made" ["run", "place"] sp := by
  refine T.d_times_made.ok sc_times_made len (fun cdv Ar outer s H vs Q E hr q => ⟨t_times_made K w A, ?_, h vs H Q E q⟩)
  have hu := hu_of hr
  exact (pss_one (ps_ret (pe_dget2 hu (pe_fld (pv 0) rfl) (pv 1) pe_int ⟨rfl, rfl, rfl, rfl⟩)))
/-! ### calls_made (line 315) -/
abbrev s_calls_made : Stmt := topS 85
abbrev N_calls_made : List Str := ["run"]
theorem sc_calls_made : FnScope N_calls_made ["run"] (defScope s_calls_made) := ⟨rfl, rfl, rfl, by decide +kernel, rfl, by decide +kernel, by decide +kernel⟩
def t_calls_made (K : PySem.W.Frag) (w : World) (A : Adr) : TS :=
  (tRet (tSumValsT (tFld K (tVar 0) "made")))
theorem dv_calls_made {sp : Sp} (T : Top K mg A) (len : ∀ vs H Q E, sp vs H Q E → vs.length = 1)
    (h : ∀ vs H Q E, sp vs H Q E → t_calls_made K w A { nx := fun _ H' => Q .non H', rt := Q } (start N_calls_made vs) H) : DefOk P w K mg base 1 A.f_calls_made "calls_made" ["run"] sp := by
  refine T.d_calls_made.ok sc_calls_made len (fun cdv Ar outer s H vs Q E hr q => ⟨t_calls_made K w A, ?_, h vs H Q E q⟩)
  exact (pss_one (ps_ret (pe_sumValsT rfl (by rfl) T.z_sum (pe_fld (pv 0) rfl))))
/-! ### names_in_row (line 318) -/
abbrev s_names_in_row : Stmt := topS 87
abbrev N_names_in_row : List Str := ["row"]
theorem sc_names_in_row : FnScope N_names_in_row ["row"] (defScope s_names_in_row) := ⟨rfl, rfl, rfl, by decide +kernel, rfl, by decide +kernel, by decide +kernel⟩
def t_names_in_row (K : PySem.W.Frag) (w : World) (A : Adr) : TS :=
  (tSeq (tIfS (tTest (tOp rEq (tOp (rIxT K) (tVar 0) (tC (.int 0))) (tC (.int 2)))) (tRet (tLst (tCons (tOp (rIxT K) (tVar 0) (tC (.int 1))) (tCons (tOp (rIxT K) (tVar 0) (tC (.int 3))) (tCons (tOp (rIxT K) (tVar 0) (tC (.int 4))) tNil))))) tNext)
    (tSeq (tIfS (tTest (tOp rEq (tOp (rIxT K) (tVar 0) (tC (.int 0))) (tC (.int 4)))) (tRet (tOp rCat (tLst (tCons (tOp (rIxT K) (tVar 0) (tC (.int 1))) tNil)) (tCB (rListS K) (tCons (tOp (rIxT K) (tVar 0) (tC (.int 3))) tNil)))) tNext)
    (tRet (tLst (tCons (tOp (rIxT K) (tVar 0) (tC (.int 1))) tNil)))))
theorem dv_names_in_row {sp : Sp} (T : Top K mg A) (len : ∀ vs H Q E, sp vs H Q E → vs.length = 1)
    (h : ∀ vs H Q E, sp vs H Q E → t_names_in_row K w A { nx := fun _ H' => Q .non H', rt := Q } (start N_names_in_row vs) H) : DefOk P w K mg base 1 A.f_names_in_row "names_in_row" ["row"] sp := by
  refine T.d_names_in_row.ok sc_names_in_row len (fun cdv Ar outer s H vs Q E hr q => ⟨t_names_in_row K w A, ?_, h vs H Q E q⟩)
  exact (pss_cons (ps_if (pt_cmpR op_eq (pe_ix ix_tup (pv 0) pe_int (fun _ _ => rfl)) (pe_gi T.g_ROW_TWO rfl) (nomark _)) (pss_one (ps_ret (pe_lst (pa_cons (pe_ix ix_tup (pv 0) pe_int (fun _ _ => rfl)) (pa_cons (pe_ix ix_tup (pv 0) pe_int (fun _ _ => rfl)) (pa_cons (pe_ix ix_tup (pv 0) pe_int (fun _ _ => rfl)) pa_nil)))))) pss_nil)
      (pss_cons (ps_if (pt_cmpR op_eq (pe_ix ix_tup (pv 0) pe_int (fun _ _ => rfl)) (pe_gi T.g_ROW_CALL rfl) (nomark _)) (pss_one (ps_ret (pe_op op_cat (pe_lst (pa_cons (pe_ix ix_tup (pv 0) pe_int (fun _ _ => rfl)) pa_nil)) (pe_callTy call_list_of (by rfl) T.z_list (by decide +kernel) (pa_cons (pe_ix ix_tup (pv 0) pe_int (fun _ _ => rfl)) pa_nil))))) pss_nil)
      (pss_one (ps_ret (pe_lst (pa_cons (pe_ix ix_tup (pv 0) pe_int (fun _ _ => rfl)) pa_nil))))))
/-! ### names_in_ending (line 324) -/
abbrev s_names_in_ending : Stmt := topS 88
abbrev N_names_in_ending : List Str := ["ending"]
theorem sc_names_in_ending : FnScope N_names_in_ending ["ending"] (defScope s_names_in_ending) := ⟨rfl, rfl, rfl, by decide +kernel, rfl, by decide +kernel, by decide +kernel⟩
def t_names_in_ending (K : PySem.W.Frag) (w : World) (A : Adr) : TS :=
  (tSeq (tIfS (tTest (tOp rEq (tOp (rIxT K) (tVar 0) (tC (.int 0))) (tC (.int 0)))) (tRet (tCB (rListS K) (tCons (tOp (rIxT K) (tVar 0) (tC (.int 2))) tNil))) tNext)
    (tSeq (tIfS (tTest (tOp rEq (tOp (rIxT K) (tVar 0) (tC (.int 0))) (tC (.int 1)))) (tRet (tOp rCat (tOp rCat (tLst (tCons (tOp (rIxT K) (tVar 0) (tC (.int 1))) tNil)) (tCB (rListS K) (tCons (tOp (rIxT K) (tVar 0) (tC (.int 3))) tNil))) (tCB (rListS K) (tCons (tOp (rIxT K) (tVar 0) (tC (.int 5))) tNil)))) tNext)
    (tRet (tLst (tCons (tOp (rIxT K) (tVar 0) (tC (.int 1))) tNil)))))
theorem dv_names_in_ending {sp : Sp} (T : Top K mg A) (len : ∀ vs H Q E, sp vs H Q E → vs.length = 1)
    (h : ∀ vs H Q E, sp vs H Q E → t_names_in_ending K w A { nx := fun _ H' => Q .non H', rt := Q } (start N_names_in_ending vs) H) : DefOk P w K mg base 1 A.f_names_in_ending "names_in_ending" ["ending"] sp := by
  refine T.d_names_in_ending.ok sc_names_in_ending len (fun cdv Ar outer s H vs Q E hr q => ⟨t_names_in_ending K w A, ?_, h vs H Q E q⟩)
  exact (pss_cons (ps_if (pt_cmpR op_eq (pe_ix ix_tup (pv 0) pe_int (fun _ _ => rfl)) (pe_gi T.g_END_JUMP rfl) (nomark _)) (pss_one (ps_ret (pe_callTy call_list_of (by rfl) T.z_list (by decide +kernel) (pa_cons (pe_ix ix_tup (pv 0) pe_int (fun _ _ => rfl)) pa_nil)))) pss_nil)
      (pss_cons (ps_if (pt_cmpR op_eq (pe_ix ix_tup (pv 0) pe_int (fun _ _ => rfl)) (pe_gi T.g_END_FORK rfl) (nomark _)) (pss_one (ps_ret (pe_op op_cat (pe_op op_cat (pe_lst (pa_cons (pe_ix ix_tup (pv 0) pe_int (fun _ _ => rfl)) pa_nil)) (pe_callTy call_list_of (by rfl) T.z_list (by decide +kernel) (pa_cons (pe_ix ix_tup (pv 0) pe_int (fun _ _ => rfl)) pa_nil))) (pe_callTy call_list_of (by rfl) T.z_list (by decide +kernel) (pa_cons (pe_ix ix_tup (pv 0) pe_int (fun _ _ => rfl)) pa_nil))))) pss_nil)
      (pss_one (ps_ret (pe_lst (pa_cons (pe_ix ix_tup (pv 0) pe_int (fun _ _ => rfl)) pa_nil))))))
/-! ### names_of (line 330) -/
abbrev s_names_of : Stmt := topS 89
abbrev N_names_of : List Str := ["function", "names", "block", "row"]
theorem sc_names_of : FnScope N_names_of ["function"] (defScope s_names_of) := ⟨rfl, rfl, rfl, by decide +kernel, rfl, by decide +kernel, by decide +kernel⟩
def t_names_of (K : PySem.W.Frag) (w : World) (A : Adr) (sp_names_in_row sp_names_in_ending : Sp) : TS :=
  (tSeq (tAsg (tLstRg (tRg1 (tFld K (tVar 0) "handed"))) (gName 1))
    (tSeq (tFor (iList K (tFld K (tVar 0) "blocks")) (gName 2) (tSeq (tDrop (tBM K "list" (rExtendT K) (tVar 1) (tCons (tFld K (tVar 2) "taken") tNil)))
    (tSeq (tFor (iList K (tFld K (tVar 2) "rows")) (gName 3) (tDrop (tBM K "list" rExtend (tVar 1) (tCons (tCall sp_names_in_row [] E0 (tCons (tVar 3) tNil)) tNil))))
    (tDrop (tBM K "list" rExtend (tVar 1) (tCons (tCall sp_names_in_ending [] E0 (tCons (tFld K (tVar 2) "ending") tNil)) tNil))))))
    (tRet (tCB (rSortedSetB w) (tCons (tCB (rSetOf K w) (tCons (tVar 1) tNil)) tNil)))))
theorem dv_names_of {sp : Sp} {sp_names_in_row sp_names_in_ending : Sp} (T : Top K mg A)
    (O_names_in_row : DefOk P w K mg base 1 A.f_names_in_row "names_in_row" ["row"] sp_names_in_row)
    (O_names_in_ending : DefOk P w K mg base 1 A.f_names_in_ending "names_in_ending" ["ending"] sp_names_in_ending) (len : ∀ vs H Q E, sp vs H Q E → vs.length = 1)
    (h : ∀ vs H Q E, sp vs H Q E → t_names_of K w A sp_names_in_row sp_names_in_ending { nx := fun _ H' => Q .non H', rt := Q } (start N_names_of vs) H) : DefOk P w K mg base 2 A.f_names_of "names_of" ["function"] sp := by
  refine T.d_names_of.ok sc_names_of len (fun cdv Ar outer s H vs Q E hr q => ⟨t_names_of K w A sp_names_in_row sp_names_in_ending, ?_, h vs H Q E q⟩)
  exact (pss_cons (ps_set (i := 1) sc_names_of.nd rfl (.inl rfl) (pe_listRg rfl (by rfl) T.z_list (prg_1 (by rfl) T.z_range (pe_fld (pv 0) rfl))))
      (pss_cons (ps_for PassesOwn.never rfl (pi_list (pe_fld (pv 0) rfl)) (pg_name (i := 2) sc_names_of.nd rfl (.inl rfl)) (pss_cons (ps_expr (pe_bm PySem.F.plainAttrs_list PySem.F.slot_list_extend PySem.F.type_list_extend mt_extendT (pv 1) (pa_cons (pe_fld (pv 2) rfl) pa_nil)))
      (pss_cons (ps_for PassesOwn.never rfl (pi_list (pe_fld (pv 2) rfl)) (pg_name (i := 3) sc_names_of.nd rfl (.inl rfl)) (pss_one (ps_expr (pe_bm PySem.F.plainAttrs_list PySem.F.slot_list_extend PySem.F.type_list_extend mt_extend (pv 1) (pa_cons (pe_callD O_names_in_row (hr.mono (by decide)) rfl (pa_cons (pv 3) pa_nil)) pa_nil)))))
      (pss_one (ps_expr (pe_bm PySem.F.plainAttrs_list PySem.F.slot_list_extend PySem.F.type_list_extend mt_extend (pv 1) (pa_cons (pe_callD O_names_in_ending (hr.mono (by decide)) rfl (pa_cons (pe_fld (pv 2) rfl) pa_nil)) pa_nil)))))))
      (pss_one (ps_ret (pe_callB (cr_sortedSetB rfl) (by rfl) T.z_sorted (by decide +kernel) (pa_cons (pe_callTy (cr_setOf rfl) (by rfl) T.z_set (by decide +kernel) (pa_cons (pv 1) pa_nil)) pa_nil))))))
/-! ### other_names (line 338) -/
abbrev s_other_names : Stmt := topS 90
abbrev N_other_names : List Str := ["function", "name"]
theorem sc_other_names : FnScope N_other_names ["function"] (defScope s_other_names) := ⟨rfl, rfl, rfl, by decide +kernel, rfl, by decide +kernel, by decide +kernel⟩
def t_other_names (K : PySem.W.Frag) (w : World) (A : Adr) (sp_names_of : Sp) : TS :=
  (tRet (tLc (iList K (tCall sp_names_of [] E0 (tCons (tVar 0) tNil))) (gName 1) (tTest (tOp rGeI (tVar 1) (tFld K (tVar 0) "handed"))) (tVar 1) [1]))
theorem dv_other_names {sp : Sp} {sp_names_of : Sp} (T : Top K mg A)
    (O_names_of : DefOk P w K mg base 2 A.f_names_of "names_of" ["function"] sp_names_of) (len : ∀ vs H Q E, sp vs H Q E → vs.length = 1)
    (h : ∀ vs H Q E, sp vs H Q E → t_other_names K w A sp_names_of { nx := fun _ H' => Q .non H', rt := Q } (start N_other_names vs) H) : DefOk P w K mg base 3 A.f_other_names "other_names" ["function"] sp := by
  refine T.d_other_names.ok sc_other_names len (fun cdv Ar outer s H vs Q E hr q => ⟨t_other_names K w A sp_names_of, ?_, h vs H Q E q⟩)
  exact (pss_one (ps_ret (pe_lc (own := [("name", 1)]) (g := gName 1) rfl sc_other_names.nd (pi_list (pe_callD O_names_of (hr.mono (by decide)) rfl (pa_cons (pv 0) pa_nil))) (blkOk_by (own := [("name", 1)]) (N := N_other_names) (sc := defScope s_other_names) (by decide +kernel)) (fun _ _ _ _ _ => pg_name (i := 1) sc_other_names.nd rfl (Or.inl rfl)) (fun _ _ _ _ _ => (pts_one (pt_cmpR op_ge (pv 1) (pe_fld (pv 0) rfl) (nomark _)))) (fun _ _ _ _ _ => (pv 1)))))
/-! ### first_free_name (line 340) -/
abbrev s_first_free_name : Stmt := topS 91
abbrev N_first_free_name : List Str := ["function", "names"]
theorem sc_first_free_name : FnScope N_first_free_name ["function"] (defScope s_first_free_name) := ⟨rfl, rfl, rfl, by decide +kernel, rfl, by decide +kernel, by decide +kernel⟩
def t_first_free_name (K : PySem.W.Frag) (w : World) (A : Adr) (sp_names_of : Sp) : TS :=
  (tSeq (tAsg (tCall sp_names_of [] E0 (tCons (tVar 0) tNil)) (gName 1))
    (tSeq (tIfS (tTest (tOp rEq (tCB (rLenS K) (tCons (tVar 1) tNil)) (tC (.int 0)))) (tRet (tC (.int 0))) tNext)
    (tRet (tOp rAddI (tOp (rIxL K) (tVar 1) (tUn rNegI (tC (.int 1)))) (tC (.int 1))))))
theorem dv_first_free_name {sp : Sp} {sp_names_of : Sp} (T : Top K mg A)
    (O_names_of : DefOk P w K mg base 2 A.f_names_of "names_of" ["function"] sp_names_of) (len : ∀ vs H Q E, sp vs H Q E → vs.length = 1)
    (h : ∀ vs H Q E, sp vs H Q E → t_first_free_name K w A sp_names_of { nx := fun _ H' => Q .non H', rt := Q } (start N_first_free_name vs) H) : DefOk P w K mg base 3 A.f_first_free_name "first_free_name" ["function"] sp := by
  refine T.d_first_free_name.ok sc_first_free_name len (fun cdv Ar outer s H vs Q E hr q => ⟨t_first_free_name K w A sp_names_of, ?_, h vs H Q E q⟩)
  exact (pss_cons (ps_set (i := 1) sc_first_free_name.nd rfl (.inl rfl) (pe_callD O_names_of (hr.mono (by decide)) rfl (pa_cons (pv 0) pa_nil)))
      (pss_cons (ps_if (pt_cmpR op_eq (pe_callB call_len_seq (by rfl) T.z_len PySem.boot_len (pa_cons (pv 1) pa_nil)) pe_int (nomark _)) (pss_one (ps_ret pe_int)) pss_nil)
      (pss_one (ps_ret (pe_op op_add (pe_ix ix_list (pv 1) (pe_un un_neg pe_int) (fun _ _ => rfl)) pe_int)))))
/-! ### names_above (line 345) -/
abbrev s_names_above : Stmt := topS 92
abbrev N_names_above : List Str := ["names", "d", "name"]
theorem sc_names_above : FnScope N_names_above ["names", "d"] (defScope s_names_above) := ⟨rfl, rfl, rfl, by decide +kernel, rfl, by decide +kernel, by decide +kernel⟩
def t_names_above (K : PySem.W.Frag) (w : World) (A : Adr) : TS :=
  (tRet (tCB (rTupleS K) (tCons (tLc (iTup K (tVar 0)) (gName 2) tYes (tOp rAddI (tVar 2) (tVar 1)) [2]) tNil)))
theorem dv_names_above {sp : Sp} (T : Top K mg A) (len : ∀ vs H Q E, sp vs H Q E → vs.length = 2)
    (h : ∀ vs H Q E, sp vs H Q E → t_names_above K w A { nx := fun _ H' => Q .non H', rt := Q } (start N_names_above vs) H) : DefOk P w K mg base 1 A.f_names_above "names_above" ["names", "d"] sp := by
  refine T.d_names_above.ok sc_names_above len (fun cdv Ar outer s H vs Q E hr q => ⟨t_names_above K w A, ?_, h vs H Q E q⟩)
  exact (pss_one (ps_ret (pe_callTy call_tuple_of (by rfl) T.z_tuple (by decide +kernel) (pa_cons (pe_lc (own := [("name", 2)]) (g := gName 2) rfl sc_names_above.nd (pi_tup (pv 0)) (blkOk_by (own := [("name", 2)]) (N := N_names_above) (sc := defScope s_names_above) (by decide +kernel)) (fun _ _ _ _ _ => pg_name (i := 2) sc_names_above.nd rfl (Or.inl rfl)) (fun _ _ _ _ _ => pts_nil) (fun _ _ _ _ _ => (pe_op op_add (pv 2) (pv 1)))) pa_nil))))
/-! ### row_above (line 347) -/
abbrev s_row_above : Stmt := topS 93
abbrev N_row_above : List Str := ["row", "d"]
theorem sc_row_above : FnScope N_row_above ["row", "d"] (defScope s_row_above) := ⟨rfl, rfl, rfl, by decide +kernel, rfl, by decide +kernel, by decide +kernel⟩
def t_row_above (K : PySem.W.Frag) (w : World) (A : Adr) (sp_names_above : Sp) : TS :=
  (tSeq (tIfS (tTest (tOp rEq (tOp (rIxT K) (tVar 0) (tC (.int 0))) (tC (.int 0)))) (tRet (tTup (tCons (tOp (rIxT K) (tVar 0) (tC (.int 0))) (tCons (tOp rAddI (tOp (rIxT K) (tVar 0) (tC (.int 1))) (tVar 1)) (tCons (tOp (rIxT K) (tVar 0) (tC (.int 2))) tNil))))) tNext)
    (tSeq (tIfS (tTest (tOp rEq (tOp (rIxT K) (tVar 0) (tC (.int 0))) (tC (.int 2)))) (tRet (tTup (tCons (tOp (rIxT K) (tVar 0) (tC (.int 0))) (tCons (tOp rAddI (tOp (rIxT K) (tVar 0) (tC (.int 1))) (tVar 1)) (tCons (tOp (rIxT K) (tVar 0) (tC (.int 2))) (tCons (tOp rAddI (tOp (rIxT K) (tVar 0) (tC (.int 3))) (tVar 1)) (tCons (tOp rAddI (tOp (rIxT K) (tVar 0) (tC (.int 4))) (tVar 1)) tNil))))))) tNext)
    (tSeq (tIfS (tTest (tOp rEq (tOp (rIxT K) (tVar 0) (tC (.int 0))) (tC (.int 4)))) (tRet (tTup (tCons (tOp (rIxT K) (tVar 0) (tC (.int 0))) (tCons (tOp rAddI (tOp (rIxT K) (tVar 0) (tC (.int 1))) (tVar 1)) (tCons (tOp (rIxT K) (tVar 0) (tC (.int 2))) (tCons (tCall sp_names_above [] E0 (tCons (tOp (rIxT K) (tVar 0) (tC (.int 3))) (tCons (tVar 1) tNil))) tNil)))))) tNext)
    (tRet (tTup (tCons (tOp (rIxT K) (tVar 0) (tC (.int 0))) (tCons (tOp rAddI (tOp (rIxT K) (tVar 0) (tC (.int 1))) (tVar 1)) tNil)))))))
theorem dv_row_above {sp : Sp} {sp_names_above : Sp} (T : Top K mg A)
    (O_names_above : DefOk P w K mg base 1 A.f_names_above "names_above" ["names", "d"] sp_names_above) (len : ∀ vs H Q E, sp vs H Q E → vs.length = 2)
    (h : ∀ vs H Q E, sp vs H Q E → t_row_above K w A sp_names_above { nx := fun _ H' => Q .non H', rt := Q } (start N_row_above vs) H) : DefOk P w K mg base 2 A.f_row_above "row_above" ["row", "d"] sp := by
  refine T.d_row_above.ok sc_row_above len (fun cdv Ar outer s H vs Q E hr q => ⟨t_row_above K w A sp_names_above, ?_, h vs H Q E q⟩)
  exact (pss_cons (ps_if (pt_cmpR op_eq (pe_ix ix_tup (pv 0) pe_int (fun _ _ => rfl)) (pe_gi T.g_ROW_NUM rfl) (nomark _)) (pss_one (ps_ret (pe_tup (pa_cons (pe_ix ix_tup (pv 0) pe_int (fun _ _ => rfl)) (pa_cons (pe_op op_add (pe_ix ix_tup (pv 0) pe_int (fun _ _ => rfl)) (pv 1)) (pa_cons (pe_ix ix_tup (pv 0) pe_int (fun _ _ => rfl)) pa_nil)))))) pss_nil)
      (pss_cons (ps_if (pt_cmpR op_eq (pe_ix ix_tup (pv 0) pe_int (fun _ _ => rfl)) (pe_gi T.g_ROW_TWO rfl) (nomark _)) (pss_one (ps_ret (pe_tup (pa_cons (pe_ix ix_tup (pv 0) pe_int (fun _ _ => rfl)) (pa_cons (pe_op op_add (pe_ix ix_tup (pv 0) pe_int (fun _ _ => rfl)) (pv 1)) (pa_cons (pe_ix ix_tup (pv 0) pe_int (fun _ _ => rfl)) (pa_cons (pe_op op_add (pe_ix ix_tup (pv 0) pe_int (fun _ _ => rfl)) (pv 1)) (pa_cons (pe_op op_add (pe_ix ix_tup (pv 0) pe_int (fun _ _ => rfl)) (pv 1)) pa_nil)))))))) pss_nil)
      (pss_cons (ps_if (pt_cmpR op_eq (pe_ix ix_tup (pv 0) pe_int (fun _ _ => rfl)) (pe_gi T.g_ROW_CALL rfl) (nomark _)) (pss_one (ps_ret (pe_tup (pa_cons (pe_ix ix_tup (pv 0) pe_int (fun _ _ => rfl)) (pa_cons (pe_op op_add (pe_ix ix_tup (pv 0) pe_int (fun _ _ => rfl)) (pv 1)) (pa_cons (pe_ix ix_tup (pv 0) pe_int (fun _ _ => rfl)) (pa_cons (pe_callD O_names_above (hr.mono (by decide)) rfl (pa_cons (pe_ix ix_tup (pv 0) pe_int (fun _ _ => rfl)) (pa_cons (pv 1) pa_nil))) pa_nil))))))) pss_nil)
      (pss_one (ps_ret (pe_tup (pa_cons (pe_ix ix_tup (pv 0) pe_int (fun _ _ => rfl)) (pa_cons (pe_op op_add (pe_ix ix_tup (pv 0) pe_int (fun _ _ => rfl)) (pv 1)) pa_nil))))))))
/-! ### block_of (line 356) -/
abbrev s_block_of : Stmt := topS 95
abbrev N_block_of : List Str := ["taken", "rows", "ending", "block"]
theorem sc_block_of : FnScope N_block_of ["taken", "rows", "ending"] (defScope s_block_of) := ⟨rfl, rfl, rfl, by decide +kernel, rfl, by decide +kernel, by decide +kernel⟩
def t_block_of (K : PySem.W.Frag) (w : World) (A : Adr) (sp_Block : Sp) : TS :=
  (tSeq (tAsg (tMake A.C_Block sp_Block [] E0 (tCons (tVar 0) tNil)) (gName 3))
    (tSeq (tDrop (tBM K "list" rExtend (tFld K (tVar 3) "rows") (tCons (tVar 1) tNil)))
    (tSeq (sFld K (tVar 3) (tVar 2) "ending")
    (tRet (tVar 3)))))
theorem dv_block_of {sp : Sp} {sp_Block : Sp} (T : Top K mg A)
    (O_Block : MakeOk P w K mg base 1 A.C_Block A.f_Block "Block" ["self", "taken"] sp_Block) (len : ∀ vs H Q E, sp vs H Q E → vs.length = 3)
    (h : ∀ vs H Q E, sp vs H Q E → t_block_of K w A sp_Block { nx := fun _ H' => Q .non H', rt := Q } (start N_block_of vs) H) : DefOk P w K mg base 3 A.f_block_of "block_of" ["taken", "rows", "ending"] sp := by
  refine T.d_block_of.ok sc_block_of len (fun cdv Ar outer s H vs Q E hr q => ⟨t_block_of K w A sp_Block, ?_, h vs H Q E q⟩)
  exact (pss_cons (ps_set (i := 3) sc_block_of.nd rfl (.inl rfl) (pe_makeD O_Block (hr.mono (by decide)) rfl (pa_cons (pv 0) pa_nil)))
      (pss_cons (ps_expr (pe_bm PySem.F.plainAttrs_list PySem.F.slot_list_extend PySem.F.type_list_extend mt_extend (pe_fld (pv 3) rfl) (pa_cons (pv 1) pa_nil)))
      (pss_cons (ps_fld (pv 3) (pv 2) rfl)
      (pss_one (ps_ret (pv 3))))))
/-! ### copied_ending (line 361) -/
abbrev s_copied_ending : Stmt := topS 96
abbrev N_copied_ending : List Str := ["ending", "d", "n", "c", "to_t", "to_u"]
theorem sc_copied_ending : FnScope N_copied_ending ["ending", "d", "n", "c"] (defScope s_copied_ending) := ⟨rfl, rfl, rfl, by decide +kernel, rfl, by decide +kernel, by decide +kernel⟩
def t_copied_ending (K : PySem.W.Frag) (w : World) (A : Adr) (sp_names_above : Sp) : TS :=
  (tSeq (tIfS (tTest (tOp rEq (tOp (rIxT K) (tVar 0) (tC (.int 0))) (tC (.int 0)))) (tRet (tTup (tCons (tC (.int 0)) (tCons (tOp rAddI (tOp (rIxT K) (tVar 0) (tC (.int 1))) (tVar 2)) (tCons (tCall sp_names_above [] E0 (tCons (tOp (rIxT K) (tVar 0) (tC (.int 2))) (tCons (tVar 1) tNil))) tNil))))) tNext)
    (tSeq (tIfS (tTest (tOp rEq (tOp (rIxT K) (tVar 0) (tC (.int 0))) (tC (.int 1)))) (tSeq (tAsg (tCall sp_names_above [] E0 (tCons (tOp (rIxT K) (tVar 0) (tC (.int 3))) (tCons (tVar 1) tNil))) (gName 4))
    (tSeq (tAsg (tCall sp_names_above [] E0 (tCons (tOp (rIxT K) (tVar 0) (tC (.int 5))) (tCons (tVar 1) tNil))) (gName 5))
    (tRet (tTup (tCons (tC (.int 1)) (tCons (tOp rAddI (tOp (rIxT K) (tVar 0) (tC (.int 1))) (tVar 1)) (tCons (tOp rAddI (tOp (rIxT K) (tVar 0) (tC (.int 2))) (tVar 2)) (tCons (tVar 4) (tCons (tOp rAddI (tOp (rIxT K) (tVar 0) (tC (.int 4))) (tVar 2)) (tCons (tVar 5) tNil)))))))))) tNext)
    (tRet (tTup (tCons (tC (.int 0)) (tCons (tVar 3) (tCons (tTup (tCons (tOp rAddI (tOp (rIxT K) (tVar 0) (tC (.int 1))) (tVar 1)) tNil)) tNil)))))))
theorem dv_copied_ending {sp : Sp} {sp_names_above : Sp} (T : Top K mg A)
    (O_names_above : DefOk P w K mg base 1 A.f_names_above "names_above" ["names", "d"] sp_names_above) (len : ∀ vs H Q E, sp vs H Q E → vs.length = 4)
    (h : ∀ vs H Q E, sp vs H Q E → t_copied_ending K w A sp_names_above { nx := fun _ H' => Q .non H', rt := Q } (start N_copied_ending vs) H) : DefOk P w K mg base 2 A.f_copied_ending "copied_ending" ["ending", "d", "n", "c"] sp := by
  refine T.d_copied_ending.ok sc_copied_ending len (fun cdv Ar outer s H vs Q E hr q => ⟨t_copied_ending K w A sp_names_above, ?_, h vs H Q E q⟩)
  exact (pss_cons (ps_if (pt_cmpR op_eq (pe_ix ix_tup (pv 0) pe_int (fun _ _ => rfl)) (pe_gi T.g_END_JUMP rfl) (nomark _)) (pss_one (ps_ret (pe_tup (pa_cons (pe_gi T.g_END_JUMP rfl) (pa_cons (pe_op op_add (pe_ix ix_tup (pv 0) pe_int (fun _ _ => rfl)) (pv 2)) (pa_cons (pe_callD O_names_above (hr.mono (by decide)) rfl (pa_cons (pe_ix ix_tup (pv 0) pe_int (fun _ _ => rfl)) (pa_cons (pv 1) pa_nil))) pa_nil)))))) pss_nil)
      (pss_cons (ps_if (pt_cmpR op_eq (pe_ix ix_tup (pv 0) pe_int (fun _ _ => rfl)) (pe_gi T.g_END_FORK rfl) (nomark _)) (pss_cons (ps_set (i := 4) sc_copied_ending.nd rfl (.inl rfl) (pe_callD O_names_above (hr.mono (by decide)) rfl (pa_cons (pe_ix ix_tup (pv 0) pe_int (fun _ _ => rfl)) (pa_cons (pv 1) pa_nil))))
      (pss_cons (ps_set (i := 5) sc_copied_ending.nd rfl (.inl rfl) (pe_callD O_names_above (hr.mono (by decide)) rfl (pa_cons (pe_ix ix_tup (pv 0) pe_int (fun _ _ => rfl)) (pa_cons (pv 1) pa_nil))))
      (pss_one (ps_ret (pe_tup (pa_cons (pe_gi T.g_END_FORK rfl) (pa_cons (pe_op op_add (pe_ix ix_tup (pv 0) pe_int (fun _ _ => rfl)) (pv 1)) (pa_cons (pe_op op_add (pe_ix ix_tup (pv 0) pe_int (fun _ _ => rfl)) (pv 2)) (pa_cons (pv 4) (pa_cons (pe_op op_add (pe_ix ix_tup (pv 0) pe_int (fun _ _ => rfl)) (pv 2)) (pa_cons (pv 5) pa_nil))))))))))) pss_nil)
      (pss_one (ps_ret (pe_tup (pa_cons (pe_gi T.g_END_JUMP rfl) (pa_cons (pv 3) (pa_cons (pe_tup (pa_cons (pe_op op_add (pe_ix ix_tup (pv 0) pe_int (fun _ _ => rfl)) (pv 1)) pa_nil)) pa_nil))))))))
/-! ### copied_blocks (line 369) -/
abbrev s_copied_blocks : Stmt := topS 97
abbrev N_copied_blocks : List Str := ["called", "d", "n", "c", "copies", "block", "rows", "first", "taken", "cleared", "row", "name"]
theorem sc_copied_blocks : FnScope N_copied_blocks ["called", "d", "n", "c"] (defScope s_copied_blocks) := ⟨rfl, rfl, rfl, by decide +kernel, rfl, by decide +kernel, by decide +kernel⟩
def t_copied_blocks (K : PySem.W.Frag) (w : World) (A : Adr) (sp_row_above sp_block_of sp_copied_ending sp_names_above sp_other_names : Sp) : TS :=
  (tSeq (tAsg (tLst tNil) (gName 4))
    (tSeq (tFor (iList K (tFld K (tVar 0) "blocks")) (gName 5) (tSeq (tAsg (tLc (iList K (tFld K (tVar 5) "rows")) (gName 10) tYes (tCall sp_row_above [] E0 (tCons (tVar 10) (tCons (tVar 1) tNil))) [10]) (gName 6))
    (tDrop (tBM K "list" rAppend (tVar 4) (tCons (tCall sp_block_of [] E0 (tCons (tCall sp_names_above [] E0 (tCons (tFld K (tVar 5) "taken") (tCons (tVar 1) tNil))) (tCons (tVar 6) (tCons (tCall sp_copied_ending [] E0 (tCons (tFld K (tVar 5) "ending") (tCons (tVar 1) (tCons (tVar 2) (tCons (tVar 3) tNil))))) tNil)))) tNil)))))
    (tSeq (tAsg (tOp (rIxL K) (tVar 4) (tC (.int 0))) (gName 7))
    (tSeq (tAsg (tCB (rTupleS K) (tCons (tLc (iRng1 (tCons (tFld K (tVar 0) "handed") tNil)) (gName 11) tYes (tOp rAddI (tVar 11) (tVar 1)) [11]) tNil)) (gName 8))
    (tSeq (tAsg (tLc (iList K (tCall sp_other_names [] E0 (tCons (tVar 0) tNil))) (gName 11) tYes (tTup (tCons (tC (.int 0)) (tCons (tOp rAddI (tVar 11) (tVar 1)) (tCons (tC (.int 0)) tNil)))) [11]) (gName 9))
    (tSeq (tAsg (tCall sp_block_of [] E0 (tCons (tVar 8) (tCons (tOp rCat (tVar 9) (tFld K (tVar 7) "rows")) (tCons (tFld K (tVar 7) "ending") tNil)))) (gSub (tVar 4) (tC (.int 0)) rSetL))
    (tRet (tVar 4))))))))
theorem dv_copied_blocks {sp : Sp} {sp_row_above sp_block_of sp_copied_ending sp_names_above sp_other_names : Sp} (T : Top K mg A)
    (O_row_above : DefOk P w K mg base 2 A.f_row_above "row_above" ["row", "d"] sp_row_above)
    (O_block_of : DefOk P w K mg base 3 A.f_block_of "block_of" ["taken", "rows", "ending"] sp_block_of)
    (O_copied_ending : DefOk P w K mg base 2 A.f_copied_ending "copied_ending" ["ending", "d", "n", "c"] sp_copied_ending)
    (O_names_above : DefOk P w K mg base 1 A.f_names_above "names_above" ["names", "d"] sp_names_above)
    (O_other_names : DefOk P w K mg base 3 A.f_other_names "other_names" ["function"] sp_other_names) (len : ∀ vs H Q E, sp vs H Q E → vs.length = 4)
    (h : ∀ vs H Q E, sp vs H Q E → t_copied_blocks K w A sp_row_above sp_block_of sp_copied_ending sp_names_above sp_other_names { nx := fun _ H' => Q .non H', rt := Q } (start N_copied_blocks vs) H) : DefOk P w K mg base 4 A.f_copied_blocks "copied_blocks" ["called", "d", "n", "c"] sp := by
  refine T.d_copied_blocks.ok sc_copied_blocks len (fun cdv Ar outer s H vs Q E hr q => ⟨t_copied_blocks K w A sp_row_above sp_block_of sp_copied_ending sp_names_above sp_other_names, ?_, h vs H Q E q⟩)
  exact (pss_cons (ps_set (i := 4) sc_copied_blocks.nd rfl (.inl rfl) (pe_lst pa_nil))
      (pss_cons (ps_for PassesOwn.never rfl (pi_list (pe_fld (pv 0) rfl)) (pg_name (i := 5) sc_copied_blocks.nd rfl (.inl rfl)) (pss_cons (ps_setLc (i := 6) (own := [("row", 10)]) (g := gName 10) rfl sc_copied_blocks.nd rfl rfl (sw_true rfl rfl rfl (by decide +kernel)) (pi_list (pe_fld (pv 5) rfl)) (blkOk_by (own := [("row", 10)]) (N := N_copied_blocks) (sc := defScope s_copied_blocks) (by decide +kernel)) (fun _ _ _ _ _ => pg_name (i := 10) sc_copied_blocks.nd rfl (Or.inl rfl)) (fun _ _ _ _ _ => pts_nil) (fun _ _ _ _ _ => (pe_callD O_row_above (hr.mono (by decide)) rfl (pa_cons (pv 10) (pa_cons (pv 1) pa_nil)))))
      (pss_one (ps_expr (pe_bm PySem.F.plainAttrs_list PySem.F.slot_list_append PySem.F.type_list_append mt_append (pv 4) (pa_cons (pe_callD O_block_of (hr.mono (by decide)) rfl (pa_cons (pe_callD O_names_above (hr.mono (by decide)) rfl (pa_cons (pe_fld (pv 5) rfl) (pa_cons (pv 1) pa_nil))) (pa_cons (pv 6) (pa_cons (pe_callD O_copied_ending (hr.mono (by decide)) rfl (pa_cons (pe_fld (pv 5) rfl) (pa_cons (pv 1) (pa_cons (pv 2) (pa_cons (pv 3) pa_nil))))) pa_nil)))) pa_nil))))))
      (pss_cons (ps_set (i := 7) sc_copied_blocks.nd rfl (.inl rfl) (pe_ix ix_list (pv 4) pe_int (fun _ _ => rfl)))
      (pss_cons (ps_set (i := 8) sc_copied_blocks.nd rfl (.inl rfl) (pe_callTy call_tuple_of (by rfl) T.z_tuple (by decide +kernel) (pa_cons (pe_lc (own := [("name", 11)]) (g := gName 11) rfl sc_copied_blocks.nd (pi_range1 (by rfl) T.z_range (pa_cons (pe_fld (pv 0) rfl) pa_nil)) (blkOk_by (own := [("name", 11)]) (N := N_copied_blocks) (sc := defScope s_copied_blocks) (by decide +kernel)) (fun _ _ _ _ _ => pg_name (i := 11) sc_copied_blocks.nd rfl (Or.inl rfl)) (fun _ _ _ _ _ => pts_nil) (fun _ _ _ _ _ => (pe_op op_add (pv 11) (pv 1)))) pa_nil)))
      (pss_cons (ps_setLc (i := 9) (own := [("name", 11)]) (g := gName 11) rfl sc_copied_blocks.nd rfl rfl (sw_true rfl rfl rfl (by decide +kernel)) (pi_list (pe_callD O_other_names (hr.mono (by decide)) rfl (pa_cons (pv 0) pa_nil))) (blkOk_by (own := [("name", 11)]) (N := N_copied_blocks) (sc := defScope s_copied_blocks) (by decide +kernel)) (fun _ _ _ _ _ => pg_name (i := 11) sc_copied_blocks.nd rfl (Or.inl rfl)) (fun _ _ _ _ _ => pts_nil) (fun _ _ _ _ _ => (pe_tup (pa_cons (pe_gi T.g_ROW_NUM rfl) (pa_cons (pe_op op_add (pv 11) (pv 1)) (pa_cons pe_int pa_nil))))))
      (pss_cons (ps_asg (pe_callD O_block_of (hr.mono (by decide)) rfl (pa_cons (pv 8) (pa_cons (pe_op op_cat (pv 9) (pe_fld (pv 7) rfl)) (pa_cons (pe_fld (pv 7) rfl) pa_nil)))) (pg_sub (pv 4) pe_int set_list))
      (pss_one (ps_ret (pv 4)))))))))
/-! ### put_in (line 379) -/
abbrev s_put_in : Stmt := topS 98
abbrev N_put_in : List Str := ["function", "functions", "b", "r", "parted", "row", "called", "n", "c", "made"]
theorem sc_put_in : FnScope N_put_in ["function", "functions", "b", "r"] (defScope s_put_in) := ⟨rfl, rfl, rfl, by decide +kernel, rfl, by decide +kernel, by decide +kernel⟩
def t_put_in (K : PySem.W.Frag) (w : World) (A : Adr) (sp_Function sp_block_of sp_copied_blocks sp_first_free_name : Sp) : TS :=
  (tSeq (tAsg (tOp (rIxL K) (tFld K (tVar 0) "blocks") (tVar 2)) (gName 4))
    (tSeq (tAsg (tOp (rIxL K) (tFld K (tVar 4) "rows") (tVar 3)) (gName 5))
    (tSeq (tAsg (tOp (rIxL K) (tVar 1) (tOp (rIxT K) (tVar 5) (tC (.int 2)))) (gName 6))
    (tSeq (tAsg (tCB (rLenS K) (tCons (tFld K (tVar 0) "blocks") tNil)) (gName 7))
    (tSeq (tAsg (tOp rAddI (tVar 7) (tCB (rLenS K) (tCons (tFld K (tVar 6) "blocks") tNil))) (gName 8))
    (tSeq (tAsg (tMake A.C_Function sp_Function [] E0 (tCons (tFld K (tVar 0) "handed") tNil)) (gName 9))
    (tSeq (tDrop (tBM K "list" rExtend (tFld K (tVar 9) "blocks") (tCons (tFld K (tVar 0) "blocks") tNil)))
    (tSeq (tAsg (tCall sp_block_of [] E0 (tCons (tFld K (tVar 4) "taken") (tCons (tSl (rSlL K) (tFld K (tVar 4) "rows") tNoPart (tPart (tVar 3))) (tCons (tTup (tCons (tC (.int 0)) (tCons (tVar 7) (tCons (tOp (rIxT K) (tVar 5) (tC (.int 3))) tNil)))) tNil)))) (gSub (tFld K (tVar 9) "blocks") (tVar 2) rSetL))
    (tSeq (tDrop (tBM K "list" rExtend (tFld K (tVar 9) "blocks") (tCons (tCall sp_copied_blocks [] E0 (tCons (tVar 6) (tCons (tCall sp_first_free_name [] E0 (tCons (tVar 0) tNil)) (tCons (tVar 7) (tCons (tVar 8) tNil))))) tNil)))
    (tSeq (tDrop (tBM K "list" rAppend (tFld K (tVar 9) "blocks") (tCons (tCall sp_block_of [] E0 (tCons (tTup (tCons (tOp (rIxT K) (tVar 5) (tC (.int 1))) tNil)) (tCons (tSl (rSlL K) (tFld K (tVar 4) "rows") (tPart (tOp rAddI (tVar 3) (tC (.int 1)))) tNoPart) (tCons (tFld K (tVar 4) "ending") tNil)))) tNil)))
    (tRet (tVar 9))))))))))))
theorem dv_put_in {sp : Sp} {sp_Function sp_block_of sp_copied_blocks sp_first_free_name : Sp} (T : Top K mg A)
    (O_Function : MakeOk P w K mg base 1 A.C_Function A.f_Function "Function" ["self", "handed"] sp_Function)
    (O_block_of : DefOk P w K mg base 3 A.f_block_of "block_of" ["taken", "rows", "ending"] sp_block_of)
    (O_copied_blocks : DefOk P w K mg base 4 A.f_copied_blocks "copied_blocks" ["called", "d", "n", "c"] sp_copied_blocks)
    (O_first_free_name : DefOk P w K mg base 3 A.f_first_free_name "first_free_name" ["function"] sp_first_free_name) (len : ∀ vs H Q E, sp vs H Q E → vs.length = 4)
    (h : ∀ vs H Q E, sp vs H Q E → t_put_in K w A sp_Function sp_block_of sp_copied_blocks sp_first_free_name { nx := fun _ H' => Q .non H', rt := Q } (start N_put_in vs) H) : DefOk P w K mg base 5 A.f_put_in "put_in" ["function", "functions", "b", "r"] sp := by
  refine T.d_put_in.ok sc_put_in len (fun cdv Ar outer s H vs Q E hr q => ⟨t_put_in K w A sp_Function sp_block_of sp_copied_blocks sp_first_free_name, ?_, h vs H Q E q⟩)
  exact (pss_cons (ps_set (i := 4) sc_put_in.nd rfl (.inl rfl) (pe_ix ix_list (pe_fld (pv 0) rfl) (pv 2) (fun _ _ => rfl)))
      (pss_cons (ps_set (i := 5) sc_put_in.nd rfl (.inl rfl) (pe_ix ix_list (pe_fld (pv 4) rfl) (pv 3) (fun _ _ => rfl)))
      (pss_cons (ps_set (i := 6) sc_put_in.nd rfl (.inl rfl) (pe_ix ix_list (pv 1) (pe_ix ix_tup (pv 5) pe_int (fun _ _ => rfl)) (fun _ _ => rfl)))
      (pss_cons (ps_set (i := 7) sc_put_in.nd rfl (.inl rfl) (pe_callB call_len_seq (by rfl) T.z_len PySem.boot_len (pa_cons (pe_fld (pv 0) rfl) pa_nil)))
      (pss_cons (ps_set (i := 8) sc_put_in.nd rfl (.inl rfl) (pe_op op_add (pv 7) (pe_callB call_len_seq (by rfl) T.z_len PySem.boot_len (pa_cons (pe_fld (pv 6) rfl) pa_nil))))
      (pss_cons (ps_set (i := 9) sc_put_in.nd rfl (.inl rfl) (pe_makeD O_Function (hr.mono (by decide)) rfl (pa_cons (pe_fld (pv 0) rfl) pa_nil)))
      (pss_cons (ps_expr (pe_bm PySem.F.plainAttrs_list PySem.F.slot_list_extend PySem.F.type_list_extend mt_extend (pe_fld (pv 9) rfl) (pa_cons (pe_fld (pv 0) rfl) pa_nil)))
      (pss_cons (ps_asg (pe_callD O_block_of (hr.mono (by decide)) rfl (pa_cons (pe_fld (pv 4) rfl) (pa_cons (pe_slice sl_list (pe_fld (pv 4) rfl) po_none (po_some (pv 3))) (pa_cons (pe_tup (pa_cons (pe_gi T.g_END_JUMP rfl) (pa_cons (pv 7) (pa_cons (pe_ix ix_tup (pv 5) pe_int (fun _ _ => rfl)) pa_nil)))) pa_nil)))) (pg_sub (pe_fld (pv 9) rfl) (pv 2) set_list))
      (pss_cons (ps_expr (pe_bm PySem.F.plainAttrs_list PySem.F.slot_list_extend PySem.F.type_list_extend mt_extend (pe_fld (pv 9) rfl) (pa_cons (pe_callD O_copied_blocks (hr.mono (by decide)) rfl (pa_cons (pv 6) (pa_cons (pe_callD O_first_free_name (hr.mono (by decide)) rfl (pa_cons (pv 0) pa_nil)) (pa_cons (pv 7) (pa_cons (pv 8) pa_nil))))) pa_nil)))
      (pss_cons (ps_expr (pe_bm PySem.F.plainAttrs_list PySem.F.slot_list_append PySem.F.type_list_append mt_append (pe_fld (pv 9) rfl) (pa_cons (pe_callD O_block_of (hr.mono (by decide)) rfl (pa_cons (pe_tup (pa_cons (pe_ix ix_tup (pv 5) pe_int (fun _ _ => rfl)) pa_nil)) (pa_cons (pe_slice sl_list (pe_fld (pv 4) rfl) (po_some (pe_op op_add (pv 3) pe_int)) po_none) (pa_cons (pe_fld (pv 4) rfl) pa_nil)))) pa_nil)))
      (pss_one (ps_ret (pv 9)))))))))))))
/-! ### with_put_in (line 391) -/
abbrev s_with_put_in : Stmt := topS 99
abbrev N_with_put_in : List Str := ["program", "places", "made", "f", "function", "place"]
theorem sc_with_put_in : FnScope N_with_put_in ["program", "places"] (defScope s_with_put_in) := ⟨rfl, rfl, rfl, by decide +kernel, rfl, by decide +kernel, by decide +kernel⟩
def t_with_put_in (K : PySem.W.Frag) (w : World) (A : Adr) (sp_Program sp_put_in : Sp) : TS :=
  (tSeq (tAsg (tMake A.C_Program sp_Program [] E0 tNil) (gName 2))
    (tSeq (tFor (iRng1 (tCons (tCB (rLenS K) (tCons (tFld K (tVar 0) "functions") tNil)) tNil)) (gName 3) (tSeq (tAsg (tOp (rIxL K) (tFld K (tVar 0) "functions") (tVar 3)) (gName 4))
    (tSeq (tFor (iRev K (tCons (tVar 1) tNil)) (gName 5) (tIfS (tTest (tOp rEq (tOp (rIxT K) (tVar 5) (tC (.int 0))) (tVar 3))) (tAsg (tCall sp_put_in [] E0 (tCons (tVar 4) (tCons (tFld K (tVar 2) "functions") (tCons (tOp (rIxT K) (tVar 5) (tC (.int 1))) (tCons (tOp (rIxT K) (tVar 5) (tC (.int 2))) tNil))))) (gName 4)) tNext))
    (tDrop (tBM K "list" rAppend (tFld K (tVar 2) "functions") (tCons (tVar 4) tNil))))))
    (tRet (tVar 2))))
theorem dv_with_put_in {sp : Sp} {sp_Program sp_put_in : Sp} (T : Top K mg A)
    (O_Program : MakeOk P w K mg base 1 A.C_Program A.f_Program "Program" ["self"] sp_Program)
    (O_put_in : DefOk P w K mg base 5 A.f_put_in "put_in" ["function", "functions", "b", "r"] sp_put_in) (len : ∀ vs H Q E, sp vs H Q E → vs.length = 2)
    (h : ∀ vs H Q E, sp vs H Q E → t_with_put_in K w A sp_Program sp_put_in { nx := fun _ H' => Q .non H', rt := Q } (start N_with_put_in vs) H) : DefOk P w K mg base 6 A.f_with_put_in "with_put_in" ["program", "places"] sp := by
  refine T.d_with_put_in.ok sc_with_put_in len (fun cdv Ar outer s H vs Q E hr q => ⟨t_with_put_in K w A sp_Program sp_put_in, ?_, h vs H Q E q⟩)
  exact (pss_cons (ps_set (i := 2) sc_with_put_in.nd rfl (.inl rfl) (pe_makeD0 O_Program (hr.mono (by decide)) rfl))
      (pss_cons (ps_for PassesOwn.never rfl (pi_range1 (by rfl) T.z_range (pa_cons (pe_callB call_len_seq (by rfl) T.z_len PySem.boot_len (pa_cons (pe_fld (pv 0) rfl) pa_nil)) pa_nil)) (pg_name (i := 3) sc_with_put_in.nd rfl (.inl rfl)) (pss_cons (ps_set (i := 4) sc_with_put_in.nd rfl (.inl rfl) (pe_ix ix_list (pe_fld (pv 0) rfl) (pv 3) (fun _ _ => rfl)))
      (pss_cons (ps_for PassesOwn.never rfl (pi_reversed (by rfl) T.z_reversed (pa_cons (pv 1) pa_nil)) (pg_name (i := 5) sc_with_put_in.nd rfl (.inl rfl)) (pss_one (ps_if (pt_cmpR op_eq (pe_ix ix_tup (pv 5) pe_int (fun _ _ => rfl)) (pv 3) (nomark _)) (pss_one (ps_set (i := 4) sc_with_put_in.nd rfl (.inl rfl) (pe_callD O_put_in (hr.mono (by decide)) rfl (pa_cons (pv 4) (pa_cons (pe_fld (pv 2) rfl) (pa_cons (pe_ix ix_tup (pv 5) pe_int (fun _ _ => rfl)) (pa_cons (pe_ix ix_tup (pv 5) pe_int (fun _ _ => rfl)) pa_nil))))))) pss_nil)))
      (pss_one (ps_expr (pe_bm PySem.F.plainAttrs_list PySem.F.slot_list_append PySem.F.type_list_append mt_append (pe_fld (pv 2) rfl) (pa_cons (pv 4) pa_nil)))))))
      (pss_one (ps_ret (pv 2)))))
/-! ### Choice (line 403) -/
abbrev s_Choice : Stmt := inClass (topS 101) 0
abbrev N_Choice : List Str := ["self", "places", "spared", "size"]
theorem sc_Choice : FnScope N_Choice ["self", "places", "spared", "size"] (defScope s_Choice) := ⟨rfl, rfl, rfl, by decide +kernel, rfl, by decide +kernel, by decide +kernel⟩
def t_Choice (K : PySem.W.Frag) (w : World) (A : Adr) : TS :=
  (tSeq (sFld K (tVar 0) (tVar 1) "places")
    (tSeq (sFld K (tVar 0) (tVar 2) "spared")
    (sFld K (tVar 0) (tVar 3) "size")))
theorem dv_Choice {sp : Sp} (T : Top K mg A) (len : ∀ vs H Q E, sp vs H Q E → vs.length = 4)
    (h : ∀ vs H Q E, sp vs H Q E → t_Choice K w A { nx := fun _ H' => Q .non H', rt := Q } (start N_Choice vs) H) : MakeOk P w K mg base 1 A.C_Choice A.f_Choice "Choice" ["self", "places", "spared", "size"] sp := by
  refine T.d_Choice.ok sc_Choice len (fun cdv Ar outer s H vs Q E hr q => ⟨t_Choice K w A, ?_, h vs H Q E q⟩)
  exact (pss_cons (ps_fld (pv 0) (pv 1) rfl)
      (pss_cons (ps_fld (pv 0) (pv 2) rfl)
      (pss_one (ps_fld (pv 0) (pv 3) rfl))))
/-! ### function_size (line 407) -/
abbrev s_function_size : Stmt := topS 102
abbrev N_function_size : List Str := ["function", "block"]
theorem sc_function_size : FnScope N_function_size ["function"] (defScope s_function_size) := ⟨rfl, rfl, rfl, by decide +kernel, rfl, by decide +kernel, by decide +kernel⟩
def t_function_size (K : PySem.W.Frag) (w : World) (A : Adr) : TS :=
  (tRet (tCB (rSum K) (tCons (tLc (iList K (tFld K (tVar 0) "blocks")) (gName 1) tYes (tOp rAddI (tOp rAddI (tCB (rLenS K) (tCons (tFld K (tVar 1) "taken") tNil)) (tCB (rLenS K) (tCons (tFld K (tVar 1) "rows") tNil))) (tC (.int 1))) [1]) tNil)))
theorem dv_function_size {sp : Sp} (T : Top K mg A) (len : ∀ vs H Q E, sp vs H Q E → vs.length = 1)
    (h : ∀ vs H Q E, sp vs H Q E → t_function_size K w A { nx := fun _ H' => Q .non H', rt := Q } (start N_function_size vs) H) : DefOk P w K mg base 1 A.f_function_size "function_size" ["function"] sp := by
  refine T.d_function_size.ok sc_function_size len (fun cdv Ar outer s H vs Q E hr q => ⟨t_function_size K w A, ?_, h vs H Q E q⟩)
  exact (pss_one (ps_ret (pe_callB (cr_sum rfl) (by rfl) T.z_sum (by decide +kernel) (pa_cons (pe_lc (own := [("block", 1)]) (g := gName 1) rfl sc_function_size.nd (pi_list (pe_fld (pv 0) rfl)) (blkOk_by (own := [("block", 1)]) (N := N_function_size) (sc := defScope s_function_size) (by decide +kernel)) (fun _ _ _ _ _ => pg_name (i := 1) sc_function_size.nd rfl (Or.inl rfl)) (fun _ _ _ _ _ => pts_nil) (fun _ _ _ _ _ => (pe_op op_add (pe_op op_add (pe_callB call_len_seq (by rfl) T.z_len PySem.boot_len (pa_cons (pe_fld (pv 1) rfl) pa_nil)) (pe_callB call_len_seq (by rfl) T.z_len PySem.boot_len (pa_cons (pe_fld (pv 1) rfl) pa_nil))) pe_int))) pa_nil))))
/-! ### program_size (line 409) -/
abbrev s_program_size : Stmt := topS 103
abbrev N_program_size : List Str := ["program", "function"]
theorem sc_program_size : FnScope N_program_size ["program"] (defScope s_program_size) := ⟨rfl, rfl, rfl, by decide +kernel, rfl, by decide +kernel, by decide +kernel⟩
def t_program_size (K : PySem.W.Frag) (w : World) (A : Adr) (sp_function_size : Sp) : TS :=
  (tRet (tCB (rSum K) (tCons (tLc (iList K (tFld K (tVar 0) "functions")) (gName 1) tYes (tCall sp_function_size [] E0 (tCons (tVar 1) tNil)) [1]) tNil)))
theorem dv_program_size {sp : Sp} {sp_function_size : Sp} (T : Top K mg A)
    (O_function_size : DefOk P w K mg base 1 A.f_function_size "function_size" ["function"] sp_function_size) (len : ∀ vs H Q E, sp vs H Q E → vs.length = 1)
    (h : ∀ vs H Q E, sp vs H Q E → t_program_size K w A sp_function_size { nx := fun _ H' => Q .non H', rt := Q } (start N_program_size vs) H) : DefOk P w K mg base 2 A.f_program_size "program_size" ["program"] sp := by
  refine T.d_program_size.ok sc_program_size len (fun cdv Ar outer s H vs Q E hr q => ⟨t_program_size K w A sp_function_size, ?_, h vs H Q E q⟩)
  exact (pss_one (ps_ret (pe_callB (cr_sum rfl) (by rfl) T.z_sum (by decide +kernel) (pa_cons (pe_lc (own := [("function", 1)]) (g := gName 1) rfl sc_program_size.nd (pi_list (pe_fld (pv 0) rfl)) (blkOk_by (own := [("function", 1)]) (N := N_program_size) (sc := defScope s_program_size) (by decide +kernel)) (fun _ _ _ _ _ => pg_name (i := 1) sc_program_size.nd rfl (Or.inl rfl)) (fun _ _ _ _ _ => pts_nil) (fun _ _ _ _ _ => (pe_callD O_function_size (hr.mono (by decide)) rfl (pa_cons (pv 1) pa_nil)))) pa_nil))))
/-! ### may_be_put_in (line 411) -/
abbrev s_may_be_put_in : Stmt := topS 104
abbrev N_may_be_put_in : List Str := ["program", "place"]
theorem sc_may_be_put_in : FnScope N_may_be_put_in ["program"] (defScope s_may_be_put_in) := ⟨rfl, rfl, rfl, by decide +kernel, rfl, by decide +kernel, by decide +kernel⟩
def t_may_be_put_in (K : PySem.W.Frag) (w : World) (A : Adr) (sp_all_calls sp_row_at : Sp) : TS :=
  (tRet (tLc (iList K (tCall sp_all_calls [] E0 (tCons (tVar 0) tNil))) (gName 1) (tTest (tOp rLtI (tOp (rIxT K) (tCall sp_row_at [] E0 (tCons (tVar 0) (tCons (tVar 1) tNil))) (tC (.int 2))) (tOp (rIxT K) (tVar 1) (tC (.int 0))))) (tVar 1) [1]))
theorem dv_may_be_put_in {sp : Sp} {sp_all_calls sp_row_at : Sp} (T : Top K mg A)
    (O_all_calls : DefOk P w K mg base 2 A.f_all_calls "all_calls" ["program"] sp_all_calls)
    (O_row_at : DefOk P w K mg base 1 A.f_row_at "row_at" ["program", "place"] sp_row_at) (len : ∀ vs H Q E, sp vs H Q E → vs.length = 1)
    (h : ∀ vs H Q E, sp vs H Q E → t_may_be_put_in K w A sp_all_calls sp_row_at { nx := fun _ H' => Q .non H', rt := Q } (start N_may_be_put_in vs) H) : DefOk P w K mg base 3 A.f_may_be_put_in "may_be_put_in" ["program"] sp := by
  refine T.d_may_be_put_in.ok sc_may_be_put_in len (fun cdv Ar outer s H vs Q E hr q => ⟨t_may_be_put_in K w A sp_all_calls sp_row_at, ?_, h vs H Q E q⟩)
  exact (pss_one (ps_ret (pe_lc (own := [("place", 1)]) (g := gName 1) rfl sc_may_be_put_in.nd (pi_list (pe_callD O_all_calls (hr.mono (by decide)) rfl (pa_cons (pv 0) pa_nil))) (blkOk_by (own := [("place", 1)]) (N := N_may_be_put_in) (sc := defScope s_may_be_put_in) (by decide +kernel)) (fun _ _ _ _ _ => pg_name (i := 1) sc_may_be_put_in.nd rfl (Or.inl rfl)) (fun _ _ _ _ _ => (pts_one (pt_cmpR op_lt (pe_ix ix_tup (pe_callD O_row_at (hr.mono (by decide)) rfl (pa_cons (pv 0) (pa_cons (pv 1) pa_nil))) pe_int (fun _ _ => rfl)) (pe_ix ix_tup (pv 1) pe_int (fun _ _ => rfl)) (nomark _)))) (fun _ _ _ _ _ => (pv 1)))))
/-! ### all_choices (line 413) -/
abbrev s_all_choices : Stmt := topS 105
abbrev N_all_choices : List Str := ["places", "choices", "place", "longer", "chosen"]
theorem sc_all_choices : FnScope N_all_choices ["places"] (defScope s_all_choices) := ⟨rfl, rfl, rfl, by decide +kernel, rfl, by decide +kernel, by decide +kernel⟩
def t_all_choices (K : PySem.W.Frag) (w : World) (A : Adr) : TS :=
  (tSeq (tAsg (tLst (tCons (tLst tNil) tNil)) (gName 1))
    (tSeq (tFor (iList K (tVar 0)) (gName 2) (tSeq (tAsg (tLst tNil) (gName 3))
    (tSeq (tFor (iList K (tVar 1)) (gName 4) (tSeq (tDrop (tBM K "list" rAppend (tVar 3) (tCons (tOp rCat (tVar 4) (tLst (tCons (tVar 2) tNil))) tNil)))
    (tDrop (tBM K "list" rAppend (tVar 3) (tCons (tVar 4) tNil)))))
    (tAsg (tVar 3) (gName 1)))))
    (tRet (tVar 1))))
theorem dv_all_choices {sp : Sp} (T : Top K mg A) (len : ∀ vs H Q E, sp vs H Q E → vs.length = 1)
    (h : ∀ vs H Q E, sp vs H Q E → t_all_choices K w A { nx := fun _ H' => Q .non H', rt := Q } (start N_all_choices vs) H) : DefOk P w K mg base 1 A.f_all_choices "all_choices" ["places"] sp := by
  refine T.d_all_choices.ok sc_all_choices len (fun cdv Ar outer s H vs Q E hr q => ⟨t_all_choices K w A, ?_, h vs H Q E q⟩)
  exact (pss_cons (ps_set (i := 1) sc_all_choices.nd rfl (.inl rfl) (pe_lst (pa_cons (pe_lst pa_nil) pa_nil)))
      (pss_cons (ps_for PassesOwn.never rfl (pi_list (pv 0)) (pg_name (i := 2) sc_all_choices.nd rfl (.inl rfl)) (pss_cons (ps_set (i := 3) sc_all_choices.nd rfl (.inl rfl) (pe_lst pa_nil))
      (pss_cons (ps_for PassesOwn.never rfl (pi_list (pv 1)) (pg_name (i := 4) sc_all_choices.nd rfl (.inl rfl)) (pss_cons (ps_expr (pe_bm PySem.F.plainAttrs_list PySem.F.slot_list_append PySem.F.type_list_append mt_append (pv 3) (pa_cons (pe_op op_cat (pv 4) (pe_lst (pa_cons (pv 2) pa_nil))) pa_nil)))
      (pss_one (ps_expr (pe_bm PySem.F.plainAttrs_list PySem.F.slot_list_append PySem.F.type_list_append mt_append (pv 3) (pa_cons (pv 4) pa_nil))))))
      (pss_one (ps_set (i := 1) sc_all_choices.nd rfl (.inl rfl) (pv 3))))))
      (pss_one (ps_ret (pv 1)))))
/-! ### size_with (line 422) -/
abbrev s_size_with : Stmt := topS 106
abbrev N_size_with : List Str := ["program", "own_sizes", "own_names", "places", "sizes", "names", "f", "place", "g"]
theorem sc_size_with : FnScope N_size_with ["program", "own_sizes", "own_names", "places"] (defScope s_size_with) := ⟨rfl, rfl, rfl, by decide +kernel, rfl, by decide +kernel, by decide +kernel⟩
def t_size_with (K : PySem.W.Frag) (w : World) (A : Adr) (sp_row_at : Sp) : TS :=
  (tSeq (tAsg (tLst tNil) (gName 4))
    (tSeq (tAsg (tLst tNil) (gName 5))
    (tSeq (tFor (iRng1 (tCons (tCB (rLenS K) (tCons (tVar 1) tNil)) tNil)) (gName 6) (tSeq (tDrop (tBM K "list" rAppend (tVar 4) (tCons (tOp (rIxL K) (tVar 1) (tVar 6)) tNil)))
    (tSeq (tDrop (tBM K "list" rAppend (tVar 5) (tCons (tOp (rIxL K) (tVar 2) (tVar 6)) tNil)))
    (tFor (iList K (tVar 3)) (gName 7) (tIfS (tTest (tOp rEq (tOp (rIxT K) (tVar 7) (tC (.int 0))) (tVar 6))) (tSeq (tAsg (tOp (rIxT K) (tCall sp_row_at [] E0 (tCons (tVar 0) (tCons (tVar 7) tNil))) (tC (.int 2))) (gName 8))
    (tSeq (tAugS (tVar 4) (tVar 6) (tOp rAddI (tOp rAddI (tOp (rIxL K) (tVar 4) (tVar 8)) (tOp (rIxL K) (tVar 5) (tVar 8))) (tC (.int 1))) (rIxL K) (ipI fun i j => i + j) rSetL)
    (tAugS (tVar 5) (tVar 6) (tOp (rIxL K) (tVar 5) (tVar 8)) (rIxL K) (ipI fun i j => i + j) rSetL))) tNext)))))
    (tRet (tCB (rSum K) (tCons (tVar 4) tNil))))))
theorem dv_size_with {sp : Sp} {sp_row_at : Sp} (T : Top K mg A)
    (O_row_at : DefOk P w K mg base 1 A.f_row_at "row_at" ["program", "place"] sp_row_at) (len : ∀ vs H Q E, sp vs H Q E → vs.length = 4)
    (h : ∀ vs H Q E, sp vs H Q E → t_size_with K w A sp_row_at { nx := fun _ H' => Q .non H', rt := Q } (start N_size_with vs) H) : DefOk P w K mg base 2 A.f_size_with "size_with" ["program", "own_sizes", "own_names", "places"] sp := by
  refine T.d_size_with.ok sc_size_with len (fun cdv Ar outer s H vs Q E hr q => ⟨t_size_with K w A sp_row_at, ?_, h vs H Q E q⟩)
  exact (pss_cons (ps_set (i := 4) sc_size_with.nd rfl (.inl rfl) (pe_lst pa_nil))
      (pss_cons (ps_set (i := 5) sc_size_with.nd rfl (.inl rfl) (pe_lst pa_nil))
      (pss_cons (ps_for PassesOwn.never rfl (pi_range1 (by rfl) T.z_range (pa_cons (pe_callB call_len_seq (by rfl) T.z_len PySem.boot_len (pa_cons (pv 1) pa_nil)) pa_nil)) (pg_name (i := 6) sc_size_with.nd rfl (.inl rfl)) (pss_cons (ps_expr (pe_bm PySem.F.plainAttrs_list PySem.F.slot_list_append PySem.F.type_list_append mt_append (pv 4) (pa_cons (pe_ix ix_list (pv 1) (pv 6) (fun _ _ => rfl)) pa_nil)))
      (pss_cons (ps_expr (pe_bm PySem.F.plainAttrs_list PySem.F.slot_list_append PySem.F.type_list_append mt_append (pv 5) (pa_cons (pe_ix ix_list (pv 2) (pv 6) (fun _ _ => rfl)) pa_nil)))
      (pss_one (ps_for PassesOwn.never rfl (pi_list (pv 3)) (pg_name (i := 7) sc_size_with.nd rfl (.inl rfl)) (pss_one (ps_if (pt_cmpR op_eq (pe_ix ix_tup (pv 7) pe_int (fun _ _ => rfl)) (pv 6) (nomark _)) (pss_cons (ps_set (i := 8) sc_size_with.nd rfl (.inl rfl) (pe_ix ix_tup (pe_callD O_row_at (hr.mono (by decide)) rfl (pa_cons (pv 0) (pa_cons (pv 7) pa_nil))) pe_int (fun _ _ => rfl)))
      (pss_cons (ps_augS (pv 4) (pv 6) get_list (pe_op op_add (pe_op op_add (pe_ix ix_list (pv 4) (pv 8) (fun _ _ => rfl)) (pe_ix ix_list (pv 5) (pv 8) (fun _ _ => rfl))) pe_int) ip_add set_list)
      (pss_one (ps_augS (pv 5) (pv 6) get_list (pe_ix ix_list (pv 5) (pv 8) (fun _ _ => rfl)) ip_add set_list)))) pss_nil)))))))
      (pss_one (ps_ret (pe_callB (cr_sum rfl) (by rfl) T.z_sum (by decide +kernel) (pa_cons (pv 4) pa_nil)))))))
/-! ### is_better (line 434) -/
abbrev s_is_better : Stmt := topS 107
abbrev N_is_better : List Str := ["one", "other"]
theorem sc_is_better : FnScope N_is_better ["one", "other"] (defScope s_is_better) := ⟨rfl, rfl, rfl, by decide +kernel, rfl, by decide +kernel, by decide +kernel⟩
def t_is_better (K : PySem.W.Frag) (w : World) (A : Adr) : TS :=
  (tSeq (tIfS (tTest (tOp rNe (tFld K (tVar 0) "spared") (tFld K (tVar 1) "spared"))) (tRet (tOp rGtI (tFld K (tVar 0) "spared") (tFld K (tVar 1) "spared"))) tNext)
    (tRet (tOp rLtI (tFld K (tVar 0) "size") (tFld K (tVar 1) "size"))))
theorem dv_is_better {sp : Sp} (T : Top K mg A) (len : ∀ vs H Q E, sp vs H Q E → vs.length = 2)
    (h : ∀ vs H Q E, sp vs H Q E → t_is_better K w A { nx := fun _ H' => Q .non H', rt := Q } (start N_is_better vs) H) : DefOk P w K mg base 1 A.f_is_better "is_better" ["one", "other"] sp := by
  refine T.d_is_better.ok sc_is_better len (fun cdv Ar outer s H vs Q E hr q => ⟨t_is_better K w A, ?_, h vs H Q E q⟩)
  exact (pss_cons (ps_if (pt_cmpR op_ne (pe_fld (pv 0) rfl) (pe_fld (pv 1) rfl) (nomark _)) (pss_one (ps_ret (pe_cmpR op_gt (pe_fld (pv 0) rfl) (pe_fld (pv 1) rfl) (nomark _)))) pss_nil)
      (pss_one (ps_ret (pe_cmpR op_lt (pe_fld (pv 0) rfl) (pe_fld (pv 1) rfl) (nomark _)))))
/-! ### choice_for (line 438) -/
abbrev s_choice_for : Stmt := topS 108
abbrev N_choice_for : List Str := ["program", "size", "run", "own_sizes", "own_names", "best", "places", "spared", "one", "function", "place"]
theorem sc_choice_for : FnScope N_choice_for ["program", "size", "run"] (defScope s_choice_for) := ⟨rfl, rfl, rfl, by decide +kernel, rfl, by decide +kernel, by decide +kernel⟩
def t_choice_for (K : PySem.W.Frag) (w : World) (A : Adr) (sp_function_size sp_names_of sp_Choice sp_all_choices sp_may_be_put_in sp_times_made sp_size_with sp_is_better : Sp) : TS :=
  (tSeq (tAsg (tLc (iList K (tFld K (tVar 0) "functions")) (gName 9) tYes (tCall sp_function_size [] E0 (tCons (tVar 9) tNil)) [9]) (gName 3))
    (tSeq (tAsg (tLc (iList K (tFld K (tVar 0) "functions")) (gName 9) tYes (tCB (rLenS K) (tCons (tCall sp_names_of [] E0 (tCons (tVar 9) tNil)) tNil)) [9]) (gName 4))
    (tSeq (tAsg (tMake A.C_Choice sp_Choice [] E0 (tCons (tLst tNil) (tCons (tC (.int 0)) (tCons (tCB (rSum K) (tCons (tVar 3) tNil)) tNil)))) (gName 5))
    (tSeq (tFor (iList K (tCall sp_all_choices [] E0 (tCons (tCall sp_may_be_put_in [] E0 (tCons (tVar 0) tNil)) tNil))) (gName 6) (tSeq (tAsg (tCB (rSum K) (tCons (tLc (iList K (tVar 6)) (gName 10) tYes (tCall sp_times_made [] E0 (tCons (tVar 2) (tCons (tVar 10) tNil))) [10]) tNil)) (gName 7))
    (tSeq (tAsg (tMake A.C_Choice sp_Choice [] E0 (tCons (tVar 6) (tCons (tVar 7) (tCons (tCall sp_size_with [] E0 (tCons (tVar 0) (tCons (tVar 3) (tCons (tVar 4) (tCons (tVar 6) tNil))))) tNil)))) (gName 8))
    (tIfS (tAnd (tTest (tOp rLeI (tFld K (tVar 8) "size") (tVar 1))) (tB (tCall sp_is_better [] E0 (tCons (tVar 8) (tCons (tVar 5) tNil))))) (tAsg (tVar 8) (gName 5)) tNext))))
    (tRet (tVar 5))))))
theorem dv_choice_for {sp : Sp} {sp_function_size sp_names_of sp_Choice sp_all_choices sp_may_be_put_in sp_times_made sp_size_with sp_is_better : Sp} (T : Top K mg A)
    (O_function_size : DefOk P w K mg base 1 A.f_function_size "function_size" ["function"] sp_function_size)
    (O_names_of : DefOk P w K mg base 2 A.f_names_of "names_of" ["function"] sp_names_of)
    (O_Choice : MakeOk P w K mg base 1 A.C_Choice A.f_Choice "Choice" ["self", "places", "spared", "size"] sp_Choice)
    (O_all_choices : DefOk P w K mg base 1 A.f_all_choices "all_choices" ["places"] sp_all_choices)
    (O_may_be_put_in : DefOk P w K mg base 3 A.f_may_be_put_in "may_be_put_in" ["program"] sp_may_be_put_in)
    (O_times_made : DefOk P w K mg base 1 A.f_times_made "times_made" ["run", "place"] sp_times_made)
    (O_size_with : DefOk P w K mg base 2 A.f_size_with "size_with" ["program", "own_sizes", "own_names", "places"] sp_size_with)
    (O_is_better : DefOk P w K mg base 1 A.f_is_better "is_better" ["one", "other"] sp_is_better) (len : ∀ vs H Q E, sp vs H Q E → vs.length = 3)
    (h : ∀ vs H Q E, sp vs H Q E → t_choice_for K w A sp_function_size sp_names_of sp_Choice sp_all_choices sp_may_be_put_in sp_times_made sp_size_with sp_is_better { nx := fun _ H' => Q .non H', rt := Q } (start N_choice_for vs) H) : DefOk P w K mg base 4 A.f_choice_for "choice_for" ["program", "size", "run"] sp := by
  refine T.d_choice_for.ok sc_choice_for len (fun cdv Ar outer s H vs Q E hr q => ⟨t_choice_for K w A sp_function_size sp_names_of sp_Choice sp_all_choices sp_may_be_put_in sp_times_made sp_size_with sp_is_better, ?_, h vs H Q E q⟩)
  exact (pss_cons (ps_setLc (i := 3) (own := [("function", 9)]) (g := gName 9) rfl sc_choice_for.nd rfl rfl (sw_true rfl rfl rfl (by decide +kernel)) (pi_list (pe_fld (pv 0) rfl)) (blkOk_by (own := [("function", 9)]) (N := N_choice_for) (sc := defScope s_choice_for) (by decide +kernel)) (fun _ _ _ _ _ => pg_name (i := 9) sc_choice_for.nd rfl (Or.inl rfl)) (fun _ _ _ _ _ => pts_nil) (fun _ _ _ _ _ => (pe_callD O_function_size (hr.mono (by decide)) rfl (pa_cons (pv 9) pa_nil))))
      (pss_cons (ps_setLc (i := 4) (own := [("function", 9)]) (g := gName 9) rfl sc_choice_for.nd rfl rfl (sw_true rfl rfl rfl (by decide +kernel)) (pi_list (pe_fld (pv 0) rfl)) (blkOk_by (own := [("function", 9)]) (N := N_choice_for) (sc := defScope s_choice_for) (by decide +kernel)) (fun _ _ _ _ _ => pg_name (i := 9) sc_choice_for.nd rfl (Or.inl rfl)) (fun _ _ _ _ _ => pts_nil) (fun _ _ _ _ _ => (pe_callB call_len_seq (by rfl) T.z_len PySem.boot_len (pa_cons (pe_callD O_names_of (hr.mono (by decide)) rfl (pa_cons (pv 9) pa_nil)) pa_nil))))
      (pss_cons (ps_set (i := 5) sc_choice_for.nd rfl (.inl rfl) (pe_makeD O_Choice (hr.mono (by decide)) rfl (pa_cons (pe_lst pa_nil) (pa_cons pe_int (pa_cons (pe_callB (cr_sum rfl) (by rfl) T.z_sum (by decide +kernel) (pa_cons (pv 3) pa_nil)) pa_nil)))))
      (pss_cons (ps_for PassesOwn.never rfl (pi_list (pe_callD O_all_choices (hr.mono (by decide)) rfl (pa_cons (pe_callD O_may_be_put_in (hr.mono (by decide)) rfl (pa_cons (pv 0) pa_nil)) pa_nil))) (pg_name (i := 6) sc_choice_for.nd rfl (.inl rfl)) (pss_cons (ps_set (i := 7) sc_choice_for.nd rfl (.inl rfl) (pe_callB (cr_sum rfl) (by rfl) T.z_sum (by decide +kernel) (pa_cons (pe_lc (own := [("place", 10)]) (g := gName 10) rfl sc_choice_for.nd (pi_list (pv 6)) (blkOk_by (own := [("place", 10)]) (N := N_choice_for) (sc := defScope s_choice_for) (by decide +kernel)) (fun _ _ _ _ _ => pg_name (i := 10) sc_choice_for.nd rfl (Or.inl rfl)) (fun _ _ _ _ _ => pts_nil) (fun _ _ _ _ _ => (pe_callD O_times_made (hr.mono (by decide)) rfl (pa_cons (pv 2) (pa_cons (pv 10) pa_nil))))) pa_nil)))
      (pss_cons (ps_set (i := 8) sc_choice_for.nd rfl (.inl rfl) (pe_makeD O_Choice (hr.mono (by decide)) rfl (pa_cons (pv 6) (pa_cons (pv 7) (pa_cons (pe_callD O_size_with (hr.mono (by decide)) rfl (pa_cons (pv 0) (pa_cons (pv 3) (pa_cons (pv 4) (pa_cons (pv 6) pa_nil))))) pa_nil)))))
      (pss_one (ps_if (PW.pt (pw_and (pt_cmpR op_le (pe_fld (pv 8) rfl) (pv 1) (nomark _)) (pw_and1 (pt_val (pe_callD O_is_better (hr.mono (by decide)) rfl (pa_cons (pv 8) (pa_cons (pv 5) pa_nil))))))) (pss_one (ps_set (i := 5) sc_choice_for.nd rfl (.inl rfl) (pv 8))) pss_nil)))))
      (pss_one (ps_ret (pv 5)))))))
/-! ### tell_shows (line 451) -/
abbrev s_tell_shows : Stmt := topS 112
abbrev N_tell_shows : List Str := ["program", "numbers"]
theorem sc_tell_shows : FnScope N_tell_shows ["program"] (defScope s_tell_shows) := ⟨rfl, rfl, rfl, by decide +kernel, rfl, by decide +kernel, by decide +kernel⟩
def t_tell_shows (K : PySem.W.Frag) (w : World) (A : Adr) (sp_program_in_numbers sp_unended_in_numbers : Sp) : TS :=
  (tSeq (tAsg (tCall sp_program_in_numbers [] E0 (tCons (tVar 0) tNil)) (gName 1))
    (tSeq (tIfS (tTest (tOp rIsN (tFld K (tVar 0) "unended") (tC .non))) (tRet (tOp rCat (tVar 1) (tLst (tCons (tC (.int 0)) tNil)))) tNext)
    (tRet (tOp rCat (tOp rCat (tVar 1) (tLst (tCons (tC (.int 1)) tNil))) (tCall sp_unended_in_numbers [] E0 (tCons (tFld K (tVar 0) "unended") tNil))))))
theorem dv_tell_shows {sp : Sp} {sp_program_in_numbers sp_unended_in_numbers : Sp} (T : Top K mg A)
    (O_program_in_numbers : DefOk P w K mg base 5 A.f_program_in_numbers "program_in_numbers" ["program"] sp_program_in_numbers)
    (O_unended_in_numbers : DefOk P w K mg base 3 A.f_unended_in_numbers "unended_in_numbers" ["block"] sp_unended_in_numbers) (len : ∀ vs H Q E, sp vs H Q E → vs.length = 1)
    (h : ∀ vs H Q E, sp vs H Q E → t_tell_shows K w A sp_program_in_numbers sp_unended_in_numbers { nx := fun _ H' => Q .non H', rt := Q } (start N_tell_shows vs) H) : DefOk P w K mg base 6 A.f_tell_shows "tell_shows" ["program"] sp := by
  refine T.d_tell_shows.ok sc_tell_shows len (fun cdv Ar outer s H vs Q E hr q => ⟨t_tell_shows K w A sp_program_in_numbers sp_unended_in_numbers, ?_, h vs H Q E q⟩)
  exact (pss_cons (ps_set (i := 1) sc_tell_shows.nd rfl (.inl rfl) (pe_callD O_program_in_numbers (hr.mono (by decide)) rfl (pa_cons (pv 0) pa_nil)))
      (pss_cons (ps_if (pt_cmpR op_isN (pe_fld (pv 0) rfl) pe_non (nomark _)) (pss_one (ps_ret (pe_op op_cat (pv 1) (pe_lst (pa_cons pe_int pa_nil))))) pss_nil)
      (pss_one (ps_ret (pe_op op_cat (pe_op op_cat (pv 1) (pe_lst (pa_cons pe_int pa_nil))) (pe_callD O_unended_in_numbers (hr.mono (by decide)) rfl (pa_cons (pe_fld (pv 0) rfl) pa_nil)))))))
/-! ### run_refusal (line 456) -/
abbrev s_run_refusal : Stmt := topS 113
abbrev N_run_refusal : List Str := ["program", "f", "n", "words"]
theorem sc_run_refusal : FnScope N_run_refusal ["program", "f", "n", "words"] (defScope s_run_refusal) := ⟨rfl, rfl, rfl, by decide +kernel, rfl, by decide +kernel, by decide +kernel⟩
def t_run_refusal (K : PySem.W.Frag) (w : World) (A : Adr) (sp_is_sound : Sp) : TS :=
  (tSeq (tIfS (tNot (tB (tCall sp_is_sound [] E0 (tCons (tVar 0) tNil)))) (tRet (tUn rNegI (tC (.int 6)))) tNext)
    (tSeq (tIfS (tTest (tOp rGeI (tVar 1) (tCB (rLenS K) (tCons (tFld K (tVar 0) "functions") tNil)))) (tRet (tUn rNegI (tC (.int 2)))) tNext)
    (tSeq (tIfS (tTest (tOp rGtI (tVar 2) (tC (.int 1000)))) (tRet (tUn rNegI (tC (.int 1)))) tNext)
    (tSeq (tIfS (tTest (tOp rNe (tCB (rLenS K) (tCons (tVar 3) tNil)) (tFld K (tOp (rIxL K) (tFld K (tVar 0) "functions") (tVar 1)) "handed"))) (tRet (tUn rNegI (tC (.int 5)))) tNext)
    (tRet (tC (.int 0)))))))
theorem dv_run_refusal {sp : Sp} {sp_is_sound : Sp} (T : Top K mg A)
    (O_is_sound : DefOk P w K mg base 4 A.f_is_sound "is_sound" ["program"] sp_is_sound) (len : ∀ vs H Q E, sp vs H Q E → vs.length = 4)
    (h : ∀ vs H Q E, sp vs H Q E → t_run_refusal K w A sp_is_sound { nx := fun _ H' => Q .non H', rt := Q } (start N_run_refusal vs) H) : DefOk P w K mg base 5 A.f_run_refusal "run_refusal" ["program", "f", "n", "words"] sp := by
  refine T.d_run_refusal.ok sc_run_refusal len (fun cdv Ar outer s H vs Q E hr q => ⟨t_run_refusal K w A sp_is_sound, ?_, h vs H Q E q⟩)
  exact (pss_cons (ps_if (pt_not (pt_val (pe_callD O_is_sound (hr.mono (by decide)) rfl (pa_cons (pv 0) pa_nil)))) (pss_one (ps_ret (pe_un un_neg pe_int))) pss_nil)
      (pss_cons (ps_if (pt_cmpR op_ge (pv 1) (pe_callB call_len_seq (by rfl) T.z_len PySem.boot_len (pa_cons (pe_fld (pv 0) rfl) pa_nil)) (nomark _)) (pss_one (ps_ret (pe_un un_neg pe_int))) pss_nil)
      (pss_cons (ps_if (pt_cmpR op_gt (pv 2) (pe_gi T.g_MOST_STEPS rfl) (nomark _)) (pss_one (ps_ret (pe_un un_neg pe_int))) pss_nil)
      (pss_cons (ps_if (pt_cmpR op_ne (pe_callB call_len_seq (by rfl) T.z_len PySem.boot_len (pa_cons (pv 3) pa_nil)) (pe_fld (pe_ix ix_list (pe_fld (pv 0) rfl) (pv 1) (fun _ _ => rfl)) rfl) (nomark _)) (pss_one (ps_ret (pe_un un_neg pe_int))) pss_nil)
      (pss_one (ps_ret (pe_gi T.g_NOT_REFUSED rfl)))))))
/-! ### choice_refusal (line 466) -/
abbrev s_choice_refusal : Stmt := topS 114
abbrev N_choice_refusal : List Str := ["program", "size", "f", "n", "words", "refusal"]
theorem sc_choice_refusal : FnScope N_choice_refusal ["program", "size", "f", "n", "words"] (defScope s_choice_refusal) := ⟨rfl, rfl, rfl, by decide +kernel, rfl, by decide +kernel, by decide +kernel⟩
def t_choice_refusal (K : PySem.W.Frag) (w : World) (A : Adr) (sp_run_refusal sp_program_size : Sp) : TS :=
  (tSeq (tAsg (tCall sp_run_refusal [] E0 (tCons (tVar 0) (tCons (tVar 2) (tCons (tVar 3) (tCons (tVar 4) tNil))))) (gName 5))
    (tSeq (tIfS (tTest (tOp rNe (tVar 5) (tC (.int 0)))) (tRet (tVar 5)) tNext)
    (tSeq (tIfS (tTest (tOp rGtI (tCall sp_program_size [] E0 (tCons (tVar 0) tNil)) (tVar 1))) (tRet (tUn rNegI (tC (.int 8)))) tNext)
    (tRet (tC (.int 0))))))
theorem dv_choice_refusal {sp : Sp} {sp_run_refusal sp_program_size : Sp} (T : Top K mg A)
    (O_run_refusal : DefOk P w K mg base 5 A.f_run_refusal "run_refusal" ["program", "f", "n", "words"] sp_run_refusal)
    (O_program_size : DefOk P w K mg base 2 A.f_program_size "program_size" ["program"] sp_program_size) (len : ∀ vs H Q E, sp vs H Q E → vs.length = 5)
    (h : ∀ vs H Q E, sp vs H Q E → t_choice_refusal K w A sp_run_refusal sp_program_size { nx := fun _ H' => Q .non H', rt := Q } (start N_choice_refusal vs) H) : DefOk P w K mg base 6 A.f_choice_refusal "choice_refusal" ["program", "size", "f", "n", "words"] sp := by
  refine T.d_choice_refusal.ok sc_choice_refusal len (fun cdv Ar outer s H vs Q E hr q => ⟨t_choice_refusal K w A sp_run_refusal sp_program_size, ?_, h vs H Q E q⟩)
  exact (pss_cons (ps_set (i := 5) sc_choice_refusal.nd rfl (.inl rfl) (pe_callD O_run_refusal (hr.mono (by decide)) rfl (pa_cons (pv 0) (pa_cons (pv 2) (pa_cons (pv 3) (pa_cons (pv 4) pa_nil))))))
      (pss_cons (ps_if (pt_cmpR op_ne (pv 5) (pe_gi T.g_NOT_REFUSED rfl) (nomark _)) (pss_one (ps_ret (pv 5))) pss_nil)
      (pss_cons (ps_if (pt_cmpR op_gt (pe_callD O_program_size (hr.mono (by decide)) rfl (pa_cons (pv 0) pa_nil)) (pv 1) (nomark _)) (pss_one (ps_ret (pe_un un_neg pe_int))) pss_nil)
      (pss_one (ps_ret (pe_gi T.g_NOT_REFUSED rfl))))))
/-! ### run_in_numbers (line 473) -/
abbrev s_run_in_numbers : Stmt := topS 115
abbrev N_run_in_numbers : List Str := ["run"]
theorem sc_run_in_numbers : FnScope N_run_in_numbers ["run"] (defScope s_run_in_numbers) := ⟨rfl, rfl, rfl, by decide +kernel, rfl, by decide +kernel, by decide +kernel⟩
def t_run_in_numbers (K : PySem.W.Frag) (w : World) (A : Adr) (sp_how_it_stands sp_calls_made : Sp) : TS :=
  (tRet (tOp rCat (tOp rCat (tOp rCat (tLst (tCons (tCB (rLenS K) (tCons (tFld K (tVar 0) "said") tNil)) tNil)) (tFld K (tVar 0) "said")) (tCall sp_how_it_stands [] E0 (tCons (tVar 0) tNil))) (tLst (tCons (tCall sp_calls_made [] E0 (tCons (tVar 0) tNil)) tNil))))
theorem dv_run_in_numbers {sp : Sp} {sp_how_it_stands sp_calls_made : Sp} (T : Top K mg A)
    (O_how_it_stands : DefOk P w K mg base 1 A.f_how_it_stands "how_it_stands" ["run"] sp_how_it_stands)
    (O_calls_made : DefOk P w K mg base 1 A.f_calls_made "calls_made" ["run"] sp_calls_made) (len : ∀ vs H Q E, sp vs H Q E → vs.length = 1)
    (h : ∀ vs H Q E, sp vs H Q E → t_run_in_numbers K w A sp_how_it_stands sp_calls_made { nx := fun _ H' => Q .non H', rt := Q } (start N_run_in_numbers vs) H) : DefOk P w K mg base 2 A.f_run_in_numbers "run_in_numbers" ["run"] sp := by
  refine T.d_run_in_numbers.ok sc_run_in_numbers len (fun cdv Ar outer s H vs Q E hr q => ⟨t_run_in_numbers K w A sp_how_it_stands sp_calls_made, ?_, h vs H Q E q⟩)
  exact (pss_one (ps_ret (pe_op op_cat (pe_op op_cat (pe_op op_cat (pe_lst (pa_cons (pe_callB call_len_seq (by rfl) T.z_len PySem.boot_len (pa_cons (pe_fld (pv 0) rfl) pa_nil)) pa_nil)) (pe_fld (pv 0) rfl)) (pe_callD O_how_it_stands (hr.mono (by decide)) rfl (pa_cons (pv 0) pa_nil))) (pe_lst (pa_cons (pe_callD O_calls_made (hr.mono (by decide)) rfl (pa_cons (pv 0) pa_nil)) pa_nil)))))
/-! ### tell_run (line 475) -/
abbrev s_tell_run : Stmt := topS 116
abbrev N_tell_run : List Str := ["program", "f", "n", "words", "refusal"]
theorem sc_tell_run : FnScope N_tell_run ["program", "f", "n", "words"] (defScope s_tell_run) := ⟨rfl, rfl, rfl, by decide +kernel, rfl, by decide +kernel, by decide +kernel⟩
def t_tell_run (K : PySem.W.Frag) (w : World) (A : Adr) (sp_run_refusal sp_run_in_numbers sp_run_of : Sp) : TS :=
  (tSeq (tAsg (tCall sp_run_refusal [] E0 (tCons (tVar 0) (tCons (tVar 1) (tCons (tVar 2) (tCons (tVar 3) tNil))))) (gName 4))
    (tSeq (tIfS (tTest (tOp rNe (tVar 4) (tC (.int 0)))) (tRet (tLst (tCons (tVar 4) tNil))) tNext)
    (tRet (tCall sp_run_in_numbers [] E0 (tCons (tCall sp_run_of [] E0 (tCons (tVar 0) (tCons (tVar 1) (tCons (tVar 2) (tCons (tVar 3) tNil))))) tNil)))))
theorem dv_tell_run {sp : Sp} {sp_run_refusal sp_run_in_numbers sp_run_of : Sp} (T : Top K mg A)
    (O_run_refusal : DefOk P w K mg base 5 A.f_run_refusal "run_refusal" ["program", "f", "n", "words"] sp_run_refusal)
    (O_run_in_numbers : DefOk P w K mg base 2 A.f_run_in_numbers "run_in_numbers" ["run"] sp_run_in_numbers)
    (O_run_of : DefOk P w K mg base 6 A.f_run_of "run_of" ["program", "f", "n", "words"] sp_run_of) (len : ∀ vs H Q E, sp vs H Q E → vs.length = 4)
    (h : ∀ vs H Q E, sp vs H Q E → t_tell_run K w A sp_run_refusal sp_run_in_numbers sp_run_of { nx := fun _ H' => Q .non H', rt := Q } (start N_tell_run vs) H) : DefOk P w K mg base 7 A.f_tell_run "tell_run" ["program", "f", "n", "words"] sp := by
  refine T.d_tell_run.ok sc_tell_run len (fun cdv Ar outer s H vs Q E hr q => ⟨t_tell_run K w A sp_run_refusal sp_run_in_numbers sp_run_of, ?_, h vs H Q E q⟩)
  exact (pss_cons (ps_set (i := 4) sc_tell_run.nd rfl (.inl rfl) (pe_callD O_run_refusal (hr.mono (by decide)) rfl (pa_cons (pv 0) (pa_cons (pv 1) (pa_cons (pv 2) (pa_cons (pv 3) pa_nil))))))
      (pss_cons (ps_if (pt_cmpR op_ne (pv 4) (pe_gi T.g_NOT_REFUSED rfl) (nomark _)) (pss_one (ps_ret (pe_lst (pa_cons (pv 4) pa_nil)))) pss_nil)
      (pss_one (ps_ret (pe_callD O_run_in_numbers (hr.mono (by decide)) rfl (pa_cons (pe_callD O_run_of (hr.mono (by decide)) rfl (pa_cons (pv 0) (pa_cons (pv 1) (pa_cons (pv 2) (pa_cons (pv 3) pa_nil))))) pa_nil))))))
/-! ### tell_counts (line 480) -/
abbrev s_tell_counts : Stmt := topS 117
abbrev N_tell_counts : List Str := ["program", "f", "n", "words", "refusal", "run", "places", "numbers", "place"]
theorem sc_tell_counts : FnScope N_tell_counts ["program", "f", "n", "words"] (defScope s_tell_counts) := ⟨rfl, rfl, rfl, by decide +kernel, rfl, by decide +kernel, by decide +kernel⟩
def t_tell_counts (K : PySem.W.Frag) (w : World) (A : Adr) (sp_run_refusal sp_run_of sp_all_calls sp_times_made : Sp) : TS :=
  (tSeq (tAsg (tCall sp_run_refusal [] E0 (tCons (tVar 0) (tCons (tVar 1) (tCons (tVar 2) (tCons (tVar 3) tNil))))) (gName 4))
    (tSeq (tIfS (tTest (tOp rNe (tVar 4) (tC (.int 0)))) (tRet (tLst (tCons (tVar 4) tNil))) tNext)
    (tSeq (tAsg (tCall sp_run_of [] E0 (tCons (tVar 0) (tCons (tVar 1) (tCons (tVar 2) (tCons (tVar 3) tNil))))) (gName 5))
    (tSeq (tAsg (tCall sp_all_calls [] E0 (tCons (tVar 0) tNil)) (gName 6))
    (tSeq (tAsg (tLst (tCons (tCB (rLenS K) (tCons (tVar 6) tNil)) tNil)) (gName 7))
    (tSeq (tFor (iList K (tVar 6)) (gName 8) (tSeq (tDrop (tBM K "list" (rExtendT K) (tVar 7) (tCons (tVar 8) tNil)))
    (tDrop (tBM K "list" rAppend (tVar 7) (tCons (tCall sp_times_made [] E0 (tCons (tVar 5) (tCons (tVar 8) tNil))) tNil)))))
    (tRet (tVar 7))))))))
theorem dv_tell_counts {sp : Sp} {sp_run_refusal sp_run_of sp_all_calls sp_times_made : Sp} (T : Top K mg A)
    (O_run_refusal : DefOk P w K mg base 5 A.f_run_refusal "run_refusal" ["program", "f", "n", "words"] sp_run_refusal)
    (O_run_of : DefOk P w K mg base 6 A.f_run_of "run_of" ["program", "f", "n", "words"] sp_run_of)
    (O_all_calls : DefOk P w K mg base 2 A.f_all_calls "all_calls" ["program"] sp_all_calls)
    (O_times_made : DefOk P w K mg base 1 A.f_times_made "times_made" ["run", "place"] sp_times_made) (len : ∀ vs H Q E, sp vs H Q E → vs.length = 4)
    (h : ∀ vs H Q E, sp vs H Q E → t_tell_counts K w A sp_run_refusal sp_run_of sp_all_calls sp_times_made { nx := fun _ H' => Q .non H', rt := Q } (start N_tell_counts vs) H) : DefOk P w K mg base 7 A.f_tell_counts "tell_counts" ["program", "f", "n", "words"] sp := by
  refine T.d_tell_counts.ok sc_tell_counts len (fun cdv Ar outer s H vs Q E hr q => ⟨t_tell_counts K w A sp_run_refusal sp_run_of sp_all_calls sp_times_made, ?_, h vs H Q E q⟩)
  exact (pss_cons (ps_set (i := 4) sc_tell_counts.nd rfl (.inl rfl) (pe_callD O_run_refusal (hr.mono (by decide)) rfl (pa_cons (pv 0) (pa_cons (pv 1) (pa_cons (pv 2) (pa_cons (pv 3) pa_nil))))))
      (pss_cons (ps_if (pt_cmpR op_ne (pv 4) (pe_gi T.g_NOT_REFUSED rfl) (nomark _)) (pss_one (ps_ret (pe_lst (pa_cons (pv 4) pa_nil)))) pss_nil)
      (pss_cons (ps_set (i := 5) sc_tell_counts.nd rfl (.inl rfl) (pe_callD O_run_of (hr.mono (by decide)) rfl (pa_cons (pv 0) (pa_cons (pv 1) (pa_cons (pv 2) (pa_cons (pv 3) pa_nil))))))
      (pss_cons (ps_set (i := 6) sc_tell_counts.nd rfl (.inl rfl) (pe_callD O_all_calls (hr.mono (by decide)) rfl (pa_cons (pv 0) pa_nil)))
      (pss_cons (ps_set (i := 7) sc_tell_counts.nd rfl (.inl rfl) (pe_lst (pa_cons (pe_callB call_len_seq (by rfl) T.z_len PySem.boot_len (pa_cons (pv 6) pa_nil)) pa_nil)))
      (pss_cons (ps_for PassesOwn.never rfl (pi_list (pv 6)) (pg_name (i := 8) sc_tell_counts.nd rfl (.inl rfl)) (pss_cons (ps_expr (pe_bm PySem.F.plainAttrs_list PySem.F.slot_list_extend PySem.F.type_list_extend mt_extendT (pv 7) (pa_cons (pv 8) pa_nil)))
      (pss_one (ps_expr (pe_bm PySem.F.plainAttrs_list PySem.F.slot_list_append PySem.F.type_list_append mt_append (pv 7) (pa_cons (pe_callD O_times_made (hr.mono (by decide)) rfl (pa_cons (pv 5) (pa_cons (pv 8) pa_nil))) pa_nil))))))
      (pss_one (ps_ret (pv 7)))))))))
/-! ### is_call_at (line 491) -/
abbrev s_is_call_at : Stmt := topS 118
abbrev N_is_call_at : List Str := ["program", "f", "b", "r", "rows"]
theorem sc_is_call_at : FnScope N_is_call_at ["program", "f", "b", "r"] (defScope s_is_call_at) := ⟨rfl, rfl, rfl, by decide +kernel, rfl, by decide +kernel, by decide +kernel⟩
def t_is_call_at (K : PySem.W.Frag) (w : World) (A : Adr) : TS :=
  (tSeq (tIfS (tOr (tTest (tOp rGeI (tVar 1) (tCB (rLenS K) (tCons (tFld K (tVar 0) "functions") tNil)))) (tTest (tOp rGeI (tVar 2) (tCB (rLenS K) (tCons (tFld K (tOp (rIxL K) (tFld K (tVar 0) "functions") (tVar 1)) "blocks") tNil))))) (tRet (tC (.bl false))) tNext)
    (tSeq (tAsg (tFld K (tOp (rIxL K) (tFld K (tOp (rIxL K) (tFld K (tVar 0) "functions") (tVar 1)) "blocks") (tVar 2)) "rows") (gName 4))
    (tRet (tAndV (tOp rLtI (tVar 3) (tCB (rLenS K) (tCons (tVar 4) tNil))) (tOp rEq (tOp (rIxT K) (tOp (rIxL K) (tVar 4) (tVar 3)) (tC (.int 0))) (tC (.int 4)))))))
theorem dv_is_call_at {sp : Sp} (T : Top K mg A) (len : ∀ vs H Q E, sp vs H Q E → vs.length = 4)
    (h : ∀ vs H Q E, sp vs H Q E → t_is_call_at K w A { nx := fun _ H' => Q .non H', rt := Q } (start N_is_call_at vs) H) : DefOk P w K mg base 1 A.f_is_call_at "is_call_at" ["program", "f", "b", "r"] sp := by
  refine T.d_is_call_at.ok sc_is_call_at len (fun cdv Ar outer s H vs Q E hr q => ⟨t_is_call_at K w A, ?_, h vs H Q E q⟩)
  exact (pss_cons (ps_if (PW.pt (pw_or (pt_cmpR op_ge (pv 1) (pe_callB call_len_seq (by rfl) T.z_len PySem.boot_len (pa_cons (pe_fld (pv 0) rfl) pa_nil)) (nomark _)) (pw_or1 (pt_cmpR op_ge (pv 2) (pe_callB call_len_seq (by rfl) T.z_len PySem.boot_len (pa_cons (pe_fld (pe_ix ix_list (pe_fld (pv 0) rfl) (pv 1) (fun _ _ => rfl)) rfl) pa_nil)) (nomark _))))) (pss_one (ps_ret pe_bl)) pss_nil)
      (pss_cons (ps_set (i := 4) sc_is_call_at.nd rfl (.inl rfl) (pe_fld (pe_ix ix_list (pe_fld (pe_ix ix_list (pe_fld (pv 0) rfl) (pv 1) (fun _ _ => rfl)) rfl) (pv 2) (fun _ _ => rfl)) rfl))
      (pss_one (ps_ret (pe_and (pe_cmpR op_lt (pv 3) (pe_callB call_len_seq (by rfl) T.z_len PySem.boot_len (pa_cons (pv 4) pa_nil)) (nomark _)) (pe_one (pe_cmpR op_eq (pe_ix ix_tup (pe_ix ix_list (pv 4) (pv 3) (fun _ _ => rfl)) pe_int (fun _ _ => rfl)) (pe_gi T.g_ROW_CALL rfl) (nomark _))))))))
/-! ### tell_putin (line 496) -/
abbrev s_tell_putin : Stmt := topS 119
abbrev N_tell_putin : List Str := ["program", "f", "b", "r"]
theorem sc_tell_putin : FnScope N_tell_putin ["program", "f", "b", "r"] (defScope s_tell_putin) := ⟨rfl, rfl, rfl, by decide +kernel, rfl, by decide +kernel, by decide +kernel⟩
def t_tell_putin (K : PySem.W.Frag) (w : World) (A : Adr) (sp_is_sound sp_is_call_at sp_function_in_numbers sp_put_in : Sp) : TS :=
  (tSeq (tIfS (tNot (tB (tCall sp_is_sound [] E0 (tCons (tVar 0) tNil)))) (tRet (tLst (tCons (tUn rNegI (tC (.int 6))) tNil))) tNext)
    (tSeq (tIfS (tNot (tB (tCall sp_is_call_at [] E0 (tCons (tVar 0) (tCons (tVar 1) (tCons (tVar 2) (tCons (tVar 3) tNil))))))) (tRet (tLst (tCons (tUn rNegI (tC (.int 2))) tNil))) tNext)
    (tRet (tCall sp_function_in_numbers [] E0 (tCons (tCall sp_put_in [] E0 (tCons (tOp (rIxL K) (tFld K (tVar 0) "functions") (tVar 1)) (tCons (tFld K (tVar 0) "functions") (tCons (tVar 2) (tCons (tVar 3) tNil))))) tNil)))))
theorem dv_tell_putin {sp : Sp} {sp_is_sound sp_is_call_at sp_function_in_numbers sp_put_in : Sp} (T : Top K mg A)
    (O_is_sound : DefOk P w K mg base 4 A.f_is_sound "is_sound" ["program"] sp_is_sound)
    (O_is_call_at : DefOk P w K mg base 1 A.f_is_call_at "is_call_at" ["program", "f", "b", "r"] sp_is_call_at)
    (O_function_in_numbers : DefOk P w K mg base 4 A.f_function_in_numbers "function_in_numbers" ["function"] sp_function_in_numbers)
    (O_put_in : DefOk P w K mg base 5 A.f_put_in "put_in" ["function", "functions", "b", "r"] sp_put_in) (len : ∀ vs H Q E, sp vs H Q E → vs.length = 4)
    (h : ∀ vs H Q E, sp vs H Q E → t_tell_putin K w A sp_is_sound sp_is_call_at sp_function_in_numbers sp_put_in { nx := fun _ H' => Q .non H', rt := Q } (start N_tell_putin vs) H) : DefOk P w K mg base 6 A.f_tell_putin "tell_putin" ["program", "f", "b", "r"] sp := by
  refine T.d_tell_putin.ok sc_tell_putin len (fun cdv Ar outer s H vs Q E hr q => ⟨t_tell_putin K w A sp_is_sound sp_is_call_at sp_function_in_numbers sp_put_in, ?_, h vs H Q E q⟩)
  exact (pss_cons (ps_if (pt_not (pt_val (pe_callD O_is_sound (hr.mono (by decide)) rfl (pa_cons (pv 0) pa_nil)))) (pss_one (ps_ret (pe_lst (pa_cons (pe_un un_neg pe_int) pa_nil)))) pss_nil)
      (pss_cons (ps_if (pt_not (pt_val (pe_callD O_is_call_at (hr.mono (by decide)) rfl (pa_cons (pv 0) (pa_cons (pv 1) (pa_cons (pv 2) (pa_cons (pv 3) pa_nil))))))) (pss_one (ps_ret (pe_lst (pa_cons (pe_un un_neg pe_int) pa_nil)))) pss_nil)
      (pss_one (ps_ret (pe_callD O_function_in_numbers (hr.mono (by decide)) rfl (pa_cons (pe_callD O_put_in (hr.mono (by decide)) rfl (pa_cons (pe_ix ix_list (pe_fld (pv 0) rfl) (pv 1) (fun _ _ => rfl)) (pa_cons (pe_fld (pv 0) rfl) (pa_cons (pv 2) (pa_cons (pv 3) pa_nil))))) pa_nil))))))
/-! ### tell_choose (line 502) -/
abbrev s_tell_choose : Stmt := topS 120
abbrev N_tell_choose : List Str := ["program", "size", "f", "n", "words", "refusal", "choice", "numbers", "place"]
theorem sc_tell_choose : FnScope N_tell_choose ["program", "size", "f", "n", "words"] (defScope s_tell_choose) := ⟨rfl, rfl, rfl, by decide +kernel, rfl, by decide +kernel, by decide +kernel⟩
def t_tell_choose (K : PySem.W.Frag) (w : World) (A : Adr) (sp_choice_refusal sp_choice_for sp_run_of : Sp) : TS :=
  (tSeq (tAsg (tCall sp_choice_refusal [] E0 (tCons (tVar 0) (tCons (tVar 1) (tCons (tVar 2) (tCons (tVar 3) (tCons (tVar 4) tNil)))))) (gName 5))
    (tSeq (tIfS (tTest (tOp rNe (tVar 5) (tC (.int 0)))) (tRet (tLst (tCons (tVar 5) tNil))) tNext)
    (tSeq (tAsg (tCall sp_choice_for [] E0 (tCons (tVar 0) (tCons (tVar 1) (tCons (tCall sp_run_of [] E0 (tCons (tVar 0) (tCons (tVar 2) (tCons (tVar 3) (tCons (tVar 4) tNil))))) tNil)))) (gName 6))
    (tSeq (tAsg (tLst (tCons (tFld K (tVar 6) "spared") (tCons (tFld K (tVar 6) "size") (tCons (tCB (rLenS K) (tCons (tFld K (tVar 6) "places") tNil)) tNil)))) (gName 7))
    (tSeq (tFor (iList K (tFld K (tVar 6) "places")) (gName 8) (tDrop (tBM K "list" (rExtendT K) (tVar 7) (tCons (tVar 8) tNil))))
    (tRet (tVar 7)))))))
theorem dv_tell_choose {sp : Sp} {sp_choice_refusal sp_choice_for sp_run_of : Sp} (T : Top K mg A)
    (O_choice_refusal : DefOk P w K mg base 6 A.f_choice_refusal "choice_refusal" ["program", "size", "f", "n", "words"] sp_choice_refusal)
    (O_choice_for : DefOk P w K mg base 4 A.f_choice_for "choice_for" ["program", "size", "run"] sp_choice_for)
    (O_run_of : DefOk P w K mg base 6 A.f_run_of "run_of" ["program", "f", "n", "words"] sp_run_of) (len : ∀ vs H Q E, sp vs H Q E → vs.length = 5)
    (h : ∀ vs H Q E, sp vs H Q E → t_tell_choose K w A sp_choice_refusal sp_choice_for sp_run_of { nx := fun _ H' => Q .non H', rt := Q } (start N_tell_choose vs) H) : DefOk P w K mg base 7 A.f_tell_choose "tell_choose" ["program", "size", "f", "n", "words"] sp := by
  refine T.d_tell_choose.ok sc_tell_choose len (fun cdv Ar outer s H vs Q E hr q => ⟨t_tell_choose K w A sp_choice_refusal sp_choice_for sp_run_of, ?_, h vs H Q E q⟩)
  exact (pss_cons (ps_set (i := 5) sc_tell_choose.nd rfl (.inl rfl) (pe_callD O_choice_refusal (hr.mono (by decide)) rfl (pa_cons (pv 0) (pa_cons (pv 1) (pa_cons (pv 2) (pa_cons (pv 3) (pa_cons (pv 4) pa_nil)))))))
      (pss_cons (ps_if (pt_cmpR op_ne (pv 5) (pe_gi T.g_NOT_REFUSED rfl) (nomark _)) (pss_one (ps_ret (pe_lst (pa_cons (pv 5) pa_nil)))) pss_nil)
      (pss_cons (ps_set (i := 6) sc_tell_choose.nd rfl (.inl rfl) (pe_callD O_choice_for (hr.mono (by decide)) rfl (pa_cons (pv 0) (pa_cons (pv 1) (pa_cons (pe_callD O_run_of (hr.mono (by decide)) rfl (pa_cons (pv 0) (pa_cons (pv 2) (pa_cons (pv 3) (pa_cons (pv 4) pa_nil))))) pa_nil)))))
      (pss_cons (ps_set (i := 7) sc_tell_choose.nd rfl (.inl rfl) (pe_lst (pa_cons (pe_fld (pv 6) rfl) (pa_cons (pe_fld (pv 6) rfl) (pa_cons (pe_callB call_len_seq (by rfl) T.z_len PySem.boot_len (pa_cons (pe_fld (pv 6) rfl) pa_nil)) pa_nil)))))
      (pss_cons (ps_for PassesOwn.never rfl (pi_list (pe_fld (pv 6) rfl)) (pg_name (i := 8) sc_tell_choose.nd rfl (.inl rfl)) (pss_one (ps_expr (pe_bm PySem.F.plainAttrs_list PySem.F.slot_list_extend PySem.F.type_list_extend mt_extendT (pv 7) (pa_cons (pv 8) pa_nil)))))
      (pss_one (ps_ret (pv 7))))))))
/-! ### with_choice (line 511) -/
abbrev s_with_choice : Stmt := topS 121
abbrev N_with_choice : List Str := ["program", "size", "f", "n", "words", "choice"]
theorem sc_with_choice : FnScope N_with_choice ["program", "size", "f", "n", "words"] (defScope s_with_choice) := ⟨rfl, rfl, rfl, by decide +kernel, rfl, by decide +kernel, by decide +kernel⟩
def t_with_choice (K : PySem.W.Frag) (w : World) (A : Adr) (sp_choice_for sp_run_of sp_with_put_in : Sp) : TS :=
  (tSeq (tAsg (tCall sp_choice_for [] E0 (tCons (tVar 0) (tCons (tVar 1) (tCons (tCall sp_run_of [] E0 (tCons (tVar 0) (tCons (tVar 2) (tCons (tVar 3) (tCons (tVar 4) tNil))))) tNil)))) (gName 5))
    (tRet (tCall sp_with_put_in [] E0 (tCons (tVar 0) (tCons (tFld K (tVar 5) "places") tNil)))))
theorem dv_with_choice {sp : Sp} {sp_choice_for sp_run_of sp_with_put_in : Sp} (T : Top K mg A)
    (O_choice_for : DefOk P w K mg base 4 A.f_choice_for "choice_for" ["program", "size", "run"] sp_choice_for)
    (O_run_of : DefOk P w K mg base 6 A.f_run_of "run_of" ["program", "f", "n", "words"] sp_run_of)
    (O_with_put_in : DefOk P w K mg base 6 A.f_with_put_in "with_put_in" ["program", "places"] sp_with_put_in) (len : ∀ vs H Q E, sp vs H Q E → vs.length = 5)
    (h : ∀ vs H Q E, sp vs H Q E → t_with_choice K w A sp_choice_for sp_run_of sp_with_put_in { nx := fun _ H' => Q .non H', rt := Q } (start N_with_choice vs) H) : DefOk P w K mg base 7 A.f_with_choice "with_choice" ["program", "size", "f", "n", "words"] sp := by
  refine T.d_with_choice.ok sc_with_choice len (fun cdv Ar outer s H vs Q E hr q => ⟨t_with_choice K w A sp_choice_for sp_run_of sp_with_put_in, ?_, h vs H Q E q⟩)
  exact (pss_cons (ps_set (i := 5) sc_with_choice.nd rfl (.inl rfl) (pe_callD O_choice_for (hr.mono (by decide)) rfl (pa_cons (pv 0) (pa_cons (pv 1) (pa_cons (pe_callD O_run_of (hr.mono (by decide)) rfl (pa_cons (pv 0) (pa_cons (pv 2) (pa_cons (pv 3) (pa_cons (pv 4) pa_nil))))) pa_nil)))))
      (pss_one (ps_ret (pe_callD O_with_put_in (hr.mono (by decide)) rfl (pa_cons (pv 0) (pa_cons (pe_fld (pv 5) rfl) pa_nil))))))
/-! ### tell_runchosen (line 514) -/
abbrev s_tell_runchosen : Stmt := topS 122
abbrev N_tell_runchosen : List Str := ["program", "size", "f", "n", "words", "refusal"]
theorem sc_tell_runchosen : FnScope N_tell_runchosen ["program", "size", "f", "n", "words"] (defScope s_tell_runchosen) := ⟨rfl, rfl, rfl, by decide +kernel, rfl, by decide +kernel, by decide +kernel⟩
def t_tell_runchosen (K : PySem.W.Frag) (w : World) (A : Adr) (sp_choice_refusal sp_run_in_numbers sp_run_of sp_with_choice : Sp) : TS :=
  (tSeq (tAsg (tCall sp_choice_refusal [] E0 (tCons (tVar 0) (tCons (tVar 1) (tCons (tVar 2) (tCons (tVar 3) (tCons (tVar 4) tNil)))))) (gName 5))
    (tSeq (tIfS (tTest (tOp rNe (tVar 5) (tC (.int 0)))) (tRet (tLst (tCons (tVar 5) tNil))) tNext)
    (tRet (tCall sp_run_in_numbers [] E0 (tCons (tCall sp_run_of [] E0 (tCons (tCall sp_with_choice [] E0 (tCons (tVar 0) (tCons (tVar 1) (tCons (tVar 2) (tCons (tVar 3) (tCons (tVar 4) tNil)))))) (tCons (tVar 2) (tCons (tVar 3) (tCons (tVar 4) tNil))))) tNil)))))
theorem dv_tell_runchosen {sp : Sp} {sp_choice_refusal sp_run_in_numbers sp_run_of sp_with_choice : Sp} (T : Top K mg A)
    (O_choice_refusal : DefOk P w K mg base 6 A.f_choice_refusal "choice_refusal" ["program", "size", "f", "n", "words"] sp_choice_refusal)
    (O_run_in_numbers : DefOk P w K mg base 2 A.f_run_in_numbers "run_in_numbers" ["run"] sp_run_in_numbers)
    (O_run_of : DefOk P w K mg base 6 A.f_run_of "run_of" ["program", "f", "n", "words"] sp_run_of)
    (O_with_choice : DefOk P w K mg base 7 A.f_with_choice "with_choice" ["program", "size", "f", "n", "words"] sp_with_choice) (len : ∀ vs H Q E, sp vs H Q E → vs.length = 5)
    (h : ∀ vs H Q E, sp vs H Q E → t_tell_runchosen K w A sp_choice_refusal sp_run_in_numbers sp_run_of sp_with_choice { nx := fun _ H' => Q .non H', rt := Q } (start N_tell_runchosen vs) H) : DefOk P w K mg base 8 A.f_tell_runchosen "tell_runchosen" ["program", "size", "f", "n", "words"] sp := by
  refine T.d_tell_runchosen.ok sc_tell_runchosen len (fun cdv Ar outer s H vs Q E hr q => ⟨t_tell_runchosen K w A sp_choice_refusal sp_run_in_numbers sp_run_of sp_with_choice, ?_, h vs H Q E q⟩)
  exact (pss_cons (ps_set (i := 5) sc_tell_runchosen.nd rfl (.inl rfl) (pe_callD O_choice_refusal (hr.mono (by decide)) rfl (pa_cons (pv 0) (pa_cons (pv 1) (pa_cons (pv 2) (pa_cons (pv 3) (pa_cons (pv 4) pa_nil)))))))
      (pss_cons (ps_if (pt_cmpR op_ne (pv 5) (pe_gi T.g_NOT_REFUSED rfl) (nomark _)) (pss_one (ps_ret (pe_lst (pa_cons (pv 5) pa_nil)))) pss_nil)
      (pss_one (ps_ret (pe_callD O_run_in_numbers (hr.mono (by decide)) rfl (pa_cons (pe_callD O_run_of (hr.mono (by decide)) rfl (pa_cons (pe_callD O_with_choice (hr.mono (by decide)) rfl (pa_cons (pv 0) (pa_cons (pv 1) (pa_cons (pv 2) (pa_cons (pv 3) (pa_cons (pv 4) pa_nil)))))) (pa_cons (pv 2) (pa_cons (pv 3) (pa_cons (pv 4) pa_nil))))) pa_nil))))))
/-! ### tell_whole (line 519) -/
abbrev s_tell_whole : Stmt := topS 123
abbrev N_tell_whole : List Str := ["program", "size", "f", "n", "words", "refusal"]
theorem sc_tell_whole : FnScope N_tell_whole ["program", "size", "f", "n", "words"] (defScope s_tell_whole) := ⟨rfl, rfl, rfl, by decide +kernel, rfl, by decide +kernel, by decide +kernel⟩
def t_tell_whole (K : PySem.W.Frag) (w : World) (A : Adr) (sp_choice_refusal sp_program_in_numbers sp_with_choice : Sp) : TS :=
  (tSeq (tAsg (tCall sp_choice_refusal [] E0 (tCons (tVar 0) (tCons (tVar 1) (tCons (tVar 2) (tCons (tVar 3) (tCons (tVar 4) tNil)))))) (gName 5))
    (tSeq (tIfS (tTest (tOp rNe (tVar 5) (tC (.int 0)))) (tRet (tLst (tCons (tVar 5) tNil))) tNext)
    (tRet (tCall sp_program_in_numbers [] E0 (tCons (tCall sp_with_choice [] E0 (tCons (tVar 0) (tCons (tVar 1) (tCons (tVar 2) (tCons (tVar 3) (tCons (tVar 4) tNil)))))) tNil)))))
theorem dv_tell_whole {sp : Sp} {sp_choice_refusal sp_program_in_numbers sp_with_choice : Sp} (T : Top K mg A)
    (O_choice_refusal : DefOk P w K mg base 6 A.f_choice_refusal "choice_refusal" ["program", "size", "f", "n", "words"] sp_choice_refusal)
    (O_program_in_numbers : DefOk P w K mg base 5 A.f_program_in_numbers "program_in_numbers" ["program"] sp_program_in_numbers)
    (O_with_choice : DefOk P w K mg base 7 A.f_with_choice "with_choice" ["program", "size", "f", "n", "words"] sp_with_choice) (len : ∀ vs H Q E, sp vs H Q E → vs.length = 5)
    (h : ∀ vs H Q E, sp vs H Q E → t_tell_whole K w A sp_choice_refusal sp_program_in_numbers sp_with_choice { nx := fun _ H' => Q .non H', rt := Q } (start N_tell_whole vs) H) : DefOk P w K mg base 8 A.f_tell_whole "tell_whole" ["program", "size", "f", "n", "words"] sp := by
  refine T.d_tell_whole.ok sc_tell_whole len (fun cdv Ar outer s H vs Q E hr q => ⟨t_tell_whole K w A sp_choice_refusal sp_program_in_numbers sp_with_choice, ?_, h vs H Q E q⟩)
  exact (pss_cons (ps_set (i := 5) sc_tell_whole.nd rfl (.inl rfl) (pe_callD O_choice_refusal (hr.mono (by decide)) rfl (pa_cons (pv 0) (pa_cons (pv 1) (pa_cons (pv 2) (pa_cons (pv 3) (pa_cons (pv 4) pa_nil)))))))
      (pss_cons (ps_if (pt_cmpR op_ne (pv 5) (pe_gi T.g_NOT_REFUSED rfl) (nomark _)) (pss_one (ps_ret (pe_lst (pa_cons (pv 5) pa_nil)))) pss_nil)
      (pss_one (ps_ret (pe_callD O_program_in_numbers (hr.mono (by decide)) rfl (pa_cons (pe_callD O_with_choice (hr.mono (by decide)) rfl (pa_cons (pv 0) (pa_cons (pv 1) (pa_cons (pv 2) (pa_cons (pv 3) (pa_cons (pv 4) pa_nil)))))) pa_nil))))))
/-! ### split_calls (line 542) -/
abbrev s_split_calls : Stmt := topS 142
abbrev N_split_calls : List Str := ["calls", "parts", "at", "kind", "behind", "numbers", "listed", "first"]
theorem sc_split_calls : FnScope N_split_calls ["calls"] (defScope s_split_calls) := ⟨rfl, rfl, rfl, by decide +kernel, rfl, by decide +kernel, by decide +kernel⟩
def t_split_calls (K : PySem.W.Frag) (w : World) (A : Adr) : TS :=
  (tSeq (tAsg (tLst tNil) (gName 1)) (tSeq (tAsg (tC (.int 0)) (gName 2)) (tSeq (tWhile (tTest (tOp rLtI (tVar 2) (tCB (rLenS K) (tCons (tVar 0) tNil)))) (tSeq (tAsg (tOp (rIxL K) (tVar 0) (tVar 2)) (gName 3))
    (tSeq (tAsg (tOp rAddI (tOp rAddI (tVar 2) (tC (.int 1))) (tOp (rIxT K) (tC (.ref A.c_WHOLE_NUMBERS)) (tVar 3))) (gName 4))
    (tSeq (tAsg (tSl (rSlL K) (tVar 0) (tPart (tOp rAddI (tVar 2) (tC (.int 1)))) (tPart (tVar 4))) (gName 5))
    (tSeq (tAsg (tLst tNil) (gName 6))
    (tSeq (tIfS (tB (tOp (rIxT K) (tC (.ref A.c_HAS_LIST)) (tVar 3))) (tSeq (tAsg (tOp rAddI (tVar 4) (tC (.int 1))) (gName 7))
    (tSeq (tAsg (tOp rAddI (tVar 7) (tOp (rIxL K) (tVar 0) (tVar 4))) (gName 4))
    (tAsg (tSl (rSlL K) (tVar 0) (tPart (tVar 7)) (tPart (tVar 4))) (gName 6)))) tNext)
    (tSeq (tDrop (tBM K "list" rAppend (tVar 1) (tCons (tTup (tCons (tVar 3) (tCons (tVar 5) (tCons (tVar 6) tNil)))) tNil)))
    (tAsg (tVar 4) (gName 2)))))))))
    (tRet (tVar 1)))))
theorem dv_split_calls {sp : Sp} (T : Top K mg A) (len : ∀ vs H Q E, sp vs H Q E → vs.length = 1)
    (h : ∀ vs H Q E, sp vs H Q E → t_split_calls K w A { nx := fun _ H' => Q .non H', rt := Q } (start N_split_calls vs) H) : DefOk P w K mg base 1 A.f_split_calls "split_calls" ["calls"] sp := by
  refine T.d_split_calls.ok sc_split_calls len (fun cdv Ar outer s H vs Q E hr q => ⟨t_split_calls K w A, ?_, h vs H Q E q⟩)
  exact (pss_cons (ps_set (i := 1) sc_split_calls.nd rfl (.inl rfl) (pe_lst pa_nil))
      (pss_cons (ps_set (i := 2) sc_split_calls.nd rfl (.inl rfl) pe_int)
      (pss_cons (ps_while PassesOwn.never (pt_cmpR op_lt (pv 2) (pe_callB call_len_seq (by rfl) T.z_len PySem.boot_len (pa_cons (pv 0) pa_nil)) (nomark _)) (pss_cons (ps_set (i := 3) sc_split_calls.nd rfl (.inl rfl) (pe_ix ix_list (pv 0) (pv 2) (fun _ _ => rfl)))
      (pss_cons (ps_set (i := 4) sc_split_calls.nd rfl (.inl rfl) (pe_op op_add (pe_op op_add (pv 2) pe_int) (pe_ix ix_tup (pe_glob rfl T.g_WHOLE_NUMBERS rfl) (pv 3) (fun _ _ => rfl))))
      (pss_cons (ps_set (i := 5) sc_split_calls.nd rfl (.inl rfl) (pe_slice sl_list (pv 0) (po_some (pe_op op_add (pv 2) pe_int)) (po_some (pv 4))))
      (pss_cons (ps_set (i := 6) sc_split_calls.nd rfl (.inl rfl) (pe_lst pa_nil))
      (pss_cons (ps_if (pt_val (pe_ix ix_tup (pe_glob rfl T.g_HAS_LIST rfl) (pv 3) (fun _ _ => rfl))) (pss_cons (ps_set (i := 7) sc_split_calls.nd rfl (.inl rfl) (pe_op op_add (pv 4) pe_int))
      (pss_cons (ps_set (i := 4) sc_split_calls.nd rfl (.inl rfl) (pe_op op_add (pv 7) (pe_ix ix_list (pv 0) (pv 4) (fun _ _ => rfl))))
      (pss_one (ps_set (i := 6) sc_split_calls.nd rfl (.inl rfl) (pe_slice sl_list (pv 0) (po_some (pv 7)) (po_some (pv 4))))))) pss_nil)
      (pss_cons (ps_expr (pe_bm PySem.F.plainAttrs_list PySem.F.slot_list_append PySem.F.type_list_append mt_append (pv 1) (pa_cons (pe_tup (pa_cons (pv 3) (pa_cons (pv 5) (pa_cons (pv 6) pa_nil)))) pa_nil)))
      (pss_one (ps_set (i := 2) sc_split_calls.nd rfl (.inl rfl) (pv 4))))))))))
      (pss_one (ps_ret (pv 1))))))
/-! ### build (line 557) -/
abbrev s_build : Stmt := topS 143
abbrev N_build : List Str := ["program", "kind", "numbers", "listed"]
theorem sc_build : FnScope N_build ["program", "kind", "numbers", "listed"] (defScope s_build) := ⟨rfl, rfl, rfl, by decide +kernel, rfl, by decide +kernel, by decide +kernel⟩
def t_build (K : PySem.W.Frag) (w : World) (A : Adr) (sp_add_function sp_add_block sp_add_num sp_add_two sp_add_say sp_add_call sp_add_jump sp_add_fork sp_add_give : Sp) : TS :=
  (tSeq (tIfS (tTest (tOp rEq (tVar 1) (tC (.int 0)))) (tRet (tCall sp_add_function [] E0 (tCons (tVar 0) (tCons (tOp (rIxL K) (tVar 2) (tC (.int 0))) tNil)))) tNext)
    (tSeq (tIfS (tTest (tOp rEq (tVar 1) (tC (.int 1)))) (tRet (tCall sp_add_block [] E0 (tCons (tVar 0) (tCons (tVar 3) tNil)))) tNext)
    (tSeq (tIfS (tTest (tOp rEq (tVar 1) (tC (.int 2)))) (tRet (tCall sp_add_num [] E0 (tCons (tVar 0) (tCons (tOp (rIxL K) (tVar 2) (tC (.int 0))) (tCons (tOp (rIxL K) (tVar 2) (tC (.int 1))) tNil))))) tNext)
    (tSeq (tIfS (tTest (tOp rEq (tVar 1) (tC (.int 3)))) (tRet (tCall sp_add_two [] E0 (tCons (tVar 0) (tCons (tOp (rIxL K) (tVar 2) (tC (.int 0))) (tCons (tOp (rIxL K) (tVar 2) (tC (.int 1))) (tCons (tOp (rIxL K) (tVar 2) (tC (.int 2))) (tCons (tOp (rIxL K) (tVar 2) (tC (.int 3))) tNil))))))) tNext)
    (tSeq (tIfS (tTest (tOp rEq (tVar 1) (tC (.int 4)))) (tRet (tCall sp_add_say [] E0 (tCons (tVar 0) (tCons (tOp (rIxL K) (tVar 2) (tC (.int 0))) tNil)))) tNext)
    (tSeq (tIfS (tTest (tOp rEq (tVar 1) (tC (.int 5)))) (tRet (tCall sp_add_call [] E0 (tCons (tVar 0) (tCons (tOp (rIxL K) (tVar 2) (tC (.int 0))) (tCons (tOp (rIxL K) (tVar 2) (tC (.int 1))) (tCons (tVar 3) tNil)))))) tNext)
    (tSeq (tIfS (tTest (tOp rEq (tVar 1) (tC (.int 6)))) (tRet (tCall sp_add_jump [] E0 (tCons (tVar 0) (tCons (tOp (rIxL K) (tVar 2) (tC (.int 0))) (tCons (tVar 3) tNil))))) tNext)
    (tSeq (tIfS (tTest (tOp rEq (tVar 1) (tC (.int 7)))) (tRet (tCall sp_add_fork [] E0 (tCons (tVar 0) (tCons (tOp (rIxL K) (tVar 2) (tC (.int 0))) (tCons (tOp (rIxL K) (tVar 2) (tC (.int 1))) (tCons (tOp (rIxL K) (tVar 2) (tC (.int 2))) (tCons (tOp (rIxL K) (tVar 2) (tC (.int 3))) (tCons (tVar 3) tNil)))))))) tNext)
    (tRet (tCall sp_add_give [] E0 (tCons (tVar 0) (tCons (tOp (rIxL K) (tVar 2) (tC (.int 0))) tNil))))))))))))
theorem dv_build {sp : Sp} {sp_add_function sp_add_block sp_add_num sp_add_two sp_add_say sp_add_call sp_add_jump sp_add_fork sp_add_give : Sp} (T : Top K mg A)
    (O_add_function : DefOk P w K mg base 3 A.f_add_function "add_function" ["program", "k"] sp_add_function)
    (O_add_block : DefOk P w K mg base 3 A.f_add_block "add_block" ["program", "taken"] sp_add_block)
    (O_add_num : DefOk P w K mg base 3 A.f_add_num "add_num" ["program", "x", "n"] sp_add_num)
    (O_add_two : DefOk P w K mg base 3 A.f_add_two "add_two" ["program", "x", "o", "a", "b"] sp_add_two)
    (O_add_say : DefOk P w K mg base 3 A.f_add_say "add_say" ["program", "a"] sp_add_say)
    (O_add_call : DefOk P w K mg base 4 A.f_add_call "add_call" ["program", "x", "g", "handed"] sp_add_call)
    (O_add_jump : DefOk P w K mg base 2 A.f_add_jump "add_jump" ["program", "t", "handed"] sp_add_jump)
    (O_add_fork : DefOk P w K mg base 2 A.f_add_fork "add_fork" ["program", "v", "t", "u", "n", "handed"] sp_add_fork)
    (O_add_give : DefOk P w K mg base 2 A.f_add_give "add_give" ["program", "v"] sp_add_give) (len : ∀ vs H Q E, sp vs H Q E → vs.length = 4)
    (h : ∀ vs H Q E, sp vs H Q E → t_build K w A sp_add_function sp_add_block sp_add_num sp_add_two sp_add_say sp_add_call sp_add_jump sp_add_fork sp_add_give { nx := fun _ H' => Q .non H', rt := Q } (start N_build vs) H) : DefOk P w K mg base 5 A.f_build "build" ["program", "kind", "numbers", "listed"] sp := by
  refine T.d_build.ok sc_build len (fun cdv Ar outer s H vs Q E hr q => ⟨t_build K w A sp_add_function sp_add_block sp_add_num sp_add_two sp_add_say sp_add_call sp_add_jump sp_add_fork sp_add_give, ?_, h vs H Q E q⟩)
  exact (pss_cons (ps_if (pt_cmpR op_eq (pv 1) (pe_gi T.g_FUNCTION rfl) (nomark _)) (pss_one (ps_ret (pe_callD O_add_function (hr.mono (by decide)) rfl (pa_cons (pv 0) (pa_cons (pe_ix ix_list (pv 2) pe_int (fun _ _ => rfl)) pa_nil))))) pss_nil)
      (pss_cons (ps_if (pt_cmpR op_eq (pv 1) (pe_gi T.g_BLOCK rfl) (nomark _)) (pss_one (ps_ret (pe_callD O_add_block (hr.mono (by decide)) rfl (pa_cons (pv 0) (pa_cons (pv 3) pa_nil))))) pss_nil)
      (pss_cons (ps_if (pt_cmpR op_eq (pv 1) (pe_gi T.g_NUM rfl) (nomark _)) (pss_one (ps_ret (pe_callD O_add_num (hr.mono (by decide)) rfl (pa_cons (pv 0) (pa_cons (pe_ix ix_list (pv 2) pe_int (fun _ _ => rfl)) (pa_cons (pe_ix ix_list (pv 2) pe_int (fun _ _ => rfl)) pa_nil)))))) pss_nil)
      (pss_cons (ps_if (pt_cmpR op_eq (pv 1) (pe_gi T.g_TWO rfl) (nomark _)) (pss_one (ps_ret (pe_callD O_add_two (hr.mono (by decide)) rfl (pa_cons (pv 0) (pa_cons (pe_ix ix_list (pv 2) pe_int (fun _ _ => rfl)) (pa_cons (pe_ix ix_list (pv 2) pe_int (fun _ _ => rfl)) (pa_cons (pe_ix ix_list (pv 2) pe_int (fun _ _ => rfl)) (pa_cons (pe_ix ix_list (pv 2) pe_int (fun _ _ => rfl)) pa_nil)))))))) pss_nil)
      (pss_cons (ps_if (pt_cmpR op_eq (pv 1) (pe_gi T.g_SAY rfl) (nomark _)) (pss_one (ps_ret (pe_callD O_add_say (hr.mono (by decide)) rfl (pa_cons (pv 0) (pa_cons (pe_ix ix_list (pv 2) pe_int (fun _ _ => rfl)) pa_nil))))) pss_nil)
      (pss_cons (ps_if (pt_cmpR op_eq (pv 1) (pe_gi T.g_CALL rfl) (nomark _)) (pss_one (ps_ret (pe_callD O_add_call (hr.mono (by decide)) rfl (pa_cons (pv 0) (pa_cons (pe_ix ix_list (pv 2) pe_int (fun _ _ => rfl)) (pa_cons (pe_ix ix_list (pv 2) pe_int (fun _ _ => rfl)) (pa_cons (pv 3) pa_nil))))))) pss_nil)
      (pss_cons (ps_if (pt_cmpR op_eq (pv 1) (pe_gi T.g_JUMP rfl) (nomark _)) (pss_one (ps_ret (pe_callD O_add_jump (hr.mono (by decide)) rfl (pa_cons (pv 0) (pa_cons (pe_ix ix_list (pv 2) pe_int (fun _ _ => rfl)) (pa_cons (pv 3) pa_nil)))))) pss_nil)
      (pss_cons (ps_if (pt_cmpR op_eq (pv 1) (pe_gi T.g_FORK rfl) (nomark _)) (pss_one (ps_ret (pe_callD O_add_fork (hr.mono (by decide)) rfl (pa_cons (pv 0) (pa_cons (pe_ix ix_list (pv 2) pe_int (fun _ _ => rfl)) (pa_cons (pe_ix ix_list (pv 2) pe_int (fun _ _ => rfl)) (pa_cons (pe_ix ix_list (pv 2) pe_int (fun _ _ => rfl)) (pa_cons (pe_ix ix_list (pv 2) pe_int (fun _ _ => rfl)) (pa_cons (pv 3) pa_nil))))))))) pss_nil)
      (pss_one (ps_ret (pe_callD O_add_give (hr.mono (by decide)) rfl (pa_cons (pv 0) (pa_cons (pe_ix ix_list (pv 2) pe_int (fun _ _ => rfl)) pa_nil)))))))))))))
/-! ### tell (line 575) -/
abbrev s_tell : Stmt := topS 144
abbrev N_tell : List Str := ["program", "kind", "numbers", "listed"]
theorem sc_tell : FnScope N_tell ["program", "kind", "numbers", "listed"] (defScope s_tell) := ⟨rfl, rfl, rfl, by decide +kernel, rfl, by decide +kernel, by decide +kernel⟩
def t_tell (K : PySem.W.Frag) (w : World) (A : Adr) (sp_tell_shows sp_tell_run sp_tell_counts sp_tell_putin sp_tell_choose sp_tell_runchosen sp_tell_whole : Sp) : TS :=
  (tSeq (tIfS (tTest (tOp rEq (tVar 1) (tC (.int 9)))) (tRet (tCall sp_tell_shows [] E0 (tCons (tVar 0) tNil))) tNext)
    (tSeq (tIfS (tTest (tOp rEq (tVar 1) (tC (.int 10)))) (tRet (tCall sp_tell_run [] E0 (tCons (tVar 0) (tCons (tOp (rIxL K) (tVar 2) (tC (.int 0))) (tCons (tOp (rIxL K) (tVar 2) (tC (.int 1))) (tCons (tVar 3) tNil)))))) tNext)
    (tSeq (tIfS (tTest (tOp rEq (tVar 1) (tC (.int 11)))) (tRet (tCall sp_tell_counts [] E0 (tCons (tVar 0) (tCons (tOp (rIxL K) (tVar 2) (tC (.int 0))) (tCons (tOp (rIxL K) (tVar 2) (tC (.int 1))) (tCons (tVar 3) tNil)))))) tNext)
    (tSeq (tIfS (tTest (tOp rEq (tVar 1) (tC (.int 12)))) (tRet (tCall sp_tell_putin [] E0 (tCons (tVar 0) (tCons (tOp (rIxL K) (tVar 2) (tC (.int 0))) (tCons (tOp (rIxL K) (tVar 2) (tC (.int 1))) (tCons (tOp (rIxL K) (tVar 2) (tC (.int 2))) tNil)))))) tNext)
    (tSeq (tIfS (tTest (tOp rEq (tVar 1) (tC (.int 13)))) (tRet (tCall sp_tell_choose [] E0 (tCons (tVar 0) (tCons (tOp (rIxL K) (tVar 2) (tC (.int 0))) (tCons (tOp (rIxL K) (tVar 2) (tC (.int 1))) (tCons (tOp (rIxL K) (tVar 2) (tC (.int 2))) (tCons (tVar 3) tNil))))))) tNext)
    (tSeq (tIfS (tTest (tOp rEq (tVar 1) (tC (.int 14)))) (tRet (tCall sp_tell_runchosen [] E0 (tCons (tVar 0) (tCons (tOp (rIxL K) (tVar 2) (tC (.int 0))) (tCons (tOp (rIxL K) (tVar 2) (tC (.int 1))) (tCons (tOp (rIxL K) (tVar 2) (tC (.int 2))) (tCons (tVar 3) tNil))))))) tNext)
    (tRet (tCall sp_tell_whole [] E0 (tCons (tVar 0) (tCons (tOp (rIxL K) (tVar 2) (tC (.int 0))) (tCons (tOp (rIxL K) (tVar 2) (tC (.int 1))) (tCons (tOp (rIxL K) (tVar 2) (tC (.int 2))) (tCons (tVar 3) tNil)))))))))))))
theorem dv_tell {sp : Sp} {sp_tell_shows sp_tell_run sp_tell_counts sp_tell_putin sp_tell_choose sp_tell_runchosen sp_tell_whole : Sp} (T : Top K mg A)
    (O_tell_shows : DefOk P w K mg base 6 A.f_tell_shows "tell_shows" ["program"] sp_tell_shows)
    (O_tell_run : DefOk P w K mg base 7 A.f_tell_run "tell_run" ["program", "f", "n", "words"] sp_tell_run)
    (O_tell_counts : DefOk P w K mg base 7 A.f_tell_counts "tell_counts" ["program", "f", "n", "words"] sp_tell_counts)
    (O_tell_putin : DefOk P w K mg base 6 A.f_tell_putin "tell_putin" ["program", "f", "b", "r"] sp_tell_putin)
    (O_tell_choose : DefOk P w K mg base 7 A.f_tell_choose "tell_choose" ["program", "size", "f", "n", "words"] sp_tell_choose)
    (O_tell_runchosen : DefOk P w K mg base 8 A.f_tell_runchosen "tell_runchosen" ["program", "size", "f", "n", "words"] sp_tell_runchosen)
    (O_tell_whole : DefOk P w K mg base 8 A.f_tell_whole "tell_whole" ["program", "size", "f", "n", "words"] sp_tell_whole) (len : ∀ vs H Q E, sp vs H Q E → vs.length = 4)
    (h : ∀ vs H Q E, sp vs H Q E → t_tell K w A sp_tell_shows sp_tell_run sp_tell_counts sp_tell_putin sp_tell_choose sp_tell_runchosen sp_tell_whole { nx := fun _ H' => Q .non H', rt := Q } (start N_tell vs) H) : DefOk P w K mg base 9 A.f_tell "tell" ["program", "kind", "numbers", "listed"] sp := by
  refine T.d_tell.ok sc_tell len (fun cdv Ar outer s H vs Q E hr q => ⟨t_tell K w A sp_tell_shows sp_tell_run sp_tell_counts sp_tell_putin sp_tell_choose sp_tell_runchosen sp_tell_whole, ?_, h vs H Q E q⟩)
  exact (pss_cons (ps_if (pt_cmpR op_eq (pv 1) (pe_gi T.g_SHOWS rfl) (nomark _)) (pss_one (ps_ret (pe_callD O_tell_shows (hr.mono (by decide)) rfl (pa_cons (pv 0) pa_nil)))) pss_nil)
      (pss_cons (ps_if (pt_cmpR op_eq (pv 1) (pe_gi T.g_RUN rfl) (nomark _)) (pss_one (ps_ret (pe_callD O_tell_run (hr.mono (by decide)) rfl (pa_cons (pv 0) (pa_cons (pe_ix ix_list (pv 2) pe_int (fun _ _ => rfl)) (pa_cons (pe_ix ix_list (pv 2) pe_int (fun _ _ => rfl)) (pa_cons (pv 3) pa_nil))))))) pss_nil)
      (pss_cons (ps_if (pt_cmpR op_eq (pv 1) (pe_gi T.g_COUNTS rfl) (nomark _)) (pss_one (ps_ret (pe_callD O_tell_counts (hr.mono (by decide)) rfl (pa_cons (pv 0) (pa_cons (pe_ix ix_list (pv 2) pe_int (fun _ _ => rfl)) (pa_cons (pe_ix ix_list (pv 2) pe_int (fun _ _ => rfl)) (pa_cons (pv 3) pa_nil))))))) pss_nil)
      (pss_cons (ps_if (pt_cmpR op_eq (pv 1) (pe_gi T.g_PUTIN rfl) (nomark _)) (pss_one (ps_ret (pe_callD O_tell_putin (hr.mono (by decide)) rfl (pa_cons (pv 0) (pa_cons (pe_ix ix_list (pv 2) pe_int (fun _ _ => rfl)) (pa_cons (pe_ix ix_list (pv 2) pe_int (fun _ _ => rfl)) (pa_cons (pe_ix ix_list (pv 2) pe_int (fun _ _ => rfl)) pa_nil))))))) pss_nil)
      (pss_cons (ps_if (pt_cmpR op_eq (pv 1) (pe_gi T.g_CHOOSE rfl) (nomark _)) (pss_one (ps_ret (pe_callD O_tell_choose (hr.mono (by decide)) rfl (pa_cons (pv 0) (pa_cons (pe_ix ix_list (pv 2) pe_int (fun _ _ => rfl)) (pa_cons (pe_ix ix_list (pv 2) pe_int (fun _ _ => rfl)) (pa_cons (pe_ix ix_list (pv 2) pe_int (fun _ _ => rfl)) (pa_cons (pv 3) pa_nil)))))))) pss_nil)
      (pss_cons (ps_if (pt_cmpR op_eq (pv 1) (pe_gi T.g_RUNCHOSEN rfl) (nomark _)) (pss_one (ps_ret (pe_callD O_tell_runchosen (hr.mono (by decide)) rfl (pa_cons (pv 0) (pa_cons (pe_ix ix_list (pv 2) pe_int (fun _ _ => rfl)) (pa_cons (pe_ix ix_list (pv 2) pe_int (fun _ _ => rfl)) (pa_cons (pe_ix ix_list (pv 2) pe_int (fun _ _ => rfl)) (pa_cons (pv 3) pa_nil)))))))) pss_nil)
      (pss_one (ps_ret (pe_callD O_tell_whole (hr.mono (by decide)) rfl (pa_cons (pv 0) (pa_cons (pe_ix ix_list (pv 2) pe_int (fun _ _ => rfl)) (pa_cons (pe_ix ix_list (pv 2) pe_int (fun _ _ => rfl)) (pa_cons (pe_ix ix_list (pv 2) pe_int (fun _ _ => rfl)) (pa_cons (pv 3) pa_nil))))))))))))))
/-! ### answer (line 589) -/
abbrev s_answer : Stmt := topS 145
abbrev N_answer : List Str := ["program", "kind", "numbers", "listed"]
theorem sc_answer : FnScope N_answer ["program", "kind", "numbers", "listed"] (defScope s_answer) := ⟨rfl, rfl, rfl, by decide +kernel, rfl, by decide +kernel, by decide +kernel⟩
def t_answer (K : PySem.W.Frag) (w : World) (A : Adr) (sp_build sp_tell : Sp) : TS :=
  (tSeq (tIfS (tTest (tOp rLeI (tVar 1) (tC (.int 8)))) (tRet (tLst (tCons (tCall sp_build [] E0 (tCons (tVar 0) (tCons (tVar 1) (tCons (tVar 2) (tCons (tVar 3) tNil))))) tNil))) tNext)
    (tRet (tCall sp_tell [] E0 (tCons (tVar 0) (tCons (tVar 1) (tCons (tVar 2) (tCons (tVar 3) tNil)))))))
theorem dv_answer {sp : Sp} {sp_build sp_tell : Sp} (T : Top K mg A)
    (O_build : DefOk P w K mg base 5 A.f_build "build" ["program", "kind", "numbers", "listed"] sp_build)
    (O_tell : DefOk P w K mg base 9 A.f_tell "tell" ["program", "kind", "numbers", "listed"] sp_tell) (len : ∀ vs H Q E, sp vs H Q E → vs.length = 4)
    (h : ∀ vs H Q E, sp vs H Q E → t_answer K w A sp_build sp_tell { nx := fun _ H' => Q .non H', rt := Q } (start N_answer vs) H) : DefOk P w K mg base 10 A.f_answer "answer" ["program", "kind", "numbers", "listed"] sp := by
  refine T.d_answer.ok sc_answer len (fun cdv Ar outer s H vs Q E hr q => ⟨t_answer K w A sp_build sp_tell, ?_, h vs H Q E q⟩)
  exact (pss_cons (ps_if (pt_cmpR op_le (pv 1) (pe_gi T.g_GIVE rfl) (nomark _)) (pss_one (ps_ret (pe_lst (pa_cons (pe_callD O_build (hr.mono (by decide)) rfl (pa_cons (pv 0) (pa_cons (pv 1) (pa_cons (pv 2) (pa_cons (pv 3) pa_nil))))) pa_nil)))) pss_nil)
      (pss_one (ps_ret (pe_callD O_tell (hr.mono (by decide)) rfl (pa_cons (pv 0) (pa_cons (pv 1) (pa_cons (pv 2) (pa_cons (pv 3) pa_nil))))))))
/-! ### answers (line 593) -/
abbrev s_answers : Stmt := topS 146
abbrev N_answers : List Str := ["calls", "program", "told", "part", "numbers"]
theorem sc_answers : FnScope N_answers ["calls"] (defScope s_answers) := ⟨rfl, rfl, rfl, by decide +kernel, rfl, by decide +kernel, by decide +kernel⟩
def t_answers (K : PySem.W.Frag) (w : World) (A : Adr) (sp_Program sp_split_calls sp_answer : Sp) : TS :=
  (tSeq (tAsg (tMake A.C_Program sp_Program [] E0 tNil) (gName 1))
    (tSeq (tAsg (tLst tNil) (gName 2))
    (tSeq (tFor (iList K (tCall sp_split_calls [] E0 (tCons (tVar 0) tNil))) (gName 3) (tSeq (tAsg (tCall sp_answer [] E0 (tCons (tVar 1) (tCons (tOp (rIxT K) (tVar 3) (tC (.int 0))) (tCons (tOp (rIxT K) (tVar 3) (tC (.int 1))) (tCons (tOp (rIxT K) (tVar 3) (tC (.int 2))) tNil))))) (gName 4))
    (tSeq (tDrop (tBM K "list" rAppend (tVar 2) (tCons (tCB (rLenS K) (tCons (tVar 4) tNil)) tNil)))
    (tDrop (tBM K "list" rExtend (tVar 2) (tCons (tVar 4) tNil))))))
    (tRet (tVar 2)))))
theorem dv_answers {sp : Sp} {sp_Program sp_split_calls sp_answer : Sp} (T : Top K mg A)
    (O_Program : MakeOk P w K mg base 1 A.C_Program A.f_Program "Program" ["self"] sp_Program)
    (O_split_calls : DefOk P w K mg base 1 A.f_split_calls "split_calls" ["calls"] sp_split_calls)
    (O_answer : DefOk P w K mg base 10 A.f_answer "answer" ["program", "kind", "numbers", "listed"] sp_answer) (len : ∀ vs H Q E, sp vs H Q E → vs.length = 1)
    (h : ∀ vs H Q E, sp vs H Q E → t_answers K w A sp_Program sp_split_calls sp_answer { nx := fun _ H' => Q .non H', rt := Q } (start N_answers vs) H) : DefOk P w K mg base 11 A.f_answers "answers" ["calls"] sp := by
  refine T.d_answers.ok sc_answers len (fun cdv Ar outer s H vs Q E hr q => ⟨t_answers K w A sp_Program sp_split_calls sp_answer, ?_, h vs H Q E q⟩)
  exact (pss_cons (ps_set (i := 1) sc_answers.nd rfl (.inl rfl) (pe_makeD0 O_Program (hr.mono (by decide)) rfl))
      (pss_cons (ps_set (i := 2) sc_answers.nd rfl (.inl rfl) (pe_lst pa_nil))
      (pss_cons (ps_for PassesOwn.never rfl (pi_list (pe_callD O_split_calls (hr.mono (by decide)) rfl (pa_cons (pv 0) pa_nil))) (pg_name (i := 3) sc_answers.nd rfl (.inl rfl)) (pss_cons (ps_set (i := 4) sc_answers.nd rfl (.inl rfl) (pe_callD O_answer (hr.mono (by decide)) rfl (pa_cons (pv 1) (pa_cons (pe_ix ix_tup (pv 3) pe_int (fun _ _ => rfl)) (pa_cons (pe_ix ix_tup (pv 3) pe_int (fun _ _ => rfl)) (pa_cons (pe_ix ix_tup (pv 3) pe_int (fun _ _ => rfl)) pa_nil))))))
      (pss_cons (ps_expr (pe_bm PySem.F.plainAttrs_list PySem.F.slot_list_append PySem.F.type_list_append mt_append (pv 2) (pa_cons (pe_callB call_len_seq (by rfl) T.z_len PySem.boot_len (pa_cons (pv 4) pa_nil)) pa_nil)))
      (pss_one (ps_expr (pe_bm PySem.F.plainAttrs_list PySem.F.slot_list_extend PySem.F.type_list_extend mt_extend (pv 2) (pa_cons (pv 4) pa_nil)))))))
      (pss_one (ps_ret (pv 2))))))
end
end Pc

namespace Pc
open PySem PySem.Spec PyProof.Rows L2 Evl
theorem szB {n : Nat} (h : n ≤ 16000000) : n ≤ sizeLine := by rw [sizeLine_eq]; omega
theorem szL {n : Nat} (h : n < 16000000) : n < sizeLine := by rw [sizeLine_eq]; omega
/-! ### data: what stands in the heap, all the way down -/
inductive Dv where
  | non | bl (b : Bool) | int (i : Int) | lst (ds : List Dv) | tup (ds : List Dv) | obj (C : Addr) (fs : List (Str × Dv)) | dT (kvs : List (List Key × V)) | any
def nat (n : Nat) : Dv := .int (n : Int)
def nats (l : List Nat) : List Dv := l.map nat
mutual
inductive Rep (K : PySem.W.Frag) (H : Hp) : V → Dv → Prop
  | non : Rep K H .non .non
  | bl (b : Bool) : Rep K H (.bl b) (.bl b)
  | int (i : Int) : Rep K H (.int i) (.int i)
  | lst {a : Addr} {vs : List V} {ds : List Dv} : H a = some (.lst vs) → Reps K H vs ds → Rep K H (.ref a) (.lst ds)
  | tup {a : Addr} {vs : List V} {ds : List Dv} : H a = some (.tup vs) → Reps K H vs ds → Rep K H (.ref a) (.tup ds)
  | obj {a C dx : Addr} {fs : List (Str × V)} {gs : List (Str × Dv)} : H a = some (.ins C dx fs) → RepF K H fs gs → Rep K H (.ref a) (.obj C gs)
  | dT {a : Addr} {kvs : List (List Key × V)} : H a = some (.dT kvs) → Rep K H (.ref a) (.dT kvs)
  | any (v : V) : Rep K H v .any
inductive Reps (K : PySem.W.Frag) (H : Hp) : List V → List Dv → Prop
  | nil : Reps K H [] []
  | cons {v : V} {d : Dv} {vs : List V} {ds : List Dv} : Rep K H v d → Reps K H vs ds → Reps K H (v :: vs) (d :: ds)
inductive RepF (K : PySem.W.Frag) (H : Hp) : List (Str × V) → List (Str × Dv) → Prop
  | nil : RepF K H [] []
  | cons {f : Str} {v : V} {d : Dv} {fs : List (Str × V)} {gs : List (Str × Dv)} : Rep K H v d → RepF K H fs gs → RepF K H ((f, v) :: fs) ((f, d) :: gs)
end
mutual
theorem Rep.mono {K : PySem.W.Frag} {H H' : Hp} (e : Ex H H') : ∀ {v : V} {d : Dv}, Rep K H v d → Rep K H' v d
  | _, _, .non => .non
  | _, _, .bl b => .bl b
  | _, _, .int i => .int i
  | _, _, .lst h r => .lst (e _ _ h) (Reps.mono e r)
  | _, _, .tup h r => .tup (e _ _ h) (Reps.mono e r)
  | _, _, .obj h r => .obj (e _ _ h) (RepF.mono e r)
  | _, _, .dT h => .dT (e _ _ h)
  | _, _, .any v => .any v
theorem Reps.mono {K : PySem.W.Frag} {H H' : Hp} (e : Ex H H') : ∀ {v : List V} {d : List Dv}, Reps K H v d → Reps K H' v d
  | _, _, .nil => .nil
  | _, _, .cons h r => .cons (Rep.mono e h) (Reps.mono e r)
theorem RepF.mono {K : PySem.W.Frag} {H H' : Hp} (e : Ex H H') : ∀ {v : List (Str × V)} {d : List (Str × Dv)}, RepF K H v d → RepF K H' v d
  | _, _, .nil => .nil
  | _, _, .cons h r => .cons (Rep.mono e h) (RepF.mono e r)
end
section
variable {K : PySem.W.Frag} {H H' : Hp} {v : V} {d : Dv} {vs ws : List V} {ds es : List Dv} {a : Addr}
theorem Reps.length : ∀ {vs : List V} {ds : List Dv}, Reps K H vs ds → vs.length = ds.length
  | _, _, .nil => rfl
  | _, _, .cons _ r => congrArg (· + 1) (Reps.length r)
theorem none_at {α : Type} {i : Nat} {x : α} (e : ([] : List α)[i]? = some x) : False := nomatch List.getElem?_nil.symm.trans e
theorem Reps.get : ∀ {vs : List V} {ds : List Dv} {i : Nat} {d : Dv}, Reps K H vs ds → ds[i]? = some d → ∃ v, vs[i]? = some v ∧ Rep K H v d
  | _, _, _, _, .nil, e => (none_at e).elim
  | _, _, 0, _, .cons r _, e => ⟨_, rfl, Option.some.inj e ▸ r⟩
  | _, _, i + 1, _, .cons _ t, e => Reps.get (i := i) t e
theorem Reps.getV : ∀ {vs : List V} {ds : List Dv} {i : Nat} {v : V}, Reps K H vs ds → vs[i]? = some v → ∃ d, ds[i]? = some d ∧ Rep K H v d
  | _, _, _, _, .nil, e => (none_at e).elim
  | _, _, 0, _, .cons r _, e => ⟨_, rfl, Option.some.inj e ▸ r⟩
  | _, _, i + 1, _, .cons _ t, e => Reps.getV (i := i) t e
theorem Reps.append : ∀ {vs ws : List V} {ds es : List Dv}, Reps K H vs ds → Reps K H ws es → Reps K H (vs ++ ws) (ds ++ es)
  | _, _, _, _, .nil, s => s
  | _, _, _, _, .cons r t, s => .cons r (Reps.append t s)
theorem Reps.one (h : Rep K H v d) : Reps K H [v] [d] := .cons h .nil
theorem Reps.snoc (h : Reps K H vs ds) (r : Rep K H v d) : Reps K H (vs ++ [v]) (ds ++ [d]) := h.append (.one r)
theorem Reps.take : ∀ {vs : List V} {ds : List Dv} (n : Nat), Reps K H vs ds → Reps K H (vs.take n) (ds.take n)
  | _, _, 0, _ => .nil
  | _, _, _ + 1, .nil => .nil
  | _, _, n + 1, .cons r t => .cons r (Reps.take n t)
theorem Reps.drop : ∀ {vs : List V} {ds : List Dv} (n : Nat), Reps K H vs ds → Reps K H (vs.drop n) (ds.drop n)
  | _, _, 0, r => r
  | _, _, _ + 1, .nil => .nil
  | _, _, n + 1, .cons _ t => Reps.drop n t
theorem Reps.set {i : Nat} (h : Rep K H v d) : ∀ {vs : List V} {ds : List Dv} (i : Nat), Reps K H vs ds → Reps K H (vs.set i v) (ds.set i d)
  | _, _, _, .nil => .nil
  | _, _, 0, .cons _ t => .cons h t
  | _, _, i + 1, .cons r t => .cons r (Reps.set (i := i) h i t)
theorem Reps.dropLast (h : Reps K H vs ds) : Reps K H vs.dropLast ds.dropLast := by
  rw [List.dropLast_eq_take, List.dropLast_eq_take, h.length]
  exact h.take _
def nums (l : List Int) : List Dv := l.map Dv.int
theorem Reps.of_list : ∀ (l : List Int), Reps K H (l.map V.int) (nums l)
  | [] => .nil
  | x :: r => .cons (.int x) (Reps.of_list r)
theorem Reps.to_list : ∀ {l : List Int} {vs : List V}, Reps K H vs (nums l) → vs = l.map V.int
  | [], _, .nil => rfl
  | _ :: _, _, .cons (.int _) r => by rw [Reps.to_list r]; rfl
def bools (l : List Bool) : List Dv := l.map Dv.bl
theorem Reps.to_bools : ∀ {l : List Bool} {vs : List V}, Reps K H vs (bools l) → vs = l.map V.bl
  | [], _, .nil => rfl
  | _ :: _, _, .cons (.bl _) r => by rw [Reps.to_bools r]; rfl
theorem Rep.of_int {i : Int} (h : Rep K H v (.int i)) : v = .int i := by cases h; rfl
theorem Rep.of_bl {b : Bool} (h : Rep K H v (.bl b)) : v = .bl b := by cases h; rfl
theorem Rep.of_non (h : Rep K H v .non) : v = .non := by cases h; rfl
theorem Rep.of_lst (h : Rep K H v (.lst ds)) : ∃ a vs, v = .ref a ∧ H a = some (.lst vs) ∧ Reps K H vs ds := by cases h with | lst h r => exact ⟨_, _, rfl, h, r⟩
theorem Rep.of_tup (h : Rep K H v (.tup ds)) : ∃ a vs, v = .ref a ∧ H a = some (.tup vs) ∧ Reps K H vs ds := by cases h with | tup h r => exact ⟨_, _, rfl, h, r⟩
theorem Rep.of_obj {C : Addr} {gs : List (Str × Dv)} (h : Rep K H v (.obj C gs)) : ∃ a dx fs, v = .ref a ∧ H a = some (.ins C dx fs) ∧ RepF K H fs gs := by cases h with | obj h r => exact ⟨_, _, _, rfl, h, r⟩
theorem RepF.look {f : Str} : ∀ {fs : List (Str × V)} {gs : List (Str × Dv)} {d : Dv}, RepF K H fs gs → gs.lookup f = some d → ∃ v, fs.lookup f = some v ∧ Rep K H v d
  | _, _, _, .nil, e => by simp at e
  | (g, v) :: fs, (_, d') :: gs, d, .cons r t, e => by
    cases q : (f == g) with
    | true =>
      simp only [List.lookup, q] at e ⊢
      cases e
      exact ⟨v, rfl, r⟩
    | false =>
      simp only [List.lookup, q] at e ⊢
      exact RepF.look t e
/-- None or not -/
def Dv.isNon : Dv → Bool
  | .non => true
  | _ => false
theorem Rep.isNon (h : Rep K H v d) (ha : d ≠ .any) : decide (v = .non) = d.isNon := by
  cases h <;> first | rfl | exact absurd rfl ha
theorem Rep.of_dT {kvs : List (List Key × V)} (h : Rep K H v (.dT kvs)) : ∃ a, v = .ref a ∧ H a = some (.dT kvs) := by cases h with | dT h => exact ⟨_, rfl, h⟩
end
/-! ### the heap without some addresses -/
def cold (M : List Addr) (H : Hp) : Hp := fun x => if x ∈ M then none else H x
section
variable {M M' : List Addr} {H H' : Hp} {p x : Addr} {o : HO}
theorem cold_some : cold M H x = some o ↔ x ∉ M ∧ H x = some o := by
  unfold cold
  by_cases h : x ∈ M
  · rw [if_pos h]; exact ⟨fun z => (by cases z), fun z => absurd h z.1⟩
  · rw [if_neg h]; exact ⟨fun z => ⟨h, z⟩, fun z => z.2⟩
theorem cold_ex : Ex (cold M H) H := fun _ _ h => (cold_some.mp h).2
theorem cold_upd (hp : p ∈ M) : cold M (upd H p o) = cold M H := by
  funext x
  unfold cold
  by_cases h : x ∈ M
  · rw [if_pos h, if_pos h]
  · rw [if_neg h, if_neg h, upd_ne (show x ≠ p from fun z => h (by rw [z]; exact hp))]
theorem cold_mono (e : Ex H H') : Ex (cold M H) (cold M H') := fun x o h => cold_some.mpr ⟨(cold_some.mp h).1, e _ _ (cold_some.mp h).2⟩
theorem cold_sub (s : ∀ x ∈ M, x ∈ M') : Ex (cold M' H) (cold M H) := fun x o h => cold_some.mpr ⟨fun z => (cold_some.mp h).1 (s x z), (cold_some.mp h).2⟩
theorem cold_new (hn : H p = none) : Ex (cold M H) (cold M (upd H p o)) := cold_mono (Ex.new hn)
theorem cold_put : Ex (cold (p :: M) H) (cold (p :: M) (upd H p o)) := by
  rw [cold_upd List.mem_cons_self]
  exact Ex.refl _
end

/-- what is hot is there -/
structure Hot (M : List Addr) (H : Hp) : Prop where
  all : ∀ m ∈ M, H m ≠ none
section
variable {M M' : List Addr} {H H' : Hp} {p x : Addr} {o : HO}
theorem Hot.nil : Hot [] H := ⟨fun _ h => by cases h⟩
theorem Hot.mono (h : Hot M H) (e : Ex H H') : Hot M H' := ⟨fun m hm z => by
  cases q : H m with
  | none => exact h.all m hm q
  | some o => rw [e _ _ q] at z; cases z⟩
theorem Hot.fresh (h : Hot M H) (hp : H p = none) : p ∉ M := fun z => h.all p z hp
theorem Hot.upd (h : Hot M H) : Hot M (upd H p o) := ⟨fun m hm z => by
  by_cases e : m = p
  · subst e; rw [upd_same] at z; cases z
  · rw [upd_ne e] at z; exact h.all m hm z⟩
theorem Hot.cons (h : Hot M H) (hp : H p = some o) : Hot (p :: M) H := ⟨fun m hm => by
  rcases List.mem_cons.1 hm with e | e
  · subst e; rw [hp]; exact fun z => by cases z
  · exact h.all m e⟩
theorem Hot.new (h : Hot M H) : Hot (p :: M) (L2.upd H p o) := h.upd.cons upd_same
theorem cold_of (hm : x ∉ M) (h : H x = some o) : cold M H x = some o := cold_some.mpr ⟨hm, h⟩
theorem cold_fresh (h : Hot M H) (hp : H p = none) : cold M (L2.upd H p o) p = some o := cold_of (h.fresh hp) upd_same
/-- a hot one becomes cold -/
theorem cold_less : Ex (cold (p :: M) H) (cold M H) := cold_sub fun _ h => List.mem_cons_of_mem _ h
/-- a new one becomes hot: what was cold is cold -/
theorem cold_more (hp : H p = none) : Ex (cold M H) (cold (p :: M) (L2.upd H p o)) := fun x u h => by
  obtain ⟨h1, h2⟩ := cold_some.mp h
  have hx : x ≠ p := ne_of_none h2 hp
  refine cold_some.mpr ⟨fun z => (List.mem_cons.1 z).elim hx h1, ?_⟩
  rw [upd_ne hx]; exact h2
theorem nil_cold : cold [] H = H := by funext x; unfold cold; rw [if_neg (fun h => by cases h)]
end
end Pc

namespace Pc
open PySem PySem.Spec PyProof.Rows L2 Evl
/-! ### the slots as data -/
inductive Sv where
  /-- a datum | just this value | a list of the def's own, still changed | anything -/
  | dat (d : Dv) | val (v : V) | hot (p : Addr) (ds : List Dv) | any
def SlotR (K : PySem.W.Frag) (M : List Addr) (H : Hp) (o : Option V) : Sv → Prop
  | .dat d => ∃ v, o = some v ∧ Rep K (cold M H) v d
  | .val v => o = some v
  | .hot p ds => o = some (.ref p) ∧ p ∈ M ∧ ∃ vs, H p = some (.lst vs) ∧ Reps K (cold M H) vs ds
  | .any => True
inductive REnv (K : PySem.W.Frag) (M : List Addr) (H : Hp) : L2.St → List Sv → Prop
  | nil : REnv K M H [] []
  | cons {o : Option V} {s : Sv} {σ : L2.St} {ρ : List Sv} : SlotR K M H o s → REnv K M H σ ρ → REnv K M H (o :: σ) (s :: ρ)
def hots : List Sv → List Addr
  | [] => []
  | .hot p _ :: r => p :: hots r
  | _ :: r => hots r
section
variable {K : PySem.W.Frag} {B H H' Hc Hc' H1 : Hp} {M M' : List Addr} {σ : L2.St} {ρ : List Sv} {v : V} {d : Dv} {i : Nat}
/-- another heap, other hot ones: what was cold stays, the hot lists stand -/
theorem SlotR.move {o : Option V} (e : Ex (cold M H) (cold M' H')) : ∀ {s : Sv}, (∀ p ds, s = .hot p ds → p ∈ M → p ∈ M' ∧ ∀ vs, H p = some (.lst vs) → H' p = some (.lst vs)) → SlotR K M H o s → SlotR K M' H' o s
  | .dat _, _, ⟨v, h, r⟩ => ⟨v, h, r.mono e⟩
  | .val _, _, h => h
  | .hot p ds, hh, ⟨h, hm, vs, h1, r⟩ => ⟨h, (hh p ds rfl hm).1, vs, (hh p ds rfl hm).2 vs h1, r.mono e⟩
  | .any, _, _ => trivial
theorem hots_cons {p : Addr} {s : Sv} {ρ : List Sv} (h : p ∈ hots ρ) : p ∈ hots (s :: ρ) := by
  cases s with
  | hot q ds => exact List.mem_cons_of_mem _ h
  | dat d => exact h
  | val v => exact h
  | any => exact h
theorem REnv.move (e : Ex (cold M H) (cold M' H')) : ∀ {σ : L2.St} {ρ : List Sv}, (∀ p ∈ hots ρ, p ∈ M → p ∈ M' ∧ ∀ vs, H p = some (.lst vs) → H' p = some (.lst vs)) → REnv K M H σ ρ → REnv K M' H' σ ρ
  | _, _, _, .nil => .nil
  | _, s :: ρ, hh, .cons h t => .cons (h.move e fun p ds hs => hh p (by rw [hs]; exact List.mem_cons_self)) (REnv.move e (fun p hp => hh p (hots_cons hp)) t)
theorem REnv.mono (e : Ex H H') (E : REnv K M H σ ρ) : REnv K M H' σ ρ := E.move (cold_mono e) fun p _ hm => ⟨hm, fun vs h => e _ _ h⟩
theorem REnv.get : ∀ {σ : L2.St} {ρ : List Sv} {i : Nat} {s : Sv}, REnv K M H σ ρ → ρ[i]? = some s → ∃ o, σ[i]? = some o ∧ SlotR K M H o s
  | _, _, _, _, .nil, e => (none_at e).elim
  | _, _, 0, _, .cons h _, e => ⟨_, rfl, Option.some.inj e ▸ h⟩
  | _, _, i + 1, _, .cons _ t, e => REnv.get (i := i) t e
theorem REnv.dat (E : REnv K M H σ ρ) (h : ρ[i]? = some (.dat d)) : ∃ v, σ[i]? = some (some v) ∧ Rep K (cold M H) v d := by
  obtain ⟨o, h1, v, h2, r⟩ := E.get h
  subst h2
  exact ⟨v, h1, r⟩
theorem REnv.val (E : REnv K M H σ ρ) (h : ρ[i]? = some (.val v)) : σ[i]? = some (some v) := by
  obtain ⟨o, h1, h2⟩ := E.get h
  have h3 : o = some v := h2
  subst h3
  exact h1
theorem REnv.hot {p : Addr} {ds : List Dv} (E : REnv K M H σ ρ) (h : ρ[i]? = some (.hot p ds)) : σ[i]? = some (some (.ref p)) ∧ p ∈ M ∧ ∃ vs, H p = some (.lst vs) ∧ Reps K (cold M H) vs ds := by
  obtain ⟨o, h1, h2, h3⟩ := E.get h
  subst h2
  exact ⟨h1, h3⟩
theorem REnv.set {o : Option V} {s : Sv} (h : SlotR K M H o s) : ∀ {σ : L2.St} {ρ : List Sv} (i : Nat), REnv K M H σ ρ → REnv K M H (σ.set i o) (ρ.set i s)
  | _, _, _, .nil => .nil
  | _, _, 0, .cons _ t => .cons h t
  | _, _, i + 1, .cons r t => .cons r (REnv.set h i t)
theorem REnv.setD (E : REnv K M H σ ρ) (r : Rep K (cold M H) v d) : REnv K M H (σ.set i (some v)) (ρ.set i (.dat d)) := E.set (s := .dat d) ⟨v, rfl, r⟩ i
theorem REnv.setV (E : REnv K M H σ ρ) : REnv K M H (σ.set i (some v)) (ρ.set i (.val v)) := E.set (s := .val v) rfl i
theorem REnv.setA {o : Option V} (E : REnv K M H σ ρ) : REnv K M H (σ.set i o) (ρ.set i .any) := E.set (s := .any) trivial i
/-- the slots stay, another thing is said of one -/
theorem REnv.say {s : Sv} : ∀ {σ : L2.St} {ρ : List Sv} {i : Nat}, REnv K M H σ ρ → (∀ o, σ[i]? = some o → SlotR K M H o s) → REnv K M H σ (ρ.set i s)
  | _, _, _, .nil, _ => .nil
  | _, _, 0, .cons _ t, h => .cons (h _ rfl) t
  | _, _, i + 1, .cons r t, h => .cons r (REnv.say (i := i) t fun o ho => h o ho)
theorem REnv.length : ∀ {σ : L2.St} {ρ : List Sv}, REnv K M H σ ρ → σ.length = ρ.length
  | _, _, .nil => rfl
  | _, _, .cons _ t => congrArg (· + 1) (REnv.length t)
def wipeS (ρ : List Sv) : List Nat → List Sv
  | [] => ρ
  | v :: vs => (wipeS ρ vs).set v .any
theorem REnv.wipe (E : REnv K M H σ ρ) : ∀ vs : List Nat, REnv K M H (wipe σ vs) (wipeS ρ vs)
  | [] => E
  | v :: vs => (REnv.wipe E vs).setA
theorem REnv.anys (K : PySem.W.Frag) (M : List Addr) (H : Hp) : ∀ n : Nat, REnv K M H (List.replicate n none) (List.replicate n .any)
  | 0 => .nil
  | n + 1 => .cons trivial (REnv.anys K M H n)
theorem REnv.app : ∀ {σ τ : L2.St} {ρ π : List Sv}, REnv K M H σ ρ → REnv K M H τ π → REnv K M H (σ ++ τ) (ρ ++ π)
  | _, _, _, _, .nil, s => s
  | _, _, _, _, .cons h t, s => .cons h (REnv.app t s)
theorem REnv.reps : ∀ {vs : List V} {ds : List Dv}, Reps K (cold M H) vs ds → REnv K M H (vs.map some) (ds.map .dat)
  | _, _, .nil => .nil
  | _, _, .cons h t => .cons ⟨_, rfl, h⟩ (REnv.reps t)
theorem REnv.start {vs : List V} {ds : List Dv} {N : List Str} (r : Reps K (cold M H) vs ds) : REnv K M H (start N vs) (ds.map .dat ++ List.replicate (N.length - ds.length) .any) := by
  unfold L2.start
  rw [r.length]
  exact (REnv.reps r).app (REnv.anys K M H _)
theorem hots_app : ∀ (l r : List Sv), hots (l ++ r) = hots l ++ hots r
  | [], _ => rfl
  | .hot p ds :: l, r => congrArg (p :: ·) (hots_app l r)
  | .dat _ :: l, r => hots_app l r
  | .val _ :: l, r => hots_app l r
  | .any :: l, r => hots_app l r
theorem hots_dats : ∀ l : List Dv, hots (l.map .dat) = []
  | [] => rfl
  | _ :: l => hots_dats l
theorem hots_anys : ∀ n : Nat, hots (List.replicate n .any) = []
  | 0 => rfl
  | n + 1 => hots_anys n
/-- the hot ones that are still there when a slot is set to something that is no hot list -/
theorem hots_set_sub {s : Sv} (hs : hots [s] = []) : ∀ (ρ : List Sv) (i : Nat), (hots (ρ.set i s)).Sublist (hots ρ)
  | [], _ => List.Sublist.refl _
  | x :: r, 0 => by
    show (hots (s :: r)).Sublist (hots (x :: r))
    have e : hots (s :: r) = hots r := by rw [show s :: r = [s] ++ r from rfl, hots_app, hs]; rfl
    rw [e]
    cases x with
    | hot p ds => exact List.sublist_cons_self _ _
    | dat _ => exact List.Sublist.refl _
    | val _ => exact List.Sublist.refl _
    | any => exact List.Sublist.refl _
  | x :: r, i + 1 => by
    show (hots (x :: r.set i s)).Sublist (hots (x :: r))
    have ih := hots_set_sub hs r i
    cases x with
    | hot p ds => exact ih.cons₂ _
    | dat _ => exact ih
    | val _ => exact ih
    | any => exact ih
theorem hots_set_same {p : Addr} {ds es : List Dv} : ∀ {ρ : List Sv} {i : Nat}, ρ[i]? = some (.hot p ds) → hots (ρ.set i (.hot p es)) = hots ρ
  | [], _, h => by simp at h
  | x :: r, 0, h => by
    have e : x = .hot p ds := Option.some.inj h
    subst e
    rfl
  | x :: r, i + 1, h => by
    have ih := hots_set_same (p := p) (ds := ds) (es := es) (ρ := r) (i := i) h
    show hots (x :: r.set i _) = hots (x :: r)
    cases x with
    | hot q _ => exact congrArg (q :: ·) ih
    | dat _ => exact ih
    | val _ => exact ih
    | any => exact ih
theorem mem_hots {p : Addr} {ds : List Dv} : ∀ {ρ : List Sv} {i : Nat}, ρ[i]? = some (.hot p ds) → p ∈ hots ρ
  | [], _, h => by simp at h
  | x :: r, 0, h => by
    have e : x = .hot p ds := Option.some.inj h
    subst e
    exact List.mem_cons_self
  | x :: r, i + 1, h => hots_cons (mem_hots (ρ := r) (i := i) h)
/-- a new hot one: it stands once -/
theorem hots_set_new {p : Addr} {ds : List Dv} (hp : ∀ q ∈ hots ρ, q ≠ p) (nd : (hots ρ).Nodup) : (hots (ρ.set i (.hot p ds))).Nodup ∧ ∀ q ∈ hots (ρ.set i (.hot p ds)), q = p ∨ q ∈ hots ρ := by
  induction ρ generalizing i with
  | nil => exact ⟨nd, fun q hq => .inr hq⟩
  | cons x r ih =>
    have hr : ∀ q ∈ hots r, q ≠ p := fun q hq => hp q (hots_cons hq)
    have ndr : (hots r).Nodup := by
      cases x with
      | hot q _ => exact (List.nodup_cons.1 nd).2
      | dat _ => exact nd
      | val _ => exact nd
      | any => exact nd
    cases i with
    | zero =>
      show (p :: hots r).Nodup ∧ ∀ q ∈ p :: hots r, _
      exact ⟨List.nodup_cons.mpr ⟨fun z => hr p z rfl, ndr⟩, fun q hq => (List.mem_cons.1 hq).elim .inl fun z => .inr (hots_cons z)⟩
    | succ i =>
      obtain ⟨h1, h2⟩ := ih (i := i) hr ndr
      have h3 : ∀ q ∈ hots (r.set i (.hot p ds)), q = p ∨ q ∈ hots (x :: r) := fun q hq => (h2 q hq).elim .inl fun z => .inr (hots_cons z)
      cases x with
      | hot y ys =>
        have ny := (List.nodup_cons.1 nd).1
        refine ⟨List.nodup_cons.mpr ⟨fun z => ?_, h1⟩, fun q hq => ?_⟩
        · rcases h2 y z with e | e
          · exact hp y List.mem_cons_self e
          · exact ny e
        · rcases List.mem_cons.1 hq with e | e
          · exact .inr (by rw [e]; exact List.mem_cons_self)
          · exact h3 q e
      | dat _ => exact ⟨h1, h3⟩
      | val _ => exact ⟨h1, h3⟩
      | any => exact ⟨h1, h3⟩
/-! ### what evaluates to which datum; M stays hot -/
def EvF (K : PySem.W.Frag) (te : TE) (σ : L2.St) (M : List Addr) (H : Hp) (d : Dv) : Prop := ∀ H1, Ex H H1 → ∀ Q : VK, (∀ v H2, Ex H1 H2 → Rep K (cold M H2) v d → Q v H2) → te σ H1 Q
def EvFs (K : PySem.W.Frag) (ta : TA) (σ : L2.St) (M : List Addr) (H : Hp) (ds : List Dv) : Prop := ∀ H1, Ex H H1 → ∀ Q : List V → Hp → Prop, (∀ vs H2, Ex H1 H2 → Reps K (cold M H2) vs ds → Q vs H2) → ta σ H1 Q
def EvB (tt : TT) (σ : L2.St) (H : Hp) (b : Bool) : Prop := ∀ H1, Ex H H1 → ∀ Q : Bool → Hp → Prop, (∀ H2, Ex H1 H2 → Q b H2) → tt σ H1 Q
variable {te ta tb tc : TE} {t u : TT} {x y z w : Dv} {a b : Bool} {ds es : List Dv} {as bs : TA}
theorem EvF.mono (e : Ex H H') (h : EvF K te σ M H d) : EvF K te σ M H' d := fun H1 e1 Q q => h H1 (e.trans e1) Q q
theorem EvF.int {n : Int} (h : EvF K te σ M H (.int n)) {H1 : Hp} (e : Ex H H1) {Q : VK} (q : ∀ H2, Ex H1 H2 → Q (.int n) H2) : te σ H1 Q := h H1 e Q fun v H2 e2 r => by
  rw [r.of_int]; exact q H2 e2
theorem EvF.bl (h : EvF K te σ M H (.bl b)) {H1 : Hp} (e : Ex H H1) {Q : VK} (q : ∀ H2, Ex H1 H2 → Q (.bl b) H2) : te σ H1 Q := h H1 e Q fun v H2 e2 r => by
  rw [r.of_bl]; exact q H2 e2
theorem EvF.cast (h : EvF K te σ M H x) (e : x = y) : EvF K te σ M H y := e ▸ h
/-- WHERE ONE STANDS: B stands as it stood; the hot ones; the slots as data -/
structure At (K : PySem.W.Frag) (B : Hp) (M : List Addr) (H : Hp) (σ : L2.St) (ρ : List Sv) : Prop where
  ex : Ex B H
  heat : Hot M H
  env : REnv K M H σ ρ
  nd : (hots ρ).Nodup
  out : ∀ p ∈ hots ρ, B p = none
theorem At.mono (e : Ex H H') (S : At K B M H σ ρ) : At K B M H' σ ρ := ⟨S.ex.trans e, S.heat.mono e, S.env.mono e, S.nd, S.out⟩
theorem At.start {vs : List V} {ds : List Dv} {N : List Str} (hM : Hot M H) (r : Reps K (cold M H) vs ds) : At K H M H (start N vs) (ds.map .dat ++ List.replicate (N.length - ds.length) .any) := by
  have e : hots (ds.map .dat ++ List.replicate (N.length - ds.length) .any) = [] := by rw [hots_app, hots_dats, hots_anys]; rfl
  exact ⟨Ex.refl H, hM, REnv.start r, by rw [e]; exact List.nodup_nil, fun p hp => by rw [e] at hp; cases hp⟩
theorem At.set {s : Sv} {o : Option V} (S : At K B M H σ ρ) (hs : hots [s] = []) (h : SlotR K M H o s) : At K B M H (σ.set i o) (ρ.set i s) :=
  ⟨S.ex, S.heat, S.env.set h i, S.nd.sublist (hots_set_sub hs ρ i), fun p hp => S.out p ((hots_set_sub hs ρ i).subset hp)⟩
theorem At.setD (S : At K B M H σ ρ) (r : Rep K (cold M H) v d) : At K B M H (σ.set i (some v)) (ρ.set i (.dat d)) := S.set (s := .dat d) rfl ⟨v, rfl, r⟩
theorem At.setA {o : Option V} (S : At K B M H σ ρ) : At K B M H (σ.set i o) (ρ.set i .any) := S.set (s := .any) rfl trivial
theorem At.wipe (S : At K B M H σ ρ) : ∀ vs : List Nat, At K B M H (wipe σ vs) (wipeS ρ vs)
  | [] => S
  | v :: vs => (At.wipe S vs).setA
theorem ef_var (S : At K B M H σ ρ) (h : ρ[i]? = some (.dat d)) : EvF K (tVar i) σ M H d := fun H1 e Q q => by
  obtain ⟨v, h1, r⟩ := S.env.dat h
  exact ⟨v, h1, q v H1 (Ex.refl H1) (r.mono (cold_mono e))⟩
theorem ef_int {n : Int} : EvF K (tC (.int n)) σ M H (.int n) := fun H1 _ _ q => q _ H1 (Ex.refl H1) (.int n)
theorem ef_bl : EvF K (tC (.bl b)) σ M H (.bl b) := fun H1 _ _ q => q _ H1 (Ex.refl H1) (.bl b)
theorem ef_non : EvF K (tC .non) σ M H .non := fun H1 _ _ q => q _ H1 (Ex.refl H1) .non
theorem ef_I0 {g : Int → Int → V} {i j : Int} (ha : EvF K ta σ M H (.int i)) (hb : EvF K tb σ M H (.int j)) (hg : ∀ Hc, Rep K Hc (g i j) d) : EvF K (tOp (rI0 g) ta tb) σ M H d := fun H1 e Q q =>
  ha.int e fun H2 e2 => hb.int (e.trans e2) fun H3 e3 => ⟨i, j, rfl, rfl, q _ H3 (e2.trans e3) (hg _)⟩
theorem ef_I {C : Int → Int → Prop} {g : Int → Int → V} {i j : Int} (ha : EvF K ta σ M H (.int i)) (hb : EvF K tb σ M H (.int j)) (hc : C i j) (hg : ∀ Hc, Rep K Hc (g i j) d) : EvF K (tOp (rI C g) ta tb) σ M H d := fun H1 e Q q =>
  ha.int e fun H2 e2 => hb.int (e.trans e2) fun H3 e3 => ⟨i, j, rfl, rfl, hc, q _ H3 (e2.trans e3) (hg _)⟩
theorem ef_add {i j : Int} (ha : EvF K ta σ M H (.int i)) (hb : EvF K tb σ M H (.int j)) : EvF K (tOp rAddI ta tb) σ M H (.int (i + j)) := ef_I0 ha hb fun _ => .int _
theorem ef_sub {i j : Int} (ha : EvF K ta σ M H (.int i)) (hb : EvF K tb σ M H (.int j)) : EvF K (tOp rSubI ta tb) σ M H (.int (i - j)) := ef_I0 ha hb fun _ => .int _
theorem ef_mul {i j : Int} (ha : EvF K ta σ M H (.int i)) (hb : EvF K tb σ M H (.int j)) (hc : CMul i j) : EvF K (tOp rMulI ta tb) σ M H (.int (i * j)) := ef_I ha hb hc fun _ => .int _
theorem ef_mod {i j : Int} (ha : EvF K ta σ M H (.int i)) (hb : EvF K tb σ M H (.int j)) (hc : 0 < j) : EvF K (tOp rModI ta tb) σ M H (.int (i % j)) := ef_I ha hb hc fun _ => .int _
theorem ef_and {i j : Int} (ha : EvF K ta σ M H (.int i)) (hb : EvF K tb σ M H (.int j)) : EvF K (tOp rAndI ta tb) σ M H (.int (Builtin.bitAnd i j)) := ef_I0 ha hb fun _ => .int _
theorem ef_or {i j : Int} (ha : EvF K ta σ M H (.int i)) (hb : EvF K tb σ M H (.int j)) : EvF K (tOp rOrI ta tb) σ M H (.int (Builtin.bitOr i j)) := ef_I0 ha hb fun _ => .int _
theorem ef_xor {i j : Int} (ha : EvF K ta σ M H (.int i)) (hb : EvF K tb σ M H (.int j)) : EvF K (tOp rXorI ta tb) σ M H (.int (Builtin.bitXor i j)) := ef_I0 ha hb fun _ => .int _
theorem ef_pow {i j : Int} (ha : EvF K ta σ M H (.int i)) (hb : EvF K tb σ M H (.int j)) (hc : CPow i j) : EvF K (tOp rPowI ta tb) σ M H (.int (i ^ j.toNat)) := ef_I ha hb hc fun _ => .int _
theorem ef_shl {i j : Int} (ha : EvF K ta σ M H (.int i)) (hb : EvF K tb σ M H (.int j)) (hc : CPow i j) : EvF K (tOp rShlI ta tb) σ M H (.int (i * 2 ^ j.toNat)) := ef_I ha hb hc fun _ => .int _
theorem ef_shr {i j : Int} (ha : EvF K ta σ M H (.int i)) (hb : EvF K tb σ M H (.int j)) (hc : 0 ≤ j) : EvF K (tOp rShrI ta tb) σ M H (.int (i / 2 ^ j.toNat)) := ef_I ha hb hc fun _ => .int _
theorem ef_neg {i : Int} (ha : EvF K ta σ M H (.int i)) : EvF K (tUn rNegI ta) σ M H (.int (-i)) := fun H1 e Q q => ha.int e fun H2 e2 => ⟨i, rfl, q _ H2 e2 (.int _)⟩
theorem ef_lt {i j : Int} (ha : EvF K ta σ M H (.int i)) (hb : EvF K tb σ M H (.int j)) : EvF K (tOp rLtI ta tb) σ M H (.bl (decide (i < j))) := ef_I0 ha hb fun _ => .bl _
theorem ef_le {i j : Int} (ha : EvF K ta σ M H (.int i)) (hb : EvF K tb σ M H (.int j)) : EvF K (tOp rLeI ta tb) σ M H (.bl (decide (i ≤ j))) := ef_I0 ha hb fun _ => .bl _
theorem ef_gt {i j : Int} (ha : EvF K ta σ M H (.int i)) (hb : EvF K tb σ M H (.int j)) : EvF K (tOp rGtI ta tb) σ M H (.bl (decide (j < i))) := ef_I0 ha hb fun _ => .bl _
theorem ef_ge {i j : Int} (ha : EvF K ta σ M H (.int i)) (hb : EvF K tb σ M H (.int j)) : EvF K (tOp rGeI ta tb) σ M H (.bl (decide (j ≤ i))) := ef_I0 ha hb fun _ => .bl _
theorem int_eq_dec (i j : Int) : decide (V.int i = V.int j) = decide (i = j) := by
  by_cases h : i = j
  · rw [h, decide_eq_true rfl, decide_eq_true rfl]
  · rw [decide_eq_false h, decide_eq_false (fun z => h (V.int.inj z))]
theorem ef_eq {i j : Int} (ha : EvF K ta σ M H (.int i)) (hb : EvF K tb σ M H (.int j)) : EvF K (tOp rEq ta tb) σ M H (.bl (decide (i = j))) := fun H1 e Q q =>
  ha.int e fun H2 e2 => hb.int (e.trans e2) fun H3 e3 => ⟨rfl, by rw [int_eq_dec]; exact q _ H3 (e2.trans e3) (.bl _)⟩
theorem ef_ne {i j : Int} (ha : EvF K ta σ M H (.int i)) (hb : EvF K tb σ M H (.int j)) : EvF K (tOp rNe ta tb) σ M H (.bl (!decide (i = j))) := fun H1 e Q q =>
  ha.int e fun H2 e2 => hb.int (e.trans e2) fun H3 e3 => ⟨rfl, by rw [int_eq_dec]; exact q _ H3 (e2.trans e3) (.bl _)⟩
theorem ef_isN (ha : EvF K ta σ M H x) (hx : x ≠ .any := by intro z; cases z) : EvF K (tOp rIsN ta (tC .non)) σ M H (.bl x.isNon) := fun H1 e Q q => ha H1 e _ fun v H2 e2 r => ⟨rfl, by dsimp only; rw [r.isNon hx]; exact q _ H2 e2 (.bl _)⟩
theorem ef_notN (ha : EvF K ta σ M H x) (hx : x ≠ .any := by intro z; cases z) : EvF K (tOp rNotN ta (tC .non)) σ M H (.bl (!x.isNon)) := fun H1 e Q q => ha H1 e _ fun v H2 e2 r => ⟨rfl, by dsimp only; rw [r.isNon hx]; exact q _ H2 e2 (.bl _)⟩
theorem ef_fld {C : Addr} {gs : List (Str × Dv)} {f : Str} (ha : EvF K ta σ M H (.obj C gs)) (hc : Cls K C) (hn : NoAttr K C f) (hl : gs.lookup f = some d) : EvF K (tFld K ta f) σ M H d := fun H1 e Q q => ha H1 e _ fun v H2 e2 r => by
  obtain ⟨a, dx, fs, rfl, h, rf⟩ := r.of_obj
  obtain ⟨v, h1, rv⟩ := rf.look hl
  exact ⟨a, C, dx, fs, v, rfl, cold_ex _ _ h, hc, hn, h1, q v H2 e2 rv⟩
theorem atI_rep {Hc : Hp} {vs : List V} {ds : List Dv} {i : Int} {d : Dv} (r : Reps K Hc vs ds) (h : atI ds i = some d) : ∃ v, atI vs i = some v ∧ Rep K Hc v d := by
  unfold atI at h ⊢
  rw [r.length]
  cases q : ixN ds.length i with
  | none => rw [q] at h; cases h
  | some j =>
    rw [q] at h
    exact r.get h
theorem ef_ixT {i : Int} (ha : EvF K ta σ M H (.tup ds)) (hb : EvF K tb σ M H (.int i)) (h : atI ds i = some d) : EvF K (tOp (rIxT K) ta tb) σ M H d := fun H1 e Q q => ha H1 e _ fun v H2 e2 r => hb.int (e.trans e2) fun H3 e3 => by
  obtain ⟨a, vs, rfl, h1, rs⟩ := r.of_tup
  obtain ⟨v, h2, rv⟩ := atI_rep rs h
  exact ⟨a, vs, i, v, rfl, rfl, st_of (e3 _ _ (cold_ex _ _ h1)), h2, q v H3 (e2.trans e3) (rv.mono (cold_mono e3))⟩
theorem ef_ixL {i : Int} (ha : EvF K ta σ M H (.lst ds)) (hb : EvF K tb σ M H (.int i)) (h : atI ds i = some d) : EvF K (tOp (rIxL K) ta tb) σ M H d := fun H1 e Q q => ha H1 e _ fun v H2 e2 r => hb.int (e.trans e2) fun H3 e3 => by
  obtain ⟨a, vs, rfl, h1, rs⟩ := r.of_lst
  obtain ⟨v, h2, rv⟩ := atI_rep rs h
  exact ⟨a, vs, i, v, rfl, rfl, sq_of (e3 _ _ (cold_ex _ _ h1)), h2, q v H3 (e2.trans e3) (rv.mono (cold_mono e3))⟩
theorem es_nil : EvFs K tNil σ M H [] := fun H1 _ _ q => q _ H1 (Ex.refl H1) .nil
theorem es_cons (h : EvF K ta σ M H d) (hr : EvFs K as σ M H ds) : EvFs K (tCons ta as) σ M H (d :: ds) := fun H1 e Q q =>
  h H1 e _ fun v H2 e2 r => hr H2 (e.trans e2) _ fun vs H3 e3 rs => q _ H3 (e2.trans e3) (.cons (r.mono (cold_mono e3)) rs)
theorem ef_tup (hM : Hot M H) (h : EvFs K as σ M H ds) (hl : ds.length ≤ 16000000) : EvF K (tTup as) σ M H (.tup ds) := fun H1 e Q q =>
  h H1 e _ fun vs H2 e2 rs => ⟨szB (by rw [rs.length]; exact hl), fun p hp => q _ _ (e2.trans (Ex.new hp)) (.tup (cold_fresh (hM.mono (e.trans e2)) hp) (rs.mono (cold_new hp)))⟩
theorem ef_lst (hM : Hot M H) (h : EvFs K as σ M H ds) (hl : ds.length ≤ 16000000) : EvF K (tLst as) σ M H (.lst ds) := fun H1 e Q q =>
  h H1 e _ fun vs H2 e2 rs => ⟨szB (by rw [rs.length]; exact hl), fun p hp => q _ _ (e2.trans (Ex.new hp)) (.lst (cold_fresh (hM.mono (e.trans e2)) hp) (rs.mono (cold_new hp)))⟩
theorem ef_lenL (h : EvF K ta σ M H (.lst ds)) : EvF K (tCB (rLenS K) (tCons ta tNil)) σ M H (.int ds.length) := fun H1 e Q q => h H1 e _ fun v H2 e2 r => by
  obtain ⟨a, vs, rfl, h1, rs⟩ := r.of_lst
  exact ⟨a, vs, rfl, .inl (sq_of (cold_ex _ _ h1)), by rw [rs.length]; exact q _ H2 e2 (.int _)⟩
theorem ef_lenT (h : EvF K ta σ M H (.tup ds)) : EvF K (tCB (rLenS K) (tCons ta tNil)) σ M H (.int ds.length) := fun H1 e Q q => h H1 e _ fun v H2 e2 r => by
  obtain ⟨a, vs, rfl, h1, rs⟩ := r.of_tup
  exact ⟨a, vs, rfl, .inr (st_of (cold_ex _ _ h1)), by rw [rs.length]; exact q _ H2 e2 (.int _)⟩
theorem ef_tupleL (hM : Hot M H) (h : EvF K ta σ M H (.lst ds)) : EvF K (tCB (rTupleS K) (tCons ta tNil)) σ M H (.tup ds) := fun H1 e Q q => h H1 e _ fun v H2 e2 r => by
  obtain ⟨a, vs, rfl, h1, rs⟩ := r.of_lst
  exact ⟨a, vs, rfl, .inl ⟨sq_of (cold_ex _ _ h1), fun p hp => q _ _ (e2.trans (Ex.new hp)) (.tup (cold_fresh (hM.mono (e.trans e2)) hp) (rs.mono (cold_new hp)))⟩⟩
theorem ef_tupleT (h : EvF K ta σ M H (.tup ds)) : EvF K (tCB (rTupleS K) (tCons ta tNil)) σ M H (.tup ds) := fun H1 e Q q => h H1 e _ fun v H2 e2 r => by
  obtain ⟨a, vs, rfl, h1, rs⟩ := r.of_tup
  exact ⟨a, vs, rfl, .inr ⟨st_of (cold_ex _ _ h1), q _ H2 e2 (.tup h1 rs)⟩⟩
theorem ef_listL (hM : Hot M H) (h : EvF K ta σ M H (.lst ds)) : EvF K (tCB (rListS K) (tCons ta tNil)) σ M H (.lst ds) := fun H1 e Q q => h H1 e _ fun v H2 e2 r => by
  obtain ⟨a, vs, rfl, h1, rs⟩ := r.of_lst
  exact ⟨a, vs, rfl, .inl (sq_of (cold_ex _ _ h1)), fun p hp => q _ _ (e2.trans (Ex.new hp)) (.lst (cold_fresh (hM.mono (e.trans e2)) hp) (rs.mono (cold_new hp)))⟩
theorem ef_listT (hM : Hot M H) (h : EvF K ta σ M H (.tup ds)) : EvF K (tCB (rListS K) (tCons ta tNil)) σ M H (.lst ds) := fun H1 e Q q => h H1 e _ fun v H2 e2 r => by
  obtain ⟨a, vs, rfl, h1, rs⟩ := r.of_tup
  exact ⟨a, vs, rfl, .inr (st_of (cold_ex _ _ h1)), fun p hp => q _ _ (e2.trans (Ex.new hp)) (.lst (cold_fresh (hM.mono (e.trans e2)) hp) (rs.mono (cold_new hp)))⟩
theorem ef_cat (hM : Hot M H) (ha : EvF K ta σ M H (.lst ds)) (hb : EvF K tb σ M H (.lst es)) (hl : ds.length + es.length ≤ 16000000) : EvF K (tOp rCat ta tb) σ M H (.lst (ds ++ es)) := fun H1 e Q q => ha H1 e _ fun v H2 e2 r => hb H2 (e.trans e2) _ fun v' H3 e3 r' => by
  obtain ⟨a, vs, rfl, h1, rs⟩ := r.of_lst
  obtain ⟨b, ws, rfl, h2, rt⟩ := r'.of_lst
  exact ⟨a, b, vs, ws, rfl, rfl, e3 _ _ (cold_ex _ _ h1), cold_ex _ _ h2, szB (by rw [rs.length, rt.length]; exact hl), fun p hp =>
    q _ _ ((e2.trans e3).trans (Ex.new hp)) (.lst (cold_fresh (hM.mono ((e.trans e2).trans e3)) hp) (((rs.mono (cold_mono e3)).append rt).mono (cold_new hp)))⟩
theorem ef_any {l : List Bool} (h : EvF K ta σ M H (.lst (bools l))) : EvF K (tCB (rAny K) (tCons ta tNil)) σ M H (.bl (l.any id)) := fun H1 e Q q => h H1 e _ fun v H2 e2 r => by
  obtain ⟨a, vs, rfl, h1, rs⟩ := r.of_lst
  have e3 := rs.to_bools
  subst e3
  exact ⟨a, l, rfl, sq_of (cold_ex _ _ h1), q _ H2 e2 (.bl _)⟩
theorem ef_all {l : List Bool} (h : EvF K ta σ M H (.lst (bools l))) : EvF K (tCB (rAll K) (tCons ta tNil)) σ M H (.bl (l.all id)) := fun H1 e Q q => h H1 e _ fun v H2 e2 r => by
  obtain ⟨a, vs, rfl, h1, rs⟩ := r.of_lst
  have e3 := rs.to_bools
  subst e3
  exact ⟨a, l, rfl, sq_of (cold_ex _ _ h1), q _ H2 e2 (.bl _)⟩
theorem ef_sum {l : List Int} (h : EvF K ta σ M H (.lst (nums l))) : EvF K (tCB (rSum K) (tCons ta tNil)) σ M H (.int l.sum) := fun H1 e Q q => h H1 e _ fun v H2 e2 r => by
  obtain ⟨a, vs, rfl, h1, rs⟩ := r.of_lst
  have e3 := rs.to_list
  subst e3
  exact ⟨a, l, rfl, sq_of (cold_ex _ _ h1), q _ H2 e2 (.int _)⟩
/-! tests -/
theorem eb_test (h : EvF K te σ M H (.bl b)) : EvB (tTest te) σ H b := fun H1 e _ q => h.bl e fun H2 e2 => ⟨b, rfl, q H2 e2⟩
theorem eb_B (h : EvF K te σ M H (.bl b)) : EvB (tB te) σ H b := fun H1 e _ q => h.bl e fun H2 e2 => ⟨b, rfl, q H2 e2⟩
theorem eb_and (h1 : EvB t σ H a) (h2 : a = true → EvB u σ H b) : EvB (tAnd t u) σ H (a && b) := et_and h1 h2
theorem eb_or (h1 : EvB t σ H a) (h2 : a = false → EvB u σ H b) : EvB (tOr t u) σ H (a || b) := et_or h1 h2
theorem eb_not (h1 : EvB t σ H a) : EvB (tNot t) σ H (!a) := et_not h1
theorem ef_andV (h1 : EvF K ta σ M H (.bl a)) (h2 : a = true → EvF K tb σ M H (.bl b)) : EvF K (tAndV ta tb) σ M H (.bl (a && b)) := fun H1 e Q q => h1.bl e fun H2 e2 => ⟨a, rfl, by
  cases a with
  | true =>
    show tb σ H2 Q
    exact (h2 rfl).bl (e.trans e2) fun H3 e3 => q _ H3 (e2.trans e3) (.bl _)
  | false =>
    show Q (.bl false) H2
    exact q _ H2 e2 (.bl _)⟩
theorem ef_orV (h1 : EvF K ta σ M H (.bl a)) (h2 : a = false → EvF K tb σ M H (.bl b)) : EvF K (tOrV ta tb) σ M H (.bl (a || b)) := fun H1 e Q q => h1.bl e fun H2 e2 => ⟨a, rfl, by
  cases a with
  | true =>
    show Q (.bl true) H2
    exact q _ H2 e2 (.bl _)
  | false =>
    show tb σ H2 Q
    exact (h2 rfl).bl (e.trans e2) fun H3 e3 => q _ H3 (e2.trans e3) (.bl _)⟩
theorem ef_notV (h1 : EvF K ta σ M H (.bl a)) : EvF K (tNotV ta) σ M H (.bl (!a)) := fun H1 e Q q => h1.bl e fun H2 e2 => ⟨a, rfl, q _ H2 e2 (.bl _)⟩
theorem ef_if (h : EvB t σ H b) (h1 : b = true → EvF K ta σ M H d) (h2 : b = false → EvF K tb σ M H d) : EvF K (tIf t ta tb) σ M H d := fun H1 e Q q => h H1 e _ fun H2 e2 => by
  cases b with
  | true =>
    show ta σ H2 Q
    exact h1 rfl H2 (e.trans e2) Q fun v H3 e3 => q v H3 (e2.trans e3)
  | false =>
    show tb σ H2 Q
    exact h2 rfl H2 (e.trans e2) Q fun v H3 e3 => q v H3 (e2.trans e3)
/-! calls -/
def SpF (K : PySem.W.Frag) (sp : Sp) (M : List Addr) (H : Hp) (ds : List Dv) (d : Dv) : Prop := ∀ vs H1, Ex H H1 → Reps K (cold M H1) vs ds → ∀ (Q : VK) (E : XK), (∀ v H2, Ex H1 H2 → Rep K (cold M H2) v d → Q v H2) → sp vs H1 Q E
theorem ef_call {sp : Sp} {E : XK} (h : EvFs K as σ M H ds) (hs : SpF K sp M H ds d) : EvF K (tCall sp [] E as) σ M H d := fun H1 e Q q =>
  h H1 e _ fun vs H2 e2 rs => by
    show sp (vs ++ []) H2 Q E
    rw [List.append_nil]
    exact hs vs H2 (e.trans e2) rs Q E fun v H3 e3 r => q v H3 (e2.trans e3) r
/-- the promise of a def that changes nothing: of such data it gives such a datum -/
def spR (K : PySem.W.Frag) (R : List Dv → Dv → Prop) : Sp := fun vs H Q _ => ∃ M ds d, Hot M H ∧ Reps K (cold M H) vs ds ∧ R ds d ∧ ∀ v H', Ex H H' → Rep K (cold M H') v d → Q v H'
theorem SpF.of {R : List Dv → Dv → Prop} (hM : Hot M H) (h : R ds d) : SpF K (spR K R) M H ds d := fun vs H1 e rs Q E q => ⟨M, ds, d, hM.mono e, rs, h, q⟩
theorem ef_callR {R : List Dv → Dv → Prop} {E : XK} (hM : Hot M H) (h : EvFs K as σ M H ds) (hr : R ds d) : EvF K (tCall (spR K R) [] E as) σ M H d := ef_call h (.of hM hr)
/-! the lists of the def's own, read -/
theorem ef_lenH {p : Addr} (S : At K B M H σ ρ) (h : ρ[i]? = some (.hot p ds)) : EvF K (tCB (rLenS K) (tCons (tVar i) tNil)) σ M H (.int ds.length) := fun H1 e Q q => by
  obtain ⟨h1, hm, vs, h2, rs⟩ := S.env.hot h
  exact ⟨.ref p, h1, p, vs, rfl, .inl (sq_of (e _ _ h2)), by rw [rs.length]; exact q _ H1 (Ex.refl _) (.int _)⟩
theorem ef_ixH {p : Addr} {j : Int} (S : At K B M H σ ρ) (h : ρ[i]? = some (.hot p ds)) (hb : EvF K tb σ M H (.int j)) (hj : atI ds j = some d) : EvF K (tOp (rIxL K) (tVar i) tb) σ M H d := fun H1 e Q q => by
  obtain ⟨h1, hm, vs, h2, rs⟩ := S.env.hot h
  obtain ⟨v, h3, rv⟩ := atI_rep rs hj
  exact ⟨.ref p, h1, hb.int e fun H2 e2 => ⟨p, vs, j, v, rfl, rfl, sq_of (e2 _ _ (e _ _ h2)), h3, q v H2 e2 (rv.mono (cold_mono (e.trans e2)))⟩⟩
/-! statements -/
variable {g : TG} {tu tw : TS} {D : Ends}
theorem sf_asg (S : At K B M H σ ρ) (h : EvF K te σ M H d) (k : ∀ σ' H', Ex H H' → At K B M H' σ' (ρ.set i (.dat d)) → D.nx σ' H') : tAsg te (gName i) D σ H :=
  h H (Ex.refl H) _ fun v H1 e r => k _ H1 e ((S.mono e).setD r)
theorem sf_ret (S : At K B M H σ ρ) (h : EvF K te σ M H d) (k : ∀ v H', Ex B H' → Rep K (cold M H') v d → D.rt v H') : tRet te D σ H := h H (Ex.refl H) _ fun v H1 e r => k v H1 (S.ex.trans e) r
theorem sf_drop (S : At K B M H σ ρ) (h : EvF K te σ M H d) (k : ∀ H', Ex H H' → At K B M H' σ ρ → D.nx σ H') : tDrop te D σ H := h H (Ex.refl H) _ fun _ H1 e _ => k H1 e (S.mono e)
theorem sf_if (S : At K B M H σ ρ) (h : EvB t σ H b) (h1 : b = true → ∀ H', Ex H H' → At K B M H' σ ρ → tu D σ H') (h2 : b = false → ∀ H', Ex H H' → At K B M H' σ ρ → tw D σ H') : tIfS t tu tw D σ H := h H (Ex.refl H) _ fun H1 e => by
  cases b with
  | true =>
    show tu D σ H1
    exact h1 rfl H1 e (S.mono e)
  | false =>
    show tw D σ H1
    exact h2 rfl H1 e (S.mono e)
theorem sf_aug {f : Int → Int → Int} {m n : Int} (S : At K B M H σ ρ) (hx : ρ[i]? = some (.dat (.int m))) (h : EvF K te σ M H (.int n)) (k : ∀ σ' H', Ex H H' → At K B M H' σ' (ρ.set i (.dat (.int (f m n)))) → D.nx σ' H') : tAug i te (ipI f) D σ H := by
  obtain ⟨v, h1, r⟩ := S.env.dat hx
  have ev := r.of_int
  subst ev
  exact ⟨.int m, h1, h.int (Ex.refl H) fun H1 e => ⟨m, n, rfl, rfl, k _ H1 e ((S.mono e).setD (.int _))⟩⟩
theorem hots_at {q : Addr} : ∀ {ρ : List Sv}, q ∈ hots ρ → ∃ (j : Nat) (ys : List Dv), ρ[j]? = some (Sv.hot q ys)
  | [], h => by cases h
  | .hot y ys :: r, h => by
    rcases List.mem_cons.1 h with z | z
    · exact ⟨0, ys, by rw [z]; rfl⟩
    · obtain ⟨j, ds, hj⟩ := hots_at (ρ := r) z
      exact ⟨j + 1, ds, hj⟩
  | .dat _ :: r, h => by obtain ⟨j, ds, hj⟩ := hots_at (ρ := r) h; exact ⟨j + 1, ds, hj⟩
  | .val _ :: r, h => by obtain ⟨j, ds, hj⟩ := hots_at (ρ := r) h; exact ⟨j + 1, ds, hj⟩
  | .any :: r, h => by obtain ⟨j, ds, hj⟩ := hots_at (ρ := r) h; exact ⟨j + 1, ds, hj⟩
theorem sf_augN {m n : Nat} (S : At K B M H σ ρ) (hx : ρ[i]? = some (.dat (nat m))) (h : EvF K te σ M H (nat n)) (k : ∀ σ' H', Ex H H' → At K B M H' σ' (ρ.set i (.dat (nat (m + n)))) → D.nx σ' H') : tAug i te (ipI fun i j => i + j) D σ H :=
  sf_aug S hx h fun σ' H' e S' => k σ' H' e (by
    have z : nat (m + n) = .int ((m : Int) + (n : Int)) := by unfold nat; rw [Int.natCast_add]
    rw [z]
    exact S')
/-- x = [..]: a new list of the def's own -/
theorem sf_new (S : At K B M H σ ρ) (h : EvFs K as σ M H ds) (hl : ds.length ≤ 16000000) (hi : i < ρ.length)
    (k : ∀ p σ' H', H p = none → p ∉ M → Ex H H' → At K B (p :: M) H' σ' (ρ.set i (.hot p ds)) → D.nx σ' H') : tAsg (tLst as) (gName i) D σ H :=
  h H (Ex.refl H) _ fun vs H1 e rs => ⟨szB (by rw [rs.length]; exact hl), fun p hp => by
    have hp0 : H p = none := fresh_back e hp
    have S1 := S.mono e
    refine k p _ _ hp0 (S1.heat.fresh hp) (e.trans (Ex.new hp)) ?_
    have hne : ∀ q ∈ hots ρ, q ≠ p := fun q hq z => by
      subst z
      obtain ⟨j, ys, hj⟩ := hots_at hq
      obtain ⟨_, _, ws, hw, _⟩ := S1.env.hot hj
      rw [hp] at hw
      cases hw
    obtain ⟨nd, sub⟩ := hots_set_new (i := i) (ds := ds) hne S.nd
    have E1 : REnv K (p :: M) (upd H1 p (.lst vs)) σ ρ := S1.env.move (cold_more hp) fun q hq hm => ⟨List.mem_cons_of_mem _ hm, fun ws hw => by rw [upd_ne (hne q hq)]; exact hw⟩
    refine ⟨(S.ex.trans e).trans (Ex.new hp), S1.heat.new, E1.set (s := .hot p ds) ⟨rfl, List.mem_cons_self, vs, upd_same, rs.mono (cold_more hp)⟩ i, nd, fun q hq => ?_⟩
    rcases sub q hq with z | z
    · rw [z]; exact fresh_back (S.ex.trans e) hp
    · exact S.out q z⟩
theorem nd_hots {p : Addr} {ds es : List Dv} : ∀ {ρ : List Sv} {i j : Nat}, (hots ρ).Nodup → ρ[i]? = some (.hot p ds) → ρ[j]? = some (.hot p es) → i = j
  | [], _, _, _, h, _ => (none_at h).elim
  | x :: r, 0, 0, _, _, _ => rfl
  | x :: r, 0, j + 1, nd, h, h' => by
    have e : x = .hot p ds := Option.some.inj h
    subst e
    exact absurd (mem_hots (ρ := r) (i := j) h') (List.nodup_cons.1 nd).1
  | x :: r, i + 1, 0, nd, h, h' => by
    have e : x = .hot p es := Option.some.inj h'
    subst e
    exact absurd (mem_hots (ρ := r) (i := i) h) (List.nodup_cons.1 nd).1
  | x :: r, i + 1, j + 1, nd, h, h' => by
    have ndr : (hots r).Nodup := by
      cases x with
      | hot q _ => exact (List.nodup_cons.1 nd).2
      | dat _ => exact nd
      | val _ => exact nd
      | any => exact nd
    rw [nd_hots (ρ := r) (i := i) (j := j) ndr h h']
/-- a hot list is changed -/
theorem REnv.put {p : Addr} {ws : List V} {es : List Dv} (rs : Reps K (cold M H) ws es) : ∀ {σ : L2.St} {ρ : List Sv} {i : Nat} {ds : List Dv}, REnv K M H σ ρ → (hots ρ).Nodup → ρ[i]? = some (.hot p ds) → REnv K M (upd H p (.lst ws)) σ (ρ.set i (.hot p es)) := by
  intro σ ρ i ds E nd hi
  obtain ⟨h1, hm, vs, h2, _⟩ := E.hot hi
  have c : cold M (upd H p (.lst ws)) = cold M H := cold_upd hm
  clear h2
  induction E generalizing i with
  | nil => simp at hi
  | @cons o s σ ρ h t ih =>
    have mv : ∀ {o : Option V} {s : Sv}, (∀ q ys, s = .hot q ys → q ≠ p) → SlotR K M H o s → SlotR K M (upd H p (.lst ws)) o s := fun {o s} hs h =>
      h.move (by rw [c]; exact Ex.refl _) fun q ys e hq => ⟨hq, fun zs hz => by rw [upd_ne (hs q ys e)]; exact hz⟩
    cases i with
    | zero =>
      have e : s = .hot p ds := Option.some.inj hi
      subst e
      have np := (List.nodup_cons.1 nd).1
      refine .cons ⟨h.1, hm, ws, upd_same, by rw [c]; exact rs⟩ (t.move (by rw [c]; exact Ex.refl _) fun q hq hqm => ⟨hqm, fun zs hz => ?_⟩)
      have hqp : q ≠ p := fun z => np (by rw [← z]; exact hq)
      rw [upd_ne hqp]
      exact hz
    | succ i =>
      have ndr : (hots ρ).Nodup := by
        cases s with
        | hot q _ => exact (List.nodup_cons.1 nd).2
        | dat _ => exact nd
        | val _ => exact nd
        | any => exact nd
      refine .cons (mv (fun q ys e => ?_) h) (ih ndr hi (by simpa using h1))
      subst e
      exact fun z => (List.nodup_cons.1 nd).1 (z ▸ mem_hots (ρ := ρ) (i := i) hi)
theorem At.put {p : Addr} {ws : List V} {es : List Dv} (S : At K B M H σ ρ) (hi : ρ[i]? = some (.hot p ds)) (rs : Reps K (cold M H) ws es) : At K B M (upd H p (.lst ws)) σ (ρ.set i (.hot p es)) :=
  ⟨Ex.mut S.ex (S.out p (mem_hots hi)), S.heat.upd, S.env.put rs S.nd hi, by rw [hots_set_same hi]; exact S.nd, fun q hq => S.out q (by rw [hots_set_same hi] at hq; exact hq)⟩
/-- xs.append(e), xs a list of the def's own -/
theorem sf_app {j : Nat} {p : Addr} (S : At K B M H σ ρ) (hj : ρ[j]? = some (.hot p ds)) (hz : ds.length < 16000000) (h : EvF K te σ M H d)
    (k : ∀ H', At K B M H' σ (ρ.set j (.hot p (ds ++ [d]))) → D.nx σ H') : tDrop (tBM K "list" rAppend (tVar j) (tCons te tNil)) D σ H := by
  obtain ⟨h1, hm, vs, h2, rs⟩ := S.env.hot hj
  refine ⟨.ref p, h1, .inl ⟨rfl, vs, sq_of h2⟩, h H (Ex.refl H) _ fun v H1 e r => ⟨p, vs, v, rfl, rfl, e _ _ h2, szL (by rw [rs.length]; exact hz), ?_⟩⟩
  exact k _ ((S.mono e).put hj ((rs.mono (cold_mono e)).snoc r))
/-- xs[k] = e -/
theorem sf_setL {j : Nat} {p : Addr} {n : Nat} {m : Int} (S : At K B M H σ ρ) (hj : ρ[j]? = some (.hot p ds)) (h : EvF K te σ M H d) (hi : EvF K tb σ M H (.int m)) (hn : ixN ds.length m = some n)
    (k : ∀ H', At K B M H' σ (ρ.set j (.hot p (ds.set n d))) → D.nx σ H') : tAsg te (gSub (tVar j) tb rSetL) D σ H := by
  obtain ⟨h1, hm, vs, h2, rs⟩ := S.env.hot hj
  refine h H (Ex.refl H) _ fun v H1 e r => ⟨.ref p, h1, hi.int e fun H2 e2 => ⟨p, vs, m, n, rfl, rfl, e2 _ _ (e _ _ h2), by rw [rs.length]; exact hn, ?_⟩⟩
  exact k _ ((S.mono (e.trans e2)).put hj (Reps.set (i := n) (r.mono (cold_mono e2)) n (rs.mono (cold_mono (e.trans e2)))))
/-- xs.pop(), its value taken -/
theorem sf_pop {j : Nat} {p : Addr} (S : At K B M H σ ρ) (hj : ρ[j]? = some (.hot p (ds ++ [d]))) (k : ∀ σ' H', At K B M H' σ' ((ρ.set j (.hot p ds)).set i (.dat d)) → D.nx σ' H') : tAsg (tBM0 K "list" rPop (tVar j)) (gName i) D σ H := by
  obtain ⟨h1, hm, vs, h2, rs⟩ := S.env.hot hj
  have hl : vs.length = ds.length + 1 := by rw [rs.length]; simp
  obtain ⟨v, hv, rv⟩ := rs.get (i := ds.length) (d := d) (by simp)
  have rd : Reps K (cold M H) vs.dropLast ds := by
    have z := rs.dropLast
    rw [List.dropLast_concat] at z
    exact z
  have S2 := S.put hj rd
  have c : cold M (upd H p (.lst vs.dropLast)) = cold M H := cold_upd hm
  refine ⟨.ref p, h1, .inl ⟨rfl, vs, sq_of h2⟩, p, vs, v, rfl, rfl, h2, by rw [hl]; exact hv, ?_⟩
  exact k _ _ (S2.setD (by rw [c]; exact rv))
theorem sf_popD {j : Nat} {p : Addr} (S : At K B M H σ ρ) (hj : ρ[j]? = some (.hot p (ds ++ [d]))) (k : ∀ H', At K B M H' σ (ρ.set j (.hot p ds)) → D.nx σ H') : tDrop (tBM0 K "list" rPop (tVar j)) D σ H := by
  obtain ⟨h1, hm, vs, h2, rs⟩ := S.env.hot hj
  have hl : vs.length = ds.length + 1 := by rw [rs.length]; simp
  obtain ⟨v, hv, rv⟩ := rs.get (i := ds.length) (d := d) (by simp)
  have rd : Reps K (cold M H) vs.dropLast ds := by
    have z := rs.dropLast
    rw [List.dropLast_concat] at z
    exact z
  refine ⟨.ref p, h1, .inl ⟨rfl, vs, sq_of h2⟩, p, vs, v, rfl, rfl, h2, by rw [hl]; exact hv, ?_⟩
  exact k _ (S.put hj rd)
/-- a list of the def's own becomes a datum: it is changed no more -/
theorem At.freeze {p : Addr} (S : At K B (p :: M) H σ ρ) (hn : p ∉ M) (hi : ρ[i]? = some (.hot p ds)) : At K B M H σ (ρ.set i (.dat (.lst ds))) := by
  obtain ⟨h1, hm, vs, h2, rs⟩ := S.env.hot hi
  have E1 : REnv K (p :: M) H σ (ρ.set i .any) := S.env.say fun _ _ => trivial
  have hsub := hots_set_sub (s := .any) rfl ρ i
  have nd1 : (hots (ρ.set i .any)).Nodup := S.nd.sublist hsub
  have np : p ∉ hots (ρ.set i .any) := by
    intro hq
    have key : ∀ {ρ : List Sv} {i : Nat}, (hots ρ).Nodup → ρ[i]? = some (.hot p ds) → p ∉ hots (ρ.set i .any) := by
      intro ρ
      induction ρ with
      | nil => intro i _ h; simp at h
      | cons x r ih =>
        intro i nd h
        cases i with
        | zero =>
          have e : x = .hot p ds := Option.some.inj h
          subst e
          exact (List.nodup_cons.1 nd).1
        | succ i =>
          have hr := mem_hots (ρ := r) (i := i) h
          show p ∉ hots (x :: r.set i .any)
          cases x with
          | hot q _ =>
            intro hz
            rcases List.mem_cons.1 hz with z | z
            · exact (List.nodup_cons.1 nd).1 (z ▸ hr)
            · exact ih (List.nodup_cons.1 nd).2 h z
          | dat _ => exact ih nd h
          | val _ => exact ih nd h
          | any => exact ih nd h
    exact key S.nd hi hq
  have E2 : REnv K M H σ (ρ.set i .any) := E1.move cold_less fun q hq hqm => ⟨(List.mem_cons.1 hqm).elim (fun z => absurd (z ▸ hq) np) id, fun _ h => h⟩
  have hM : Hot M H := ⟨fun m hm => S.heat.all m (List.mem_cons_of_mem _ hm)⟩
  have E3 : REnv K M H σ ((ρ.set i .any).set i (.dat (.lst ds))) := E2.say fun o ho => by
    rw [h1] at ho
    cases ho
    exact ⟨_, rfl, Rep.lst (cold_of hn h2) (rs.mono cold_less)⟩
  rw [List.set_set] at E3
  have hsub2 := hots_set_sub (s := .dat (.lst ds)) rfl ρ i
  exact ⟨S.ex, hM, E3, S.nd.sublist hsub2, fun q hq => S.out q (hsub2.subset hq)⟩
/-! loops -/
/-- the heap without the def's own lists: what no turn changes -/
def stays (ρ : List Sv) (H : Hp) : Hp := cold (hots ρ) H
theorem hots_in (E : REnv K M H σ ρ) : ∀ p ∈ hots ρ, p ∈ M := by
  induction E with
  | nil => intro p hp; cases hp
  | @cons o s σ ρ h t ih =>
    intro p hp
    cases s with
    | hot q ds =>
      rcases List.mem_cons.1 hp with e | e
      · rw [e]; exact h.2.1
      · exact ih p e
    | dat _ => exact ih p hp
    | val _ => exact ih p hp
    | any => exact ih p hp
theorem At.base (S : At K B M H σ ρ) : Ex B (stays ρ H) := fun x o h => cold_of (fun z => by rw [S.out x z] at h; cases h) (S.ex _ _ h)
theorem At.rest (S : At K B M H σ ρ) : At K (stays ρ H) M H σ ρ := ⟨cold_ex, S.heat, S.env, S.nd, fun p hp => by unfold stays cold; rw [if_pos hp]⟩
theorem At.back {B' : Hp} (S : At K B' M H σ ρ) (e : Ex B B') : At K B M H σ ρ := ⟨e.trans S.ex, S.heat, S.env, S.nd, fun p hp => fresh_back e (S.out p hp)⟩
/-- what a turn starts with and leaves: P by the turn and the slots -/
def Turns (K : PySem.W.Frag) (B : Hp) (M : List Addr) (P : Nat → List Sv → Prop) (i : Nat) : L2.St → Hp → Prop := fun σ H => ∃ ρ, P i ρ ∧ At K B M H σ ρ
structure LoopF (K : PySem.W.Frag) (B : Hp) (M : List Addr) (ds : List Dv) (j : Nat) (tu : TS) (D : Ends) (ρ : List Sv) (P : Nat → List Sv → Prop) : Prop where
  zero : P 0 ρ
  turn : ∀ B' i d σ' H' ρ', Ex B B' → ds[i]? = some d → P i ρ' → At K B' M H' σ' (ρ'.set j (.dat d)) → tu { D with nx := Turns K B' M P (i + 1), ct := Turns K B' M P (i + 1), bk := D.nx } σ' H'
  done : ∀ σ' H' ρ', P ds.length ρ' → At K B M H' σ' ρ' → D.nx σ' H'
theorem loop_keep {H1 : Hp} (S : At K B M H1 σ ρ) {σ' : L2.St} {ρ' : List Sv} (S' : At K (stays ρ H1) M H' σ' ρ') : Ex (cold M H1) (cold M H') := fun x o h => by
  obtain ⟨h1, h2⟩ := cold_some.mp h
  exact cold_of h1 (S'.ex _ _ (cold_of (fun z => h1 (hots_in S.env x z)) h2))
theorem sf_forL {j : Nat} {tl : TE} (S : At K B M H σ ρ) (h : EvF K tl σ M H (.lst ds)) (P : Nat → List Sv → Prop) (L : LoopF K B M ds j tu D ρ P) : tFor (iList K tl) (gName j) tu D σ H := by
  refine h H (Ex.refl H) _ fun v H1 e r => ?_
  obtain ⟨a, vs, rfl, h1, rs⟩ := r.of_lst
  have S1 := S.mono e
  refine ⟨a, rfl, ⟨vs, sq_of (cold_ex _ _ h1)⟩, for_list (K := K) (xs := vs) (Turns K (stays ρ H1) M P) ⟨ρ, L.zero, S1.rest⟩ (fun i σ' H' _ ⟨ρ', _, S'⟩ => sq_of (cold_ex _ _ (loop_keep S1 S' _ _ h1))) (fun i x σ' H' hx ⟨ρ', hP, S'⟩ => ?_)
    (fun σ' H' ⟨ρ', hP, S'⟩ => L.done σ' H' ρ' (by rw [← rs.length]; exact hP) (S'.back S1.base))⟩
  obtain ⟨d, hd, rd⟩ := rs.getV hx
  exact L.turn _ i d _ H' ρ' S1.base hd hP (S'.setD (rd.mono (loop_keep S1 S')))
theorem sf_forT {j : Nat} {tl : TE} (S : At K B M H σ ρ) (h : EvF K tl σ M H (.tup ds)) (P : Nat → List Sv → Prop) (L : LoopF K B M ds j tu D ρ P) : tFor (iTup K tl) (gName j) tu D σ H := by
  refine h H (Ex.refl H) _ fun v H1 e r => ?_
  obtain ⟨a, vs, rfl, h1, rs⟩ := r.of_tup
  have S1 := S.mono e
  refine ⟨a, rfl, ⟨vs, st_of (cold_ex _ _ h1)⟩, for_tup (K := K) (xs := vs) (Turns K (stays ρ H1) M P) ⟨ρ, L.zero, S1.rest⟩ (fun i σ' H' _ ⟨ρ', _, S'⟩ => st_of (cold_ex _ _ (loop_keep S1 S' _ _ h1))) (fun i x σ' H' hx ⟨ρ', hP, S'⟩ => ?_)
    (fun σ' H' ⟨ρ', hP, S'⟩ => L.done σ' H' ρ' (by rw [← rs.length]; exact hP) (S'.back S1.base))⟩
  obtain ⟨d, hd, rd⟩ := rs.getV hx
  exact L.turn _ i d _ H' ρ' S1.base hd hP (S'.setD (rd.mono (loop_keep S1 S')))
def upto (n : Nat) : List Dv := (List.range n).map fun i => .int (i : Nat)
theorem upto_get {n i : Nat} (h : i < n) : (upto n)[i]? = some (.int (i : Nat)) := by unfold upto; simp [h]
theorem upto_of {n i : Nat} {d : Dv} (h : (upto n)[i]? = some d) : i < n ∧ d = .int (i : Nat) := by
  have hi : i < n := by
    have := (List.getElem?_eq_some_iff.1 h).1
    unfold upto at this
    simpa using this
  rw [upto_get hi] at h
  exact ⟨hi, (Option.some.inj h).symm⟩
theorem upto_len (n : Nat) : (upto n).length = n := by unfold upto; simp
theorem sf_forR {j : Nat} {n : Int} (S : At K B M H σ ρ) (h : EvFs K as σ M H [.int n]) (hn : n < 2 ^ 62) (hn0 : -(2 ^ 62) ≤ n) (P : Nat → List Sv → Prop) (L : LoopF K B M (upto n.toNat) j tu D ρ P) : tFor (iRng1 as) (gName j) tu D σ H := by
  refine h H (Ex.refl H) _ fun vs H1 e rs => ?_
  obtain rfl : vs = [.int n] := by cases rs with | cons r t => cases t; rw [r.of_int]
  have S1 := S.mono e
  refine ⟨n, rfl, hn0, hn, for_range (lo := 0) (n := n.toNat) (Turns K (stays ρ H1) M P) ⟨ρ, L.zero, S1.rest⟩ (fun i σ' H' hi ⟨ρ', hP, S'⟩ => ?_) (fun σ' H' ⟨ρ', hP, S'⟩ => L.done σ' H' ρ' (by rw [upto_len]; exact hP) (S'.back S1.base))⟩
  have e0 := Int.zero_add (i : Int)
  show tu _ (σ'.set j (some (.int ((0 : Int) + (i : Int))))) H'
  rw [e0]
  exact L.turn _ i _ _ H' ρ' S1.base (upto_get hi) hP (S'.setD (.int _))
def fromto (m : Int) (n : Nat) : List Dv := (List.range n).map fun i => .int (m + (i : Nat))
theorem fromto_get {m : Int} {n i : Nat} (h : i < n) : (fromto m n)[i]? = some (.int (m + (i : Nat))) := by unfold fromto; simp [h]
theorem fromto_len (m : Int) (n : Nat) : (fromto m n).length = n := by unfold fromto; simp
theorem fromto_of {m : Int} {n i : Nat} {d : Dv} (h : (fromto m n)[i]? = some d) : i < n ∧ d = .int (m + (i : Nat)) := by
  have hi : i < n := by
    have := (List.getElem?_eq_some_iff.1 h).1
    unfold fromto at this
    simpa using this
  rw [fromto_get hi] at h
  exact ⟨hi, (Option.some.inj h).symm⟩
theorem sf_forR2 {j : Nat} {m n : Int} (S : At K B M H σ ρ) (h : EvFs K as σ M H [.int m, .int n]) (hb : -(2 ^ 62) ≤ m ∧ m < 2 ^ 62 ∧ -(2 ^ 62) ≤ n ∧ n < 2 ^ 62) (P : Nat → List Sv → Prop) (L : LoopF K B M (fromto m (n - m).toNat) j tu D ρ P) : tFor (iRng2 as) (gName j) tu D σ H := by
  refine h H (Ex.refl H) _ fun vs H1 e rs => ?_
  obtain rfl : vs = [.int m, .int n] := by
    cases rs with
    | cons r t =>
      cases t with
      | cons r2 t2 => cases t2; rw [r.of_int, r2.of_int]
  have S1 := S.mono e
  refine ⟨m, n, rfl, hb, for_range (lo := m) (n := (n - m).toNat) (Turns K (stays ρ H1) M P) ⟨ρ, L.zero, S1.rest⟩ (fun i σ' H' hi ⟨ρ', hP, S'⟩ => ?_) (fun σ' H' ⟨ρ', hP, S'⟩ => L.done σ' H' ρ' (by rw [fromto_len]; exact hP) (S'.back S1.base))⟩
  exact L.turn _ i _ _ H' ρ' S1.base (fromto_get hi) hP (S'.setD (.int _))
/-- while: P by the measure and the slots -/
theorem sf_while (S : At K B M H σ ρ) (P : Nat → List Sv → Prop) (m0 : Nat) (h0 : P m0 ρ)
    (hs : ∀ m σ' H' ρ', P m ρ' → At K B M H' σ' ρ' → ∃ b, EvB t σ' H' b ∧ (b = true → ∀ H1, At K B M H1 σ' ρ' → tu { D with nx := fun σ2 H2 => ∃ m', m' < m ∧ Turns K B M P m' σ2 H2, ct := fun σ2 H2 => ∃ m', m' < m ∧ Turns K B M P m' σ2 H2, bk := D.nx } σ' H1) ∧ (b = false → ∀ H1, At K B M H1 σ' ρ' → D.nx σ' H1)) : tWhile t tu D σ H :=
  s_while (Turns K B M P) m0 ⟨ρ, h0, S⟩ fun m σ' H' ⟨ρ', hP, S'⟩ => by
    obtain ⟨b, hb, h1, h2⟩ := hs m σ' H' ρ' hP S'
    exact ⟨b, hb, fun z H1 e => ⟨_, fun _ _ n => n, h1 z H1 (S'.mono e)⟩, fun z H1 e => h2 z H1 (S'.mono e)⟩
theorem Rep.hot {p : Addr} {vs : List V} (hn : p ∉ M) (hp : H p = some (.lst vs)) (rs : Reps K (cold (p :: M) H) vs ds) : Rep K (cold M H) (.ref p) (.lst ds) := .lst (cold_of hn hp) (rs.mono cold_less)
/-! ### a comprehension over a list: a test, a datum -/
def pick (p : Nat → Bool) (F : Nat → Dv) (n : Nat) : List Dv := ((List.range n).filter p).map F
theorem pick_yes {p : Nat → Bool} {F : Nat → Dv} {i : Nat} (hp : p i = true) : pick p F (i + 1) = pick p F i ++ [F i] := by
  unfold pick
  rw [List.range_succ, List.filter_append, List.map_append]
  simp [hp]
theorem pick_no {p : Nat → Bool} {F : Nat → Dv} {i : Nat} (hp : p i = false) : pick p F (i + 1) = pick p F i := by
  unfold pick
  rw [List.range_succ, List.filter_append, List.map_append]
  simp [hp]
theorem pick_len {p : Nat → Bool} {F : Nat → Dv} {n : Nat} : (pick p F n).length ≤ n := by
  unfold pick
  rw [List.length_map]
  exact Nat.le_trans (List.length_filter_le p _) (by rw [List.length_range]; exact Nat.le_refl _)
theorem pick_list {α : Type} (p : α → Bool) (F : α → Dv) (g : Nat → Option α) : ∀ xs : List α, (∀ i, i < xs.length → g i = xs[i]?) → pick (fun i => ((g i).map p).getD false) (fun i => ((g i).map F).getD .non) xs.length = (xs.filter p).map F := by
  intro xs
  have key : ∀ n, n ≤ xs.length → (∀ i, i < xs.length → g i = xs[i]?) → pick (fun i => ((g i).map p).getD false) (fun i => ((g i).map F).getD .non) n = ((xs.take n).filter p).map F := by
    intro n
    induction n with
    | zero => intro _ _; rfl
    | succ n ih =>
      intro hn hg
      have hx : g n = some xs[n] := by rw [hg n hn]; exact List.getElem?_eq_getElem hn
      have e : xs.take (n + 1) = xs.take n ++ [xs[n]] := by rw [List.take_add_one, List.getElem?_eq_getElem hn]; rfl
      rw [e, List.filter_append, List.map_append]
      cases hp : p xs[n] with
      | true =>
        rw [pick_yes (by rw [hx]; exact hp), ih (by omega) hg, hx]
        simp [hp]
      | false =>
        rw [pick_no (by rw [hx]; exact hp), ih (by omega) hg]
        simp [hp]
  intro hg
  rw [key _ (Nat.le_refl _) hg, List.take_length]
theorem lc_main {Q : VK} {j : Nat} {vs : List Nat} {ds : List Dv} {xs : List V} {J : It} {H1 : Hp} (p : Nat → Bool) (F : Nat → Dv) (hM : Hot M H1) (rs : Reps K (cold M H1) xs ds) (hz : ds.length ≤ 16000000)
    (hw : ∀ x, wipe ((wipe σ vs).set j (some x)) vs = wipe σ vs)
    (ht : ∀ (i : Nat) x d H2, Ex H1 H2 → ds[i]? = some d → Rep K (cold M H2) x d → EvB t ((wipe σ vs).set j (some x)) H2 (p i))
    (he : ∀ (i : Nat) x d H2 M', Ex H1 H2 → (∀ m ∈ M, m ∈ M') → Hot M' H2 → Ex (cold M H1) (cold M' H2) → ds[i]? = some d → Rep K (cold M' H2) x d → p i = true → EvF K te ((wipe σ vs).set j (some x)) M' H2 (F i))
    (lp : ∀ (Dl : Addr) (Pv : Nat → Hp → Prop), Pv 0 (upd H1 Dl (.lst [])) → (∀ i H', Pv i H' → Ex H1 H') →
      (∀ (i : Nat) x H', xs[i]? = some x → Pv i H' → gName j x (wipe σ vs) H' fun σ2 H2 => wipe σ2 vs = wipe σ vs ∧ t σ2 H2 fun b H3 => if b = true then te σ2 H3 fun y H4 => ∃ acc, H4 Dl = some (.lst acc) ∧ acc.length < sizeLine ∧ Pv (i + 1) (upd H4 Dl (.lst (acc ++ [y]))) else Pv (i + 1) H3) →
      (∀ H', Pv xs.length H' → Q (.ref Dl) H') → ∃ W : Nat → Nat → Hp → Prop, (∃ m, W 0 m (upd H1 Dl (.lst []))) ∧ ∀ i m H, W i m H → (J.stop i H ∧ Q (.ref Dl) H) ∨ (J.go i H ∧ ∃ Nx : Hp → Prop, (∀ H', Nx H' → ∃ m', m' < m ∧ W (i + 1) m' H') ∧ ∀ x H', J.yld i H x H' → gName j x (wipe σ vs) H' fun σ2 H2 => wipe σ2 vs = wipe σ vs ∧ t σ2 H2 fun b H3 =>
        if b = true then te σ2 H3 fun y H4 => ∃ acc, H4 Dl = some (.lst acc) ∧ acc.length < sizeLine ∧ Nx (upd H4 Dl (.lst (acc ++ [y]))) else Nx H3))
    (q : ∀ Dl acc H', H1 Dl = none → Ex H1 H' → H' Dl = some (.lst acc) → Reps K (cold (Dl :: M) H') acc (pick p F ds.length) → Q (.ref Dl) H') :
    ∀ Dl, H1 Dl = none → ∃ W : Nat → Nat → Hp → Prop, (∃ m, W 0 m (upd H1 Dl (.lst []))) ∧ ∀ i m H, W i m H → (J.stop i H ∧ Q (.ref Dl) H) ∨ (J.go i H ∧ ∃ Nx : Hp → Prop, (∀ H', Nx H' → ∃ m', m' < m ∧ W (i + 1) m' H') ∧ ∀ x H', J.yld i H x H' → gName j x (wipe σ vs) H' fun σ2 H2 => wipe σ2 vs = wipe σ vs ∧ t σ2 H2 fun b H3 =>
        if b = true then te σ2 H3 fun y H4 => ∃ acc, H4 Dl = some (.lst acc) ∧ acc.length < sizeLine ∧ Nx (upd H4 Dl (.lst (acc ++ [y]))) else Nx H3) := fun Dl hD => by
  refine lp Dl (fun i H' => Ex H1 H' ∧ ∃ acc, H' Dl = some (.lst acc) ∧ Reps K (cold (Dl :: M) H') acc (pick p F i)) ⟨Ex.new hD, [], upd_same, .nil⟩ (fun i H' q => q.1) (fun i x H' hx ⟨e, acc, ha, ra⟩ => ?_) (fun H' ⟨e, acc, ha, ra⟩ => ?_)
  · obtain ⟨d, hd, rd⟩ := rs.getV hx
    have hc : Ex (cold M H1) (cold (Dl :: M) H') := fun y o hy => by
      obtain ⟨y1, y2⟩ := cold_some.mp hy
      exact cold_some.mpr ⟨fun z => (List.mem_cons.1 z).elim (ne_of_none y2 hD) y1, e _ _ y2⟩
    have hi : i < ds.length := (List.getElem?_eq_some_iff.1 hd).1
    have hl : acc.length ≤ i := by
      rw [ra.length]
      exact pick_len
    refine ⟨hw x, ht i x d H' e hd (rd.mono (hc.trans cold_less)) H' (Ex.refl _) _ fun H3 e3 => ?_⟩
    cases hp : p i with
    | false =>
      show Ex H1 H3 ∧ _
      refine ⟨e.trans e3, acc, e3 _ _ ha, ?_⟩
      rw [pick_no hp]
      exact ra.mono (cold_mono e3)
    | true =>
      show te _ H3 _
      have hh : Hot (Dl :: M) H3 := ((hM.mono e).cons ha).mono e3
      refine he i x d H3 (Dl :: M) (e.trans e3) (fun m hm => List.mem_cons_of_mem _ hm) hh (hc.trans (cold_mono e3)) hd (rd.mono (hc.trans (cold_mono e3))) hp H3 (Ex.refl _) _ fun y H4 e4 ry => ?_
      refine ⟨acc, e4 _ _ (e3 _ _ ha), szL (by omega), ?_⟩
      refine ⟨Ex.mut ((e.trans e3).trans e4) hD, acc ++ [y], upd_same, ?_⟩
      rw [pick_yes hp, cold_upd List.mem_cons_self]
      exact (ra.mono ((cold_mono e3).trans (cold_mono e4))).snoc ry
  · refine q Dl acc H' hD e ha ?_
    rw [← rs.length]
    exact ra
theorem wipe_one {j : Nat} {x : Option V} (σ : L2.St) : (wipe σ [j]).set j x = σ.set j x := by
  show (σ.set j none).set j x = σ.set j x
  rw [List.set_set]
theorem wipe_back {j : Nat} {x : Option V} (σ : L2.St) : wipe ((wipe σ [j]).set j x) [j] = wipe σ [j] := by
  rw [wipe_one]
  show (σ.set j x).set j none = σ.set j none
  rw [List.set_set]
theorem At.other (S : At K B M H σ ρ) (e : Ex H H') (hs : ∀ m ∈ M, m ∈ M') (hM : Hot M' H') (hc : Ex (cold M H) (cold M' H')) : At K B M' H' σ ρ :=
  ⟨S.ex.trans e, hM, S.env.move hc fun q _ hm => ⟨hs q hm, fun vs h => e _ _ h⟩, S.nd, S.out⟩
theorem ef_lcL {α : Type} {xs : List α} {enc : α → Dv} {tl : TE} {j : Nat} (p : α → Bool) (F : α → Dv) (S : At K B M H σ ρ) (h : EvF K tl σ M H (.lst (xs.map enc))) (hz : xs.length ≤ 16000000)
    (ht : ∀ x M' H' σ', x ∈ xs → At K B M' H' σ' (ρ.set j (.dat (enc x))) → EvB t σ' H' (p x))
    (he : ∀ x M' H' σ', x ∈ xs → At K B M' H' σ' (ρ.set j (.dat (enc x))) → p x = true → EvF K te σ' M' H' (F x)) :
    EvF K (tLc (iList K tl) (gName j) t te [j]) σ M H (.lst ((xs.filter p).map F)) := fun H1 e Q q => h H1 e _ fun v H2 e2 r => by
  obtain ⟨a, vs, rfl, h1, rs⟩ := r.of_lst
  refine ⟨a, rfl, ⟨vs, sq_of (cold_ex _ _ h1)⟩, ?_⟩
  have S2 := S.mono (e.trans e2)
  have dec : ∀ {i : Nat} {d : Dv}, (xs.map enc)[i]? = some d → ∃ x, xs[i]? = some x ∧ x ∈ xs ∧ d = enc x := fun {i d} hd => by
    rw [List.getElem?_map] at hd
    cases hx : xs[i]? with
    | none => rw [hx] at hd; cases hd
    | some x => rw [hx] at hd; exact ⟨x, rfl, List.mem_of_getElem? hx, (Option.some.inj hd).symm⟩
  refine lc_main (vs := [j]) (fun i => ((xs[i]?).map p).getD false) (fun i => ((xs[i]?).map F).getD .non) S2.heat rs (by rw [List.length_map]; exact hz) (fun x => wipe_back σ) (fun i x d H3 e3 hd rx => ?_) (fun i x d H3 M' e3 hs hh hc hd rx hp => ?_)
    (fun Dl Pv h0 hx hs hd => lc_list (K := K) (a := a) (xs := vs) Pv h0 (fun i H' _ q => sq_of (hx i H' q _ _ (cold_ex _ _ h1))) hs hd) (fun Dl acc H' hD e3 ha ra => ?_)
  · obtain ⟨y, hy, hm, rfl⟩ := dec hd
    rw [wipe_one, hy]
    exact ht y M H3 _ hm ((S2.mono e3).setD rx)
  · obtain ⟨y, hy, hm, rfl⟩ := dec hd
    rw [hy] at hp
    rw [wipe_one, hy]
    exact he y M' H3 _ hm ((S2.other e3 hs hh hc).setD rx) hp
  · rw [List.length_map, pick_list p F (fun i => xs[i]?) xs fun _ _ => rfl] at ra
    exact q _ H' (e2.trans e3) (Rep.hot (S2.heat.fresh hD) ha ra)
theorem ef_lcT {α : Type} {xs : List α} {enc : α → Dv} {tl : TE} {j : Nat} (p : α → Bool) (F : α → Dv) (S : At K B M H σ ρ) (h : EvF K tl σ M H (.tup (xs.map enc))) (hz : xs.length ≤ 16000000)
    (ht : ∀ x M' H' σ', x ∈ xs → At K B M' H' σ' (ρ.set j (.dat (enc x))) → EvB t σ' H' (p x))
    (he : ∀ x M' H' σ', x ∈ xs → At K B M' H' σ' (ρ.set j (.dat (enc x))) → p x = true → EvF K te σ' M' H' (F x)) :
    EvF K (tLc (iTup K tl) (gName j) t te [j]) σ M H (.lst ((xs.filter p).map F)) := fun H1 e Q q => h H1 e _ fun v H2 e2 r => by
  obtain ⟨a, vs, rfl, h1, rs⟩ := r.of_tup
  refine ⟨a, rfl, ⟨vs, st_of (cold_ex _ _ h1)⟩, ?_⟩
  have S2 := S.mono (e.trans e2)
  have dec : ∀ {i : Nat} {d : Dv}, (xs.map enc)[i]? = some d → ∃ x, xs[i]? = some x ∧ x ∈ xs ∧ d = enc x := fun {i d} hd => by
    rw [List.getElem?_map] at hd
    cases hx : xs[i]? with
    | none => rw [hx] at hd; cases hd
    | some x => rw [hx] at hd; exact ⟨x, rfl, List.mem_of_getElem? hx, (Option.some.inj hd).symm⟩
  refine lc_main (vs := [j]) (fun i => ((xs[i]?).map p).getD false) (fun i => ((xs[i]?).map F).getD .non) S2.heat rs (by rw [List.length_map]; exact hz) (fun x => wipe_back σ) (fun i x d H3 e3 hd rx => ?_) (fun i x d H3 M' e3 hs hh hc hd rx hp => ?_)
    (fun Dl Pv h0 hx hs hd => lc_tup (K := K) (a := a) (xs := vs) Pv h0 (fun i H' _ q => st_of (hx i H' q _ _ (cold_ex _ _ h1))) hs hd) (fun Dl acc H' hD e3 ha ra => ?_)
  · obtain ⟨y, hy, hm, rfl⟩ := dec hd
    rw [wipe_one, hy]
    exact ht y M H3 _ hm ((S2.mono e3).setD rx)
  · obtain ⟨y, hy, hm, rfl⟩ := dec hd
    rw [hy] at hp
    rw [wipe_one, hy]
    exact he y M' H3 _ hm ((S2.other e3 hs hh hc).setD rx) hp
  · rw [List.length_map, pick_list p F (fun i => xs[i]?) xs fun _ _ => rfl] at ra
    exact q _ H' (e2.trans e3) (Rep.hot (S2.heat.fresh hD) ha ra)
theorem ef_lcR {j n : Nat} (p : Nat → Bool) (F : Nat → Dv) (S : At K B M H σ ρ) (h : EvFs K as σ M H [nat n]) (hz : n ≤ 16000000)
    (ht : ∀ i M' H' σ', i < n → At K B M' H' σ' (ρ.set j (.dat (nat i))) → EvB t σ' H' (p i))
    (he : ∀ i M' H' σ', i < n → At K B M' H' σ' (ρ.set j (.dat (nat i))) → p i = true → EvF K te σ' M' H' (F i)) :
    EvF K (tLc (iRng1 as) (gName j) t te [j]) σ M H (.lst (((List.range n).filter p).map F)) := fun H1 e Q q => h H1 e _ fun ws H2 e2 rs => by
  obtain rfl : ws = [.int (n : Int)] := by cases rs with | cons r t => cases t; rw [r.of_int]
  refine ⟨(n : Int), rfl, by omega, by omega, ?_⟩
  have S2 := S.mono (e.trans e2)
  have en : (n : Int).toNat = n := Int.toNat_natCast n
  rw [en]
  have rr : Reps K (cold M H2) ((List.range n).map fun i => V.int (i : Nat)) (upto n) := by
    unfold upto
    generalize List.range n = l
    induction l with
    | nil => exact .nil
    | cons a r ih => exact .cons (.int _) ih
  refine lc_main (xs := (List.range n).map fun i => V.int (i : Nat)) (vs := [j]) p F S2.heat rr (by rw [upto_len]; exact hz) (fun x => wipe_back σ) (fun i x d H3 e3 hd rx => ?_) (fun i x d H3 M' e3 hs hh hc hd rx hp => ?_)
    (fun Dl Pv h0 hx hs hd => lc_range (lo := 0) (n := n) Pv h0 (fun i H' hi q => ?_) (fun H' q => hd H' (by simpa using q))) (fun Dl acc H' hD e3 ha ra => ?_)
  · obtain ⟨hi, rfl⟩ := upto_of hd
    rw [wipe_one]
    exact ht i M H3 _ hi ((S2.mono e3).setD rx)
  · obtain ⟨hi, rfl⟩ := upto_of hd
    rw [wipe_one]
    exact he i M' H3 _ hi ((S2.other e3 hs hh hc).setD rx) hp
  · have e0 : (0 : Int) + (i : Int) = (i : Int) := Int.zero_add _
    rw [e0]
    exact hs i _ H' (by simp [hi]) q
  · rw [upto_len] at ra
    exact q _ H' (e2.trans e3) (Rep.hot (S2.heat.fresh hD) ha ra)
theorem filter_all {α : Type} (l : List α) : l.filter (fun _ => true) = l := List.filter_eq_self.mpr fun _ _ => rfl
theorem eb_yes : EvB tYes σ H true := fun H1 _ _ q => q H1 (Ex.refl _)
end
end Pc

namespace Pc
open PySem PySem.Spec PyProof.Rows L2 Evl
theorem ltb {a b : Nat} (h : Nat.ble (a + 1) b = true) : a < b := Nat.le_of_ble_eq_true h
theorem leb {a b : Nat} (h : Nat.ble a b = true) : a ≤ b := Nat.le_of_ble_eq_true h
section
variable {K : PySem.W.Frag} {B H : Hp} {M : List Addr} {σ : L2.St} {ρ : List Sv} {te ta tb ti : TE} {ds es : List Dv} {d : Dv} {n m : Nat} {D : Ends} {tu : TS} {as : TA}
/-! slices of lists of data -/
theorem cut_lo (xs : List V) (n : Nat) : cutV xs (some (n : Int)) none = xs.drop n := by
  unfold cutV
  rw [HT.sIx_nat, HT.sIx_none, List.take_of_length_le (by rw [List.length_drop]; exact Nat.le_refl _)]
  by_cases h : n ≤ xs.length
  · rw [Nat.min_eq_left h]
  · rw [Nat.min_eq_right (by omega), List.drop_length, List.drop_eq_nil_of_le (by omega)]
theorem cut_hi (xs : List V) (n : Nat) : cutV xs none (some (n : Int)) = xs.take n := by
  unfold cutV
  rw [HT.sIx_nat, HT.sIx_none, List.drop_zero, Nat.sub_zero]
  by_cases h : n ≤ xs.length
  · rw [Nat.min_eq_left h]
  · rw [Nat.min_eq_right (by omega), List.take_length, List.take_of_length_le (by omega)]
theorem cut_both (xs : List V) (n m : Nat) : cutV xs (some (n : Int)) (some (m : Int)) = (xs.take m).drop n := by
  unfold cutV
  rw [HT.sIx_nat, HT.sIx_nat, List.drop_take]
  by_cases h : n ≤ xs.length
  · rw [Nat.min_eq_left h]
    by_cases h2 : m ≤ xs.length
    · rw [Nat.min_eq_left h2]
    · rw [Nat.min_eq_right (by omega), List.take_of_length_le (by rw [List.length_drop]; omega), List.take_of_length_le (by rw [List.length_drop]; omega)]
  · rw [Nat.min_eq_right (show xs.length ≤ n by omega), List.drop_length, List.take_nil, List.drop_eq_nil_of_le (show xs.length ≤ n by omega), List.take_nil]
theorem ef_dropL (hM : Hot M H) (h : EvF K te σ M H (.lst ds)) (hb : EvF K tb σ M H (nat n)) : EvF K (tSl (rSlL K) te (tPart tb) tNoPart) σ M H (.lst (ds.drop n)) := fun H1 e Q q => h H1 e _ fun v H2 e2 r => hb.int (e.trans e2) fun H3 e3 => by
  obtain ⟨a, vs, rfl, h1, rs⟩ := r.of_lst
  refine ⟨(n : Int), rfl, a, vs, rfl, sq_of (e3 _ _ (cold_ex _ _ h1)), fun p hp => ?_⟩
  rw [cut_lo]
  exact q _ _ ((e2.trans e3).trans (Ex.new hp)) (.lst (cold_fresh (hM.mono ((e.trans e2).trans e3)) hp) (((rs.mono (cold_mono e3)).drop n).mono (cold_new hp)))
theorem ef_takeL (hM : Hot M H) (h : EvF K te σ M H (.lst ds)) (hb : EvF K tb σ M H (nat n)) : EvF K (tSl (rSlL K) te tNoPart (tPart tb)) σ M H (.lst (ds.take n)) := fun H1 e Q q => h H1 e _ fun v H2 e2 r => hb.int (e.trans e2) fun H3 e3 => by
  obtain ⟨a, vs, rfl, h1, rs⟩ := r.of_lst
  refine ⟨(n : Int), rfl, a, vs, rfl, sq_of (e3 _ _ (cold_ex _ _ h1)), fun p hp => ?_⟩
  rw [cut_hi]
  exact q _ _ ((e2.trans e3).trans (Ex.new hp)) (.lst (cold_fresh (hM.mono ((e.trans e2).trans e3)) hp) (((rs.mono (cold_mono e3)).take n).mono (cold_new hp)))
theorem ef_cutL (hM : Hot M H) (h : EvF K te σ M H (.lst ds)) (ha : EvF K ta σ M H (nat n)) (hb : EvF K tb σ M H (nat m)) : EvF K (tSl (rSlL K) te (tPart ta) (tPart tb)) σ M H (.lst ((ds.take m).drop n)) := fun H1 e Q q => h H1 e _ fun v H2 e2 r => ha.int (e.trans e2) fun H3 e3 => ⟨(n : Int), rfl, hb.int ((e.trans e2).trans e3) fun H4 e4 => by
  obtain ⟨a, vs, rfl, h1, rs⟩ := r.of_lst
  have e24 := e3.trans e4
  refine ⟨(m : Int), rfl, a, vs, rfl, sq_of (e24 _ _ (cold_ex _ _ h1)), fun p hp => ?_⟩
  rw [cut_both]
  exact q _ _ ((e2.trans e24).trans (Ex.new hp)) (.lst (cold_fresh (hM.mono ((e.trans e2).trans e24)) hp) ((((rs.mono (cold_mono e24)).take m).drop n).mono (cold_new hp)))⟩
/-- t[:n], n below its length -/
theorem ef_takeT (hM : Hot M H) (h : EvF K te σ M H (.tup ds)) (hb : EvF K tb σ M H (nat n)) (hn : n < ds.length) : EvF K (tSl (rSlT K) te tNoPart (tPart tb)) σ M H (.tup (ds.take n)) := fun H1 e Q q => h H1 e _ fun v H2 e2 r => hb.int (e.trans e2) fun H3 e3 => by
  obtain ⟨a, vs, rfl, h1, rs⟩ := r.of_tup
  refine ⟨(n : Int), rfl, a, vs, rfl, st_of (e3 _ _ (cold_ex _ _ h1)), fun z => ?_, fun p hp => ?_⟩
  · have z2 := z.2
    rw [HT.sIx_nat, rs.length, Nat.min_eq_left (by omega)] at z2
    omega
  · rw [cut_hi]
    exact q _ _ ((e2.trans e3).trans (Ex.new hp)) (.tup (cold_fresh (hM.mono ((e.trans e2).trans e3)) hp) (((rs.mono (cold_mono e3)).take n).mono (cold_new hp)))
/-- list(range(n)) -/
theorem ef_listRg (hM : Hot M H) (h : EvF K te σ M H (nat n)) (hn : n ≤ 16000000) : EvF K (tLstRg (tRg1 te)) σ M H (.lst (upto n)) := fun H1 e Q q => h.int e fun H2 e2 => by
  refine ⟨(n : Int), rfl, RgOk.of_le (Int.le_refl _) (by omega) (by decide) (by omega), fun p hp => q _ _ (e2.trans (Ex.new hp)) (.lst (cold_fresh (hM.mono (e.trans e2)) hp) ?_)⟩
  unfold rgV upto
  have e0 : ((n : Int) - 0).toNat = n := by omega
  rw [e0]
  generalize cold M (upd H2 p (.lst ((List.range n).map fun i => V.int ((0 : Int) + (i : Nat))))) = Hc
  generalize List.range n = l
  induction l with
  | nil => exact .nil
  | cons a r ih =>
    refine .cons ?_ ih
    show Rep K _ (.int ((0 : Int) + (a : Int))) _
    rw [Int.zero_add]
    exact .int _
/-! sorted(set(xs)) -/
theorem sorted_one : ∀ {l r : List Int}, l.Pairwise (· < ·) → r.Pairwise (· < ·) → (∀ k, k ∈ l ↔ k ∈ r) → l = r
  | [], [], _, _, _ => rfl
  | [], y :: r, _, _, h => absurd ((h y).mpr List.mem_cons_self) (by simp)
  | x :: l, [], _, _, h => absurd ((h x).mp List.mem_cons_self) (by simp)
  | x :: l, y :: r, hl, hr, h => by
    obtain ⟨h1, h2⟩ := List.pairwise_cons.mp hl
    obtain ⟨g1, g2⟩ := List.pairwise_cons.mp hr
    have exy : x = y := by
      rcases List.mem_cons.1 ((h x).mp List.mem_cons_self) with e | e
      · exact e
      · rcases List.mem_cons.1 ((h y).mpr List.mem_cons_self) with e' | e'
        · exact e'.symm
        · have a := g1 x e
          have b := h1 y e'
          omega
    subst exy
    refine congrArg (x :: ·) (sorted_one h2 g2 fun k => ⟨fun hk => ?_, fun hk => ?_⟩)
    · rcases List.mem_cons.1 ((h k).mp (List.mem_cons_of_mem _ hk)) with e | e
      · have := h1 k hk; omega
      · exact e
    · rcases List.mem_cons.1 ((h k).mpr (List.mem_cons_of_mem _ hk)) with e | e
      · have := g1 k hk; omega
      · exact e
theorem nats_nums : ∀ l : List Nat, nats l = nums (l.map fun n => ((n : Nat) : Int))
  | [] => rfl
  | x :: r => congrArg (nat x :: ·) (nats_nums r)
theorem ef_sortedSet {w : World} {l ns : List Nat} (hM : Hot M H) (h : EvF K te σ M H (.lst (nats l))) (hb : ∀ x ∈ l, x < 4000) (hp : ns.Pairwise (· < ·)) (hm : ∀ k, k ∈ ns ↔ k ∈ l) :
    EvF K (tCB (rSortedSetB w) (tCons (tCB (rSetOf K w) (tCons te tNil)) tNil)) σ M H (.lst (nats ns)) := fun H1 e Q q => h H1 e _ fun v H2 e2 r => by
  obtain ⟨a, vs, rfl, h1, rs⟩ := r.of_lst
  rw [nats_nums] at rs
  have ev := rs.to_list
  subst ev
  refine ⟨a, l.map fun n => ((n : Nat) : Int), rfl, sq_of (cold_ex _ _ h1), fun k hk => ?_, fun p n hp' => ?_⟩
  · obtain ⟨x, hx, rfl⟩ := List.mem_map.1 hk
    have := hb x hx
    omega
  · refine ⟨p, _, n, rfl, upd_same, fun ks p2 hk hks hp2 => ?_⟩
    have ek : ks = ns.map fun n => ((n : Nat) : Int) := by
      refine sorted_one hk (List.pairwise_map.mpr (hp.imp fun h => by omega)) fun k => ?_
      rw [hks k, decide_eq_true_eq]
      constructor
      · intro hk
        obtain ⟨x, hx, rfl⟩ := List.mem_map.1 hk
        exact List.mem_map.mpr ⟨x, (hm x).mpr hx, rfl⟩
      · intro hk
        obtain ⟨x, hx, rfl⟩ := List.mem_map.1 hk
        exact List.mem_map.mpr ⟨x, (hm x).mp hx, rfl⟩
    subst ek
    refine q _ _ ((e2.trans (Ex.new hp')).trans (Ex.new hp2)) (.lst (cold_fresh (hM.mono ((e.trans e2).trans (Ex.new hp'))) hp2) ?_)
    rw [nats_nums]
    exact Reps.of_list _
/-! xs.extend(..) -/
theorem sf_ext {j : Nat} {p : Addr} (S : At K B M H σ ρ) (hj : ρ[j]? = some (.hot p ds)) (h : EvF K te σ M H (.lst es)) (hz : ds.length + es.length ≤ 16000000)
    (k : ∀ H', At K B M H' σ (ρ.set j (.hot p (ds ++ es))) → D.nx σ H') : tDrop (tBM K "list" rExtend (tVar j) (tCons te tNil)) D σ H := by
  obtain ⟨h1, hm, vs, h2, rs⟩ := S.env.hot hj
  refine ⟨.ref p, h1, .inl ⟨rfl, vs, sq_of h2⟩, h H (Ex.refl H) _ fun v H1 e r => ?_⟩
  obtain ⟨b, zs, rfl, hb, rz⟩ := r.of_lst
  refine ⟨p, b, vs, zs, rfl, rfl, e _ _ h2, cold_ex _ _ hb, szB (by rw [rs.length, rz.length]; exact hz), ?_⟩
  exact k _ ((S.mono e).put hj ((rs.mono (cold_mono e)).append rz))
theorem sf_extT {j : Nat} {p : Addr} (S : At K B M H σ ρ) (hj : ρ[j]? = some (.hot p ds)) (h : EvF K te σ M H (.tup es)) (hz : ds.length + es.length ≤ 16000000)
    (k : ∀ H', At K B M H' σ (ρ.set j (.hot p (ds ++ es))) → D.nx σ H') : tDrop (tBM K "list" (rExtendT K) (tVar j) (tCons te tNil)) D σ H := by
  obtain ⟨h1, hm, vs, h2, rs⟩ := S.env.hot hj
  refine ⟨.ref p, h1, .inl ⟨rfl, vs, sq_of h2⟩, h H (Ex.refl H) _ fun v H1 e r => ?_⟩
  obtain ⟨b, zs, rfl, hb, rz⟩ := r.of_tup
  refine ⟨p, b, vs, zs, rfl, rfl, e _ _ h2, cold_ex _ _ hb, szB (by rw [rs.length, rz.length]; exact hz), ?_⟩
  exact k _ ((S.mono e).put hj ((rs.mono (cold_mono e)).append rz))
/-- xs[k] += n, xs a list of the def's own -/
theorem sf_augS {j k0 : Nat} {p : Addr} {m x n : Int} (S : At K B M H σ ρ) (hj : ρ[j]? = some (.hot p ds)) (hi : EvF K ti σ M H (.int m)) (hx : atI ds m = some (.int x)) (hn : ixN ds.length m = some k0) (h : EvF K te σ M H (.int n))
    (k : ∀ H', At K B M H' σ (ρ.set j (.hot p (ds.set k0 (.int (x + n))))) → D.nx σ H') : tAugS (tVar j) ti te (rIxL K) (ipI fun i j => i + j) rSetL D σ H := by
  obtain ⟨h1, hm, vs, h2, rs⟩ := S.env.hot hj
  obtain ⟨v, hv, rv⟩ := atI_rep rs hx
  obtain rfl := rv.of_int
  refine ⟨.ref p, h1, hi.int (Ex.refl H) fun H1 e1 => ⟨p, vs, m, .int x, rfl, rfl, sq_of (e1 _ _ h2), hv, h.int e1 fun H2 e2 => ⟨x, n, rfl, rfl, p, vs, m, k0, rfl, rfl, e2 _ _ (e1 _ _ h2), by rw [rs.length]; exact hn, ?_⟩⟩⟩
  exact k _ ((S.mono (e1.trans e2)).put hj (Reps.set (i := k0) (.int _) k0 (rs.mono (cold_mono (e1.trans e2)))))
/-- for x in reversed(xs) -/
theorem sf_forRev {j : Nat} {tl : TE} (S : At K B M H σ ρ) (h : EvF K tl σ M H (.lst ds)) (P : Nat → List Sv → Prop) (L : LoopF K B M ds.reverse j tu D ρ P) : tFor (iRev K (tCons tl tNil)) (gName j) tu D σ H := by
  refine h H (Ex.refl H) _ fun v H1 e r => ?_
  obtain ⟨a, vs, rfl, h1, rs⟩ := r.of_lst
  have S1 := S.mono e
  refine ⟨a, vs, rfl, sq_of (cold_ex _ _ h1), RT.for_Itv (K := K) (xs := vs) (Turns K (stays ρ H1) M P) ⟨ρ, L.zero, S1.rest⟩ (fun i σ' H' ⟨ρ', _, S'⟩ => sq_of (cold_ex _ _ (loop_keep S1 S' _ _ h1))) (fun i x σ' H' hi hx ⟨ρ', hP, S'⟩ => ?_)
    (fun σ' H' ⟨ρ', hP, S'⟩ => L.done σ' H' ρ' (by rw [List.length_reverse, ← rs.length]; exact hP) (S'.back S1.base))⟩
  obtain ⟨d, hd, rd⟩ := rs.getV hx
  refine L.turn _ i d _ H' ρ' S1.base ?_ hP (S'.setD (rd.mono (loop_keep S1 S')))
  rw [rs.length] at hi hd
  rw [List.getElem?_reverse hi]
  exact hd
/-! dicts with tuples as keys, values ints: as data -/
def kD : Key → Dv
  | .inl i => .int i
  | .inr _ => .non
theorem keys_rep {Hc : Hp} : ∀ {ks : List Int} {vs : List V}, Reps K Hc vs (ks.map Dv.int) → vs = (ks.map Sum.inl).map kV
  | [], _, .nil => rfl
  | _ :: _, _, .cons (.int _) r => by rw [keys_rep r]; rfl
theorem ef_dget2T {kvs : List (List Key × V)} {ks : List Int} {x : Int} (h : EvF K ta σ M H (.dT kvs)) (hk : EvF K tb σ M H (.tup (ks.map Dv.int))) (hz : EvF K te σ M H (.int x)) (hv : ∃ n : Int, (valV kvs (ks.map Sum.inl)).getD (.int x) = .int n ∧ d = .int n) : EvF K (tDGet2 ta tb te) σ M H d := fun H1 e Q q => h H1 e _ fun v H2 e2 r => by
  obtain ⟨a, rfl, ha⟩ := r.of_dT
  refine ⟨a, rfl, .inr ⟨kvs, .inl (cold_ex _ _ ha)⟩, hk H2 (e.trans e2) _ fun y H3 e3 ry => hz.int ((e.trans e2).trans e3) fun H4 e4 => ?_⟩
  obtain ⟨b, zs, rfl, hb, rz⟩ := ry.of_tup
  have ez := keys_rep rz
  subst ez
  refine ⟨valV kvs (ks.map Sum.inl), DGet.t (e4 _ _ (e3 _ _ (cold_ex _ _ ha))) (e4 _ _ (cold_ex _ _ hb)), ?_⟩
  obtain ⟨n, hn, rfl⟩ := hv
  rw [hn]
  exact q _ H4 ((e2.trans e3).trans e4) (.int _)
theorem ef_sumVals {kvs : List (List Key × V)} {is : List Int} (h : EvF K ta σ M H (.dT kvs)) (hi : kvs.map (·.2) = is.map V.int) : EvF K (tSumValsT ta) σ M H (.int is.sum) := fun H1 e Q q => h H1 e _ fun v H2 e2 r => by
  obtain ⟨a, rfl, ha⟩ := r.of_dT
  exact ⟨a, kvs, is, rfl, cold_ex _ _ ha, hi, q _ H2 e2 (.int _)⟩
/-! ### a def that gives a new list -/
theorem At.newHot {p : Addr} {vs : List V} {i : Nat} {H' : Hp} (S : At K B M H σ ρ) (e : Ex H H') (hp : H p = none) (hv : H' p = some (.lst vs)) (rs : Reps K (cold (p :: M) H') vs ds) : At K B (p :: M) H' (σ.set i (some (.ref p))) (ρ.set i (.hot p ds)) := by
  have hne : ∀ q ∈ hots ρ, q ≠ p := fun q hq z => by
    subst z
    obtain ⟨j, ys, hj⟩ := hots_at hq
    obtain ⟨_, _, ws, hw, _⟩ := S.env.hot hj
    rw [hp] at hw
    cases hw
  obtain ⟨nd, sub⟩ := hots_set_new (i := i) (ds := ds) hne S.nd
  have hc : Ex (cold M H) (cold (p :: M) H') := fun x o h => by
    obtain ⟨h1, h2⟩ := cold_some.mp h
    exact cold_of (fun z => (List.mem_cons.1 z).elim (ne_of_none h2 hp) h1) (e _ _ h2)
  have E1 : REnv K (p :: M) H' σ ρ := S.env.move hc fun q hq hm => ⟨List.mem_cons_of_mem _ hm, fun ws hw => e _ _ hw⟩
  refine ⟨S.ex.trans e, (S.heat.mono e).cons hv, E1.set (s := .hot p ds) ⟨rfl, List.mem_cons_self, vs, hv, rs⟩ i, nd, fun q hq => ?_⟩
  rcases sub q hq with z | z
  · rw [z]; exact fresh_back S.ex hp
  · exact S.out q z
def spL (K : PySem.W.Frag) (R : List Dv → List Dv → Prop) : Sp := fun vs H Q _ => ∃ M ds es, Hot M H ∧ Reps K (cold M H) vs ds ∧ R ds es ∧ ∀ p ws H', Ex H H' → H p = none → H' p = some (.lst ws) → Reps K (cold (p :: M) H') ws es → Q (.ref p) H'
theorem spL_len {R : List Dv → List Dv → Prop} {n : Nat} (h : ∀ ds d, R ds d → ds.length = n) (vs : List V) (H : Hp) (Q : VK) (E : XK) (z : spL K R vs H Q E) : vs.length = n := by
  obtain ⟨M, ds, d, _, rs, hr, _⟩ := z
  rw [rs.length, h ds d hr]
theorem ef_callL {R : List Dv → List Dv → Prop} {E : XK} (hM : Hot M H) (h : EvFs K as σ M H ds) (hr : R ds es) : EvF K (tCall (spL K R) [] E as) σ M H (.lst es) := fun H1 e Q q =>
  h H1 e _ fun vs H2 e2 rs => by
    show spL K R (vs ++ []) H2 Q E
    rw [List.append_nil]
    have hM2 := hM.mono (e.trans e2)
    exact ⟨M, ds, es, hM2, rs, hr, fun p ws H' e3 hp hw rw' => q _ H' (e2.trans e3) (Rep.hot (hM2.fresh hp) hw rw')⟩
theorem sf_newCall {R : List Dv → List Dv → Prop} {E : XK} {i : Nat} (S : At K B M H σ ρ) (h : EvFs K as σ M H ds) (hr : R ds es)
    (k : ∀ p σ' H', p ∉ M → Ex H H' → At K B (p :: M) H' σ' (ρ.set i (.hot p es)) → D.nx σ' H') : tAsg (tCall (spL K R) [] E as) (gName i) D σ H :=
  h H (Ex.refl H) _ fun vs H1 e rs => by
    show spL K R (vs ++ []) H1 _ E
    rw [List.append_nil]
    have S1 := S.mono e
    exact ⟨M, ds, es, S1.heat, rs, hr, fun p ws H' e3 hp hw rw' => k p _ H' (S1.heat.fresh hp) (e.trans e3) (S1.newHot e3 hp hw rw')⟩
/-! whole comprehensions -/
theorem ef_anyM {α : Type} {xs : List α} {g : α → Bool} (h : EvF K te σ M H (.lst ((xs.filter fun _ => true).map fun x => .bl (g x)))) : EvF K (tCB (rAny K) (tCons te tNil)) σ M H (.bl (xs.any g)) := by
  have e : ((xs.filter fun _ => true).map fun x => Dv.bl (g x)) = bools (xs.map g) := by
    rw [filter_all]
    unfold bools
    rw [List.map_map]
    rfl
  rw [e] at h
  refine (ef_any h).cast ?_
  rw [List.any_map]
  rfl
theorem ef_sumM {α : Type} {xs : List α} {g : α → Nat} (h : EvF K te σ M H (.lst ((xs.filter fun _ => true).map fun x => nat (g x)))) : EvF K (tCB (rSum K) (tCons te tNil)) σ M H (nat (xs.map g).sum) := by
  have e : ((xs.filter fun _ => true).map fun x => nat (g x)) = nums (xs.map fun x => ((g x : Nat) : Int)) := by
    rw [filter_all]
    unfold nums
    rw [List.map_map]
    rfl
  rw [e] at h
  refine (ef_sum h).cast ?_
  unfold nat
  refine congrArg Dv.int ?_
  clear h e
  induction xs with
  | nil => rfl
  | cons a r ih => rw [List.map_cons, List.sum_cons, List.map_cons, List.sum_cons, Int.natCast_add, ih]
theorem sf_next (h : D.nx σ H) : tNext D σ H := h
end
end Pc

namespace Pc
open PySem PySem.Spec PyProof.Rows L2 Evl
section
variable {K : PySem.W.Frag} {B H H' : Hp} {M : List Addr} {σ : L2.St} {ρ : List Sv} {te ta tb ti : TE} {ds es : List Dv} {d : Dv} {n m i : Nat} {D : Ends} {tu : TS} {t : TT} {as : TA}
/-! ### own objects that no slot tells of -/
theorem At.poke {p : Addr} {o : HO} (S : At K B M H σ ρ) (hm : p ∈ M) (hn : p ∉ hots ρ) (hb : B p = none) : At K B M (upd H p o) σ ρ :=
  ⟨Ex.mut S.ex hb, S.heat.upd, S.env.move (by rw [cold_upd hm]; exact Ex.refl _) fun q hq hqm => ⟨hqm, fun vs h => by rw [upd_ne (show q ≠ p from fun z => hn (by rw [← z]; exact hq))]; exact h⟩, S.nd, S.out⟩
theorem At.warm {N : List Addr} (S : At K B M H σ ρ) (e : Ex H H') (hf : ∀ x ∈ N, H x = none ∧ H' x ≠ none) : At K B (N ++ M) H' σ ρ := by
  refine S.other e (fun m hm => List.mem_append_right _ hm) ⟨fun m hm z => ?_⟩ fun x o h => ?_
  · rcases List.mem_append.1 hm with q | q
    · exact (hf m q).2 z
    · exact (S.heat.mono e).all m q z
  · obtain ⟨h1, h2⟩ := cold_some.mp h
    refine cold_of (fun z => ?_) (e _ _ h2)
    rcases List.mem_append.1 z with q | q
    · rw [(hf x q).1] at h2; cases h2
    · exact h1 q
theorem cold_warm {N : List Addr} (e : Ex H H') (hf : ∀ x ∈ N, H x = none) : Ex (cold M H) (cold (N ++ M) H') := fun x o h => by
  obtain ⟨h1, h2⟩ := cold_some.mp h
  refine cold_of (fun z => ?_) (e _ _ h2)
  rcases List.mem_append.1 z with q | q
  · rw [hf x q] at h2; cases h2
  · exact h1 q
theorem fresh_hots (S : At K B M H σ ρ) {p : Addr} (hp : H p = none) : p ∉ hots ρ := fun hq => by
  obtain ⟨j, ys, hj⟩ := hots_at hq
  obtain ⟨_, _, ws, hw, _⟩ := S.env.hot hj
  rw [hp] at hw
  cases hw
/-! ### loops whose word speaks of the heap, too -/
def TurnsH (K : PySem.W.Frag) (B : Hp) (M : List Addr) (P : Nat → List Sv → Hp → Prop) (i : Nat) : L2.St → Hp → Prop := fun σ H => ∃ ρ, P i ρ H ∧ At K B M H σ ρ
structure LoopH (K : PySem.W.Frag) (B : Hp) (M own : List Addr) (ds : List Dv) (j : Nat) (tu : TS) (D : Ends) (ρ : List Sv) (H : Hp) (P : Nat → List Sv → Hp → Prop) : Prop where
  out : ∀ a ∈ own, B a = none ∧ a ∈ M
  mine : ∀ i ρ' H', P i ρ' H' → ∀ a ∈ hots ρ', a ∈ own
  zero : ∀ H1, Ex H H1 → P 0 ρ H1
  turn : ∀ B' i d σ' H' ρ', Ex B B' → (∀ a ∈ own, B' a = none) → ds[i]? = some d → P i ρ' H' → At K B' M H' σ' (ρ'.set j (.dat d)) → tu { D with nx := TurnsH K B' M P (i + 1), ct := TurnsH K B' M P (i + 1), bk := D.nx } σ' H'
  done : ∀ σ' H' ρ', P ds.length ρ' H' → At K B M H' σ' ρ' → D.nx σ' H'
section
variable {own : List Addr} {P : Nat → List Sv → Hp → Prop} {j : Nat} {H1 : Hp}
theorem LoopH.base (L : LoopH K B M own ds j tu D ρ H P) (S : At K B M H1 σ ρ) : Ex B (cold own H1) := fun x o h => cold_of (fun z => by rw [(L.out x z).1] at h; cases h) (S.ex _ _ h)
theorem LoopH.rest (L : LoopH K B M own ds j tu D ρ H P) (e : Ex H H1) (S : At K B M H1 σ ρ) : At K (cold own H1) M H1 σ ρ := ⟨cold_ex, S.heat, S.env, S.nd, fun p hp => by
  unfold cold
  rw [if_pos (L.mine 0 ρ H1 (L.zero H1 e) p hp)]⟩
theorem LoopH.keep (L : LoopH K B M own ds j tu D ρ H P) {σ' : L2.St} {ρ' : List Sv} (S' : At K (cold own H1) M H' σ' ρ') : Ex (cold M H1) (cold M H') := fun x o h => by
  obtain ⟨h1, h2⟩ := cold_some.mp h
  exact cold_of h1 (S'.ex _ _ (cold_of (fun z => h1 (L.out x z).2) h2))
theorem LoopH.none (L : LoopH K B M own ds j tu D ρ H P) : ∀ a ∈ own, cold own H1 a = none := fun a ha => by
  unfold cold
  rw [if_pos ha]
end
theorem sf_forLH {j : Nat} {tl : TE} {own : List Addr} (S : At K B M H σ ρ) (h : EvF K tl σ M H (.lst ds)) (P : Nat → List Sv → Hp → Prop) (L : LoopH K B M own ds j tu D ρ H P) : tFor (iList K tl) (gName j) tu D σ H := by
  refine h H (Ex.refl H) _ fun v H1 e r => ?_
  obtain ⟨a, vs, rfl, h1, rs⟩ := r.of_lst
  have S1 := S.mono e
  refine ⟨a, rfl, ⟨vs, sq_of (cold_ex _ _ h1)⟩, for_list (K := K) (xs := vs) (TurnsH K (cold own H1) M P) ⟨ρ, L.zero H1 e, L.rest e S1⟩ (fun i σ' H' _ ⟨ρ', _, S'⟩ => sq_of (cold_ex _ _ (L.keep S' _ _ h1))) (fun i x σ' H' hx ⟨ρ', hP, S'⟩ => ?_)
    (fun σ' H' ⟨ρ', hP, S'⟩ => L.done σ' H' ρ' (by rw [← rs.length]; exact hP) (S'.back (L.base S1)))⟩
  obtain ⟨d, hd, rd⟩ := rs.getV hx
  exact L.turn _ i d _ H' ρ' (L.base S1) L.none hd hP (S'.setD (rd.mono (L.keep S')))
theorem sf_forRevH {j : Nat} {tl : TE} {own : List Addr} (S : At K B M H σ ρ) (h : EvF K tl σ M H (.lst ds)) (P : Nat → List Sv → Hp → Prop) (L : LoopH K B M own ds.reverse j tu D ρ H P) : tFor (iRev K (tCons tl tNil)) (gName j) tu D σ H := by
  refine h H (Ex.refl H) _ fun v H1 e r => ?_
  obtain ⟨a, vs, rfl, h1, rs⟩ := r.of_lst
  have S1 := S.mono e
  refine ⟨a, vs, rfl, sq_of (cold_ex _ _ h1), RT.for_Itv (K := K) (xs := vs) (TurnsH K (cold own H1) M P) ⟨ρ, L.zero H1 e, L.rest e S1⟩ (fun i σ' H' ⟨ρ', _, S'⟩ => sq_of (cold_ex _ _ (L.keep S' _ _ h1))) (fun i x σ' H' hi hx ⟨ρ', hP, S'⟩ => ?_)
    (fun σ' H' ⟨ρ', hP, S'⟩ => L.done σ' H' ρ' (by rw [List.length_reverse, ← rs.length]; exact hP) (S'.back (L.base S1)))⟩
  obtain ⟨d, hd, rd⟩ := rs.getV hx
  refine L.turn _ i d _ H' ρ' (L.base S1) L.none ?_ hP (S'.setD (rd.mono (L.keep S')))
  rw [rs.length] at hi hd
  rw [List.getElem?_reverse hi]
  exact hd
theorem sf_forRH {j n : Nat} {own : List Addr} (S : At K B M H σ ρ) (h : EvFs K as σ M H [nat n]) (hn : n ≤ 16000000) (P : Nat → List Sv → Hp → Prop) (L : LoopH K B M own (upto n) j tu D ρ H P) : tFor (iRng1 as) (gName j) tu D σ H := by
  refine h H (Ex.refl H) _ fun vs H1 e rs => ?_
  obtain rfl : vs = [.int (n : Int)] := by cases rs with | cons r t => cases t; rw [r.of_int]
  have S1 := S.mono e
  refine ⟨(n : Int), rfl, by omega, by omega, ?_⟩
  have en : (n : Int).toNat = n := Int.toNat_natCast n
  rw [en]
  refine for_range (lo := 0) (n := n) (TurnsH K (cold own H1) M P) ⟨ρ, L.zero H1 e, L.rest e S1⟩ (fun i σ' H' hi ⟨ρ', hP, S'⟩ => ?_) (fun σ' H' ⟨ρ', hP, S'⟩ => L.done σ' H' ρ' (by rw [upto_len]; exact hP) (S'.back (L.base S1)))
  have e0 := Int.zero_add (i : Int)
  show tu _ (σ'.set j (some (.int ((0 : Int) + (i : Int))))) H'
  rw [e0]
  exact L.turn _ i _ _ H' ρ' (L.base S1) L.none (upto_get hi) hP (S'.setD (.int _))
/-- a loop over the numbers below n, the word by the slots alone -/
theorem sf_forN {j n : Nat} (S : At K B M H σ ρ) (h : EvFs K as σ M H [nat n]) (hn : n ≤ 16000000) (P : Nat → List Sv → Prop) (L : LoopF K B M (upto n) j tu D ρ P) : tFor (iRng1 as) (gName j) tu D σ H :=
  sf_forR S h (by omega) (by omega) P (by
    have en : (n : Int).toNat = n := Int.toNat_natCast n
    rw [en]
    exact L)
/-- names = list(range(n)), a list of the def's own -/
theorem sf_newRg {i : Nat} (S : At K B M H σ ρ) (h : EvF K te σ M H (nat n)) (hn : n ≤ 16000000)
    (k : ∀ p σ' H', p ∉ M → Ex H H' → At K B (p :: M) H' σ' (ρ.set i (.hot p (nats (List.range n)))) → D.nx σ' H') : tAsg (tLstRg (tRg1 te)) (gName i) D σ H := h.int (Ex.refl H) fun H2 e2 => by
  refine ⟨(n : Int), rfl, RgOk.of_le (Int.le_refl _) (by omega) (by decide) (by omega), fun p hp => ?_⟩
  have S2 := S.mono e2
  refine k p _ _ (S2.heat.fresh hp) (e2.trans (Ex.new hp)) (S2.newHot (Ex.new hp) hp upd_same ?_)
  unfold rgV nats
  have e0 : ((n : Int) - 0).toNat = n := by omega
  rw [e0]
  generalize cold (p :: M) _ = Hc
  generalize List.range n = l
  induction l with
  | nil => exact .nil
  | cons a r ih =>
    refine .cons ?_ ih
    show Rep K _ (.int ((0 : Int) + (a : Int))) _
    rw [Int.zero_add]
    exact .int _
end
end Pc

namespace Pc
open CmBase Cm09
/-! ### what a program that is told always is -/
/-- a row's numbers and lists, whatever its names -/
def RowForm : PRow → Prop
  | .plain (.num _ k) => k < 4294967296
  | .plain (.copy _ _) => False
  | .plain (.two _ _ _ _) => True
  | .plain (.say _) => True
  | .call _ _ as => as.length ≤ 4
def EndForm : End → Prop
  | .jump _ as => as.length ≤ 8
  | .fork _ _ as _ bs => as.length ≤ 8 ∧ bs.length ≤ 8
  | .give _ => True
structure BlkForm (b : PBlock) : Prop where
  takes : b.takes.length ≤ 4
  rows : ∀ r ∈ b.rows, RowForm r
  last : EndForm b.last
structure FnForm (f : Fn) : Prop where
  args : f.args ≤ 4
  blocks : ∀ b ∈ f.blocks, BlkForm b
/-- as it is told: few rows, small names -/
structure BlkTold (b : PBlock) : Prop where
  form : BlkForm b
  many : b.rows.length ≤ 8
  takes : ∀ x ∈ b.takes, x < 24
  names : ∀ r ∈ b.rows, ∀ x ∈ rowNames r, x < 24
  uses : ∀ x ∈ b.last.uses, x < 24
  targets : ∀ t ∈ b.last.targets, 1 ≤ t
structure FnTold (f : Fn) : Prop where
  args : f.args ≤ 4
  many : f.blocks.length ≤ 6
  blocks : ∀ b ∈ f.blocks, BlkTold b
structure OpenTold (ts : List Nat) (l : List PRow) : Prop where
  takes : ts.length ≤ 4
  many : l.length ≤ 8
  small : ∀ x ∈ ts, x < 24
  names : ∀ r ∈ l, ∀ x ∈ rowNames r, x < 24
  form : ∀ r ∈ l, RowForm r
structure Small (s : Cm09.St) : Prop where
  fns : s.prog.length ≤ 5
  fn : ∀ f ∈ s.prog, FnTold f
  opened : ∀ ts l, s.opened = some (ts, l) → OpenTold ts l
  last : s.opened ≠ none → s.prog ≠ []
  calls : manyCalls s ≤ 8
theorem FnTold.form {f : Fn} (h : FnTold f) : FnForm f := ⟨h.args, fun b hb => (h.blocks b hb).form⟩
def isCall : PRow → Bool
  | .call _ _ _ => true
  | .plain _ => false
theorem sitesIn_eq (f : Fn) : sitesIn f = f.blocks.zipIdx.flatMap fun (q : PBlock × Nat) => ((q.1.rows.zipIdx.filter fun x => isCall x.1).map fun x => (q.2, x.2)) := by
  unfold sitesIn
  refine congrArg (fun F => f.blocks.zipIdx.flatMap F) (funext fun q => ?_)
  refine congrArg (List.map _) ?_
  refine congrArg (fun F => List.filter F q.1.rows.zipIdx) (funext fun x => ?_)
  obtain ⟨r, i⟩ := x
  cases r <;> rfl
def openCalls : Option (List Nat × List PRow) → Nat
  | none => 0
  | some (_, l) => (l.filter isCall).length
theorem manyCalls_eq (s : Cm09.St) : manyCalls s = (sites s.prog).length + openCalls s.opened := by
  unfold manyCalls openCalls
  cases s.opened with
  | none => rfl
  | some p =>
    obtain ⟨ts, l⟩ := p
    refine congrArg (fun F => (sites s.prog).length + (List.filter F l).length) (funext fun r => ?_)
    cases r <;> rfl
theorem filter_idx_len (rows : List PRow) (k : Nat) : ((rows.zipIdx k).filter fun x => isCall x.1).length = (rows.filter isCall).length := by
  induction rows generalizing k with
  | nil => rfl
  | cons r l ih =>
    rw [List.zipIdx_cons, List.filter_cons, List.filter_cons]
    show (if isCall r = true then _ else _ : List _).length = _
    cases isCall r with
    | true => exact congrArg (· + 1) (ih (k + 1))
    | false => exact ih (k + 1)
def callsB (b : PBlock) : Nat := (b.rows.filter isCall).length
def callsF (f : Fn) : Nat := (f.blocks.map callsB).sum
theorem sitesIn_len (f : Fn) : (sitesIn f).length = callsF f := by
  rw [sitesIn_eq]
  unfold callsF
  have key : ∀ (bs : List PBlock) (k : Nat), ((bs.zipIdx k).flatMap fun (q : PBlock × Nat) => ((q.1.rows.zipIdx.filter fun x => isCall x.1).map fun x => (q.2, x.2))).length = (bs.map callsB).sum := by
    intro bs
    induction bs with
    | nil => intro k; rfl
    | cons b l ih =>
      intro k
      rw [List.zipIdx_cons, List.flatMap_cons, List.length_append, List.map_cons, List.sum_cons, ih (k + 1), List.length_map, filter_idx_len]
      rfl
  exact key f.blocks 0
theorem sites_len (p : Prog) : (sites p).length = (p.map callsF).sum := by
  unfold sites
  have key : ∀ (fs : List Fn) (k : Nat), ((fs.zipIdx k).flatMap fun (q : Fn × Nat) => (sitesIn q.1).map fun x => (⟨q.2, x.1, x.2⟩ : Site)).length = (fs.map callsF).sum := by
    intro fs
    induction fs with
    | nil => intro k; rfl
    | cons f l ih =>
      intro k
      rw [List.zipIdx_cons, List.flatMap_cons, List.length_append, List.map_cons, List.sum_cons, ih (k + 1), List.length_map, sitesIn_len]
  exact key p 0
theorem manyCalls_sum (s : Cm09.St) : manyCalls s = (s.prog.map callsF).sum + openCalls s.opened := by rw [manyCalls_eq, sites_len]
/-! a step keeps it -/
theorem all_name {l : List Nat} (h : l.all isName = true) : ∀ x ∈ l, x < 24 := fun x hx => of_decide_eq_true (List.all_eq_true.mp h x hx)
theorem Small.init : Small Cm09.init := ⟨by decide, fun f h => (by cases h), fun ts l h => (by cases h), fun h => absurd rfl h, by decide⟩
theorem split_last {s : Cm09.St} (h : s.prog ≠ []) : s.prog = s.prog.dropLast ++ [lastFn s] := by
  unfold lastFn
  rw [List.getLastD_eq_getLast?, List.getLast?_eq_some_getLast h]
  exact (List.dropLast_concat_getLast h).symm
theorem Small.rowed {s : Cm09.St} {r : PRow} (h : Small s) (hf : RowForm r) (hc : isCall r = true → s.opened ≠ none → manyCalls s < 8) : Small (rowed s r).1 := by
  unfold Cm09.rowed
  cases ho : s.opened with
  | none => exact h
  | some p =>
    obtain ⟨ts, l⟩ := p
    show Small (if _ then _ else if _ then _ else _ : Cm09.St × List Int).1
    have O := h.opened ts l ho
    by_cases h1 : (rowNames r).all isName = false
    · rw [if_pos h1]; exact h
    · rw [if_neg h1]
      by_cases h2 : 8 ≤ l.length
      · rw [if_pos h2]; exact h
      · rw [if_neg h2]
        have h1' : (rowNames r).all isName = true := by simpa using h1
        refine ⟨h.fns, h.fn, fun ts' l' e => ?_, fun _ => h.last (by rw [ho]; intro z; cases z), ?_⟩
        · cases e
          refine ⟨O.takes, by rw [List.length_append]; show l.length + 1 ≤ 8; omega, O.small, fun r' hr => ?_, fun r' hr => ?_⟩
          · rcases List.mem_append.1 hr with z | z
            · exact O.names r' z
            · rw [List.mem_singleton.1 z]; exact all_name h1'
          · rcases List.mem_append.1 hr with z | z
            · exact O.form r' z
            · rw [List.mem_singleton.1 z]; exact hf
        · have hm := h.calls
          rw [manyCalls_sum] at hm ⊢
          rw [ho] at hm
          show _ + ((l ++ [r]).filter isCall).length ≤ 8
          have hm' : (s.prog.map callsF).sum + (l.filter isCall).length ≤ 8 := hm
          rw [List.filter_append, List.length_append]
          cases hr : isCall r with
          | false =>
            have e : ([r].filter isCall) = [] := by simp [hr]
            rw [e]
            exact hm'
          | true =>
            have e : ([r].filter isCall).length ≤ 1 := List.length_filter_le _ _
            have z := hc hr (by rw [ho]; intro z; cases z)
            rw [manyCalls_sum, ho] at z
            have z' : (s.prog.map callsF).sum + (l.filter isCall).length < 8 := z
            show (s.prog.map callsF).sum + _ ≤ 8
            omega
theorem Small.ended {s : Cm09.St} {e : End} (h : Small s) (hf : EndForm e) (h6 : s.opened ≠ none → (lastFn s).blocks.length < 6) : Small (ended s e).1 := by
  unfold Cm09.ended
  cases ho : s.opened with
  | none => exact h
  | some p =>
    obtain ⟨ts, l⟩ := p
    show Small (if _ then _ else _ : Cm09.St × List Int).1
    have O := h.opened ts l ho
    by_cases h1 : (e.uses.all isName && e.targets.all isTarget) = false
    · rw [if_pos h1]; exact h
    · rw [if_neg h1]
      have h1' : e.uses.all isName = true ∧ e.targets.all isTarget = true := by simpa using h1
      have hne := h.last (by rw [ho]; intro z; cases z)
      have hs := split_last hne
      have hlm : lastFn s ∈ s.prog := by
        rw [hs]
        simp
      have F := h.fn _ hlm
      have hsix := h6 (by rw [ho]; intro z; cases z)
      refine ⟨?_, fun f hf' => ?_, fun ts' l' z => (by cases z), fun z => absurd rfl z, ?_⟩
      · have z := h.fns
        rw [hs] at z
        rw [List.length_append] at z ⊢
        exact z
      · rcases List.mem_append.1 hf' with z | z
        · exact h.fn f ((List.dropLast_sublist _).subset z)
        · rw [List.mem_singleton.1 z]
          refine ⟨F.args, by rw [List.length_append]; show (lastFn s).blocks.length + 1 ≤ 6; omega, fun b hb => ?_⟩
          rcases List.mem_append.1 hb with y | y
          · exact F.blocks b y
          · rw [List.mem_singleton.1 y]
            refine ⟨⟨O.takes, O.form, hf⟩, O.many, O.small, O.names, all_name h1'.1, fun t ht => ?_⟩
            have z := List.all_eq_true.mp h1'.2 t ht
            unfold isTarget at z
            rw [Bool.and_eq_true, decide_eq_true_eq] at z
            exact z.1
      · have hm := h.calls
        rw [manyCalls_sum, ho] at hm
        have hm' : (s.prog.map callsF).sum + (l.filter isCall).length ≤ 8 := hm
        rw [manyCalls_sum]
        show ((s.prog.dropLast ++ [(⟨(lastFn s).args, (lastFn s).blocks ++ [⟨ts, l, e⟩]⟩ : Fn)]).map callsF).sum + 0 ≤ 8
        rw [hs] at hm'
        rw [List.map_append, List.sum_append] at hm' ⊢
        have e1 : ([lastFn s].map callsF).sum = ((lastFn s).blocks.map callsB).sum := by simp [callsF]
        have e2 : (([(⟨(lastFn s).args, (lastFn s).blocks ++ [⟨ts, l, e⟩]⟩ : Fn)]).map callsF).sum = ((lastFn s).blocks.map callsB).sum + (l.filter isCall).length := by
          simp [callsF, callsB, List.map_append, List.sum_append]
        omega
/-- the last function of an open block has room: kept beside Small -/
structure Kept (s : Cm09.St) : Prop where
  small : Small s
  room : s.opened ≠ none → (lastFn s).blocks.length < 6
theorem Kept.init : Kept Cm09.init := ⟨Small.init, fun h => absurd rfl h⟩
theorem rowed_prog {s : Cm09.St} {r : PRow} : (rowed s r).1.prog = s.prog ∧ ((rowed s r).1.opened ≠ none → s.opened ≠ none) := by
  unfold Cm09.rowed
  cases ho : s.opened with
  | none => exact ⟨rfl, fun h => absurd ho h⟩
  | some p =>
    obtain ⟨ts, l⟩ := p
    show (if _ then _ else if _ then _ else _ : Cm09.St × List Int).1.prog = _ ∧ _
    refine ⟨?_, fun _ z => by cases z⟩
    split
    · rfl
    · split <;> rfl
theorem lastFn_of {s t : Cm09.St} (h : s.prog = t.prog) : lastFn s = lastFn t := by unfold lastFn; rw [h]
theorem Kept.rowed {s : Cm09.St} {r : PRow} (h : Kept s) (hf : RowForm r) (hc : isCall r = true → s.opened ≠ none → manyCalls s < 8) : Kept (rowed s r).1 :=
  ⟨h.small.rowed hf hc, fun z => by rw [lastFn_of rowed_prog.1]; exact h.room (rowed_prog.2 z)⟩
theorem ended_or (s : Cm09.St) (e : End) : (ended s e).1 = s ∨ (ended s e).1.opened = none := by
  unfold Cm09.ended
  cases ho : s.opened with
  | none => exact .inl rfl
  | some p =>
    obtain ⟨ts, l⟩ := p
    show (if _ then _ else _ : Cm09.St × List Int).1 = s ∨ (if _ then _ else _ : Cm09.St × List Int).1.opened = none
    by_cases h1 : (e.uses.all isName && e.targets.all isTarget) = false
    · rw [if_pos h1]; exact .inl rfl
    · rw [if_neg h1]; exact .inr rfl
theorem Kept.ended {s : Cm09.St} {e : End} (h : Kept s) (hf : EndForm e) : Kept (ended s e).1 := by
  refine ⟨h.small.ended hf h.room, fun z => ?_⟩
  rcases ended_or s e with q | q
  · rw [q] at z ⊢
    exact h.room z
  · exact absurd q z
/-- what is handed in with a call -/
def CallIn : Cm09.Call → Prop
  | .num _ k => k < 4294967296
  | .run _ _ l => ∀ x ∈ l, x < 4294967296
  | .counts _ _ l => ∀ x ∈ l, x < 4294967296
  | .choose _ _ _ l => ∀ x ∈ l, x < 4294967296
  | .runChosen _ _ _ l => ∀ x ∈ l, x < 4294967296
  | .whole _ _ _ l => ∀ x ∈ l, x < 4294967296
  | .fork _ _ _ _ l => l.length ≤ 12
  | _ => True
theorem Kept.step {s : Cm09.St} {c : Cm09.Call} (h : Kept s) (hc : CallIn c) : Kept (Cm09.step s c).1 := by
  cases c with
  | fn k =>
    show Kept (if _ then _ else if _ then _ else _ : Cm09.St × List Int).1
    by_cases h1 : s.opened.isSome = true
    · rw [if_pos h1]; exact h
    · rw [if_neg h1]
      by_cases h2 : 4 < k ∨ 5 ≤ s.prog.length
      · rw [if_pos h2]; exact h
      · rw [if_neg h2]
        have ho : s.opened = none := by simpa using h1
        refine ⟨⟨by rw [List.length_append]; show s.prog.length + 1 ≤ 5; omega, fun f hf => ?_, fun ts l z => (by cases z), fun z => absurd rfl z, ?_⟩, fun z => absurd rfl z⟩
        · rcases List.mem_append.1 hf with z | z
          · exact h.small.fn f z
          · rw [List.mem_singleton.1 z]
            exact ⟨by show k ≤ 4; omega, Nat.zero_le _, fun b hb => by cases hb⟩
        · have hm := h.small.calls
          rw [manyCalls_sum, ho] at hm
          rw [manyCalls_sum, List.map_append, List.sum_append]
          have e2 : (([(⟨k, []⟩ : Fn)]).map callsF).sum = 0 := by simp [callsF]
          rw [e2]
          exact hm
  | block ts =>
    show Kept (if _ then _ else if _ then _ else if _ then _ else _ : Cm09.St × List Int).1
    by_cases h1 : s.opened.isSome = true ∨ s.prog.isEmpty = true
    · rw [if_pos h1]; exact h
    · rw [if_neg h1]
      by_cases h2 : ts.all isName = false
      · rw [if_pos h2]; exact h
      · rw [if_neg h2]
        by_cases h3 : 6 ≤ (lastFn s).blocks.length ∨ 4 < ts.length
        · rw [if_pos h3]; exact h
        · rw [if_neg h3]
          have ho : s.opened = none := by
            cases z : s.opened with
            | none => rfl
            | some p => exact absurd (Or.inl (by rw [z]; rfl)) h1
          have hne : s.prog ≠ [] := fun z => h1 (.inr (by rw [z]; rfl))
          have h2' : ts.all isName = true := by simpa using h2
          refine ⟨⟨h.small.fns, h.small.fn, fun ts' l' z => ?_, fun _ => hne, ?_⟩, fun _ => ?_⟩
          · cases z
            exact ⟨by omega, by decide, all_name h2', fun r hr => (by cases hr), fun r hr => (by cases hr)⟩
          · have hm := h.small.calls
            rw [manyCalls_sum, ho] at hm
            rw [manyCalls_sum]
            exact hm
          · show (lastFn ⟨s.prog, some (ts, [])⟩).blocks.length < 6
            have e : lastFn ⟨s.prog, some (ts, [])⟩ = lastFn s := lastFn_of rfl
            rw [e]
            omega
  | num x k => exact h.rowed hc fun z => by cases z
  | two x o a b =>
    show Kept (match s.opened, opOf o with
        | none, _ => (s, [-3])
        | some _, none => (s, [-4])
        | some _, some q => Cm09.rowed s (.plain (.two x q a b)) : Cm09.St × List Int).1
    split
    · exact h
    · exact h
    · exact h.rowed trivial fun z => by cases z
  | say a => exact h.rowed trivial fun z => by cases z
  | call x g as =>
    show Kept (if _ then _ else if _ then _ else if _ then _ else _ : Cm09.St × List Int).1
    by_cases h1 : s.opened.isNone = true
    · rw [if_pos h1]; exact h
    · rw [if_neg h1]
      by_cases h2 : 5 ≤ g ∨ 4 < as.length
      · rw [if_pos h2]; exact h
      · rw [if_neg h2]
        by_cases h3 : 8 ≤ manyCalls s
        · rw [if_pos h3]; exact h
        · rw [if_neg h3]
          exact h.rowed (by show as.length ≤ 4; omega) fun _ _ => by omega
  | jump t as =>
    show Kept (if _ then _ else _ : Cm09.St × List Int).1
    by_cases h1 : s.opened.isSome = true ∧ 4 < as.length
    · rw [if_pos h1]; exact h
    · rw [if_neg h1]
      by_cases h2 : s.opened = none
      · have e : Cm09.ended s (.jump t as) = (s, [-3]) := by unfold Cm09.ended; rw [h2]
        rw [e]; exact h
      · refine h.ended ?_
        have h3 : s.opened.isSome = true := by
          cases z : s.opened with
          | none => exact absurd z h2
          | some _ => rfl
        show as.length ≤ 8
        have h4 : ¬ 4 < as.length := fun z => h1 ⟨h3, z⟩
        omega
  | fork v t u n l =>
    show Kept (if _ then _ else _ : Cm09.St × List Int).1
    by_cases h1 : s.opened.isSome = true ∧ (l.length < n ∨ 8 < l.length)
    · rw [if_pos h1]; exact h
    · rw [if_neg h1]
      by_cases h2 : s.opened = none
      · have e : Cm09.ended s (.fork v t (l.take n) u (l.drop n)) = (s, [-3]) := by unfold Cm09.ended; rw [h2]
        rw [e]; exact h
      · refine h.ended ?_
        have h3 : s.opened.isSome = true := by
          cases z : s.opened with
          | none => exact absurd z h2
          | some _ => rfl
        have h4 : ¬ (l.length < n ∨ 8 < l.length) := fun z => h1 ⟨h3, z⟩
        refine ⟨?_, ?_⟩
        · show (l.take n).length ≤ 8
          rw [List.length_take]; omega
        · show (l.drop n).length ≤ 8
          rw [List.length_drop]; omega
  | give v => exact h.ended trivial
  | shows => exact h
  | run f n l => exact h
  | counts f n l => exact h
  | putIn f b r => exact h
  | choose m f n l => exact h
  | runChosen m f n l => exact h
  | whole m f n l => exact h
end Pc

namespace Pc
open CmBase Cm09
/-! ### names -/
theorem foldl_max (l : List Nat) (a N : Nat) : l.foldl (fun m x => max m (x + 1)) a ≤ N ↔ a ≤ N ∧ ∀ x ∈ l, x < N := by
  induction l generalizing a with
  | nil => simp
  | cons y r ih =>
    rw [List.foldl_cons, ih]
    simp only [List.mem_cons, forall_eq_or_imp]
    constructor
    · rintro ⟨h1, h2⟩
      exact ⟨by omega, by omega, h2⟩
    · rintro ⟨h1, h2, h3⟩
      exact ⟨by omega, h3⟩
theorem above_le (f : Fn) (N : Nat) : above f ≤ N ↔ ∀ x ∈ namesIn f, x < N := by
  unfold above
  rw [foldl_max]
  exact ⟨fun h => h.2, fun h => ⟨Nat.zero_le _, h⟩⟩
theorem lt_above {f : Fn} {x : Nat} (h : x ∈ namesIn f) : x < above f := (above_le f _).mp (Nat.le_refl _) x h
theorem above_mem {f : Fn} (h : above f ≠ 0) : above f - 1 ∈ namesIn f := by
  apply Classical.byContradiction
  intro hn
  have : above f ≤ above f - 1 := (above_le f _).mpr fun x hx => by
    have h1 := lt_above hx
    have h2 : x ≠ above f - 1 := fun z => hn (z ▸ hx)
    omega
  omega
theorem args_mem {f : Fn} {x : Nat} (h : x < f.args) : x ∈ namesIn f := List.mem_append_left _ (List.mem_range.mpr h)
theorem args_above (f : Fn) : f.args ≤ above f := by
  by_cases h : f.args = 0
  · omega
  · have := lt_above (args_mem (f := f) (x := f.args - 1) (by omega))
    omega
def nameList (f : Fn) : List Nat := (List.range (above f)).filter fun y => (namesIn f).contains y
theorem mem_nameList {f : Fn} {k : Nat} : k ∈ nameList f ↔ k ∈ namesIn f := by
  unfold nameList
  rw [List.mem_filter, List.mem_range, List.contains_iff_mem]
  exact ⟨fun h => h.2, fun h => ⟨lt_above h, h⟩⟩
theorem nameList_lt (f : Fn) : (nameList f).Pairwise (· < ·) := List.pairwise_lt_range.filter _
def others (g : Fn) : List Nat := (List.range (above g)).filter fun y => decide (g.args ≤ y) && (namesIn g).contains y
theorem others_eq (g : Fn) : others g = (nameList g).filter fun y => decide (g.args ≤ y) := by
  unfold others nameList
  rw [List.filter_filter]
theorem nameList_split (g : Fn) : nameList g = List.range g.args ++ others g := by
  have ha := args_above g
  have e : above g = g.args + (above g - g.args) := by omega
  have e1 : List.range (above g) = List.range g.args ++ (List.range (above g - g.args)).map (g.args + ·) := by
    rw [← List.range_add, ← e]
  unfold nameList others
  rw [e1, List.filter_append, List.filter_append]
  have f1 : (List.range g.args).filter (fun y => (namesIn g).contains y) = List.range g.args := List.filter_eq_self.mpr fun x hx => by
    rw [List.contains_iff_mem]
    exact args_mem (List.mem_range.mp hx)
  have f2 : (List.range g.args).filter (fun y => decide (g.args ≤ y) && (namesIn g).contains y) = [] := List.filter_eq_nil_iff.mpr fun x hx => by
    have := List.mem_range.mp hx
    simp
    omega
  rw [f1, f2, List.nil_append]
  refine congrArg _ (List.filter_congr fun x hx => ?_)
  obtain ⟨y, _, rfl⟩ := List.mem_map.1 hx
  simp
def nm (f : Fn) : Nat := (nameList f).length
theorem nm_others (g : Fn) : nm g = g.args + (others g).length := by
  unfold nm
  rw [nameList_split, List.length_append, List.length_range]
theorem nm_above (f : Fn) : nm f ≤ above f := by
  unfold nm nameList
  exact Nat.le_trans (List.length_filter_le _ _) (by rw [List.length_range]; exact Nat.le_refl _)
/-! ### a call put in -/
def cpBlock (d n c : Nat) (g : Fn) (q : PBlock × Nat) : PBlock :=
  ⟨if q.2 = 0 then (List.range g.args).map (fun y => d + y) else q.1.takes.map (fun y => d + y), (if q.2 = 0 then (others g).map (fun y => PRow.plain (.num (d + y) 0)) else []) ++ q.1.rows.map (shiftRow d), shiftEnd d n c q.1.last⟩
def copies (d n c : Nat) (g : Fn) : List PBlock := g.blocks.zipIdx.map (cpBlock d n c g)
theorem putIn_is {f g : Fn} {b r x g0 : Nat} {as : List Nat} (h : (blockAt f b).rows[r]? = some (.call x g0 as)) :
    putIn f g b r = ⟨f.args, f.blocks.set b ⟨(blockAt f b).takes, (blockAt f b).rows.take r, .jump f.blocks.length as⟩ ++ (copies (above f) f.blocks.length (f.blocks.length + g.blocks.length) g ++ [⟨[x], (blockAt f b).rows.drop (r + 1), (blockAt f b).last⟩])⟩ := by
  unfold putIn
  rw [h]
  rfl
theorem block_in {f : Fn} {b r : Nat} {q : PRow} (h : (blockAt f b).rows[r]? = some q) : b < f.blocks.length ∧ r < (blockAt f b).rows.length := by
  constructor
  · apply Classical.byContradiction
    intro hn
    have e : blockAt f b = ⟨[], [], .give 0⟩ := by
      unfold blockAt
      rw [List.getD_eq_getElem?_getD]; rw [List.getElem?_eq_none (by omega)]
      rfl
    rw [e] at h
    simp at h
  · exact (List.getElem?_eq_some_iff.1 h).1
theorem blockAt_get {f : Fn} {b : Nat} (h : b < f.blocks.length) : f.blocks[b]? = some (blockAt f b) := by
  unfold blockAt
  rw [List.getD_eq_getElem?_getD, List.getElem?_eq_getElem h]
  rfl
theorem blockAt_of {f : Fn} {b : Nat} {k : PBlock} (h : f.blocks[b]? = some k) : blockAt f b = k := by
  unfold blockAt
  rw [List.getD_eq_getElem?_getD, h]
  rfl
theorem blockAt_mem {f : Fn} {b : Nat} (h : b < f.blocks.length) : blockAt f b ∈ f.blocks := List.mem_of_getElem? (blockAt_get h)
def bnames (b : PBlock) : List Nat := b.takes ++ b.rows.flatMap rowNames ++ b.last.uses
theorem mem_namesIn {f : Fn} {x : Nat} : x ∈ namesIn f ↔ x < f.args ∨ ∃ b ∈ f.blocks, x ∈ bnames b := by
  unfold namesIn bnames
  rw [List.mem_append, List.mem_range, List.mem_flatMap]
theorem rowNames_shift (d : Nat) (r : PRow) : rowNames (shiftRow d r) = (rowNames r).map (d + ·) := by
  cases r with
  | plain r => cases r <;> rfl
  | call x g as => rfl
theorem uses_shift (d n c : Nat) (e : End) : (shiftEnd d n c e).uses = e.uses.map (d + ·) := by
  cases e with
  | jump t as => rfl
  | fork v t as u bs =>
    show (d + v) :: (as.map fun a => d + a) ++ (bs.map fun a => d + a) = ((v :: as) ++ bs).map (d + ·)
    rw [List.map_append]
    rfl
  | give v => rfl
theorem rows_shift (d : Nat) (l : List PRow) : (l.map (shiftRow d)).flatMap rowNames = (l.flatMap rowNames).map (d + ·) := by
  induction l with
  | nil => rfl
  | cons r l ih => rw [List.map_cons, List.flatMap_cons, List.flatMap_cons, List.map_append, ih, rowNames_shift]
theorem nums_names (d : Nat) (l : List Nat) : (l.map (fun y => PRow.plain (.num (d + y) 0))).flatMap rowNames = l.map (d + ·) := by
  induction l with
  | nil => rfl
  | cons r l ih => rw [List.map_cons, List.flatMap_cons, List.map_cons, ih]; rfl
theorem mem_zip {α : Type} {l : List α} {q : α × Nat} (h : q ∈ l.zipIdx) : l[q.2]? = some q.1 := by
  have := List.mem_zipIdx_iff_getElem?.mp h
  exact this
theorem zip_mem {α : Type} {l : List α} {i : Nat} {x : α} (h : l[i]? = some x) : (x, i) ∈ l.zipIdx := List.mem_zipIdx_iff_getElem?.mpr h
/-- a whole function -/
structure WayWell (f : Fn) (t : Nat) (as : List Nat) : Prop where
  lo : 1 ≤ t
  hi : t < f.blocks.length
  len : as.length = (takesOfFn f t).length
def EndWell (f : Fn) : End → Prop
  | .jump t as => WayWell f t as
  | .fork _ t as u bs => WayWell f t as ∧ WayWell f u bs
  | .give _ => True
structure Whole (n : Nat) (ar : Nat → Nat) (f : Fn) : Prop where
  some : 1 ≤ f.blocks.length
  zero : (blockAt f 0).takes = []
  ends : ∀ b ∈ f.blocks, EndWell f b.last
  calls : ∀ b ∈ f.blocks, ∀ x g as, PRow.call x g as ∈ b.rows → g < n ∧ as.length = ar g
theorem mem_copies {d n c : Nat} {g : Fn} (h1 : 1 ≤ g.blocks.length) (h0 : (blockAt g 0).takes = []) {x : Nat} : (∃ b ∈ copies d n c g, x ∈ bnames b) ↔ ∃ y ∈ namesIn g, x = d + y := by
  unfold copies
  constructor
  · rintro ⟨b, hb, hx⟩
    obtain ⟨q, hq, rfl⟩ := List.mem_map.1 hb
    have hg := List.mem_of_getElem? (mem_zip hq)
    unfold cpBlock bnames at hx
    simp only at hx
    rw [List.flatMap_append, rows_shift, uses_shift] at hx
    have fromB : ∀ y, y ∈ bnames q.1 → x = d + y → ∃ y ∈ namesIn g, x = d + y := fun y hy e => ⟨y, mem_namesIn.mpr (.inr ⟨q.1, hg, hy⟩), e⟩
    rcases List.mem_append.1 hx with hx | hx
    · rcases List.mem_append.1 hx with hx | hx
      · by_cases z : q.2 = 0
        · rw [if_pos z] at hx
          obtain ⟨y, hy, rfl⟩ := List.mem_map.1 hx
          exact ⟨y, args_mem (List.mem_range.mp hy), rfl⟩
        · rw [if_neg z] at hx
          obtain ⟨y, hy, rfl⟩ := List.mem_map.1 hx
          exact fromB y (List.mem_append_left _ (List.mem_append_left _ hy)) rfl
      · rcases List.mem_append.1 hx with hx | hx
        · by_cases z : q.2 = 0
          · rw [if_pos z, nums_names] at hx
            obtain ⟨y, hy, rfl⟩ := List.mem_map.1 hx
            rw [others_eq] at hy
            exact ⟨y, mem_nameList.mp (List.mem_filter.mp hy).1, rfl⟩
          · rw [if_neg z] at hx
            simp at hx
        · obtain ⟨y, hy, rfl⟩ := List.mem_map.1 hx
          exact fromB y (List.mem_append_left _ (List.mem_append_right _ hy)) rfl
    · obtain ⟨y, hy, rfl⟩ := List.mem_map.1 hx
      exact fromB y (List.mem_append_right _ hy) rfl
  · rintro ⟨y, hy, rfl⟩
    have hz := blockAt_get (f := g) (b := 0) (by omega)
    rcases mem_namesIn.mp hy with ha | ⟨b, hb, hyb⟩
    · refine ⟨cpBlock d n c g (blockAt g 0, 0), List.mem_map.mpr ⟨_, zip_mem hz, rfl⟩, ?_⟩
      unfold cpBlock bnames
      refine List.mem_append_left _ (List.mem_append_left _ ?_)
      simp only [if_true]
      exact List.mem_map.mpr ⟨y, List.mem_range.mpr ha, rfl⟩
    · obtain ⟨i, hi⟩ := List.mem_iff_getElem?.1 hb
      refine ⟨cpBlock d n c g (b, i), List.mem_map.mpr ⟨_, zip_mem hi, rfl⟩, ?_⟩
      unfold cpBlock bnames
      simp only
      rw [List.flatMap_append, rows_shift, uses_shift]
      unfold bnames at hyb
      rcases List.mem_append.1 hyb with hyb | hyb
      · rcases List.mem_append.1 hyb with hyb | hyb
        · by_cases z : i = 0
          · subst z
            have e : b = blockAt g 0 := (blockAt_of hi).symm
            rw [e, h0] at hyb
            cases hyb
          · refine List.mem_append_left _ (List.mem_append_left _ ?_)
            rw [if_neg z]
            exact List.mem_map.mpr ⟨y, hyb, rfl⟩
        · exact List.mem_append_left _ (List.mem_append_right _ (List.mem_append_right _ (List.mem_map.mpr ⟨y, hyb, rfl⟩)))
      · exact List.mem_append_right _ (List.mem_map.mpr ⟨y, hyb, rfl⟩)
section
variable {f g : Fn} {b r x g0 : Nat} {as : List Nat}
theorem parted (h : (blockAt f b).rows[r]? = some (.call x g0 as)) : f.blocks = f.blocks.take b ++ blockAt f b :: f.blocks.drop (b + 1) ∧ (∀ nb, f.blocks.set b nb = f.blocks.take b ++ nb :: f.blocks.drop (b + 1)) ∧
    (blockAt f b).rows = (blockAt f b).rows.take r ++ PRow.call x g0 as :: (blockAt f b).rows.drop (r + 1) := by
  obtain ⟨hb, hr⟩ := block_in h
  have cut : ∀ {α : Type} (l : List α) (i : Nat) (y : α), l[i]? = some y → l = l.take i ++ y :: l.drop (i + 1) := fun l i y e => by
    obtain ⟨hi, e2⟩ := List.getElem?_eq_some_iff.1 e
    rw [← e2, ← List.drop_eq_getElem_cons hi, List.take_append_drop]
  refine ⟨cut _ _ _ (blockAt_get hb), fun nb => ?_, cut _ _ _ h⟩
  rw [List.set_eq_take_append_cons_drop, if_pos hb]
theorem putIn_names (h : (blockAt f b).rows[r]? = some (.call x g0 as)) (h1 : 1 ≤ g.blocks.length) (h0 : (blockAt g 0).takes = []) {z : Nat} : z ∈ namesIn (putIn f g b r) ↔ z ∈ namesIn f ∨ ∃ y ∈ namesIn g, z = above f + y := by
  obtain ⟨p1, p2, p3⟩ := parted h
  rw [putIn_is h, mem_namesIn, mem_namesIn, p2]
  generalize hk : blockAt f b = k at p1 p3 ⊢
  have ek : ∀ z, z ∈ bnames k ↔ (z ∈ bnames ⟨k.takes, k.rows.take r, .jump f.blocks.length as⟩ ∨ z ∈ bnames ⟨[x], k.rows.drop (r + 1), k.last⟩) := fun z => by
    unfold bnames
    have ej : (End.jump f.blocks.length as).uses = as := rfl
    have er : rowNames (PRow.call x g0 as) = x :: as := rfl
    conv => lhs; rw [p3]
    simp only [List.flatMap_append, List.flatMap_cons, List.mem_append, er, ej, List.mem_cons, List.not_mem_nil, or_false]
    constructor
    · rintro ((h | h | (h | h) | h) | h)
      · exact .inl (.inl (.inl h))
      · exact .inl (.inl (.inr h))
      · exact .inr (.inl (.inl h))
      · exact .inl (.inr h)
      · exact .inr (.inl (.inr h))
      · exact .inr (.inr h)
    · rintro (((h | h) | h) | ((h | h) | h))
      · exact .inl (.inl h)
      · exact .inl (.inr (.inl h))
      · exact .inl (.inr (.inr (.inl (.inr h))))
      · exact .inl (.inr (.inr (.inl (.inl h))))
      · exact .inl (.inr (.inr (.inr h)))
      · exact .inr h
  have em := mem_copies (d := above f) (n := f.blocks.length) (c := f.blocks.length + g.blocks.length) h1 h0 (x := z)
  constructor
  · rintro (ha | ⟨B, hB, hz⟩)
    · exact .inl (.inl ha)
    · rcases List.mem_append.1 hB with hB | hB
      · refine .inl (.inr ?_)
        rw [p1]
        rcases List.mem_append.1 hB with q | q
        · exact ⟨B, List.mem_append_left _ q, hz⟩
        · rcases List.mem_cons.1 q with q | q
          · exact ⟨k, List.mem_append_right _ List.mem_cons_self, (ek z).mpr (.inl (q ▸ hz))⟩
          · exact ⟨B, List.mem_append_right _ (List.mem_cons_of_mem _ q), hz⟩
      · rcases List.mem_append.1 hB with hB | hB
        · exact .inr (em.mp ⟨B, hB, hz⟩)
        · rw [List.mem_singleton.1 hB] at hz
          refine .inl (.inr ⟨k, ?_, (ek z).mpr (.inr hz)⟩)
          rw [p1]
          exact List.mem_append_right _ List.mem_cons_self
  · rintro ((ha | ⟨B, hB, hz⟩) | hz)
    · exact .inl ha
    · refine .inr ?_
      rw [p1] at hB
      rcases List.mem_append.1 hB with q | q
      · exact ⟨B, List.mem_append_left _ (List.mem_append_left _ q), hz⟩
      · rcases List.mem_cons.1 q with q | q
        · rw [q] at hz
          rcases (ek z).mp hz with y | y
          · exact ⟨_, List.mem_append_left _ (List.mem_append_right _ List.mem_cons_self), y⟩
          · exact ⟨_, List.mem_append_right _ (List.mem_append_right _ (List.mem_singleton.mpr rfl)), y⟩
        · exact ⟨B, List.mem_append_left _ (List.mem_append_right _ (List.mem_cons_of_mem _ q)), hz⟩
    · obtain ⟨B, hB, y⟩ := em.mpr hz
      exact .inr ⟨B, List.mem_append_right _ (List.mem_append_left _ hB), y⟩
theorem putIn_above (h : (blockAt f b).rows[r]? = some (.call x g0 as)) (h1 : 1 ≤ g.blocks.length) (h0 : (blockAt g 0).takes = []) : above (putIn f g b r) = above f + above g := by
  have hn := fun z => putIn_names (g := g) h h1 h0 (z := z)
  apply Nat.le_antisymm
  · refine (above_le _ _).mpr fun z hz => ?_
    rcases (hn z).mp hz with q | ⟨y, hy, rfl⟩
    · have := lt_above q; omega
    · have := lt_above hy; omega
  · by_cases hz : above g = 0
    · rw [hz, Nat.add_zero]
      exact (above_le _ _).mpr fun z q => lt_above ((hn z).mpr (.inl q))
    · have := lt_above ((hn (above f + (above g - 1))).mpr (.inr ⟨_, above_mem hz, rfl⟩))
      omega
theorem putIn_nameList (h : (blockAt f b).rows[r]? = some (.call x g0 as)) (h1 : 1 ≤ g.blocks.length) (h0 : (blockAt g 0).takes = []) : nameList (putIn f g b r) = nameList f ++ (nameList g).map (above f + ·) := by
  have hn := fun z => putIn_names (g := g) h h1 h0 (z := z)
  unfold nameList
  rw [putIn_above h h1 h0, List.range_add, List.filter_append, List.filter_map]
  congr 1
  · refine List.filter_congr fun z hz => ?_
    have hz := List.mem_range.mp hz
    rw [Bool.eq_iff_iff, List.contains_iff_mem, List.contains_iff_mem, hn]
    refine ⟨fun q => ?_, .inl⟩
    rcases q with q | ⟨y, _, e⟩
    · exact q
    · omega
  · refine congrArg _ (List.filter_congr fun y hy => ?_)
    show (namesIn (putIn f g b r)).contains (above f + y) = _
    rw [Bool.eq_iff_iff, List.contains_iff_mem, List.contains_iff_mem, hn]
    refine ⟨fun q => ?_, fun q => .inr ⟨y, q, rfl⟩⟩
    rcases q with q | ⟨y', hy', e⟩
    · have := lt_above q; omega
    · have : y = y' := by omega
      rw [this]; exact hy'
theorem putIn_nm (h : (blockAt f b).rows[r]? = some (.call x g0 as)) (h1 : 1 ≤ g.blocks.length) (h0 : (blockAt g 0).takes = []) : nm (putIn f g b r) = nm f + nm g := by
  unfold nm
  rw [putIn_nameList h h1 h0, List.length_append, List.length_map]
/-! sizes -/
def bsize (b : PBlock) : Nat := b.takes.length + b.rows.length + 1
theorem foldl_sum (l : List Nat) : ∀ a, l.foldl (fun a b => a + b) a = a + l.sum := by
  induction l with
  | nil => intro a; simp
  | cons x r ih => intro a; rw [List.foldl_cons, ih, List.sum_cons]; omega
theorem sizeFn_sum (f : Fn) : sizeFn f = (f.blocks.map bsize).sum := by
  unfold sizeFn
  rw [foldl_sum, Nat.zero_add]
  rfl
theorem size_sum (p : Prog) : size p = (p.map sizeFn).sum := by
  unfold size
  rw [foldl_sum, Nat.zero_add]
theorem copies_size (d n c : Nat) (g : Fn) (h1 : 1 ≤ g.blocks.length) (h0 : (blockAt g 0).takes = []) : ((copies d n c g).map bsize).sum = sizeFn g + nm g := by
  rw [sizeFn_sum, nm_others]
  unfold copies
  cases hb : g.blocks with
  | nil => rw [hb] at h1; simp at h1
  | cons B l =>
    have e0 : B.takes = [] := by
      have e : blockAt g 0 = B := blockAt_of (by rw [hb]; rfl)
      rw [e] at h0
      exact h0
    have key : ∀ (l : List PBlock) (k : Nat), 1 ≤ k → (((l.zipIdx k).map (cpBlock d n c g)).map bsize).sum = (l.map bsize).sum := by
      intro l
      induction l with
      | nil => intro k _; rfl
      | cons X l ih =>
        intro k hk
        rw [List.zipIdx_cons, List.map_cons, List.map_cons, List.sum_cons, List.map_cons, List.sum_cons, ih (k + 1) (by omega)]
        have e : bsize (cpBlock d n c g (X, k)) = bsize X := by
          unfold bsize cpBlock
          simp only
          rw [if_neg (by omega), if_neg (by omega), List.nil_append, List.length_map, List.length_map]
        rw [e]
    rw [List.zipIdx_cons, List.map_cons, List.map_cons, List.sum_cons, List.map_cons, List.sum_cons, key l (0 + 1) (by omega)]
    have e : bsize (cpBlock d n c g (B, 0)) = bsize B + (g.args + (others g).length) := by
      unfold bsize cpBlock
      simp only [if_true]
      rw [List.length_append, List.length_map, List.length_map, List.length_map, List.length_range, e0]
      simp only [List.length_nil]
      omega
    rw [e]
    omega
theorem putIn_size (h : (blockAt f b).rows[r]? = some (.call x g0 as)) (h1 : 1 ≤ g.blocks.length) (h0 : (blockAt g 0).takes = []) : sizeFn (putIn f g b r) = sizeFn f + (sizeFn g + nm g + 1) := by
  obtain ⟨p1, p2, p3⟩ := parted h
  obtain ⟨hb, hr⟩ := block_in h
  have hc := copies_size (above f) f.blocks.length (f.blocks.length + g.blocks.length) g h1 h0
  rw [putIn_is h, sizeFn_sum, sizeFn_sum f]
  simp only
  rw [p2]
  conv => rhs; rw [p1]
  simp only [List.map_append, List.sum_append, List.map_cons, List.sum_cons, List.map_nil, List.sum_nil, hc]
  unfold bsize
  simp only [List.length_take, List.length_drop, List.length_cons, List.length_nil]
  have e : min r (blockAt f b).rows.length = r := by omega
  rw [e]
  omega
end
end Pc

namespace Pc
open CmBase Cm09
/-! ### a whole function with a call put in is whole -/
section
variable {f g : Fn} {b r x g0 n : Nat} {as : List Nat} {ar : Nat → Nat}
theorem copies_len (d n c : Nat) (g : Fn) : (copies d n c g).length = g.blocks.length := by
  unfold copies
  rw [List.length_map, List.length_zipIdx]
theorem copies_get {d n c i : Nat} {g : Fn} (h : i < g.blocks.length) : (copies d n c g)[i]? = some (cpBlock d n c g (blockAt g i, i)) := by
  unfold copies
  rw [List.getElem?_map, List.getElem?_zipIdx, blockAt_get h]
  simp
theorem putIn_len (h : (blockAt f b).rows[r]? = some (.call x g0 as)) : (putIn f g b r).blocks.length = f.blocks.length + g.blocks.length + 1 := by
  rw [putIn_is h]
  simp only [List.length_append, List.length_set, copies_len, List.length_cons, List.length_nil]
  omega
theorem putIn_args (h : (blockAt f b).rows[r]? = some (.call x g0 as)) : (putIn f g b r).args = f.args := by rw [putIn_is h]
/-- the old blocks, the copies, the last one -/
theorem putIn_old (h : (blockAt f b).rows[r]? = some (.call x g0 as)) {i : Nat} (hi : i < f.blocks.length) :
    blockAt (putIn f g b r) i = if i = b then ⟨(blockAt f b).takes, (blockAt f b).rows.take r, .jump f.blocks.length as⟩ else blockAt f i := by
  refine blockAt_of ?_
  rw [putIn_is h]
  show (_ ++ _ : List PBlock)[i]? = _
  rw [List.getElem?_append_left (by rw [List.length_set]; exact hi), List.getElem?_set]
  by_cases e : i = b
  · subst e
    simp [hi]
  · rw [if_neg (fun z => e z.symm), if_neg e]
    exact blockAt_get hi
theorem putIn_copy (h : (blockAt f b).rows[r]? = some (.call x g0 as)) {i : Nat} (hi : i < g.blocks.length) :
    blockAt (putIn f g b r) (f.blocks.length + i) = cpBlock (above f) f.blocks.length (f.blocks.length + g.blocks.length) g (blockAt g i, i) := by
  refine blockAt_of ?_
  rw [putIn_is h]
  show (_ ++ _ : List PBlock)[_]? = _
  rw [List.getElem?_append_right (by rw [List.length_set]; omega), List.length_set, List.getElem?_append_left (by rw [copies_len]; omega)]
  have e : f.blocks.length + i - f.blocks.length = i := by omega
  rw [e]
  exact copies_get hi
theorem putIn_back (h : (blockAt f b).rows[r]? = some (.call x g0 as)) :
    blockAt (putIn f g b r) (f.blocks.length + g.blocks.length) = ⟨[x], (blockAt f b).rows.drop (r + 1), (blockAt f b).last⟩ := by
  refine blockAt_of ?_
  rw [putIn_is h]
  show (_ ++ _ : List PBlock)[_]? = _
  rw [List.getElem?_append_right (by rw [List.length_set]; omega), List.length_set, List.getElem?_append_right (by rw [copies_len]; omega), copies_len]
  have e : f.blocks.length + g.blocks.length - f.blocks.length - g.blocks.length = 0 := by omega
  rw [e]
  rfl
theorem putIn_mem (h : (blockAt f b).rows[r]? = some (.call x g0 as)) {B : PBlock} (hB : B ∈ (putIn f g b r).blocks) :
    (B ∈ f.blocks) ∨ B = ⟨(blockAt f b).takes, (blockAt f b).rows.take r, .jump f.blocks.length as⟩ ∨ (∃ i, i < g.blocks.length ∧ B = cpBlock (above f) f.blocks.length (f.blocks.length + g.blocks.length) g (blockAt g i, i)) ∨ B = ⟨[x], (blockAt f b).rows.drop (r + 1), (blockAt f b).last⟩ := by
  obtain ⟨i, hi⟩ := List.mem_iff_getElem?.1 hB
  have hl := (List.getElem?_eq_some_iff.1 hi).1
  have e := blockAt_of hi
  rw [putIn_len h] at hl
  by_cases h1 : i < f.blocks.length
  · rw [putIn_old h h1] at e
    by_cases h2 : i = b
    · rw [if_pos h2] at e
      exact .inr (.inl e.symm)
    · rw [if_neg h2] at e
      rw [← e]
      exact .inl (blockAt_mem h1)
  · by_cases h2 : i < f.blocks.length + g.blocks.length
    · obtain ⟨j, rfl⟩ : ∃ j, i = f.blocks.length + j := ⟨i - f.blocks.length, by omega⟩
      rw [putIn_copy h (by omega)] at e
      exact .inr (.inr (.inl ⟨j, by omega, e.symm⟩))
    · have e2 : i = f.blocks.length + g.blocks.length := by omega
      subst e2
      rw [putIn_back h] at e
      exact .inr (.inr (.inr e.symm))
theorem call_mem {d : Nat} {y h0 : Nat} {us : List Nat} {l : List PRow} (h : PRow.call y h0 us ∈ l.map (shiftRow d)) : ∃ y' us', PRow.call y' h0 us' ∈ l ∧ us.length = us'.length := by
  obtain ⟨q, hq, e⟩ := List.mem_map.1 h
  cases q with
  | plain q => cases q <;> cases e
  | call y' g' us' =>
    cases e
    exact ⟨y', us', hq, List.length_map _⟩
theorem putIn_whole (h : (blockAt f b).rows[r]? = some (.call x g0 as)) (wf : Whole n ar f) (wg : Whole n ar g) (hg : g.args = as.length) : Whole n ar (putIn f g b r) := by
  obtain ⟨hb, hr⟩ := block_in h
  have hlen := putIn_len (g := g) h
  have tOld : ∀ t, t < f.blocks.length → takesOfFn (putIn f g b r) t = takesOfFn f t := fun t ht => by
    unfold takesOfFn
    rw [putIn_old h ht]
    by_cases e : t = b
    · rw [if_pos e, e]
    · rw [if_neg e]
  have tCopy : ∀ t, 1 ≤ t → t < g.blocks.length → (takesOfFn (putIn f g b r) (f.blocks.length + t)).length = (takesOfFn g t).length := fun t h1 ht => by
    unfold takesOfFn
    rw [putIn_copy h ht]
    unfold cpBlock
    simp only
    rw [if_neg (by omega), List.length_map]
  have tZero : (takesOfFn (putIn f g b r) f.blocks.length).length = g.args := by
    have e := putIn_copy (g := g) h (i := 0) wg.some
    rw [Nat.add_zero] at e
    unfold takesOfFn
    rw [e]
    unfold cpBlock
    simp
  have tBack : (takesOfFn (putIn f g b r) (f.blocks.length + g.blocks.length)).length = 1 := by
    unfold takesOfFn
    rw [putIn_back h]
    rfl
  have wayOld : ∀ {t us}, WayWell f t us → WayWell (putIn f g b r) t us := fun {t us} q => ⟨q.lo, by rw [hlen]; have := q.hi; omega, by rw [tOld t q.hi]; exact q.len⟩
  have endOld : ∀ {e}, EndWell f e → EndWell (putIn f g b r) e := fun {e} q => by
    cases e with
    | jump t us => exact wayOld q
    | fork v t us u vs => exact ⟨wayOld q.1, wayOld q.2⟩
    | give v => trivial
  have wayNew : ∀ {t us}, WayWell g t us → WayWell (putIn f g b r) (f.blocks.length + t) (us.map fun a => above f + a) := fun {t us} q =>
    ⟨by have := q.lo; omega, by rw [hlen]; have := q.hi; omega, by rw [List.length_map, tCopy t q.lo q.hi]; exact q.len⟩
  refine ⟨by rw [hlen]; omega, ?_, fun B hB => ?_, fun B hB y h0 us hm => ?_⟩
  · rw [putIn_old h wf.some]
    by_cases e : 0 = b
    · rw [if_pos e, ← e]; exact wf.zero
    · rw [if_neg e]; exact wf.zero
  · rcases putIn_mem h hB with q | q | ⟨i, hi, q⟩ | q
    · exact endOld (wf.ends B q)
    · subst q
      exact ⟨wf.some, by rw [hlen]; omega, by rw [tZero]; exact hg.symm⟩
    · subst q
      have we := wg.ends _ (blockAt_mem hi)
      show EndWell _ (shiftEnd _ _ _ (blockAt g i).last)
      cases he : (blockAt g i).last with
      | jump t us => rw [he] at we; exact wayNew we
      | fork v t us u vs => rw [he] at we; exact ⟨wayNew we.1, wayNew we.2⟩
      | give v => exact ⟨by have := wf.some; omega, by rw [hlen]; omega, by rw [tBack]; rfl⟩
    · subst q
      exact endOld (wf.ends (blockAt f b) (blockAt_mem hb))
  · rcases putIn_mem h hB with q | q | ⟨i, hi, q⟩ | q
    · exact wf.calls B q y h0 us hm
    · subst q
      exact wf.calls _ (blockAt_mem hb) y h0 us (List.mem_of_mem_take hm)
    · subst q
      have hm' : PRow.call y h0 us ∈ (if i = 0 then (others g).map (fun y => PRow.plain (.num (above f + y) 0)) else []) ++ (blockAt g i).rows.map (shiftRow (above f)) := hm
      rcases List.mem_append.1 hm' with z | z
      · split at z
        · obtain ⟨_, _, e⟩ := List.mem_map.1 z
          cases e
        · cases z
      · obtain ⟨y', us', h1, h2⟩ := call_mem z
        obtain ⟨a1, a2⟩ := wg.calls _ (blockAt_mem hi) _ _ _ h1
        exact ⟨a1, by rw [h2]; exact a2⟩
    · subst q
      exact wf.calls _ (blockAt_mem hb) y h0 us (List.mem_of_mem_drop hm)
theorem putIn_form (h : (blockAt f b).rows[r]? = some (.call x g0 as)) (wf : FnForm f) (wg : FnForm g) : FnForm (putIn f g b r) := by
  obtain ⟨hb, hr⟩ := block_in h
  have fb := wf.blocks _ (blockAt_mem hb)
  have hc : RowForm (.call x g0 as) := fb.rows _ (List.mem_of_getElem? h)
  refine ⟨by rw [putIn_args h]; exact wf.args, fun B hB => ?_⟩
  rcases putIn_mem h hB with q | q | ⟨i, hi, q⟩ | q
  · exact wf.blocks B q
  · subst q
    exact ⟨fb.takes, fun q hq => fb.rows q (List.mem_of_mem_take hq), Nat.le_trans (show as.length ≤ 4 from hc) (by decide)⟩
  · subst q
    have gb := wg.blocks _ (blockAt_mem hi)
    refine ⟨?_, fun q hq => ?_, ?_⟩
    · show (if i = 0 then _ else _ : List Nat).length ≤ 4
      split
      · rw [List.length_map, List.length_range]; exact wg.args
      · rw [List.length_map]; exact gb.takes
    · have hq' : q ∈ (if i = 0 then (others g).map (fun y => PRow.plain (.num (above f + y) 0)) else []) ++ (blockAt g i).rows.map (shiftRow (above f)) := hq
      rcases List.mem_append.1 hq' with z | z
      · split at z
        · obtain ⟨_, _, e⟩ := List.mem_map.1 z
          subst e
          show 0 < 4294967296
          decide
        · cases z
      · obtain ⟨q', hq', e⟩ := List.mem_map.1 z
        have := gb.rows q' hq'
        subst e
        cases q' with
        | plain q' => cases q' <;> exact this
        | call y g' us =>
          show (us.map _).length ≤ 4
          rw [List.length_map]
          exact this
    · have := gb.last
      show EndForm (shiftEnd _ _ _ (blockAt g i).last)
      cases he : (blockAt g i).last with
      | jump t us => rw [he] at this; show (us.map _).length ≤ 8; rw [List.length_map]; exact this
      | fork v t us u vs => rw [he] at this; show (us.map _).length ≤ 8 ∧ (vs.map _).length ≤ 8; rw [List.length_map, List.length_map]; exact this
      | give v => show 1 ≤ 8; decide
  · subst q
    exact ⟨by show 1 ≤ 4; decide, fun q hq => fb.rows q (List.mem_of_mem_drop hq), fb.last⟩
/-- a row ahead of the call that is put in stays -/
theorem putIn_row (h : (blockAt f b).rows[r]? = some (.call x g0 as)) {i j : Nat} (hl : i < b ∨ (i = b ∧ j < r)) : (blockAt (putIn f g b r) i).rows[j]? = (blockAt f i).rows[j]? := by
  obtain ⟨hb, hr⟩ := block_in h
  rw [putIn_old h (by omega)]
  rcases hl with hl | ⟨rfl, hj⟩
  · rw [if_neg (by omega)]
  · rw [if_pos rfl]
    show ((blockAt f i).rows.take r)[j]? = _
    rw [List.getElem?_take, if_pos hj]
end
/-! ### all chosen calls of a function -/
def Ahead (s t : Site) : Prop := s.b < t.b ∨ (s.b = t.b ∧ s.r < t.r)
structure Choosable (p : Prog) (s : Site) : Prop where
  at' : ∃ x as, (blockAt (fnAt p s.f) s.b).rows[s.r]? = some (.call x (calleeAt p s) as)
  less : calleeAt p s < s.f
def putFold (p done : Prog) (cs : List Site) (f0 : Fn) : Fn := cs.foldr (fun s k => putIn k (fnAt done (calleeAt p s)) s.b s.r) f0
theorem putAllIn_eq (p done : Prog) (chosen : List Site) (f : Nat) : putAllIn p done chosen f = putFold p done (chosen.filter fun s => s.f == f) (fnAt p f) := by
  unfold putAllIn putFold
  rw [List.foldl_reverse]
structure Folded (p done : Prog) (n : Nat) (ar : Nat → Nat) (f0 : Fn) (cs : List Site) (k : Fn) : Prop where
  whole : Whole n ar k
  form : FnForm k
  args : k.args = f0.args
  rows : ∀ s : Site, (∀ t ∈ cs, Ahead s t) → (blockAt k s.b).rows[s.r]? = (blockAt f0 s.b).rows[s.r]?
  size : sizeFn k = sizeFn f0 + (cs.map fun s => sizeFn (fnAt done (calleeAt p s)) + nm (fnAt done (calleeAt p s)) + 1).sum
  nm : nm k = nm f0 + (cs.map fun s => Pc.nm (fnAt done (calleeAt p s))).sum
  above : above k = Cm09.above f0 + (cs.map fun s => Cm09.above (fnAt done (calleeAt p s))).sum
theorem folded {p done : Prog} {n : Nat} {ar : Nat → Nat} {f : Nat} (w0 : Whole n ar (fnAt p f)) (fm0 : FnForm (fnAt p f)) (wd : ∀ g, g < f → Whole n ar (fnAt done g) ∧ FnForm (fnAt done g) ∧ (fnAt done g).args = ar g) :
    ∀ cs : List Site, (∀ s ∈ cs, s.f = f ∧ Choosable p s) → cs.Pairwise Ahead → Folded p done n ar (fnAt p f) cs (putFold p done cs (fnAt p f))
  | [], _, _ => ⟨w0, fm0, rfl, fun s _ => rfl, by simp [putFold], by simp [putFold], by simp [putFold]⟩
  | s :: cs, hs, hp => by
    obtain ⟨hp1, hp2⟩ := List.pairwise_cons.mp hp
    have ih := folded w0 fm0 wd cs (fun t ht => hs t (List.mem_cons_of_mem _ ht)) hp2
    obtain ⟨sf, ch⟩ := hs s List.mem_cons_self
    obtain ⟨x, as, hat⟩ := ch.at'
    rw [sf] at hat
    have hrow := ih.rows s hp1
    rw [hat] at hrow
    obtain ⟨wg, fg, ag⟩ := wd (calleeAt p s) (by rw [← sf]; exact ch.less)
    have hb0 := (block_in hat).1
    have hga : as.length = ar (calleeAt p s) := (w0.calls _ (blockAt_mem hb0) _ _ _ (List.mem_of_getElem? hat)).2
    have e : putFold p done (s :: cs) (fnAt p f) = putIn (putFold p done cs (fnAt p f)) (fnAt done (calleeAt p s)) s.b s.r := rfl
    rw [e]
    refine ⟨putIn_whole hrow ih.whole wg (by rw [ag, hga]), putIn_form hrow ih.form fg, by rw [putIn_args hrow]; exact ih.args, fun t ht => ?_, ?_, ?_, ?_⟩
    · have h1 := ht s List.mem_cons_self
      rw [putIn_row hrow h1]
      exact ih.rows t fun u hu => ht u (List.mem_cons_of_mem _ hu)
    · rw [putIn_size hrow wg.some wg.zero, ih.size, List.map_cons, List.sum_cons]
      omega
    · rw [putIn_nm hrow wg.some wg.zero, ih.nm, List.map_cons, List.sum_cons]
      omega
    · rw [putIn_above hrow wg.some wg.zero, ih.above, List.map_cons, List.sum_cons]
      omega
end Pc

namespace Pc
open CmBase Cm09
/-! ### the program with the chosen calls put in -/
def argsOf (p : Prog) (g : Nat) : Nat := (fnAt p g).args
theorem fnAt_get {p : Prog} {f : Nat} (h : f < p.length) : p[f]? = some (fnAt p f) := by
  unfold fnAt
  rw [List.getD_eq_getElem?_getD, List.getElem?_eq_getElem h]
  rfl
theorem fnAt_of {p : Prog} {f : Nat} {k : Fn} (h : p[f]? = some k) : fnAt p f = k := by
  unfold fnAt
  rw [List.getD_eq_getElem?_getD, h]
  rfl
theorem fnAt_mem {p : Prog} {f : Nat} (h : f < p.length) : fnAt p f ∈ p := List.mem_of_getElem? (fnAt_get h)
theorem whole_of {p : Prog} (h : isWhole p = true) : 1 ≤ p.length ∧ ∀ f ∈ p, Whole p.length (argsOf p) f := by
  unfold isWhole at h
  rw [Bool.and_eq_true, decide_eq_true_eq, List.all_eq_true] at h
  refine ⟨h.1, fun f hf => ?_⟩
  have hw := h.2 f hf
  unfold isWholeFn at hw
  rw [Bool.and_eq_true, Bool.and_eq_true, decide_eq_true_eq, List.all_eq_true, List.isEmpty_iff] at hw
  obtain ⟨h1, h2, h3⟩ := hw
  refine ⟨h1, h2, fun b hb => ?_, fun b hb x g as hm => ?_⟩
  · have := h3 b hb
    rw [Bool.and_eq_true, Bool.and_eq_true, List.all_eq_true] at this
    obtain ⟨t1, t2, _⟩ := this
    cases he : b.last with
    | jump t as =>
      rw [he] at t1 t2
      have z := t1 t (List.mem_singleton.mpr rfl)
      rw [Bool.and_eq_true] at z; rw [decide_eq_true_eq, decide_eq_true_eq] at z
      exact ⟨z.1, z.2, by simpa [fitsFn] using t2⟩
    | fork v t as u bs =>
      rw [he] at t1 t2
      have z := t1 t List.mem_cons_self
      have y := t1 u (List.mem_cons_of_mem _ (List.mem_singleton.mpr rfl))
      rw [Bool.and_eq_true, decide_eq_true_eq, decide_eq_true_eq] at z y
      have t2' : as.length = (takesOfFn f t).length ∧ bs.length = (takesOfFn f u).length := by simpa [fitsFn] using t2
      exact ⟨⟨z.1, z.2, t2'.1⟩, ⟨y.1, y.2, t2'.2⟩⟩
    | give v => trivial
  · have := h3 b hb
    rw [Bool.and_eq_true, Bool.and_eq_true] at this
    obtain ⟨_, _, t3⟩ := this
    unfold callsFit at t3
    have z := List.all_eq_true.mp t3 _ hm
    have z' : (decide (g < p.length) && as.length == (fnAt p g).args) = true := z
    rw [Bool.and_eq_true, decide_eq_true_eq, beq_iff_eq] at z'
    exact z'
/-- sites: where calls stand, in their order -/
theorem zip_pairwise {α : Type} (l : List α) (k : Nat) : (l.zipIdx k).Pairwise fun x y => x.2 < y.2 := by
  revert k
  induction l with
  | nil => exact fun _ => List.Pairwise.nil
  | cons a r ih =>
    intro k
    rw [List.zipIdx_cons]
    refine List.pairwise_cons.mpr ⟨fun q hq => ?_, ih (k + 1)⟩
    have := List.le_snd_of_mem_zipIdx hq
    show k < q.2
    omega
def rowSites (rows : List PRow) : List Nat := (rows.zipIdx.filter fun x => isCall x.1).map (·.2)
theorem rowSites_lt (rows : List PRow) : (rowSites rows).Pairwise (· < ·) := List.pairwise_map.mpr ((zip_pairwise rows 0).filter _)
theorem mem_rowSites {rows : List PRow} {r : Nat} : r ∈ rowSites rows ↔ ∃ x g as, rows[r]? = some (.call x g as) := by
  unfold rowSites
  constructor
  · intro h
    obtain ⟨q, hq, rfl⟩ := List.mem_map.1 h
    obtain ⟨h1, h2⟩ := List.mem_filter.mp hq
    have h3 := mem_zip h1
    obtain ⟨q1, q2⟩ := q
    cases q1 with
    | plain q => cases h2
    | call x g as => exact ⟨x, g, as, h3⟩
  · rintro ⟨x, g, as, h⟩
    exact List.mem_map.mpr ⟨(_, r), List.mem_filter.mpr ⟨zip_mem h, rfl⟩, rfl⟩
theorem sites_flat (p : Prog) : sites p = p.zipIdx.flatMap fun (q : Fn × Nat) => q.1.blocks.zipIdx.flatMap fun (k : PBlock × Nat) => (rowSites k.1.rows).map fun r => ⟨q.2, k.2, r⟩ := by
  unfold sites
  refine congrArg (fun F => p.zipIdx.flatMap F) (funext fun q => ?_)
  rw [sitesIn_eq, List.map_flatMap]
  refine congrArg (fun F => q.1.blocks.zipIdx.flatMap F) (funext fun k => ?_)
  unfold rowSites
  rw [List.map_map]; rw [List.map_map]
  rfl
def Before (s t : Site) : Prop := s.f < t.f ∨ (s.f = t.f ∧ Ahead s t)
theorem pairwise_flatMap' {α β : Type} {R : β → β → Prop} {S : α → α → Prop} {F : α → List β} {l : List α} (h : l.Pairwise S) (h1 : ∀ a ∈ l, (F a).Pairwise R) (h2 : ∀ a b, S a b → ∀ x ∈ F a, ∀ y ∈ F b, R x y) : (l.flatMap F).Pairwise R := by
  induction l with
  | nil => exact List.Pairwise.nil
  | cons a r ih =>
    obtain ⟨q1, q2⟩ := List.pairwise_cons.mp h
    rw [List.flatMap_cons]
    refine List.pairwise_append.mpr ⟨h1 a List.mem_cons_self, ih q2 (fun b hb => h1 b (List.mem_cons_of_mem _ hb)), fun x hx y hy => ?_⟩
    obtain ⟨b, hb, hyb⟩ := List.mem_flatMap.mp hy
    exact h2 a b (q1 b hb) x hx y hyb
theorem sites_before (p : Prog) : (sites p).Pairwise Before := by
  rw [sites_flat]
  refine pairwise_flatMap' (zip_pairwise p 0) (fun q _ => ?_) fun q q' hq x hx y hy => ?_
  · refine pairwise_flatMap' (zip_pairwise q.1.blocks 0) (fun k _ => ?_) fun k k' hk x hx y hy => ?_
    · exact List.pairwise_map.mpr ((rowSites_lt _).imp fun {a b} h => .inr ⟨rfl, .inr ⟨rfl, h⟩⟩)
    · obtain ⟨r, _, rfl⟩ := List.mem_map.1 hx
      obtain ⟨r', _, rfl⟩ := List.mem_map.1 hy
      exact .inr ⟨rfl, .inl hk⟩
  · obtain ⟨k, _, hx⟩ := List.mem_flatMap.mp hx
    obtain ⟨k', _, hy⟩ := List.mem_flatMap.mp hy
    obtain ⟨r, _, rfl⟩ := List.mem_map.1 hx
    obtain ⟨r', _, rfl⟩ := List.mem_map.1 hy
    exact .inl hq
theorem mem_sites {p : Prog} {s : Site} : s ∈ sites p ↔ ∃ x g as, (blockAt (fnAt p s.f) s.b).rows[s.r]? = some (.call x g as) := by
  rw [sites_flat]
  constructor
  · intro h
    obtain ⟨q, hq, h⟩ := List.mem_flatMap.mp h
    obtain ⟨k, hk, h⟩ := List.mem_flatMap.mp h
    obtain ⟨r, hr, rfl⟩ := List.mem_map.1 h
    obtain ⟨x, g, as, h3⟩ := mem_rowSites.mp hr
    refine ⟨x, g, as, ?_⟩
    show (blockAt (fnAt p q.2) k.2).rows[r]? = _
    rw [fnAt_of (mem_zip hq), blockAt_of (mem_zip hk)]
    exact h3
  · rintro ⟨x, g, as, h⟩
    obtain ⟨hb, hr⟩ := block_in h
    have hf : s.f < p.length := by
      apply Classical.byContradiction
      intro hn
      have e : fnAt p s.f = ⟨0, []⟩ := by
        unfold fnAt
        rw [List.getD_eq_getElem?_getD]; rw [List.getElem?_eq_none (by omega)]
        rfl
      rw [e] at hb
      simp at hb
    refine List.mem_flatMap.mpr ⟨_, zip_mem (fnAt_get hf), List.mem_flatMap.mpr ⟨_, zip_mem (blockAt_get hb), List.mem_map.mpr ⟨s.r, mem_rowSites.mpr ⟨x, g, as, h⟩, rfl⟩⟩⟩
theorem callee_is {p : Prog} {s : Site} {x g : Nat} {as : List Nat} (h : (blockAt (fnAt p s.f) s.b).rows[s.r]? = some (.call x g as)) : calleeAt p s = g := by
  unfold calleeAt
  rw [h]
theorem mayPut_ok {p : Prog} {s : Site} (h : s ∈ mayPut p) : Choosable p s := by
  unfold mayPut at h
  obtain ⟨h1, h2⟩ := List.mem_filter.mp h
  obtain ⟨x, g, as, h3⟩ := mem_sites.mp h1
  exact ⟨⟨x, as, by rw [callee_is h3]; exact h3⟩, of_decide_eq_true h2⟩
/-- what may be chosen -/
structure Choice (p : Prog) (c : List Site) : Prop where
  ok : ∀ s ∈ c, Choosable p s
  order : c.Pairwise Before
  few : c.length ≤ (sites p).length
theorem Choice.of_sub {p : Prog} {c : List Site} (h : c.Sublist (mayPut p)) : Choice p c :=
  ⟨fun s hs => mayPut_ok (h.subset hs), (sites_before p).sublist (h.trans List.filter_sublist), Nat.le_trans h.length_le (List.length_filter_le _ _)⟩
/-- made, function by function -/
def made (p : Prog) (c : List Site) : Nat → Prog
  | 0 => []
  | k + 1 => made p c k ++ [putAllIn p (made p c k) c k]
theorem putAll_made (p : Prog) (c : List Site) : putAll p c = made p c p.length := by
  unfold putAll
  generalize p.length = n
  induction n with
  | zero => rfl
  | succ n ih => rw [List.range_succ, List.foldl_append, ih]; rfl
theorem made_len (p : Prog) (c : List Site) : ∀ k, (made p c k).length = k
  | 0 => rfl
  | k + 1 => by
    show (made p c k ++ [_]).length = k + 1
    rw [List.length_append, made_len p c k]; rfl
theorem made_at {p : Prog} {c : List Site} {g : Nat} : ∀ {k : Nat}, g < k → fnAt (made p c k) g = putAllIn p (made p c g) c g
  | k + 1, h => by
    refine fnAt_of ?_
    show (made p c k ++ [_])[g]? = _
    by_cases e : g < k
    · rw [List.getElem?_append_left (by rw [made_len]; exact e), fnAt_get (by rw [made_len]; exact e), made_at e]
    · have e2 : g = k := by omega
      subst e2
      rw [List.getElem?_append_right (by rw [made_len]; exact Nat.le_refl _), made_len, Nat.sub_self]
      rfl
theorem made_same {p : Prog} {c : List Site} {g k j : Nat} (h1 : g < k) (h2 : g < j) : fnAt (made p c k) g = fnAt (made p c j) g := by rw [made_at h1, made_at h2]
/-- the chosen calls of one function -/
def inFn (c : List Site) (f : Nat) : List Site := c.filter fun s => s.f == f
theorem mem_inFn {c : List Site} {f : Nat} {s : Site} : s ∈ inFn c f ↔ s ∈ c ∧ s.f = f := by
  unfold inFn
  rw [List.mem_filter, beq_iff_eq]
theorem inFn_order {p : Prog} {c : List Site} (h : Choice p c) (f : Nat) : (inFn c f).Pairwise Ahead := by
  have h1 : (inFn c f).Pairwise Before := h.order.sublist List.filter_sublist
  refine List.Pairwise.imp_of_mem (fun {a b} ha hb q => ?_) h1
  rcases q with q | q
  · have e1 := (mem_inFn.mp ha).2
    have e2 := (mem_inFn.mp hb).2
    omega
  · exact q.2
theorem made_folded {p : Prog} {c : List Site} (hw : ∀ f ∈ p, Whole p.length (argsOf p) f) (hf : ∀ f ∈ p, FnForm f) (hc : Choice p c) : ∀ k, k ≤ p.length → ∀ f, f < k →
    Folded p (made p c f) p.length (argsOf p) (fnAt p f) (inFn c f) (fnAt (made p c k) f)
  | 0, _, f, h => by omega
  | k + 1, hk, f, h => by
    by_cases e : f < k
    · rw [made_same h e]
      exact made_folded hw hf hc k (by omega) f e
    · have e2 : f = k := by omega
      subst e2
      rw [made_at h, putAllIn_eq]
      have hfp : f < p.length := by omega
      refine folded (hw _ (fnAt_mem hfp)) (hf _ (fnAt_mem hfp)) (fun g hg => ?_) _ (fun s hs => ?_) (inFn_order hc f)
      · have z := made_folded hw hf hc f (by omega) g hg
        exact ⟨z.whole, z.form, z.args⟩
      · obtain ⟨h1, h2⟩ := mem_inFn.mp hs
        exact ⟨h2, hc.ok s h1⟩
end Pc

namespace Pc
open CmBase Cm09
/-! ### how large what is made can be -/
def cap (c : List Site) : Nat → Nat
  | 0 => 1
  | k + 1 => (1 + (inFn c k).length) * cap c k
theorem cap_pos (c : List Site) : ∀ k, 1 ≤ cap c k
  | 0 => Nat.le_refl _
  | k + 1 => by
    show 1 ≤ (1 + (inFn c k).length) * cap c k
    exact Nat.le_trans (cap_pos c k) (Nat.le_mul_of_pos_left _ (by omega))
theorem cap_step (c : List Site) (k : Nat) : cap c k ≤ cap c (k + 1) := Nat.le_mul_of_pos_left _ (by omega)
theorem cap_mono (c : List Site) {j k : Nat} (h : j ≤ k) : cap c j ≤ cap c k := by
  induction k with
  | zero => rw [show j = 0 by omega]; exact Nat.le_refl _
  | succ k ih =>
    by_cases e : j = k + 1
    · rw [e]; exact Nat.le_refl _
    · exact Nat.le_trans (ih (by omega)) (cap_step c k)
theorem sum_le {α : Type} (l : List α) (F : α → Nat) (N : Nat) (h : ∀ x ∈ l, F x ≤ N) : (l.map F).sum ≤ l.length * N := by
  induction l with
  | nil => simp
  | cons a r ih =>
    rw [List.map_cons]; rw [List.sum_cons, List.length_cons, Nat.succ_mul]
    have h1 := h a List.mem_cons_self
    have h2 := ih fun x hx => h x (List.mem_cons_of_mem _ hx)
    omega
theorem told_above {f : Fn} (h : FnTold f) : above f ≤ 24 := by
  refine (above_le _ _).mpr fun x hx => ?_
  rcases mem_namesIn.mp hx with q | ⟨b, hb, q⟩
  · have := h.args; omega
  · have B := h.blocks b hb
    unfold bnames at q
    rcases List.mem_append.1 q with q | q
    · rcases List.mem_append.1 q with q | q
      · exact B.takes x q
      · obtain ⟨r, hr, q⟩ := List.mem_flatMap.mp q
        exact B.names r hr x q
    · exact B.uses x q
theorem told_size {f : Fn} (h : FnTold f) : sizeFn f ≤ 78 := by
  rw [sizeFn_sum]
  refine Nat.le_trans (sum_le f.blocks bsize 13 fun b hb => ?_) ?_
  · have B := h.blocks b hb
    have h1 := B.form.takes
    have h2 := B.many
    unfold bsize
    omega
  · have := h.many
    omega
theorem made_bound {p : Prog} {c : List Site} (hw : ∀ f ∈ p, Whole p.length (argsOf p) f) (ht : ∀ f ∈ p, FnTold f) (hc : Choice p c) : ∀ k, k ≤ p.length → ∀ f, f < k →
    above (fnAt (made p c k) f) ≤ 24 * cap c k ∧ sizeFn (fnAt (made p c k) f) ≤ (78 + 25 * k) * cap c k
  | 0, _, f, h => by omega
  | k + 1, hk, f, h => by
    by_cases e : f < k
    · have ih := made_bound hw ht hc k (by omega) f e
      rw [made_same h e]
      have hm := cap_step c k
      refine ⟨Nat.le_trans ih.1 (Nat.mul_le_mul_left _ hm), Nat.le_trans ih.2 (Nat.mul_le_mul (by omega) hm)⟩
    · have e2 : f = k := by omega
      subst e2
      have fo := made_folded hw (fun f hf => (ht f hf).form) hc (f + 1) hk f h
      have hfp : f < p.length := by omega
      have t0 := ht _ (fnAt_mem hfp)
      have hin : ∀ s ∈ inFn c f, calleeAt p s < f := fun s hs => by
        obtain ⟨h1, h2⟩ := mem_inFn.mp hs
        rw [← h2]
        exact (hc.ok s h1).less
      have ih := fun g hg => made_bound hw ht hc f (by omega) g hg
      have hpos := cap_pos c f
      have ec : cap c (f + 1) = (1 + (inFn c f).length) * cap c f := rfl
      refine ⟨?_, ?_⟩
      · rw [fo.above, ec]
        have s1 := sum_le (inFn c f) (fun s => above (fnAt (made p c f) (calleeAt p s))) (24 * cap c f) fun s hs => (ih _ (hin s hs)).1
        have s0 := told_above t0
        have e1 : 24 * ((1 + (inFn c f).length) * cap c f) = 24 * cap c f + (inFn c f).length * (24 * cap c f) := by
          rw [Nat.add_mul, Nat.one_mul, Nat.mul_add, Nat.mul_left_comm]
        rw [e1]
        have : 24 * 1 ≤ 24 * cap c f := Nat.mul_le_mul_left _ hpos
        omega
      · rw [fo.size, ec]
        have s1 := sum_le (inFn c f) (fun s => sizeFn (fnAt (made p c f) (calleeAt p s)) + nm (fnAt (made p c f) (calleeAt p s)) + 1) ((78 + 25 * (f + 1)) * cap c f) fun s hs => by
          obtain ⟨a1, a2⟩ := ih _ (hin s hs)
          have a3 := nm_above (fnAt (made p c f) (calleeAt p s))
          have e3 : (78 + 25 * (f + 1)) * cap c f = (78 + 25 * f) * cap c f + 25 * cap c f := by
            rw [← Nat.add_mul]
            exact congrArg (· * cap c f) (by omega)
          rw [e3]
          omega
        have s0 := told_size t0
        have e1 : (78 + 25 * (f + 1)) * ((1 + (inFn c f).length) * cap c f) = (78 + 25 * (f + 1)) * cap c f + (inFn c f).length * ((78 + 25 * (f + 1)) * cap c f) := by
          rw [Nat.add_mul 1, Nat.one_mul, Nat.mul_add, Nat.mul_left_comm (78 + 25 * (f + 1)) (inFn c f).length]
        rw [e1]
        have : (78 + 25 * (f + 1)) * 1 ≤ (78 + 25 * (f + 1)) * cap c f := Nat.mul_le_mul_left _ hpos
        omega
theorem four_le : ∀ a < 9, ∀ b < 9, ∀ c < 9, ∀ d < 9, a + b + c + d ≤ 8 → (1 + d) * ((1 + c) * ((1 + b) * ((1 + a) * 1))) ≤ 81 := by decide +kernel
theorem inFn_sum (c : List Site) : (inFn c 0).length + (inFn c 1).length + (inFn c 2).length + (inFn c 3).length + (inFn c 4).length ≤ c.length := by
  induction c with
  | nil => simp [inFn]
  | cons s r ih =>
    have key : ∀ k, (inFn (s :: r) k).length = (inFn r k).length + if s.f = k then 1 else 0 := fun k => by
      unfold inFn
      rw [List.filter_cons]
      by_cases h : s.f = k
      · rw [if_pos (by simpa using h), if_pos h]; rfl
      · rw [if_neg (by simpa using h), if_neg h]; rfl
    rw [key, key, key, key, key, List.length_cons]
    split <;> split <;> split <;> split <;> split <;> omega
theorem cap_le {p : Prog} {c : List Site} (hc : Choice p c) (hs : (sites p).length ≤ 8) : cap c 5 ≤ 81 := by
  have h0 : (inFn c 0).length = 0 := by
    rw [List.length_eq_zero_iff]
    apply List.eq_nil_iff_forall_not_mem.mpr
    intro s h
    obtain ⟨h1, h2⟩ := mem_inFn.mp h
    have := (hc.ok s h1).less
    omega
  have hsum := inFn_sum c
  have hfew := hc.few
  have e : cap c 5 = (1 + (inFn c 4).length) * ((1 + (inFn c 3).length) * ((1 + (inFn c 2).length) * ((1 + (inFn c 1).length) * 1))) := by
    show (1 + (inFn c 4).length) * ((1 + (inFn c 3).length) * ((1 + (inFn c 2).length) * ((1 + (inFn c 1).length) * ((1 + (inFn c 0).length) * 1)))) = _
    rw [h0]
  rw [e]
  exact four_le _ (by omega) _ (by omega) _ (by omega) _ (by omega) (by omega)
/-- a function that the program may be run with, told in numbers, and put in -/
structure Fits (f : Fn) : Prop where
  form : FnForm f
  above : above f ≤ 1944
  size : sizeFn f ≤ 20000
theorem told_fits {f : Fn} (h : FnTold f) : Fits f := ⟨h.form, Nat.le_trans (told_above h) (by decide), Nat.le_trans (told_size h) (by decide)⟩
theorem Small.sites_le {s : Cm09.St} (h : Small s) : (sites s.prog).length ≤ 8 := by
  have := h.calls
  rw [manyCalls_eq] at this
  omega
theorem made_fits {s : Cm09.St} {c : List Site} (sm : Small s) (hw : isWhole s.prog = true) (hc : Choice s.prog c) {k f : Nat} (hk : k ≤ s.prog.length) (hf : f < k) : Fits (fnAt (made s.prog c k) f) := by
  have hW := (whole_of hw).2
  have fo := made_folded hW (fun f hf => (sm.fn f hf).form) hc k hk f hf
  obtain ⟨b1, b2⟩ := made_bound hW sm.fn hc k hk f hf
  have hcap : cap c k ≤ 81 := Nat.le_trans (cap_mono c (Nat.le_trans hk sm.fns)) (cap_le hc sm.sites_le)
  have hk5 := sm.fns
  refine ⟨fo.form, Nat.le_trans b1 (Nat.le_trans (Nat.mul_le_mul_left 24 hcap) (by decide)), Nat.le_trans b2 (Nat.le_trans (Nat.mul_le_mul (show 78 + 25 * k ≤ 203 by omega) hcap) (by decide))⟩
/-! ### the choice -/
def pyChoices (l : List Site) : List (List Site) := l.foldl (fun (acc : List (List Site)) s => acc.flatMap fun c => [c ++ [s], c]) [[]]
theorem pyChoices_from (l : List Site) : ∀ acc : List (List Site), l.foldl (fun (acc : List (List Site)) s => acc.flatMap fun c => [c ++ [s], c]) acc = acc.flatMap fun c => (choices l).map (c ++ ·) := by
  induction l with
  | nil =>
    intro acc
    show acc = acc.flatMap fun c => [c ++ []]
    induction acc with
    | nil => rfl
    | cons a r ih => rw [List.flatMap_cons, List.append_nil, ← ih]; rfl
  | cons s l ih =>
    intro acc
    rw [List.foldl_cons, ih, List.flatMap_assoc]
    refine congrArg (fun F => acc.flatMap F) (funext fun c => ?_)
    show (choices l).map ((c ++ [s]) ++ ·) ++ ((choices l).map (c ++ ·) ++ []) = ((choices l).map (s :: ·) ++ choices l).map (c ++ ·)
    rw [List.append_nil, List.map_append, List.map_map]
    refine congrArg (· ++ _) (List.map_congr_left fun x _ => ?_)
    show (c ++ [s]) ++ x = c ++ s :: x
    rw [List.append_assoc]
    rfl
theorem pyChoices_eq (l : List Site) : pyChoices l = choices l := by
  unfold pyChoices
  rw [pyChoices_from]
  show (choices l).map ([] ++ ·) ++ [] = choices l
  rw [List.append_nil]
  conv => rhs; rw [← List.map_id (choices l)]
  rfl
theorem choices_sub {l c : List Site} (h : c ∈ choices l) : c.Sublist l := by
  induction l generalizing c with
  | nil =>
    have : c = [] := by simpa [choices] using h
    rw [this]
    exact List.Sublist.refl _
  | cons s l ih =>
    have h' : c ∈ (choices l).map (fun c => s :: c) ++ choices l := h
    rcases List.mem_append.1 h' with z | z
    · obtain ⟨d, hd, rfl⟩ := List.mem_map.1 z
      exact (ih hd).cons₂ _
    · exact (ih z).cons _
theorem choices_len (l : List Site) : (choices l).length = 2 ^ l.length := by
  induction l with
  | nil => rfl
  | cons s l ih =>
    show ((choices l).map (fun c => s :: c) ++ choices l).length = _
    rw [List.length_append, List.length_map, ih, List.length_cons, Nat.pow_succ]
    omega
theorem choices_last (l : List Site) : ∃ m, choices l = m ++ [[]] ∧ ∀ c ∈ m, c ≠ [] := by
  induction l with
  | nil => exact ⟨[], rfl, fun c h => by cases h⟩
  | cons s l ih =>
    obtain ⟨m, e, hm⟩ := ih
    refine ⟨(choices l).map (fun c => s :: c) ++ m, ?_, fun c hc => ?_⟩
    · show (choices l).map (fun c => s :: c) ++ choices l = _
      rw [List.append_assoc, ← e]
    · rcases List.mem_append.1 hc with z | z
      · obtain ⟨d, _, rfl⟩ := List.mem_map.1 z
        intro h; cases h
      · exact hm c z
/-- sizes -/
theorem putAll_size {p : Prog} {c : List Site} (hw : ∀ f ∈ p, Whole p.length (argsOf p) f) (hf : ∀ f ∈ p, FnForm f) (hc : Choice p c) : size p ≤ size (putAll p c) ∧ (c ≠ [] → size p < size (putAll p c)) := by
  have key : ∀ k, k ≤ p.length → ((p.take k).map sizeFn).sum + ((List.range k).map fun f => (inFn c f).length).sum ≤ ((made p c k).map sizeFn).sum := by
    intro k
    induction k with
    | zero => intro _; simp [made]
    | succ k ih =>
      intro hk
      have h1 := ih (by omega)
      have fo := made_folded hw hf hc (k + 1) hk k (by omega)
      have e1 : p.take (k + 1) = p.take k ++ [fnAt p k] := by rw [List.take_add_one, fnAt_get (by omega)]; rfl
      have e2 : made p c (k + 1) = made p c k ++ [fnAt (made p c (k + 1)) k] := by rw [made_at (by omega)]; rfl
      rw [e1, e2, List.range_succ]
      simp only [List.map_append, List.sum_append, List.map_cons, List.map_nil, List.sum_cons, List.sum_nil]
      rw [fo.size]
      have h2 : (inFn c k).length ≤ ((inFn c k).map fun s => sizeFn (fnAt (made p c k) (calleeAt p s)) + nm (fnAt (made p c k) (calleeAt p s)) + 1).sum := by
        generalize inFn c k = l
        induction l with
        | nil => simp
        | cons a r ih => rw [List.length_cons, List.map_cons, List.sum_cons]; omega
      omega
  have h := key p.length (Nat.le_refl _)
  rw [List.take_length] at h
  rw [size_sum, size_sum, putAll_made]
  refine ⟨by omega, fun hne => ?_⟩
  obtain ⟨s, hs⟩ : ∃ s, s ∈ c := by
    cases c with
    | nil => exact absurd rfl hne
    | cons s r => exact ⟨s, List.mem_cons_self⟩
  have hsf : s.f < p.length := by
    obtain ⟨x, as, h3⟩ := (hc.ok s hs).at'
    obtain ⟨hb, _⟩ := block_in h3
    apply Classical.byContradiction
    intro hn
    have e : fnAt p s.f = ⟨0, []⟩ := by
      unfold fnAt
      rw [List.getD_eq_getElem?_getD]; rw [List.getElem?_eq_none (by omega)]
      rfl
    rw [e] at hb
    simp at hb
  have hpos : 1 ≤ ((List.range p.length).map fun f => (inFn c f).length).sum := by
    have hin : s ∈ inFn c s.f := mem_inFn.mpr ⟨hs, rfl⟩
    have h1 : 1 ≤ (inFn c s.f).length := List.length_pos_of_mem hin
    have h2 : ∀ (l : List Nat), s.f ∈ l → 1 ≤ (l.map fun f => (inFn c f).length).sum := by
      intro l
      induction l with
      | nil => intro h; cases h
      | cons a r ih =>
        intro h
        rw [List.map_cons]; rw [List.sum_cons]
        rcases List.mem_cons.1 h with e | e
        · rw [← e]; omega
        · have := ih e; omega
    exact h2 _ (List.mem_range.mpr hsf)
  omega
/-- what the program keeps: the choice, how many are spared, the size -/
def better (g z g' z' : Nat) : Prop := g' < g ∨ (g = g' ∧ z < z')
instance (g z g' z' : Nat) : Decidable (better g z g' z') := inferInstanceAs (Decidable (_ ∨ _))
def pyBest (p : Prog) (most : Nat) (log : List Site) : List (List Site) → List Site × Nat × Nat → List Site × Nat × Nat
  | [], y => y
  | c :: l, y => pyBest p most log l (if size (putAll p c) ≤ most ∧ better (gain log c) (size (putAll p c)) y.2.1 y.2.2 then (c, gain log c, size (putAll p c)) else y)
def specStep (p : Prog) (most : Nat) (log : List Site) (m : Option (List Site × Nat × Nat)) (c : List Site) : Option (List Site × Nat × Nat) :=
  if most < size (putAll p c) then m else match m with
    | none => some (c, gain log c, size (putAll p c))
    | some y => if y.2.1 < gain log c ∨ (y.2.1 = gain log c ∧ size (putAll p c) < y.2.2) then some (c, gain log c, size (putAll p c)) else m
theorem choose_eq (p : Prog) (most : Nat) (log : List Site) : Cm09.choose p most log = (choices (mayPut p)).foldl (specStep p most log) none := rfl
theorem gain_nil (log : List Site) : gain log [] = 0 := by
  unfold gain
  rw [List.length_eq_zero_iff, List.filter_eq_nil_iff]
  intro x _
  simp
/-- where the two stand beside one another -/
def Beside (z0 : Nat) (m : Option (List Site × Nat × Nat)) (y : List Site × Nat × Nat) : Prop :=
  (m = none ∧ y = ([], 0, z0)) ∨ (∃ q, m = some q ∧ q.2.1 = 0 ∧ z0 < q.2.2 ∧ y = ([], 0, z0)) ∨ (m = some y ∧ 0 < y.2.1)
theorem beside_step {p : Prog} {most z0 : Nat} {log : List Site} {m : Option (List Site × Nat × Nat)} {y : List Site × Nat × Nat} {c : List Site} (h : Beside z0 m y) (hz : z0 < size (putAll p c)) :
    Beside z0 (specStep p most log m c) (if size (putAll p c) ≤ most ∧ better (gain log c) (size (putAll p c)) y.2.1 y.2.2 then (c, gain log c, size (putAll p c)) else y) := by
  generalize hZ : size (putAll p c) = Z at hz ⊢
  generalize hG : gain log c = G
  unfold specStep
  rw [hZ, hG]
  by_cases hm : most < Z
  · rw [if_pos hm, if_neg (fun q => by omega)]
    exact h
  · rw [if_neg hm]
    rcases h with ⟨h1, h2⟩ | ⟨q, h1, h2, h3, h4⟩ | ⟨h1, h2⟩
    · subst h1 h2
      show Beside z0 (some (c, G, Z)) _
      by_cases hg : G = 0
      · rw [if_neg (by unfold better; simp only; omega)]
        exact .inr (.inl ⟨_, rfl, hg, hz, rfl⟩)
      · rw [if_pos ⟨by omega, by unfold better; simp only; omega⟩]
        exact .inr (.inr ⟨rfl, by show 0 < G; omega⟩)
    · subst h1 h4
      show Beside z0 (if q.2.1 < G ∨ (q.2.1 = G ∧ Z < q.2.2) then _ else _) _
      by_cases hg : G = 0
      · rw [if_neg (c := _ ≤ most ∧ _) (by unfold better; simp only; omega)]
        split
        · exact .inr (.inl ⟨_, rfl, hg, hz, rfl⟩)
        · exact .inr (.inl ⟨_, rfl, h2, h3, rfl⟩)
      · rw [if_pos (c := _ ≤ most ∧ _) ⟨by omega, by unfold better; simp only; omega⟩, if_pos (by omega)]
        exact .inr (.inr ⟨rfl, by show 0 < G; omega⟩)
    · subst h1
      show Beside z0 (if y.2.1 < G ∨ (y.2.1 = G ∧ Z < y.2.2) then _ else _) _
      by_cases hb : y.2.1 < G ∨ (y.2.1 = G ∧ Z < y.2.2)
      · rw [if_pos hb, if_pos ⟨by omega, by unfold better; omega⟩]
        exact .inr (.inr ⟨rfl, by show 0 < G; omega⟩)
      · rw [if_neg hb, if_neg (by unfold better; omega)]
        exact .inr (.inr ⟨rfl, h2⟩)
theorem pyBest_app (p : Prog) (most : Nat) (log : List Site) : ∀ (l r : List (List Site)) (y : List Site × Nat × Nat), pyBest p most log (l ++ r) y = pyBest p most log r (pyBest p most log l y)
  | [], _, _ => rfl
  | _ :: l, r, y => pyBest_app p most log l r _
theorem putAll_nil (p : Prog) : putAll p [] = p := by
  rw [putAll_made]
  have key : ∀ k, k ≤ p.length → made p [] k = p.take k := by
    intro k
    induction k with
    | zero => intro _; rfl
    | succ k ih =>
      intro hk
      show made p [] k ++ [putAllIn p (made p [] k) [] k] = _
      rw [ih (by omega), List.take_add_one, fnAt_get (by omega)]
      rfl
  rw [key _ (Nat.le_refl _), List.take_length]
/-- **the choice that the program keeps is the specification's** -/
theorem choose_is {p : Prog} {most : Nat} {log : List Site} (hw : ∀ f ∈ p, Whole p.length (argsOf p) f) (hf : ∀ f ∈ p, FnForm f) (hs : size p ≤ most) :
    Cm09.choose p most log = some (pyBest p most log (choices (mayPut p)) ([], 0, size p)) := by
  obtain ⟨m, e, hm⟩ := choices_last (mayPut p)
  rw [choose_eq]
  have hz : ∀ c ∈ m, size p < size (putAll p c) := fun c hc => (putAll_size hw hf (.of_sub (choices_sub (by rw [e]; exact List.mem_append_left _ hc)))).2 (hm c hc)
  rw [e, List.foldl_append, pyBest_app]
  have key : ∀ (l : List (List Site)), (∀ c ∈ l, size p < size (putAll p c)) → ∀ a y, Beside (size p) a y → Beside (size p) (l.foldl (specStep p most log) a) (pyBest p most log l y) := by
    intro l
    induction l with
    | nil => intro _ a y h; exact h
    | cons c r ih =>
      intro hl a y h
      exact ih (fun d hd => hl d (List.mem_cons_of_mem _ hd)) _ _ (beside_step h (hl c List.mem_cons_self))
  have h := key m hz none ([], 0, size p) (.inl ⟨rfl, rfl⟩)
  generalize m.foldl (specStep p most log) none = a at h ⊢
  generalize pyBest p most log m ([], 0, size p) = y at h ⊢
  show specStep p most log a [] = some (if _ then _ else _)
  unfold specStep
  rw [putAll_nil, gain_nil, if_neg (by omega)]
  rcases h with ⟨h1, h2⟩ | ⟨q, h1, h2, h3, h4⟩ | ⟨h1, h2⟩
  · subst h1 h2
    rw [if_neg (by unfold better; simp only; omega)]
  · subst h1 h4
    show (if q.2.1 < 0 ∨ (q.2.1 = 0 ∧ size p < q.2.2) then _ else _) = _
    rw [if_pos (.inr ⟨h2, h3⟩), if_neg (by unfold better; simp only; omega)]
  · subst h1
    show (if y.2.1 < 0 ∨ (y.2.1 = 0 ∧ size p < y.2.2) then _ else _) = _
    rw [if_neg (by omega), if_neg (by unfold better; omega)]
theorem choose_none {p : Prog} {most : Nat} {log : List Site} (hw : ∀ f ∈ p, Whole p.length (argsOf p) f) (hf : ∀ f ∈ p, FnForm f) (hs : most < size p) : Cm09.choose p most log = none := by
  rw [choose_eq]
  have key : ∀ (l : List (List Site)), (∀ c ∈ l, c.Sublist (mayPut p)) → l.foldl (specStep p most log) none = none := by
    intro l
    induction l with
    | nil => intro _; rfl
    | cons c r ih =>
      intro h
      rw [List.foldl_cons]
      have z := (putAll_size hw hf (.of_sub (h c List.mem_cons_self))).1
      have e : specStep p most log none c = none := by unfold specStep; rw [if_pos (by omega)]
      rw [e]
      exact ih fun d hd => h d (List.mem_cons_of_mem _ hd)
  exact key _ fun c hc => choices_sub hc
/-- what is spared, place by place -/
theorem site_irrefl {p : Prog} {c : List Site} (h : Choice p c) : c.Nodup := h.order.imp fun {a b} q e => by
  subst e
  rcases q with q | ⟨_, q | ⟨_, q⟩⟩ <;> omega
theorem gain_sum (log : List Site) : ∀ c : List Site, c.Nodup → gain log c = (c.map fun s => (log.filter fun y => y == s).length).sum
  | [], _ => gain_nil log
  | s :: c, h => by
    obtain ⟨h1, h2⟩ := List.nodup_cons.1 h
    have ih := gain_sum log c h2
    rw [List.map_cons, List.sum_cons, ← ih]
    unfold gain
    clear ih
    induction log with
    | nil => rfl
    | cons x l ih =>
      rw [List.filter_cons, List.filter_cons, List.filter_cons]
      by_cases hx : x = s
      · subst hx
        have e1 : (x :: c).contains x = true := by simp
        have e2 : c.contains x = false := by simpa using h1
        rw [if_pos e1, if_pos (by simp), if_neg (by rw [e2]; decide)]
        rw [List.length_cons, List.length_cons, ih]
        omega
      · have e1 : (s :: c).contains x = c.contains x := by simp [hx]
        rw [e1, if_neg (c := (x == s) = true) (by simpa using hx)]
        cases c.contains x with
        | true => rw [if_pos rfl, if_pos rfl, List.length_cons, List.length_cons, ih]; omega
        | false => rw [if_neg (by decide), if_neg (by decide)]; exact ih
end Pc

namespace Pc
open CmBase Cm09
/-! ### words -/
theorem look_put (e : Env) (x v y : Nat) : look (put e x v) y = if y = x then v else look e y := by
  unfold look put
  by_cases h : x < e.length
  · rw [if_pos h, List.getD_eq_getElem?_getD, List.getD_eq_getElem?_getD, List.getElem?_set]
    by_cases e1 : y = x
    · subst e1; simp [h]
    · rw [if_neg (fun z => e1 z.symm), if_neg e1]
  · rw [if_neg h, List.getD_eq_getElem?_getD, List.getD_eq_getElem?_getD]
    by_cases e1 : y = x
    · subst e1
      rw [if_pos rfl, List.getElem?_append_right (by omega), List.getElem?_append_right (by rw [List.length_replicate]; omega), List.length_replicate]
      simp
    · rw [if_neg e1]
      by_cases h2 : y < e.length
      · rw [List.getElem?_append_left h2]
      · rw [List.getElem?_append_right (by omega), List.getElem?_eq_none (show e.length ≤ y by omega)]
        by_cases h3 : y < x
        · rw [List.getElem?_append_left (by rw [List.length_replicate]; omega), List.getElem?_replicate, if_pos (by omega)]
          rfl
        · rw [List.getElem?_eq_none (by rw [List.length_append, List.length_replicate]; show _ + 1 ≤ _; omega)]
def WordsOk (e : Env) : Prop := ∀ x, look e x < 4294967296
theorem WordsOk.put {e : Env} {x v : Nat} (h : WordsOk e) (hv : v < 4294967296) : WordsOk (put e x v) := fun y => by
  rw [look_put]
  split
  · exact hv
  · exact h y
theorem WordsOk.puts : ∀ {xs vs : List Nat} {e : Env}, WordsOk e → (∀ v ∈ vs, v < 4294967296) → WordsOk (puts e xs vs)
  | [], _, _, h, _ => by unfold CmBase.puts; exact h
  | _ :: _, [], _, h, _ => by unfold CmBase.puts; exact h
  | x :: xs, v :: vs, e, h, hv => by
    unfold CmBase.puts
    exact WordsOk.puts (h.put (hv v List.mem_cons_self)) fun w hw => hv w (List.mem_cons_of_mem _ hw)
theorem WordsOk.hand {e : Env} {ts as : List Nat} (h : WordsOk e) : WordsOk (hand e ts as) := h.puts fun v hv => by
  obtain ⟨a, _, rfl⟩ := List.mem_map.1 hv
  exact h a
theorem WordsOk.of_list {l : List Nat} (h : ∀ x ∈ l, x < 4294967296) : WordsOk l := fun x => by
  unfold look
  rw [show l.getD x 0 = (l[x]?).getD 0 from List.getD_eq_getElem?_getD]
  cases e : l[x]? with
  | none => show 0 < _; decide
  | some v => exact h v (List.mem_of_getElem? e)
theorem make_lt {o : Op} {a b v : Nat} (ha : a < 4294967296) (hb : b < 4294967296) (h : o.make a b = some v) : v < 4294967296 := by
  have mod : ∀ n, n % 4294967296 < 4294967296 := fun n => Nat.mod_lt _ (by decide)
  have p32 : (4294967296 : Nat) = 2 ^ 32 := by decide
  cases o <;> simp only [Op.make] at h
  · cases h; exact mod _
  · cases h; exact mod _
  · cases h; exact mod _
  · cases h; exact Nat.lt_of_le_of_lt Nat.and_le_left ha
  · cases h; rw [p32] at ha hb ⊢; exact Nat.or_lt_two_pow ha hb
  · cases h; rw [p32] at ha hb ⊢; exact Nat.xor_lt_two_pow ha hb
  · cases h; exact mod _
  · cases h; exact Nat.lt_of_le_of_lt (Nat.div_le_self _ _) ha
  · cases h; split <;> decide
  · cases h; split <;> decide
  · split at h
    · cases h
    · cases h; exact Nat.lt_of_le_of_lt (Nat.div_le_self _ _) ha
/-! ### a run goes on in the program -/
structure FrOk (p : Prog) (fr : Frame) : Prop where
  f : fr.f < p.length
  b : fr.b < (fnAt p fr.f).blocks.length
  words : WordsOk fr.env
/-- a program that may be run -/
structure Runs (p : Prog) : Prop where
  whole : ∀ f ∈ p, Whole p.length (argsOf p) f
  form : ∀ f ∈ p, FnForm f
def StOk (p : Prog) : State → Prop
  | .on t below => ∀ fr ∈ t :: below, FrOk p fr
  | _ => True
theorem step_ok {p : Prog} {t : Frame} {below : List Frame} (hp : Runs p) (h : StOk p (.on t below)) : StOk p (step1 p t below).1 := by
  have ht := h t List.mem_cons_self
  have hbelow : ∀ fr ∈ below, FrOk p fr := fun fr hfr => h fr (List.mem_cons_of_mem _ hfr)
  have hF := hp.whole _ (fnAt_mem ht.f)
  have hFm := hp.form _ (fnAt_mem ht.f)
  have hB := blockAt_mem ht.b
  have on : ∀ {fr : Frame}, FrOk p fr → StOk p (.on fr below) := fun {fr} q r hr => by
    rcases List.mem_cons.1 hr with e | e
    · rw [e]; exact q
    · exact hbelow r e
  have way : ∀ {u : Nat} {as : List Nat}, WayWell (fnAt p t.f) u as → FrOk p { t with b := u, r := 0, env := handTo (fnAt p t.f) t.env u as } := fun {u as} q => ⟨ht.f, q.hi, ht.words.hand⟩
  unfold step1
  simp only
  cases hr : (blockAt (fnAt p t.f) t.b).rows[t.r]? with
  | some row =>
    have hform := (hFm.blocks _ hB).rows _ (List.mem_of_getElem? hr)
    cases row with
    | plain row =>
      cases row with
      | num x k => exact on ⟨ht.f, ht.b, ht.words.put hform⟩
      | copy x a => exact absurd hform id
      | two x o a c =>
        show StOk p (match o.make (look t.env a) (look t.env c) with | none => _ | some v => _ : State × List Nat × List Site).1
        cases hm : o.make (look t.env a) (look t.env c) with
        | none => trivial
        | some v => exact on ⟨ht.f, ht.b, ht.words.put (make_lt (ht.words a) (ht.words c) hm)⟩
      | say a => exact on ⟨ht.f, ht.b, ht.words⟩
    | call x g as =>
      obtain ⟨hg, _⟩ := hF.calls _ hB _ _ _ (List.mem_of_getElem? hr)
      intro fr hfr
      rcases List.mem_cons.1 hfr with e | e
      · rw [e]
        exact ⟨hg, (hp.whole _ (fnAt_mem hg)).some, .of_list fun v hv => by
          obtain ⟨a, _, rfl⟩ := List.mem_map.1 hv
          exact ht.words a⟩
      · rcases List.mem_cons.1 e with e | e
        · rw [e]; exact ⟨ht.f, ht.b, ht.words⟩
        · exact hbelow fr e
  | none =>
    have we := hF.ends _ hB
    show StOk p (match (blockAt (fnAt p t.f) t.b).last with | .jump u as => _ | .fork v u as w bs => _ | .give v => _ : State × List Nat × List Site).1
    cases he : (blockAt (fnAt p t.f) t.b).last with
    | jump u as => rw [he] at we; exact on (way we)
    | fork v u as w bs =>
      rw [he] at we
      show StOk p (if _ then _ else _)
      split
      · exact on (way we.2)
      · exact on (way we.1)
    | give v =>
      cases below with
      | nil => trivial
      | cons c l =>
        intro fr hfr
        rcases List.mem_cons.1 hfr with e | e
        · rw [e]
          have q := hbelow c List.mem_cons_self
          exact ⟨q.f, q.b, q.words.put (ht.words v)⟩
        · exact hbelow fr (List.mem_cons_of_mem _ e)
theorem runs_of {s : Cm09.St} (sm : Small s) (hw : isWhole s.prog = true) : Runs s.prog := ⟨(whole_of hw).2, fun f hf => (sm.fn f hf).form⟩
theorem made_runs {s : Cm09.St} {c : List Site} (sm : Small s) (hw : isWhole s.prog = true) (hc : Choice s.prog c) : Runs (putAll s.prog c) := by
  have hW := (whole_of hw).2
  have fo := fun f hf => made_folded hW (fun f hf => (sm.fn f hf).form) hc s.prog.length (Nat.le_refl _) f hf
  rw [putAll_made]
  have hl : (made s.prog c s.prog.length).length = s.prog.length := made_len _ _ _
  have ha : ∀ g, argsOf (made s.prog c s.prog.length) g = argsOf s.prog g := fun g => by
    unfold argsOf
    by_cases hg : g < s.prog.length
    · exact (fo g hg).args
    · unfold fnAt
      rw [List.getD_eq_getElem?_getD, List.getD_eq_getElem?_getD, List.getElem?_eq_none (by rw [hl]; omega), List.getElem?_eq_none (by omega)]
  have e : argsOf (made s.prog c s.prog.length) = argsOf s.prog := funext ha
  have mem : ∀ f ∈ made s.prog c s.prog.length, ∃ i, i < s.prog.length ∧ f = fnAt (made s.prog c s.prog.length) i := fun f hf => by
    obtain ⟨i, hi⟩ := List.mem_iff_getElem?.1 hf
    have := (List.getElem?_eq_some_iff.1 hi).1
    exact ⟨i, by rw [hl] at this; exact this, (fnAt_of hi).symm⟩
  refine ⟨fun f hf => ?_, fun f hf => ?_⟩
  · obtain ⟨i, hi, rfl⟩ := mem f hf
    rw [hl, e]
    exact (fo i hi).whole
  · obtain ⟨i, hi, rfl⟩ := mem f hf
    exact (fo i hi).form
theorem made_all_fits {s : Cm09.St} {c : List Site} (sm : Small s) (hw : isWhole s.prog = true) (hc : Choice s.prog c) : ∀ f ∈ putAll s.prog c, Fits f := fun f hf => by
  rw [putAll_made] at hf
  obtain ⟨i, hi⟩ := List.mem_iff_getElem?.1 hf
  have := (List.getElem?_eq_some_iff.1 hi).1
  rw [made_len] at this
  rw [← fnAt_of hi]
  exact made_fits sm hw hc (Nat.le_refl _) this
theorem putAll_len (p : Prog) (c : List Site) : (putAll p c).length = p.length := by rw [putAll_made, made_len]
/-! ### how often a call was made -/
def cntOf (t : List (Site × Nat)) (s : Site) : Nat := ((t.find? fun e => e.1 == s).map (·.2)).getD 0
def bump (t : List (Site × Nat)) (s : Site) : List (Site × Nat) :=
  if (t.any fun e => e.1 == s) = true then t.map (fun e => if e.1 = s then (e.1, e.2 + 1) else e) else t ++ [(s, 1)]
def tally (log : List Site) : List (Site × Nat) := log.foldl bump []
theorem tally_snoc (log : List Site) (s : Site) : tally (log ++ [s]) = bump (tally log) s := by
  unfold tally
  rw [List.foldl_append]
  rfl
theorem bump_keys (t : List (Site × Nat)) (s : Site) : (bump t s).map (·.1) = if (t.any fun e => e.1 == s) = true then t.map (·.1) else t.map (·.1) ++ [s] := by
  unfold bump
  split
  · rw [List.map_map]
    refine List.map_congr_left fun e _ => ?_
    show (if e.1 = s then (e.1, e.2 + 1) else e).1 = e.1
    split <;> rfl
  · rw [List.map_append]; rfl
theorem snoc_rec {α : Type} {P : List α → Prop} (nil : P []) (snoc : ∀ l s, P l → P (l ++ [s])) (l : List α) : P l := by
  have key : ∀ n (l : List α), l.length = n → P l := by
    intro n
    induction n with
    | zero => intro l h; rw [List.length_eq_zero_iff.mp h]; exact nil
    | succ n ih =>
      intro l h
      have hne : l ≠ [] := fun z => by rw [z] at h; cases h
      rw [← List.dropLast_concat_getLast hne]
      exact snoc _ _ (ih _ (by rw [List.length_dropLast, h]; rfl))
  exact key _ l rfl
theorem tally_nodup (log : List Site) : ((tally log).map (·.1)).Nodup := by
  induction log using snoc_rec with
  | nil => exact List.nodup_nil
  | snoc l s ih =>
    rw [tally_snoc, bump_keys]
    split
    · exact ih
    · rename_i h
      refine List.nodup_append.mpr ⟨ih, by simp, fun x hx y hy => ?_⟩
      rw [List.mem_singleton.1 hy]
      intro e
      subst e
      obtain ⟨q, hq, rfl⟩ := List.mem_map.1 hx
      exact h (List.any_eq_true.mpr ⟨q, hq, by simp⟩)
theorem cnt_map (t : List (Site × Nat)) (s s' : Site) : cntOf (t.map fun e => if e.1 = s then (e.1, e.2 + 1) else e) s' = if s' = s then (if (t.any fun e => e.1 == s) = true then cntOf t s + 1 else 0) else cntOf t s' := by
  unfold cntOf
  induction t with
  | nil => simp
  | cons e r ih =>
    rw [List.map_cons, List.find?_cons, List.find?_cons, List.any_cons, List.find?_cons]
    by_cases h : e.1 = s
    · rw [if_pos h]
      by_cases h2 : s' = s
      · subst h2
        have e1 : (e.1 == s') = true := by simpa using h
        simp only [e1, Bool.true_or, if_true]
        rfl
      · have e1 : (e.1 == s') = false := by rw [h]; simpa using fun z => h2 z.symm
        simp only [e1, if_neg h2]
        rw [ih, if_neg h2]
    · rw [if_neg h]
      have e0 : (e.1 == s) = false := by simpa using h
      by_cases h2 : s' = s
      · subst h2
        simp only [e0, Bool.false_or, if_true]
        rw [ih, if_pos rfl]
      · simp only [if_neg h2]
        cases h3 : (e.1 == s') with
        | true => rfl
        | false =>
          simp only
          rw [ih, if_neg h2]
theorem cnt_none {t : List (Site × Nat)} {s : Site} (h : ¬ (t.any fun e => e.1 == s) = true) : cntOf t s = 0 := by
  unfold cntOf
  rw [List.find?_eq_none.mpr fun e he z => h (List.any_eq_true.mpr ⟨e, he, z⟩)]
  rfl
theorem cnt_bump (t : List (Site × Nat)) (s s' : Site) : cntOf (bump t s) s' = if s' = s then cntOf t s + 1 else cntOf t s' := by
  unfold bump
  by_cases h : (t.any fun e => e.1 == s) = true
  · rw [if_pos h, cnt_map, if_pos h]
  · rw [if_neg h]
    have h0 := cnt_none h
    unfold cntOf at h0 ⊢
    rw [List.find?_append]
    by_cases h2 : s' = s
    · subst h2
      have e : t.find? (fun e => e.1 == s') = none := List.find?_eq_none.mpr fun e he z => h (List.any_eq_true.mpr ⟨e, he, z⟩)
      rw [e, if_pos rfl]
      simp
    · rw [if_neg h2]
      cases t.find? (fun e => e.1 == s') with
      | some q => rfl
      | none =>
        have e : (s == s') = false := by simpa using fun z => h2 z.symm
        simp [e]
theorem cnt_tally (log : List Site) (s : Site) : cntOf (tally log) s = (log.filter fun y => y == s).length := by
  induction log using snoc_rec with
  | nil => rfl
  | snoc l x ih =>
    rw [tally_snoc, cnt_bump, List.filter_append, List.length_append]
    by_cases h : s = x
    · subst h
      rw [if_pos rfl, ih]
      simp
    · rw [if_neg h, ih]
      have e : (x == s) = false := by simpa using fun z => h z.symm
      simp [e]
theorem sum_bump {t : List (Site × Nat)} {s : Site} (h : (t.map (·.1)).Nodup) : ((bump t s).map (·.2)).sum = (t.map (·.2)).sum + 1 := by
  unfold bump
  by_cases ha : (t.any fun e => e.1 == s) = true
  · rw [if_pos ha]
    induction t with
    | nil => cases ha
    | cons e r ih =>
      rw [List.map_cons] at h
      obtain ⟨h1, h2⟩ := List.nodup_cons.1 h
      rw [List.map_cons, List.map_cons, List.sum_cons, List.map_cons, List.sum_cons]
      by_cases he : e.1 = s
      · rw [if_pos he]
        have er : (r.map fun e => if e.1 = s then (e.1, e.2 + 1) else e) = r := by
          conv => rhs; rw [(List.map_id r).symm]
          refine List.map_congr_left fun q hq => ?_
          rw [if_neg]
          · rfl
          · intro z
            exact h1 (List.mem_map.mpr ⟨q, hq, z.trans he.symm⟩)
        rw [er]
        omega
      · rw [if_neg he]
        rw [List.any_cons] at ha
        have e0 : (e.1 == s) = false := by simpa using he
        rw [e0, Bool.false_or] at ha
        rw [ih h2 ha]
        omega
  · rw [if_neg ha, List.map_append, List.sum_append]
    rfl
theorem sum_tally (log : List Site) : ((tally log).map (·.2)).sum = log.length := by
  induction log using snoc_rec with
  | nil => rfl
  | snoc l x ih => rw [tally_snoc, sum_bump (tally_nodup l), ih, List.length_append]; rfl
theorem len_tally (log : List Site) : (tally log).length ≤ log.length := by
  induction log using snoc_rec with
  | nil => exact Nat.le_refl _
  | snoc l x ih =>
    rw [tally_snoc, List.length_append]
    show _ ≤ l.length + 1
    unfold bump
    split
    · rw [List.length_map]; omega
    · rw [List.length_append]; show _ + 1 ≤ _; omega
end Pc

namespace Pc
open CmBase Cm09
/-! ### the calls of a line -/
def manyNums : List Nat := [1, 0, 2, 4, 1, 2, 1, 4, 1, 0, 2, 2, 3, 3, 3, 3]
def hasList : List Bool := [false, true, false, false, false, true, true, true, false, false, true, true, false, true, true, true]
/-- a call by its number, its whole numbers, its list -/
inductive Part : Nat → List Nat → List Nat → Cm09.Call → Prop
  | fn (a : Nat) : Part 0 [a] [] (.fn a)
  | block (l : List Nat) : Part 1 [] l (.block l)
  | num (a b : Nat) : Part 2 [a, b] [] (.num a b)
  | two (a b c d : Nat) : Part 3 [a, b, c, d] [] (.two a b c d)
  | say (a : Nat) : Part 4 [a] [] (.say a)
  | call (a b : Nat) (l : List Nat) : Part 5 [a, b] l (.call a b l)
  | jump (a : Nat) (l : List Nat) : Part 6 [a] l (.jump a l)
  | fork (a b c d : Nat) (l : List Nat) : Part 7 [a, b, c, d] l (.fork a b c d l)
  | give (a : Nat) : Part 8 [a] [] (.give a)
  | shows : Part 9 [] [] (.shows)
  | run (a b : Nat) (l : List Nat) : Part 10 [a, b] l (.run a b l)
  | counts (a b : Nat) (l : List Nat) : Part 11 [a, b] l (.counts a b l)
  | putIn (a b c : Nat) : Part 12 [a, b, c] [] (.putIn a b c)
  | choose (a b c : Nat) (l : List Nat) : Part 13 [a, b, c] l (.choose a b c l)
  | runChosen (a b c : Nat) (l : List Nat) : Part 14 [a, b, c] l (.runChosen a b c l)
  | whole (a b c : Nat) (l : List Nat) : Part 15 [a, b, c] l (.whole a b c l)
theorem len0 {α : Type} {l : List α} (h : l.length = 0) : l = [] := List.length_eq_zero_iff.mp h
theorem len1 {α : Type} {l : List α} (h : l.length = 1) : ∃ a, l = [a] := match l, h with
  | [a], _ => ⟨a, rfl⟩
theorem len2 {α : Type} {l : List α} (h : l.length = 2) : ∃ a b, l = [a, b] := match l, h with
  | [a, b], _ => ⟨a, b, rfl⟩
theorem len3 {α : Type} {l : List α} (h : l.length = 3) : ∃ a b c, l = [a, b, c] := match l, h with
  | [a, b, c], _ => ⟨a, b, c, rfl⟩
theorem len4 {α : Type} {l : List α} (h : l.length = 4) : ∃ a b c d, l = [a, b, c, d] := match l, h with
  | [a, b, c, d], _ => ⟨a, b, c, d, rfl⟩
theorem within_nat {x : Int} (h : PyInside.within 0 4294967295 x = true) : ∃ n : Nat, x = (n : Int) ∧ n < 4294967296 := by
  unfold PyInside.within at h
  rw [Bool.and_eq_true, decide_eq_true_eq, decide_eq_true_eq] at h
  exact ⟨x.toNat, by omega, by omega⟩
theorem all_nat {l : List Int} (h : l.all (PyInside.within 0 4294967295) = true) : ∃ ns : List Nat, l = Cm09.ints ns ∧ ∀ n ∈ ns, n < 4294967296 := by
  induction l with
  | nil => exact ⟨[], rfl, fun n hn => by cases hn⟩
  | cons a r ih =>
    rw [List.all_cons] at h; rw [Bool.and_eq_true] at h
    obtain ⟨n, e1, h1⟩ := within_nat h.1
    obtain ⟨ns, e2, h2⟩ := ih h.2
    refine ⟨n :: ns, by rw [e1, e2]; rfl, fun m hm => ?_⟩
    rcases List.mem_cons.1 hm with z | z
    · rw [z]; exact h1
    · exact h2 m z
theorem each_nat : ∀ (b : List (Int × Int)) (l : List Int), (∀ x ∈ b, x = (0, 4294967295)) → l.length = b.length → PyInside.each b l = true → ∃ ns : List Nat, l = Cm09.ints ns ∧ ∀ n ∈ ns, n < 4294967296
  | [], [], _, _, _ => ⟨[], rfl, fun n hn => by cases hn⟩
  | x :: b, y :: l, hb, hl, h => by
    have ex := hb x List.mem_cons_self
    subst ex
    have h' : (PyInside.within 0 4294967295 y && PyInside.each b l) = true := h
    rw [Bool.and_eq_true] at h'
    obtain ⟨n, e1, h1⟩ := within_nat h'.1
    obtain ⟨ns, e2, h2⟩ := each_nat b l (fun x hx => hb x (List.mem_cons_of_mem _ hx)) (Nat.succ.inj hl) h'.2
    refine ⟨n :: ns, by rw [e1, e2]; rfl, fun m hm => ?_⟩
    rcases List.mem_cons.1 hm with z | z
    · rw [z]; exact h1
    · exact h2 m z
theorem list_nat {r : List Int} {m : Nat} (h : PyInside.lists [(0, 4294967295, 0, m)] [r] = true) : ∃ l : List Nat, r = Cm09.ints l ∧ (∀ n ∈ l, n < 4294967296) ∧ l.length ≤ m := by
  have h' : (decide (0 ≤ r.length) && decide (r.length ≤ m) && r.all (PyInside.within 0 4294967295) && true) = true := h
  rw [Bool.and_eq_true, Bool.and_eq_true, Bool.and_eq_true, decide_eq_true_eq, decide_eq_true_eq] at h'
  obtain ⟨ns, e, hn⟩ := all_nat h'.1.2
  refine ⟨ns, e, hn, ?_⟩
  have h2 := h'.1.1.2
  rw [e] at h2
  unfold Cm09.ints at h2
  rw [List.length_map] at h2
  exact h2
theorem callOf_nats {l : List Nat} (h : ∀ n ∈ l, n < 4294967296) : Cm09Neutral.callOf (Cm09.ints l) = Cm09Neutral.callIn l := by
  have e1 : (Cm09.ints l).all Cm09Neutral.nat = true := List.all_eq_true.mpr fun x hx => by
    obtain ⟨n, hn, rfl⟩ := List.mem_map.1 hx
    have h1 := h n hn
    unfold Cm09Neutral.nat
    rw [Bool.and_eq_true]; rw [decide_eq_true_eq, decide_eq_true_eq]
    exact ⟨by omega, by have e : (2 : Int) ^ 32 = 4294967296 := by decide
                        rw [e]; omega⟩
  have e2 : (Cm09.ints l).map Int.toNat = l := by
    unfold Cm09.ints
    rw [List.map_map]
    exact (List.map_congr_left fun n _ => Int.toNat_natCast n).trans (List.map_id' l)
  unfold Cm09Neutral.callOf
  rw [e1, e2]
  rfl
/-- what is known of a call that is asked -/
def Parted (c : List (List Int)) : Prop := ∃ k ns l x xs, c = Cm09.ints (k :: ns) :: xs ∧ xs.headD [] = Cm09.ints l ∧ Part k ns l x ∧ Cm09Neutral.callOf ((PyCm09.whole c).headD []) = some x ∧ (∀ n ∈ ns, n < 4294967296) ∧ (∀ n ∈ l, n < 4294967296) ∧ l.length ≤ 12
theorem lt_cons {k : Nat} {l : List Nat} (h : k < 4294967296) (hl : ∀ n ∈ l, n < 4294967296) : ∀ n ∈ k :: l, n < 4294967296 := fun n hn => by
  rcases List.mem_cons.1 hn with z | z
  · rw [z]; exact h
  · exact hl n z
theorem lt_app {m l : List Nat} (h : ∀ n ∈ m, n < 4294967296) (hl : ∀ n ∈ l, n < 4294967296) : ∀ n ∈ m ++ l, n < 4294967296 := fun n hn => by
  rcases List.mem_append.1 hn with z | z
  · exact h n z
  · exact hl n z
theorem parted_0 {a : List Int} {xs : List (List Int)} (e1 : a.length = 1) (e2 : xs.length = 0) (h : PyInside.call PyCm09.bound ((0 :: a) :: xs) = true) : Parted ((0 :: a) :: xs) := by
  have h' : (PyInside.each [(0, 4294967295)] a && PyInside.lists [] xs) = true := h
  rw [Bool.and_eq_true] at h'
  obtain ⟨ns, rfl, hn⟩ := each_nat [(0, 4294967295)] a (by decide) e1 h'.1
  have e3 : ns.length = 1 := by rw [← e1]; unfold Cm09.ints; rw [List.length_map]
  obtain ⟨a, rfl⟩ := len1 e3
  obtain rfl := len0 e2
  refine ⟨0, [a], [], _, [], rfl, rfl, .fn a, ?_, hn, fun n hn => (by cases hn), Nat.zero_le _⟩
  exact callOf_nats (l := 0 :: [a]) (lt_cons (by decide) hn)
theorem parted_1 {a : List Int} {xs : List (List Int)} (e1 : a.length = 0) (e2 : xs.length = 1) (h : PyInside.call PyCm09.bound ((1 :: a) :: xs) = true) : Parted ((1 :: a) :: xs) := by
  have h' : (PyInside.each [] a && PyInside.lists [(0, 4294967295, 0, 8)] xs) = true := h
  rw [Bool.and_eq_true] at h'
  obtain ⟨ns, rfl, hn⟩ := each_nat [] a (by decide) e1 h'.1
  have e3 : ns.length = 0 := by rw [← e1]; unfold Cm09.ints; rw [List.length_map]
  obtain rfl := len0 e3
  obtain ⟨r, rfl⟩ := len1 e2
  obtain ⟨l, rfl, hl, hm⟩ := list_nat h'.2
  refine ⟨1, [], l, _, [Cm09.ints l], rfl, rfl, .block l, ?_, hn, hl, Nat.le_trans hm (by decide)⟩
  exact callOf_nats (l := 1 :: ([] ++ l)) (lt_cons (by decide) (lt_app hn hl))
theorem parted_2 {a : List Int} {xs : List (List Int)} (e1 : a.length = 2) (e2 : xs.length = 0) (h : PyInside.call PyCm09.bound ((2 :: a) :: xs) = true) : Parted ((2 :: a) :: xs) := by
  have h' : (PyInside.each [(0, 4294967295), (0, 4294967295)] a && PyInside.lists [] xs) = true := h
  rw [Bool.and_eq_true] at h'
  obtain ⟨ns, rfl, hn⟩ := each_nat [(0, 4294967295), (0, 4294967295)] a (by decide) e1 h'.1
  have e3 : ns.length = 2 := by rw [← e1]; unfold Cm09.ints; rw [List.length_map]
  obtain ⟨a, b, rfl⟩ := len2 e3
  obtain rfl := len0 e2
  refine ⟨2, [a, b], [], _, [], rfl, rfl, .num a b, ?_, hn, fun n hn => (by cases hn), Nat.zero_le _⟩
  exact callOf_nats (l := 2 :: [a, b]) (lt_cons (by decide) hn)
theorem parted_3 {a : List Int} {xs : List (List Int)} (e1 : a.length = 4) (e2 : xs.length = 0) (h : PyInside.call PyCm09.bound ((3 :: a) :: xs) = true) : Parted ((3 :: a) :: xs) := by
  have h' : (PyInside.each [(0, 4294967295), (0, 4294967295), (0, 4294967295), (0, 4294967295)] a && PyInside.lists [] xs) = true := h
  rw [Bool.and_eq_true] at h'
  obtain ⟨ns, rfl, hn⟩ := each_nat [(0, 4294967295), (0, 4294967295), (0, 4294967295), (0, 4294967295)] a (by decide) e1 h'.1
  have e3 : ns.length = 4 := by rw [← e1]; unfold Cm09.ints; rw [List.length_map]
  obtain ⟨a, b, c, d, rfl⟩ := len4 e3
  obtain rfl := len0 e2
  refine ⟨3, [a, b, c, d], [], _, [], rfl, rfl, .two a b c d, ?_, hn, fun n hn => (by cases hn), Nat.zero_le _⟩
  exact callOf_nats (l := 3 :: [a, b, c, d]) (lt_cons (by decide) hn)
theorem parted_4 {a : List Int} {xs : List (List Int)} (e1 : a.length = 1) (e2 : xs.length = 0) (h : PyInside.call PyCm09.bound ((4 :: a) :: xs) = true) : Parted ((4 :: a) :: xs) := by
  have h' : (PyInside.each [(0, 4294967295)] a && PyInside.lists [] xs) = true := h
  rw [Bool.and_eq_true] at h'
  obtain ⟨ns, rfl, hn⟩ := each_nat [(0, 4294967295)] a (by decide) e1 h'.1
  have e3 : ns.length = 1 := by rw [← e1]; unfold Cm09.ints; rw [List.length_map]
  obtain ⟨a, rfl⟩ := len1 e3
  obtain rfl := len0 e2
  refine ⟨4, [a], [], _, [], rfl, rfl, .say a, ?_, hn, fun n hn => (by cases hn), Nat.zero_le _⟩
  exact callOf_nats (l := 4 :: [a]) (lt_cons (by decide) hn)
theorem parted_5 {a : List Int} {xs : List (List Int)} (e1 : a.length = 2) (e2 : xs.length = 1) (h : PyInside.call PyCm09.bound ((5 :: a) :: xs) = true) : Parted ((5 :: a) :: xs) := by
  have h' : (PyInside.each [(0, 4294967295), (0, 4294967295)] a && PyInside.lists [(0, 4294967295, 0, 8)] xs) = true := h
  rw [Bool.and_eq_true] at h'
  obtain ⟨ns, rfl, hn⟩ := each_nat [(0, 4294967295), (0, 4294967295)] a (by decide) e1 h'.1
  have e3 : ns.length = 2 := by rw [← e1]; unfold Cm09.ints; rw [List.length_map]
  obtain ⟨a, b, rfl⟩ := len2 e3
  obtain ⟨r, rfl⟩ := len1 e2
  obtain ⟨l, rfl, hl, hm⟩ := list_nat h'.2
  refine ⟨5, [a, b], l, _, [Cm09.ints l], rfl, rfl, .call a b l, ?_, hn, hl, Nat.le_trans hm (by decide)⟩
  exact callOf_nats (l := 5 :: ([a, b] ++ l)) (lt_cons (by decide) (lt_app hn hl))
theorem parted_6 {a : List Int} {xs : List (List Int)} (e1 : a.length = 1) (e2 : xs.length = 1) (h : PyInside.call PyCm09.bound ((6 :: a) :: xs) = true) : Parted ((6 :: a) :: xs) := by
  have h' : (PyInside.each [(0, 4294967295)] a && PyInside.lists [(0, 4294967295, 0, 8)] xs) = true := h
  rw [Bool.and_eq_true] at h'
  obtain ⟨ns, rfl, hn⟩ := each_nat [(0, 4294967295)] a (by decide) e1 h'.1
  have e3 : ns.length = 1 := by rw [← e1]; unfold Cm09.ints; rw [List.length_map]
  obtain ⟨a, rfl⟩ := len1 e3
  obtain ⟨r, rfl⟩ := len1 e2
  obtain ⟨l, rfl, hl, hm⟩ := list_nat h'.2
  refine ⟨6, [a], l, _, [Cm09.ints l], rfl, rfl, .jump a l, ?_, hn, hl, Nat.le_trans hm (by decide)⟩
  exact callOf_nats (l := 6 :: ([a] ++ l)) (lt_cons (by decide) (lt_app hn hl))
theorem parted_7 {a : List Int} {xs : List (List Int)} (e1 : a.length = 4) (e2 : xs.length = 1) (h : PyInside.call PyCm09.bound ((7 :: a) :: xs) = true) : Parted ((7 :: a) :: xs) := by
  have h' : (PyInside.each [(0, 4294967295), (0, 4294967295), (0, 4294967295), (0, 4294967295)] a && PyInside.lists [(0, 4294967295, 0, 12)] xs) = true := h
  rw [Bool.and_eq_true] at h'
  obtain ⟨ns, rfl, hn⟩ := each_nat [(0, 4294967295), (0, 4294967295), (0, 4294967295), (0, 4294967295)] a (by decide) e1 h'.1
  have e3 : ns.length = 4 := by rw [← e1]; unfold Cm09.ints; rw [List.length_map]
  obtain ⟨a, b, c, d, rfl⟩ := len4 e3
  obtain ⟨r, rfl⟩ := len1 e2
  obtain ⟨l, rfl, hl, hm⟩ := list_nat h'.2
  refine ⟨7, [a, b, c, d], l, _, [Cm09.ints l], rfl, rfl, .fork a b c d l, ?_, hn, hl, Nat.le_trans hm (by decide)⟩
  exact callOf_nats (l := 7 :: ([a, b, c, d] ++ l)) (lt_cons (by decide) (lt_app hn hl))
theorem parted_8 {a : List Int} {xs : List (List Int)} (e1 : a.length = 1) (e2 : xs.length = 0) (h : PyInside.call PyCm09.bound ((8 :: a) :: xs) = true) : Parted ((8 :: a) :: xs) := by
  have h' : (PyInside.each [(0, 4294967295)] a && PyInside.lists [] xs) = true := h
  rw [Bool.and_eq_true] at h'
  obtain ⟨ns, rfl, hn⟩ := each_nat [(0, 4294967295)] a (by decide) e1 h'.1
  have e3 : ns.length = 1 := by rw [← e1]; unfold Cm09.ints; rw [List.length_map]
  obtain ⟨a, rfl⟩ := len1 e3
  obtain rfl := len0 e2
  refine ⟨8, [a], [], _, [], rfl, rfl, .give a, ?_, hn, fun n hn => (by cases hn), Nat.zero_le _⟩
  exact callOf_nats (l := 8 :: [a]) (lt_cons (by decide) hn)
theorem parted_9 {a : List Int} {xs : List (List Int)} (e1 : a.length = 0) (e2 : xs.length = 0) (h : PyInside.call PyCm09.bound ((9 :: a) :: xs) = true) : Parted ((9 :: a) :: xs) := by
  have h' : (PyInside.each [] a && PyInside.lists [] xs) = true := h
  rw [Bool.and_eq_true] at h'
  obtain ⟨ns, rfl, hn⟩ := each_nat [] a (by decide) e1 h'.1
  have e3 : ns.length = 0 := by rw [← e1]; unfold Cm09.ints; rw [List.length_map]
  obtain rfl := len0 e3
  obtain rfl := len0 e2
  refine ⟨9, [], [], _, [], rfl, rfl, .shows, ?_, hn, fun n hn => (by cases hn), Nat.zero_le _⟩
  exact callOf_nats (l := 9 :: []) (lt_cons (by decide) hn)
theorem parted_10 {a : List Int} {xs : List (List Int)} (e1 : a.length = 2) (e2 : xs.length = 1) (h : PyInside.call PyCm09.bound ((10 :: a) :: xs) = true) : Parted ((10 :: a) :: xs) := by
  have h' : (PyInside.each [(0, 4294967295), (0, 4294967295)] a && PyInside.lists [(0, 4294967295, 0, 8)] xs) = true := h
  rw [Bool.and_eq_true] at h'
  obtain ⟨ns, rfl, hn⟩ := each_nat [(0, 4294967295), (0, 4294967295)] a (by decide) e1 h'.1
  have e3 : ns.length = 2 := by rw [← e1]; unfold Cm09.ints; rw [List.length_map]
  obtain ⟨a, b, rfl⟩ := len2 e3
  obtain ⟨r, rfl⟩ := len1 e2
  obtain ⟨l, rfl, hl, hm⟩ := list_nat h'.2
  refine ⟨10, [a, b], l, _, [Cm09.ints l], rfl, rfl, .run a b l, ?_, hn, hl, Nat.le_trans hm (by decide)⟩
  exact callOf_nats (l := 10 :: ([a, b] ++ l)) (lt_cons (by decide) (lt_app hn hl))
theorem parted_11 {a : List Int} {xs : List (List Int)} (e1 : a.length = 2) (e2 : xs.length = 1) (h : PyInside.call PyCm09.bound ((11 :: a) :: xs) = true) : Parted ((11 :: a) :: xs) := by
  have h' : (PyInside.each [(0, 4294967295), (0, 4294967295)] a && PyInside.lists [(0, 4294967295, 0, 8)] xs) = true := h
  rw [Bool.and_eq_true] at h'
  obtain ⟨ns, rfl, hn⟩ := each_nat [(0, 4294967295), (0, 4294967295)] a (by decide) e1 h'.1
  have e3 : ns.length = 2 := by rw [← e1]; unfold Cm09.ints; rw [List.length_map]
  obtain ⟨a, b, rfl⟩ := len2 e3
  obtain ⟨r, rfl⟩ := len1 e2
  obtain ⟨l, rfl, hl, hm⟩ := list_nat h'.2
  refine ⟨11, [a, b], l, _, [Cm09.ints l], rfl, rfl, .counts a b l, ?_, hn, hl, Nat.le_trans hm (by decide)⟩
  exact callOf_nats (l := 11 :: ([a, b] ++ l)) (lt_cons (by decide) (lt_app hn hl))
theorem parted_12 {a : List Int} {xs : List (List Int)} (e1 : a.length = 3) (e2 : xs.length = 0) (h : PyInside.call PyCm09.bound ((12 :: a) :: xs) = true) : Parted ((12 :: a) :: xs) := by
  have h' : (PyInside.each [(0, 4294967295), (0, 4294967295), (0, 4294967295)] a && PyInside.lists [] xs) = true := h
  rw [Bool.and_eq_true] at h'
  obtain ⟨ns, rfl, hn⟩ := each_nat [(0, 4294967295), (0, 4294967295), (0, 4294967295)] a (by decide) e1 h'.1
  have e3 : ns.length = 3 := by rw [← e1]; unfold Cm09.ints; rw [List.length_map]
  obtain ⟨a, b, c, rfl⟩ := len3 e3
  obtain rfl := len0 e2
  refine ⟨12, [a, b, c], [], _, [], rfl, rfl, .putIn a b c, ?_, hn, fun n hn => (by cases hn), Nat.zero_le _⟩
  exact callOf_nats (l := 12 :: [a, b, c]) (lt_cons (by decide) hn)
theorem parted_13 {a : List Int} {xs : List (List Int)} (e1 : a.length = 3) (e2 : xs.length = 1) (h : PyInside.call PyCm09.bound ((13 :: a) :: xs) = true) : Parted ((13 :: a) :: xs) := by
  have h' : (PyInside.each [(0, 4294967295), (0, 4294967295), (0, 4294967295)] a && PyInside.lists [(0, 4294967295, 0, 8)] xs) = true := h
  rw [Bool.and_eq_true] at h'
  obtain ⟨ns, rfl, hn⟩ := each_nat [(0, 4294967295), (0, 4294967295), (0, 4294967295)] a (by decide) e1 h'.1
  have e3 : ns.length = 3 := by rw [← e1]; unfold Cm09.ints; rw [List.length_map]
  obtain ⟨a, b, c, rfl⟩ := len3 e3
  obtain ⟨r, rfl⟩ := len1 e2
  obtain ⟨l, rfl, hl, hm⟩ := list_nat h'.2
  refine ⟨13, [a, b, c], l, _, [Cm09.ints l], rfl, rfl, .choose a b c l, ?_, hn, hl, Nat.le_trans hm (by decide)⟩
  exact callOf_nats (l := 13 :: ([a, b, c] ++ l)) (lt_cons (by decide) (lt_app hn hl))
theorem parted_14 {a : List Int} {xs : List (List Int)} (e1 : a.length = 3) (e2 : xs.length = 1) (h : PyInside.call PyCm09.bound ((14 :: a) :: xs) = true) : Parted ((14 :: a) :: xs) := by
  have h' : (PyInside.each [(0, 4294967295), (0, 4294967295), (0, 4294967295)] a && PyInside.lists [(0, 4294967295, 0, 8)] xs) = true := h
  rw [Bool.and_eq_true] at h'
  obtain ⟨ns, rfl, hn⟩ := each_nat [(0, 4294967295), (0, 4294967295), (0, 4294967295)] a (by decide) e1 h'.1
  have e3 : ns.length = 3 := by rw [← e1]; unfold Cm09.ints; rw [List.length_map]
  obtain ⟨a, b, c, rfl⟩ := len3 e3
  obtain ⟨r, rfl⟩ := len1 e2
  obtain ⟨l, rfl, hl, hm⟩ := list_nat h'.2
  refine ⟨14, [a, b, c], l, _, [Cm09.ints l], rfl, rfl, .runChosen a b c l, ?_, hn, hl, Nat.le_trans hm (by decide)⟩
  exact callOf_nats (l := 14 :: ([a, b, c] ++ l)) (lt_cons (by decide) (lt_app hn hl))
theorem parted_15 {a : List Int} {xs : List (List Int)} (e1 : a.length = 3) (e2 : xs.length = 1) (h : PyInside.call PyCm09.bound ((15 :: a) :: xs) = true) : Parted ((15 :: a) :: xs) := by
  have h' : (PyInside.each [(0, 4294967295), (0, 4294967295), (0, 4294967295)] a && PyInside.lists [(0, 4294967295, 0, 8)] xs) = true := h
  rw [Bool.and_eq_true] at h'
  obtain ⟨ns, rfl, hn⟩ := each_nat [(0, 4294967295), (0, 4294967295), (0, 4294967295)] a (by decide) e1 h'.1
  have e3 : ns.length = 3 := by rw [← e1]; unfold Cm09.ints; rw [List.length_map]
  obtain ⟨a, b, c, rfl⟩ := len3 e3
  obtain ⟨r, rfl⟩ := len1 e2
  obtain ⟨l, rfl, hl, hm⟩ := list_nat h'.2
  refine ⟨15, [a, b, c], l, _, [Cm09.ints l], rfl, rfl, .whole a b c l, ?_, hn, hl, Nat.le_trans hm (by decide)⟩
  exact callOf_nats (l := 15 :: ([a, b, c] ++ l)) (lt_cons (by decide) (lt_app hn hl))
theorem parted_of {c : List (List Int)} (ok : PyFlat.okCall PyCm09.shape c) (h : PyInside.call PyCm09.bound c = true) : Parted c := by
  obtain ⟨p, a, xs, rfl, hs⟩ := ok
  unfold PyCm09.shape at hs
  by_cases h0 : p = 0
  · subst h0
    rw [if_pos rfl] at hs
    have e := Option.some.inj hs
    exact parted_0 (congrArg Prod.fst e).symm (congrArg Prod.snd e).symm h
  rw [if_neg h0] at hs
  by_cases h1 : p = 1
  · subst h1
    rw [if_pos rfl] at hs
    have e := Option.some.inj hs
    exact parted_1 (congrArg Prod.fst e).symm (congrArg Prod.snd e).symm h
  rw [if_neg h1] at hs
  by_cases h2 : p = 2
  · subst h2
    rw [if_pos rfl] at hs
    have e := Option.some.inj hs
    exact parted_2 (congrArg Prod.fst e).symm (congrArg Prod.snd e).symm h
  rw [if_neg h2] at hs
  by_cases h3 : p = 3
  · subst h3
    rw [if_pos rfl] at hs
    have e := Option.some.inj hs
    exact parted_3 (congrArg Prod.fst e).symm (congrArg Prod.snd e).symm h
  rw [if_neg h3] at hs
  by_cases h4 : p = 4
  · subst h4
    rw [if_pos rfl] at hs
    have e := Option.some.inj hs
    exact parted_4 (congrArg Prod.fst e).symm (congrArg Prod.snd e).symm h
  rw [if_neg h4] at hs
  by_cases h5 : p = 5
  · subst h5
    rw [if_pos rfl] at hs
    have e := Option.some.inj hs
    exact parted_5 (congrArg Prod.fst e).symm (congrArg Prod.snd e).symm h
  rw [if_neg h5] at hs
  by_cases h6 : p = 6
  · subst h6
    rw [if_pos rfl] at hs
    have e := Option.some.inj hs
    exact parted_6 (congrArg Prod.fst e).symm (congrArg Prod.snd e).symm h
  rw [if_neg h6] at hs
  by_cases h7 : p = 7
  · subst h7
    rw [if_pos rfl] at hs
    have e := Option.some.inj hs
    exact parted_7 (congrArg Prod.fst e).symm (congrArg Prod.snd e).symm h
  rw [if_neg h7] at hs
  by_cases h8 : p = 8
  · subst h8
    rw [if_pos rfl] at hs
    have e := Option.some.inj hs
    exact parted_8 (congrArg Prod.fst e).symm (congrArg Prod.snd e).symm h
  rw [if_neg h8] at hs
  by_cases h9 : p = 9
  · subst h9
    rw [if_pos rfl] at hs
    have e := Option.some.inj hs
    exact parted_9 (congrArg Prod.fst e).symm (congrArg Prod.snd e).symm h
  rw [if_neg h9] at hs
  by_cases h10 : p = 10
  · subst h10
    rw [if_pos rfl] at hs
    have e := Option.some.inj hs
    exact parted_10 (congrArg Prod.fst e).symm (congrArg Prod.snd e).symm h
  rw [if_neg h10] at hs
  by_cases h11 : p = 11
  · subst h11
    rw [if_pos rfl] at hs
    have e := Option.some.inj hs
    exact parted_11 (congrArg Prod.fst e).symm (congrArg Prod.snd e).symm h
  rw [if_neg h11] at hs
  by_cases h12 : p = 12
  · subst h12
    rw [if_pos rfl] at hs
    have e := Option.some.inj hs
    exact parted_12 (congrArg Prod.fst e).symm (congrArg Prod.snd e).symm h
  rw [if_neg h12] at hs
  by_cases h13 : p = 13
  · subst h13
    rw [if_pos rfl] at hs
    have e := Option.some.inj hs
    exact parted_13 (congrArg Prod.fst e).symm (congrArg Prod.snd e).symm h
  rw [if_neg h13] at hs
  by_cases h14 : p = 14
  · subst h14
    rw [if_pos rfl] at hs
    have e := Option.some.inj hs
    exact parted_14 (congrArg Prod.fst e).symm (congrArg Prod.snd e).symm h
  rw [if_neg h14] at hs
  by_cases h15 : p = 15
  · subst h15
    rw [if_pos rfl] at hs
    have e := Option.some.inj hs
    exact parted_15 (congrArg Prod.fst e).symm (congrArg Prod.snd e).symm h
  rw [if_neg h15] at hs
  cases hs
theorem shape_of {p : Int} {m k : Nat} (hs : PyCm09.shape p = some (m, k)) : ∃ n : Nat, p = (n : Int) ∧ n < 16 ∧ manyNums[n]? = some m ∧ hasList[n]? = some (decide (k = 1)) ∧ k ≤ 1 := by
  unfold PyCm09.shape at hs
  by_cases h0 : p = 0
  · subst h0
    rw [if_pos rfl] at hs
    have e := Option.some.inj hs
    have many := congrArg Prod.fst e
    have lists := congrArg Prod.snd e
    dsimp only at many lists
    subst many lists
    exact ⟨0, rfl, by decide, rfl, rfl, by decide⟩
  rw [if_neg h0] at hs
  by_cases h1 : p = 1
  · subst h1
    rw [if_pos rfl] at hs
    have e := Option.some.inj hs
    have many := congrArg Prod.fst e
    have lists := congrArg Prod.snd e
    dsimp only at many lists
    subst many lists
    exact ⟨1, rfl, by decide, rfl, rfl, by decide⟩
  rw [if_neg h1] at hs
  by_cases h2 : p = 2
  · subst h2
    rw [if_pos rfl] at hs
    have e := Option.some.inj hs
    have many := congrArg Prod.fst e
    have lists := congrArg Prod.snd e
    dsimp only at many lists
    subst many lists
    exact ⟨2, rfl, by decide, rfl, rfl, by decide⟩
  rw [if_neg h2] at hs
  by_cases h3 : p = 3
  · subst h3
    rw [if_pos rfl] at hs
    have e := Option.some.inj hs
    have many := congrArg Prod.fst e
    have lists := congrArg Prod.snd e
    dsimp only at many lists
    subst many lists
    exact ⟨3, rfl, by decide, rfl, rfl, by decide⟩
  rw [if_neg h3] at hs
  by_cases h4 : p = 4
  · subst h4
    rw [if_pos rfl] at hs
    have e := Option.some.inj hs
    have many := congrArg Prod.fst e
    have lists := congrArg Prod.snd e
    dsimp only at many lists
    subst many lists
    exact ⟨4, rfl, by decide, rfl, rfl, by decide⟩
  rw [if_neg h4] at hs
  by_cases h5 : p = 5
  · subst h5
    rw [if_pos rfl] at hs
    have e := Option.some.inj hs
    have many := congrArg Prod.fst e
    have lists := congrArg Prod.snd e
    dsimp only at many lists
    subst many lists
    exact ⟨5, rfl, by decide, rfl, rfl, by decide⟩
  rw [if_neg h5] at hs
  by_cases h6 : p = 6
  · subst h6
    rw [if_pos rfl] at hs
    have e := Option.some.inj hs
    have many := congrArg Prod.fst e
    have lists := congrArg Prod.snd e
    dsimp only at many lists
    subst many lists
    exact ⟨6, rfl, by decide, rfl, rfl, by decide⟩
  rw [if_neg h6] at hs
  by_cases h7 : p = 7
  · subst h7
    rw [if_pos rfl] at hs
    have e := Option.some.inj hs
    have many := congrArg Prod.fst e
    have lists := congrArg Prod.snd e
    dsimp only at many lists
    subst many lists
    exact ⟨7, rfl, by decide, rfl, rfl, by decide⟩
  rw [if_neg h7] at hs
  by_cases h8 : p = 8
  · subst h8
    rw [if_pos rfl] at hs
    have e := Option.some.inj hs
    have many := congrArg Prod.fst e
    have lists := congrArg Prod.snd e
    dsimp only at many lists
    subst many lists
    exact ⟨8, rfl, by decide, rfl, rfl, by decide⟩
  rw [if_neg h8] at hs
  by_cases h9 : p = 9
  · subst h9
    rw [if_pos rfl] at hs
    have e := Option.some.inj hs
    have many := congrArg Prod.fst e
    have lists := congrArg Prod.snd e
    dsimp only at many lists
    subst many lists
    exact ⟨9, rfl, by decide, rfl, rfl, by decide⟩
  rw [if_neg h9] at hs
  by_cases h10 : p = 10
  · subst h10
    rw [if_pos rfl] at hs
    have e := Option.some.inj hs
    have many := congrArg Prod.fst e
    have lists := congrArg Prod.snd e
    dsimp only at many lists
    subst many lists
    exact ⟨10, rfl, by decide, rfl, rfl, by decide⟩
  rw [if_neg h10] at hs
  by_cases h11 : p = 11
  · subst h11
    rw [if_pos rfl] at hs
    have e := Option.some.inj hs
    have many := congrArg Prod.fst e
    have lists := congrArg Prod.snd e
    dsimp only at many lists
    subst many lists
    exact ⟨11, rfl, by decide, rfl, rfl, by decide⟩
  rw [if_neg h11] at hs
  by_cases h12 : p = 12
  · subst h12
    rw [if_pos rfl] at hs
    have e := Option.some.inj hs
    have many := congrArg Prod.fst e
    have lists := congrArg Prod.snd e
    dsimp only at many lists
    subst many lists
    exact ⟨12, rfl, by decide, rfl, rfl, by decide⟩
  rw [if_neg h12] at hs
  by_cases h13 : p = 13
  · subst h13
    rw [if_pos rfl] at hs
    have e := Option.some.inj hs
    have many := congrArg Prod.fst e
    have lists := congrArg Prod.snd e
    dsimp only at many lists
    subst many lists
    exact ⟨13, rfl, by decide, rfl, rfl, by decide⟩
  rw [if_neg h13] at hs
  by_cases h14 : p = 14
  · subst h14
    rw [if_pos rfl] at hs
    have e := Option.some.inj hs
    have many := congrArg Prod.fst e
    have lists := congrArg Prod.snd e
    dsimp only at many lists
    subst many lists
    exact ⟨14, rfl, by decide, rfl, rfl, by decide⟩
  rw [if_neg h14] at hs
  by_cases h15 : p = 15
  · subst h15
    rw [if_pos rfl] at hs
    have e := Option.some.inj hs
    have many := congrArg Prod.fst e
    have lists := congrArg Prod.snd e
    dsimp only at many lists
    subst many lists
    exact ⟨15, rfl, by decide, rfl, rfl, by decide⟩
  rw [if_neg h15] at hs
  cases hs
theorem Part.callIn {k : Nat} {ns l : List Nat} {x : Cm09.Call} (h : Part k ns l x) (hn : ∀ n ∈ ns, n < 4294967296) (hl : ∀ n ∈ l, n < 4294967296) (hm : l.length ≤ 12) : CallIn x := by
  cases h with
  | fn _ => exact trivial
  | block _ => exact trivial
  | num a b => exact hn b (by simp)
  | two _ _ _ _ => exact trivial
  | say _ => exact trivial
  | call _ _ _ => exact trivial
  | jump _ _ => exact trivial
  | fork _ _ _ _ _ => exact hm
  | give _ => exact trivial
  | shows => exact trivial
  | run _ _ _ => exact hl
  | counts _ _ _ => exact hl
  | putIn _ _ _ => exact trivial
  | choose _ _ _ _ => exact hl
  | runChosen _ _ _ _ => exact hl
  | whole _ _ _ _ => exact hl
end Pc

namespace Pc
open PySem PySem.Spec PyProof.Rows L2 Evl
open CmBase Cm09
/-! ### how the spec's things lie in the heap -/
def encRow : PRow → Dv
  | .plain (.num x k) => .tup [.int 0, nat x, nat k]
  | .plain (.copy x a) => .tup [.int 1, nat x, nat a]
  | .plain (.two x o a b) => .tup [.int 2, nat x, nat o.num, nat a, nat b]
  | .plain (.say a) => .tup [.int 3, nat a]
  | .call x g as => .tup [.int 4, nat x, nat g, .tup (nats as)]
def encEnd : CmBase.End → Dv
  | .jump t as => .tup [.int 0, nat t, .tup (nats as)]
  | .fork v t as u bs => .tup [.int 1, nat v, nat t, .tup (nats as), nat u, .tup (nats bs)]
  | .give v => .tup [.int 2, nat v]
def encBlk (A : Adr) (ts : List Nat) (rows : List PRow) (e : Dv) : Dv := .obj A.C_Block [("taken", .tup (nats ts)), ("rows", .lst (rows.map encRow)), ("ending", e)]
def encBlock (A : Adr) (b : PBlock) : Dv := encBlk A b.takes b.rows (encEnd b.last)
def encFn (A : Adr) (f : Fn) : Dv := .obj A.C_Function [("handed", nat f.args), ("blocks", .lst (f.blocks.map (encBlock A)))]
def encOpen (A : Adr) : Option (List Nat × List PRow) → Dv
  | none => .non
  | some (ts, rows) => encBlk A ts rows .non
def encSt (A : Adr) (s : Cm09.St) : Dv := .obj A.C_Program [("functions", .lst (s.prog.map (encFn A))), ("unended", encOpen A s.opened)]
def encSite (s : Site) : Dv := .tup [nat s.f, nat s.b, nat s.r]
section
variable {β : Type} {k g : Str} {v x : β} {r : List (Str × β)}
theorem lk_here : List.lookup k ((k, v) :: r) = some v := by
  simp only [List.lookup, beq_self_eq_true]
theorem lk_past (h : (k == g) = false) : List.lookup k ((g, v) :: r) = List.lookup k r := by
  simp only [List.lookup, h]
end
theorem map_get {α β : Type} {f : α → β} {l : List α} {i : Nat} {d : β} (h : (l.map f)[i]? = some d) : ∃ n, l[i]? = some n ∧ d = f n := by
  rw [List.getElem?_map] at h
  cases q : l[i]? with
  | none => rw [q] at h; cases h
  | some n => rw [q] at h; exact ⟨n, rfl, (Option.some.inj h).symm⟩
theorem get_map {α β : Type} {f : α → β} {l : List α} {i : Nat} {x : α} (h : l[i]? = some x) : (l.map f)[i]? = some (f x) := by rw [List.getElem?_map, h]; rfl
theorem mem_of_get {α : Type} {l : List α} {i : Nat} {x : α} (h : l[i]? = some x) : x ∈ l := List.mem_of_getElem? h
theorem ix_get {α : Type} {f : α → Dv} {l : List α} {i : Nat} {x : α} (h : l[i]? = some x) : atI (l.map f) ((i : Nat) : Int) = some (f x) := atI_nat (get_map h)
def tagOf : PRow → Int
  | .plain (.num _ _) => 0
  | .plain (.copy _ _) => 1
  | .plain (.two _ _ _ _) => 2
  | .plain (.say _) => 3
  | .call _ _ _ => 4
theorem encRow_tag (r : PRow) : ∃ l, encRow r = .tup (.int (tagOf r) :: l) := by
  cases r with
  | plain r => cases r <;> exact ⟨_, rfl⟩
  | call x g as => exact ⟨_, rfl⟩
theorem tag_call (r : PRow) : decide (tagOf r = 4) = isCall r := by
  cases r with
  | plain r => cases r <;> rfl
  | call x g as => rfl
theorem nats_len (l : List Nat) : (nats l).length = l.length := List.length_map _
theorem spR_len {K : PySem.W.Frag} {R : List Dv → Dv → Prop} {n : Nat} (h : ∀ ds d, R ds d → ds.length = n) (vs : List V) (H : Hp) (Q : VK) (E : XK) (z : spR K R vs H Q E) : vs.length = n := by
  obtain ⟨M, ds, d, _, rs, hr, _⟩ := z
  rw [rs.length, h ds d hr]
section
variable {K : PySem.W.Frag} {mg : Str → Option Value} {A : Adr} {ta tb : TE} {σ : L2.St} {M : List Addr} {H : Hp}
theorem ef_functions {s : Cm09.St} (T : Top K mg A) (h : EvF K ta σ M H (encSt A s)) : EvF K (tFld K ta "functions") σ M H (.lst (s.prog.map (encFn A))) := ef_fld h T.d_Program.cl T.n_Program_functions lk_here
theorem ef_unended {s : Cm09.St} (T : Top K mg A) (h : EvF K ta σ M H (encSt A s)) : EvF K (tFld K ta "unended") σ M H (encOpen A s.opened) := ef_fld h T.d_Program.cl T.n_Program_unended ((lk_past (by decide +kernel)).trans lk_here)
theorem ef_handed {f : Fn} (T : Top K mg A) (h : EvF K ta σ M H (encFn A f)) : EvF K (tFld K ta "handed") σ M H (nat f.args) := ef_fld h T.d_Function.cl T.n_Function_handed lk_here
theorem ef_blocks {f : Fn} (T : Top K mg A) (h : EvF K ta σ M H (encFn A f)) : EvF K (tFld K ta "blocks") σ M H (.lst (f.blocks.map (encBlock A))) := ef_fld h T.d_Function.cl T.n_Function_blocks ((lk_past (by decide +kernel)).trans lk_here)
theorem ef_taken {ts : List Nat} {l : List PRow} {e : Dv} (T : Top K mg A) (h : EvF K ta σ M H (encBlk A ts l e)) : EvF K (tFld K ta "taken") σ M H (.tup (nats ts)) := ef_fld h T.d_Block.cl T.n_Block_taken lk_here
theorem ef_rows {ts : List Nat} {l : List PRow} {e : Dv} (T : Top K mg A) (h : EvF K ta σ M H (encBlk A ts l e)) : EvF K (tFld K ta "rows") σ M H (.lst (l.map encRow)) := ef_fld h T.d_Block.cl T.n_Block_rows ((lk_past (by decide +kernel)).trans lk_here)
theorem ef_ending {ts : List Nat} {l : List PRow} {e : Dv} (T : Top K mg A) (h : EvF K ta σ M H (encBlk A ts l e)) : EvF K (tFld K ta "ending") σ M H e := ef_fld h T.d_Block.cl T.n_Block_ending ((lk_past (by decide +kernel)).trans ((lk_past (by decide +kernel)).trans lk_here))
/-- xs[i] of encoded items -/
theorem ef_at {α : Type} {f : α → Dv} {l : List α} {i : Nat} {x : α} (ha : EvF K ta σ M H (.lst (l.map f))) (hb : EvF K tb σ M H (nat i)) (h : l[i]? = some x) : EvF K (tOp (rIxL K) ta tb) σ M H (f x) := ef_ixL ha hb (ix_get h)
theorem ef_atB {l : List PBlock} {i : Nat} {x : PBlock} (ha : EvF K ta σ M H (.lst (l.map (encBlock A)))) (hb : EvF K tb σ M H (nat i)) (h : l[i]? = some x) : EvF K (tOp (rIxL K) ta tb) σ M H (encBlk A x.takes x.rows (encEnd x.last)) := ef_at (f := encBlock A) ha hb h
theorem ef_atF {l : List Fn} {i : Nat} {x : Fn} (ha : EvF K ta σ M H (.lst (l.map (encFn A)))) (hb : EvF K tb σ M H (nat i)) (h : l[i]? = some x) : EvF K (tOp (rIxL K) ta tb) σ M H (encFn A x) := ef_at (f := encFn A) ha hb h
theorem ef_atR {l : List PRow} {i : Nat} {x : PRow} (ha : EvF K ta σ M H (.lst (l.map encRow))) (hb : EvF K tb σ M H (nat i)) (h : l[i]? = some x) : EvF K (tOp (rIxL K) ta tb) σ M H (encRow x) := ef_at (f := encRow) ha hb h
theorem ef_lenM {α : Type} {f : α → Dv} {l : List α} (ha : EvF K ta σ M H (.lst (l.map f))) : EvF K (tCB (rLenS K) (tCons ta tNil)) σ M H (nat l.length) := (ef_lenL ha).cast (by rw [List.length_map]; rfl)
theorem ef_lenTM {α : Type} {f : α → Dv} {l : List α} (ha : EvF K ta σ M H (.tup (l.map f))) : EvF K (tCB (rLenS K) (tCons ta tNil)) σ M H (nat l.length) := (ef_lenT ha).cast (by rw [List.length_map]; rfl)
/-- a tuple's item by a written place -/
theorem ef_t {ds : List Dv} {d : Dv} {i : Nat} (ha : EvF K ta σ M H (.tup ds)) (h : ds[i]? = some d) : EvF K (tOp (rIxT K) ta (tC (.int (i : Nat)))) σ M H d := ef_ixT ha ef_int (atI_nat h)
end
section
variable {P : Program} {w : World} {K : PySem.W.Frag} {mg : Str → Option Value} {base : Heap} {A : Adr}
/-- has_wrong_name -/
abbrev R_has_wrong_name : List Dv → Dv → Prop := fun ds d => ∃ l : List Int, ds = [.lst (nums l)] ∧ l.length ≤ 1000 ∧ d = .bl (l.any fun n => decide (23 < n))
theorem nums_len (l : List Int) : (nums l).length = l.length := List.length_map _
theorem ok_has_wrong_name (T : Top K mg A) : DefOk P w K mg base 1 A.f_has_wrong_name "has_wrong_name" ["names"] (spR K R_has_wrong_name) := by
  refine dv_has_wrong_name T (spR_len (fun ds d ⟨l, hd, _⟩ => by rw [hd]; rfl)) (fun vs H Q E ⟨M, ds, d, hM, rs, ⟨l, hd, hl, he⟩, q⟩ => ?_)
  subst hd he
  have S : At K H M H (start N_has_wrong_name vs) [.dat (.lst (nums l)), .any] := At.start hM rs
  refine sf_ret (M := M) (d := .bl ((l.map fun n => decide (23 < n)).any id)) S ?_ (fun v H' e r => q v H' e ?_)
  · refine ef_any ?_
    refine (ef_lcL (enc := Dv.int) (fun _ => true) (fun n => .bl (decide (23 < n))) S (ef_var S rfl) (by omega) (fun x M' H' σ' _ S' => eb_yes) (fun x M' H' σ' _ S' hp => ?_)).cast ?_
    · exact ef_gt (ef_var S' rfl) ef_int
    · rw [filter_all]
      unfold bools
      rw [List.map_map]
      rfl
  · rw [List.any_map] at r
    exact r
end
end Pc

namespace Pc
open PySem PySem.Spec PyProof.Rows L2 Evl
open CmBase Cm09
/-! calls_among, all_calls, row_at, calls_standing -/
def isCallAt (rows : List PRow) (i : Nat) : Bool := ((rows[i]?).map isCall).getD false
theorem sortedN : ∀ {l r : List Nat}, l.Pairwise (· < ·) → r.Pairwise (· < ·) → (∀ k, k ∈ l ↔ k ∈ r) → l = r := fun {l r} hl hr h => by
  have e := sorted_one (l := l.map fun n => ((n : Nat) : Int)) (r := r.map fun n => ((n : Nat) : Int)) (List.pairwise_map.mpr (hl.imp fun h => by omega)) (List.pairwise_map.mpr (hr.imp fun h => by omega)) fun k => by
    simp only [List.mem_map]
    constructor
    · rintro ⟨a, ha, rfl⟩; exact ⟨a, (h a).mp ha, rfl⟩
    · rintro ⟨a, ha, rfl⟩; exact ⟨a, (h a).mpr ha, rfl⟩
  have e2 := congrArg (List.map Int.toNat) e
  rw [List.map_map, List.map_map] at e2
  have id : ∀ l : List Nat, l.map (Int.toNat ∘ fun n : Nat => (n : Int)) = l := fun l => by
    conv => rhs; rw [(List.map_id l).symm]
    exact List.map_congr_left fun x _ => rfl
  rw [id, id] at e2
  exact e2
theorem rowSites_eq (rows : List PRow) : rowSites rows = (List.range rows.length).filter (isCallAt rows) := by
  refine sortedN (rowSites_lt rows) (List.pairwise_lt_range.filter _) fun k => ?_
  rw [mem_rowSites, List.mem_filter, List.mem_range]
  unfold isCallAt
  constructor
  · rintro ⟨x, g, as, h⟩
    exact ⟨(List.getElem?_eq_some_iff.1 h).1, by rw [h]; rfl⟩
  · rintro ⟨h1, h2⟩
    rw [List.getElem?_eq_getElem h1] at h2 ⊢
    cases e : rows[k] with
    | plain r => rw [e] at h2; cases h2
    | call x g as => exact ⟨x, g, as, rfl⟩
theorem rowSites_len (rows : List PRow) : (rowSites rows).length ≤ rows.length := by
  rw [rowSites_eq]
  exact Nat.le_trans (List.length_filter_le _ _) (by rw [List.length_range]; exact Nat.le_refl _)
theorem rowSites_calls (rows : List PRow) : (rowSites rows).length = (rows.filter isCall).length := by
  unfold rowSites
  rw [List.length_map, filter_idx_len]
section
variable {P : Program} {w : World} {K : PySem.W.Frag} {mg : Str → Option Value} {base : Heap} {A : Adr}
abbrev R_calls_among : List Dv → Dv → Prop := fun ds d => ∃ rows : List PRow, ds = [.lst (rows.map encRow)] ∧ rows.length ≤ 1000 ∧ d = .lst ((rowSites rows).map nat)
theorem ok_calls_among (T : Top K mg A) : DefOk P w K mg base 1 A.f_calls_among "calls_among" ["rows"] (spR K R_calls_among) := by
  refine dv_calls_among T (spR_len (fun ds d ⟨l, hd, _⟩ => by rw [hd]; rfl)) (fun vs H Q E ⟨M, ds, d, hM, rs, ⟨rows, hd, hl, he⟩, q⟩ => ?_)
  subst hd he
  have S : At K H M H (start N_calls_among vs) [.dat (.lst (rows.map encRow)), .any] := At.start hM rs
  refine sf_ret S ?_ (fun v H' e r => q v H' e r)
  rw [rowSites_eq]
  refine ef_lcR (isCallAt rows) nat S (es_cons (ef_lenM (ef_var S rfl)) es_nil) (by omega) (fun i M' H' σ' hi S' => ?_) (fun i M' H' σ' hi S' hp => ef_var S' rfl)
  have hr : rows[i]? = some rows[i] := List.getElem?_eq_getElem hi
  obtain ⟨l, ht⟩ := encRow_tag rows[i]
  have e : isCallAt rows i = decide (tagOf rows[i] = 4) := by unfold isCallAt; rw [hr, tag_call]; rfl
  rw [e]
  have h1 := ef_atR (ef_var S' (i := 0) rfl) (ef_var S' (i := 1) rfl) hr
  rw [ht] at h1
  exact eb_test (ef_eq (ef_ixT h1 ef_int (atI_nat (j := 0) rfl)) ef_int)
/-- the sites of some blocks of a function, of some functions -/
def blkSites (f : Nat) (bs : List PBlock) : List Site := bs.zipIdx.flatMap fun (k : PBlock × Nat) => (rowSites k.1.rows).map fun r => ⟨f, k.2, r⟩
theorem zip_snoc {α : Type} (l : List α) (x : α) : (l ++ [x]).zipIdx = l.zipIdx ++ [(x, l.length)] := by
  rw [List.zipIdx_append]
  simp
theorem take_snoc {α : Type} {l : List α} {i : Nat} {x : α} (h : l[i]? = some x) : l.take (i + 1) = l.take i ++ [x] ∧ (l.take i).length = i := by
  have hi := (List.getElem?_eq_some_iff.1 h).1
  refine ⟨by rw [List.take_add_one, h]; rfl, by rw [List.length_take]; omega⟩
theorem blkSites_snoc {f i : Nat} {bs : List PBlock} {b : PBlock} (h : bs[i]? = some b) : blkSites f (bs.take (i + 1)) = blkSites f (bs.take i) ++ (rowSites b.rows).map fun r => ⟨f, i, r⟩ := by
  obtain ⟨e1, e2⟩ := take_snoc h
  unfold blkSites
  rw [e1, zip_snoc, List.flatMap_append, e2]
  simp
theorem sites_snoc {p : Prog} {i : Nat} {f : Fn} (h : p[i]? = some f) : sites (p.take (i + 1)) = sites (p.take i) ++ blkSites i f.blocks := by
  obtain ⟨e1, e2⟩ := take_snoc h
  rw [sites_flat, sites_flat, e1, zip_snoc, List.flatMap_append, e2]
  unfold blkSites
  simp
theorem flat_le {α β : Type} (l : List α) (F : α → List β) (N : Nat) (h : ∀ x ∈ l, (F x).length ≤ N) : (l.flatMap F).length ≤ l.length * N := by
  induction l with
  | nil => simp
  | cons a r ih =>
    rw [List.flatMap_cons, List.length_append, List.length_cons, Nat.succ_mul]
    have h1 := h a List.mem_cons_self
    have h2 := ih fun x hx => h x (List.mem_cons_of_mem _ hx)
    omega
theorem blkSites_le {f : Nat} {bs : List PBlock} (h : ∀ b ∈ bs, b.rows.length ≤ 8) : (blkSites f bs).length ≤ bs.length * 8 := by
  unfold blkSites
  have := flat_le bs.zipIdx (fun (k : PBlock × Nat) => (rowSites k.1.rows).map fun r => (⟨f, k.2, r⟩ : Site)) 8 fun k hk => by
    rw [List.length_map]
    exact Nat.le_trans (rowSites_len _) (h _ (List.mem_of_getElem? (mem_zip hk)))
  rw [List.length_zipIdx] at this
  exact this
theorem sites_le' {p : Prog} (h : ∀ f ∈ p, FnTold f) : (sites p).length ≤ p.length * 48 := by
  rw [sites_flat]
  have := flat_le p.zipIdx (fun (q : Fn × Nat) => q.1.blocks.zipIdx.flatMap fun (k : PBlock × Nat) => (rowSites k.1.rows).map fun r => (⟨q.2, k.2, r⟩ : Site)) 48 fun q hq => by
    have ht := h _ (List.mem_of_getElem? (mem_zip hq))
    have h1 := blkSites_le (f := q.2) (bs := q.1.blocks) fun b hb => (ht.blocks b hb).many
    unfold blkSites at h1
    have h2 := ht.many
    omega
  rw [List.length_zipIdx] at this
  exact this
abbrev R_all_calls (A : Adr) : List Dv → Dv → Prop := fun ds d => ∃ s, ds = [encSt A s] ∧ Small s ∧ d = .lst ((sites s.prog).map encSite)
theorem ok_all_calls (T : Top K mg A) : DefOk P w K mg base 2 A.f_all_calls "all_calls" ["program"] (spR K (R_all_calls A)) := by
  refine dv_all_calls T (ok_calls_among T) (spR_len (fun ds d ⟨l, hd, _⟩ => by rw [hd]; rfl)) (fun vs H Q E ⟨M, ds, d, hM, rs, ⟨s, hd, sm, he⟩, q⟩ => ?_)
  subst hd he
  have S : At K H M H (start N_all_calls vs) [.dat (encSt A s), .any, .any, .any, .any, .any] := At.start hM rs
  refine sf_new S es_nil (leb rfl) (ltb rfl) fun p σ1 H1 hp1 hpM e1 S1 => ?_
  refine sf_forR S1 (n := (s.prog.length : Nat)) (es_cons (ef_lenM (ef_functions T (ef_var S1 rfl))) es_nil) (by have := sm.fns; omega) (by omega) (fun i ρ => ∃ x y z v, ρ = [.dat (encSt A s), .hot p ((sites (s.prog.take i)).map encSite), x, y, z, v]) ⟨⟨_, _, _, _, rfl⟩, fun B' i d σ2 H2 ρ2 eB hd ⟨x, y, z, v, hρ⟩ S2 => ?_, fun σ2 H2 ρ2 ⟨x, y, z, v, hρ⟩ S2 => ?_⟩
  · subst hρ
    obtain ⟨hi, rfl⟩ := upto_of hd
    have hi : i < s.prog.length := by simpa using hi
    have hf := fnAt_get hi
    have ft := sm.fn _ (fnAt_mem hi)
    refine sf_asg S2 (ef_blocks T (ef_atF (ef_functions T (ef_var S2 (i := 0) rfl)) (ef_var S2 (i := 2) rfl) hf)) fun σ3 H3 e3 S3 => ?_
    refine sf_forR S3 (n := ((fnAt s.prog i).blocks.length : Nat)) (es_cons (ef_lenM (ef_var S3 rfl)) es_nil) (by have := ft.many; omega) (by omega) (fun j ρ => ∃ z v, ρ = [.dat (encSt A s), .hot p ((sites (s.prog.take i) ++ blkSites i ((fnAt s.prog i).blocks.take j)).map encSite), .dat (nat i), .dat (.lst ((fnAt s.prog i).blocks.map (encBlock A))), z, v]) ⟨⟨z, v, ?_⟩, fun B4 j d σ4 H4 ρ4 eB4 hd4 ⟨z4, v4, hρ4⟩ S4 => ?_, fun σ4 H4 ρ4 ⟨z4, v4, hρ4⟩ S4 => ?_⟩
    · show _ = _
      rw [show (fnAt s.prog i).blocks.take 0 = [] from rfl, show blkSites i [] = [] from rfl, List.append_nil]
      rfl
    · subst hρ4
      obtain ⟨hj, rfl⟩ := upto_of hd4
      have hj : j < (fnAt s.prog i).blocks.length := by simpa using hj
      have hb := blockAt_get hj
      have bt := ft.blocks _ (blockAt_mem hj)
      have hlen := sites_le' (p := s.prog.take i) fun f hf => sm.fn f (List.mem_of_mem_take hf)
      have hl2 := blkSites_le (f := i) (bs := (fnAt s.prog i).blocks.take j) fun b hb => (ft.blocks b (List.mem_of_mem_take hb)).many
      have h5 := sm.fns
      have h6 := ft.many
      refine sf_ext S4 (j := 1) rfl (es := ((rowSites (blockAt (fnAt s.prog i) j).rows).map fun r => (⟨i, j, r⟩ : Site)).map encSite) ?_ ?_ fun H5 S5 => ?_
      · rw [List.map_map]
        refine (ef_lcL (enc := nat) (fun _ => true) (fun r => encSite ⟨i, j, r⟩) S4 (ef_callR S4.heat (es_cons (ef_rows T (ef_atB (ef_var S4 (i := 3) rfl) (ef_var S4 (i := 4) rfl) hb)) es_nil) ⟨(blockAt (fnAt s.prog i) j).rows, rfl, Nat.le_trans bt.many (by decide), rfl⟩) ?_ (fun r M' H' σ' _ S' => eb_yes) fun r M' H' σ' _ S' _ => ?_).cast ?_
        · exact Nat.le_trans (rowSites_len _) (Nat.le_trans bt.many (by decide))
        · exact ef_tup S'.heat (es_cons (ef_var S' rfl) (es_cons (ef_var S' rfl) (es_cons (ef_var S' rfl) es_nil))) (leb rfl)
        · rw [filter_all]
          rfl
      · rw [List.length_map, List.length_append, List.length_map, List.length_map, List.length_take] at *
        have := rowSites_len (blockAt (fnAt s.prog i) j).rows
        have := bt.many
        omega
      · rw [← List.map_append, List.append_assoc, ← blkSites_snoc hb] at S5
        exact ⟨_, ⟨_, _, rfl⟩, S5⟩
    · subst hρ4
      rw [upto_len, Int.toNat_natCast, List.take_length, ← sites_snoc hf] at S4
      exact ⟨_, ⟨_, _, _, _, rfl⟩, S4⟩
  · subst hρ
    rw [upto_len, Int.toNat_natCast, List.take_length] at S2
    have S3 := S2.freeze hpM (i := 1) rfl
    exact sf_ret S3 (ef_var S3 rfl) fun v H' e r => q v H' e r
abbrev R_row_at (A : Adr) : List Dv → Dv → Prop := fun ds d => ∃ s x r, ds = [encSt A s, encSite x] ∧ x.f < s.prog.length ∧ (blockAt (fnAt s.prog x.f) x.b).rows[x.r]? = some r ∧ d = encRow r
theorem ok_row_at (T : Top K mg A) : DefOk P w K mg base 1 A.f_row_at "row_at" ["program", "place"] (spR K (R_row_at A)) := by
  refine dv_row_at T (spR_len (fun ds d ⟨s, x, r, hd, _⟩ => by rw [hd]; rfl)) (fun vs H Q E ⟨M, ds, d, hM, rs, ⟨s, x, r, hd, hf, hr, he⟩, q⟩ => ?_)
  subst hd he
  have S : At K H M H (start N_row_at vs) [.dat (encSt A s), .dat (encSite x)] := At.start hM rs
  have hx : EvF K (tVar 1) (start N_row_at vs) M H (.tup [nat x.f, nat x.b, nat x.r]) := ef_var S rfl
  exact sf_ret S (ef_atR (ef_rows T (ef_atB (ef_blocks T (ef_atF (ef_functions T (ef_var S (i := 0) rfl)) (ef_t (i := 0) hx rfl) (fnAt_get hf))) (ef_t (i := 1) hx rfl) (blockAt_get (block_in hr).1))) (ef_t (i := 2) hx rfl) hr) fun v H' e r => q v H' e r
abbrev R_calls_standing (A : Adr) : List Dv → Dv → Prop := fun ds d => ∃ s, ds = [encSt A s] ∧ Small s ∧ d = nat (manyCalls s)
theorem ok_calls_standing (T : Top K mg A) : DefOk P w K mg base 3 A.f_calls_standing "calls_standing" ["program"] (spR K (R_calls_standing A)) := by
  refine dv_calls_standing T (ok_all_calls T) (ok_calls_among T) (spR_len (fun ds d ⟨s, hd, _⟩ => by rw [hd]; rfl)) (fun vs H Q E ⟨M, ds, d, hM, rs, ⟨s, hd, hs, he⟩, q⟩ => ?_)
  subst hd he
  have S : At K H M H (start N_calls_standing vs) [.dat (encSt A s), .any] := At.start hM rs
  refine sf_asg S (ef_lenM (ef_callR S.heat (es_cons (ef_var S rfl) es_nil) ⟨s, rfl, hs, rfl⟩)) fun σ1 H1 e1 S1 => ?_
  have hu : EvF K (tFld K (tVar 0) "unended") σ1 M H1 (encOpen A s.opened) := ef_unended T (ef_var S1 rfl)
  have hm := manyCalls_eq s
  cases ho : s.opened with
  | none =>
    rw [ho] at hu hm
    refine sf_if S1 (eb_test (ef_notN hu)) (fun hb H3 e3 S3 => by cases hb) (fun hb H3 e3 S3 => ?_)
    refine sf_ret S3 (ef_var S3 rfl) fun v H5 e5 r5 => q v H5 e5 ?_
    rw [hm]
    exact r5
  | some p =>
    obtain ⟨ts, l⟩ := p
    rw [ho] at hu hm
    refine sf_if S1 (eb_test (ef_notN hu)) (fun hb H3 e3 S3 => ?_) (fun hb H3 e3 S3 => by cases hb)
    refine sf_augN S3 rfl (n := (rowSites l).length) (ef_lenM (ef_callR S3.heat (es_cons (ef_rows T (hu.mono e3)) es_nil) ⟨l, rfl, Nat.le_trans (hs.opened ts l ho).many (by decide), rfl⟩)) fun σ4 H4 e4 S4 => ?_
    refine sf_ret S4 (ef_var S4 rfl) fun v H5 e5 r5 => q v H5 e5 ?_
    rw [hm]
    show Rep K _ v (nat ((sites s.prog).length + (l.filter isCall).length))
    rw [← rowSites_calls]
    exact r5
end
end Pc

namespace Pc
open PySem PySem.Spec PyProof.Rows L2 Evl
open CmBase Cm09
/-! ### values that are no data: hot objects -/
section
variable {K : PySem.W.Frag} {B H H' H1 : Hp} {M M' : List Addr} {σ : L2.St} {ρ : List Sv} {v : V} {d : Dv} {i : Nat} {te ta tb : TE} {D : Ends} {as : TA} {ds : List Dv}
theorem ev_val (S : At K B M H σ ρ) (h : ρ[i]? = some (.val v)) : Ev (tVar i) σ H v := ev_var (S.env.val h)
theorem ev_hot {p : Addr} (S : At K B M H σ ρ) (h : ρ[i]? = some (.hot p ds)) : Ev (tVar i) σ H (.ref p) := ev_var (S.env.hot h).1
theorem EvF.of (h : Ev te σ H v) (r : Rep K (cold M H) v d) : EvF K te σ M H d := fun H1 e Q q => h H1 e Q fun H2 e2 => q v H2 e2 (r.mono (cold_mono (e.trans e2)))
theorem ev_fld {a C dx : Addr} {fs : List (Str × V)} {f : Str} (h : Ev ta σ H (.ref a)) (ho : H a = some (.ins C dx fs)) (hc : Cls K C) (hn : NoAttr K C f) (hl : fs.lookup f = some v) : Ev (tFld K ta f) σ H v := fun H1 e Q q =>
  h H1 e _ fun H2 e2 => ⟨a, C, dx, fs, v, rfl, e2 _ _ (e _ _ ho), hc, hn, hl, q H2 e2⟩
theorem eb_notV (h : Ev te σ H v) : EvB (tTest (tOp rNotN te (tC .non))) σ H (!decide (v = .non)) := fun H1 e Q q => h H1 e _ fun H2 e2 => ⟨rfl, _, rfl, q H2 e2⟩
theorem eb_isV (h : Ev te σ H v) : EvB (tTest (tOp rIsN te (tC .non))) σ H (decide (v = .non)) := fun H1 e Q q => h H1 e _ fun H2 e2 => ⟨rfl, _, rfl, q H2 e2⟩
theorem ef_lenV {p : Addr} {vs : List V} (h : Ev ta σ H (.ref p)) (hp : H p = some (.lst vs)) : EvF K (tCB (rLenS K) (tCons ta tNil)) σ M H (nat vs.length) := EvF.of (ev_len (K := K) h (sq_of hp)) (.int _)
theorem ev_ixV {p : Addr} {vs : List V} {j : Int} (h : Ev ta σ H (.ref p)) (hp : H p = some (.lst vs)) (hb : EvF K tb σ M H (.int j)) (hj : atI vs j = some v) : Ev (tOp (rIxL K) ta tb) σ H v := fun H1 e Q q =>
  h H1 e _ fun H2 e2 => hb.int (e.trans e2) fun H3 e3 => ⟨p, vs, j, v, rfl, rfl, sq_of (e3 _ _ (e2 _ _ (e _ _ hp))), hj, q H3 (e2.trans e3)⟩
theorem sv_asg (S : At K B M H σ ρ) (h : Ev te σ H v) (k : ∀ H', Ex H H' → At K B M H' (σ.set i (some v)) (ρ.set i (.val v)) → D.nx (σ.set i (some v)) H') : tAsg te (gName i) D σ H :=
  h H (Ex.refl H) _ fun H1 e => k H1 e ((S.mono e).set (s := .val v) rfl rfl)
/-- xs.append(e), the list and the item by their values -/
theorem sv_app {p : Addr} {vs : List V} (h : Ev ta σ H (.ref p)) (hp : H p = some (.lst vs)) (hz : vs.length < 16000000) (he : Ev te σ H v) (k : ∀ H', Ex H H' → D.nx σ (upd H' p (.lst (vs ++ [v])))) :
    tDrop (tBM K "list" rAppend ta (tCons te tNil)) D σ H := h H (Ex.refl H) _ fun H1 e1 => ⟨Or.inl ⟨rfl, vs, sq_of (e1 _ _ hp)⟩, he H1 e1 _ fun H2 e2 => ⟨p, vs, v, rfl, rfl, e2 _ _ (e1 _ _ hp), szL hz, k H2 (e1.trans e2)⟩⟩
theorem sv_fld {a C dx : Addr} {fs : List (Str × V)} {f : Str} (hv : Ev te σ H v) (h : Ev ta σ H (.ref a)) (ho : H a = some (.ins C dx fs)) (hc : Cls K C) (hn : NoAttr K C f) (hl : fs.length < 1000) (k : ∀ H', Ex H H' → D.nx σ (upd H' a (.ins C dx (putF f v fs)))) :
    sFld K ta te f D σ H := hv H (Ex.refl H) _ fun H1 e1 => h H1 e1 _ fun H2 e2 => ⟨a, C, dx, fs, rfl, e2 _ _ (e1 _ _ ho), hc, hn, hl, k H2 (e1.trans e2)⟩
theorem sr_ret (h : EvF K te σ M H d) (k : ∀ v H', Ex H H' → Rep K (cold M H') v d → D.rt v H') : tRet te D σ H := h H (Ex.refl H) _ k
theorem sv_appR {p : Addr} {vs : List V} (h : Ev ta σ H (.ref p)) (hp : H p = some (.lst vs)) (he : ∀ H1, Ex H H1 → te σ H1 (fun v H2 => rAppend (.ref p) [v] H2 fun _ H3 => D.nx σ H3)) :
    tDrop (tBM K "list" rAppend ta (tCons te tNil)) D σ H := h H (Ex.refl H) _ fun H1 e1 => ⟨Or.inl ⟨rfl, vs, sq_of (e1 _ _ hp)⟩, he H1 e1⟩
def Zero : Hp := fun _ => none
theorem At.zero (hM : Hot M H) (E : REnv K M H σ ρ) (h : hots ρ = []) : At K Zero M H σ ρ := ⟨fun _ _ z => (by cases z), hM, E, by rw [h]; exact List.nodup_nil, fun p hp => by rw [h] at hp; cases hp⟩
end
/-! ### the program that is told, as it lies in the heap -/
structure Loc where
  a : Addr
  dx : Addr
  fl : Addr
  bl : Option Addr
  ob : Option (Addr × Addr)
def Loc.W (L : Loc) : List Addr := L.a :: L.fl :: (L.bl.toList ++ (match L.ob with | none => [] | some p => [p.1, p.2]))
def vnats (l : List Nat) : List V := l.map fun n => V.int (n : Nat)
section
variable (K : PySem.W.Frag) (A : Adr) (Hc H : Hp)
def FnsAt (bl : Option Addr) (fvs : List V) (prog : List Fn) : Prop := match bl with
  | none => prog = [] ∧ fvs = []
  | some bl => ∃ init f ivs la dxl bvs, prog = init ++ [f] ∧ fvs = ivs ++ [V.ref la] ∧ Reps K Hc ivs (init.map (encFn A)) ∧ Hc la = some (.ins A.C_Function dxl [("handed", .int (f.args : Nat)), ("blocks", .ref bl)]) ∧ H bl = some (.lst bvs) ∧ Reps K Hc bvs (f.blocks.map (encBlock A))
def OpnAt (ob : Option (Addr × Addr)) (u : V) (opened : Option (List Nat × List PRow)) : Prop := match ob with
  | none => opened = none ∧ u = .non
  | some (ob, rl) => ∃ ts rows dxo tk rvs, opened = some (ts, rows) ∧ u = .ref ob ∧ H ob = some (.ins A.C_Block dxo [("taken", .ref tk), ("rows", .ref rl), ("ending", .non)]) ∧ Rep K Hc (.ref tk) (.tup (nats ts)) ∧ H rl = some (.lst rvs) ∧ Reps K Hc rvs (rows.map encRow)
end
structure PAt (K : PySem.W.Frag) (A : Adr) (L : Loc) (M0 : List Addr) (H : Hp) (s : Cm09.St) : Prop where
  nd : L.W.Nodup
  dis : ∀ x ∈ L.W, x ∉ M0
  heat : Hot (L.W ++ M0) H
  fns : ∃ fvs, H L.fl = some (.lst fvs) ∧ FnsAt K A (cold (L.W ++ M0) H) H L.bl fvs s.prog
  opn : ∃ u, H L.a = some (.ins A.C_Program L.dx [("functions", .ref L.fl), ("unended", u)]) ∧ OpnAt K A (cold (L.W ++ M0) H) H L.ob u s.opened
/-- all but the own addresses stands; new own addresses are new -/
structure Keeps (W : List Addr) (H H' : Hp) (W' : List Addr) : Prop where
  rest : ∀ x o, x ∉ W → H x = some o → H' x = some o
  own : ∀ x ∈ W', x ∈ W ∨ H x = none
section
variable {K : PySem.W.Frag} {A : Adr} {Hc Hc' H H' H1 : Hp} {L L' : Loc} {M0 : List Addr} {s : Cm09.St} {W W' : List Addr}
theorem Keeps.after (e : Ex H H1) (k : Keeps W H1 H' W') : Keeps W H H' W' := ⟨fun x o hx h => k.rest x o hx (e _ _ h), fun x hx => (k.own x hx).elim .inl fun z => .inr (fresh_back e z)⟩
theorem Keeps.then (k : Keeps W H H1 W') (e : Ex H1 H') : Keeps W H H' W' := ⟨fun x o hx h => e _ _ (k.rest x o hx h), k.own⟩
theorem Keeps.same (e : Ex H H') : Keeps W H H' W := ⟨fun x o _ h => e _ _ h, fun x hx => .inl hx⟩
theorem Keeps.cold (k : Keeps W H H' W') (M0 : List Addr) : Ex (cold (W ++ M0) H) (Pc.cold (W' ++ M0) H') := fun x o h => by
  obtain ⟨h1, h2⟩ := cold_some.mp h
  have hw : x ∉ W := fun z => h1 (List.mem_append_left _ z)
  have hm : x ∉ M0 := fun z => h1 (List.mem_append_right _ z)
  refine cold_of (fun z => ?_) (k.rest x o hw h2)
  rcases List.mem_append.1 z with z | z
  · rcases k.own x z with z | z
    · exact hw z
    · rw [h2] at z; cases z
  · exact hm z
theorem FnsAt.move {bl : Option Addr} {fvs : List V} {prog : List Fn} (e : Ex Hc Hc') (h : ∀ b vs, bl = some b → H b = some (.lst vs) → H' b = some (.lst vs)) (F : FnsAt K A Hc H bl fvs prog) : FnsAt K A Hc' H' bl fvs prog := by
  cases bl with
  | none => exact F
  | some b =>
    obtain ⟨init, f, ivs, la, dxl, bvs, h1, h2, h3, h4, h5, h6⟩ := F
    exact ⟨init, f, ivs, la, dxl, bvs, h1, h2, h3.mono e, e _ _ h4, h b bvs rfl h5, h6.mono e⟩
theorem OpnAt.move {ob : Option (Addr × Addr)} {u : V} {o : Option (List Nat × List PRow)} (e : Ex Hc Hc') (h : ∀ b r, ob = some (b, r) → (∀ x, H b = some x → H' b = some x) ∧ (∀ x, H r = some x → H' r = some x)) (F : OpnAt K A Hc H ob u o) : OpnAt K A Hc' H' ob u o := by
  cases ob with
  | none => exact F
  | some p =>
    obtain ⟨b, r⟩ := p
    obtain ⟨ts, rows, dxo, tk, rvs, h1, h2, h3, h4, h5, h6⟩ := F
    exact ⟨ts, rows, dxo, tk, rvs, h1, h2, (h b r rfl).1 _ h3, h4.mono e, (h b r rfl).2 _ h5, h6.mono e⟩
theorem PAt.mono (e : Ex H H') (p : PAt K A L M0 H s) : PAt K A L M0 H' s := by
  obtain ⟨fvs, h1, F⟩ := p.fns
  obtain ⟨u, h2, O⟩ := p.opn
  exact ⟨p.nd, p.dis, p.heat.mono e, ⟨fvs, e _ _ h1, F.move (cold_mono e) fun b vs _ h => e _ _ h⟩, ⟨u, e _ _ h2, O.move (cold_mono e) fun b r _ => ⟨fun x h => e _ _ h, fun x h => e _ _ h⟩⟩⟩
theorem nats_reps (l : List Nat) : Reps K Hc (vnats l) (nats l) := by
  induction l with
  | nil => exact .nil
  | cons x r ih => exact .cons (.int _) ih
/-- the program as one datum -/
theorem PAt.rep (p : PAt K A L M0 H s) : Rep K (cold M0 H) (.ref L.a) (encSt A s) := by
  obtain ⟨fvs, h1, F⟩ := p.fns
  obtain ⟨u, h2, O⟩ := p.opn
  have cs : Ex (cold (L.W ++ M0) H) (cold M0 H) := cold_sub fun x hx => List.mem_append_right _ hx
  have own : ∀ x o, x ∈ L.W → H x = some o → cold M0 H x = some o := fun x o hx h => cold_of (p.dis x hx) h
  have hF : Reps K (cold M0 H) fvs (s.prog.map (encFn A)) := by
    cases hb : L.bl with
    | none =>
      rw [hb] at F
      obtain ⟨e1, e2⟩ := F
      rw [e1, e2]
      exact .nil
    | some b =>
      rw [hb] at F
      obtain ⟨init, f, ivs, la, dxl, bvs, e1, e2, h3, h4, h5, h6⟩ := F
      rw [e1, e2, List.map_append]
      refine (h3.mono cs).append (.one (.obj (cs _ _ h4) (.cons (.int _) (.cons (.lst (own b _ ?_ h5) (h6.mono cs)) .nil))))
      unfold Loc.W
      rw [hb]
      simp
  have hO : Rep K (cold M0 H) u (encOpen A s.opened) := by
    cases hb : L.ob with
    | none =>
      rw [hb] at O
      obtain ⟨e1, e2⟩ := O
      rw [e1, e2]
      exact .non
    | some q =>
      obtain ⟨b, r⟩ := q
      rw [hb] at O
      obtain ⟨ts, rows, dxo, tk, rvs, e1, e2, h3, h4, h5, h6⟩ := O
      rw [e1, e2]
      have hbW : b ∈ L.W := by unfold Loc.W; rw [hb]; simp
      have hrW : r ∈ L.W := by unfold Loc.W; rw [hb]; simp
      exact .obj (own b _ hbW h3) (.cons (h4.mono cs) (.cons (.lst (own r _ hrW h5) (h6.mono cs)) (.cons .non .nil)))
  exact .obj (own _ _ (by unfold Loc.W; simp) h2) (.cons (.lst (own _ _ (by unfold Loc.W; simp) h1) hF) (.cons hO .nil))
end
end Pc

namespace Pc
open PySem PySem.Spec PyProof.Rows L2 Evl
open CmBase Cm09
theorem put_here {r : List (Str × V)} {old new : V} {f : Str} : putF f new ((f, old) :: r) = (f, new) :: r := by
  unfold putF
  exact if_pos rfl
theorem put_past {f g : Str} {v x : V} {r : List (Str × V)} (h : (g == f) = false) : putF f v ((g, x) :: r) = (g, x) :: putF f v r := if_neg (fun e => by rw [e, beq_self_eq_true] at h; cases h)
section
variable {P : Program} {w : World} {K : PySem.W.Frag} {mg : Str → Option Value} {base : Heap} {A : Adr}
/-! ### the three classes -/
def sp_Block (A : Adr) : Sp := fun vs H Q _ => ∃ (p dx : Addr) (t : V), vs = [.ref p, t] ∧ H p = some (.ins A.C_Block dx []) ∧
  ∀ H' rl, H rl = none → (∀ b o, b ≠ p → H b = some o → H' b = some o) → H' p = some (.ins A.C_Block dx [("taken", t), ("rows", .ref rl), ("ending", .non)]) → H' rl = some (.lst []) → Q .non H'
theorem ok_Block (T : Top K mg A) : MakeOk P w K mg base 1 A.C_Block A.f_Block "Block" ["self", "taken"] (sp_Block A) := by
  refine dv_Block T (fun vs H Q E ⟨p, dx, t, hv, _⟩ => by rw [hv]; rfl) (fun vs H Q E ⟨p, dx, t, hv, hp, q⟩ => ?_)
  subst hv
  refine ⟨_, rfl, _, rfl, p, _, dx, [], rfl, hp, T.d_Block.cl, T.n_Block_taken, (by show 0 < 1000; decide), ?_⟩
  refine ⟨Nat.zero_le _, fun rl hr => ?_⟩
  have hrp : p ≠ rl := ne_of_none upd_same hr
  refine ⟨_, rfl, p, _, dx, _, rfl, (upd_ne hrp).trans upd_same, T.d_Block.cl, T.n_Block_rows, (by show 1 < 1000; decide), ?_⟩
  refine ⟨_, rfl, p, _, dx, _, rfl, upd_same, T.d_Block.cl, T.n_Block_ending, (by show 2 < 1000; decide), ?_⟩
  refine q _ rl (by rw [upd_ne (Ne.symm hrp)] at hr; exact hr) (fun b o hb h => ?_) ?_ ?_
  · have hbr : b ≠ rl := by
      intro z
      subst z
      rw [upd_ne hb] at hr
      rw [hr] at h
      cases h
    rw [upd_ne hb, upd_ne hb, upd_ne hbr, upd_ne hb]
    exact h
  · rw [upd_same]
    have e1 : putF "taken" t [] = ([("taken", t)] : List (Str × V)) := rfl
    have e2 : putF "rows" (.ref rl) ([("taken", t)] : List (Str × V)) = ([("taken", t), ("rows", .ref rl)] : List (Str × V)) := put_past (by decide +kernel)
    have e3 : putF "ending" V.non ([("taken", t), ("rows", .ref rl)] : List (Str × V)) = ([("taken", t), ("rows", .ref rl), ("ending", .non)] : List (Str × V)) := (put_past (by decide +kernel)).trans (congrArg _ (put_past (by decide +kernel)))
    rw [e1, e2, e3]
  · rw [upd_ne (Ne.symm hrp), upd_ne (Ne.symm hrp), upd_same]
def sp_Function (A : Adr) : Sp := fun vs H Q _ => ∃ (p dx : Addr) (t : V), vs = [.ref p, t] ∧ H p = some (.ins A.C_Function dx []) ∧
  ∀ H' bl, H bl = none → (∀ b o, b ≠ p → H b = some o → H' b = some o) → H' p = some (.ins A.C_Function dx [("handed", t), ("blocks", .ref bl)]) → H' bl = some (.lst []) → Q .non H'
theorem ok_Function (T : Top K mg A) : MakeOk P w K mg base 1 A.C_Function A.f_Function "Function" ["self", "handed"] (sp_Function A) := by
  refine dv_Function T (fun vs H Q E ⟨p, dx, t, hv, _⟩ => by rw [hv]; rfl) (fun vs H Q E ⟨p, dx, t, hv, hp, q⟩ => ?_)
  subst hv
  refine ⟨_, rfl, _, rfl, p, _, dx, [], rfl, hp, T.d_Function.cl, T.n_Function_handed, (by show 0 < 1000; decide), ?_⟩
  refine ⟨Nat.zero_le _, fun rl hr => ?_⟩
  have hrp : p ≠ rl := ne_of_none upd_same hr
  refine ⟨_, rfl, p, _, dx, _, rfl, (upd_ne hrp).trans upd_same, T.d_Function.cl, T.n_Function_blocks, (by show 1 < 1000; decide), ?_⟩
  refine q _ rl (by rw [upd_ne (Ne.symm hrp)] at hr; exact hr) (fun b o hb h => ?_) ?_ ?_
  · have hbr : b ≠ rl := by
      intro z
      subst z
      rw [upd_ne hb] at hr
      rw [hr] at h
      cases h
    rw [upd_ne hb, upd_ne hbr, upd_ne hb]
    exact h
  · rw [upd_same]
    have e1 : putF "handed" t [] = ([("handed", t)] : List (Str × V)) := rfl
    have e2 : putF "blocks" (.ref rl) ([("handed", t)] : List (Str × V)) = ([("handed", t), ("blocks", .ref rl)] : List (Str × V)) := put_past (by decide +kernel)
    rw [e1, e2]
  · rw [upd_ne (Ne.symm hrp), upd_same]
/-- a making, and what stands behind it -/
theorem madeObj {H H' : Hp} {x dx C : Addr} (nx : H x = none) (nd : H dx = none) (k : ∀ b o, b ≠ x → upd (upd H dx (.own x)) x (.ins C dx []) b = some o → H' b = some o) : Ex H H' := fun b o h =>
  k b o (ne_of_none h nx) (by rw [upd_ne (ne_of_none h nx), upd_ne (ne_of_none h nd)]; exact h)
theorem fresh2 {H : Hp} {x dx C rl : Addr} (h : upd (upd H dx (.own x)) x (.ins C dx []) rl = none) : H rl = none ∧ rl ≠ x := by
  have hx : rl ≠ x := by
    intro z
    rw [z, upd_same] at h
    cases h
  have hd : rl ≠ dx := by
    intro z
    rw [upd_ne hx, z, upd_same] at h
    cases h
  rw [upd_ne hx, upd_ne hd] at h
  exact ⟨h, hx⟩
theorem mk_Block {σ : L2.St} {H : Hp} {te : TE} {t : V} {Q : VK} (h : Ev te σ H t) (k : ∀ x rl H', Ex H H' → H x = none → H rl = none → rl ≠ x → (∃ dx, H' x = some (.ins A.C_Block dx [("taken", t), ("rows", .ref rl), ("ending", .non)])) → H' rl = some (.lst []) → Q (.ref x) H') :
    tMake A.C_Block (sp_Block A) [] E0 (tCons te tNil) σ H Q := h H (Ex.refl H) _ fun H1 e x dx nx nd ne => ⟨x, dx, t, rfl, upd_same, fun H' rl hr kp hx hl => ⟨rfl, by
  obtain ⟨h1, h2⟩ := fresh2 hr
  exact k x rl H' (e.trans (madeObj nx nd kp)) (fresh_back e nx) (fresh_back e h1) h2 ⟨dx, hx⟩ hl⟩⟩
theorem mk_Function {σ : L2.St} {H : Hp} {te : TE} {t : V} {Q : VK} (h : Ev te σ H t) (k : ∀ x bl H', Ex H H' → H x = none → H bl = none → bl ≠ x → (∃ dx, H' x = some (.ins A.C_Function dx [("handed", t), ("blocks", .ref bl)])) → H' bl = some (.lst []) → Q (.ref x) H') :
    tMake A.C_Function (sp_Function A) [] E0 (tCons te tNil) σ H Q := h H (Ex.refl H) _ fun H1 e x dx nx nd ne => ⟨x, dx, t, rfl, upd_same, fun H' rl hr kp hx hl => ⟨rfl, by
  obtain ⟨h1, h2⟩ := fresh2 hr
  exact k x rl H' (e.trans (madeObj nx nd kp)) (fresh_back e nx) (fresh_back e h1) h2 ⟨dx, hx⟩ hl⟩⟩
/-! ### the promise of the calls that tell a program -/
def spB (K : PySem.W.Frag) (A : Adr) (n : Nat) (R : List Dv → Cm09.Call → Prop) : Sp := fun vs H Q _ => ∃ L M0 s ws ds c, vs = V.ref L.a :: ws ∧ ds.length = n ∧ PAt K A L M0 H s ∧ Small s ∧ Reps K (cold (L.W ++ M0) H) ws ds ∧ R ds c ∧
  ∀ L' H', L'.a = L.a → Keeps L.W H H' L'.W → PAt K A L' M0 H' (Cm09.step s c).1 → Q (.int ((Cm09.step s c).2.headD 0)) H'
theorem spB_len {n : Nat} {R : List Dv → Cm09.Call → Prop} (vs : List V) (H : Hp) (Q : VK) (E : XK) (h : spB K A n R vs H Q E) : vs.length = n + 1 := by
  obtain ⟨L, M0, s, ws, ds, c, hv, hn, _, _, rs, _⟩ := h
  rw [hv, List.length_cons, rs.length, hn]
/-- nothing changes, a refusal -/
theorem back_same {L : Loc} {M0 : List Addr} {s s' : Cm09.St} {H H' : Hp} {Q : VK} {x : List Int} {n : Int} (p : PAt K A L M0 H s) (e : Ex H H') (hs : s' = s) (hx : x.headD 0 = n)
    (q : ∀ L' H', L'.a = L.a → Keeps L.W H H' L'.W → PAt K A L' M0 H' s' → Q (.int (x.headD 0)) H') : Q (.int n) H' := by
  rw [← hx]
  exact q L H' rfl (.same e) (by rw [hs]; exact p.mono e)
section
variable {L : Loc} {M0 : List Addr} {s : Cm09.St} {H : Hp}
theorem PAt.opened (p : PAt K A L M0 H s) : ∃ u, H L.a = some (.ins A.C_Program L.dx [("functions", .ref L.fl), ("unended", u)]) ∧ decide (u = .non) = s.opened.isNone := by
  obtain ⟨u, h2, O⟩ := p.opn
  refine ⟨u, h2, ?_⟩
  cases hb : L.ob with
  | none =>
    rw [hb] at O
    rw [O.1, O.2]
    rfl
  | some q =>
    obtain ⟨b, r⟩ := q
    rw [hb] at O
    obtain ⟨ts, rows, dxo, tk, rvs, e1, e2, _⟩ := O
    rw [e1, e2]
    rfl
theorem PAt.count (p : PAt K A L M0 H s) : ∃ fvs, H L.fl = some (.lst fvs) ∧ fvs.length = s.prog.length := by
  obtain ⟨fvs, h1, F⟩ := p.fns
  refine ⟨fvs, h1, ?_⟩
  cases hb : L.bl with
  | none =>
    rw [hb] at F
    rw [F.1, F.2]
    rfl
  | some b =>
    rw [hb] at F
    obtain ⟨init, f, ivs, la, dxl, bvs, e1, e2, h3, _⟩ := F
    have z := h3.length
    rw [List.length_map] at z
    rw [e1, e2, List.length_append, List.length_append, z]
    rfl
end
/-- the functions, all cold: only the program's own object and its list are hot -/
theorem PAt.cool {L : Loc} {M0 : List Addr} {s : Cm09.St} {H : Hp} (p : PAt K A L M0 H s) : ∃ fvs, H L.fl = some (.lst fvs) ∧ Reps K (cold (L.a :: L.fl :: M0) H) fvs (s.prog.map (encFn A)) := by
  obtain ⟨fvs, h1, F⟩ := p.fns
  refine ⟨fvs, h1, ?_⟩
  have cs : Ex (cold (L.W ++ M0) H) (cold (L.a :: L.fl :: M0) H) := cold_sub fun x hx => by
    unfold Loc.W
    simp only [List.mem_cons, List.mem_append] at hx ⊢
    rcases hx with h | h | h
    · exact .inl (.inl h)
    · exact .inl (.inr (.inl h))
    · exact .inr h
  cases hb : L.bl with
  | none =>
    rw [hb] at F
    obtain ⟨e1, e2⟩ := F
    rw [e1, e2]
    exact .nil
  | some b =>
    rw [hb] at F
    obtain ⟨init, f, ivs, la, dxl, bvs, e1, e2, h3, h4, h5, h6⟩ := F
    have nd := p.nd
    unfold Loc.W at nd
    rw [hb] at nd
    have hbW : b ∈ L.W := by unfold Loc.W; rw [hb]; simp
    have n1 : b ≠ L.a := fun z => (List.nodup_cons.1 nd).1 (by rw [← z]; simp)
    have n2 : b ≠ L.fl := fun z => (List.nodup_cons.1 (List.nodup_cons.1 nd).2).1 (by rw [← z]; simp)
    have n3 : b ∉ M0 := p.dis b hbW
    rw [e1, e2, List.map_append]
    refine (h3.mono cs).append (.one (.obj (cs _ _ h4) (.cons (.int _) (.cons (.lst (cold_of ?_ h5) (h6.mono cs)) .nil))))
    simp only [List.mem_cons, not_or]
    exact ⟨n1, n2, n3⟩
theorem PAt.closed {L : Loc} {M0 : List Addr} {s : Cm09.St} {H : Hp} (p : PAt K A L M0 H s) (h : s.opened = none) : L.ob = none := by
  obtain ⟨u, h2, O⟩ := p.opn
  cases hb : L.ob with
  | none => rfl
  | some q =>
    obtain ⟨b, r⟩ := q
    rw [hb] at O
    obtain ⟨ts, rows, dxo, tk, rvs, e1, _⟩ := O
    rw [h] at e1
    cases e1
abbrev lkF {x y : V} : List.lookup ("functions" : Str) [("functions", x), ("unended", y)] = some x := lk_here
theorem lkU {x y : V} : List.lookup ("unended" : Str) [("functions", x), ("unended", y)] = some y := (lk_past (by decide +kernel)).trans lk_here
/-! add_function -/
theorem ok_add_function (T : Top K mg A) : DefOk P w K mg base 3 A.f_add_function "add_function" ["program", "k"] (spB K A 1 fun ds c => ∃ k : Nat, ds = [nat k] ∧ c = .fn k) := by
  refine dv_add_function T (ok_Function T) spB_len (fun vs H Q E ⟨L, M0, s, ws, ds, c, hv, hn, p, sm, rs, ⟨k, hd, hc⟩, q⟩ => ?_)
  subst hv hd hc
  cases rs with
  | cons r rs =>
  cases rs
  have S : At K Zero (L.W ++ M0) H (start N_add_function [V.ref L.a, _]) [.val (.ref L.a), .dat (nat k)] := At.zero p.heat (.cons rfl (.cons ⟨_, rfl, r⟩ .nil)) rfl
  obtain ⟨u, hu, hun⟩ := p.opened
  obtain ⟨fvs, hf, hfl⟩ := p.count
  refine sf_if S (eb_notV (ev_fld (ev_val S rfl) hu T.d_Program.cl T.n_Program_unended lkU)) (fun hb H1 e1 S1 => ?_) (fun hb H1 e1 S1 => ?_)
  · -- a block is open
    rw [hun] at hb
    have ho : s.opened.isSome = true := by
      cases z : s.opened with
      | none => rw [z] at hb; cases hb
      | some _ => rfl
    have st : Cm09.step s (.fn k) = (s, [-3]) := if_pos ho
    rw [st] at q
    exact ⟨3, rfl, back_same p e1 rfl rfl q⟩
  · rw [hun] at hb
    have ho : s.opened = none := by
      cases z : s.opened with
      | none => rfl
      | some _ => rw [z] at hb; cases hb
    have hon : ¬ s.opened.isSome = true := by rw [ho]; decide
    refine sf_if S1 (eb_or (eb_test (ef_gt (ef_var S1 rfl) ef_int)) fun _ => eb_test (M := []) (ef_ge (ef_lenV (ev_fld (ev_val S1 rfl) (e1 _ _ hu) T.d_Program.cl T.n_Program_functions lkF) (e1 _ _ hf)) ef_int)) (fun hc H2 e2 S2 => ?_) (fun hc H2 e2 S2 => ?_)
    · have hc' : 4 < k ∨ 5 ≤ s.prog.length := by
        rw [Bool.or_eq_true, decide_eq_true_eq, decide_eq_true_eq, hfl] at hc
        omega
      have st : Cm09.step s (.fn k) = (s, [-1]) := (if_neg hon).trans (if_pos hc')
      rw [st] at q
      exact ⟨1, rfl, back_same p (e1.trans e2) rfl rfl q⟩
    · have hc' : ¬ (4 < k ∨ 5 ≤ s.prog.length) := by
        rw [Bool.or_eq_false_iff, decide_eq_false_iff_not, decide_eq_false_iff_not, hfl] at hc
        omega
      have st : Cm09.step s (.fn k) = (⟨s.prog ++ [⟨k, []⟩], none⟩, Cm09.ints [s.prog.length]) := (if_neg hon).trans (if_neg hc')
      rw [st] at q
      have e12 := e1.trans e2
      refine sv_appR (ev_fld (ev_val S2 rfl) (e12 _ _ hu) T.d_Program.cl T.n_Program_functions lkF) (e12 _ _ hf) fun H3 e3 => ?_
      obtain ⟨kv, hk, rk⟩ := S2.env.dat (i := 1) rfl
      have ek := rk.of_int
      subst ek
      refine mk_Function (ev_var hk) fun x bl H4 e4 nx nbl hbx ⟨dxf, hx⟩ hbl => ?_
      have e14 := (e12.trans e3).trans e4
      have hf4 := e14 _ _ hf
      refine ⟨L.fl, fvs, .ref x, rfl, rfl, hf4, szL (by rw [hfl]; have := sm.fns; omega), ?_⟩
      have hxf : x ≠ L.fl := (ne_of_none (e12.trans e3 _ _ hf) nx).symm
      have hbf : bl ≠ L.fl := (ne_of_none (e12.trans e3 _ _ hf) nbl).symm
      have haf : L.a ≠ L.fl := ne_of hu hf (by intro z; cases z)
      have hab : bl ≠ L.a := (ne_of_none (e12.trans e3 _ _ hu) nbl).symm
      have hax : x ≠ L.a := (ne_of_none (e12.trans e3 _ _ hu) nx).symm
      have p4 := p.mono e14
      have hob := p.closed ho
      -- the functions so far, now all cold
      obtain ⟨fvs', hf', rF⟩ := (p.mono (e12.trans e3)).cool
      obtain rfl : fvs' = fvs := by rw [e12.trans e3 _ _ hf] at hf'; exact (HO.lst.inj (Option.some.inj hf')).symm
      generalize hH5 : upd H4 L.fl (.lst (fvs' ++ [V.ref x])) = H5
      have kp : Keeps L.W H H5 [L.a, L.fl, bl] := by
        refine ⟨fun y o hy h => ?_, fun y hy => ?_⟩
        · have hyf : y ≠ L.fl := fun z => hy (by rw [z]; unfold Loc.W; simp)
          rw [← hH5, upd_ne hyf]
          exact e14 _ _ h
        · simp only [List.mem_cons, List.not_mem_nil, or_false] at hy
          rcases hy with z | z | z
          · exact .inl (by rw [z]; unfold Loc.W; simp)
          · exact .inl (by rw [z]; unfold Loc.W; simp)
          · exact .inr (by rw [z]; exact fresh_back (e12.trans e3) nbl)
      have hu5 : H5 L.a = some (.ins A.C_Program L.dx [("functions", .ref L.fl), ("unended", u)]) := by
        rw [← hH5, upd_ne haf]
        exact e14 _ _ hu
      have hf5 : H5 L.fl = some (.lst (fvs' ++ [V.ref x])) := by rw [← hH5]; exact upd_same
      have hx5 : H5 x = some (.ins A.C_Function dxf [("handed", .int (k : Nat)), ("blocks", .ref bl)]) := by rw [← hH5, upd_ne hxf]; exact hx
      have hb5 : H5 bl = some (.lst []) := by rw [← hH5, upd_ne hbf]; exact hbl
      have hH : Hot ([L.a, L.fl, bl] ++ M0) H5 := by
        refine Hot.mk fun m hm z => ?_
        simp only [List.mem_append, List.mem_cons, List.not_mem_nil, or_false] at hm
        rcases hm with (h | h | h) | h
        · rw [h, hu5] at z; cases z
        · rw [h, hf5] at z; cases z
        · rw [h, hb5] at z; cases z
        · have h0 := p4.heat.all m (List.mem_append_right _ h)
          have hmf : m ≠ L.fl := fun y => p.dis L.fl (by unfold Loc.W; simp) (by rw [← y]; exact h)
          rw [← hH5, upd_ne hmf] at z
          exact h0 z
      have hxM : x ∉ [L.a, L.fl, bl] ++ M0 := by
        intro z
        simp only [List.mem_append, List.mem_cons, List.not_mem_nil, or_false] at z
        rcases z with (h | h | h) | h
        · exact hax h
        · exact hxf h
        · exact hbx h.symm
        · exact p.heat.all x (List.mem_append_right _ h) (fresh_back (e12.trans e3) nx)
      have p5 : PAt K A ⟨L.a, L.dx, L.fl, some bl, none⟩ M0 H5 ⟨s.prog ++ [⟨k, []⟩], none⟩ := by
        refine ⟨?_, fun y hy => ?_, hH, ⟨_, hf5, s.prog, ⟨k, []⟩, fvs', x, dxf, [], rfl, rfl, ?_, cold_of hxM hx5, hb5, .nil⟩, ⟨u, hu5, rfl, ?_⟩⟩
        · show [L.a, L.fl, bl].Nodup
          simp only [List.nodup_cons, List.mem_cons, List.not_mem_nil, or_false, not_or, not_false_eq_true, List.nodup_nil, and_true]
          exact ⟨⟨haf, Ne.symm hab⟩, Ne.symm hbf⟩
        · have hy : y ∈ [L.a, L.fl, bl] := hy
          simp only [List.mem_cons, List.not_mem_nil, or_false] at hy
          rcases hy with h | h | h
          · rw [h]; exact p.dis _ (by unfold Loc.W; simp)
          · rw [h]; exact p.dis _ (by unfold Loc.W; simp)
          · rw [h]; exact fun z => p.heat.all bl (List.mem_append_right _ z) (fresh_back (e12.trans e3) nbl)
        · refine rF.mono fun y o h => ?_
          obtain ⟨h1, h2⟩ := cold_some.mp h
          simp only [List.mem_cons, not_or] at h1
          refine cold_of (fun z => ?_) (by rw [← hH5, upd_ne h1.2.1]; exact e4 _ _ h2)
          have z : y ∈ [L.a, L.fl, bl] ++ M0 := z
          simp only [List.mem_append, List.mem_cons, List.not_mem_nil, or_false] at z
          rcases z with (h | h | h) | h
          · exact h1.1 h
          · exact h1.2.1 h
          · rw [h, nbl] at h2
            cases h2
          · exact h1.2.2 h
        · have hd : decide (u = .non) = true := by rw [hun, ho]; rfl
          exact of_decide_eq_true hd
      have h0 := q ⟨L.a, L.dx, L.fl, some bl, none⟩ H5 rfl kp p5
      refine ⟨_, rfl, _, _, _, _, _, rfl, hu5, T.d_Program.cl, T.n_Program_functions, lkF, _, _, rfl, .inl (sq_of hf5), _, _, rfl, rfl, ?_⟩
      have en : (((fvs' ++ [V.ref x]).length : Nat) : Int) - 1 = ((Cm09.ints [s.prog.length]).headD 0) := by
        rw [List.length_append, hfl]
        show ((s.prog.length + 1 : Nat) : Int) - 1 = (s.prog.length : Int)
        omega
      show Q (.int ((((fvs' ++ [V.ref x]).length : Nat) : Int) - 1)) H5
      rw [en]
      exact h0
end
end Pc

namespace Pc
open PySem PySem.Spec PyProof.Rows L2 Evl
open CmBase Cm09
section
variable {P : Program} {w : World} {K : PySem.W.Frag} {mg : Str → Option Value} {base : Heap} {A : Adr} {L : Loc} {M0 : List Addr} {s : Cm09.St} {H H' : Hp}
/-- the own addresses differ -/
structure Apart (a fl : Addr) (bl : Option Addr) (ob : Option (Addr × Addr)) : Prop where
  af : a ≠ fl
  ab : ∀ b, bl = some b → a ≠ b ∧ fl ≠ b
  ao : ∀ o r, ob = some (o, r) → a ≠ o ∧ a ≠ r ∧ fl ≠ o ∧ fl ≠ r ∧ o ≠ r ∧ ∀ b, bl = some b → b ≠ o ∧ b ≠ r
theorem Loc.apart (h : L.W.Nodup) : Apart L.a L.fl L.bl L.ob := by
  obtain ⟨a, dx, fl, bl, ob⟩ := L
  unfold Loc.W at h
  cases bl with
  | none =>
    cases ob with
    | none =>
      simp at h
      exact ⟨h, fun b z => (by cases z), fun o r z => (by cases z)⟩
    | some q =>
      obtain ⟨o, r⟩ := q
      simp at h
      exact ⟨h.1.1, fun b z => (by cases z), fun o' r' z => by
        cases z
        exact ⟨h.1.2.1, h.1.2.2, h.2.1.1, h.2.1.2, h.2.2, fun b z => by cases z⟩⟩
  | some b =>
    cases ob with
    | none =>
      simp at h
      exact ⟨h.1.1, fun b' z => (by cases z; exact ⟨h.1.2, h.2⟩), fun o r z => by cases z⟩
    | some q =>
      obtain ⟨o, r⟩ := q
      simp at h
      exact ⟨h.1.1, fun b' z => (by cases z; exact ⟨h.1.2.1, h.2.1.1⟩), fun o' r' z => by
        cases z
        exact ⟨h.1.2.2.1, h.1.2.2.2, h.2.1.2.1, h.2.1.2.2, h.2.2.2, fun b' z => by cases z; exact ⟨h.2.2.1.1, h.2.2.1.2⟩⟩⟩
theorem Loc.mem_a : L.a ∈ L.W := by unfold Loc.W; simp
theorem Loc.mem_fl : L.fl ∈ L.W := by unfold Loc.W; simp
theorem Loc.mem_bl {b : Addr} (h : L.bl = some b) : b ∈ L.W := by unfold Loc.W; rw [h]; simp
theorem Loc.mem_ob {o r : Addr} (h : L.ob = some (o, r)) : o ∈ L.W ∧ r ∈ L.W := by unfold Loc.W; rw [h]; simp
/-- a row is put -/
theorem PAt.rowed {o rl : Addr} {ts : List Nat} {rows : List PRow} {rvs : List V} {v : V} {r : PRow} (p : PAt K A L M0 H s) (hob : L.ob = some (o, rl)) (ho : s.opened = some (ts, rows)) (hr : H rl = some (.lst rvs)) (rv : Rep K (cold (L.W ++ M0) H) v (encRow r)) :
    PAt K A L M0 (upd H rl (.lst (rvs ++ [v]))) ⟨s.prog, some (ts, rows ++ [r])⟩ ∧ Keeps L.W H (upd H rl (.lst (rvs ++ [v]))) L.W := by
  have ap := Loc.apart p.nd
  have hrW := (Loc.mem_ob hob).2
  obtain ⟨fvs, h1, F⟩ := p.fns
  obtain ⟨u, h2, O⟩ := p.opn
  have c : cold (L.W ++ M0) (upd H rl (.lst (rvs ++ [v]))) = cold (L.W ++ M0) H := cold_upd (List.mem_append_left _ hrW)
  obtain ⟨d1, d2, d3, d4, d5, d6⟩ := ap.ao o rl hob
  rw [hob] at O
  obtain ⟨ts', rows', dxo, tk, rvs', e1, e2, h3, h4, h5, h6⟩ := O
  obtain ⟨rfl, rfl⟩ : ts' = ts ∧ rows' = rows := by rw [ho] at e1; cases e1; exact ⟨rfl, rfl⟩
  obtain rfl : rvs' = rvs := by rw [hr] at h5; exact (HO.lst.inj (Option.some.inj h5)).symm
  refine ⟨⟨p.nd, p.dis, p.heat.upd, ⟨fvs, by rw [upd_ne d4]; exact h1, ?_⟩, ⟨u, by rw [upd_ne d2]; exact h2, ?_⟩⟩, ⟨fun x y hx h => (by rw [upd_ne (show x ≠ rl from fun z => hx (by rw [z]; exact hrW))]; exact h), fun x hx => .inl hx⟩⟩
  · rw [c]
    exact F.move (Ex.refl _) fun b vs hb h => by rw [upd_ne (d6 b hb).2]; exact h
  · rw [c, hob]
    refine ⟨ts', rows' ++ [r], dxo, tk, rvs' ++ [v], rfl, e2, by rw [upd_ne d5]; exact h3, h4, upd_same, ?_⟩
    rw [List.map_append]
    exact h6.snoc rv
/-- a block is opened -/
theorem PAt.opens {x rl dxo : Addr} {t : V} {ts : List Nat} {H1 : Hp} (p : PAt K A L M0 H s) (ho : s.opened = none) (hb : L.bl ≠ none) (e : Ex H H1) (nx : H x = none) (nr : H rl = none) (hxr : rl ≠ x)
    (hx : H1 x = some (.ins A.C_Block dxo [("taken", t), ("rows", .ref rl), ("ending", .non)])) (hr : H1 rl = some (.lst [])) (rt : Rep K (cold (L.W ++ M0) H) t (.tup (nats ts))) :
    PAt K A { L with ob := some (x, rl) } M0 (upd H1 L.a (.ins A.C_Program L.dx [("functions", .ref L.fl), ("unended", .ref x)])) ⟨s.prog, some (ts, [])⟩ ∧
      Keeps L.W H (upd H1 L.a (.ins A.C_Program L.dx [("functions", .ref L.fl), ("unended", .ref x)])) ({ L with ob := some (x, rl) } : Loc).W := by
  have hcl := p.closed ho
  have ap := Loc.apart p.nd
  obtain ⟨fvs, h1, F⟩ := p.fns
  obtain ⟨u, h2, O⟩ := p.opn
  have hxa : x ≠ L.a := (ne_of_none h2 nx).symm
  have hra : rl ≠ L.a := (ne_of_none h2 nr).symm
  have hxf : x ≠ L.fl := (ne_of_none h1 nx).symm
  have hrf : rl ≠ L.fl := (ne_of_none h1 nr).symm
  obtain ⟨b, hb⟩ : ∃ b, L.bl = some b := by
    cases z : L.bl with
    | none => exact absurd z hb
    | some b => exact ⟨b, rfl⟩
  have hW : L.W = [L.a, L.fl, b] := by unfold Loc.W; rw [hb, hcl]; rfl
  have hW' : ({ L with ob := some (x, rl) } : Loc).W = [L.a, L.fl, b, x, rl] := by unfold Loc.W; rw [hb]; rfl
  obtain ⟨a1, a2⟩ := ap.ab b hb
  have F' := F
  rw [hb] at F'
  obtain ⟨init, f, ivs, la, dxl, bvs, e1, e2, h3, h4, h5, h6⟩ := F'
  have hxb : x ≠ b := (ne_of_none h5 nx).symm
  have hrb : rl ≠ b := (ne_of_none h5 nr).symm
  have kp : Keeps L.W H (upd H1 L.a (.ins A.C_Program L.dx [("functions", .ref L.fl), ("unended", .ref x)])) ({ L with ob := some (x, rl) } : Loc).W := by
    refine ⟨fun y o hy h => ?_, fun y hy => ?_⟩
    · rw [upd_ne (fun z => hy (by rw [z]; exact Loc.mem_a))]
      exact e _ _ h
    · rw [hW'] at hy
      rw [hW]
      simp only [List.mem_cons, List.not_mem_nil, or_false] at hy ⊢
      rcases hy with z | z | z | z | z
      · exact .inl (.inl z)
      · exact .inl (.inr (.inl z))
      · exact .inl (.inr (.inr z))
      · exact .inr (by rw [z]; exact nx)
      · exact .inr (by rw [z]; exact nr)
  refine ⟨⟨?_, fun y hy => ?_, ?_, ⟨fvs, ?_, F.move (kp.cold M0) fun b' vs hb' h => ?_⟩, ⟨.ref x, upd_same, ts, [], dxo, ?_⟩⟩, kp⟩
  · rw [hW']
    simp only [List.nodup_cons, List.mem_cons, List.not_mem_nil, or_false, not_or, not_false_eq_true, List.nodup_nil, and_true]
    exact ⟨⟨ap.af, a1, Ne.symm hxa, Ne.symm hra⟩, ⟨a2, Ne.symm hxf, Ne.symm hrf⟩, ⟨Ne.symm hxb, Ne.symm hrb⟩, Ne.symm hxr⟩
  · rcases kp.own y hy with z | z
    · exact p.dis y z
    · exact fun h => p.heat.all y (List.mem_append_right _ h) z
  · refine Hot.mk fun m hm z => ?_
    by_cases hma : m = L.a
    · rw [hma, upd_same] at z; cases z
    · rw [upd_ne hma] at z
      rcases List.mem_append.1 hm with h | h
      · rw [hW'] at h
        simp only [List.mem_cons, List.not_mem_nil, or_false] at h
        rcases h with y | y | y | y | y
        · exact hma y
        · rw [y, e _ _ h1] at z; cases z
        · rw [y, e _ _ h5] at z; cases z
        · rw [y, hx] at z; cases z
        · rw [y, hr] at z; cases z
      · exact (p.heat.mono e).all m (List.mem_append_right _ h) z
  · rw [upd_ne (Ne.symm ap.af)]
    exact e _ _ h1
  · have z : b' = b := by rw [hb] at hb'; exact (Option.some.inj hb').symm
    rw [z] at h ⊢
    rw [upd_ne (Ne.symm a1)]
    exact e _ _ h
  · obtain ⟨tk, vs, rfl, ht, rt'⟩ := rt.of_tup
    exact ⟨tk, [], rfl, rfl, by rw [upd_ne hxa]; exact hx, rt.mono (kp.cold M0), by rw [upd_ne hra]; exact hr, .nil⟩
/-- a block gets its end -/
theorem PAt.ends {o rl b dxo : Addr} {ts : List Nat} {rows : List PRow} {bvs : List V} {t v : V} {e : CmBase.End} {H3 : Hp} (p : PAt K A L M0 H s) (hob : L.ob = some (o, rl)) (hbl : L.bl = some b) (ho : s.opened = some (ts, rows))
    (hx : H o = some (.ins A.C_Block dxo [("taken", t), ("rows", .ref rl), ("ending", .non)])) (hb : H b = some (.lst bvs)) (rv : Rep K (cold (L.W ++ M0) H) v (encEnd e))
    (k3 : ∀ y u, y ≠ L.a → y ≠ o → y ≠ b → H y = some u → H3 y = some u) (ha3 : H3 L.a = some (.ins A.C_Program L.dx [("functions", .ref L.fl), ("unended", .non)]))
    (ho3 : H3 o = some (.ins A.C_Block dxo [("taken", t), ("rows", .ref rl), ("ending", v)])) (hb3 : H3 b = some (.lst (bvs ++ [.ref o]))) :
    PAt K A { L with ob := none } M0 H3 ⟨s.prog.dropLast ++ [⟨(lastFn s).args, (lastFn s).blocks ++ [⟨ts, rows, e⟩]⟩], none⟩ ∧ Keeps L.W H H3 ({ L with ob := none } : Loc).W ∧ bvs.length = (lastFn s).blocks.length := by
  have ap := Loc.apart p.nd
  obtain ⟨d1, d2, d3, d4, d5, d6⟩ := ap.ao o rl hob
  obtain ⟨a1, a2⟩ := ap.ab b hbl
  obtain ⟨b1, b2⟩ := d6 b hbl
  obtain ⟨fvs, h1, F⟩ := p.fns
  obtain ⟨u, h2, O⟩ := p.opn
  rw [hob] at O
  obtain ⟨ts', rows', dxo', tk, rvs', e1, e2, h3, h4, h5, h6⟩ := O
  obtain ⟨rfl, rfl⟩ : ts' = ts ∧ rows' = rows := by rw [ho] at e1; cases e1; exact ⟨rfl, rfl⟩
  obtain ⟨rfl, rfl⟩ : dxo' = dxo ∧ V.ref tk = t := by rw [hx] at h3; cases h3; exact ⟨rfl, rfl⟩
  rw [hbl] at F
  obtain ⟨init, f, ivs, la, dxl, bvs', g1, g2, g3, g4, g5, g6⟩ := F
  obtain rfl : bvs' = bvs := by rw [hb] at g5; exact (HO.lst.inj (Option.some.inj g5)).symm
  have hW : L.W = [L.a, L.fl, b, o, rl] := by unfold Loc.W; rw [hbl, hob]; rfl
  have hW' : ({ L with ob := none } : Loc).W = [L.a, L.fl, b] := by unfold Loc.W; rw [hbl]; rfl
  have hl : lastFn s = f := by unfold lastFn; rw [g1]; simp
  have kp : Keeps L.W H H3 ({ L with ob := none } : Loc).W := by
    refine ⟨fun y w hy h => k3 y w (fun z => hy (by rw [z]; exact Loc.mem_a)) (fun z => hy (by rw [z]; exact (Loc.mem_ob hob).1)) (fun z => hy (by rw [z]; exact Loc.mem_bl hbl)) h, fun y hy => ?_⟩
    rw [hW'] at hy
    rw [hW]
    simp only [List.mem_cons, List.not_mem_nil, or_false] at hy ⊢
    rcases hy with z | z | z
    · exact .inl (.inl z)
    · exact .inl (.inr (.inl z))
    · exact .inl (.inr (.inr (.inl z)))
  have hrl3 : H3 rl = some (.lst rvs') := k3 rl _ (Ne.symm d2) (Ne.symm d5) (Ne.symm b2) h5
  have cO : cold (({ L with ob := none } : Loc).W ++ M0) H3 o = some (.ins A.C_Block dxo' [("taken", .ref tk), ("rows", .ref rl), ("ending", v)]) := by
    refine cold_of (fun z => ?_) ho3
    rcases List.mem_append.1 z with z | z
    · rw [hW'] at z
      simp only [List.mem_cons, List.not_mem_nil, or_false] at z
      rcases z with z | z | z
      · exact d1 z.symm
      · exact d3 z.symm
      · exact b1 z.symm
    · exact p.dis o (Loc.mem_ob hob).1 z
  have cR : cold (({ L with ob := none } : Loc).W ++ M0) H3 rl = some (.lst rvs') := by
    refine cold_of (fun z => ?_) hrl3
    rcases List.mem_append.1 z with z | z
    · rw [hW'] at z
      simp only [List.mem_cons, List.not_mem_nil, or_false] at z
      rcases z with z | z | z
      · exact d2 z.symm
      · exact d4 z.symm
      · exact b2 z.symm
    · exact p.dis rl (Loc.mem_ob hob).2 z
  have kc := kp.cold M0
  have rB : Rep K (cold (({ L with ob := none } : Loc).W ++ M0) H3) (.ref o) (encBlock A ⟨ts', rows', e⟩) :=
    .obj cO (.cons (h4.mono kc) (.cons (.lst cR (h6.mono kc)) (.cons (rv.mono kc) .nil)))
  refine ⟨⟨?_, fun y hy => ?_, ?_, ⟨fvs, k3 _ _ (Ne.symm ap.af) d3 a2 h1, ?_⟩, ⟨.non, ha3, rfl, rfl⟩⟩, kp, ?_⟩
  · rw [hW']
    simp only [List.nodup_cons, List.mem_cons, List.not_mem_nil, or_false, not_or, not_false_eq_true, List.nodup_nil, and_true]
    exact ⟨⟨ap.af, a1⟩, a2⟩
  · rcases kp.own y hy with z | z
    · exact p.dis y z
    · exact fun h => p.heat.all y (List.mem_append_right _ h) z
  · refine Hot.mk fun m hm z => ?_
    rcases List.mem_append.1 hm with h | h
    · rw [hW'] at h
      simp only [List.mem_cons, List.not_mem_nil, or_false] at h
      rcases h with y | y | y
      · rw [y, ha3] at z; cases z
      · rw [y, k3 _ _ (Ne.symm ap.af) d3 a2 h1] at z; cases z
      · rw [y, hb3] at z; cases z
    · cases q : H m with
      | none => exact p.heat.all m (List.mem_append_right _ h) q
      | some w =>
        have hmW : m ∉ L.W := fun y => p.dis m y h
        rw [kp.rest m w hmW q] at z
        cases z
  · show FnsAt K A (cold (({ L with ob := none } : Loc).W ++ M0) H3) H3 L.bl fvs _
    generalize cold (({ L with ob := none } : Loc).W ++ M0) H3 = Hc at kc rB ⊢
    rw [hbl]
    have gd : s.prog.dropLast = init := by rw [g1]; simp
    refine ⟨init, ⟨f.args, f.blocks ++ [⟨ts', rows', e⟩]⟩, ivs, la, dxl, bvs' ++ [.ref o], ?_, g2, g3.mono kc, kc _ _ g4, hb3, ?_⟩
    · rw [gd, hl]
    · show Reps K _ _ ((f.blocks ++ [_]).map _)
      rw [List.map_append]
      exact (g6.mono kc).snoc rB
  · rw [hl, g6.length, List.length_map]
end
end Pc

namespace Pc
open PySem PySem.Spec PyProof.Rows L2 Evl
open CmBase Cm09
section
variable {K : PySem.W.Frag} {B H : Hp} {M : List Addr} {σ : L2.St} {ρ : List Sv} {v : V} {i : Nat} {as : TA} {ds : List Dv}
theorem call_b {sp : Sp} {E : XK} {Q : VK} (S : At K B M H σ ρ) (h0 : ρ[i]? = some (.val v)) (h : EvFs K as σ M H ds) (k : ∀ vs H', Ex H H' → Reps K (cold M H') vs ds → sp (v :: vs) H' Q E) : tCall sp [] E (tCons (tVar i) as) σ H Q :=
  ⟨v, S.env.val h0, h H (Ex.refl H) _ fun vs H1 e rs => by
    show sp ((v :: vs) ++ []) H1 Q E
    rw [List.append_nil]
    exact k vs H1 e rs⟩

theorem any_names (l : List Nat) : (l.map fun n => ((n : Nat) : Int)).any (fun n => decide (23 < n)) = !(l.all isName) := by
  induction l with
  | nil => rfl
  | cons x r ih =>
    rw [List.map_cons, List.any_cons, List.all_cons, ih]
    have e : decide ((23 : Int) < (x : Int)) = !isName x := by
      unfold isName
      by_cases h : x < 24
      · rw [decide_eq_true h, decide_eq_false (by omega)]; rfl
      · rw [decide_eq_false h, decide_eq_true (by omega)]; rfl
    rw [e]
    cases isName x <;> cases r.all isName <;> rfl
end
section
variable {P : Program} {w : World} {K : PySem.W.Frag} {mg : Str → Option Value} {base : Heap} {A : Adr}
theorem ok_is_wrong_target (T : Top K mg A) : DefOk P w K mg base 1 A.f_is_wrong_target "is_wrong_target" ["block"] (spR K fun ds d => ∃ n : Nat, ds = [nat n] ∧ d = .bl (!isTarget n)) := by
  refine dv_is_wrong_target T (fun vs H Q E ⟨M, ds, d, _, rs, ⟨n, hd, _⟩, _⟩ => by rw [rs.length, hd]; rfl) (fun vs H Q E ⟨M, ds, d, hM, rs, ⟨n, hd, he⟩, q⟩ => ?_)
  subst hd he
  have S : At K H M H (start N_is_wrong_target vs) [.dat (nat n)] := At.start hM rs
  refine sf_ret S (ef_orV (ef_lt (ef_var S rfl) ef_int) fun _ => ef_gt (ef_var S rfl) ef_int) fun v H' e r => q v H' e ?_
  have z : (decide (((n : Nat) : Int) < 1) || decide ((5 : Int) < (n : Nat))) = !isTarget n := by
    unfold isTarget
    by_cases h : 1 ≤ n
    · by_cases h2 : n < 6
      · rw [decide_eq_true h, decide_eq_true h2, decide_eq_false (by omega), decide_eq_false (by omega)]; rfl
      · rw [decide_eq_true h, decide_eq_false h2, decide_eq_false (by omega), decide_eq_true (by omega)]; rfl
    · rw [decide_eq_false h, decide_eq_true (by omega)]
      rfl
  rw [← z]
  exact r
theorem wrong_names {M : List Addr} {H : Hp} {σ : L2.St} {as : TA} {l : List Nat} {E : XK} (hM : Hot M H) (hl : l.length ≤ 1000) (h : EvFs K as σ M H [.lst (nats l)]) : EvF K (tCall (spR K R_has_wrong_name) [] E as) σ M H (.bl (!(l.all isName))) :=
  ef_callR hM h ⟨l.map fun n => ((n : Nat) : Int), by rw [nats_nums], by rw [List.length_map]; exact hl, by rw [any_names]⟩
/-! put_row -/
def sp_row (K : PySem.W.Frag) (A : Adr) : Sp := fun vs H Q _ => ∃ L M0 s v1 v2 r ns, vs = [V.ref L.a, v1, v2] ∧ PAt K A L M0 H s ∧ Small s ∧ s.opened.isSome = true ∧ Rep K (cold (L.W ++ M0) H) v1 (encRow r) ∧ Rep K (cold (L.W ++ M0) H) v2 (.lst (nats ns)) ∧ ns.length ≤ 1000 ∧ ns.all isName = (rowNames r).all isName ∧
  ∀ L' H', L'.a = L.a → Keeps L.W H H' L'.W → PAt K A L' M0 H' (rowed s r).1 → Q (.int ((rowed s r).2.headD 0)) H'
theorem lkR {x y z : V} : List.lookup ("rows" : Str) [("taken", x), ("rows", y), ("ending", z)] = some y := (lk_past (by decide +kernel)).trans lk_here
theorem ok_put_row (T : Top K mg A) : DefOk P w K mg base 2 A.f_put_row "put_row" ["program", "row", "names"] (sp_row K A) := by
  refine dv_put_row T (ok_has_wrong_name T) (fun vs H Q E ⟨L, M0, s, v1, v2, r, ns, hv, _⟩ => by rw [hv]; rfl) (fun vs H Q E ⟨L, M0, s, v1, v2, r, ns, hv, p, sm, hos, r1, r2, hn, hall, q⟩ => ?_)
  subst hv
  have S : At K Zero (L.W ++ M0) H (start N_put_row [V.ref L.a, v1, v2]) [.val (.ref L.a), .dat (encRow r), .dat (.lst (nats ns)), .any] := At.zero p.heat (.cons rfl (.cons ⟨_, rfl, r1⟩ (.cons ⟨_, rfl, r2⟩ (.cons trivial .nil)))) rfl
  obtain ⟨ts, rows, ho⟩ : ∃ ts rows, s.opened = some (ts, rows) := by
    cases z : s.opened with
    | none => rw [z] at hos; cases hos
    | some pr => exact ⟨pr.1, pr.2, rfl⟩
  have st : rowed s r = if (rowNames r).all isName = false then (s, [-2]) else if 8 ≤ rows.length then (s, [-1]) else (⟨s.prog, some (ts, rows ++ [r])⟩, Cm09.ints [rows.length + 1]) := by unfold rowed; rw [ho]
  refine sf_if S (eb_B (wrong_names p.heat hn (es_cons (ef_var S rfl) es_nil))) (fun hb H1 e1 S1 => ?_) (fun hb H1 e1 S1 => ?_)
  · rw [if_pos (by rw [← hall]; simpa using hb)] at st
    rw [st] at q
    exact ⟨2, rfl, back_same p e1 rfl rfl q⟩
  · rw [if_neg (by rw [← hall]; simpa using hb)] at st
    have p1 := p.mono e1
    obtain ⟨u, hu, O⟩ := p1.opn
    cases hob : L.ob with
    | none =>
      rw [hob, ho] at O
      cases O.1
    | some qq =>
      obtain ⟨o, rl⟩ := qq
      rw [hob] at O
      obtain ⟨ts', rows', dxo, tk, rvs, g1, g2, g3, g4, g5, g6⟩ := O
      obtain ⟨rfl, rfl⟩ : ts = ts' ∧ rows = rows' := by rw [ho] at g1; cases g1; exact ⟨rfl, rfl⟩
      subst g2
      have hlen : rvs.length = rows.length := by rw [g6.length, List.length_map]
      refine sv_asg S1 (ev_fld (ev_fld (ev_val S1 rfl) hu T.d_Program.cl T.n_Program_unended lkU) g3 T.d_Block.cl T.n_Block_rows lkR) fun H2 e2 S2 => ?_
      have g5' := e2 _ _ g5
      refine sf_if S2 (eb_test (M := []) (ef_ge (ef_lenV (ev_val S2 rfl) g5') ef_int)) (fun hb2 H3 e3 S3 => ?_) (fun hb2 H3 e3 S3 => ?_)
      · have hb2 := of_decide_eq_true hb2
        rw [if_pos (by rw [← hlen]; omega)] at st
        rw [st] at q
        exact ⟨1, rfl, back_same p ((e1.trans e2).trans e3) rfl rfl q⟩
      · have hb2 := of_decide_eq_false hb2
        rw [if_neg (by rw [← hlen]; omega)] at st
        rw [st] at q
        obtain ⟨v, hv, rv⟩ := S3.env.dat (i := 1) rfl
        refine sv_app (ev_val S3 rfl) (e3 _ _ g5') (by omega) (ev_var hv) fun H4 e4 => ?_
        have e14 := ((e1.trans e2).trans e3).trans e4
        obtain ⟨p5, kp⟩ := (p.mono e14).rowed hob ho (e4 _ _ (e3 _ _ g5')) (rv.mono (cold_mono e4))
        have hq := q L _ rfl (Keeps.after e14 kp) p5
        refine ⟨.ref rl, rfl, rl, _, rfl, .inl (sq_of upd_same), ?_⟩
        rw [List.length_append, hlen]
        exact hq
end
end Pc

namespace Pc
open PySem PySem.Spec PyProof.Rows L2 Evl
open CmBase Cm09
section
variable {P : Program} {w : World} {K : PySem.W.Frag} {mg : Str → Option Value} {base : Heap} {A : Adr}
theorem small_len {n : Nat} (h : n ≤ 12) : n ≤ 16000000 := Nat.le_trans h (by decide)
/-- a row's call at last: put_row does the rest -/
theorem row_end {L : Loc} {M0 : List Addr} {s : Cm09.St} {H H1 : Hp} {Q : VK} {E : XK} {σ : L2.St} {ρ : List Sv} {t1 t2 : TE} {r : PRow} {ns : List Nat} {c : Cm09.Call} (p : PAt K A L M0 H s) (sm : Small s) (ho : s.opened.isSome = true) (e1 : Ex H H1) (S : At K Zero (L.W ++ M0) H1 σ ρ) (h0 : ρ[0]? = some (.val (.ref L.a)))
    (h1 : EvF K t1 σ (L.W ++ M0) H1 (encRow r)) (h2 : EvF K t2 σ (L.W ++ M0) H1 (.lst (nats ns))) (hn : ns.length ≤ 1000) (hall : ns.all isName = (rowNames r).all isName) (st : Cm09.step s c = rowed s r)
    (q : ∀ L' H', L'.a = L.a → Keeps L.W H H' L'.W → PAt K A L' M0 H' (Cm09.step s c).1 → Q (.int ((Cm09.step s c).2.headD 0)) H') : tCall (sp_row K A) [] E (tCons (tVar 0) (tCons t1 (tCons t2 tNil))) σ H1 Q := by
  refine call_b S h0 (es_cons h1 (es_cons h2 es_nil)) fun vs H2 e2 rs => ?_
  cases rs with
  | cons r1 rs =>
  cases rs with
  | cons r2 rs =>
  cases rs
  rw [st] at q
  exact ⟨L, M0, s, _, _, r, ns, rfl, p.mono (e1.trans e2), sm, ho, r1, r2, hn, hall, fun L' H' ha kp p' => q L' H' ha (kp.after (e1.trans e2)) p'⟩
theorem isSome_of {s : Cm09.St} {u : V} (h : decide (u = .non) = s.opened.isNone) (hb : decide (u = .non) = false) : s.opened.isSome = true := by
  rw [hb] at h
  cases z : s.opened with
  | none => rw [z] at h; cases h
  | some _ => rfl
theorem isNone_of {s : Cm09.St} {u : V} (h : decide (u = .non) = s.opened.isNone) (hb : decide (u = .non) = true) : s.opened = none := by
  rw [hb] at h
  cases z : s.opened with
  | none => rfl
  | some _ => rw [z] at h; cases h
theorem rowed_none {s : Cm09.St} {r : PRow} (h : s.opened = none) : rowed s r = (s, [-3]) := by unfold rowed; rw [h]
theorem ok_add_num (T : Top K mg A) : DefOk P w K mg base 3 A.f_add_num "add_num" ["program", "x", "n"] (spB K A 2 fun ds c => ∃ x k : Nat, ds = [nat x, nat k] ∧ c = .num x k) := by
  refine dv_add_num T (ok_put_row T) spB_len (fun vs H Q E ⟨L, M0, s, ws, ds, c, hv, hn, p, sm, rs, ⟨x, k, hd, hc⟩, q⟩ => ?_)
  subst hv hd hc
  have S : At K Zero (L.W ++ M0) H (start N_add_num (V.ref L.a :: ws)) [.val (.ref L.a), .dat (nat x), .dat (nat k)] := by
    cases rs with
    | cons r1 rs => cases rs with
      | cons r2 rs => cases rs; exact At.zero p.heat (.cons rfl (.cons ⟨_, rfl, r1⟩ (.cons ⟨_, rfl, r2⟩ .nil))) rfl
  obtain ⟨u, hu, hun⟩ := p.opened
  refine sf_if S (eb_isV (ev_fld (ev_val S rfl) hu T.d_Program.cl T.n_Program_unended lkU)) (fun hb H1 e1 S1 => ?_) (fun hb H1 e1 S1 => ?_)
  · have st : Cm09.step s (.num x k) = (s, [-3]) := rowed_none (isNone_of hun hb)
    rw [st] at q
    exact ⟨3, rfl, back_same p e1 rfl rfl q⟩
  · exact row_end (r := .plain (.num x k)) (ns := [x]) p sm (isSome_of hun hb) e1 S1 rfl (ef_tup S1.heat (es_cons ef_int (es_cons (ef_var S1 rfl) (es_cons (ef_var S1 rfl) es_nil))) (leb rfl))
      (ef_lst S1.heat (es_cons (ef_var S1 rfl) es_nil) (leb rfl)) (leb rfl) rfl rfl q
theorem ok_add_say (T : Top K mg A) : DefOk P w K mg base 3 A.f_add_say "add_say" ["program", "a"] (spB K A 1 fun ds c => ∃ x : Nat, ds = [nat x] ∧ c = .say x) := by
  refine dv_add_say T (ok_put_row T) spB_len (fun vs H Q E ⟨L, M0, s, ws, ds, c, hv, hn, p, sm, rs, ⟨x, hd, hc⟩, q⟩ => ?_)
  subst hv hd hc
  have S : At K Zero (L.W ++ M0) H (start N_add_say (V.ref L.a :: ws)) [.val (.ref L.a), .dat (nat x)] := by
    cases rs with
    | cons r1 rs => cases rs; exact At.zero p.heat (.cons rfl (.cons ⟨_, rfl, r1⟩ .nil)) rfl
  obtain ⟨u, hu, hun⟩ := p.opened
  refine sf_if S (eb_isV (ev_fld (ev_val S rfl) hu T.d_Program.cl T.n_Program_unended lkU)) (fun hb H1 e1 S1 => ?_) (fun hb H1 e1 S1 => ?_)
  · have st : Cm09.step s (.say x) = (s, [-3]) := rowed_none (isNone_of hun hb)
    rw [st] at q
    exact ⟨3, rfl, back_same p e1 rfl rfl q⟩
  · exact row_end (r := .plain (.say x)) (ns := [x]) p sm (isSome_of hun hb) e1 S1 rfl (ef_tup S1.heat (es_cons ef_int (es_cons (ef_var S1 rfl) es_nil)) (leb rfl))
      (ef_lst S1.heat (es_cons (ef_var S1 rfl) es_nil) (leb rfl)) (leb rfl) rfl rfl q
theorem op_some {o : Nat} (h : ¬ 10 < o) : ∃ q, opOf o = some q ∧ q.num = o := by
  match o, h with
  | 0, _ => exact ⟨_, rfl, rfl⟩
  | 1, _ => exact ⟨_, rfl, rfl⟩
  | 2, _ => exact ⟨_, rfl, rfl⟩
  | 3, _ => exact ⟨_, rfl, rfl⟩
  | 4, _ => exact ⟨_, rfl, rfl⟩
  | 5, _ => exact ⟨_, rfl, rfl⟩
  | 6, _ => exact ⟨_, rfl, rfl⟩
  | 7, _ => exact ⟨_, rfl, rfl⟩
  | 8, _ => exact ⟨_, rfl, rfl⟩
  | 9, _ => exact ⟨_, rfl, rfl⟩
  | 10, _ => exact ⟨_, rfl, rfl⟩
  | n + 11, h => exact absurd (by omega) h
theorem op_none {o : Nat} (h : 10 < o) : opOf o = none := by
  match o, h with
  | n + 11, _ => rfl
theorem ok_add_two (T : Top K mg A) : DefOk P w K mg base 3 A.f_add_two "add_two" ["program", "x", "o", "a", "b"] (spB K A 4 fun ds c => ∃ x o a b : Nat, ds = [nat x, nat o, nat a, nat b] ∧ c = .two x o a b) := by
  refine dv_add_two T (ok_put_row T) spB_len (fun vs H Q E ⟨L, M0, s, ws, ds, c, hv, hn, p, sm, rs, ⟨x, o, a, b, hd, hc⟩, q⟩ => ?_)
  subst hv hd hc
  have S : At K Zero (L.W ++ M0) H (start N_add_two (V.ref L.a :: ws)) [.val (.ref L.a), .dat (nat x), .dat (nat o), .dat (nat a), .dat (nat b)] := by
    cases rs with
    | cons r1 rs => cases rs with
      | cons r2 rs => cases rs with
        | cons r3 rs => cases rs with
          | cons r4 rs => cases rs; exact At.zero p.heat (.cons rfl (.cons ⟨_, rfl, r1⟩ (.cons ⟨_, rfl, r2⟩ (.cons ⟨_, rfl, r3⟩ (.cons ⟨_, rfl, r4⟩ .nil))))) rfl
  obtain ⟨u, hu, hun⟩ := p.opened
  refine sf_if S (eb_isV (ev_fld (ev_val S rfl) hu T.d_Program.cl T.n_Program_unended lkU)) (fun hb H1 e1 S1 => ?_) (fun hb H1 e1 S1 => ?_)
  · have st : Cm09.step s (.two x o a b) = (s, [-3]) := by
      have ho := isNone_of hun hb
      show (match s.opened, opOf o with
        | none, _ => (s, [-3])
        | some _, none => (s, [-4])
        | some _, some q => rowed s (.plain (.two x q a b))) = _
      rw [ho]
    rw [st] at q
    exact ⟨3, rfl, back_same p e1 rfl rfl q⟩
  · have hos := isSome_of hun hb
    obtain ⟨pr, ho⟩ := Option.isSome_iff_exists.mp hos
    refine sf_if S1 (eb_test (ef_gt (ef_var S1 rfl) ef_int)) (fun hb2 H2 e2 S2 => ?_) (fun hb2 H2 e2 S2 => ?_)
    · have hb2 := of_decide_eq_true hb2
      have st : Cm09.step s (.two x o a b) = (s, [-4]) := by
        show (match s.opened, opOf o with
          | none, _ => (s, [-3])
          | some _, none => (s, [-4])
          | some _, some q => rowed s (.plain (.two x q a b))) = _
        rw [ho, op_none (by omega)]
      rw [st] at q
      exact ⟨4, rfl, back_same p (e1.trans e2) rfl rfl q⟩
    · have hb2 := of_decide_eq_false hb2
      obtain ⟨oq, ho1, ho2⟩ := op_some (o := o) (by omega)
      have st : Cm09.step s (.two x o a b) = rowed s (.plain (.two x oq a b)) := by
        show (match s.opened, opOf o with
          | none, _ => (s, [-3])
          | some _, none => (s, [-4])
          | some _, some q => rowed s (.plain (.two x q a b))) = _
        rw [ho, ho1]
      refine row_end (r := .plain (.two x oq a b)) (ns := [x, a, b]) p sm hos (e1.trans e2) S2 rfl ((ef_tup S2.heat (es_cons ef_int (es_cons (ef_var S2 rfl) (es_cons (ef_var S2 rfl) (es_cons (ef_var S2 rfl) (es_cons (ef_var S2 rfl) es_nil))))) (leb rfl)).cast ?_)
        (ef_lst S2.heat (es_cons (ef_var S2 rfl) (es_cons (ef_var S2 rfl) (es_cons (ef_var S2 rfl) es_nil))) (leb rfl)) (leb rfl) rfl st q
      show Dv.tup [.int 2, nat x, nat o, nat a, nat b] = Dv.tup [.int 2, nat x, nat oq.num, nat a, nat b]
      rw [ho2]
theorem ok_add_call (T : Top K mg A) : DefOk P w K mg base 4 A.f_add_call "add_call" ["program", "x", "g", "handed"] (spB K A 3 fun ds c => ∃ (x g : Nat) (as : List Nat), ds = [nat x, nat g, .lst (nats as)] ∧ as.length ≤ 100 ∧ c = .call x g as) := by
  refine dv_add_call T (ok_calls_standing T) (ok_put_row T) spB_len (fun vs H Q E ⟨L, M0, s, ws, ds, c, hv, hn, p, sm, rs, ⟨x, g, as, hd, hl, hc⟩, q⟩ => ?_)
  subst hv hd hc
  have S : At K Zero (L.W ++ M0) H (start N_add_call (V.ref L.a :: ws)) [.val (.ref L.a), .dat (nat x), .dat (nat g), .dat (.lst (nats as))] := by
    cases rs with
    | cons r1 rs => cases rs with
      | cons r2 rs => cases rs with
        | cons r3 rs => cases rs; exact At.zero p.heat (.cons rfl (.cons ⟨_, rfl, r1⟩ (.cons ⟨_, rfl, r2⟩ (.cons ⟨_, rfl, r3⟩ .nil)))) rfl
  obtain ⟨u, hu, hun⟩ := p.opened
  have st0 : Cm09.step s (.call x g as) = if s.opened.isNone = true then (s, [-3]) else if 5 ≤ g ∨ 4 < as.length then (s, [-4]) else if 8 ≤ manyCalls s then (s, [-5]) else rowed s (.call x g as) := rfl
  refine sf_if S (eb_isV (ev_fld (ev_val S rfl) hu T.d_Program.cl T.n_Program_unended lkU)) (fun hb H1 e1 S1 => ?_) (fun hb H1 e1 S1 => ?_)
  · rw [if_pos (by rw [isNone_of hun hb]; rfl)] at st0
    rw [st0] at q
    exact ⟨3, rfl, back_same p e1 rfl rfl q⟩
  · have hos := isSome_of hun hb
    rw [if_neg (by rw [← hun, hb]; decide)] at st0
    refine sf_if S1 (eb_or (eb_test (ef_gt (ef_var S1 rfl) ef_int)) fun _ => eb_test (ef_gt (ef_lenL (ef_var S1 rfl)) ef_int)) (fun hb2 H2 e2 S2 => ?_) (fun hb2 H2 e2 S2 => ?_)
    · rw [Bool.or_eq_true, decide_eq_true_eq, decide_eq_true_eq, nats_len] at hb2
      rw [if_pos (by omega)] at st0
      rw [st0] at q
      exact ⟨4, rfl, back_same p (e1.trans e2) rfl rfl q⟩
    · rw [Bool.or_eq_false_iff, decide_eq_false_iff_not, decide_eq_false_iff_not, nats_len] at hb2
      rw [if_neg (by omega)] at st0
      have p2 := p.mono (e1.trans e2)
      have hcs : EvF K (tCall (spR K (R_calls_standing A)) [] E0 (tCons (tVar 0) tNil)) (start N_add_call (V.ref L.a :: ws)) M0 H2 (nat (manyCalls s)) := by
        have hM0 : Hot M0 H2 := ⟨fun m hm => p2.heat.all m (List.mem_append_right _ hm)⟩
        exact ef_callR hM0 (es_cons (EvF.of (ev_val S2 rfl) p2.rep) es_nil) ⟨s, rfl, sm, rfl⟩
      refine sf_if S2 (eb_test (ef_ge hcs ef_int)) (fun hb3 H3 e3 S3 => ?_) (fun hb3 H3 e3 S3 => ?_)
      · have hb3 := of_decide_eq_true hb3
        rw [if_pos (by omega)] at st0
        rw [st0] at q
        exact ⟨5, rfl, back_same p ((e1.trans e2).trans e3) rfl rfl q⟩
      · have hb3 := of_decide_eq_false hb3
        rw [if_neg (by omega)] at st0
        refine row_end (r := .call x g as) (ns := x :: as) p sm hos ((e1.trans e2).trans e3) S3 rfl (ef_tup S3.heat (es_cons ef_int (es_cons (ef_var S3 rfl) (es_cons (ef_var S3 rfl) (es_cons (ef_tupleL S3.heat (ef_var S3 rfl)) es_nil)))) (leb rfl))
          (ef_cat S3.heat (ef_lst S3.heat (es_cons (ef_var S3 rfl) es_nil) (leb rfl)) (ef_var S3 rfl) ?_) ?_ rfl st0 q
        · show 1 + (nats as).length ≤ 16000000
          rw [nats_len]
          omega
        · rw [List.length_cons]
          omega
end
end Pc

namespace Pc
open PySem PySem.Spec PyProof.Rows L2 Evl
open CmBase Cm09
section
variable {P : Program} {w : World} {K : PySem.W.Frag} {mg : Str → Option Value} {base : Heap} {A : Adr}
/-! put_end -/
def sp_end (K : PySem.W.Frag) (A : Adr) : Sp := fun vs H Q _ => ∃ L M0 s v1 e, vs = [V.ref L.a, v1] ∧ PAt K A L M0 H s ∧ Small s ∧ s.opened.isSome = true ∧ Rep K (cold (L.W ++ M0) H) v1 (encEnd e) ∧ (e.uses.all isName && e.targets.all isTarget) = true ∧
  ∀ L' H', L'.a = L.a → Keeps L.W H H' L'.W → PAt K A L' M0 H' (ended s e).1 → Q (.int ((ended s e).2.headD 0)) H'
theorem lkBl {x y : V} : List.lookup ("blocks" : Str) [("handed", x), ("blocks", y)] = some y := (lk_past (by decide +kernel)).trans lk_here
theorem putU {x y v : V} : putF "unended" v ([("functions", x), ("unended", y)] : List (Str × V)) = ([("functions", x), ("unended", v)] : List (Str × V)) := (put_past (by decide +kernel)).trans (congrArg _ put_here)
theorem putE {x y z v : V} : putF "ending" v ([("taken", x), ("rows", y), ("ending", z)] : List (Str × V)) = ([("taken", x), ("rows", y), ("ending", v)] : List (Str × V)) := (put_past (by decide +kernel)).trans (congrArg _ ((put_past (by decide +kernel)).trans (congrArg _ put_here)))
theorem ok_put_end (T : Top K mg A) : DefOk P w K mg base 1 A.f_put_end "put_end" ["program", "ending"] (sp_end K A) := by
  refine dv_put_end T (fun vs H Q E ⟨L, M0, s, v1, e, hv, _⟩ => by rw [hv]; rfl) (fun vs H Q E ⟨L, M0, s, v1, e, hv, p, sm, hos, r1, hall, q⟩ => ?_)
  subst hv
  have S : At K Zero (L.W ++ M0) H (start N_put_end [V.ref L.a, v1]) [.val (.ref L.a), .val v1, .any, .any] := At.zero p.heat (.cons rfl (.cons rfl (.cons trivial (.cons trivial .nil)))) rfl
  obtain ⟨⟨ts, rows⟩, ho⟩ := Option.isSome_iff_exists.mp hos
  obtain ⟨u, hu, O⟩ := p.opn
  obtain ⟨fvs, hf, F⟩ := p.fns
  have ap := Loc.apart p.nd
  cases hob : L.ob with
  | none => rw [hob, ho] at O; cases O.1
  | some qq =>
  obtain ⟨o, rl⟩ := qq
  rw [hob] at O
  obtain ⟨ts', rows', dxo, tk, rvs, g1, g2, g3, g4, g5, g6⟩ := O
  obtain ⟨rfl, rfl⟩ : ts = ts' ∧ rows = rows' := by rw [ho] at g1; cases g1; exact ⟨rfl, rfl⟩
  subst g2
  obtain ⟨d1, d2, d3, d4, d5, d6⟩ := ap.ao o rl hob
  cases hbl : L.bl with
  | none =>
    rw [hbl] at F
    exact absurd F.1 (sm.last (by rw [ho]; intro z; cases z))
  | some b =>
  obtain ⟨a1, a2⟩ := ap.ab b hbl
  obtain ⟨b1, b2⟩ := d6 b hbl
  rw [hbl] at F
  obtain ⟨init, f, ivs, la, dxl, bvs, k1, k2, k3, k4, k5, k6⟩ := F
  -- block = program.unended
  refine sv_asg S (ev_fld (ev_val S rfl) hu T.d_Program.cl T.n_Program_unended lkU) fun H1 e1 S1 => ?_
  -- block.ending = ending
  refine sv_fld (ev_val S1 rfl) (ev_val S1 rfl) (e1 _ _ g3) T.d_Block.cl T.n_Block_ending (by show 3 < 1000; decide) fun H2 e2 => ?_
  rw [putE]
  have e12 := e1.trans e2
  -- blocks = program.functions[-1].blocks
  have hlo : la ≠ o := fun z => by
    have h := (cold_some.mp k4).1
    exact h (List.mem_append_left _ (by rw [z]; exact (Loc.mem_ob hob).1))
  refine ⟨.ref L.a, rfl, L.a, _, _, _, .ref L.fl, rfl, (by rw [upd_ne d1]; exact e12 _ _ hu), T.d_Program.cl, T.n_Program_functions, lkF, 1, rfl, L.fl, fvs, -1, .ref la, rfl, rfl, sq_of (by rw [upd_ne d3]; exact e12 _ _ hf), (by rw [k2]; exact atI_last _ _), la, _, dxl, _, .ref b, rfl, (by rw [upd_ne hlo]; exact e12 _ _ (cold_ex _ _ k4)), T.d_Function.cl, T.n_Function_blocks, lkBl, ?_⟩
  -- blocks.append(block)
  refine ⟨.ref b, rfl, .inl ⟨rfl, bvs, sq_of (by rw [upd_ne b1]; exact e12 _ _ k5)⟩, .ref o, rfl, b, bvs, .ref o, rfl, rfl, (by rw [upd_ne b1]; exact e12 _ _ k5), szL ?_, ?_⟩
  · rw [k6.length, List.length_map]
    have := (sm.fn f (by rw [k1]; simp)).many
    omega
  -- program.unended = None
  refine ⟨.ref L.a, rfl, L.a, _, L.dx, _, rfl, (by rw [upd_ne a1, upd_ne d1]; exact e12 _ _ hu), T.d_Program.cl, T.n_Program_unended, (by show 2 < 1000; decide), ?_⟩
  rw [putU]
  have st : ended s e = (⟨s.prog.dropLast ++ [⟨(lastFn s).args, (lastFn s).blocks ++ [⟨ts, rows, e⟩]⟩], none⟩, Cm09.ints [(lastFn s).blocks.length + 1]) := by
    unfold ended
    rw [ho]
    show (if (e.uses.all isName && e.targets.all isTarget) = false then _ else _) = _
    rw [hall, if_neg (by decide)]
  rw [st] at q
  have hfin := (p.mono e12).ends (e := e) (v := v1) (t := .ref tk) (bvs := bvs) (b := b) (o := o) (rl := rl) (dxo := dxo) (ts := ts) (rows := rows)
    (H3 := upd (upd (upd H2 o (.ins A.C_Block dxo [("taken", .ref tk), ("rows", .ref rl), ("ending", v1)])) b (.lst (bvs ++ [.ref o]))) L.a (.ins A.C_Program L.dx [("functions", .ref L.fl), ("unended", .non)]))
    hob hbl ho (e12 _ _ g3) (e12 _ _ k5) (r1.mono (cold_mono e12)) (fun y w h1 h2 h3 h => by rw [upd_ne h1, upd_ne h3, upd_ne h2]; exact h) upd_same (by rw [upd_ne (Ne.symm d1), upd_ne (Ne.symm b1), upd_same]) (by rw [upd_ne (Ne.symm a1), upd_same])
  obtain ⟨p3, kp3, hbn⟩ := hfin
  have hq := q { L with ob := none } _ rfl (Keeps.after e12 kp3) p3
  refine ⟨.ref b, rfl, b, _, rfl, .inl (sq_of (by rw [upd_ne (Ne.symm a1), upd_same])), ?_⟩
  rw [List.length_append, hbn]
  exact hq
end
end Pc

namespace Pc
open PySem PySem.Spec PyProof.Rows L2 Evl
open CmBase Cm09
section
variable {P : Program} {w : World} {K : PySem.W.Frag} {mg : Str → Option Value} {base : Heap} {A : Adr}
theorem ended_none {s : Cm09.St} {e : CmBase.End} (h : s.opened = none) : ended s e = (s, [-3]) := by unfold ended; rw [h]
theorem ended_bad {s : Cm09.St} {e : CmBase.End} (h : s.opened.isSome = true) (hb : (e.uses.all isName && e.targets.all isTarget) = false) : ended s e = (s, [-2]) := by
  obtain ⟨⟨ts, rows⟩, ho⟩ := Option.isSome_iff_exists.mp h
  unfold ended
  rw [ho]
  exact if_pos hb
/-- an end's call at last -/
theorem end_end {L : Loc} {M0 : List Addr} {s : Cm09.St} {H H1 : Hp} {Q : VK} {E : XK} {σ : L2.St} {ρ : List Sv} {t1 : TE} {e : CmBase.End} {c : Cm09.Call} (p : PAt K A L M0 H s) (sm : Small s) (ho : s.opened.isSome = true) (e1 : Ex H H1) (S : At K Zero (L.W ++ M0) H1 σ ρ) (h0 : ρ[0]? = some (.val (.ref L.a)))
    (h1 : EvF K t1 σ (L.W ++ M0) H1 (encEnd e)) (hall : (e.uses.all isName && e.targets.all isTarget) = true) (st : Cm09.step s c = ended s e)
    (q : ∀ L' H', L'.a = L.a → Keeps L.W H H' L'.W → PAt K A L' M0 H' (Cm09.step s c).1 → Q (.int ((Cm09.step s c).2.headD 0)) H') : tCall (sp_end K A) [] E (tCons (tVar 0) (tCons t1 tNil)) σ H1 Q := by
  refine call_b S h0 (es_cons h1 es_nil) fun vs H2 e2 rs => ?_
  cases rs with
  | cons r1 rs =>
  cases rs
  rw [st] at q
  exact ⟨L, M0, s, _, e, rfl, p.mono (e1.trans e2), sm, ho, r1, hall, fun L' H' ha kp p' => q L' H' ha (kp.after (e1.trans e2)) p'⟩
theorem wrong_target {M : List Addr} {H : Hp} {σ : L2.St} {as : TA} {n : Nat} {E : XK} (hM : Hot M H) (h : EvFs K as σ M H [nat n]) : EvF K (tCall (spR K fun ds d => ∃ n : Nat, ds = [nat n] ∧ d = .bl (!isTarget n)) [] E as) σ M H (.bl (!isTarget n)) :=
  ef_callR hM h ⟨n, rfl, rfl⟩
theorem ok_add_jump (T : Top K mg A) : DefOk P w K mg base 2 A.f_add_jump "add_jump" ["program", "t", "handed"] (spB K A 2 fun ds c => ∃ (t : Nat) (as : List Nat), ds = [nat t, .lst (nats as)] ∧ as.length ≤ 100 ∧ c = .jump t as) := by
  refine dv_add_jump T (ok_has_wrong_name T) (ok_is_wrong_target T) (ok_put_end T) spB_len (fun vs H Q E ⟨L, M0, s, ws, ds, c, hv, hn, p, sm, rs, ⟨t, as, hd, hl, hc⟩, q⟩ => ?_)
  subst hv hd hc
  have S : At K Zero (L.W ++ M0) H (start N_add_jump (V.ref L.a :: ws)) [.val (.ref L.a), .dat (nat t), .dat (.lst (nats as))] := by
    cases rs with
    | cons r1 rs => cases rs with
      | cons r2 rs => cases rs; exact At.zero p.heat (.cons rfl (.cons ⟨_, rfl, r1⟩ (.cons ⟨_, rfl, r2⟩ .nil))) rfl
  obtain ⟨u, hu, hun⟩ := p.opened
  have st0 : Cm09.step s (.jump t as) = if s.opened.isSome = true ∧ 4 < as.length then (s, [-1]) else ended s (.jump t as) := rfl
  refine sf_if S (eb_isV (ev_fld (ev_val S rfl) hu T.d_Program.cl T.n_Program_unended lkU)) (fun hb H1 e1 S1 => ?_) (fun hb H1 e1 S1 => ?_)
  · have ho := isNone_of hun hb
    rw [if_neg (by rw [ho]; intro z; cases z.1), ended_none ho] at st0
    rw [st0] at q
    exact ⟨3, rfl, back_same p e1 rfl rfl q⟩
  · have hos := isSome_of hun hb
    refine sf_if S1 (eb_test (ef_gt (ef_lenL (ef_var S1 rfl)) ef_int)) (fun hb2 H2 e2 S2 => ?_) (fun hb2 H2 e2 S2 => ?_)
    · rw [decide_eq_true_eq, nats_len] at hb2
      rw [if_pos ⟨hos, by omega⟩] at st0
      rw [st0] at q
      exact ⟨1, rfl, back_same p (e1.trans e2) rfl rfl q⟩
    · rw [decide_eq_false_iff_not, nats_len] at hb2
      rw [if_neg (fun z => by omega)] at st0
      have hall : ((CmBase.End.jump t as).uses.all isName && (CmBase.End.jump t as).targets.all isTarget) = (as.all isName && isTarget t) := by
        show (as.all isName && (isTarget t && true)) = _
        rw [Bool.and_true]
      refine sf_if S2 (eb_or (eb_B (wrong_names S2.heat (by omega) (es_cons (ef_var S2 rfl) es_nil))) fun _ => eb_B (wrong_target S2.heat (es_cons (ef_var S2 rfl) es_nil))) (fun hb3 H3 e3 S3 => ?_) (fun hb3 H3 e3 S3 => ?_)
      · rw [ended_bad hos (by rw [hall]; cases h1 : as.all isName <;> cases h2 : isTarget t <;> simp_all)] at st0
        rw [st0] at q
        exact ⟨2, rfl, back_same p ((e1.trans e2).trans e3) rfl rfl q⟩
      · exact end_end (e := .jump t as) p sm hos ((e1.trans e2).trans e3) S3 rfl (ef_tup S3.heat (es_cons ef_int (es_cons (ef_var S3 rfl) (es_cons (ef_tupleL S3.heat (ef_var S3 rfl)) es_nil))) (leb rfl)) (by rw [hall]; cases h1 : as.all isName <;> cases h2 : isTarget t <;> simp_all) st0 q
theorem all_split {α : Type} (f : α → Bool) (l : List α) (n : Nat) : ((l.take n).all f && (l.drop n).all f) = l.all f := by
  rw [← List.all_append, List.take_append_drop]
theorem nats_take (l : List Nat) (n : Nat) : (nats l).take n = nats (l.take n) := (List.map_take ..).symm
theorem nats_drop (l : List Nat) (n : Nat) : (nats l).drop n = nats (l.drop n) := (List.map_drop ..).symm
theorem ok_add_fork (T : Top K mg A) : DefOk P w K mg base 2 A.f_add_fork "add_fork" ["program", "v", "t", "u", "n", "handed"] (spB K A 5 fun ds c => ∃ (v t u n : Nat) (as : List Nat), ds = [nat v, nat t, nat u, nat n, .lst (nats as)] ∧ as.length ≤ 100 ∧ c = .fork v t u n as) := by
  refine dv_add_fork T (ok_has_wrong_name T) (ok_is_wrong_target T) (ok_put_end T) spB_len (fun vs H Q E ⟨L, M0, s, ws, ds, c, hv, hn, p, sm, rs, ⟨v, t, u, n, as, hd, hl, hc⟩, q⟩ => ?_)
  subst hv hd hc
  have S : At K Zero (L.W ++ M0) H (start N_add_fork (V.ref L.a :: ws)) [.val (.ref L.a), .dat (nat v), .dat (nat t), .dat (nat u), .dat (nat n), .dat (.lst (nats as))] := by
    cases rs with
    | cons r1 rs => cases rs with
      | cons r2 rs => cases rs with
        | cons r3 rs => cases rs with
          | cons r4 rs => cases rs with
            | cons r5 rs => cases rs; exact At.zero p.heat (.cons rfl (.cons ⟨_, rfl, r1⟩ (.cons ⟨_, rfl, r2⟩ (.cons ⟨_, rfl, r3⟩ (.cons ⟨_, rfl, r4⟩ (.cons ⟨_, rfl, r5⟩ .nil)))))) rfl
  obtain ⟨uu, hu, hun⟩ := p.opened
  have st0 : Cm09.step s (.fork v t u n as) = if s.opened.isSome = true ∧ (as.length < n ∨ 8 < as.length) then (s, [-1]) else ended s (.fork v t (as.take n) u (as.drop n)) := rfl
  refine sf_if S (eb_isV (ev_fld (ev_val S rfl) hu T.d_Program.cl T.n_Program_unended lkU)) (fun hb H1 e1 S1 => ?_) (fun hb H1 e1 S1 => ?_)
  · have ho := isNone_of hun hb
    rw [if_neg (by rw [ho]; intro z; cases z.1), ended_none ho] at st0
    rw [st0] at q
    exact ⟨3, rfl, back_same p e1 rfl rfl q⟩
  · have hos := isSome_of hun hb
    refine sf_if S1 (eb_or (eb_test (ef_lt (ef_lenL (ef_var S1 rfl)) (ef_var S1 rfl))) fun _ => eb_test (ef_gt (ef_lenL (ef_var S1 rfl)) ef_int)) (fun hb2 H2 e2 S2 => ?_) (fun hb2 H2 e2 S2 => ?_)
    · rw [Bool.or_eq_true, decide_eq_true_eq, decide_eq_true_eq, nats_len] at hb2
      rw [if_pos ⟨hos, by omega⟩] at st0
      rw [st0] at q
      exact ⟨1, rfl, back_same p (e1.trans e2) rfl rfl q⟩
    · rw [Bool.or_eq_false_iff, decide_eq_false_iff_not, decide_eq_false_iff_not, nats_len] at hb2
      rw [if_neg (fun z => by omega)] at st0
      have hall : ((CmBase.End.fork v t (as.take n) u (as.drop n)).uses.all isName && (CmBase.End.fork v t (as.take n) u (as.drop n)).targets.all isTarget) = ((v :: as).all isName && (isTarget t && isTarget u)) := by
        show ((v :: as.take n ++ as.drop n).all isName && (isTarget t && (isTarget u && true))) = _
        rw [Bool.and_true, List.cons_append, List.take_append_drop]
      refine sf_if S2 (eb_or (eb_B (wrong_names (l := v :: as) S2.heat (by rw [List.length_cons]; omega) (es_cons (ef_cat S2.heat (ef_lst S2.heat (es_cons (ef_var S2 rfl) es_nil) (leb rfl)) (ef_var S2 rfl) ?_) es_nil))) fun _ => eb_or (eb_B (wrong_target S2.heat (es_cons (ef_var S2 rfl) es_nil))) fun _ => eb_B (wrong_target S2.heat (es_cons (ef_var S2 rfl) es_nil))) (fun hb3 H3 e3 S3 => ?_) (fun hb3 H3 e3 S3 => ?_)
      · show 1 + (nats as).length ≤ 16000000
        rw [nats_len]
        omega
      · rw [ended_bad hos (by rw [hall]; cases h1 : (v :: as).all isName <;> cases h2 : isTarget t <;> cases h3 : isTarget u <;> simp_all)] at st0
        rw [st0] at q
        exact ⟨2, rfl, back_same p ((e1.trans e2).trans e3) rfl rfl q⟩
      · refine end_end (e := .fork v t (as.take n) u (as.drop n)) p sm hos ((e1.trans e2).trans e3) S3 rfl ((ef_tup S3.heat (es_cons ef_int (es_cons (ef_var S3 rfl) (es_cons (ef_var S3 rfl) (es_cons (ef_tupleL S3.heat (ef_takeL S3.heat (ef_var S3 rfl) (ef_var S3 rfl))) (es_cons (ef_var S3 rfl) (es_cons (ef_tupleL S3.heat (ef_dropL S3.heat (ef_var S3 rfl) (ef_var S3 rfl))) es_nil)))))) (leb rfl)).cast ?_) (by rw [hall]; cases h1 : (v :: as).all isName <;> cases h2 : isTarget t <;> cases h3 : isTarget u <;> simp_all) st0 q
        show Dv.tup [_, _, _, .tup ((nats as).take n), _, .tup ((nats as).drop n)] = Dv.tup [_, _, _, .tup (nats (as.take n)), _, .tup (nats (as.drop n))]
        rw [nats_take, nats_drop]
theorem ok_add_give (T : Top K mg A) : DefOk P w K mg base 2 A.f_add_give "add_give" ["program", "v"] (spB K A 1 fun ds c => ∃ v : Nat, ds = [nat v] ∧ c = .give v) := by
  refine dv_add_give T (ok_has_wrong_name T) (ok_put_end T) spB_len (fun vs H Q E ⟨L, M0, s, ws, ds, c, hv, hn, p, sm, rs, ⟨v, hd, hc⟩, q⟩ => ?_)
  subst hv hd hc
  have S : At K Zero (L.W ++ M0) H (start N_add_give (V.ref L.a :: ws)) [.val (.ref L.a), .dat (nat v)] := by
    cases rs with
    | cons r1 rs => cases rs; exact At.zero p.heat (.cons rfl (.cons ⟨_, rfl, r1⟩ .nil)) rfl
  obtain ⟨u, hu, hun⟩ := p.opened
  have st0 : Cm09.step s (.give v) = ended s (.give v) := rfl
  refine sf_if S (eb_isV (ev_fld (ev_val S rfl) hu T.d_Program.cl T.n_Program_unended lkU)) (fun hb H1 e1 S1 => ?_) (fun hb H1 e1 S1 => ?_)
  · have ho := isNone_of hun hb
    rw [ended_none ho] at st0
    rw [st0] at q
    exact ⟨3, rfl, back_same p e1 rfl rfl q⟩
  · have hos := isSome_of hun hb
    have hall : ((CmBase.End.give v).uses.all isName && (CmBase.End.give v).targets.all isTarget) = [v].all isName := Bool.and_true _
    refine sf_if S1 (eb_B (wrong_names (l := [v]) S1.heat (leb rfl) (es_cons (ef_lst S1.heat (es_cons (ef_var S1 rfl) es_nil) (leb rfl)) es_nil))) (fun hb3 H3 e3 S3 => ?_) (fun hb3 H3 e3 S3 => ?_)
    · rw [ended_bad hos (by rw [hall]; cases h1 : [v].all isName <;> simp_all)] at st0
      rw [st0] at q
      exact ⟨2, rfl, back_same p (e1.trans e3) rfl rfl q⟩
    · exact end_end (e := .give v) p sm hos (e1.trans e3) S3 rfl (ef_tup S3.heat (es_cons ef_int (es_cons (ef_var S3 rfl) es_nil)) (leb rfl)) (by rw [hall]; cases h1 : [v].all isName <;> simp_all) st0 q
/-! add_block -/
theorem ok_add_block (T : Top K mg A) : DefOk P w K mg base 3 A.f_add_block "add_block" ["program", "taken"] (spB K A 1 fun ds c => ∃ ts : List Nat, ds = [.lst (nats ts)] ∧ ts.length ≤ 100 ∧ c = .block ts) := by
  refine dv_add_block T (ok_has_wrong_name T) (ok_Block T) spB_len (fun vs H Q E ⟨L, M0, s, ws, ds, c, hv, hn, p, sm, rs, ⟨ts, hd, hl, hc⟩, q⟩ => ?_)
  subst hv hd hc
  have S : At K Zero (L.W ++ M0) H (start N_add_block (V.ref L.a :: ws)) [.val (.ref L.a), .dat (.lst (nats ts)), .any] := by
    cases rs with
    | cons r1 rs => cases rs; exact At.zero p.heat (.cons rfl (.cons ⟨_, rfl, r1⟩ (.cons trivial .nil))) rfl
  obtain ⟨u, hu, hun⟩ := p.opened
  obtain ⟨fvs, hf, hfl⟩ := p.count
  have st0 : Cm09.step s (.block ts) = if s.opened.isSome = true ∨ s.prog.isEmpty = true then (s, [-3]) else if ts.all isName = false then (s, [-2]) else if 6 ≤ (lastFn s).blocks.length ∨ 4 < ts.length then (s, [-1]) else (⟨s.prog, some (ts, [])⟩, Cm09.ints [(lastFn s).blocks.length]) := rfl
  have hfu : EvF K (tCB (rLenS K) (tCons (tFld K (tVar 0) "functions") tNil)) (start N_add_block (V.ref L.a :: ws)) (L.W ++ M0) H (nat fvs.length) := ef_lenV (ev_fld (ev_val S rfl) hu T.d_Program.cl T.n_Program_functions lkF) hf
  refine sf_if S (eb_or (eb_notV (ev_fld (ev_val S rfl) hu T.d_Program.cl T.n_Program_unended lkU)) fun _ => eb_test (ef_eq hfu ef_int)) (fun hb H1 e1 S1 => ?_) (fun hb H1 e1 S1 => ?_)
  · rw [hun, hfl, Bool.or_eq_true, decide_eq_true_eq] at hb
    rw [if_pos (by
      rcases hb with h | h
      · left
        cases z : s.opened with
        | none => rw [z] at h; cases h
        | some _ => rfl
      · right
        have : s.prog.length = 0 := by omega
        rw [List.length_eq_zero_iff.mp this]; rfl)] at st0
    rw [st0] at q
    exact ⟨3, rfl, back_same p e1 rfl rfl q⟩
  · rw [hun, hfl, Bool.or_eq_false_iff, decide_eq_false_iff_not] at hb
    have ho : s.opened = none := by
      cases z : s.opened with
      | none => rfl
      | some _ => rw [z] at hb; cases hb.1
    have hne : s.prog ≠ [] := fun z => hb.2 (by rw [z]; rfl)
    rw [if_neg (by
      rintro (h | h)
      · rw [ho] at h; cases h
      · exact hne (List.isEmpty_iff.mp h))] at st0
    refine sf_if S1 (eb_B (wrong_names S1.heat (by omega) (es_cons (ef_var S1 rfl) es_nil))) (fun hb2 H2 e2 S2 => ?_) (fun hb2 H2 e2 S2 => ?_)
    · rw [if_pos (by simpa using hb2)] at st0
      rw [st0] at q
      exact ⟨2, rfl, back_same p (e1.trans e2) rfl rfl q⟩
    · rw [if_neg (by simpa using hb2)] at st0
      have p2 := p.mono (e1.trans e2)
      obtain ⟨fvs', hf', F⟩ := p2.fns
      cases hbl : L.bl with
      | none => rw [hbl] at F; exact absurd F.1 hne
      | some b =>
      rw [hbl] at F
      obtain ⟨init, f, ivs, la, dxl, bvs, k1, k2, k3, k4, k5, k6⟩ := F
      have hlast : lastFn s = f := by unfold lastFn; rw [k1]; simp
      have hbn : bvs.length = (lastFn s).blocks.length := by rw [hlast, k6.length, List.length_map]
      have hu2 := (e1.trans e2) _ _ hu
      refine sv_asg S2 (ev_fld (ev_ixV (M := L.W ++ M0) (ev_fld (ev_val S2 rfl) hu2 T.d_Program.cl T.n_Program_functions lkF) hf' (ef_neg ef_int) (by rw [k2]; exact atI_last _ _)) (cold_ex _ _ k4) T.d_Function.cl T.n_Function_blocks lkBl) fun H3 e3 S3 => ?_
      have k53 := e3 _ _ k5
      refine sf_if S3 (eb_or (eb_test (M := L.W ++ M0) (ef_ge (ef_lenV (ev_val S3 rfl) k53) ef_int)) fun _ => eb_test (ef_gt (ef_lenL (ef_var S3 rfl)) ef_int)) (fun hb3 H4 e4 S4 => ?_) (fun hb3 H4 e4 S4 => ?_)
      · rw [Bool.or_eq_true, decide_eq_true_eq, decide_eq_true_eq, nats_len, hbn] at hb3
        rw [if_pos (by omega)] at st0
        rw [st0] at q
        exact ⟨1, rfl, back_same p (((e1.trans e2).trans e3).trans e4) rfl rfl q⟩
      · rw [Bool.or_eq_false_iff, decide_eq_false_iff_not, decide_eq_false_iff_not, nats_len, hbn] at hb3
        rw [if_neg (by omega)] at st0
        rw [st0] at q
        have e14 := ((e1.trans e2).trans e3).trans e4
        -- program.unended = Block(tuple(taken))
        refine ef_tupleL S4.heat (ef_var S4 rfl) H4 (Ex.refl _) _ fun tv H5 e5 rt => ?_
        intro x dx nx nd ne
        refine ⟨x, dx, tv, rfl, upd_same, fun H6 rl hr kp hx hrl => ⟨rfl, ?_⟩⟩
        obtain ⟨nr, hrx⟩ := fresh2 hr
        have e56 : Ex H5 H6 := madeObj nx nd kp
        have e15 := e14.trans e5
        have hu6 := e56 _ _ (e15 _ _ hu)
        refine ⟨.ref L.a, S4.env.val (i := 0) rfl, L.a, _, L.dx, _, rfl, hu6, T.d_Program.cl, T.n_Program_unended, (by show 2 < 1000; decide), ?_⟩
        rw [putU]
        obtain ⟨p7, kp7⟩ := (p.mono e15).opens (ts := ts) ho (by rw [hbl]; intro z; cases z) e56 nx nr hrx hx hrl rt
        have hq := q { L with ob := some (x, rl) } _ rfl (Keeps.after e15 kp7) p7
        have ap := Loc.apart p.nd
        refine ⟨.ref b, S4.env.val (i := 2) rfl, b, bvs, rfl, .inl (sq_of (by rw [upd_ne (Ne.symm (ap.ab b hbl).1)]; exact e56 _ _ (e5 _ _ (e4 _ _ k53)))), ?_⟩
        rw [hbn]
        exact hq
end
end Pc

namespace Pc
open PySem PySem.Spec PyProof.Rows L2 Evl
open CmBase Cm09
/-! ### whether a program is sound -/
def wayWrong (f : Fn) (t : Nat) (as : List Nat) : Bool := decide (f.blocks.length ≤ t) || !decide (as.length = (takesOfFn f t).length)
def endWrong (f : Fn) : CmBase.End → Bool
  | .jump t as => wayWrong f t as
  | .fork _ t as u bs => wayWrong f t as || wayWrong f u bs
  | .give _ => false
def fnWrong (f : Fn) : Bool := (decide (f.blocks.length = 0) || decide (0 < (blockAt f 0).takes.length)) || f.blocks.any fun b => endWrong f b.last
def callWrong (p : Prog) (g : Nat) (as : List Nat) : Bool := decide (p.length ≤ g) || !decide (as.length = (fnAt p g).args)
def siteWrong (p : Prog) (x : Site) : Bool := match (blockAt (fnAt p x.f) x.b).rows[x.r]? with
  | some (.call _ g as) => callWrong p g as
  | _ => false
theorem way_ok {f : Fn} {t : Nat} {as : List Nat} (h : wayWrong f t as = false) : t < f.blocks.length ∧ as.length = (takesOfFn f t).length := by
  unfold wayWrong at h
  rw [Bool.or_eq_false_iff, decide_eq_false_iff_not] at h
  exact ⟨by omega, by simpa using h.2⟩
theorem ok_way {f : Fn} {t : Nat} {as : List Nat} (h : t < f.blocks.length) (h2 : as.length = (takesOfFn f t).length) : wayWrong f t as = false := by
  unfold wayWrong
  rw [Bool.or_eq_false_iff, decide_eq_false_iff_not]
  exact ⟨by omega, by simp [h2]⟩
theorem sound_is {s : Cm09.St} (sm : Small s) : (decide (s.prog.length ≠ 0) && (!(s.prog.any fnWrong) && !((sites s.prog).any (siteWrong s.prog)))) = isWhole s.prog := by
  rw [Bool.eq_iff_iff]
  constructor
  · intro h
    rw [Bool.and_eq_true, Bool.and_eq_true, decide_eq_true_eq, Bool.not_eq_true', Bool.not_eq_true'] at h
    obtain ⟨h0, h1, h2⟩ := h
    unfold isWhole
    rw [Bool.and_eq_true, decide_eq_true_eq, List.all_eq_true]
    refine ⟨by omega, fun f hf => ?_⟩
    have hw := List.any_eq_false.mp h1 f hf
    have hw' : fnWrong f = false := by simpa using hw
    unfold fnWrong at hw'
    rw [Bool.or_eq_false_iff, Bool.or_eq_false_iff, decide_eq_false_iff_not, decide_eq_false_iff_not, List.any_eq_false] at hw'
    obtain ⟨⟨k1, k2⟩, k3⟩ := hw'
    unfold isWholeFn
    rw [Bool.and_eq_true, Bool.and_eq_true, decide_eq_true_eq, List.all_eq_true, List.isEmpty_iff]
    refine ⟨by omega, List.length_eq_zero_iff.mp (by omega), fun b hb => ?_⟩
    have bt := (sm.fn f hf).blocks b hb
    have he : endWrong f b.last = false := by simpa using k3 b hb
    have htg := bt.targets
    rw [Bool.and_eq_true, Bool.and_eq_true, List.all_eq_true]
    refine ⟨fun t ht => ?_, ?_, ?_⟩
    · rw [Bool.and_eq_true, decide_eq_true_eq, decide_eq_true_eq]
      refine ⟨htg t ht, ?_⟩
      cases hl : b.last with
      | jump t' as =>
        rw [hl] at ht he
        rw [List.mem_singleton.1 ht]
        exact (way_ok he).1
      | fork v t' as u bs =>
        rw [hl] at ht he
        have he' : wayWrong f t' as = false ∧ wayWrong f u bs = false := by
          rw [← Bool.or_eq_false_iff]; exact he
        rcases List.mem_cons.1 ht with e | e
        · rw [e]; exact (way_ok he'.1).1
        · rw [List.mem_singleton.1 e]; exact (way_ok he'.2).1
      | give v => rw [hl] at ht; cases ht
    · cases hl : b.last with
      | jump t' as =>
        rw [hl] at he
        simpa [fitsFn] using (way_ok he).2
      | fork v t' as u bs =>
        rw [hl] at he
        have he' : wayWrong f t' as = false ∧ wayWrong f u bs = false := by
          rw [← Bool.or_eq_false_iff]; exact he
        simpa [fitsFn] using ⟨(way_ok he'.1).2, (way_ok he'.2).2⟩
      | give v => rfl
    · unfold callsFit
      rw [List.all_eq_true]
      intro r hr
      cases r with
      | plain q => rfl
      | call x g as =>
        obtain ⟨i, hi⟩ := List.mem_iff_getElem?.1 hf
        obtain ⟨j, hj⟩ := List.mem_iff_getElem?.1 hb
        obtain ⟨k, hk⟩ := List.mem_iff_getElem?.1 hr
        have hrow : (blockAt (fnAt s.prog i) j).rows[k]? = some (.call x g as) := by rw [fnAt_of hi, blockAt_of hj]; exact hk
        have hs : (⟨i, j, k⟩ : Site) ∈ sites s.prog := mem_sites.mpr ⟨x, g, as, hrow⟩
        have hn := List.any_eq_false.mp h2 _ hs
        have hn' : siteWrong s.prog ⟨i, j, k⟩ = false := by simpa using hn
        unfold siteWrong at hn'
        rw [hrow] at hn'
        have hn2 : callWrong s.prog g as = false := hn'
        unfold callWrong at hn2
        rw [Bool.or_eq_false_iff, decide_eq_false_iff_not] at hn2
        show (decide (g < s.prog.length) && as.length == (fnAt s.prog g).args) = true
        rw [Bool.and_eq_true, decide_eq_true_eq, beq_iff_eq]
        exact ⟨by omega, by simpa using hn2.2⟩
  · intro h
    obtain ⟨h1, hw⟩ := whole_of h
    rw [Bool.and_eq_true, Bool.and_eq_true, decide_eq_true_eq, Bool.not_eq_true', Bool.not_eq_true', List.any_eq_false, List.any_eq_false]
    refine ⟨by omega, fun f hf => ?_, fun x hx => ?_⟩
    · have W := hw f hf
      rw [Bool.not_eq_true]
      unfold fnWrong
      rw [Bool.or_eq_false_iff, Bool.or_eq_false_iff, decide_eq_false_iff_not, decide_eq_false_iff_not, List.any_eq_false]
      refine ⟨⟨by have := W.some; omega, by rw [W.zero]; exact Nat.lt_irrefl 0⟩, fun b hb => ?_⟩
      rw [Bool.not_eq_true]
      have we := W.ends b hb
      cases hl : b.last with
      | jump t as => rw [hl] at we; exact ok_way we.hi we.len
      | fork v t as u bs =>
        rw [hl] at we
        show (wayWrong f t as || wayWrong f u bs) = false
        rw [ok_way we.1.hi we.1.len, ok_way we.2.hi we.2.len]
        rfl
      | give v => rfl
    · obtain ⟨y, g, as, hr⟩ := mem_sites.mp hx
      rw [Bool.not_eq_true]
      unfold siteWrong
      rw [hr]
      show callWrong s.prog g as = false
      obtain ⟨hb, _⟩ := block_in hr
      have hf : x.f < s.prog.length := by
        apply Classical.byContradiction
        intro hn
        have e : fnAt s.prog x.f = ⟨0, []⟩ := by
          unfold fnAt
          rw [List.getD_eq_getElem?_getD]; rw [List.getElem?_eq_none (by omega)]
          rfl
        rw [e] at hb
        simp at hb
      obtain ⟨a1, a2⟩ := (hw _ (fnAt_mem hf)).calls _ (blockAt_mem hb) _ _ _ (List.mem_of_getElem? hr)
      unfold callWrong
      rw [Bool.or_eq_false_iff, decide_eq_false_iff_not]
      exact ⟨by omega, by rw [show as.length = (fnAt s.prog g).args from a2]; simp⟩
theorem site_fn {p : Prog} {x : Site} {r : PRow} (h : (blockAt (fnAt p x.f) x.b).rows[x.r]? = some r) : x.f < p.length := by
  obtain ⟨hb, _⟩ := block_in h
  apply Classical.byContradiction
  intro hn
  have e : fnAt p x.f = ⟨0, []⟩ := by
    unfold fnAt
    rw [List.getD_eq_getElem?_getD]; rw [List.getElem?_eq_none (by omega)]
    rfl
  rw [e] at hb
  simp at hb
theorem dec_int (a b : Nat) : decide (((a : Nat) : Int) = ((b : Nat) : Int)) = decide (a = b) := by
  by_cases h : a = b
  · rw [h, decide_eq_true rfl, decide_eq_true rfl]
  · rw [decide_eq_false h, decide_eq_false (by omega)]
theorem dec_le (a b : Nat) : decide (((a : Nat) : Int) ≤ ((b : Nat) : Int)) = decide (a ≤ b) := by
  by_cases h : a ≤ b
  · rw [decide_eq_true h, decide_eq_true (by omega)]
  · rw [decide_eq_false h, decide_eq_false (by omega)]
theorem dec_lt (a b : Nat) : decide (((a : Nat) : Int) < ((b : Nat) : Int)) = decide (a < b) := by
  by_cases h : a < b
  · rw [decide_eq_true h, decide_eq_true (by omega)]
  · rw [decide_eq_false h, decide_eq_false (by omega)]
section
variable {P : Program} {w : World} {K : PySem.W.Frag} {mg : Str → Option Value} {base : Heap} {A : Adr}
section
variable {ta tb : TE} {σ : L2.St} {M : List Addr} {H : Hp} {a b : Nat}
theorem ef_geN (ha : EvF K ta σ M H (nat a)) (hb : EvF K tb σ M H (nat b)) : EvF K (tOp rGeI ta tb) σ M H (.bl (decide (b ≤ a))) := (ef_ge ha hb).cast (by rw [dec_le])
theorem ef_leN (ha : EvF K ta σ M H (nat a)) (hb : EvF K tb σ M H (nat b)) : EvF K (tOp rLeI ta tb) σ M H (.bl (decide (a ≤ b))) := (ef_le ha hb).cast (by rw [dec_le])
theorem ef_gtN (ha : EvF K ta σ M H (nat a)) (hb : EvF K tb σ M H (nat b)) : EvF K (tOp rGtI ta tb) σ M H (.bl (decide (b < a))) := (ef_gt ha hb).cast (by rw [dec_lt])
theorem ef_ltN (ha : EvF K ta σ M H (nat a)) (hb : EvF K tb σ M H (nat b)) : EvF K (tOp rLtI ta tb) σ M H (.bl (decide (a < b))) := (ef_lt ha hb).cast (by rw [dec_lt])
theorem ef_eqN (ha : EvF K ta σ M H (nat a)) (hb : EvF K tb σ M H (nat b)) : EvF K (tOp rEq ta tb) σ M H (.bl (decide (a = b))) := (ef_eq ha hb).cast (by rw [dec_int])
theorem ef_neN (ha : EvF K ta σ M H (nat a)) (hb : EvF K tb σ M H (nat b)) : EvF K (tOp rNe ta tb) σ M H (.bl (!decide (a = b))) := (ef_ne ha hb).cast (by rw [dec_int])
theorem ef_addN (ha : EvF K ta σ M H (nat a)) (hb : EvF K tb σ M H (nat b)) : EvF K (tOp rAddI ta tb) σ M H (nat (a + b)) := ef_add ha hb
theorem ef_n (n : Nat) : EvF K (tC (.int (n : Nat))) σ M H (nat n) := ef_int
end
abbrev R_is_wrong_way (A : Adr) : List Dv → Dv → Prop := fun ds d => ∃ f t as, ds = [encFn A f, nat t, .tup (nats as)] ∧ d = .bl (wayWrong f t as)
theorem ok_is_wrong_way (T : Top K mg A) : DefOk P w K mg base 1 A.f_is_wrong_way "is_wrong_way" ["function", "t", "handed"] (spR K (R_is_wrong_way A)) := by
  refine dv_is_wrong_way T (spR_len (fun ds d ⟨f, t, as, hd, _⟩ => by rw [hd]; rfl)) (fun vs H Q E ⟨M, ds, d, hM, rs, ⟨f, t, as, hd, he⟩, q⟩ => ?_)
  subst hd he
  have S : At K H M H (start N_is_wrong_way vs) [.dat (encFn A f), .dat (nat t), .dat (.tup (nats as))] := At.start hM rs
  refine sf_ret S (ef_orV (ef_geN (ef_var S rfl) (ef_lenM (ef_blocks T (ef_var S rfl)))) fun hn => ?_) fun v H' e r => q v H' e r
  have ht : t < f.blocks.length := by simpa using hn
  exact ef_neN (ef_lenTM (ef_var S rfl)) (ef_lenTM (ef_taken T (ef_atB (ef_blocks T (ef_var S (i := 0) rfl)) (ef_var S (i := 1) rfl) (blockAt_get ht))))
abbrev R_is_wrong_ending (A : Adr) : List Dv → Dv → Prop := fun ds d => ∃ f e, ds = [encFn A f, encEnd e] ∧ d = .bl (endWrong f e)
theorem ok_is_wrong_ending (T : Top K mg A) : DefOk P w K mg base 2 A.f_is_wrong_ending "is_wrong_ending" ["function", "ending"] (spR K (R_is_wrong_ending A)) := by
  refine dv_is_wrong_ending T (ok_is_wrong_way T) (spR_len (fun ds d ⟨f, e, hd, _⟩ => by rw [hd]; rfl)) (fun vs H Q E ⟨M, ds, d, hM, rs, ⟨f, e, hd, he⟩, q⟩ => ?_)
  subst hd he
  have S : At K H M H (start N_is_wrong_ending vs) [.dat (encFn A f), .dat (encEnd e)] := At.start hM rs
  cases e with
  | jump t as =>
    have hx : ∀ {H1}, Ex H H1 → EvF K (tVar 1) (start N_is_wrong_ending vs) M H1 (.tup [.int 0, nat t, .tup (nats as)]) := fun e => (ef_var S rfl).mono e
    refine sf_if S (eb_test (ef_eq (ef_t (i := 0) (hx (Ex.refl _)) rfl) ef_int)) (fun _ H1 e1 S1 => ?_) (fun hb => by cases hb)
    exact sf_ret S1 (ef_callR S1.heat (es_cons (ef_var S1 rfl) (es_cons (ef_t (i := 1) (hx e1) rfl) (es_cons (ef_t (i := 2) (hx e1) rfl) es_nil))) ⟨f, t, as, rfl, rfl⟩) fun v H' e r => q v H' e r
  | fork v0 t as u bs =>
    have hx : ∀ {H1}, Ex H H1 → EvF K (tVar 1) (start N_is_wrong_ending vs) M H1 (.tup [.int 1, nat v0, nat t, .tup (nats as), nat u, .tup (nats bs)]) := fun e => (ef_var S rfl).mono e
    refine sf_if S (eb_test (ef_eq (ef_t (i := 0) (hx (Ex.refl _)) rfl) ef_int)) (fun hb => by cases hb) (fun _ H1 e1 S1 => ?_)
    refine sf_if S1 (eb_test (ef_eq (ef_t (i := 0) (hx e1) rfl) ef_int)) (fun _ H2 e2 S2 => ?_) (fun hb => by cases hb)
    have e12 := e1.trans e2
    refine sf_ret S2 (ef_orV (ef_callR S2.heat (es_cons (ef_var S2 rfl) (es_cons (ef_t (i := 2) (hx e12) rfl) (es_cons (ef_t (i := 3) (hx e12) rfl) es_nil))) ⟨f, t, as, rfl, rfl⟩) fun _ =>
      ef_callR S2.heat (es_cons (ef_var S2 rfl) (es_cons (ef_t (i := 4) (hx e12) rfl) (es_cons (ef_t (i := 5) (hx e12) rfl) es_nil))) ⟨f, u, bs, rfl, rfl⟩) q
  | give v0 =>
    have hx : ∀ {H1}, Ex H H1 → EvF K (tVar 1) (start N_is_wrong_ending vs) M H1 (.tup [.int 2, nat v0]) := fun e => (ef_var S rfl).mono e
    refine sf_if S (eb_test (ef_eq (ef_t (i := 0) (hx (Ex.refl _)) rfl) ef_int)) (fun hb => by cases hb) (fun _ H1 e1 S1 => ?_)
    refine sf_if S1 (eb_test (ef_eq (ef_t (i := 0) (hx e1) rfl) ef_int)) (fun hb => by cases hb) (fun _ H2 e2 S2 => ?_)
    refine sf_next ?_
    dsimp only
    refine sf_ret S2 ef_bl ?_
    exact fun v H' e r => q v H' e r
abbrev R_is_wrong_function (A : Adr) : List Dv → Dv → Prop := fun ds d => ∃ f, ds = [encFn A f] ∧ f.blocks.length ≤ 1000 ∧ d = .bl (fnWrong f)
theorem ok_is_wrong_function (T : Top K mg A) : DefOk P w K mg base 3 A.f_is_wrong_function "is_wrong_function" ["function"] (spR K (R_is_wrong_function A)) := by
  refine dv_is_wrong_function T (ok_is_wrong_ending T) (spR_len (fun ds d ⟨f, hd, _⟩ => by rw [hd]; rfl)) (fun vs H Q E ⟨M, ds, d, hM, rs, ⟨f, hd, hl, he⟩, q⟩ => ?_)
  subst hd he
  have S : At K H M H (start N_is_wrong_function vs) [.dat (encFn A f), .any] := At.start hM rs
  refine sf_if S (b := decide (f.blocks.length = 0) || decide (0 < (blockAt f 0).takes.length)) (eb_or (eb_test (ef_eqN (ef_lenM (ef_blocks T (ef_var S rfl))) (ef_n 0))) fun hn => ?_) (fun hb H1 e1 S1 => ?_) (fun hb H1 e1 S1 => ?_)
  · have h0 : 0 < f.blocks.length := by
      have : ¬ f.blocks.length = 0 := by simpa using hn
      omega
    exact eb_test (ef_gtN (ef_lenTM (ef_taken T (ef_atB (ef_blocks T (ef_var S (i := 0) rfl)) (ef_n 0) (blockAt_get h0)))) (ef_n 0))
  · refine sf_ret S1 ef_bl fun v H' e r => q v H' e ?_
    unfold fnWrong
    rw [hb]
    exact r
  · refine sf_ret S1 (ef_anyM (ef_lcL (enc := encBlock A) (fun _ => true) (fun b => .bl (endWrong f b.last)) S1 (ef_blocks T (ef_var S1 (i := 0) rfl)) (by omega) (fun x M' H' σ' _ S' => eb_yes) fun b M' H' σ' hm S' _ => ?_)) fun v H' e r => q v H' e ?_
    · have hb1 : EvF K (tVar 1) σ' M' H' (encBlk A b.takes b.rows (encEnd b.last)) := ef_var S' rfl
      exact ef_callR S'.heat (es_cons (ef_var S' rfl) (es_cons (ef_ending T hb1) es_nil)) ⟨f, b.last, rfl, rfl⟩
    · unfold fnWrong
      rw [hb, Bool.false_or]
      exact r
abbrev R_is_wrong_call (A : Adr) : List Dv → Dv → Prop := fun ds d => ∃ s x g as, ds = [encSt A s, encRow (.call x g as)] ∧ d = .bl (callWrong s.prog g as)
theorem ok_is_wrong_call (T : Top K mg A) : DefOk P w K mg base 1 A.f_is_wrong_call "is_wrong_call" ["program", "row"] (spR K (R_is_wrong_call A)) := by
  refine dv_is_wrong_call T (spR_len (fun ds d ⟨s, x, g, as, hd, _⟩ => by rw [hd]; rfl)) (fun vs H Q E ⟨M, ds, d, hM, rs, ⟨s, x, g, as, hd, he⟩, q⟩ => ?_)
  subst hd he
  have S : At K H M H (start N_is_wrong_call vs) [.dat (encSt A s), .dat (.tup [.int 4, nat x, nat g, .tup (nats as)]), .any] := At.start hM rs
  refine sf_asg S (ef_t (i := 2) (ef_var S (i := 1) rfl) rfl) fun σ1 H1 e1 S1 => ?_
  refine sf_ret S1 (ef_orV (ef_geN (ef_var S1 rfl) (ef_lenM (ef_functions T (ef_var S1 rfl)))) fun hn => ?_) fun v H' e r => q v H' e r
  have hg : g < s.prog.length := by simpa using hn
  exact ef_neN (ef_lenTM (ef_t (i := 3) (ef_var S1 (i := 1) rfl) rfl)) (ef_handed T (ef_atF (ef_functions T (ef_var S1 (i := 0) rfl)) (ef_var S1 (i := 2) rfl) (fnAt_get hg)))
abbrev R_is_sound (A : Adr) : List Dv → Dv → Prop := fun ds d => ∃ s, ds = [encSt A s] ∧ Small s ∧ d = .bl (ready s)
theorem ok_is_sound (T : Top K mg A) : DefOk P w K mg base 4 A.f_is_sound "is_sound" ["program"] (spR K (R_is_sound A)) := by
  refine dv_is_sound T (ok_is_wrong_function T) (ok_all_calls T) (ok_is_wrong_call T) (ok_row_at T) (spR_len (fun ds d ⟨s, hd, _⟩ => by rw [hd]; rfl)) (fun vs H Q E ⟨M, ds, d, hM, rs, ⟨s, hd, sm, he⟩, q⟩ => ?_)
  subst hd he
  have S : At K H M H (start N_is_sound vs) [.dat (encSt A s), .any, .any] := At.start hM rs
  have hso := sound_is sm
  have hu : EvF K (tFld K (tVar 0) "unended") (start N_is_sound vs) M H (encOpen A s.opened) := ef_unended T (ef_var S rfl)
  have hua : encOpen A s.opened ≠ .any := by
    cases s.opened with
    | none => intro z; cases z
    | some p => intro z; cases z
  have hui : (encOpen A s.opened).isNon = s.opened.isNone := by
    cases s.opened with
    | none => rfl
    | some p => rfl
  refine sf_if S (eb_or (eb_test (ef_notN hu hua)) fun hn => eb_test (ef_eqN (ef_lenM (ef_functions T (ef_var S rfl))) (ef_n 0))) (fun hb H1 e1 S1 => ?_) (fun hb H1 e1 S1 => ?_)
  · refine sf_ret S1 ef_bl fun v H' e r => q v H' e ?_
    have z : ready s = false := by
      unfold ready
      rw [← hso]
      rw [hui] at hb
      rw [Bool.or_eq_true, decide_eq_true_eq] at hb
      rcases hb with hb | hb
      · have : s.opened.isNone = false := by simpa using hb
        rw [this]; rfl
      · rw [decide_eq_false (fun h => h hb)]
        simp
    rw [z]
    exact r
  · rw [hui, Bool.or_eq_false_iff, decide_eq_false_iff_not] at hb
    have ho : s.opened.isNone = true := by simpa using hb.1
    have h0 : decide (s.prog.length ≠ 0) = true := decide_eq_true hb.2
    rw [h0, Bool.true_and] at hso
    refine sf_if S1 (eb_B (ef_anyM (ef_lcL (enc := encFn A) (fun _ => true) (fun f => .bl (fnWrong f)) S1 (ef_functions T (ef_var S1 (i := 0) rfl)) (by have := sm.fns; omega) (fun x M' H' σ' _ S' => eb_yes) fun f M' H' σ' hm S' _ => ?_))) (fun hb2 H2 e2 S2 => ?_) (fun hb2 H2 e2 S2 => ?_)
    · exact ef_callR S'.heat (es_cons (ef_var S' rfl) es_nil) ⟨f, rfl, Nat.le_trans (sm.fn f hm).many (by decide), rfl⟩
    · refine sf_ret S2 ef_bl fun v H' e r => q v H' e ?_
      have z : ready s = false := by
        unfold ready
        rw [← hso, hb2]
        simp
      rw [z]
      exact r
    · have hz : ready s = !((sites s.prog).any (siteWrong s.prog)) := by
        unfold ready
        rw [← hso, hb2, ho]
        rfl
      rw [hz] at q
      refine sf_ret S2 (ef_notV (ef_anyM (ef_lcL (enc := encSite) (fun _ => true) (fun x => .bl (siteWrong s.prog x)) S2 (ef_callR S2.heat (es_cons (ef_var S2 rfl) es_nil) ⟨s, rfl, sm, rfl⟩) (by have := sm.sites_le; omega) (fun x M' H' σ' _ S' => eb_yes) fun x M' H' σ' hm S' _ => ?_))) fun v H' e r => q v H' e r
      obtain ⟨y, g, as, hr⟩ := mem_sites.mp hm
      have e : siteWrong s.prog x = callWrong s.prog g as := by unfold siteWrong; rw [hr]
      rw [e]
      exact ef_callR S'.heat (es_cons (ef_var S' rfl) (es_cons (ef_callR S'.heat (es_cons (ef_var S' rfl) (es_cons (ef_var S' rfl) es_nil)) ⟨s, x, _, rfl, site_fn hr, hr, rfl⟩) es_nil)) ⟨s, y, g, as, rfl, rfl⟩
end
end Pc

namespace Pc
open PySem PySem.Spec PyProof.Rows L2 Evl
open CmBase Cm09
/-! ### programs in numbers -/
theorem nats_app (a b : List Nat) : nats (a ++ b) = nats a ++ nats b := List.map_append
theorem row_nums_le {r : PRow} (h : RowForm r) : r.nums.length ≤ 8 := by
  cases r with
  | plain r => cases r <;> first | exact absurd h id | (show _ ≤ 8; simp [PRow.nums, Row.nums])
  | call x g as =>
    have h' : as.length ≤ 4 := h
    show ([4, x, g] ++ counted as).length ≤ 8
    rw [List.length_append]
    show 3 + (as.length + 1) ≤ 8
    omega
theorem end_nums_le {e : CmBase.End} (h : EndForm e) : e.nums.length ≤ 22 := by
  cases e with
  | jump t as =>
    have h' : as.length ≤ 8 := h
    show ([0, t] ++ counted as).length ≤ 22
    rw [List.length_append]
    show 2 + (as.length + 1) ≤ 22
    omega
  | fork v t as u bs =>
    have h' : as.length ≤ 8 ∧ bs.length ≤ 8 := h
    show ([1, v, t] ++ counted as ++ [u] ++ counted bs).length ≤ 22
    rw [List.length_append, List.length_append, List.length_append]
    show 3 + (as.length + 1) + 1 + (bs.length + 1) ≤ 22
    omega
  | give v => show 2 ≤ 22; decide
theorem rows_nums_le {rows : List PRow} (h : ∀ r ∈ rows, RowForm r) : (rows.flatMap PRow.nums).length ≤ rows.length * 8 := flat_le rows PRow.nums 8 fun r hr => row_nums_le (h r hr)
def openNums (ts : List Nat) (rows : List PRow) : List Nat := counted ts ++ (rows.length :: rows.flatMap PRow.nums)
theorem block_nums (b : PBlock) : b.nums = openNums b.takes b.rows ++ b.last.nums := rfl
theorem openNums_le {ts : List Nat} {rows : List PRow} (h : ∀ r ∈ rows, RowForm r) : (openNums ts rows).length ≤ ts.length + 2 + rows.length * 8 := by
  unfold openNums
  rw [List.length_append, List.length_cons]
  have := rows_nums_le h
  show (ts.length + 1) + _ ≤ _
  omega
theorem block_nums_le {b : PBlock} (h : BlkForm b) : b.nums.length ≤ 30 * bsize b := by
  rw [block_nums, List.length_append]
  have h1 := openNums_le (ts := b.takes) h.rows
  have h2 := end_nums_le h.last
  unfold bsize
  omega
theorem blocks_nums_le {bs : List PBlock} (h : ∀ b ∈ bs, BlkForm b) : (bs.flatMap PBlock.nums).length ≤ 30 * (bs.map bsize).sum := by
  induction bs with
  | nil => simp
  | cons b r ih =>
    rw [List.flatMap_cons, List.length_append, List.map_cons, List.sum_cons]
    have h1 := block_nums_le (h b List.mem_cons_self)
    have h2 := ih fun x hx => h x (List.mem_cons_of_mem _ hx)
    omega
theorem sum_take_le {α : Type} (l : List α) (F : α → Nat) (n : Nat) : ((l.take n).map F).sum ≤ (l.map F).sum := by
  conv => rhs; rw [← List.take_append_drop n l, List.map_append, List.sum_append]
  omega
theorem fn_nums_le {f : Fn} (h : Fits f) : f.nums.length ≤ 600002 := by
  show (f.args :: f.blocks.length :: f.blocks.flatMap PBlock.nums).length ≤ _
  have h1 := blocks_nums_le h.form.blocks
  have h2 := h.size
  rw [sizeFn_sum] at h2
  rw [List.length_cons]; rw [List.length_cons]
  omega
theorem blocks_le (f : Fn) : f.blocks.length ≤ sizeFn f := by
  rw [sizeFn_sum]
  generalize f.blocks = l
  induction l with
  | nil => exact Nat.le_refl _
  | cons a r ih =>
    have h1 : 1 ≤ bsize a := by unfold bsize; omega
    rw [List.length_cons, List.map_cons, List.sum_cons]
    omega
theorem bsize_le {f : Fn} {b : PBlock} (h : b ∈ f.blocks) : bsize b ≤ sizeFn f := by
  rw [sizeFn_sum]
  have : ∀ l : List PBlock, b ∈ l → bsize b ≤ (l.map bsize).sum := by
    intro l
    induction l with
    | nil => intro h; cases h
    | cons a r ih =>
      intro h
      rw [List.map_cons]; rw [List.sum_cons]
      rcases List.mem_cons.1 h with e | e
      · rw [e]; omega
      · have := ih e; omega
  exact this _ h
section
variable {P : Program} {w : World} {K : PySem.W.Frag} {mg : Str → Option Value} {base : Heap} {A : Adr}
abbrev R_list_in_numbers : List Dv → List Dv → Prop := fun ds es => ∃ l : List Nat, ds = [.tup (nats l)] ∧ l.length ≤ 1000 ∧ es = nats (counted l)
theorem ok_list_in_numbers (T : Top K mg A) : DefOk P w K mg base 1 A.f_list_in_numbers "list_in_numbers" ["names"] (spL K R_list_in_numbers) := by
  refine dv_list_in_numbers T (spL_len (fun ds d ⟨l, hd, _⟩ => by rw [hd]; rfl)) (fun vs H Q E ⟨M, ds, es, hM, rs, ⟨l, hd, hl, he⟩, q⟩ => ?_)
  subst hd he
  have S : At K H M H (start N_list_in_numbers vs) [.dat (.tup (nats l))] := At.start hM rs
  unfold t_list_in_numbers tRet tOp
  refine ef_lst S.heat (es_cons (ef_lenTM (ef_var S (i := 0) rfl)) es_nil) (leb rfl) H (Ex.refl H) _ fun v1 H1 e1 r1 => ?_
  refine ef_listT S.heat (ef_var S (i := 0) rfl) H1 e1 _ fun v2 H2 e2 r2 => ?_
  obtain ⟨a1, xs1, rfl, h1, rs1⟩ := r1.of_lst
  obtain ⟨a2, xs2, rfl, h2, rs2⟩ := r2.of_lst
  refine ⟨a1, a2, xs1, xs2, rfl, rfl, e2 _ _ (cold_ex _ _ h1), cold_ex _ _ h2, szB ?_, fun p hp => ?_⟩
  · rw [rs1.length, rs2.length, nats_len]
    show 1 + l.length ≤ _
    omega
  · have e12 := e1.trans e2
    refine q p _ _ (e12.trans (Ex.new hp)) (fresh_back e12 hp) upd_same ?_
    show Reps K _ _ ([nat l.length] ++ nats l)
    exact ((rs1.mono (cold_mono e2)).append rs2).mono (cold_more hp)
theorem ef_lin {te : TE} {σ : L2.St} {M : List Addr} {H : Hp} {l : List Nat} (hM : Hot M H) (h : EvF K te σ M H (.tup (nats l))) (hl : l.length ≤ 1000) : EvF K (tCall (spL K R_list_in_numbers) [] E0 (tCons te tNil)) σ M H (.lst (nats (counted l))) := ef_callL hM (es_cons h es_nil) ⟨l, rfl, hl, rfl⟩
abbrev R_row_in_numbers : List Dv → Dv → Prop := fun ds d => ∃ r, ds = [encRow r] ∧ RowForm r ∧ d = .lst (nats r.nums)
theorem ok_row_in_numbers (T : Top K mg A) : DefOk P w K mg base 2 A.f_row_in_numbers "row_in_numbers" ["row"] (spR K R_row_in_numbers) := by
  refine dv_row_in_numbers T (ok_list_in_numbers T) (spR_len (fun ds d ⟨l, hd, _⟩ => by rw [hd]; rfl)) (fun vs H Q E ⟨M, ds, d, hM, rs, ⟨r, hd, hf, he⟩, q⟩ => ?_)
  subst hd he
  have S : At K H M H (start N_row_in_numbers vs) [.dat (encRow r)] := At.start hM rs
  cases r with
  | call x g as =>
    have hl : as.length ≤ 4 := hf
    have hx : ∀ {H1}, Ex H H1 → EvF K (tVar 0) (start N_row_in_numbers vs) M H1 (.tup [.int 4, nat x, nat g, .tup (nats as)]) := fun e => (ef_var S rfl).mono e
    refine sf_if S (eb_test (ef_eq (ef_t (i := 0) (hx (Ex.refl _)) rfl) ef_int)) (fun _ H1 e1 S1 => ?_) (fun hb => by cases hb)
    refine sf_ret S1 (ef_cat S1.heat (ef_listT S1.heat (ef_takeT S1.heat (hx e1) (ef_n 3) (ltb rfl))) (ef_lin S1.heat (ef_t (i := 3) (hx e1) rfl) (by omega)) ?_) fun v H' e r => q v H' e ?_
    · show 3 + (nats (counted as)).length ≤ _
      rw [nats_len]
      show 3 + (as.length + 1) ≤ _
      omega
    · exact r
  | plain r =>
    cases r with
    | copy x a => exact absurd hf id
    | num x k =>
      have hx : ∀ {H1}, Ex H H1 → EvF K (tVar 0) (start N_row_in_numbers vs) M H1 (.tup [.int 0, nat x, nat k]) := fun e => (ef_var S rfl).mono e
      refine sf_if S (eb_test (ef_eq (ef_t (i := 0) (hx (Ex.refl _)) rfl) ef_int)) (fun hb => by cases hb) (fun _ H1 e1 S1 => ?_)
      exact sf_ret S1 (ef_listT S1.heat (hx e1)) q
    | two x o a b =>
      have hx : ∀ {H1}, Ex H H1 → EvF K (tVar 0) (start N_row_in_numbers vs) M H1 (.tup [.int 2, nat x, nat o.num, nat a, nat b]) := fun e => (ef_var S rfl).mono e
      refine sf_if S (eb_test (ef_eq (ef_t (i := 0) (hx (Ex.refl _)) rfl) ef_int)) (fun hb => by cases hb) (fun _ H1 e1 S1 => ?_)
      exact sf_ret S1 (ef_listT S1.heat (hx e1)) q
    | say a =>
      have hx : ∀ {H1}, Ex H H1 → EvF K (tVar 0) (start N_row_in_numbers vs) M H1 (.tup [.int 3, nat a]) := fun e => (ef_var S rfl).mono e
      refine sf_if S (eb_test (ef_eq (ef_t (i := 0) (hx (Ex.refl _)) rfl) ef_int)) (fun hb => by cases hb) (fun _ H1 e1 S1 => ?_)
      exact sf_ret S1 (ef_listT S1.heat (hx e1)) q
abbrev R_ending_in_numbers : List Dv → Dv → Prop := fun ds d => ∃ e, ds = [encEnd e] ∧ EndForm e ∧ d = .lst (nats e.nums)
theorem ok_ending_in_numbers (T : Top K mg A) : DefOk P w K mg base 2 A.f_ending_in_numbers "ending_in_numbers" ["ending"] (spR K R_ending_in_numbers) := by
  refine dv_ending_in_numbers T (ok_list_in_numbers T) (spR_len (fun ds d ⟨l, hd, _⟩ => by rw [hd]; rfl)) (fun vs H Q E ⟨M, ds, d, hM, rs, ⟨e, hd, hf, he⟩, q⟩ => ?_)
  subst hd he
  have S : At K H M H (start N_ending_in_numbers vs) [.dat (encEnd e), .any] := At.start hM rs
  cases e with
  | jump t as =>
    have hl : as.length ≤ 8 := hf
    have hx : ∀ {H1}, Ex H H1 → EvF K (tVar 0) (start N_ending_in_numbers vs) M H1 (.tup [.int 0, nat t, .tup (nats as)]) := fun e => (ef_var S rfl).mono e
    refine sf_if S (eb_test (ef_eq (ef_t (i := 0) (hx (Ex.refl _)) rfl) ef_int)) (fun _ H1 e1 S1 => ?_) (fun hb => by cases hb)
    refine sf_ret S1 (ef_cat S1.heat (ef_listT S1.heat (ef_takeT S1.heat (hx e1) (ef_n 2) (ltb rfl))) (ef_lin S1.heat (ef_t (i := 2) (hx e1) rfl) (by omega)) ?_) fun v H' e r => q v H' e ?_
    · show 2 + (nats (counted as)).length ≤ _
      rw [nats_len]
      show 2 + (as.length + 1) ≤ _
      omega
    · exact r
  | fork v0 t as u bs =>
    have hl : as.length ≤ 8 ∧ bs.length ≤ 8 := hf
    have hx : ∀ {H1}, Ex H H1 → EvF K (tVar 0) (start N_ending_in_numbers vs) M H1 (.tup [.int 1, nat v0, nat t, .tup (nats as), nat u, .tup (nats bs)]) := fun e => (ef_var S rfl).mono e
    refine sf_if S (eb_test (ef_eq (ef_t (i := 0) (hx (Ex.refl _)) rfl) ef_int)) (fun hb => by cases hb) (fun _ H1 e1 S1 => ?_)
    refine sf_if S1 (eb_test (ef_eq (ef_t (i := 0) (hx e1) rfl) ef_int)) (fun _ H2 e2 S2 => ?_) (fun hb => by cases hb)
    have e12 := e1.trans e2
    have l1 : (nats (counted as)).length = as.length + 1 := nats_len _
    have l2 : (nats (counted bs)).length = bs.length + 1 := nats_len _
    refine sf_asg S2 (ef_cat S2.heat (ef_listT S2.heat (ef_takeT S2.heat (hx e12) (ef_n 3) (ltb rfl))) (ef_lin S2.heat (ef_t (i := 3) (hx e12) rfl) (by omega)) ?_) fun σ3 H3 e3 S3 => ?_
    · show 3 + (nats (counted as)).length ≤ _
      omega
    · have hx3 : EvF K (tVar 0) σ3 M H3 (.tup [.int 1, nat v0, nat t, .tup (nats as), nat u, .tup (nats bs)]) := ef_var S3 rfl
      refine sf_ret S3 (ef_cat S3.heat (ef_cat S3.heat (ef_var S3 (i := 1) rfl) (ef_lst S3.heat (es_cons (ef_t (i := 4) hx3 rfl) es_nil) (leb rfl)) ?_) (ef_lin S3.heat (ef_t (i := 5) hx3 rfl) (by omega)) ?_) fun v H' e r => q v H' e ?_
      · rw [List.length_append]
        show (3 + (nats (counted as)).length) + 1 ≤ _
        omega
      · rw [List.length_append, List.length_append]
        show (3 + (nats (counted as)).length) + 1 + _ ≤ _
        omega
      · show Rep K _ v (.lst (nats (([1, v0, t] ++ counted as) ++ [u] ++ counted bs)))
        rw [nats_app, nats_app, nats_app]
        exact r
  | give v0 =>
    have hx : ∀ {H1}, Ex H H1 → EvF K (tVar 0) (start N_ending_in_numbers vs) M H1 (.tup [.int 2, nat v0]) := fun e => (ef_var S rfl).mono e
    refine sf_if S (eb_test (ef_eq (ef_t (i := 0) (hx (Ex.refl _)) rfl) ef_int)) (fun hb => by cases hb) (fun _ H1 e1 S1 => ?_)
    refine sf_if S1 (eb_test (ef_eq (ef_t (i := 0) (hx e1) rfl) ef_int)) (fun hb => by cases hb) (fun _ H2 e2 S2 => ?_)
    exact sf_ret S2 (ef_listT S2.heat (hx (e1.trans e2))) q
abbrev R_unended_in_numbers (A : Adr) : List Dv → Dv → Prop := fun ds d => ∃ ts rows e, ds = [encBlk A ts rows e] ∧ ts.length ≤ 1000 ∧ rows.length ≤ 100000 ∧ (∀ r ∈ rows, RowForm r) ∧ d = .lst (nats (openNums ts rows))
theorem ok_unended_in_numbers (T : Top K mg A) : DefOk P w K mg base 3 A.f_unended_in_numbers "unended_in_numbers" ["block"] (spR K (R_unended_in_numbers A)) := by
  refine dv_unended_in_numbers T (ok_list_in_numbers T) (ok_row_in_numbers T) (spR_len (fun ds d ⟨ts, rows, e, hd, _⟩ => by rw [hd]; rfl)) (fun vs H Q E ⟨M, ds, d, hM, rs, ⟨ts, rows, e, hd, ht, hl, hf, he⟩, q⟩ => ?_)
  subst hd he
  have S : At K H M H (start N_unended_in_numbers vs) [.dat (encBlk A ts rows e), .any, .any] := At.start hM rs
  refine sf_newCall S (es_cons (ef_taken T (ef_var S (i := 0) rfl)) es_nil) ⟨ts, rfl, ht, rfl⟩ fun p σ1 H1 hpM e1 S1 => ?_
  have lc : (nats (counted ts)).length = ts.length + 1 := nats_len _
  refine sf_app S1 (j := 1) rfl (by rw [lc]; omega) (ef_lenM (ef_rows T (ef_var S1 (i := 0) rfl))) fun H2 S2 => ?_
  have e0 : nats (counted ts) ++ [nat rows.length] = nats (counted ts ++ (rows.length :: (rows.take 0).flatMap PRow.nums)) := by rw [nats_app]; rfl
  rw [e0] at S2
  refine sf_forL S2 (ef_rows T (ef_var S2 (i := 0) rfl)) (fun i ρ => ∃ x, ρ = [.dat (encBlk A ts rows e), .hot p (nats (counted ts ++ (rows.length :: (rows.take i).flatMap PRow.nums))), x]) ⟨⟨_, rfl⟩, fun B' i d σ3 H3 ρ3 eB hd ⟨x, hρ⟩ S3 => ?_, fun σ3 H3 ρ3 ⟨x, hρ⟩ S3 => ?_⟩
  · subst hρ
    obtain ⟨r, hr, rfl⟩ := map_get hd
    have hrf := hf r (mem_of_get hr)
    refine sf_ext S3 (j := 1) rfl (ef_callR S3.heat (es_cons (ef_var S3 rfl) es_nil) ⟨r, rfl, hrf, rfl⟩) ?_ fun H4 S4 => ?_
    · rw [nats_len, nats_len, List.length_append, List.length_cons]
      have h1 := rows_nums_le (rows := rows.take i) fun r hr => hf r (List.mem_of_mem_take hr)
      have h2 := row_nums_le hrf
      rw [List.length_take] at h1
      show (ts.length + 1) + _ + _ ≤ _
      omega
    · have e4 : counted ts ++ (rows.length :: (rows.take (i + 1)).flatMap PRow.nums) = (counted ts ++ (rows.length :: (rows.take i).flatMap PRow.nums)) ++ r.nums := by
        rw [(take_snoc hr).1, List.flatMap_append, List.append_assoc]
        simp
      rw [← nats_app, ← e4] at S4
      exact ⟨_, ⟨_, rfl⟩, S4⟩
  · subst hρ
    rw [List.length_map, List.take_length] at S3
    have S4 := S3.freeze hpM (i := 1) rfl
    exact sf_ret S4 (ef_var S4 rfl) fun v H' e r => q v H' e r
abbrev R_function_in_numbers (A : Adr) : List Dv → Dv → Prop := fun ds d => ∃ f, ds = [encFn A f] ∧ Fits f ∧ d = .lst (nats f.nums)
theorem ok_function_in_numbers (T : Top K mg A) : DefOk P w K mg base 4 A.f_function_in_numbers "function_in_numbers" ["function"] (spR K (R_function_in_numbers A)) := by
  refine dv_function_in_numbers T (ok_unended_in_numbers T) (ok_ending_in_numbers T) (spR_len (fun ds d ⟨f, hd, _⟩ => by rw [hd]; rfl)) (fun vs H Q E ⟨M, ds, d, hM, rs, ⟨f, hd, ft, he⟩, q⟩ => ?_)
  subst hd he
  have S : At K H M H (start N_function_in_numbers vs) [.dat (encFn A f), .any, .any] := At.start hM rs
  have hsz := ft.size
  refine sf_new S (es_cons (ef_handed T (ef_var S rfl)) (es_cons (ef_lenM (ef_blocks T (ef_var S rfl))) es_nil)) (leb rfl) (ltb rfl) fun p σ1 H1 hp1 hpM e1 S1 => ?_
  refine sf_forL S1 (ef_blocks T (ef_var S1 (i := 0) rfl)) (fun i ρ => ∃ x, ρ = [.dat (encFn A f), .hot p (nats (f.args :: f.blocks.length :: (f.blocks.take i).flatMap PBlock.nums)), x]) ⟨⟨_, rfl⟩, fun B' i d σ3 H3 ρ3 eB hd ⟨x, hρ⟩ S3 => ?_, fun σ3 H3 ρ3 ⟨x, hρ⟩ S3 => ?_⟩
  · subst hρ
    obtain ⟨b, hb, rfl⟩ := map_get hd
    have bm := mem_of_get hb
    have bf := ft.form.blocks b bm
    have bz := bsize_le bm
    have bz' : b.rows.length ≤ bsize b := by unfold bsize; omega
    have h1 := blocks_nums_le (bs := f.blocks.take i) fun b hb => ft.form.blocks b (List.mem_of_mem_take hb)
    have h2 := sum_take_le f.blocks bsize i
    have h3 := openNums_le (ts := b.takes) bf.rows
    have h4 := end_nums_le bf.last
    have h5 := bf.takes
    rw [← sizeFn_sum] at h2
    have hB : EvF K (tVar 2) σ3 (p :: M) H3 (encBlk A b.takes b.rows (encEnd b.last)) := ef_var S3 rfl
    refine sf_ext S3 (j := 1) rfl (ef_callR S3.heat (es_cons hB es_nil) ⟨b.takes, b.rows, _, rfl, by omega, by omega, bf.rows, rfl⟩) ?_ fun H4 S4 => ?_
    · rw [nats_len, nats_len, List.length_cons, List.length_cons]
      omega
    · rw [← nats_app] at S4
      have hB4 : EvF K (tVar 2) σ3 (p :: M) H4 (encBlk A b.takes b.rows (encEnd b.last)) := ef_var S4 rfl
      refine sf_ext S4 (j := 1) rfl (ef_callR S4.heat (es_cons (ef_ending T hB4) es_nil) ⟨b.last, rfl, bf.last, rfl⟩) ?_ fun H5 S5 => ?_
      · rw [nats_len, nats_len, List.length_append, List.length_cons, List.length_cons]
        omega
      · have e5 : f.args :: f.blocks.length :: (f.blocks.take (i + 1)).flatMap PBlock.nums = ((f.args :: f.blocks.length :: (f.blocks.take i).flatMap PBlock.nums) ++ openNums b.takes b.rows) ++ b.last.nums := by
          rw [(take_snoc hb).1, List.flatMap_append, List.append_assoc]
          simp [block_nums]
        rw [← nats_app, ← e5] at S5
        exact ⟨_, ⟨_, rfl⟩, S5⟩
  · subst hρ
    rw [List.length_map, List.take_length] at S3
    have S4 := S3.freeze hpM (i := 1) rfl
    exact sf_ret S4 (ef_var S4 rfl) fun v H' e r => q v H' e r
theorem fns_nums_le {p : Prog} (h : ∀ f ∈ p, Fits f) : (p.flatMap Fn.nums).length ≤ p.length * 600002 := flat_le p Fn.nums 600002 fun f hf => fn_nums_le (h f hf)
abbrev R_program_in_numbers (A : Adr) : List Dv → Dv → Prop := fun ds d => ∃ s : Cm09.St, ds = [encSt A s] ∧ s.prog.length ≤ 5 ∧ (∀ f ∈ s.prog, Fits f) ∧ d = .lst (nats (progNums s.prog))
theorem ok_program_in_numbers (T : Top K mg A) : DefOk P w K mg base 5 A.f_program_in_numbers "program_in_numbers" ["program"] (spR K (R_program_in_numbers A)) := by
  refine dv_program_in_numbers T (ok_function_in_numbers T) (spR_len (fun ds d ⟨f, hd, _⟩ => by rw [hd]; rfl)) (fun vs H Q E ⟨M, ds, d, hM, rs, ⟨s, hd, h5, ft, he⟩, q⟩ => ?_)
  subst hd he
  have S : At K H M H (start N_program_in_numbers vs) [.dat (encSt A s), .any, .any] := At.start hM rs
  refine sf_new S (es_cons (ef_lenM (ef_functions T (ef_var S rfl))) es_nil) (leb rfl) (ltb rfl) fun p σ1 H1 hp1 hpM e1 S1 => ?_
  refine sf_forL S1 (ef_functions T (ef_var S1 (i := 0) rfl)) (fun i ρ => ∃ x, ρ = [.dat (encSt A s), .hot p (nats (s.prog.length :: (s.prog.take i).flatMap Fn.nums)), x]) ⟨⟨_, rfl⟩, fun B' i d σ3 H3 ρ3 eB hd ⟨x, hρ⟩ S3 => ?_, fun σ3 H3 ρ3 ⟨x, hρ⟩ S3 => ?_⟩
  · subst hρ
    obtain ⟨f, hf, rfl⟩ := map_get hd
    have fm := ft f (mem_of_get hf)
    have h1 := fns_nums_le (p := s.prog.take i) fun f hf => ft f (List.mem_of_mem_take hf)
    have h2 := fn_nums_le fm
    rw [List.length_take] at h1
    refine sf_ext S3 (j := 1) rfl (ef_callR S3.heat (es_cons (ef_var S3 rfl) es_nil) ⟨f, rfl, fm, rfl⟩) ?_ fun H4 S4 => ?_
    · rw [nats_len, nats_len, List.length_cons]
      omega
    · have e5 : s.prog.length :: (s.prog.take (i + 1)).flatMap Fn.nums = (s.prog.length :: (s.prog.take i).flatMap Fn.nums) ++ f.nums := by
        rw [(take_snoc hf).1, List.flatMap_append]
        simp
      rw [← nats_app, ← e5] at S4
      exact ⟨_, ⟨_, rfl⟩, S4⟩
  · subst hρ
    rw [List.length_map, List.take_length] at S3
    have S4 := S3.freeze hpM (i := 1) rfl
    exact sf_ret S4 (ef_var S4 rfl) fun v H' e r => q v H' e r
end
end Pc

namespace Pc
open PySem PySem.Spec PyProof.Rows L2 Evl
open CmBase Cm09
/-! ### names -/
theorem rowNames_le {r : PRow} (h : RowForm r) : (rowNames r).length ≤ 5 := by
  cases r with
  | plain r => cases r <;> first | exact absurd h id | (show _ ≤ 5; simp [rowNames, Row.gives, Row.uses])
  | call x g as =>
    have h' : as.length ≤ 4 := h
    show as.length + 1 ≤ 5
    omega
theorem uses_le {e : CmBase.End} (h : EndForm e) : e.uses.length ≤ 17 := by
  cases e with
  | jump t as => have h' : as.length ≤ 8 := h; show as.length ≤ 17; omega
  | fork v t as u bs =>
    have h' : as.length ≤ 8 ∧ bs.length ≤ 8 := h
    show (v :: as ++ bs).length ≤ 17
    rw [List.length_append]
    show as.length + 1 + bs.length ≤ 17
    omega
  | give v => show 1 ≤ 17; decide
theorem rowsNames_le {rows : List PRow} (h : ∀ r ∈ rows, RowForm r) : (rows.flatMap rowNames).length ≤ rows.length * 5 := flat_le rows rowNames 5 fun r hr => rowNames_le (h r hr)
theorem bnames_le {b : PBlock} (h : BlkForm b) : (bnames b).length ≤ 20 * bsize b := by
  unfold bnames bsize
  rw [List.length_append, List.length_append]
  have h1 := rowsNames_le h.rows
  have h2 := uses_le h.last
  omega
theorem blocksNames_le {bs : List PBlock} (h : ∀ b ∈ bs, BlkForm b) : (bs.flatMap bnames).length ≤ 20 * (bs.map bsize).sum := by
  induction bs with
  | nil => simp
  | cons b r ih =>
    rw [List.flatMap_cons, List.length_append, List.map_cons, List.sum_cons]
    have h1 := bnames_le (h b List.mem_cons_self)
    have h2 := ih fun x hx => h x (List.mem_cons_of_mem _ hx)
    omega
theorem namesIn_eq (f : Fn) : namesIn f = List.range f.args ++ f.blocks.flatMap bnames := rfl
theorem nameList_last {f : Fn} (h : nameList f ≠ []) : ∃ l, nameList f = l ++ [above f - 1] ∧ 1 ≤ above f := by
  have h0 : above f ≠ 0 := fun z => h (by unfold nameList; rw [z]; rfl)
  have hm := above_mem h0
  refine ⟨(List.range (above f - 1)).filter fun y => (namesIn f).contains y, ?_, by omega⟩
  have e : above f = (above f - 1) + 1 := by omega
  unfold nameList
  conv => lhs; rw [e, List.range_succ, List.filter_append]
  refine congrArg _ ?_
  rw [List.filter_cons, if_pos (by rw [List.contains_iff_mem]; exact hm)]
  rfl
theorem nameList_nil {f : Fn} (h : nameList f = []) : above f = 0 := by
  apply Classical.byContradiction
  intro h0
  have := mem_nameList.mpr (above_mem h0)
  rw [h] at this
  cases this
section
variable {P : Program} {w : World} {K : PySem.W.Frag} {mg : Str → Option Value} {base : Heap} {A : Adr}
abbrev R_names_in_row : List Dv → Dv → Prop := fun ds d => ∃ r, ds = [encRow r] ∧ RowForm r ∧ d = .lst (nats (rowNames r))
theorem ok_names_in_row (T : Top K mg A) : DefOk P w K mg base 1 A.f_names_in_row "names_in_row" ["row"] (spR K R_names_in_row) := by
  refine dv_names_in_row T (spR_len (fun ds d ⟨l, hd, _⟩ => by rw [hd]; rfl)) (fun vs H Q E ⟨M, ds, d, hM, rs, ⟨r, hd, hf, he⟩, q⟩ => ?_)
  subst hd he
  have S : At K H M H (start N_names_in_row vs) [.dat (encRow r)] := At.start hM rs
  cases r with
  | call x g as =>
    have hl : as.length ≤ 4 := hf
    have hx : ∀ {H1}, Ex H H1 → EvF K (tVar 0) (start N_names_in_row vs) M H1 (.tup [.int 4, nat x, nat g, .tup (nats as)]) := fun e => (ef_var S rfl).mono e
    refine sf_if S (eb_test (ef_eq (ef_t (i := 0) (hx (Ex.refl _)) rfl) ef_int)) (fun hb => by cases hb) (fun _ H1 e1 S1 => ?_)
    refine sf_if S1 (eb_test (ef_eq (ef_t (i := 0) (hx e1) rfl) ef_int)) (fun _ H2 e2 S2 => ?_) (fun hb => by cases hb)
    have e12 := e1.trans e2
    refine sf_ret S2 (ef_cat S2.heat (ef_lst S2.heat (es_cons (ef_t (i := 1) (hx e12) rfl) es_nil) (leb rfl)) (ef_listT S2.heat (ef_t (i := 3) (hx e12) rfl)) ?_) fun v H' e r => q v H' e r
    show 1 + (nats as).length ≤ _
    rw [nats_len]
    omega
  | plain r =>
    cases r with
    | copy x a => exact absurd hf id
    | num x k =>
      have hx : ∀ {H1}, Ex H H1 → EvF K (tVar 0) (start N_names_in_row vs) M H1 (.tup [.int 0, nat x, nat k]) := fun e => (ef_var S rfl).mono e
      refine sf_if S (eb_test (ef_eq (ef_t (i := 0) (hx (Ex.refl _)) rfl) ef_int)) (fun hb => by cases hb) (fun _ H1 e1 S1 => ?_)
      refine sf_if S1 (eb_test (ef_eq (ef_t (i := 0) (hx e1) rfl) ef_int)) (fun hb => by cases hb) (fun _ H2 e2 S2 => ?_)
      exact sf_ret S2 (ef_lst S2.heat (es_cons (ef_t (i := 1) (hx (e1.trans e2)) rfl) es_nil) (leb rfl)) q
    | two x o a b =>
      have hx : ∀ {H1}, Ex H H1 → EvF K (tVar 0) (start N_names_in_row vs) M H1 (.tup [.int 2, nat x, nat o.num, nat a, nat b]) := fun e => (ef_var S rfl).mono e
      refine sf_if S (eb_test (ef_eq (ef_t (i := 0) (hx (Ex.refl _)) rfl) ef_int)) (fun _ H1 e1 S1 => ?_) (fun hb => by cases hb)
      exact sf_ret S1 (ef_lst S1.heat (es_cons (ef_t (i := 1) (hx e1) rfl) (es_cons (ef_t (i := 3) (hx e1) rfl) (es_cons (ef_t (i := 4) (hx e1) rfl) es_nil))) (leb rfl)) q
    | say a =>
      have hx : ∀ {H1}, Ex H H1 → EvF K (tVar 0) (start N_names_in_row vs) M H1 (.tup [.int 3, nat a]) := fun e => (ef_var S rfl).mono e
      refine sf_if S (eb_test (ef_eq (ef_t (i := 0) (hx (Ex.refl _)) rfl) ef_int)) (fun hb => by cases hb) (fun _ H1 e1 S1 => ?_)
      refine sf_if S1 (eb_test (ef_eq (ef_t (i := 0) (hx e1) rfl) ef_int)) (fun hb => by cases hb) (fun _ H2 e2 S2 => ?_)
      exact sf_ret S2 (ef_lst S2.heat (es_cons (ef_t (i := 1) (hx (e1.trans e2)) rfl) es_nil) (leb rfl)) q
abbrev R_names_in_ending : List Dv → Dv → Prop := fun ds d => ∃ e, ds = [encEnd e] ∧ EndForm e ∧ d = .lst (nats e.uses)
theorem ok_names_in_ending (T : Top K mg A) : DefOk P w K mg base 1 A.f_names_in_ending "names_in_ending" ["ending"] (spR K R_names_in_ending) := by
  refine dv_names_in_ending T (spR_len (fun ds d ⟨l, hd, _⟩ => by rw [hd]; rfl)) (fun vs H Q E ⟨M, ds, d, hM, rs, ⟨e, hd, hf, he⟩, q⟩ => ?_)
  subst hd he
  have S : At K H M H (start N_names_in_ending vs) [.dat (encEnd e)] := At.start hM rs
  cases e with
  | jump t as =>
    have hx : ∀ {H1}, Ex H H1 → EvF K (tVar 0) (start N_names_in_ending vs) M H1 (.tup [.int 0, nat t, .tup (nats as)]) := fun e => (ef_var S rfl).mono e
    refine sf_if S (eb_test (ef_eq (ef_t (i := 0) (hx (Ex.refl _)) rfl) ef_int)) (fun _ H1 e1 S1 => ?_) (fun hb => by cases hb)
    exact sf_ret S1 (ef_listT S1.heat (ef_t (i := 2) (hx e1) rfl)) q
  | fork v0 t as u bs =>
    have hl : as.length ≤ 8 ∧ bs.length ≤ 8 := hf
    have hx : ∀ {H1}, Ex H H1 → EvF K (tVar 0) (start N_names_in_ending vs) M H1 (.tup [.int 1, nat v0, nat t, .tup (nats as), nat u, .tup (nats bs)]) := fun e => (ef_var S rfl).mono e
    refine sf_if S (eb_test (ef_eq (ef_t (i := 0) (hx (Ex.refl _)) rfl) ef_int)) (fun hb => by cases hb) (fun _ H1 e1 S1 => ?_)
    refine sf_if S1 (eb_test (ef_eq (ef_t (i := 0) (hx e1) rfl) ef_int)) (fun _ H2 e2 S2 => ?_) (fun hb => by cases hb)
    have e12 := e1.trans e2
    have l1 : (nats as).length = as.length := nats_len _
    have l2 : (nats bs).length = bs.length := nats_len _
    refine sf_ret S2 (ef_cat S2.heat (ef_cat S2.heat (ef_lst S2.heat (es_cons (ef_t (i := 1) (hx e12) rfl) es_nil) (leb rfl)) (ef_listT S2.heat (ef_t (i := 3) (hx e12) rfl)) ?_) (ef_listT S2.heat (ef_t (i := 5) (hx e12) rfl)) ?_) fun v H' e r => q v H' e ?_
    · show 1 + (nats as).length ≤ _
      omega
    · rw [List.length_append]
      show (1 + (nats as).length) + _ ≤ _
      omega
    · show Rep K _ v (.lst (nats ((v0 :: as) ++ bs)))
      rw [nats_app]
      exact r
  | give v0 =>
    have hx : ∀ {H1}, Ex H H1 → EvF K (tVar 0) (start N_names_in_ending vs) M H1 (.tup [.int 2, nat v0]) := fun e => (ef_var S rfl).mono e
    refine sf_if S (eb_test (ef_eq (ef_t (i := 0) (hx (Ex.refl _)) rfl) ef_int)) (fun hb => by cases hb) (fun _ H1 e1 S1 => ?_)
    refine sf_if S1 (eb_test (ef_eq (ef_t (i := 0) (hx e1) rfl) ef_int)) (fun hb => by cases hb) (fun _ H2 e2 S2 => ?_)
    exact sf_ret S2 (ef_lst S2.heat (es_cons (ef_t (i := 1) (hx (e1.trans e2)) rfl) es_nil) (leb rfl)) q
abbrev R_names_of (A : Adr) : List Dv → Dv → Prop := fun ds d => ∃ f, ds = [encFn A f] ∧ Fits f ∧ d = .lst ((nameList f).map nat)
theorem ok_names_of (T : Top K mg A) : DefOk P w K mg base 2 A.f_names_of "names_of" ["function"] (spR K (R_names_of A)) := by
  refine dv_names_of T (ok_names_in_row T) (ok_names_in_ending T) (spR_len (fun ds d ⟨f, hd, _⟩ => by rw [hd]; rfl)) (fun vs H Q E ⟨M, ds, d, hM, rs, ⟨f, hd, ft, he⟩, q⟩ => ?_)
  subst hd he
  have S : At K H M H (start N_names_of vs) [.dat (encFn A f), .any, .any, .any] := At.start hM rs
  have hsz := ft.size
  have hag := ft.form.args
  refine sf_newRg S (ef_handed T (ef_var S rfl)) (by omega) fun p σ1 H1 hpM e1 S1 => ?_
  have e0 : List.range f.args = List.range f.args ++ (f.blocks.take 0).flatMap bnames := by simp
  rw [e0] at S1
  refine sf_forL S1 (ef_blocks T (ef_var S1 (i := 0) rfl)) (fun i ρ => ∃ x y, ρ = [.dat (encFn A f), .hot p (nats (List.range f.args ++ (f.blocks.take i).flatMap bnames)), x, y]) ⟨⟨_, _, rfl⟩, fun B' i d σ3 H3 ρ3 eB hd ⟨x, y, hρ⟩ S3 => ?_, fun σ3 H3 ρ3 ⟨x, y, hρ⟩ S3 => ?_⟩
  · subst hρ
    obtain ⟨b, hb, rfl⟩ := map_get hd
    have bm := mem_of_get hb
    have bf := ft.form.blocks b bm
    have bz := bsize_le bm
    have bz' : b.takes.length + b.rows.length ≤ bsize b := by unfold bsize; omega
    have h1 := blocksNames_le (bs := f.blocks.take i) fun b hb => ft.form.blocks b (List.mem_of_mem_take hb)
    have h2 := sum_take_le f.blocks bsize i
    rw [← sizeFn_sum] at h2
    have hB : EvF K (tVar 2) σ3 (p :: M) H3 (encBlk A b.takes b.rows (encEnd b.last)) := ef_var S3 rfl
    have hpre : (List.range f.args ++ (f.blocks.take i).flatMap bnames).length ≤ 400100 := by
      rw [List.length_append, List.length_range]
      omega
    generalize hpq : List.range f.args ++ (f.blocks.take i).flatMap bnames = pre at S3 hpre
    refine sf_extT S3 (j := 1) rfl (ef_taken T hB) ?_ fun H4 S4 => ?_
    · rw [nats_len, nats_len]
      omega
    · rw [← nats_app] at S4
      have hB4 : EvF K (tVar 2) σ3 (p :: M) H4 (encBlk A b.takes b.rows (encEnd b.last)) := ef_var S4 rfl
      have e4 : pre ++ b.takes = (pre ++ b.takes) ++ (b.rows.take 0).flatMap rowNames := by simp
      rw [e4] at S4
      refine sf_forL S4 (ef_rows T hB4) (fun j ρ => ∃ y, ρ = [.dat (encFn A f), .hot p (nats ((pre ++ b.takes) ++ (b.rows.take j).flatMap rowNames)), .dat (encBlock A b), y]) ⟨⟨_, rfl⟩, fun B5 j d σ5 H5 ρ5 eB5 hd5 ⟨y5, hρ5⟩ S5 => ?_, fun σ5 H5 ρ5 ⟨y5, hρ5⟩ S5 => ?_⟩
      · subst hρ5
        obtain ⟨r, hr, rfl⟩ := map_get hd5
        have rf := bf.rows r (mem_of_get hr)
        have h3 := rowsNames_le (rows := b.rows.take j) fun r hr => bf.rows r (List.mem_of_mem_take hr)
        have h4 := rowNames_le rf
        rw [List.length_take] at h3
        refine sf_ext S5 (j := 1) rfl (ef_callR S5.heat (es_cons (ef_var S5 rfl) es_nil) ⟨r, rfl, rf, rfl⟩) ?_ fun H6 S6 => ?_
        · rw [nats_len, nats_len, List.length_append, List.length_append]
          omega
        · have e6 : (pre ++ b.takes) ++ (b.rows.take (j + 1)).flatMap rowNames = ((pre ++ b.takes) ++ (b.rows.take j).flatMap rowNames) ++ rowNames r := by
            rw [(take_snoc hr).1, List.flatMap_append, List.append_assoc (pre ++ b.takes)]
            simp
          rw [← nats_app, ← e6] at S6
          exact ⟨_, ⟨_, rfl⟩, S6⟩
      · subst hρ5
        rw [List.length_map, List.take_length] at S5
        have hB5 : EvF K (tVar 2) σ5 (p :: M) H5 (encBlk A b.takes b.rows (encEnd b.last)) := ef_var S5 rfl
        have h3 := rowsNames_le bf.rows
        have h4 := uses_le bf.last
        refine sf_ext S5 (j := 1) rfl (ef_callR S5.heat (es_cons (ef_ending T hB5) es_nil) ⟨b.last, rfl, bf.last, rfl⟩) ?_ fun H6 S6 => ?_
        · rw [nats_len, nats_len, List.length_append, List.length_append]
          omega
        · have e6 : List.range f.args ++ (f.blocks.take (i + 1)).flatMap bnames = ((pre ++ b.takes) ++ b.rows.flatMap rowNames) ++ b.last.uses := by
            rw [(take_snoc hb).1, List.flatMap_append, ← List.append_assoc, hpq]
            show pre ++ (bnames b ++ []) = _
            rw [List.append_nil]
            unfold bnames
            rw [← List.append_assoc]; rw [← List.append_assoc]
          rw [← nats_app, ← e6] at S6
          exact ⟨_, ⟨_, _, rfl⟩, S6⟩
  · subst hρ
    rw [List.length_map, List.take_length, ← namesIn_eq] at S3
    have S4 := S3.freeze hpM (i := 1) rfl
    exact sf_ret S4 (ef_sortedSet S4.heat (ef_var S4 rfl) (fun x hx => by have := lt_above hx; have := ft.above; omega) (nameList_lt f) fun k => mem_nameList) fun v H' e r => q v H' e r
abbrev R_other_names (A : Adr) : List Dv → Dv → Prop := fun ds d => ∃ f, ds = [encFn A f] ∧ Fits f ∧ d = .lst ((others f).map nat)
theorem nm_le {f : Fn} (h : Fits f) : (nameList f).length ≤ 1944 := Nat.le_trans (nm_above f) h.above
theorem ok_other_names (T : Top K mg A) : DefOk P w K mg base 3 A.f_other_names "other_names" ["function"] (spR K (R_other_names A)) := by
  refine dv_other_names T (ok_names_of T) (spR_len (fun ds d ⟨f, hd, _⟩ => by rw [hd]; rfl)) (fun vs H Q E ⟨M, ds, d, hM, rs, ⟨f, hd, ft, he⟩, q⟩ => ?_)
  subst hd he
  have S : At K H M H (start N_other_names vs) [.dat (encFn A f), .any] := At.start hM rs
  have hl := nm_le ft
  rw [others_eq] at q
  exact sf_ret S (ef_lcL (enc := nat) (fun y => decide (f.args ≤ y)) nat S (ef_callR S.heat (es_cons (ef_var S rfl) es_nil) ⟨f, rfl, ft, rfl⟩) (by omega) (fun x M' H' σ' _ S' => eb_test (ef_geN (ef_var S' rfl) (ef_handed T (ef_var S' rfl)))) fun x M' H' σ' _ S' _ => ef_var S' rfl) fun v H' e r => q v H' e r
abbrev R_first_free_name (A : Adr) : List Dv → Dv → Prop := fun ds d => ∃ f, ds = [encFn A f] ∧ Fits f ∧ d = nat (above f)
theorem ok_first_free_name (T : Top K mg A) : DefOk P w K mg base 3 A.f_first_free_name "first_free_name" ["function"] (spR K (R_first_free_name A)) := by
  refine dv_first_free_name T (ok_names_of T) (spR_len (fun ds d ⟨f, hd, _⟩ => by rw [hd]; rfl)) (fun vs H Q E ⟨M, ds, d, hM, rs, ⟨f, hd, ft, he⟩, q⟩ => ?_)
  subst hd he
  have S : At K H M H (start N_first_free_name vs) [.dat (encFn A f), .any] := At.start hM rs
  refine sf_asg S (ef_callR S.heat (es_cons (ef_var S rfl) es_nil) ⟨f, rfl, ft, rfl⟩) fun σ1 H1 e1 S1 => ?_
  refine sf_if S1 (eb_test (ef_eqN (ef_lenM (ef_var S1 (i := 1) rfl)) (ef_n 0))) (fun hb H2 e2 S2 => ?_) (fun hb H2 e2 S2 => ?_)
  · have hz : nameList f = [] := List.length_eq_zero_iff.mp (of_decide_eq_true hb)
    refine sf_ret S2 (ef_n 0) fun v H' e r => q v H' e ?_
    rw [nameList_nil hz]
    exact r
  · have hne : nameList f ≠ [] := fun z => by rw [z] at hb; simp at hb
    obtain ⟨l, hl, h1⟩ := nameList_last hne
    have hlast : atI ((nameList f).map nat) (-1) = some (nat (above f - 1)) := by
      rw [hl, List.map_append]
      exact atI_last _ _
    refine sf_ret S2 (ef_addN (ef_ixL (ef_var S2 (i := 1) rfl) (ef_neg ef_int) hlast) (ef_n 1)) fun v H' e r => q v H' e ?_
    have e : above f - 1 + 1 = above f := by omega
    rw [e] at r
    exact r
abbrev R_names_above : List Dv → Dv → Prop := fun ds d => ∃ (l : List Nat) (k : Nat), ds = [.tup (nats l), nat k] ∧ l.length ≤ 1000 ∧ d = .tup (nats (l.map fun y => k + y))
theorem ok_names_above (T : Top K mg A) : DefOk P w K mg base 1 A.f_names_above "names_above" ["names", "d"] (spR K R_names_above) := by
  refine dv_names_above T (spR_len (fun ds d ⟨l, k, hd, _⟩ => by rw [hd]; rfl)) (fun vs H Q E ⟨M, ds, d, hM, rs, ⟨l, k, hd, hl, he⟩, q⟩ => ?_)
  subst hd he
  have S : At K H M H (start N_names_above vs) [.dat (.tup (nats l)), .dat (nat k), .any] := At.start hM rs
  refine sf_ret S (ef_tupleL S.heat (ef_lcT (enc := nat) (fun _ => true) (fun y => nat (y + k)) S (ef_var S rfl) (by omega) (fun x M' H' σ' _ S' => eb_yes) fun x M' H' σ' _ S' _ => ef_addN (ef_var S' rfl) (ef_var S' rfl))) fun v H' e r => q v H' e ?_
  have e : ((l.filter fun _ => true).map fun y => nat (y + k)) = nats (l.map fun y => k + y) := by
    rw [filter_all]
    unfold nats
    rw [List.map_map]
    exact List.map_congr_left fun x _ => by show nat (x + k) = nat (k + x); rw [Nat.add_comm]
  rw [e] at r
  exact r
theorem ef_above {te tb : TE} {σ : L2.St} {M : List Addr} {H : Hp} {l : List Nat} {k : Nat} (hM : Hot M H) (h : EvF K te σ M H (.tup (nats l))) (hb : EvF K tb σ M H (nat k)) (hl : l.length ≤ 1000) : EvF K (tCall (spR K R_names_above) [] E0 (tCons te (tCons tb tNil))) σ M H (.tup (nats (l.map fun y => k + y))) :=
  ef_callR hM (es_cons h (es_cons hb es_nil)) ⟨l, k, rfl, hl, rfl⟩
theorem ef_plus {ta tb : TE} {σ : L2.St} {M : List Addr} {H : Hp} {a b : Nat} (ha : EvF K ta σ M H (nat a)) (hb : EvF K tb σ M H (nat b)) : EvF K (tOp rAddI ta tb) σ M H (nat (b + a)) := (ef_addN ha hb).cast (by rw [Nat.add_comm])
abbrev R_row_above : List Dv → Dv → Prop := fun ds d => ∃ (r : PRow) (k : Nat), ds = [encRow r, nat k] ∧ RowForm r ∧ d = encRow (shiftRow k r)
theorem ok_row_above (T : Top K mg A) : DefOk P w K mg base 2 A.f_row_above "row_above" ["row", "d"] (spR K R_row_above) := by
  refine dv_row_above T (ok_names_above T) (spR_len (fun ds d ⟨r, k, hd, _⟩ => by rw [hd]; rfl)) (fun vs H Q E ⟨M, ds, d, hM, rs, ⟨r, k, hd, hf, he⟩, q⟩ => ?_)
  subst hd he
  have S : At K H M H (start N_row_above vs) [.dat (encRow r), .dat (nat k)] := At.start hM rs
  cases r with
  | call x g as =>
    have hl : as.length ≤ 4 := hf
    have hx : ∀ {H1}, Ex H H1 → EvF K (tVar 0) (start N_row_above vs) M H1 (.tup [.int 4, nat x, nat g, .tup (nats as)]) := fun e => (ef_var S rfl).mono e
    refine sf_if S (eb_test (ef_eq (ef_t (i := 0) (hx (Ex.refl _)) rfl) ef_int)) (fun hb => by cases hb) (fun _ H1 e1 S1 => ?_)
    refine sf_if S1 (eb_test (ef_eq (ef_t (i := 0) (hx e1) rfl) ef_int)) (fun hb => by cases hb) (fun _ H2 e2 S2 => ?_)
    have e12 := e1.trans e2
    refine sf_if S2 (eb_test (ef_eq (ef_t (i := 0) (hx e12) rfl) ef_int)) (fun _ H3 e3 S3 => ?_) (fun hb => by cases hb)
    have e13 := e12.trans e3
    exact sf_ret S3 (ef_tup S3.heat (es_cons (ef_t (i := 0) (hx e13) rfl) (es_cons (ef_plus (ef_t (i := 1) (hx e13) rfl) (ef_var S3 rfl)) (es_cons (ef_t (i := 2) (hx e13) rfl) (es_cons (ef_above S3.heat (ef_t (i := 3) (hx e13) rfl) (ef_var S3 rfl) (by omega)) es_nil)))) (leb rfl)) q
  | plain r =>
    cases r with
    | copy x a => exact absurd hf id
    | num x n =>
      have hx : ∀ {H1}, Ex H H1 → EvF K (tVar 0) (start N_row_above vs) M H1 (.tup [.int 0, nat x, nat n]) := fun e => (ef_var S rfl).mono e
      refine sf_if S (eb_test (ef_eq (ef_t (i := 0) (hx (Ex.refl _)) rfl) ef_int)) (fun _ H1 e1 S1 => ?_) (fun hb => by cases hb)
      exact sf_ret S1 (ef_tup S1.heat (es_cons (ef_t (i := 0) (hx e1) rfl) (es_cons (ef_plus (ef_t (i := 1) (hx e1) rfl) (ef_var S1 rfl)) (es_cons (ef_t (i := 2) (hx e1) rfl) es_nil))) (leb rfl)) q
    | two x o a b =>
      have hx : ∀ {H1}, Ex H H1 → EvF K (tVar 0) (start N_row_above vs) M H1 (.tup [.int 2, nat x, nat o.num, nat a, nat b]) := fun e => (ef_var S rfl).mono e
      refine sf_if S (eb_test (ef_eq (ef_t (i := 0) (hx (Ex.refl _)) rfl) ef_int)) (fun hb => by cases hb) (fun _ H1 e1 S1 => ?_)
      refine sf_if S1 (eb_test (ef_eq (ef_t (i := 0) (hx e1) rfl) ef_int)) (fun _ H2 e2 S2 => ?_) (fun hb => by cases hb)
      have e12 := e1.trans e2
      exact sf_ret S2 (ef_tup S2.heat (es_cons (ef_t (i := 0) (hx e12) rfl) (es_cons (ef_plus (ef_t (i := 1) (hx e12) rfl) (ef_var S2 rfl)) (es_cons (ef_t (i := 2) (hx e12) rfl) (es_cons (ef_plus (ef_t (i := 3) (hx e12) rfl) (ef_var S2 rfl)) (es_cons (ef_plus (ef_t (i := 4) (hx e12) rfl) (ef_var S2 rfl)) es_nil))))) (leb rfl)) q
    | say a =>
      have hx : ∀ {H1}, Ex H H1 → EvF K (tVar 0) (start N_row_above vs) M H1 (.tup [.int 3, nat a]) := fun e => (ef_var S rfl).mono e
      refine sf_if S (eb_test (ef_eq (ef_t (i := 0) (hx (Ex.refl _)) rfl) ef_int)) (fun hb => by cases hb) (fun _ H1 e1 S1 => ?_)
      refine sf_if S1 (eb_test (ef_eq (ef_t (i := 0) (hx e1) rfl) ef_int)) (fun hb => by cases hb) (fun _ H2 e2 S2 => ?_)
      have e12 := e1.trans e2
      refine sf_if S2 (eb_test (ef_eq (ef_t (i := 0) (hx e12) rfl) ef_int)) (fun hb => by cases hb) (fun _ H3 e3 S3 => ?_)
      have e13 := e12.trans e3
      exact sf_ret S3 (ef_tup S3.heat (es_cons (ef_t (i := 0) (hx e13) rfl) (es_cons (ef_plus (ef_t (i := 1) (hx e13) rfl) (ef_var S3 rfl)) es_nil)) (leb rfl)) q
abbrev R_copied_ending : List Dv → Dv → Prop := fun ds d => ∃ (e : CmBase.End) (k n c : Nat), ds = [encEnd e, nat k, nat n, nat c] ∧ EndForm e ∧ d = encEnd (shiftEnd k n c e)
theorem ok_copied_ending (T : Top K mg A) : DefOk P w K mg base 2 A.f_copied_ending "copied_ending" ["ending", "d", "n", "c"] (spR K R_copied_ending) := by
  refine dv_copied_ending T (ok_names_above T) (spR_len (fun ds d ⟨e, k, n, c, hd, _⟩ => by rw [hd]; rfl)) (fun vs H Q E ⟨M, ds, d, hM, rs, ⟨e, k, n, c, hd, hf, he⟩, q⟩ => ?_)
  subst hd he
  have S : At K H M H (start N_copied_ending vs) [.dat (encEnd e), .dat (nat k), .dat (nat n), .dat (nat c), .any, .any] := At.start hM rs
  cases e with
  | jump t as =>
    have hl : as.length ≤ 8 := hf
    have hx : ∀ {H1}, Ex H H1 → EvF K (tVar 0) (start N_copied_ending vs) M H1 (.tup [.int 0, nat t, .tup (nats as)]) := fun e => (ef_var S rfl).mono e
    refine sf_if S (eb_test (ef_eq (ef_t (i := 0) (hx (Ex.refl _)) rfl) ef_int)) (fun _ H1 e1 S1 => ?_) (fun hb => by cases hb)
    exact sf_ret S1 (ef_tup S1.heat (es_cons ef_int (es_cons (ef_plus (ef_t (i := 1) (hx e1) rfl) (ef_var S1 (i := 2) rfl)) (es_cons (ef_above S1.heat (ef_t (i := 2) (hx e1) rfl) (ef_var S1 (i := 1) rfl) (by omega)) es_nil))) (leb rfl)) q
  | fork v0 t as u bs =>
    have hl : as.length ≤ 8 ∧ bs.length ≤ 8 := hf
    have hx : ∀ {H1}, Ex H H1 → EvF K (tVar 0) (start N_copied_ending vs) M H1 (.tup [.int 1, nat v0, nat t, .tup (nats as), nat u, .tup (nats bs)]) := fun e => (ef_var S rfl).mono e
    refine sf_if S (eb_test (ef_eq (ef_t (i := 0) (hx (Ex.refl _)) rfl) ef_int)) (fun hb => by cases hb) (fun _ H1 e1 S1 => ?_)
    refine sf_if S1 (eb_test (ef_eq (ef_t (i := 0) (hx e1) rfl) ef_int)) (fun _ H2 e2 S2 => ?_) (fun hb => by cases hb)
    have e12 := e1.trans e2
    refine sf_asg S2 (ef_above S2.heat (ef_t (i := 3) (hx e12) rfl) (ef_var S2 (i := 1) rfl) (by omega)) fun σ3 H3 e3 S3 => ?_
    have hx3 : EvF K (tVar 0) σ3 M H3 (.tup [.int 1, nat v0, nat t, .tup (nats as), nat u, .tup (nats bs)]) := ef_var S3 rfl
    refine sf_asg S3 (ef_above S3.heat (ef_t (i := 5) hx3 rfl) (ef_var S3 (i := 1) rfl) (by omega)) fun σ4 H4 e4 S4 => ?_
    have hx4 : EvF K (tVar 0) σ4 M H4 (.tup [.int 1, nat v0, nat t, .tup (nats as), nat u, .tup (nats bs)]) := ef_var S4 rfl
    exact sf_ret S4 (ef_tup S4.heat (es_cons ef_int (es_cons (ef_plus (ef_t (i := 1) hx4 rfl) (ef_var S4 (i := 1) rfl)) (es_cons (ef_plus (ef_t (i := 2) hx4 rfl) (ef_var S4 (i := 2) rfl)) (es_cons (ef_var S4 (i := 4) rfl) (es_cons (ef_plus (ef_t (i := 4) hx4 rfl) (ef_var S4 (i := 2) rfl)) (es_cons (ef_var S4 (i := 5) rfl) es_nil)))))) (leb rfl)) q
  | give v0 =>
    have hx : ∀ {H1}, Ex H H1 → EvF K (tVar 0) (start N_copied_ending vs) M H1 (.tup [.int 2, nat v0]) := fun e => (ef_var S rfl).mono e
    refine sf_if S (eb_test (ef_eq (ef_t (i := 0) (hx (Ex.refl _)) rfl) ef_int)) (fun hb => by cases hb) (fun _ H1 e1 S1 => ?_)
    refine sf_if S1 (eb_test (ef_eq (ef_t (i := 0) (hx e1) rfl) ef_int)) (fun hb => by cases hb) (fun _ H2 e2 S2 => ?_)
    have e12 := e1.trans e2
    exact sf_ret S2 (ef_tup S2.heat (es_cons ef_int (es_cons (ef_var S2 (i := 3) rfl) (es_cons (ef_tup S2.heat (es_cons (ef_plus (ef_t (i := 1) (hx e12) rfl) (ef_var S2 (i := 1) rfl)) es_nil) (leb rfl)) es_nil))) (leb rfl)) q
/-! sizes -/
abbrev R_function_size (A : Adr) : List Dv → Dv → Prop := fun ds d => ∃ f, ds = [encFn A f] ∧ f.blocks.length ≤ 100000 ∧ d = nat (sizeFn f)
theorem ok_function_size (T : Top K mg A) : DefOk P w K mg base 1 A.f_function_size "function_size" ["function"] (spR K (R_function_size A)) := by
  refine dv_function_size T (spR_len (fun ds d ⟨f, hd, _⟩ => by rw [hd]; rfl)) (fun vs H Q E ⟨M, ds, d, hM, rs, ⟨f, hd, hl, he⟩, q⟩ => ?_)
  subst hd he
  have S : At K H M H (start N_function_size vs) [.dat (encFn A f), .any] := At.start hM rs
  rw [sizeFn_sum] at q
  refine sf_ret S (ef_sumM (ef_lcL (enc := encBlock A) (fun _ => true) (fun b => nat (bsize b)) S (ef_blocks T (ef_var S (i := 0) rfl)) (by omega) (fun x M' H' σ' _ S' => eb_yes) fun b M' H' σ' _ S' _ => ?_)) fun v H' e r => q v H' e r
  have hB : EvF K (tVar 1) σ' M' H' (encBlk A b.takes b.rows (encEnd b.last)) := ef_var S' rfl
  exact ef_addN (ef_addN (ef_lenTM (ef_taken T hB)) (ef_lenM (ef_rows T hB))) (ef_n 1)
abbrev R_program_size (A : Adr) : List Dv → Dv → Prop := fun ds d => ∃ s, ds = [encSt A s] ∧ Small s ∧ d = nat (size s.prog)
theorem ok_program_size (T : Top K mg A) : DefOk P w K mg base 2 A.f_program_size "program_size" ["program"] (spR K (R_program_size A)) := by
  refine dv_program_size T (ok_function_size T) (spR_len (fun ds d ⟨f, hd, _⟩ => by rw [hd]; rfl)) (fun vs H Q E ⟨M, ds, d, hM, rs, ⟨s, hd, sm, he⟩, q⟩ => ?_)
  subst hd he
  have S : At K H M H (start N_program_size vs) [.dat (encSt A s), .any] := At.start hM rs
  have h5 := sm.fns
  rw [size_sum] at q
  exact sf_ret S (ef_sumM (ef_lcL (enc := encFn A) (fun _ => true) (fun f => nat (sizeFn f)) S (ef_functions T (ef_var S (i := 0) rfl)) (by omega) (fun x M' H' σ' _ S' => eb_yes) fun f M' H' σ' hm S' _ => ef_callR S'.heat (es_cons (ef_var S' rfl) es_nil) ⟨f, rfl, Nat.le_trans (sm.fn f hm).many (by decide), rfl⟩)) fun v H' e r => q v H' e r
end
end Pc

namespace Pc
open PySem PySem.Spec PyProof.Rows L2 Evl
open CmBase Cm09
section
variable {K : PySem.W.Frag} {B H H' H1 : Hp} {M M' : List Addr} {σ : L2.St} {ρ : List Sv} {v : V} {d : Dv} {i : Nat} {te ta tb : TE} {D : Ends} {as : TA} {ds es : List Dv}
theorem sv_ext {p : Addr} {vs : List V} (h : Ev ta σ H (.ref p)) (hp : H p = some (.lst vs)) (he : EvF K te σ M H (.lst es)) (hz : vs.length + es.length ≤ 16000000) (k : ∀ ws H', Ex H H' → Reps K (cold M H') ws es → D.nx σ (upd H' p (.lst (vs ++ ws)))) :
    tDrop (tBM K "list" rExtend ta (tCons te tNil)) D σ H := h H (Ex.refl H) _ fun H1 e1 => ⟨Or.inl ⟨rfl, vs, sq_of (e1 _ _ hp)⟩, he H1 e1 _ fun u H2 e2 r => by
  obtain ⟨b, ws, rfl, hb, rw'⟩ := r.of_lst
  exact ⟨p, b, vs, ws, rfl, rfl, e2 _ _ (e1 _ _ hp), cold_ex _ _ hb, szB (by rw [rw'.length]; exact hz), k ws H2 (e1.trans e2) rw'⟩⟩
theorem sv_appE {p : Addr} {vs : List V} (h : Ev ta σ H (.ref p)) (hp : H p = some (.lst vs)) (he : EvF K te σ M H d) (hz : vs.length < 16000000) (k : ∀ v H', Ex H H' → Rep K (cold M H') v d → D.nx σ (upd H' p (.lst (vs ++ [v])))) :
    tDrop (tBM K "list" rAppend ta (tCons te tNil)) D σ H := h H (Ex.refl H) _ fun H1 e1 => ⟨Or.inl ⟨rfl, vs, sq_of (e1 _ _ hp)⟩, he H1 e1 _ fun u H2 e2 r => ⟨p, vs, u, rfl, rfl, e2 _ _ (e1 _ _ hp), szL hz, k u H2 (e1.trans e2) r⟩⟩
theorem sv_setE {p : Addr} {vs : List V} {m : Int} {n : Nat} (h : ∀ H1, Ex H H1 → Ev ta σ H1 (.ref p)) (hp : H p = some (.lst vs)) (he : EvF K te σ M H d) (hi : EvF K tb σ M H (.int m)) (hn : ixN vs.length m = some n) (k : ∀ v H', Ex H H' → Rep K (cold M H') v d → D.nx σ (upd H' p (.lst (vs.set n v)))) :
    tAsg te (gSub ta tb rSetL) D σ H := he H (Ex.refl H) _ fun u H1 e1 r => h H1 e1 H1 (Ex.refl _) _ fun H2 e2 => hi.int (e1.trans e2) fun H3 e3 =>
      ⟨p, vs, m, n, rfl, rfl, e3 _ _ (e2 _ _ (e1 _ _ hp)), hn, k u H3 ((e1.trans e2).trans e3) (r.mono (cold_mono (e2.trans e3)))⟩
end
section
variable {P : Program} {w : World} {K : PySem.W.Frag} {mg : Str → Option Value} {base : Heap} {A : Adr}
theorem sm_Block {σ : L2.St} {H : Hp} {te : TE} {t : V} {D : Ends} {i : Nat} (h : Ev te σ H t) (k : ∀ x rl H', Ex H H' → H x = none → H rl = none → rl ≠ x → (∃ dx, H' x = some (.ins A.C_Block dx [("taken", t), ("rows", .ref rl), ("ending", .non)])) → H' rl = some (.lst []) → D.nx (σ.set i (some (.ref x))) H') :
    tAsg (tMake A.C_Block (sp_Block A) [] E0 (tCons te tNil)) (gName i) D σ H := mk_Block h k
theorem sm_Function {σ : L2.St} {H : Hp} {te : TE} {t : V} {D : Ends} {i : Nat} (h : Ev te σ H t) (k : ∀ x bl H', Ex H H' → H x = none → H bl = none → bl ≠ x → (∃ dx, H' x = some (.ins A.C_Function dx [("handed", t), ("blocks", .ref bl)])) → H' bl = some (.lst []) → D.nx (σ.set i (some (.ref x))) H') :
    tAsg (tMake A.C_Function (sp_Function A) [] E0 (tCons te tNil)) (gName i) D σ H := mk_Function h k
/-! ### blocks and functions made anew -/
abbrev R_block_of (A : Adr) : List Dv → Dv → Prop := fun ds d => ∃ ts rows e, ds = [.tup (nats ts), .lst (rows.map encRow), encEnd e] ∧ rows.length ≤ 100000 ∧ d = encBlk A ts rows (encEnd e)
theorem ok_block_of (T : Top K mg A) : DefOk P w K mg base 3 A.f_block_of "block_of" ["taken", "rows", "ending"] (spR K (R_block_of A)) := by
  refine dv_block_of T (ok_Block T) (spR_len (fun ds d ⟨ts, rows, e, hd, _⟩ => by rw [hd]; rfl)) (fun vs H Q E ⟨M, ds, d, hM, rs, ⟨ts, rows, e, hd, hl, he⟩, q⟩ => ?_)
  subst hd he
  have S : At K H M H (start N_block_of vs) [.dat (.tup (nats ts)), .dat (.lst (rows.map encRow)), .dat (encEnd e), .any] := At.start hM rs
  obtain ⟨tv, ht, rt⟩ := S.env.dat (i := 0) rfl
  obtain ⟨ev, hev, re⟩ := S.env.dat (i := 2) rfl
  refine sm_Block (ev_var ht) fun x rl H1 e1 nx nr hxr ⟨dx, hx⟩ hrl => ?_
  have S1 : At K H ([x, rl] ++ M) H1 ((start N_block_of vs).set 3 (some (.ref x))) [.dat (.tup (nats ts)), .dat (.lst (rows.map encRow)), .dat (encEnd e), .val (.ref x)] := (S.warm (N := [x, rl]) e1 (fun y hy => by
    rcases List.mem_cons.1 hy with z | z
    · rw [z, hx]; exact ⟨nx, fun z => by cases z⟩
    · rw [List.mem_singleton.1 z, hrl]; exact ⟨nr, fun z => by cases z⟩)).set (i := 3) (s := .val (.ref x)) rfl rfl
  have xM := S.heat.fresh nx
  have rM := S.heat.fresh nr
  refine sv_ext (ev_fld (ev_val S1 (i := 3) rfl) hx T.d_Block.cl T.n_Block_rows lkR) hrl (ef_var S1 (i := 1) rfl) (by rw [List.length_map]; show 0 + _ ≤ _; omega) fun ws H2 e2 rw2 => ?_
  rw [List.nil_append]
  have hx2 : upd H2 rl (.lst ws) x = some (.ins A.C_Block dx [("taken", tv), ("rows", .ref rl), ("ending", .non)]) := by rw [upd_ne (Ne.symm hxr)]; exact e2 _ _ hx
  obtain ⟨ev1, hev1, _⟩ := S1.env.dat (i := 2) rfl
  have hsame : ev1 = ev := by
    have z : ((start N_block_of vs).set 3 (some (.ref x)))[2]? = (start N_block_of vs)[2]? := by rw [List.getElem?_set, if_neg (by decide)]
    rw [z, hev] at hev1
    cases hev1
    rfl
  subst hsame
  refine sv_fld (v := ev1) (ev_var hev1) (ev_var (S1.env.val (i := 3) rfl)) hx2 T.d_Block.cl T.n_Block_ending (by show 3 < 1000; decide) fun H3 e3 => ?_
  rw [putE]
  have hE : Ex H (upd H3 x (.ins A.C_Block dx [("taken", tv), ("rows", .ref rl), ("ending", ev1)])) := Ex.mut ((Ex.mut (e1.trans e2) nr).trans e3) nx
  refine ⟨.ref x, S1.env.val (i := 3) rfl, q _ _ hE ?_⟩
  have hc : Ex (cold M H) (cold M (upd H3 x (.ins A.C_Block dx [("taken", tv), ("rows", .ref rl), ("ending", ev1)]))) := cold_mono hE
  have hrl3 : upd H3 x (.ins A.C_Block dx [("taken", tv), ("rows", .ref rl), ("ending", ev1)]) rl = some (.lst ws) := by rw [upd_ne hxr]; exact e3 _ _ upd_same
  refine .obj (cold_of xM upd_same) (.cons (rt.mono hc) (.cons (.lst (cold_of rM hrl3) ?_) (.cons (re.mono hc) .nil)))
  refine rw2.mono fun y o hy => ?_
  obtain ⟨y1, y2⟩ := cold_some.mp hy
  have yx : y ≠ x := fun z => y1 (by rw [z]; simp)
  have yr : y ≠ rl := fun z => y1 (by rw [z]; simp)
  refine cold_of (fun z => y1 (List.mem_append_right _ z)) ?_
  rw [upd_ne yx]
  exact e3 _ _ (by rw [upd_ne yr]; exact y2)
/-- a block copied, whichever it is -/
def plainCopy (d n c : Nat) (b : PBlock) : PBlock := ⟨b.takes.map fun y => d + y, b.rows.map (shiftRow d), shiftEnd d n c b.last⟩
theorem copies_cons {d n c : Nat} {g : Fn} {X : PBlock} {l : List PBlock} (h : g.blocks = X :: l) : copies d n c g = cpBlock d n c g (X, 0) :: l.map (plainCopy d n c) := by
  unfold copies
  rw [h, List.zipIdx_cons, List.map_cons]
  refine congrArg _ ?_
  have key : ∀ (l : List PBlock) (k : Nat), 1 ≤ k → (l.zipIdx k).map (cpBlock d n c g) = l.map (plainCopy d n c) := by
    intro l
    induction l with
    | nil => intro k _; rfl
    | cons Y l ih =>
      intro k hk
      rw [List.zipIdx_cons, List.map_cons, List.map_cons, ih (k + 1) (by omega)]
      refine congrArg (· :: _) ?_
      unfold cpBlock plainCopy
      simp only
      rw [if_neg (by omega), if_neg (by omega), List.nil_append]
  exact key l _ (by omega)
abbrev R_copied_blocks (A : Adr) : List Dv → Dv → Prop := fun ds d => ∃ (g : Fn) (k n c : Nat), ds = [encFn A g, nat k, nat n, nat c] ∧ Fits g ∧ 1 ≤ g.blocks.length ∧ d = .lst ((copies k n c g).map (encBlock A))
theorem ok_copied_blocks (T : Top K mg A) : DefOk P w K mg base 4 A.f_copied_blocks "copied_blocks" ["called", "d", "n", "c"] (spR K (R_copied_blocks A)) := by
  refine dv_copied_blocks T (ok_row_above T) (ok_block_of T) (ok_copied_ending T) (ok_names_above T) (ok_other_names T) (spR_len (fun ds d ⟨g, k, n, c, hd, _⟩ => by rw [hd]; rfl)) (fun vs H Q E ⟨M, ds, d, hM, rs, ⟨g, k, n, c, hd, ft, h1, he⟩, q⟩ => ?_)
  subst hd he
  have S : At K H M H (start N_copied_blocks vs) [.dat (encFn A g), .dat (nat k), .dat (nat n), .dat (nat c), .any, .any, .any, .any, .any, .any, .any, .any] := At.start hM rs
  have hsz := ft.size
  have hbl := blocks_le g
  obtain ⟨X, l, hX⟩ : ∃ X l, g.blocks = X :: l := by
    cases hb : g.blocks with
    | nil => rw [hb] at h1; simp at h1
    | cons X l => exact ⟨X, l, rfl⟩
  refine sf_new S es_nil (leb rfl) (ltb rfl) fun p σ1 H1 hp1 hpM e1 S1 => ?_
  refine sf_forL S1 (ef_blocks T (ef_var S1 (i := 0) rfl)) (fun i ρ => ∃ x5 x6 x7 x8 x9 x10 x11, ρ = [.dat (encFn A g), .dat (nat k), .dat (nat n), .dat (nat c), .hot p ((g.blocks.take i).map fun b => encBlock A (plainCopy k n c b)), x5, x6, x7, x8, x9, x10, x11])
    ⟨⟨_, _, _, _, _, _, _, rfl⟩, fun B' i d σ3 H3 ρ3 eB hd ⟨x5, x6, x7, x8, x9, x10, x11, hρ⟩ S3 => ?_, fun σ3 H3 ρ3 ⟨x5, x6, x7, x8, x9, x10, x11, hρ⟩ S3 => ?_⟩
  · subst hρ
    obtain ⟨b, hb, rfl⟩ := map_get hd
    have bm := mem_of_get hb
    have bf := ft.form.blocks b bm
    have bz := bsize_le bm
    have bz' : b.takes.length + b.rows.length ≤ bsize b := by unfold bsize; omega
    have hB : EvF K (tVar 5) σ3 (p :: M) H3 (encBlk A b.takes b.rows (encEnd b.last)) := ef_var S3 rfl
    refine sf_asg S3 ((ef_lcL (enc := encRow) (fun _ => true) (fun r => encRow (shiftRow k r)) S3 (ef_rows T hB) (by omega) (fun x M' H' σ' _ S' => eb_yes) fun r M' H' σ' hm S' _ => ef_callR S'.heat (es_cons (ef_var S' rfl) (es_cons (ef_var S' rfl) es_nil)) ⟨r, k, rfl, bf.rows r hm, rfl⟩).cast (y := .lst ((b.rows.map (shiftRow k)).map encRow)) (by rw [filter_all, List.map_map]; rfl)) fun σ4 H4 e4 S4 => ?_
    have hB4 : EvF K (tVar 5) σ4 (p :: M) H4 (encBlk A b.takes b.rows (encEnd b.last)) := ef_var S4 rfl
    refine sf_app S4 (j := 4) rfl (by rw [List.length_map, List.length_take]; omega) (ef_callR (d := encBlock A (plainCopy k n c b)) S4.heat (es_cons (ef_above S4.heat (ef_taken T hB4) (ef_var S4 (i := 1) rfl) (by have := bf.takes; omega)) (es_cons (ef_var S4 (i := 6) rfl) (es_cons (ef_callR S4.heat (es_cons (ef_ending T hB4) (es_cons (ef_var S4 (i := 1) rfl) (es_cons (ef_var S4 (i := 2) rfl) (es_cons (ef_var S4 (i := 3) rfl) es_nil)))) ⟨b.last, k, n, c, rfl, bf.last, rfl⟩) es_nil)))
      ⟨_, _, _, rfl, by rw [List.length_map]; omega, rfl⟩) fun H5 S5 => ?_
    have e5 : (g.blocks.take (i + 1)).map (fun b => encBlock A (plainCopy k n c b)) = (g.blocks.take i).map (fun b => encBlock A (plainCopy k n c b)) ++ [encBlock A (plainCopy k n c b)] := by
      rw [(take_snoc hb).1, List.map_append]
      rfl
    rw [← e5] at S5
    exact ⟨_, ⟨_, _, _, _, _, _, _, rfl⟩, S5⟩
  · subst hρ
    rw [List.length_map, List.take_length, hX, List.map_cons] at S3
    have xf := ft.form.blocks X (by rw [hX]; exact List.mem_cons_self)
    have xz := bsize_le (f := g) (b := X) (by rw [hX]; exact List.mem_cons_self)
    have xz' : X.takes.length + X.rows.length ≤ bsize X := by unfold bsize; omega
    have hag := ft.form.args
    -- first = copies[0]
    refine sf_asg S3 (ef_ixH S3 (i := 4) rfl ef_int (atI_nat (j := 0) rfl)) fun σ4 H4 e4 S4 => ?_
    refine sf_asg S4 ((ef_tupleL S4.heat (ef_lcR (fun _ => true) (fun y => nat (k + y)) S4 (es_cons (ef_handed T (ef_var S4 (i := 0) rfl)) es_nil) (by omega) (fun x M' H' σ' _ S' => eb_yes) fun y M' H' σ' _ S' _ => ef_plus (ef_var S' rfl) (ef_var S' rfl))).cast (y := .tup (nats ((List.range g.args).map fun y => k + y))) (by rw [filter_all]; unfold nats; rw [List.map_map]; rfl)) fun σ5 H5 e5 S5 => ?_
    have hot : (others g).length ≤ 1944 := by
      have := nm_le ft
      have e : (nameList g).length = g.args + (others g).length := nm_others g
      omega
    refine sf_asg S5 ((ef_lcL (enc := nat) (fun _ => true) (fun y => encRow (.plain (.num (k + y) 0))) S5 (ef_callR S5.heat (es_cons (ef_var S5 (i := 0) rfl) es_nil) ⟨g, rfl, ft, rfl⟩) (by omega) (fun x M' H' σ' _ S' => eb_yes) fun y M' H' σ' _ S' _ => ef_tup S'.heat (es_cons ef_int (es_cons (ef_plus (ef_var S' rfl) (ef_var S' rfl)) (es_cons (ef_n 0) es_nil))) (leb rfl)).cast (y := .lst (((others g).map fun y => PRow.plain (.num (k + y) 0)).map encRow)) (by rw [filter_all, List.map_map]; rfl)) fun σ6 H6 e6 S6 => ?_
    have hF : EvF K (tVar 7) σ6 (p :: M) H6 (encBlk A (X.takes.map fun y => k + y) (X.rows.map (shiftRow k)) (encEnd (shiftEnd k n c X.last))) := ef_var S6 rfl
    refine sf_setL S6 (j := 4) (n := 0) (m := 0) rfl (ef_callR (d := encBlock A (cpBlock k n c g (X, 0))) S6.heat (es_cons (ef_var S6 (i := 8) rfl) (es_cons ((ef_cat S6.heat (ef_var S6 (i := 9) rfl) (ef_rows T hF) ?_).cast (y := .lst ((((others g).map fun y => PRow.plain (.num (k + y) 0)) ++ X.rows.map (shiftRow k)).map encRow)) (by rw [List.map_append])) (es_cons (ef_ending T hF) es_nil))) ⟨_, _, _, rfl, (by rw [List.length_append, List.length_map, List.length_map]; omega), rfl⟩) ef_int (ixN_nat (j := 0) (Nat.succ_pos _)) fun H7 S7 => ?_
    · rw [List.length_map, List.length_map, List.length_map, List.length_map]
      omega
    · have e7 : (encBlock A (plainCopy k n c X) :: l.map fun b => encBlock A (plainCopy k n c b)).set 0 (encBlock A (cpBlock k n c g (X, 0))) = (copies k n c g).map (encBlock A) := by
        rw [copies_cons hX, List.map_cons, List.map_map]
        rfl
      rw [e7] at S7
      have S8 := S7.freeze hpM (i := 4) rfl
      exact sf_ret S8 (ef_var S8 rfl) fun v H' e r => q v H' e r
theorem EvF.toEv {te : TE} {σ : L2.St} {M : List Addr} {H : Hp} {n : Int} (h : EvF K te σ M H (.int n)) : Ev te σ H (.int n) := fun H1 e Q q => h.int e q
theorem ef_ixVR {α : Type} {f : α → Dv} {ta tb : TE} {σ : L2.St} {M : List Addr} {H : Hp} {p : Addr} {vs : List V} {l : List α} {i : Nat} {y : α} (h : Ev ta σ H (.ref p)) (hp : H p = some (.lst vs)) (rs : Reps K (cold M H) vs (l.map f)) (hb : EvF K tb σ M H (nat i)) (hl : l[i]? = some y) : EvF K (tOp (rIxL K) ta tb) σ M H (f y) := fun H1 e Q q =>
  h H1 e _ fun H2 e2 => hb.int (e.trans e2) fun H3 e3 => by
    obtain ⟨v, hv, rv⟩ := rs.get (get_map hl)
    exact ⟨p, vs, _, v, rfl, rfl, sq_of (e3 _ _ (e2 _ _ (e _ _ hp))), atI_nat hv, q v H3 (e2.trans e3) (rv.mono (cold_mono ((e.trans e2).trans e3)))⟩
def sp_put_in (K : PySem.W.Frag) (A : Adr) : Sp := fun vs H Q _ => ∃ (M : List Addr) (f : Fn) (fns : List Fn) (fvs : List V) (fl : Addr) (vf : V) (b r x g0 : Nat) (as : List Nat) (g : Fn), vs = [vf, .ref fl, .int (b : Nat), .int (r : Nat)] ∧ Hot M H ∧ Rep K (cold M H) vf (encFn A f) ∧ H fl = some (.lst fvs) ∧ Reps K (cold M H) fvs (fns.map (encFn A)) ∧
  (blockAt f b).rows[r]? = some (.call x g0 as) ∧ fns[g0]? = some g ∧ Fits f ∧ Fits g ∧ 1 ≤ g.blocks.length ∧ ∀ v H', Ex H H' → Rep K (cold M H') v (encFn A (putIn f g b r)) → Q v H'
theorem ok_put_in (T : Top K mg A) : DefOk P w K mg base 5 A.f_put_in "put_in" ["function", "functions", "b", "r"] (sp_put_in K A) := by
  refine dv_put_in T (ok_Function T) (ok_block_of T) (ok_copied_blocks T) (ok_first_free_name T) (fun vs H Q E ⟨M, f, fns, fvs, fl, vf, b, r, x, g0, as, g, hv, _⟩ => by rw [hv]; rfl) (fun vs H Q E ⟨M, f, fns, fvs, fl, vf, b, r, x0, g0, as, g, hv, hM, rf, hfl, rfs, hrow, hg, ff, fg, hg1, q⟩ => ?_)
  subst hv
  have S : At K H M H (start N_put_in [vf, .ref fl, .int (b : Nat), .int (r : Nat)]) [.dat (encFn A f), .val (.ref fl), .dat (nat b), .dat (nat r), .any, .any, .any, .any, .any, .any] :=
    ⟨Ex.refl H, hM, .cons ⟨_, rfl, rf⟩ (.cons rfl (.cons ⟨_, rfl, .int _⟩ (.cons ⟨_, rfl, .int _⟩ (.cons trivial (.cons trivial (.cons trivial (.cons trivial (.cons trivial (.cons trivial .nil))))))))), List.nodup_nil, fun p hp => by cases hp⟩
  obtain ⟨hb, hr⟩ := block_in hrow
  have hbk := blockAt_get hb
  have kf := ff.form.blocks _ (blockAt_mem hb)
  have kz := bsize_le (blockAt_mem hb)
  have kz' : (blockAt f b).takes.length + (blockAt f b).rows.length ≤ bsize (blockAt f b) := by unfold bsize; omega
  have hsz := ff.size
  have hbl := blocks_le f
  have hgz := fg.size
  have hgl := blocks_le g
  have hal : as.length ≤ 4 := kf.rows _ (List.mem_of_getElem? hrow)
  refine sf_asg S (ef_atB (ef_blocks T (ef_var S (i := 0) rfl)) (ef_var S (i := 2) rfl) hbk) fun σ1 H1 e1 S1 => ?_
  refine sf_asg S1 (ef_atR (ef_rows T (ef_var S1 (i := 4) rfl)) (ef_var S1 (i := 3) rfl) hrow) fun σ2 H2 e2 S2 => ?_
  have hrw2 : EvF K (tVar 5) σ2 M H2 (.tup [.int 4, nat x0, nat g0, .tup (nats as)]) := ef_var S2 rfl
  have e12 := e1.trans e2
  refine sf_asg S2 (ef_ixVR (f := encFn A) (ev_val S2 (i := 1) rfl) (e12 _ _ hfl) (rfs.mono (cold_mono e12)) (ef_t (i := 2) hrw2 rfl) hg) fun σ3 H3 e3 S3 => ?_
  refine sf_asg S3 (ef_lenM (ef_blocks T (ef_var S3 (i := 0) rfl))) fun σ4 H4 e4 S4 => ?_
  refine sf_asg S4 (ef_addN (ef_var S4 (i := 7) rfl) (ef_lenM (ef_blocks T (ef_var S4 (i := 6) rfl)))) fun σ5 H5 e5 S5 => ?_
  have e15 := ((e12.trans e3).trans e4).trans e5
  refine sm_Function (EvF.toEv (ef_handed T (ef_var S5 (i := 0) rfl))) fun x bl H6 e6 nx nb hxb ⟨dx, hx⟩ hbl6 => ?_
  have S6 : At K H ([x, bl] ++ M) H6 (σ5.set 9 (some (.ref x))) [.dat (encFn A f), .val (.ref fl), .dat (nat b), .dat (nat r), .dat (encBlk A (blockAt f b).takes (blockAt f b).rows (encEnd (blockAt f b).last)), .dat (encRow (.call x0 g0 as)), .dat (encFn A g), .dat (nat f.blocks.length), .dat (nat (f.blocks.length + g.blocks.length)), .val (.ref x)] := (S5.warm (N := [x, bl]) e6 (fun y hy => by
    rcases List.mem_cons.1 hy with z | z
    · rw [z, hx]; exact ⟨nx, fun z => by cases z⟩
    · rw [List.mem_singleton.1 z, hbl6]; exact ⟨nb, fun z => by cases z⟩)).set (i := 9) (s := .val (.ref x)) rfl rfl
  have hH6 : Ex H H6 := S6.ex
  have xH : H x = none := fresh_back e15 nx
  have bH : H bl = none := fresh_back e15 nb
  have bM : bl ∈ [x, bl] ++ M := by simp
  have lkB : ∀ {y : V}, List.lookup ("blocks" : Str) [("handed", y), ("blocks", .ref bl)] = some (.ref bl) := (lk_past (by decide +kernel)).trans lk_here
  -- made.blocks.extend(function.blocks)
  refine sv_ext (ev_fld (ev_val S6 (i := 9) rfl) hx T.d_Function.cl T.n_Function_blocks lkB) hbl6 (ef_blocks T (ef_var S6 (i := 0) rfl)) (by rw [List.length_map]; show 0 + _ ≤ _; omega) fun ws H7 e7 rw7 => ?_
  rw [List.nil_append]
  have S7 := (S6.mono e7).poke (o := .lst ws) bM (by simp [hots]) bH
  have c7 : cold ([x, bl] ++ M) (upd H7 bl (.lst ws)) = cold ([x, bl] ++ M) H7 := cold_upd bM
  have hx7 : upd H7 bl (.lst ws) x = some (.ins A.C_Function dx [("handed", .int (f.args : Nat)), ("blocks", .ref bl)]) := by rw [upd_ne (Ne.symm hxb)]; exact e7 _ _ hx
  generalize hH7 : upd H7 bl (.lst ws) = G7 at S7 c7 hx7
  have hb7 : G7 bl = some (.lst ws) := by rw [← hH7]; exact upd_same
  have wl : ws.length = f.blocks.length := by rw [rw7.length, List.length_map]
  have hPt7 : EvF K (tVar 4) (σ5.set 9 (some (.ref x))) ([x, bl] ++ M) G7 (encBlk A (blockAt f b).takes (blockAt f b).rows (encEnd (blockAt f b).last)) := ef_var S7 rfl
  have hRw7 : EvF K (tVar 5) (σ5.set 9 (some (.ref x))) ([x, bl] ++ M) G7 (.tup [.int 4, nat x0, nat g0, .tup (nats as)]) := ef_var S7 rfl
  -- made.blocks[b] = block_of(parted.taken, parted.rows[:r], (END_JUMP, n, row[3]))
  refine sv_setE (M := [x, bl] ++ M) (fun H1 e1 => ev_fld (ev_val (S7.mono e1) (i := 9) rfl) (e1 _ _ hx7) T.d_Function.cl T.n_Function_blocks lkB) hb7
    (ef_callR (d := encBlock A ⟨(blockAt f b).takes, (blockAt f b).rows.take r, .jump f.blocks.length as⟩) S7.heat (es_cons (ef_taken T hPt7) (es_cons ((ef_takeL S7.heat (ef_rows T hPt7) (ef_var S7 (i := 3) rfl)).cast (y := .lst (((blockAt f b).rows.take r).map encRow)) (by rw [List.map_take])) (es_cons (ef_tup S7.heat (es_cons ef_int (es_cons (ef_var S7 (i := 7) rfl) (es_cons (ef_t (i := 3) hRw7 rfl) es_nil))) (leb rfl)) es_nil))) ⟨_, _, .jump f.blocks.length as, rfl, by rw [List.length_take]; omega, rfl⟩)
    (ef_var S7 (i := 2) rfl) (ixN_nat (by rw [wl]; exact hb)) fun bv H8 e8 rb8 => ?_
  have S8 := (S7.mono e8).poke (o := .lst (ws.set b bv)) bM (by simp [hots]) bH
  have c8 : cold ([x, bl] ++ M) (upd H8 bl (.lst (ws.set b bv))) = cold ([x, bl] ++ M) H8 := cold_upd bM
  have hx8 : upd H8 bl (.lst (ws.set b bv)) x = some (.ins A.C_Function dx [("handed", .int (f.args : Nat)), ("blocks", .ref bl)]) := by rw [upd_ne (Ne.symm hxb)]; exact e8 _ _ hx7
  have rw8 : Reps K (cold ([x, bl] ++ M) (upd H8 bl (.lst (ws.set b bv)))) (ws.set b bv) ((f.blocks.set b ⟨(blockAt f b).takes, (blockAt f b).rows.take r, .jump f.blocks.length as⟩).map (encBlock A)) := by
    rw [List.map_set, c8]
    refine Reps.set (i := b) rb8 b ?_
    refine rw7.mono ?_
    rw [← c7]
    exact cold_mono e8
  generalize hH8 : upd H8 bl (.lst (ws.set b bv)) = G8 at S8 c8 hx8 rw8
  have hb8 : G8 bl = some (.lst (ws.set b bv)) := by rw [← hH8]; exact upd_same
  -- made.blocks.extend(copied_blocks(called, first_free_name(function), n, c))
  refine sv_ext (ev_fld (ev_val S8 (i := 9) rfl) hx8 T.d_Function.cl T.n_Function_blocks lkB) hb8 (ef_callR S8.heat (es_cons (ef_var S8 (i := 6) rfl) (es_cons (ef_callR S8.heat (es_cons (ef_var S8 (i := 0) rfl) es_nil) ⟨f, rfl, ff, rfl⟩) (es_cons (ef_var S8 (i := 7) rfl) (es_cons (ef_var S8 (i := 8) rfl) es_nil)))) ⟨g, above f, f.blocks.length, f.blocks.length + g.blocks.length, rfl, fg, hg1, rfl⟩) ?_ fun cs H9 e9 rc9 => ?_
  · rw [List.length_set, wl, List.length_map, copies_len]
    omega
  have S9 := (S8.mono e9).poke (o := .lst (ws.set b bv ++ cs)) bM (by simp [hots]) bH
  have c9 : cold ([x, bl] ++ M) (upd H9 bl (.lst (ws.set b bv ++ cs))) = cold ([x, bl] ++ M) H9 := cold_upd bM
  have hx9 : upd H9 bl (.lst (ws.set b bv ++ cs)) x = some (.ins A.C_Function dx [("handed", .int (f.args : Nat)), ("blocks", .ref bl)]) := by rw [upd_ne (Ne.symm hxb)]; exact e9 _ _ hx8
  have rw9 := ((rw8.mono (cold_mono e9)).append rc9)
  rw [← c9] at rw9
  have cl9 : (ws.set b bv ++ cs).length ≤ 1000000 := by
    rw [rw9.length, List.length_append, List.length_map, List.length_map, List.length_set, copies_len]
    omega
  generalize hH9 : upd H9 bl (.lst (ws.set b bv ++ cs)) = G9 at S9 c9 hx9 rw9
  have hb9 : G9 bl = some (.lst (ws.set b bv ++ cs)) := by rw [← hH9]; exact upd_same
  have hPt9 : EvF K (tVar 4) (σ5.set 9 (some (.ref x))) ([x, bl] ++ M) G9 (encBlk A (blockAt f b).takes (blockAt f b).rows (encEnd (blockAt f b).last)) := ef_var S9 rfl
  have hRw9 : EvF K (tVar 5) (σ5.set 9 (some (.ref x))) ([x, bl] ++ M) G9 (.tup [.int 4, nat x0, nat g0, .tup (nats as)]) := ef_var S9 rfl
  -- made.blocks.append(block_of((row[1],), parted.rows[r + 1:], parted.ending))
  refine sv_appE (ev_fld (ev_val S9 (i := 9) rfl) hx9 T.d_Function.cl T.n_Function_blocks lkB) hb9
    (ef_callR (d := encBlock A ⟨[x0], (blockAt f b).rows.drop (r + 1), (blockAt f b).last⟩) S9.heat (es_cons (ef_tup S9.heat (es_cons (ef_t (i := 1) hRw9 rfl) es_nil) (leb rfl)) (es_cons ((ef_dropL S9.heat (ef_rows T hPt9) (ef_addN (ef_var S9 (i := 3) rfl) (ef_n 1))).cast (y := .lst (((blockAt f b).rows.drop (r + 1)).map encRow)) (by rw [List.map_drop])) (es_cons (ef_ending T hPt9) es_nil))) ⟨[x0], _, (blockAt f b).last, rfl, by rw [List.length_drop]; omega, rfl⟩)
    (by omega) fun lv H10 e10 rl10 => ?_
  have S10 := (S9.mono e10).poke (o := .lst (ws.set b bv ++ cs ++ [lv])) bM (by simp [hots]) bH
  have c10 : cold ([x, bl] ++ M) (upd H10 bl (.lst (ws.set b bv ++ cs ++ [lv]))) = cold ([x, bl] ++ M) H10 := cold_upd bM
  have hx10 : upd H10 bl (.lst (ws.set b bv ++ cs ++ [lv])) x = some (.ins A.C_Function dx [("handed", .int (f.args : Nat)), ("blocks", .ref bl)]) := by rw [upd_ne (Ne.symm hxb)]; exact e10 _ _ hx9
  have rw10 := ((rw9.mono (cold_mono e10)).append (.one rl10))
  rw [← c10] at rw10
  generalize hH10 : upd H10 bl (.lst (ws.set b bv ++ cs ++ [lv])) = G10 at S10 c10 hx10 rw10
  have hb10 : G10 bl = some (.lst (ws.set b bv ++ cs ++ [lv])) := by rw [← hH10]; exact upd_same
  refine ⟨.ref x, S10.env.val (i := 9) rfl, q _ _ S10.ex ?_⟩
  have xM : x ∉ M := S5.heat.fresh nx
  have bM' : bl ∉ M := S5.heat.fresh nb
  refine .obj (cold_of xM hx10) (.cons ?_ (.cons (.lst (cold_of bM' hb10) ?_) .nil))
  · rw [putIn_args hrow]
    exact .int _
  · have e : (putIn f g b r).blocks.map (encBlock A) = (f.blocks.set b ⟨(blockAt f b).takes, (blockAt f b).rows.take r, .jump f.blocks.length as⟩).map (encBlock A) ++ (copies (above f) f.blocks.length (f.blocks.length + g.blocks.length) g).map (encBlock A) ++ [encBlock A ⟨[x0], (blockAt f b).rows.drop (r + 1), (blockAt f b).last⟩] := by
      rw [putIn_is hrow]
      simp only [List.map_append, List.append_assoc]
      rfl
    rw [e]
    exact rw10.mono (cold_sub fun y hy => List.mem_append_right _ hy)
end
end Pc

namespace Pc
open PySem PySem.Spec PyProof.Rows L2 Evl
open CmBase Cm09
/-! ### the program with the chosen calls put in -/
theorem inFn_suffix {c suf : List Site} (h : suf <:+ c) (i : Nat) : (inFn suf i).Sublist (inFn c i) := h.sublist.filter _
theorem sum_sub {α : Type} {l r : List α} (F : α → Nat) (h : l.Sublist r) : (l.map F).sum ≤ (r.map F).sum := by
  induction h with
  | slnil => exact Nat.le_refl _
  | cons a _ ih => rw [List.map_cons, List.sum_cons]; omega
  | cons_cons a _ ih => rw [List.map_cons, List.sum_cons, List.map_cons, List.sum_cons]; omega
section
variable {s : Cm09.St} {c suf : List Site} {i : Nat}
theorem suffix_folded (sm : Small s) (hw : isWhole s.prog = true) (hc : Choice s.prog c) (hi : i < s.prog.length) (h : suf <:+ c) :
    Folded s.prog (made s.prog c i) s.prog.length (argsOf s.prog) (fnAt s.prog i) (inFn suf i) (putFold s.prog (made s.prog c i) (inFn suf i) (fnAt s.prog i)) := by
  have hW := (whole_of hw).2
  refine folded (hW _ (fnAt_mem hi)) (sm.fn _ (fnAt_mem hi)).form (fun g hg => ?_) _ (fun t ht => ?_) ((inFn_order hc i).sublist (inFn_suffix h i))
  · have z := made_folded hW (fun f hf => (sm.fn f hf).form) hc i (by omega) g hg
    exact ⟨z.whole, z.form, z.args⟩
  · obtain ⟨h1, h2⟩ := mem_inFn.mp ht
    exact ⟨h2, hc.ok t (h.subset h1)⟩
theorem suffix_fits (sm : Small s) (hw : isWhole s.prog = true) (hc : Choice s.prog c) (hi : i < s.prog.length) (h : suf <:+ c) : Fits (putFold s.prog (made s.prog c i) (inFn suf i) (fnAt s.prog i)) := by
  have f1 := suffix_folded sm hw hc hi h
  have f2 := suffix_folded sm hw hc hi (List.suffix_refl c)
  have e : putFold s.prog (made s.prog c i) (inFn c i) (fnAt s.prog i) = fnAt (made s.prog c (i + 1)) i := by
    rw [made_at (Nat.lt_succ_self i), putAllIn_eq]
    rfl
  have ft := made_fits sm hw hc (k := i + 1) (f := i) (by omega) (by omega)
  rw [← e] at ft
  have h1 := ft.above
  have h2 := ft.size
  rw [f2.above] at h1
  rw [f2.size] at h2
  have h3 := sum_sub (fun t => above (fnAt (made s.prog c i) (calleeAt s.prog t))) (inFn_suffix h i)
  have h4 := sum_sub (fun t => sizeFn (fnAt (made s.prog c i) (calleeAt s.prog t)) + nm (fnAt (made s.prog c i) (calleeAt s.prog t)) + 1) (inFn_suffix h i)
  exact ⟨f1.form, by rw [f1.above]; omega, by rw [f1.size]; omega⟩
end
theorem rev_get {α : Type} {c : List α} {j : Nat} {t : α} (h : c.reverse[j]? = some t) : c.drop (c.length - (j + 1)) = t :: c.drop (c.length - j) ∧ j < c.length := by
  have hj : j < c.length := by
    have := (List.getElem?_eq_some_iff.1 h).1
    rw [List.length_reverse] at this
    exact this
  rw [List.getElem?_reverse hj] at h
  obtain ⟨h1, h2⟩ := List.getElem?_eq_some_iff.1 h
  refine ⟨?_, hj⟩
  have e1 : c.length - (j + 1) = c.length - 1 - j := by omega
  have e2 : c.length - j = c.length - 1 - j + 1 := by omega
  rw [e1, e2, List.drop_eq_getElem_cons h1, h2]
section
variable {P : Program} {w : World} {K : PySem.W.Frag} {mg : Str → Option Value} {base : Heap} {A : Adr}
def sp_Program (A : Adr) : Sp := fun vs H Q _ => ∃ (p dx : Addr), vs = [.ref p] ∧ H p = some (.ins A.C_Program dx []) ∧
  ∀ H' fl, H fl = none → (∀ b o, b ≠ p → H b = some o → H' b = some o) → H' p = some (.ins A.C_Program dx [("functions", .ref fl), ("unended", .non)]) → H' fl = some (.lst []) → Q .non H'
theorem ok_Program (T : Top K mg A) : MakeOk P w K mg base 1 A.C_Program A.f_Program "Program" ["self"] (sp_Program A) := by
  refine dv_Program T (fun vs H Q E ⟨p, dx, hv, _⟩ => by rw [hv]; rfl) (fun vs H Q E ⟨p, dx, hv, hp, q⟩ => ?_)
  subst hv
  refine ⟨Nat.zero_le _, fun rl hr => ?_⟩
  have hrp : p ≠ rl := ne_of_none hp hr
  refine ⟨_, rfl, p, _, dx, _, rfl, (upd_ne hrp).trans hp, T.d_Program.cl, T.n_Program_functions, (by show 0 < 1000; decide), ?_⟩
  refine ⟨_, rfl, p, _, dx, _, rfl, upd_same, T.d_Program.cl, T.n_Program_unended, (by show 1 < 1000; decide), ?_⟩
  refine q _ rl hr (fun b o hb h => ?_) ?_ ?_
  · have hbr : b ≠ rl := by
      intro z
      subst z
      rw [hr] at h
      cases h
    rw [upd_ne hb, upd_ne hb, upd_ne hbr]
    exact h
  · rw [upd_same]
    have e1 : putF "functions" (.ref rl) [] = ([("functions", .ref rl)] : List (Str × V)) := rfl
    have e2 : putF "unended" V.non ([("functions", .ref rl)] : List (Str × V)) = ([("functions", .ref rl), ("unended", .non)] : List (Str × V)) := put_past (by decide +kernel)
    rw [e1, e2]
  · rw [upd_ne (Ne.symm hrp), upd_ne (Ne.symm hrp), upd_same]
theorem sm_Program {σ : L2.St} {H : Hp} {D : Ends} {i : Nat} (k : ∀ x fl H', Ex H H' → H x = none → H fl = none → fl ≠ x → (∃ dx, H' x = some (.ins A.C_Program dx [("functions", .ref fl), ("unended", .non)])) → H' fl = some (.lst []) → D.nx (σ.set i (some (.ref x))) H') :
    tAsg (tMake A.C_Program (sp_Program A) [] E0 tNil) (gName i) D σ H := fun x dx nx nd ne => ⟨x, dx, rfl, upd_same, fun H' rl hr kp hx hl => ⟨rfl, by
  obtain ⟨h1, h2⟩ := fresh2 hr
  exact k x rl H' (madeObj nx nd kp) nx h1 h2 ⟨dx, hx⟩ hl⟩⟩
abbrev R_with_put_in (A : Adr) : List Dv → Dv → Prop := fun ds d => ∃ s c, ds = [encSt A s, .lst (c.map encSite)] ∧ Small s ∧ isWhole s.prog = true ∧ Choice s.prog c ∧ d = encSt A ⟨putAll s.prog c, none⟩
theorem ok_with_put_in (T : Top K mg A) : DefOk P w K mg base 6 A.f_with_put_in "with_put_in" ["program", "places"] (spR K (R_with_put_in A)) := by
  refine dv_with_put_in T (ok_Program T) (ok_put_in T) (spR_len (fun ds d ⟨s, c, hd, _⟩ => by rw [hd]; rfl)) (fun vs H Q E ⟨M, ds, d, hM, rs, ⟨s, c, hd, sm, hw, hc, he⟩, q⟩ => ?_)
  subst hd he
  have S : At K H M H (start N_with_put_in vs) [.dat (encSt A s), .dat (.lst (c.map encSite)), .any, .any, .any, .any] := At.start hM rs
  refine sm_Program fun x fl H1 e1 nx nf hxf ⟨dx, hx⟩ hfl => ?_
  have S1 : At K H ([x, fl] ++ M) H1 ((start N_with_put_in vs).set 2 (some (.ref x))) [.dat (encSt A s), .dat (.lst (c.map encSite)), .val (.ref x), .any, .any, .any] := (S.warm (N := [x, fl]) e1 (fun y hy => by
    rcases List.mem_cons.1 hy with z | z
    · rw [z, hx]; exact ⟨nx, fun z => by cases z⟩
    · rw [List.mem_singleton.1 z, hfl]; exact ⟨nf, fun z => by cases z⟩)).set (i := 2) (s := .val (.ref x)) rfl rfl
  have flM : fl ∈ [x, fl] ++ M := by simp
  have h5 := sm.fns
  have own0 : ∀ a ∈ [x, fl], H a = none ∧ a ∈ [x, fl] ++ M := fun a ha => ⟨by
    rcases List.mem_cons.1 ha with z | z
    · rw [z]; exact nx
    · rw [List.mem_singleton.1 z]; exact nf, List.mem_append_left _ ha⟩
  -- what stands beside the slots
  let Kept : Nat → Hp → Prop := fun i H' => H' x = some (.ins A.C_Program dx [("functions", .ref fl), ("unended", .non)]) ∧ ∃ fvs, H' fl = some (.lst fvs) ∧ Reps K (cold ([x, fl] ++ M) H') fvs ((made s.prog c i).map (encFn A))
  have keptMono : ∀ {i H1 H2}, Kept i H1 → Ex H1 H2 → Kept i H2 := fun ⟨k1, fvs, k2, k3⟩ e => ⟨e _ _ k1, fvs, e _ _ k2, k3.mono (cold_mono e)⟩
  refine sf_forRH S1 (own := [x, fl]) (n := s.prog.length) (es_cons (ef_lenM (ef_functions T (ef_var S1 (i := 0) rfl))) es_nil) (by omega)
    (fun i ρ H' => (∃ y3 y4 y5, ρ = [.dat (encSt A s), .dat (.lst (c.map encSite)), .val (.ref x), y3, y4, y5] ∧ hots [y3, y4, y5] = []) ∧ Kept i H')
    ⟨own0, fun i ρ' H' ⟨⟨y3, y4, y5, hρ, hh⟩, _⟩ a ha => ?_, fun H2 e2 => ⟨⟨_, _, _, rfl, rfl⟩, e2 _ _ hx, [], e2 _ _ hfl, .nil⟩, fun B' i d σ2 H2 ρ2 eB oB hd ⟨⟨y3, y4, y5, hρ, hh⟩, kp⟩ S2 => ?_, fun σ2 H2 ρ2 ⟨⟨y3, y4, y5, hρ, hh⟩, kp⟩ S2 => ?_⟩
  · rw [hρ] at ha
    have : hots [.dat (encSt A s), .dat (.lst (c.map encSite)), .val (.ref x), y3, y4, y5] = hots [y3, y4, y5] := rfl
    rw [this, hh] at ha
    cases ha
  · subst hρ
    obtain ⟨hi, rfl⟩ := upto_of hd
    refine sf_asg S2 (ef_atF (ef_functions T (ef_var S2 (i := 0) rfl)) (ef_var S2 (i := 3) rfl) (fnAt_get hi)) fun σ3 H3 e3 S3 => ?_
    have kp3 := keptMono kp e3
    have hh5 : hots [y5] = [] := by
      have z : hots [y3, y4, y5] = hots [y3, y4] ++ hots [y5] := hots_app [y3, y4] [y5]
      rw [z] at hh
      exact (List.append_eq_nil_iff.mp hh).2
    have S3' : At K B' ([x, fl] ++ M) H3 σ3 [.dat (encSt A s), .dat (.lst (c.map encSite)), .val (.ref x), .dat (nat i), .dat (encFn A (fnAt s.prog i)), y5] := S3
    refine sf_forRevH S3' (own := [x, fl]) (ef_var S3' (i := 1) rfl)
      (fun j ρ H' => (∃ y5, ρ = [.dat (encSt A s), .dat (.lst (c.map encSite)), .val (.ref x), .dat (nat i), .dat (encFn A (putFold s.prog (made s.prog c i) (inFn (c.drop (c.length - j)) i) (fnAt s.prog i))), y5] ∧ hots [y5] = []) ∧ Kept i H')
      ⟨fun a ha => ⟨oB a ha, (own0 a ha).2⟩, fun j ρ' H' ⟨⟨y5, hρ, hh⟩, _⟩ a ha => ?_, fun H4 e4 => ⟨⟨_, ?_, hh5⟩, keptMono kp3 e4⟩, fun B4 j d σ4 H4 ρ4 eB4 oB4 hd4 ⟨⟨z5, hρ4, hh4⟩, kp4⟩ S4 => ?_, fun σ4 H4 ρ4 ⟨⟨z5, hρ4, hh4⟩, kp4⟩ S4 => ?_⟩
    · rw [hρ] at ha
      have z : ∀ f0, hots [.dat (encSt A s), .dat (.lst (c.map encSite)), .val (.ref x), .dat (nat i), .dat f0, y5] = hots [y5] := fun _ => rfl
      rw [z, hh] at ha
      cases ha
    · rw [Nat.sub_zero, List.drop_length]
      rfl
    · subst hρ4
      rw [← List.map_reverse] at hd4
      obtain ⟨t, ht, rfl⟩ := map_get hd4
      obtain ⟨hsuf, hj⟩ := rev_get ht
      have sfx : c.drop (c.length - (j + 1)) <:+ c := List.drop_suffix _ _
      have sfx0 : c.drop (c.length - j) <:+ c := List.drop_suffix _ _
      have htc : t ∈ c := sfx.subset (by rw [hsuf]; exact List.mem_cons_self)
      have hpl : EvF K (tVar 5) σ4 ([x, fl] ++ M) H4 (.tup [nat t.f, nat t.b, nat t.r]) := ef_var S4 rfl
      refine sf_if S4 (eb_test (ef_eqN (ef_t (i := 0) hpl rfl) (ef_var S4 (i := 3) rfl))) (fun hb H5 e5 S5 => ?_) (fun hb H5 e5 S5 => ?_)
      · have htf : t.f = i := of_decide_eq_true hb
        have kp5 := keptMono kp4 e5
        obtain ⟨k1, fvs, k2, k3⟩ := kp5
        have fo := suffix_folded sm hw hc hi sfx0
        have hin : inFn (c.drop (c.length - (j + 1))) i = t :: inFn (c.drop (c.length - j)) i := by
          rw [hsuf]
          unfold inFn
          rw [List.filter_cons, if_pos (by rw [htf]; exact beq_self_eq_true i)]
        have hord := (inFn_order hc i).sublist (inFn_suffix sfx i)
        rw [hin] at hord
        obtain ⟨ho1, _⟩ := List.pairwise_cons.mp hord
        have ch := hc.ok t htc
        obtain ⟨x0, as, hat⟩ := ch.at'
        rw [htf] at hat
        have hrow := fo.rows t ho1
        rw [hat] at hrow
        have hlt : calleeAt s.prog t < i := by rw [← htf]; exact ch.less
        have hgl : calleeAt s.prog t < (made s.prog c i).length := by rw [made_len]; exact hlt
        have fg := made_fits sm hw hc (k := i) (by omega) hlt
        have wg := (made_folded (whole_of hw).2 (fun f hf => (sm.fn f hf).form) hc i (by omega) _ hlt).whole
        obtain ⟨vf, hvf, rvf⟩ := S5.env.dat (i := 4) rfl
        have hpl5 : EvF K (tVar 5) σ4 ([x, fl] ++ M) H5 (.tup [nat t.f, nat t.b, nat t.r]) := ef_var S5 rfl
        refine ⟨vf, hvf, ev_fld (ev_val S5 (i := 2) rfl) k1 T.d_Program.cl T.n_Program_functions lkF H5 (Ex.refl _) _ fun H6 e6 => EvF.int (ef_t (i := 1) hpl5 rfl) e6 fun H7 e7 => EvF.int (ef_t (i := 2) hpl5 rfl) (e6.trans e7) fun H8 e8 => ?_⟩
        have e58 := (e6.trans e7).trans e8
        refine ⟨[x, fl] ++ M, _, made s.prog c i, fvs, fl, vf, t.b, t.r, x0, calleeAt s.prog t, as, _, rfl, S5.heat.mono e58, rvf.mono (cold_mono e58), e58 _ _ k2, k3.mono (cold_mono e58), hrow, fnAt_get hgl, suffix_fits sm hw hc hi sfx0, fg, wg.some, fun v H9 e9 rv => ?_⟩
        have S9 := ((S5.mono e58).mono e9).setD (i := 4) rv
        exact ⟨_, ⟨⟨.dat (encSite t), by rw [hin]; rfl, rfl⟩, keptMono ⟨k1, fvs, k2, k3⟩ (e58.trans e9)⟩, S9⟩
      · have htf : t.f ≠ i := of_decide_eq_false hb
        have hin : inFn (c.drop (c.length - (j + 1))) i = inFn (c.drop (c.length - j)) i := by
          rw [hsuf]
          unfold inFn
          rw [List.filter_cons, if_neg (by simpa using htf)]
        exact ⟨_, ⟨⟨.dat (encSite t), by rw [hin]; rfl, rfl⟩, keptMono kp4 e5⟩, S5⟩
    · subst hρ4
      rw [List.length_reverse, List.length_map, Nat.sub_self, List.drop_zero] at S4
      have e0 : putFold s.prog (made s.prog c i) (inFn c i) (fnAt s.prog i) = putAllIn s.prog (made s.prog c i) c i := by rw [putAllIn_eq]; rfl
      rw [e0] at S4
      obtain ⟨k1, fvs, k2, k3⟩ := kp4
      have hl : fvs.length = i := by rw [k3.length, List.length_map, made_len]
      refine sv_appE (M := [x, fl] ++ M) (ev_fld (ev_val S4 (i := 2) rfl) k1 T.d_Program.cl T.n_Program_functions lkF) k2 (ef_var S4 (i := 4) rfl) (by omega) fun v H5 e5 rv => ?_
      have S5 := (S4.mono e5).poke (o := .lst (fvs ++ [v])) flM (fun z => by
        have y : ∀ f0, hots [.dat (encSt A s), .dat (.lst (c.map encSite)), .val (.ref x), .dat (nat i), .dat f0, z5] = hots [z5] := fun _ => rfl
        rw [y, hh4] at z
        cases z) (oB fl (by simp))
      refine ⟨_, ⟨⟨_, _, _, rfl, ?_⟩, ?_, fvs ++ [v], upd_same, ?_⟩, S5⟩
      · have y : ∀ a b, hots [.dat a, .dat b, z5] = hots [z5] := fun _ _ => rfl
        rw [y]
        exact hh4
      · rw [upd_ne (Ne.symm hxf)]
        exact e5 _ _ k1
      · rw [cold_upd flM]
        show Reps K _ _ ((made s.prog c i ++ [putAllIn s.prog (made s.prog c i) c i]).map (encFn A))
        rw [List.map_append]
        exact (k3.mono (cold_mono e5)).snoc rv
  · subst hρ
    rw [upto_len] at kp
    obtain ⟨k1, fvs, k2, k3⟩ := kp
    refine ⟨.ref x, S2.env.val (i := 2) rfl, q _ _ S2.ex ?_⟩
    have xM : x ∉ M := S.heat.fresh nx
    have fM : fl ∉ M := S.heat.fresh nf
    rw [putAll_made]
    exact .obj (cold_of xM k1) (.cons (.lst (cold_of fM k2) (k3.mono (cold_sub fun y hy => List.mem_append_right _ hy))) (.cons .non .nil))
end
end Pc

namespace Pc
open PySem PySem.Spec PyProof.Rows L2 Evl
open CmBase Cm09
/-! ### a run, as it lies in the heap -/
def kI (x : Nat) : Key := Sum.inl ((x : Nat) : Int)
theorem kI_inj {x y : Nat} : kI x = kI y ↔ x = y := by
  unfold kI
  constructor
  · intro h
    have := Sum.inl.inj h
    omega
  · intro h
    rw [h]
def EnvIs (kvs : List (Key × V)) (e : CmBase.Env) : Prop := ∀ x : Nat, (valV kvs (kI x)).getD (.int 0) = .int ((look e x : Nat) : Int)
theorem EnvIs.put {kvs : List (Key × V)} {e : CmBase.Env} (h : EnvIs kvs e) (x v : Nat) : EnvIs (putK kvs (kI x) (.int (v : Nat))) (put e x v) := fun y => by
  rw [valV_put, look_put]
  by_cases e1 : y = x
  · rw [if_pos (kI_inj.mpr e1), if_pos e1]
    rfl
  · rw [if_neg (fun z => e1 (kI_inj.mp z)), if_neg e1]
    exact h y
theorem EnvIs.nil : EnvIs [] [] := fun x => rfl
/-- how often: the dict -/
def siteKey (s : Site) : List Key := [kI s.f, kI s.b, kI s.r]
theorem siteKey_inj {s t : Site} : siteKey s = siteKey t ↔ s = t := by
  constructor
  · intro h
    obtain ⟨a, b, c⟩ := s
    obtain ⟨a', b', c'⟩ := t
    injection h with h1 h2
    injection h2 with h2 h3
    injection h3 with h3 _
    have e1 : a = a' := kI_inj.mp h1
    have e2 : b = b' := kI_inj.mp h2
    have e3 : c = c' := kI_inj.mp h3
    rw [e1, e2, e3]
  · intro h
    rw [h]
def encTally (t : List (Site × Nat)) : List (List Key × V) := t.map fun e => (siteKey e.1, .int ((e.2 : Nat) : Int))
theorem valV_tally (t : List (Site × Nat)) (s : Site) : (valV (encTally t) (siteKey s)).getD (.int 0) = .int ((cntOf t s : Nat) : Int) := by
  induction t with
  | nil => rfl
  | cons e r ih =>
    unfold encTally cntOf at ih ⊢
    rw [List.map_cons, List.find?_cons]
    by_cases h : e.1 = s
    · rw [valV_pos (show siteKey e.1 = siteKey s from siteKey_inj.mpr h)]
      have e1 : (e.1 == s) = true := by simpa using h
      rw [e1]
      rfl
    · rw [valV_neg (fun z => h (siteKey_inj.mp z))]
      have e1 : (e.1 == s) = false := by simpa using h
      rw [e1]
      exact ih
theorem any_tally (t : List (Site × Nat)) (s : Site) : ((encTally t).any fun kv => decide (kv.1 = siteKey s)) = t.any fun e => e.1 == s := by
  unfold encTally
  rw [List.any_map]
  refine congrArg (fun F => t.any F) (funext fun e => ?_)
  show decide (siteKey e.1 = siteKey s) = (e.1 == s)
  rw [Bool.eq_iff_iff, decide_eq_true_eq, siteKey_inj, beq_iff_eq]
theorem put_tally {t : List (Site × Nat)} (s : Site) (hn : (t.map (·.1)).Nodup) : putK (encTally t) (siteKey s) (.int ((cntOf t s : Nat) + 1 : Int)) = encTally (bump t s) := by
  unfold putK bump
  rw [any_tally]
  by_cases h : (t.any fun e => e.1 == s) = true
  · rw [if_pos h, if_pos h]
    unfold encTally
    rw [List.map_map]; rw [List.map_map]
    refine List.map_congr_left fun e he => ?_
    show (if siteKey e.1 = siteKey s then (siteKey e.1, V.int ((cntOf t s : Nat) + 1 : Int)) else (siteKey e.1, .int ((e.2 : Nat) : Int))) = (siteKey (if e.1 = s then (e.1, e.2 + 1) else e).1, V.int (((if e.1 = s then (e.1, e.2 + 1) else e).2 : Nat) : Int))
    by_cases hs : e.1 = s
    · rw [if_pos (siteKey_inj.mpr hs), if_pos hs]
      have hc : cntOf t s = e.2 := by
        clear h
        induction t with
        | nil => cases he
        | cons a r ih =>
          rw [List.map_cons] at hn
          obtain ⟨n1, n2⟩ := List.nodup_cons.1 hn
          unfold cntOf
          rw [List.find?_cons]
          rcases List.mem_cons.1 he with z | z
          · rw [← z]
            have e1 : (e.1 == s) = true := by simpa using hs
            rw [e1]
            rfl
          · have e1 : (a.1 == s) = false := by
              rw [← hs]
              simpa using fun y => n1 (List.mem_map.mpr ⟨e, z, y.symm⟩)
            rw [e1]
            exact ih n2 z
      rw [hc]
      rfl
    · rw [if_neg (fun z => hs (siteKey_inj.mp z)), if_neg hs]
  · rw [if_neg h, if_neg h]
    unfold encTally
    rw [List.map_append, cnt_none h]
    rfl
/-! frames -/
def begF (f b r : Nat) (g : V) (wd : Addr) : List (Str × V) := [("f", .int (f : Nat)), ("b", .int (b : Nat)), ("r", .int (r : Nat)), ("getter", g), ("words", .ref wd)]
structure FL where
  fa : Addr
  dx : Addr
  wd : Addr
structure RL where
  a : Addr
  dx : Addr
  bl : Addr
  sl : Addr
  md : Addr
  fr : List FL
def RL.W (L : RL) : List Addr := [L.a, L.bl, L.sl, L.md] ++ L.fr.flatMap fun q => [q.fa, q.wd]
def runF (pv : V) (L : RL) (fb : Bool) (gv : V) : List (Str × V) := [("program", pv), ("begun", .ref L.bl), ("said", .ref L.sl), ("made", .ref L.md), ("failed", .bl fb), ("given", gv)]
structure FrAt (A : Adr) (H : Hp) (q : FL) (f b r : Nat) (env : CmBase.Env) (g : V) (N : Nat) : Prop where
  obj : H q.fa = some (.ins A.C_Begun q.dx (begF f b r g q.wd))
  words : ∃ kvs, H q.wd = some (.dK kvs) ∧ EnvIs kvs env ∧ kvs.length ≤ N
def getterOf (fr : Cm09.Frame) : List Cm09.Frame → V
  | [] => .non
  | _ :: _ => .int ((fr.into : Nat) : Int)
def FrsAt (A : Adr) (H : Hp) (N : Nat) : List FL → List Cm09.Frame → Prop
  | [], [] => True
  | q :: ql, fr :: fl => FrAt A H q fr.f fr.b fr.r fr.env (getterOf fr fl) N ∧ FrsAt A H N ql fl
  | _, _ => False
structure RAt (K : PySem.W.Frag) (A : Adr) (L : RL) (M0 : List Addr) (H : Hp) (p : Prog) (frs : List Cm09.Frame) (said : List Nat) (log : List Site) (fb : Bool) (gv : V) (N : Nat) : Prop where
  dis : ∀ x ∈ L.W, x ∉ M0
  heat : Hot (L.W ++ M0) H
  bs : L.bl ≠ L.sl
  fas : (L.fr.map (·.fa)).Nodup
  wds : (L.fr.map (·.wd)).Nodup
  obj : ∃ pv, H L.a = some (.ins A.C_Run L.dx (runF pv L fb gv)) ∧ Rep K (cold (L.W ++ M0) H) pv (encSt A ⟨p, none⟩)
  hbeg : H L.bl = some (.lst ((L.fr.map fun q => V.ref q.fa).reverse))
  hsaid : H L.sl = some (.lst (vnats said))
  hmade : H L.md = some (.dT (encTally (tally log)))
  hfrs : FrsAt A H N L.fr frs
  few : frs.length ≤ N ∧ said.length ≤ N ∧ log.length ≤ N
section
variable {K : PySem.W.Frag} {A : Adr} {L : RL} {M0 : List Addr} {H H' : Hp} {p : Prog} {frs : List Cm09.Frame} {said : List Nat} {log : List Site} {fb : Bool} {gv : V} {N : Nat} {ql : List FL} {fl : List Cm09.Frame} {x : Addr} {o op oy : HO}
theorem keepU {y : Addr} (hp : H x = some op) (hy : H y = some oy) (hne : op ≠ oy) : upd H x o y = some oy := by
  have : y ≠ x := fun z => by
    rw [z, hp] at hy
    exact hne (Option.some.inj hy)
  rw [upd_ne this]
  exact hy
theorem keepE {y : Addr} (hne : y ≠ x) (hy : H y = some oy) : upd H x o y = some oy := by rw [upd_ne hne]; exact hy
theorem FrsAt.len : ∀ {ql : List FL} {fl : List Cm09.Frame}, FrsAt A H N ql fl → ql.length = fl.length
  | [], [], _ => rfl
  | _ :: ql, _ :: fl, h => congrArg (· + 1) (FrsAt.len h.2)
  | [], _ :: _, h => h.elim
  | _ :: _, [], h => h.elim
theorem FrsAt.map (hm : ∀ q ∈ ql, ∀ o, H q.fa = some o → H' q.fa = some o) (hw : ∀ q ∈ ql, ∀ o, H q.wd = some o → H' q.wd = some o) : ∀ {fl : List Cm09.Frame}, FrsAt A H N ql fl → FrsAt A H' N ql fl := by
  induction ql with
  | nil => intro fl h; cases fl with
    | nil => trivial
    | cons _ _ => exact h.elim
  | cons q ql ih =>
    intro fl h
    cases fl with
    | nil => exact h.elim
    | cons fr fl =>
      obtain ⟨⟨h1, kvs, h2, h3⟩, h4⟩ := h
      exact ⟨⟨hm q List.mem_cons_self _ h1, kvs, hw q List.mem_cons_self _ h2, h3⟩, ih (fun y hy => hm y (List.mem_cons_of_mem _ hy)) (fun y hy => hw y (List.mem_cons_of_mem _ hy)) h4⟩
theorem FrsAt.mono (e : Ex H H') (h : FrsAt A H N ql fl) : FrsAt A H' N ql fl := h.map (fun _ _ o z => e _ _ z) (fun _ _ o z => e _ _ z)
theorem FrsAt.more {N' : Nat} (hN : N ≤ N') : ∀ {ql : List FL} {fl : List Cm09.Frame}, FrsAt A H N ql fl → FrsAt A H N' ql fl
  | [], [], _ => trivial
  | q :: ql, fr :: fl, h => by
    obtain ⟨⟨h1, kvs, h2, h3, h4⟩, h5⟩ := h
    exact ⟨⟨h1, kvs, h2, h3, Nat.le_trans h4 hN⟩, FrsAt.more hN h5⟩
  | [], _ :: _, h => h.elim
  | _ :: _, [], h => h.elim
/-- what each frame's addresses hold -/
theorem FrsAt.kinds : ∀ {ql : List FL} {fl : List Cm09.Frame}, FrsAt A H N ql fl → ∀ q ∈ ql, (∃ f b r g, H q.fa = some (.ins A.C_Begun q.dx (begF f b r g q.wd))) ∧ ∃ kvs, H q.wd = some (.dK kvs)
  | [], _, _, q, hq => by cases hq
  | _ :: _, [], h, _, _ => h.elim
  | q0 :: ql, fr :: fl, h, q, hq => by
    obtain ⟨⟨h1, kvs, h2, h3, h4⟩, h5⟩ := h
    rcases List.mem_cons.1 hq with e | e
    · rw [e]; exact ⟨⟨_, _, _, _, h1⟩, kvs, h2⟩
    · exact FrsAt.kinds h5 q e
/-- something that is no frame changes -/
theorem FrsAt.apart (h : FrsAt A H N ql fl) (hp : H x = some op) (h1 : ∀ C dx f b r g wd, op ≠ .ins C dx (begF f b r g wd)) (h2 : ∀ kvs, op ≠ .dK kvs) : FrsAt A (upd H x o) N ql fl := by
  refine h.map (fun q hq oy hy => ?_) (fun q hq oy hy => ?_)
  · obtain ⟨⟨f, b, r, g, z⟩, _⟩ := h.kinds q hq
    have e : oy = .ins A.C_Begun q.dx (begF f b r g q.wd) := Option.some.inj (hy.symm.trans z)
    exact keepU hp hy (by rw [e]; exact h1 _ _ _ _ _ _ _)
  · obtain ⟨_, kvs, z⟩ := h.kinds q hq
    have e : oy = .dK kvs := Option.some.inj (hy.symm.trans z)
    exact keepU hp hy (by rw [e]; exact h2 _)
theorem mem_fa {q : FL} (h : q ∈ L.fr) : q.fa ∈ L.W := List.mem_append_right _ (List.mem_flatMap.mpr ⟨q, h, List.mem_cons_self⟩)
theorem mem_wd {q : FL} (h : q ∈ L.fr) : q.wd ∈ L.W := List.mem_append_right _ (List.mem_flatMap.mpr ⟨q, h, List.mem_cons_of_mem _ (List.mem_singleton.mpr rfl)⟩)
theorem mem_ra : L.a ∈ L.W := by unfold RL.W; simp
theorem mem_bl : L.bl ∈ L.W := by unfold RL.W; simp
theorem mem_sl : L.sl ∈ L.W := by unfold RL.W; simp
theorem mem_md : L.md ∈ L.W := by unfold RL.W; simp
theorem RAt.mono (e : Ex H H') (R : RAt K A L M0 H p frs said log fb gv N) : RAt K A L M0 H' p frs said log fb gv N := by
  obtain ⟨pv, h1, h2⟩ := R.obj
  exact ⟨R.dis, R.heat.mono e, R.bs, R.fas, R.wds, ⟨pv, e _ _ h1, h2.mono (cold_mono e)⟩, e _ _ R.hbeg, e _ _ R.hsaid, e _ _ R.hmade, R.hfrs.mono e, R.few⟩
theorem RAt.more {N' : Nat} (hN : N ≤ N') (R : RAt K A L M0 H p frs said log fb gv N) : RAt K A L M0 H p frs said log fb gv N' :=
  ⟨R.dis, R.heat, R.bs, R.fas, R.wds, R.obj, R.hbeg, R.hsaid, R.hmade, R.hfrs.more hN, by have := R.few; omega⟩
theorem keepsU (hx : x ∈ L.W) : Keeps L.W H (upd H x o) L.W := ⟨fun y u hy h => by rw [upd_ne (show y ≠ x from fun z => hy (by rw [z]; exact hx))]; exact h, fun y hy => .inl hy⟩
/-- failed, given -/
theorem RAt.marks {fb' : Bool} {gv' pv : V} (R : RAt K A L M0 H p frs said log fb gv N) (hp : H L.a = some (.ins A.C_Run L.dx (runF pv L fb gv))) : RAt K A L M0 (upd H L.a (.ins A.C_Run L.dx (runF pv L fb' gv'))) p frs said log fb' gv' N := by
  obtain ⟨pv', h1, h2⟩ := R.obj
  have e : pv' = pv := by
    rw [hp] at h1
    injection h1 with h1
    injection h1 with _ _ h1
    unfold runF at h1
    injection h1 with h1 _
    injection h1 with _ h1
    exact h1.symm
  subst e
  have c : cold (L.W ++ M0) (upd H L.a (.ins A.C_Run L.dx (runF pv' L fb' gv'))) = cold (L.W ++ M0) H := cold_upd (List.mem_append_left _ mem_ra)
  refine ⟨R.dis, R.heat.upd, R.bs, R.fas, R.wds, ⟨pv', upd_same, by rw [c]; exact h2⟩, keepU hp R.hbeg (fun z => by cases z), keepU hp R.hsaid (fun z => by cases z), keepU hp R.hmade (fun z => by cases z), R.hfrs.apart hp (fun C dx f b r g wd z => ?_) (fun kvs z => by cases z), R.few⟩
  injection z with _ _ z
  have := congrArg List.length z
  simp [runF, begF] at this
/-- a word is said -/
theorem RAt.say {v : Nat} (R : RAt K A L M0 H p frs said log fb gv N) : RAt K A L M0 (upd H L.sl (.lst (vnats said ++ [.int (v : Nat)]))) p frs (said ++ [v]) log fb gv (N + 1) := by
  obtain ⟨pv, h1, h2⟩ := R.obj
  have hp := R.hsaid
  have c : cold (L.W ++ M0) (upd H L.sl (.lst (vnats said ++ [.int (v : Nat)]))) = cold (L.W ++ M0) H := cold_upd (List.mem_append_left _ mem_sl)
  refine ⟨R.dis, R.heat.upd, R.bs, R.fas, R.wds, ⟨pv, keepU hp h1 (fun z => by cases z), by rw [c]; exact h2⟩, keepE R.bs R.hbeg, ?_, keepU hp R.hmade (fun z => by cases z), (R.hfrs.apart hp (fun C dx f b r g wd z => by cases z) (fun kvs z => by cases z)).more (Nat.le_succ _), ?_⟩
  · rw [upd_same]
    unfold vnats
    rw [List.map_append]
    rfl
  · have := R.few
    rw [List.length_append]
    show _ ∧ said.length + 1 ≤ _ ∧ _
    omega
/-- a call is counted -/
theorem RAt.count (s : Site) (R : RAt K A L M0 H p frs said log fb gv N) : RAt K A L M0 (upd H L.md (.dT (putK (encTally (tally log)) (siteKey s) (.int ((cntOf (tally log) s : Nat) + 1 : Int))))) p frs said (log ++ [s]) fb gv (N + 1) := by
  obtain ⟨pv, h1, h2⟩ := R.obj
  have hp := R.hmade
  rw [put_tally s (tally_nodup log), ← tally_snoc]
  have c : cold (L.W ++ M0) (upd H L.md (.dT (encTally (tally (log ++ [s]))))) = cold (L.W ++ M0) H := cold_upd (List.mem_append_left _ mem_md)
  refine ⟨R.dis, R.heat.upd, R.bs, R.fas, R.wds, ⟨pv, keepU hp h1 (fun z => by cases z), by rw [c]; exact h2⟩, keepU hp R.hbeg (fun z => by cases z), keepU hp R.hsaid (fun z => by cases z), upd_same, (R.hfrs.apart hp (fun C dx f b r g wd z => by cases z) (fun kvs z => by cases z)).more (Nat.le_succ _), ?_⟩
  have := R.few
  rw [List.length_append]
  show _ ∧ _ ∧ log.length + 1 ≤ _
  omega
/-- the frames change alone -/
theorem RAt.reframe {frs' : List Cm09.Frame} {N' : Nat} (R : RAt K A L M0 H p frs said log fb gv N) (hx : x ∈ L.W) (hp : H x = some op) (h1 : ∀ xs, op ≠ .lst xs) (h2 : ∀ kvs, op ≠ .dT kvs) (h3 : ∀ pv, op ≠ .ins A.C_Run L.dx (runF pv L fb gv)) (hN : N ≤ N') (hf : FrsAt A (upd H x o) N' L.fr frs') (hl : frs'.length = frs.length) : RAt K A L M0 (upd H x o) p frs' said log fb gv N' := by
  obtain ⟨pv, g1, g2⟩ := R.obj
  have c : cold (L.W ++ M0) (upd H x o) = cold (L.W ++ M0) H := cold_upd (List.mem_append_left _ hx)
  have := R.few
  exact ⟨R.dis, R.heat.upd, R.bs, R.fas, R.wds, ⟨pv, keepU hp g1 (h3 _), by rw [c]; exact g2⟩, keepU hp R.hbeg (h1 _), keepU hp R.hsaid (h1 _), keepU hp R.hmade (h2 _), hf, by omega⟩
theorem FrsAt.cut : ∀ {ql : List FL} {fl : List Cm09.Frame} {i : Nat} {q : FL}, FrsAt A H N ql fl → ql[i]? = some q → ∃ fr, fl[i]? = some fr ∧ FrAt A H q fr.f fr.b fr.r fr.env (getterOf fr (fl.drop (i + 1))) N
  | [], _, _, _, _, e => by simp at e
  | _ :: _, [], _, _, h, _ => h.elim
  | q0 :: ql, fr :: fl, 0, q, h, e => by
    have e' : q0 = q := Option.some.inj e
    subst e'
    exact ⟨fr, rfl, h.1⟩
  | q0 :: ql, fr :: fl, i + 1, q, h, e => by
    obtain ⟨fr', h1, h2⟩ := FrsAt.cut (i := i) h.2 e
    exact ⟨fr', h1, h2⟩
/-- the words of the frame at i change -/
theorem FrsAt.reword {env : CmBase.Env} {kvs : List (Key × V)} {N' : Nat} (hN : N ≤ N') (hk : EnvIs kvs env) (hl : kvs.length ≤ N') : ∀ {ql : List FL} {fl : List Cm09.Frame} {i : Nat} {q : FL} {fr : Cm09.Frame}, FrsAt A H N ql fl → (ql.map (·.wd)).Nodup → ql[i]? = some q → fl[i]? = some fr → FrsAt A (upd H q.wd (.dK kvs)) N' ql (fl.set i { fr with env := env })
  | [], _, _, _, _, _, _, e, _ => by simp at e
  | _ :: _, [], _, _, _, h, _, _, _ => h.elim
  | q0 :: ql, fr0 :: fl, 0, q, fr, h, nd, e, ef => by
    have e' : q0 = q := Option.some.inj e
    have ef' : fr0 = fr := Option.some.inj ef
    subst e' ef'
    rw [List.map_cons] at nd
    obtain ⟨n1, n2⟩ := List.nodup_cons.1 nd
    obtain ⟨⟨h1, kvs0, h2, h3⟩, h4⟩ := h
    refine ⟨⟨keepU h2 h1 (fun z => by cases z), kvs, upd_same, hk, hl⟩, (h4.map (fun y hy oy z => ?_) (fun y hy oy z => ?_)).more hN⟩
    · obtain ⟨⟨f, b, r, g, z'⟩, _⟩ := h4.kinds y hy
      have e : oy = .ins A.C_Begun y.dx (begF f b r g y.wd) := Option.some.inj (z.symm.trans z')
      exact keepU h2 z (by rw [e]; intro y; cases y)
    · exact keepE (fun y' => n1 (List.mem_map.mpr ⟨y, hy, y'⟩)) z
  | q0 :: ql, fr0 :: fl, i + 1, q, fr, h, nd, e, ef => by
    rw [List.map_cons] at nd
    obtain ⟨n1, n2⟩ := List.nodup_cons.1 nd
    obtain ⟨⟨h1, kvs0, h2, h3, h5⟩, h4⟩ := h
    have e' : ql[i]? = some q := e
    have hq : q ∈ ql := List.mem_of_getElem? e'
    have ih := FrsAt.reword hN hk hl h4 n2 e' (show fl[i]? = some fr from ef)
    obtain ⟨_, kvs1, hz⟩ := h4.kinds q hq
    have hg : getterOf fr0 (fl.set i { fr with env := env }) = getterOf fr0 fl := by
      cases fl with
      | nil => rfl
      | cons a b => cases i <;> rfl
    refine ⟨?_, ih⟩
    show FrAt A _ q0 fr0.f fr0.b fr0.r fr0.env (getterOf fr0 (fl.set i { fr with env := env })) N'
    rw [hg]
    exact ⟨keepU hz h1 (fun z => by cases z), kvs0, keepE (fun y' => n1 (List.mem_map.mpr ⟨q, hq, y'.symm⟩)) h2, h3, Nat.le_trans h5 hN⟩
/-- the place of the frame at i changes -/
theorem FrsAt.replace {f b r : Nat} : ∀ {ql : List FL} {fl : List Cm09.Frame} {i : Nat} {q : FL} {fr : Cm09.Frame}, FrsAt A H N ql fl → (ql.map (·.fa)).Nodup → ql[i]? = some q → fl[i]? = some fr → FrsAt A (upd H q.fa (.ins A.C_Begun q.dx (begF f b r (getterOf fr (fl.drop (i + 1))) q.wd))) N ql (fl.set i { fr with f := f, b := b, r := r })
  | [], _, _, _, _, _, _, e, _ => by simp at e
  | _ :: _, [], _, _, _, h, _, _, _ => h.elim
  | q0 :: ql, fr0 :: fl, 0, q, fr, h, nd, e, ef => by
    have e' : q0 = q := Option.some.inj e
    have ef' : fr0 = fr := Option.some.inj ef
    subst e' ef'
    rw [List.map_cons] at nd
    obtain ⟨n1, n2⟩ := List.nodup_cons.1 nd
    obtain ⟨⟨h1, kvs0, h2, h3⟩, h4⟩ := h
    refine ⟨⟨upd_same, kvs0, keepU h1 h2 (fun z => by cases z), h3⟩, h4.map (fun y hy oy z => ?_) (fun y hy oy z => ?_)⟩
    · exact keepE (fun y' => n1 (List.mem_map.mpr ⟨y, hy, y'⟩)) z
    · obtain ⟨_, kvs1, z'⟩ := h4.kinds y hy
      have e : oy = .dK kvs1 := Option.some.inj (z.symm.trans z')
      exact keepU h1 z (by rw [e]; intro y; cases y)
  | q0 :: ql, fr0 :: fl, i + 1, q, fr, h, nd, e, ef => by
    rw [List.map_cons] at nd
    obtain ⟨n1, n2⟩ := List.nodup_cons.1 nd
    obtain ⟨⟨h1, kvs0, h2, h3, h5⟩, h4⟩ := h
    have e' : ql[i]? = some q := e
    have hq : q ∈ ql := List.mem_of_getElem? e'
    have ih := FrsAt.replace (f := f) (b := b) (r := r) h4 n2 e' (show fl[i]? = some fr from ef)
    obtain ⟨⟨_, _, _, _, hz⟩, _⟩ := h4.kinds q hq
    have hg : getterOf fr0 (fl.set i { fr with f := f, b := b, r := r }) = getterOf fr0 fl := by
      cases fl with
      | nil => rfl
      | cons a b => cases i <;> rfl
    refine ⟨?_, ih⟩
    show FrAt A _ q0 fr0.f fr0.b fr0.r fr0.env (getterOf fr0 (fl.set i { fr with f := f, b := b, r := r })) N
    rw [hg]
    exact ⟨keepE (fun y' => n1 (List.mem_map.mpr ⟨q, hq, y'.symm⟩)) h1, kvs0, keepU hz h2 (fun z => by cases z), h3, h5⟩
theorem run_no_begun {pv : V} {C dx : Addr} {f b r : Nat} {g : V} {wd : Addr} : HO.ins A.C_Begun dx (begF f b r g wd) ≠ .ins A.C_Run L.dx (runF pv L fb gv) := fun z => by
  injection z with _ _ z
  have := congrArg List.length z
  simp [runF, begF] at this
theorem RAt.reword {env : CmBase.Env} {kvs : List (Key × V)} {N' i : Nat} {q : FL} {fr : Cm09.Frame} (R : RAt K A L M0 H p frs said log fb gv N) (hN : N ≤ N') (hk : EnvIs kvs env) (hl : kvs.length ≤ N') (hq : L.fr[i]? = some q) (hf : frs[i]? = some fr) : RAt K A L M0 (upd H q.wd (.dK kvs)) p (frs.set i { fr with env := env }) said log fb gv N' := by
  have hm := List.mem_of_getElem? hq
  obtain ⟨_, kvs0, hz⟩ := R.hfrs.kinds q hm
  exact R.reframe (mem_wd hm) hz (fun _ z => by cases z) (fun _ z => by cases z) (fun _ z => by cases z) hN (R.hfrs.reword hN hk hl R.wds hq hf) (List.length_set ..)
theorem RAt.replace {f b r i : Nat} {q : FL} {fr : Cm09.Frame} (R : RAt K A L M0 H p frs said log fb gv N) (hq : L.fr[i]? = some q) (hf : frs[i]? = some fr) : RAt K A L M0 (upd H q.fa (.ins A.C_Begun q.dx (begF f b r (getterOf fr (frs.drop (i + 1))) q.wd))) p (frs.set i { fr with f := f, b := b, r := r }) said log fb gv N := by
  have hm := List.mem_of_getElem? hq
  obtain ⟨⟨f0, b0, r0, g0, hz⟩, _⟩ := R.hfrs.kinds q hm
  exact R.reframe (mem_fa hm) hz (fun _ z => by cases z) (fun _ z => by cases z) (fun _ => run_no_begun (C := A.C_Begun)) (Nat.le_refl _) (R.hfrs.replace R.fas hq hf) (List.length_set ..)
end
end Pc

namespace Pc
open PySem PySem.Spec PyProof.Rows L2 Evl
open CmBase Cm09
/-! ### what an operation makes -/
theorem nat_xor_and (m n : Nat) : (m ^^^ n) + (m &&& n) = (m ||| n) := by
  rcases Nat.eq_zero_or_pos m with none | some
  · rw [none, Nat.zero_xor, Nat.zero_and, Nat.zero_or, Nat.add_zero]
  · have half := nat_xor_and (m / 2) (n / 2)
    rw [← Nat.xor_div_two, ← Nat.and_div_two, ← Nat.or_div_two] at half
    have hx : (m ^^^ n) % 2 = 1 ↔ _ := Nat.xor_mod_two_eq_one
    have ha : (m &&& n) % 2 = 1 ↔ _ := Nat.and_mod_two_eq_one
    have ho : (m ||| n) % 2 = 1 ↔ _ := Nat.or_mod_two_eq_one
    omega
termination_by m
decreasing_by omega
theorem bits_and (a b : Nat) : Builtin.bitAnd ((a : Nat) : Int) ((b : Nat) : Int) = ((a &&& b : Nat) : Int) := by
  rw [bitAnd_pp (by omega) (by omega)]
  rfl
theorem bits_or (a b : Nat) : Builtin.bitOr ((a : Nat) : Int) ((b : Nat) : Int) = ((a ||| b : Nat) : Int) := by
  rw [bitOr_and, bits_and]
  have := nat_or_add_and a b
  omega
theorem bits_xor (a b : Nat) : Builtin.bitXor ((a : Nat) : Int) ((b : Nat) : Int) = ((a ^^^ b : Nat) : Int) := by
  unfold Builtin.bitXor
  rw [bits_or, bits_and]
  have := nat_xor_and a b
  omega
section
variable {P : Program} {w : World} {K : PySem.W.Frag} {mg : Str → Option Value} {base : Heap} {A : Adr}
abbrev R_result : List Dv → Dv → Prop := fun ds d => ∃ (o : Op) (a b v : Nat), ds = [nat o.num, nat a, nat b] ∧ a < 4294967296 ∧ b < 4294967296 ∧ o.make a b = some v ∧ d = nat v
theorem ok_result (T : Top K mg A) : DefOk P w K mg base 1 A.f_result "result" ["o", "first", "second"] (spR K R_result) := by
  refine dv_result T (spR_len (fun ds d ⟨o, a, b, v, hd, _⟩ => by rw [hd]; rfl)) (fun vs H Q E ⟨M, ds, d, hM, rs, ⟨o, a, b, v, hd, ha, hb, hv, he⟩, q⟩ => ?_)
  subst hd he
  have S : At K H M H (start N_result vs) [.dat (nat o.num), .dat (nat a), .dat (nat b)] := At.start hM rs
  have ret : ∀ {te : TE} {n : Int} {H1 : Hp} {D : Ends}, D.rt = Q → At K H M H1 (start N_result vs) [.dat (nat o.num), .dat (nat a), .dat (nat b)] → EvF K te (start N_result vs) M H1 (.int n) → n = ((v : Nat) : Int) → tRet te D (start N_result vs) H1 := fun {te n H1 D} hD S1 h hn => by
    subst hn
    refine sf_ret S1 h fun u H' e r => ?_
    rw [hD]
    exact q u H' e r
  have p32 : (2 : Int) ^ (((b % 32 : Nat) : Int)).toNat = ((2 ^ (b % 32) : Nat) : Int) := by
    rw [Int.toNat_natCast, Int.natCast_pow]
    rfl
  have m32 : ((b : Nat) : Int) % 32 = ((b % 32 : Nat) : Int) := by omega
  cases o <;> simp only [Op.make] at hv
  case add =>
    cases hv
    refine sf_if S (eb_test (ef_eq (ef_var S rfl) ef_int)) (fun _ H1 e1 S1 => ?_) (fun z => by cases z)
    refine ret rfl S1 (ef_mod (ef_add (ef_var S1 rfl) (ef_var S1 rfl)) ef_int (by decide)) (by show _ = (((a + b) % 4294967296 : Nat) : Int); omega)
  case sub =>
    cases hv
    refine sf_if S (eb_test (ef_eq (ef_var S rfl) ef_int)) (fun z => by cases z) (fun _ H1 e1 S1 => ?_)
    refine sf_if S1 (eb_test (ef_eq (ef_var S1 rfl) ef_int)) (fun _ H2 e2 S2 => ?_) (fun z => by cases z)
    refine ret rfl S2 (ef_mod (ef_sub (ef_var S2 rfl) (ef_var S2 rfl)) ef_int (by decide)) (by show _ = (((a + (4294967296 - b % 4294967296)) % 4294967296 : Nat) : Int); omega)
  case mul =>
    cases hv
    refine sf_if S (eb_test (ef_eq (ef_var S rfl) ef_int)) (fun z => by cases z) (fun _ H1 e1 S1 => ?_)
    refine sf_if S1 (eb_test (ef_eq (ef_var S1 rfl) ef_int)) (fun z => by cases z) (fun _ H2 e2 S2 => ?_)
    refine sf_if S2 (eb_test (ef_eq (ef_var S2 rfl) ef_int)) (fun _ H3 e3 S3 => ?_) (fun z => by cases z)
    refine ret rfl S3 (ef_mod (ef_mul (ef_var S3 rfl) (ef_var S3 rfl) (.inl ⟨by omega, by omega⟩)) ef_int (by decide)) ?_
    show _ = (((a * b) % 4294967296 : Nat) : Int)
    rw [Int.natCast_emod, Int.natCast_mul]
    rfl
  case and =>
    cases hv
    refine sf_if S (eb_test (ef_eq (ef_var S rfl) ef_int)) (fun z => by cases z) (fun _ H1 e1 S1 => ?_)
    refine sf_if S1 (eb_test (ef_eq (ef_var S1 rfl) ef_int)) (fun z => by cases z) (fun _ H2 e2 S2 => ?_)
    refine sf_if S2 (eb_test (ef_eq (ef_var S2 rfl) ef_int)) (fun z => by cases z) (fun _ H3 e3 S3 => ?_)
    refine sf_if S3 (eb_test (ef_eq (ef_var S3 rfl) ef_int)) (fun _ H4 e4 S4 => ?_) (fun z => by cases z)
    exact ret rfl S4 (ef_and (ef_var S4 rfl) (ef_var S4 rfl)) (bits_and a b)
  case or =>
    cases hv
    refine sf_if S (eb_test (ef_eq (ef_var S rfl) ef_int)) (fun z => by cases z) (fun _ H1 e1 S1 => ?_)
    refine sf_if S1 (eb_test (ef_eq (ef_var S1 rfl) ef_int)) (fun z => by cases z) (fun _ H2 e2 S2 => ?_)
    refine sf_if S2 (eb_test (ef_eq (ef_var S2 rfl) ef_int)) (fun z => by cases z) (fun _ H3 e3 S3 => ?_)
    refine sf_if S3 (eb_test (ef_eq (ef_var S3 rfl) ef_int)) (fun z => by cases z) (fun _ H4 e4 S4 => ?_)
    refine sf_if S4 (eb_test (ef_eq (ef_var S4 rfl) ef_int)) (fun _ H5 e5 S5 => ?_) (fun z => by cases z)
    exact ret rfl S5 (ef_or (ef_var S5 rfl) (ef_var S5 rfl)) (bits_or a b)
  case xor =>
    cases hv
    refine sf_if S (eb_test (ef_eq (ef_var S rfl) ef_int)) (fun z => by cases z) (fun _ H1 e1 S1 => ?_)
    refine sf_if S1 (eb_test (ef_eq (ef_var S1 rfl) ef_int)) (fun z => by cases z) (fun _ H2 e2 S2 => ?_)
    refine sf_if S2 (eb_test (ef_eq (ef_var S2 rfl) ef_int)) (fun z => by cases z) (fun _ H3 e3 S3 => ?_)
    refine sf_if S3 (eb_test (ef_eq (ef_var S3 rfl) ef_int)) (fun z => by cases z) (fun _ H4 e4 S4 => ?_)
    refine sf_if S4 (eb_test (ef_eq (ef_var S4 rfl) ef_int)) (fun z => by cases z) (fun _ H5 e5 S5 => ?_)
    refine sf_if S5 (eb_test (ef_eq (ef_var S5 rfl) ef_int)) (fun _ H6 e6 S6 => ?_) (fun z => by cases z)
    exact ret rfl S6 (ef_xor (ef_var S6 rfl) (ef_var S6 rfl)) (bits_xor a b)
  case shl =>
    cases hv
    refine sf_if S (eb_test (ef_eq (ef_var S rfl) ef_int)) (fun z => by cases z) (fun _ H1 e1 S1 => ?_)
    refine sf_if S1 (eb_test (ef_eq (ef_var S1 rfl) ef_int)) (fun z => by cases z) (fun _ H2 e2 S2 => ?_)
    refine sf_if S2 (eb_test (ef_eq (ef_var S2 rfl) ef_int)) (fun z => by cases z) (fun _ H3 e3 S3 => ?_)
    refine sf_if S3 (eb_test (ef_eq (ef_var S3 rfl) ef_int)) (fun z => by cases z) (fun _ H4 e4 S4 => ?_)
    refine sf_if S4 (eb_test (ef_eq (ef_var S4 rfl) ef_int)) (fun z => by cases z) (fun _ H5 e5 S5 => ?_)
    refine sf_if S5 (eb_test (ef_eq (ef_var S5 rfl) ef_int)) (fun z => by cases z) (fun _ H6 e6 S6 => ?_)
    refine sf_if S6 (eb_test (ef_eq (ef_var S6 rfl) ef_int)) (fun _ H7 e7 S7 => ?_) (fun z => by cases z)
    refine ret rfl S7 (ef_mod (ef_shl (ef_var S7 rfl) ((ef_mod (ef_var S7 rfl) ef_int (by decide)).cast (congrArg Dv.int m32)) ⟨by omega, by omega, by omega⟩) ef_int (by decide)) ?_
    show _ = (((a * 2 ^ (b % 32)) % 4294967296 : Nat) : Int)
    rw [p32, Int.natCast_emod, Int.natCast_mul]
    rfl
  case shr =>
    cases hv
    refine sf_if S (eb_test (ef_eq (ef_var S rfl) ef_int)) (fun z => by cases z) (fun _ H1 e1 S1 => ?_)
    refine sf_if S1 (eb_test (ef_eq (ef_var S1 rfl) ef_int)) (fun z => by cases z) (fun _ H2 e2 S2 => ?_)
    refine sf_if S2 (eb_test (ef_eq (ef_var S2 rfl) ef_int)) (fun z => by cases z) (fun _ H3 e3 S3 => ?_)
    refine sf_if S3 (eb_test (ef_eq (ef_var S3 rfl) ef_int)) (fun z => by cases z) (fun _ H4 e4 S4 => ?_)
    refine sf_if S4 (eb_test (ef_eq (ef_var S4 rfl) ef_int)) (fun z => by cases z) (fun _ H5 e5 S5 => ?_)
    refine sf_if S5 (eb_test (ef_eq (ef_var S5 rfl) ef_int)) (fun z => by cases z) (fun _ H6 e6 S6 => ?_)
    refine sf_if S6 (eb_test (ef_eq (ef_var S6 rfl) ef_int)) (fun z => by cases z) (fun _ H7 e7 S7 => ?_)
    refine sf_if S7 (eb_test (ef_eq (ef_var S7 rfl) ef_int)) (fun _ H8 e8 S8 => ?_) (fun z => by cases z)
    refine ret rfl S8 (ef_shr (ef_var S8 rfl) ((ef_mod (ef_var S8 rfl) ef_int (by decide)).cast (congrArg Dv.int m32)) (by omega)) ?_
    show _ = ((a / 2 ^ (b % 32) : Nat) : Int)
    rw [p32, Int.natCast_ediv]
  case below =>
    cases hv
    refine sf_if S (eb_test (ef_eq (ef_var S rfl) ef_int)) (fun z => by cases z) (fun _ H1 e1 S1 => ?_)
    refine sf_if S1 (eb_test (ef_eq (ef_var S1 rfl) ef_int)) (fun z => by cases z) (fun _ H2 e2 S2 => ?_)
    refine sf_if S2 (eb_test (ef_eq (ef_var S2 rfl) ef_int)) (fun z => by cases z) (fun _ H3 e3 S3 => ?_)
    refine sf_if S3 (eb_test (ef_eq (ef_var S3 rfl) ef_int)) (fun z => by cases z) (fun _ H4 e4 S4 => ?_)
    refine sf_if S4 (eb_test (ef_eq (ef_var S4 rfl) ef_int)) (fun z => by cases z) (fun _ H5 e5 S5 => ?_)
    refine sf_if S5 (eb_test (ef_eq (ef_var S5 rfl) ef_int)) (fun z => by cases z) (fun _ H6 e6 S6 => ?_)
    refine sf_if S6 (eb_test (ef_eq (ef_var S6 rfl) ef_int)) (fun z => by cases z) (fun _ H7 e7 S7 => ?_)
    refine sf_if S7 (eb_test (ef_eq (ef_var S7 rfl) ef_int)) (fun z => by cases z) (fun _ H8 e8 S8 => ?_)
    refine sf_if S8 (eb_test (ef_eq (ef_var S8 rfl) ef_int)) (fun _ H9 e9 S9 => ?_) (fun z => by cases z)
    refine ret rfl S9 (n := if a < b then 1 else 0) (ef_if (eb_test (ef_ltN (ef_var S9 rfl) (ef_var S9 rfl))) (fun hb => ?_) (fun hb => ?_)) (by split <;> rfl)
    · rw [if_pos (of_decide_eq_true hb)]; exact ef_int
    · rw [if_neg (of_decide_eq_false hb)]; exact ef_int
  case same =>
    cases hv
    refine sf_if S (eb_test (ef_eq (ef_var S rfl) ef_int)) (fun z => by cases z) (fun _ H1 e1 S1 => ?_)
    refine sf_if S1 (eb_test (ef_eq (ef_var S1 rfl) ef_int)) (fun z => by cases z) (fun _ H2 e2 S2 => ?_)
    refine sf_if S2 (eb_test (ef_eq (ef_var S2 rfl) ef_int)) (fun z => by cases z) (fun _ H3 e3 S3 => ?_)
    refine sf_if S3 (eb_test (ef_eq (ef_var S3 rfl) ef_int)) (fun z => by cases z) (fun _ H4 e4 S4 => ?_)
    refine sf_if S4 (eb_test (ef_eq (ef_var S4 rfl) ef_int)) (fun z => by cases z) (fun _ H5 e5 S5 => ?_)
    refine sf_if S5 (eb_test (ef_eq (ef_var S5 rfl) ef_int)) (fun z => by cases z) (fun _ H6 e6 S6 => ?_)
    refine sf_if S6 (eb_test (ef_eq (ef_var S6 rfl) ef_int)) (fun z => by cases z) (fun _ H7 e7 S7 => ?_)
    refine sf_if S7 (eb_test (ef_eq (ef_var S7 rfl) ef_int)) (fun z => by cases z) (fun _ H8 e8 S8 => ?_)
    refine sf_if S8 (eb_test (ef_eq (ef_var S8 rfl) ef_int)) (fun z => by cases z) (fun _ H9 e9 S9 => ?_)
    refine sf_if S9 (eb_test (ef_eq (ef_var S9 rfl) ef_int)) (fun _ H10 e10 S10 => ?_) (fun z => by cases z)
    refine ret rfl S10 (n := if a = b then 1 else 0) (ef_if (eb_test (ef_eqN (ef_var S10 rfl) (ef_var S10 rfl))) (fun hb => ?_) (fun hb => ?_)) (by split <;> rfl)
    · rw [if_pos (of_decide_eq_true hb)]; exact ef_int
    · rw [if_neg (of_decide_eq_false hb)]; exact ef_int
  case div =>
    by_cases h0 : b = 0
    · rw [if_pos h0] at hv; cases hv
    rw [if_neg h0] at hv
    cases hv
    refine sf_if S (eb_test (ef_eq (ef_var S rfl) ef_int)) (fun z => by cases z) (fun _ H1 e1 S1 => ?_)
    refine sf_if S1 (eb_test (ef_eq (ef_var S1 rfl) ef_int)) (fun z => by cases z) (fun _ H2 e2 S2 => ?_)
    refine sf_if S2 (eb_test (ef_eq (ef_var S2 rfl) ef_int)) (fun z => by cases z) (fun _ H3 e3 S3 => ?_)
    refine sf_if S3 (eb_test (ef_eq (ef_var S3 rfl) ef_int)) (fun z => by cases z) (fun _ H4 e4 S4 => ?_)
    refine sf_if S4 (eb_test (ef_eq (ef_var S4 rfl) ef_int)) (fun z => by cases z) (fun _ H5 e5 S5 => ?_)
    refine sf_if S5 (eb_test (ef_eq (ef_var S5 rfl) ef_int)) (fun z => by cases z) (fun _ H6 e6 S6 => ?_)
    refine sf_if S6 (eb_test (ef_eq (ef_var S6 rfl) ef_int)) (fun z => by cases z) (fun _ H7 e7 S7 => ?_)
    refine sf_if S7 (eb_test (ef_eq (ef_var S7 rfl) ef_int)) (fun z => by cases z) (fun _ H8 e8 S8 => ?_)
    refine sf_if S8 (eb_test (ef_eq (ef_var S8 rfl) ef_int)) (fun z => by cases z) (fun _ H9 e9 S9 => ?_)
    refine sf_if S9 (eb_test (ef_eq (ef_var S9 rfl) ef_int)) (fun z => by cases z) (fun _ H10 e10 S10 => ?_)
    refine ret rfl S10 (ef_I (g := fun i j => .int (i / j)) (ef_var S10 (i := 1) rfl) (ef_var S10 (i := 2) rfl) (wide_div (b := 32) (by omega) (by rw [Int.natAbs_natCast]; exact Nat.lt_of_lt_of_eq hb (by decide)) (by decide) (by decide)) fun _ => .int _) (by rw [Int.natCast_ediv])
/-! words -/
theorem lkBf {f b r : Nat} {g : V} {wd : Addr} : List.lookup ("f" : Str) (begF f b r g wd) = some (.int (f : Nat)) := lk_here
theorem lkBb {f b r : Nat} {g : V} {wd : Addr} : List.lookup ("b" : Str) (begF f b r g wd) = some (.int (b : Nat)) := (lk_past (by decide +kernel)).trans lk_here
theorem lkBr {f b r : Nat} {g : V} {wd : Addr} : List.lookup ("r" : Str) (begF f b r g wd) = some (.int (r : Nat)) := (lk_past (by decide +kernel)).trans ((lk_past (by decide +kernel)).trans lk_here)
theorem lkBg {f b r : Nat} {g : V} {wd : Addr} : List.lookup ("getter" : Str) (begF f b r g wd) = some g := (lk_past (by decide +kernel)).trans ((lk_past (by decide +kernel)).trans ((lk_past (by decide +kernel)).trans lk_here))
theorem lkBw {f b r : Nat} {g : V} {wd : Addr} : List.lookup ("words" : Str) (begF f b r g wd) = some (.ref wd) := (lk_past (by decide +kernel)).trans ((lk_past (by decide +kernel)).trans ((lk_past (by decide +kernel)).trans ((lk_past (by decide +kernel)).trans lk_here)))
def sp_word (A : Adr) : Sp := fun vs H Q _ => ∃ (q : FL) (f b r : Nat) (env : CmBase.Env) (g : V) (N x : Nat), vs = [.ref q.fa, .int (x : Nat)] ∧ FrAt A H q f b r env g N ∧ ∀ H', Ex H H' → Q (.int ((look env x : Nat) : Int)) H'
theorem ok_word_of (T : Top K mg A) : DefOk P w K mg base 1 A.f_word_of "word_of" ["begun", "name"] (sp_word A) := by
  refine dv_word_of T (fun vs H Q E ⟨q, f, b, r, env, g, N, x, hv, _⟩ => by rw [hv]; rfl) (fun vs H Q E ⟨fq, f, b, r, env, g, N, x, hv, F, q⟩ => ?_)
  subst hv
  obtain ⟨kvs, hk, he, _⟩ := F.words
  refine ⟨.ref fq.fa, rfl, fq.fa, _, fq.dx, _, .ref fq.wd, rfl, F.obj, T.d_Begun.cl, T.n_Begun_words, lkBw, fq.wd, rfl, .inl ⟨kvs, .inl hk⟩, ?_⟩
  refine ⟨.int (x : Nat), rfl, valV kvs (kI x), DGet.k (k := kI x) hk, ?_⟩
  rw [he x]
  exact q H (Ex.refl H)
/-- word_of, as an expression -/
theorem ev_word {σ : L2.St} {H : Hp} {ta tb : TE} {q : FL} {f b r N x : Nat} {env : CmBase.Env} {g : V} (ha : Ev ta σ H (.ref q.fa)) (hb : Ev tb σ H (.int (x : Nat))) (F : FrAt A H q f b r env g N) : Ev (tCall (sp_word A) [] E0 (tCons ta (tCons tb tNil))) σ H (.int ((look env x : Nat) : Int)) := fun H1 e Q k =>
  ha H1 e _ fun H2 e2 => hb H2 (e.trans e2) _ fun H3 e3 => by
    have e13 := (e.trans e2).trans e3
    obtain ⟨h1, kvs, h2, h3⟩ := F
    exact ⟨q, f, b, r, env, g, N, x, rfl, ⟨e13 _ _ h1, kvs, e13 _ _ h2, h3⟩, fun H' e4 => k H' ((e2.trans e3).trans e4)⟩
def sp_words (K : PySem.W.Frag) (A : Adr) : Sp := fun vs H Q _ => ∃ (M : List Addr) (q : FL) (f b r : Nat) (env : CmBase.Env) (g : V) (N : Nat) (as : List Nat) (nv : V), vs = [.ref q.fa, nv] ∧ Hot M H ∧ Rep K (cold M H) nv (.tup (nats as)) ∧ as.length ≤ 1000 ∧ FrAt A H q f b r env g N ∧ ∀ v H', Ex H H' → Rep K (cold M H') v (.lst ((as.map (look env)).map nat)) → Q v H'
theorem ok_words_of (T : Top K mg A) : DefOk P w K mg base 2 A.f_words_of "words_of" ["begun", "names"] (sp_words K A) := by
  refine dv_words_of T (ok_word_of T) (fun vs H Q E ⟨M, q, f, b, r, env, g, N, as, nv, hv, _⟩ => by rw [hv]; rfl) (fun vs H Q E ⟨M, fq, f, b, r, env, g, N, as, nv, hv, hM, rn, hl, F, q⟩ => ?_)
  subst hv
  have S : At K H M H (start N_words_of [.ref fq.fa, nv]) [.val (.ref fq.fa), .dat (.tup (nats as)), .any] := ⟨Ex.refl H, hM, .cons rfl (.cons ⟨_, rfl, rn⟩ (.cons trivial .nil)), List.nodup_nil, fun p hp => by cases hp⟩
  refine sf_ret S ((ef_lcT (enc := nat) (fun _ => true) (fun x => nat (look env x)) S (ef_var S (i := 1) rfl) (by omega) (fun x M' H' σ' _ S' => eb_yes) fun x M' H' σ' _ S' _ => ?_).cast (y := .lst ((as.map (look env)).map nat)) (by rw [filter_all, List.map_map]; rfl)) fun v H' e r => q v H' e r
  obtain ⟨h1, kvs, h2, h3⟩ := F
  obtain ⟨xv, hx, rx⟩ := S'.env.dat (i := 2) rfl
  obtain rfl := rx.of_int
  exact EvF.of (ev_word (ev_val S' (i := 0) rfl) (ev_var hx) ⟨S'.ex _ _ h1, kvs, S'.ex _ _ h2, h3⟩) (.int _)
theorem ef_words {σ : L2.St} {H : Hp} {M : List Addr} {ta tb : TE} {q : FL} {f b r N : Nat} {env : CmBase.Env} {g : V} {as : List Nat} (hM : Hot M H) (ha : Ev ta σ H (.ref q.fa)) (hb : EvF K tb σ M H (.tup (nats as))) (hl : as.length ≤ 1000) (F : FrAt A H q f b r env g N) : EvF K (tCall (sp_words K A) [] E0 (tCons ta (tCons tb tNil))) σ M H (.lst ((as.map (look env)).map nat)) := fun H1 e Q k =>
  ha H1 e _ fun H2 e2 => hb H2 (e.trans e2) _ fun nv H3 e3 rn => by
    have e13 := (e.trans e2).trans e3
    obtain ⟨h1, kvs, h2, h3⟩ := F
    exact ⟨M, q, f, b, r, env, g, N, as, nv, rfl, hM.mono e13, rn, hl, ⟨e13 _ _ h1, kvs, e13 _ _ h2, h3⟩, fun v H' e4 rv => k v H' ((e2.trans e3).trans e4) rv⟩
end
end Pc

namespace Pc
open PySem PySem.Spec PyProof.Rows L2 Evl
open CmBase Cm09
theorem put_end (e : CmBase.Env) (v : Nat) : CmBase.put e e.length v = e ++ [v] := by
  unfold CmBase.put
  rw [if_neg (Nat.lt_irrefl _), Nat.sub_self]
  rfl
section
variable {P : Program} {w : World} {K : PySem.W.Frag} {mg : Str → Option Value} {base : Heap} {A : Adr}
/-! ### a function begins -/
def sp_Begun (K : PySem.W.Frag) (A : Adr) : Sp := fun vs H Q _ => ∃ (M : List Addr) (p dx : Addr) (f : Nat) (hv g : V) (ws : List Nat), vs = [.ref p, .int (f : Nat), hv, g] ∧ p ∈ M ∧ Hot M H ∧ H p = some (.ins A.C_Begun dx []) ∧ Rep K (cold M H) hv (.lst (ws.map nat)) ∧ ws.length ≤ 1000 ∧
  ∀ H' wd kvs, H wd = none → (∀ b o, b ≠ p → H b = some o → H' b = some o) → H' p = some (.ins A.C_Begun dx (begF f 0 0 g wd)) → H' wd = some (.dK kvs) → EnvIs kvs ws → kvs.length ≤ ws.length → Q .non H'
theorem ok_Begun (T : Top K mg A) : MakeOk P w K mg base 1 A.C_Begun A.f_Begun "Begun" ["self", "f", "handed", "getter"] (sp_Begun K A) := by
  refine dv_Begun T (fun vs H Q E ⟨M, p, dx, f, hv, g, ws, h, _⟩ => by rw [h]; rfl) (fun vs H Q E ⟨M, p, dx, f, hv, g, ws, h, pM, hM, hp, rh, hl, q⟩ => ?_)
  subst h
  have few : ∀ n : Nat, n < 6 → n < 1000 := fun n h => by omega
  refine ⟨.int (f : Nat), rfl, .ref p, rfl, p, _, dx, [], rfl, hp, T.d_Begun.cl, T.n_Begun_f, few 0 (by decide), ?_⟩
  refine ⟨.ref p, rfl, p, _, dx, _, rfl, upd_same, T.d_Begun.cl, T.n_Begun_b, few 1 (by decide), ?_⟩
  refine ⟨.ref p, rfl, p, _, dx, _, rfl, upd_same, T.d_Begun.cl, T.n_Begun_r, few 2 (by decide), ?_⟩
  refine ⟨g, rfl, .ref p, rfl, p, _, dx, _, rfl, upd_same, T.d_Begun.cl, T.n_Begun_getter, few 3 (by decide), ?_⟩
  intro wd hwd
  have hwp : wd ≠ p := fun z => by rw [z, upd_same] at hwd; cases hwd
  refine ⟨.ref p, rfl, p, _, dx, _, rfl, (upd_ne (Ne.symm hwp)).trans upd_same, T.d_Begun.cl, T.n_Begun_words, few 4 (by decide), ?_⟩
  rw [upd_ne hwp, upd_ne hwp, upd_ne hwp, upd_ne hwp] at hwd
  have e1 : putF "words" (.ref wd) (putF "getter" g (putF "r" (.int 0) (putF "b" (.int 0) (putF "f" (.int (f : Nat)) [])))) = begF f 0 0 g wd := by
    have a1 : putF "f" (V.int (f : Nat)) [] = ([("f", .int (f : Nat))] : List (Str × V)) := rfl
    have a2 : putF "b" (V.int 0) ([("f", .int (f : Nat))] : List (Str × V)) = ([("f", .int (f : Nat)), ("b", .int 0)] : List (Str × V)) := put_past (by decide +kernel)
    have a3 : putF "r" (V.int 0) ([("f", .int (f : Nat)), ("b", .int 0)] : List (Str × V)) = ([("f", .int (f : Nat)), ("b", .int 0), ("r", .int 0)] : List (Str × V)) := (put_past (by decide +kernel)).trans (congrArg _ (put_past (by decide +kernel)))
    have a4 : putF "getter" g ([("f", .int (f : Nat)), ("b", .int 0), ("r", .int 0)] : List (Str × V)) = ([("f", .int (f : Nat)), ("b", .int 0), ("r", .int 0), ("getter", g)] : List (Str × V)) := (put_past (by decide +kernel)).trans (congrArg _ ((put_past (by decide +kernel)).trans (congrArg _ (put_past (by decide +kernel)))))
    have a5 : putF "words" (.ref wd) ([("f", .int (f : Nat)), ("b", .int 0), ("r", .int 0), ("getter", g)] : List (Str × V)) = begF f 0 0 g wd := (put_past (by decide +kernel)).trans (congrArg _ ((put_past (by decide +kernel)).trans (congrArg _ ((put_past (by decide +kernel)).trans (congrArg _ (put_past (by decide +kernel)))))))
    rw [a1, a2, a3, a4, a5]
  rw [e1]
  generalize hG : upd _ p (.ins A.C_Begun dx (begF f 0 0 g wd)) = G
  have Gp : G p = some (.ins A.C_Begun dx (begF f 0 0 g wd)) := by rw [← hG]; exact upd_same
  have Gw : G wd = some (.dK []) := by rw [← hG, upd_ne hwp]; exact upd_same
  have Go : ∀ b o, b ≠ p → H b = some o → G b = some o := fun b o hb h => by
    have hbw : b ≠ wd := ne_of_none h hwd
    rw [← hG, upd_ne hb, upd_ne hbw, upd_ne hb, upd_ne hb, upd_ne hb, upd_ne hb]
    exact h
  have hMw : Hot (wd :: M) G := ⟨fun m hm z => by
    rcases List.mem_cons.1 hm with y | y
    · rw [y, Gw] at z; cases z
    · by_cases hmp : m = p
      · rw [hmp, Gp] at z; cases z
      · cases hq : H m with
        | none => exact hM.all m y hq
        | some o => rw [Go m o hmp hq] at z; cases z⟩
  have hc : Ex (cold M H) (cold (wd :: M) G) := fun y o h => by
    obtain ⟨y1, y2⟩ := cold_some.mp h
    exact cold_of (fun z => (List.mem_cons.1 z).elim (ne_of_none y2 hwd) y1) (Go y o (fun z => y1 (by rw [z]; exact pM)) y2)
  have S : At K Zero (wd :: M) G (start N_Begun [.ref p, .int (f : Nat), hv, g]) [.val (.ref p), .any, .dat (.lst (ws.map nat)), .any, .any] := At.zero hMw (.cons rfl (.cons trivial (.cons ⟨_, rfl, rh.mono hc⟩ (.cons trivial (.cons trivial .nil))))) rfl
  refine sf_forRH S (own := [p, wd]) (n := ws.length) (es_cons (ef_lenM (ef_var S (i := 2) rfl)) es_nil) (by omega)
    (fun i ρ H' => (∃ y, ρ = [.val (.ref p), .any, .dat (.lst (ws.map nat)), .any, y] ∧ hots [y] = []) ∧ H' p = some (.ins A.C_Begun dx (begF f 0 0 g wd)) ∧ (∃ kvs, H' wd = some (.dK kvs) ∧ EnvIs kvs (ws.take i) ∧ kvs.length ≤ i) ∧ ∀ b o, b ≠ p → b ≠ wd → G b = some o → H' b = some o)
    ⟨fun a ha => ⟨rfl, ?_⟩, fun i ρ' H' ⟨⟨y, hρ, hh⟩, _⟩ a ha => ?_, fun H1 e => ⟨⟨_, rfl, rfl⟩, e _ _ Gp, ⟨[], e _ _ Gw, EnvIs.nil, Nat.le_refl _⟩, fun b o _ _ h => e _ _ h⟩, fun B' i d σ2 H2 ρ2 eB oB hd ⟨⟨y, hρ, hh⟩, k1, ⟨kvs, k2, k3, k4⟩, k5⟩ S2 => ?_, fun σ2 H2 ρ2 ⟨⟨y, hρ, hh⟩, k1, ⟨kvs, k2, k3, k4⟩, k5⟩ S2 => ?_⟩
  · rcases List.mem_cons.1 ha with z | z
    · rw [z]; exact List.mem_cons_of_mem _ pM
    · rw [List.mem_singleton.1 z]; exact List.mem_cons_self
  · rw [hρ] at ha
    have z : hots [.val (.ref p), .any, .dat (.lst (ws.map nat)), .any, y] = hots [y] := rfl
    rw [z, hh] at ha
    cases ha
  · subst hρ
    obtain ⟨hi, rfl⟩ := upto_of hd
    have hw : ws[i]? = some ws[i] := List.getElem?_eq_getElem hi
    -- self.words[name] = handed[name]
    refine ef_at (f := nat) (ef_var S2 (i := 2) rfl) (ef_var S2 (i := 4) rfl) hw H2 (Ex.refl _) _ fun v H3 e3 rv => ?_
    obtain rfl := rv.of_int
    refine ev_fld (ev_val (S2.mono e3) (i := 0) rfl) (e3 _ _ k1) T.d_Begun.cl T.n_Begun_words lkBw H3 (Ex.refl _) _ fun H4 e4 => ?_
    have e24 := e3.trans e4
    obtain ⟨nv, hn, rn⟩ := S2.env.dat (i := 4) rfl
    obtain rfl := rn.of_int
    refine ⟨_, hn, wd, _, rfl, DPut.k (k := kI i) (e24 _ _ k2) (szL (by omega)), ?_⟩
    have S5 := (S2.mono e24).poke (p := wd) (o := .dK (putK kvs (kI i) (.int ((ws[i] : Nat) : Int)))) List.mem_cons_self (fun z => by
      have y' : hots [.val (.ref p), .any, .dat (.lst (ws.map nat)), .any, .dat (.int (i : Nat))] = [] := rfl
      have z' : wd ∈ hots [.val (.ref p), .any, .dat (.lst (ws.map nat)), .any, .dat (.int (i : Nat))] := z
      rw [y'] at z'
      cases z') (oB wd (by simp))
    refine ⟨_, ⟨⟨_, rfl, rfl⟩, ?_, ⟨_, upd_same, ?_, ?_⟩, fun b o h1 h2 h => ?_⟩, S5⟩
    · rw [upd_ne (Ne.symm hwp)]; exact e24 _ _ k1
    · have e5 : ws.take (i + 1) = CmBase.put (ws.take i) i ws[i] := by
        have el : (ws.take i).length = i := by rw [List.length_take]; omega
        have := put_end (ws.take i) ws[i]
        rw [el] at this
        rw [this, List.take_add_one, hw]
        rfl
      rw [e5]
      exact k3.put i ws[i]
    · exact Nat.le_trans (length_putK _ _ _) (by omega)
    · rw [upd_ne h2]; exact e24 _ _ (k5 b o h1 h2 h)
  · rw [upto_len] at k3 k4
    rw [List.take_length] at k3
    exact q H2 wd kvs hwd (fun b o hb h => k5 b o hb (ne_of_none h hwd) (Go b o hb h)) k1 k2 k3 k4
end
end Pc

namespace Pc
open PySem PySem.Spec PyProof.Rows L2 Evl
open CmBase Cm09
section
variable {P : Program} {w : World} {K : PySem.W.Frag} {mg : Str → Option Value} {base : Heap} {A : Adr}
theorem mk_Begun {σ : L2.St} {H : Hp} {M : List Addr} {tf th tg : TE} {f : Nat} {g : V} {ws : List Nat} {Q : VK} (hM : Hot M H) (hf : Ev tf σ H (.int (f : Nat))) (hh : EvF K th σ M H (.lst (ws.map nat))) (hg : Ev tg σ H g) (hl : ws.length ≤ 1000)
    (k : ∀ x dx wd kvs H1 H', Ex H H1 → Ex H1 H' → H1 x = none → H1 wd = none → wd ≠ x → H' x = some (.ins A.C_Begun dx (begF f 0 0 g wd)) → H' wd = some (.dK kvs) → EnvIs kvs ws → kvs.length ≤ ws.length → Q (.ref x) H') :
    tMake A.C_Begun (sp_Begun K A) [] E0 (tCons tf (tCons th (tCons tg tNil))) σ H Q :=
  hf H (Ex.refl H) _ fun H1 e1 => hh H1 e1 _ fun hv H2 e2 rh => hg H2 (e1.trans e2) _ fun H3 e3 x dx nx nd ne => by
    have e13 := (e1.trans e2).trans e3
    have hne : ∀ {y o}, H3 y = some o → upd (upd H3 dx (.own x)) x (.ins A.C_Begun dx []) y = some o := fun {y o} h => by rw [upd_ne (ne_of_none h nx), upd_ne (ne_of_none h nd)]; exact h
    refine ⟨x :: M, x, dx, f, hv, g, ws, rfl, List.mem_cons_self, ⟨fun m hm z => ?_⟩, upd_same, rh.mono fun y o h => ?_, hl, fun H' wd kvs hwd kp hx hw he hk => ⟨rfl, ?_⟩⟩
    · rcases List.mem_cons.1 hm with y | y
      · rw [y, upd_same] at z; cases z
      · cases hq : H3 m with
        | none => exact (hM.mono e13).all m y hq
        | some o => rw [hne hq] at z; cases z
    · obtain ⟨y1, y2⟩ := cold_some.mp h
      have y3 := e3 _ _ y2
      exact cold_of (fun z => (List.mem_cons.1 z).elim (ne_of_none y3 nx) y1) (hne y3)
    · obtain ⟨h1, h2⟩ := fresh2 hwd
      exact k x dx wd kvs H3 H' e13 (madeObj nx nd kp) nx h1 h2 hx hw he hk
section
variable {L : RL} {M0 : List Addr} {H H' H1 : Hp} {p : Prog} {frs below : List Cm09.Frame} {t : Cm09.Frame} {said : List Nat} {log : List Site} {fb : Bool} {gv : V} {N : Nat}
/-- a function begins above the others -/
theorem RAt.push {q : FL} {kvs : List (Key × V)} {fr : Cm09.Frame} (R : RAt K A L M0 H p (t :: below) said log fb gv N) (e : Ex H H1) (nx : H q.fa = none) (nw : H q.wd = none) (hx : H1 q.fa = some (.ins A.C_Begun q.dx (begF fr.f fr.b fr.r (.int ((fr.into : Nat) : Int)) q.wd))) (hw : H1 q.wd = some (.dK kvs)) (he : EnvIs kvs fr.env) (hk : kvs.length ≤ N + 1) :
    RAt K A { L with fr := q :: L.fr } M0 (upd H1 L.bl (.lst ((L.fr.map fun q => V.ref q.fa).reverse ++ [.ref q.fa]))) p (fr :: t :: below) said log fb gv (N + 1) ∧ Keeps L.W H (upd H1 L.bl (.lst ((L.fr.map fun q => V.ref q.fa).reverse ++ [.ref q.fa]))) ({ L with fr := q :: L.fr } : RL).W := by
  have R1 := R.mono e
  obtain ⟨pv, h1, h2⟩ := R1.obj
  have hp := R1.hbeg
  have memW : ∀ y, y ∈ ({ L with fr := q :: L.fr } : RL).W → y ∈ L.W ∨ y = q.fa ∨ y = q.wd := fun y hy => by
    unfold RL.W at hy ⊢
    rcases List.mem_append.1 hy with z | z
    · exact .inl (List.mem_append_left _ z)
    · rw [List.flatMap_cons] at z
      rcases List.mem_append.1 z with z | z
      · rcases List.mem_cons.1 z with z | z
        · exact .inr (.inl z)
        · exact .inr (.inr (List.mem_singleton.1 z))
      · exact .inl (List.mem_append_right _ z)
  have kp : Keeps L.W H (upd H1 L.bl (.lst ((L.fr.map fun q => V.ref q.fa).reverse ++ [.ref q.fa]))) ({ L with fr := q :: L.fr } : RL).W := by
    refine ⟨fun y o hy h => ?_, fun y hy => ?_⟩
    · rw [upd_ne (fun z => hy (by rw [z]; exact mem_bl))]
      exact e _ _ h
    · rcases memW y hy with z | z | z
      · exact .inl z
      · exact .inr (by rw [z]; exact nx)
      · exact .inr (by rw [z]; exact nw)
  have hfresh : ∀ y ∈ L.fr, y.fa ≠ q.fa ∧ y.wd ≠ q.wd := fun y hy => by
    obtain ⟨⟨_, _, _, _, z1⟩, _, z2⟩ := R.hfrs.kinds y hy
    exact ⟨ne_of_none z1 nx, ne_of_none z2 nw⟩
  refine ⟨⟨fun y hy => ?_, ⟨fun m hm z => ?_⟩, R.bs, ?_, ?_, ⟨pv, keepU hp h1 (fun z => by cases z), ?_⟩, ?_, keepE (Ne.symm R.bs) R1.hsaid, keepU hp R1.hmade (fun z => by cases z), ⟨⟨keepU hp hx (fun z => by cases z), kvs, keepU hp hw (fun z => by cases z), he, hk⟩, (R1.hfrs.apart hp (fun _ _ _ _ _ _ _ z => by cases z) (fun _ z => by cases z)).more (Nat.le_succ _)⟩, ?_⟩, kp⟩
  · rcases memW y hy with z | z | z
    · exact R.dis y z
    · rw [z]; exact fun h => R.heat.all _ (List.mem_append_right _ h) nx
    · rw [z]; exact fun h => R.heat.all _ (List.mem_append_right _ h) nw
  · by_cases hmb : m = L.bl
    · rw [hmb, upd_same] at z; cases z
    · rw [upd_ne hmb] at z
      rcases List.mem_append.1 hm with y | y
      · rcases memW m y with u | u | u
        · exact R1.heat.all m (List.mem_append_left _ u) z
        · rw [u, hx] at z; cases z
        · rw [u, hw] at z; cases z
      · exact R1.heat.all m (List.mem_append_right _ y) z
  · show ((q :: L.fr).map (·.fa)).Nodup
    rw [List.map_cons]
    refine List.nodup_cons.mpr ⟨fun z => ?_, R.fas⟩
    obtain ⟨y, hy, z⟩ := List.mem_map.1 z
    exact (hfresh y hy).1 z
  · show ((q :: L.fr).map (·.wd)).Nodup
    rw [List.map_cons]
    refine List.nodup_cons.mpr ⟨fun z => ?_, R.wds⟩
    obtain ⟨y, hy, z⟩ := List.mem_map.1 z
    exact (hfresh y hy).2 z
  · obtain ⟨pv0, g1, g2⟩ := R.obj
    have epv : pv0 = pv := by
      have z := (e _ _ g1).symm.trans h1
      injection z with z
      injection z with _ _ z
      unfold runF at z
      injection z with z _
      injection z with _ z
    rw [← epv]
    exact g2.mono (kp.cold M0)
  · show upd H1 L.bl _ L.bl = some (.lst (((q :: L.fr).map fun q => V.ref q.fa).reverse))
    rw [upd_same, List.map_cons, List.reverse_cons]
  · have := R.few
    simp only [List.length_cons] at this ⊢
    omega
/-- the newest is over -/
theorem RAt.pop {q : FL} {ql : List FL} (R : RAt K A L M0 H p (t :: below) said log fb gv N) (hL : L.fr = q :: ql) :
    RAt K A { L with fr := ql } M0 (upd H L.bl (.lst ((ql.map fun q => V.ref q.fa).reverse))) p below said log fb gv N ∧ Keeps L.W H (upd H L.bl (.lst ((ql.map fun q => V.ref q.fa).reverse))) ({ L with fr := ql } : RL).W := by
  obtain ⟨pv, h1, h2⟩ := R.obj
  have hp := R.hbeg
  have memW : ∀ y, y ∈ ({ L with fr := ql } : RL).W → y ∈ L.W := fun y hy => by
    unfold RL.W at hy ⊢
    rcases List.mem_append.1 hy with z | z
    · exact List.mem_append.2 (.inl z)
    · refine List.mem_append_right _ ?_
      rw [hL, List.flatMap_cons]
      exact List.mem_append_right _ z
  have kp : Keeps L.W H (upd H L.bl (.lst ((ql.map fun q => V.ref q.fa).reverse))) ({ L with fr := ql } : RL).W := ⟨fun y o hy h => by rw [upd_ne (fun z => hy (by rw [z]; exact mem_bl))]; exact h, fun y hy => .inl (memW y hy)⟩
  have F := R.hfrs
  rw [hL] at F
  have nd1 := R.fas
  have nd2 := R.wds
  rw [hL, List.map_cons] at nd1 nd2
  refine ⟨⟨fun y hy => R.dis y (memW y hy), ⟨fun m hm z => ?_⟩, R.bs, (List.nodup_cons.1 nd1).2, (List.nodup_cons.1 nd2).2, ⟨pv, keepU hp h1 (fun z => by cases z), h2.mono (kp.cold M0)⟩, upd_same, keepE (Ne.symm R.bs) R.hsaid, keepU hp R.hmade (fun z => by cases z), F.2.apart hp (fun _ _ _ _ _ _ _ z => by cases z) (fun _ z => by cases z), ?_⟩, kp⟩
  · by_cases hmb : m = L.bl
    · rw [hmb, upd_same] at z; cases z
    · rw [upd_ne hmb] at z
      rcases List.mem_append.1 hm with y | y
      · exact R.heat.all m (List.mem_append_left _ (memW m y)) z
      · exact R.heat.all m (List.mem_append_right _ y) z
  · have := R.few
    rw [List.length_cons] at this
    omega
theorem lkRp {pv : V} : List.lookup ("program" : Str) (runF pv L fb gv) = some pv := lk_here
theorem lkRb {pv : V} : List.lookup ("begun" : Str) (runF pv L fb gv) = some (.ref L.bl) := (lk_past (by decide +kernel)).trans lk_here
theorem lkRs {pv : V} : List.lookup ("said" : Str) (runF pv L fb gv) = some (.ref L.sl) := (lk_past (by decide +kernel)).trans ((lk_past (by decide +kernel)).trans lk_here)
theorem lkRm {pv : V} : List.lookup ("made" : Str) (runF pv L fb gv) = some (.ref L.md) := (lk_past (by decide +kernel)).trans ((lk_past (by decide +kernel)).trans ((lk_past (by decide +kernel)).trans lk_here))
theorem lkRf {pv : V} : List.lookup ("failed" : Str) (runF pv L fb gv) = some (.bl fb) := (lk_past (by decide +kernel)).trans ((lk_past (by decide +kernel)).trans ((lk_past (by decide +kernel)).trans ((lk_past (by decide +kernel)).trans lk_here)))
theorem lkRg {pv : V} : List.lookup ("given" : Str) (runF pv L fb gv) = some gv := (lk_past (by decide +kernel)).trans ((lk_past (by decide +kernel)).trans ((lk_past (by decide +kernel)).trans ((lk_past (by decide +kernel)).trans ((lk_past (by decide +kernel)).trans lk_here))))
theorem putRf {pv : V} {b : Bool} : putF "failed" (.bl b) (runF pv L fb gv) = runF pv L b gv := (put_past (by decide +kernel)).trans (congrArg _ ((put_past (by decide +kernel)).trans (congrArg _ ((put_past (by decide +kernel)).trans (congrArg _ ((put_past (by decide +kernel)).trans (congrArg _ put_here)))))))
theorem putRg {pv v : V} : putF "given" v (runF pv L fb gv) = runF pv L fb v := (put_past (by decide +kernel)).trans (congrArg _ ((put_past (by decide +kernel)).trans (congrArg _ ((put_past (by decide +kernel)).trans (congrArg _ ((put_past (by decide +kernel)).trans (congrArg _ ((put_past (by decide +kernel)).trans (congrArg _ put_here)))))))))
theorem putBb {f b r : Nat} {g : V} {wd : Addr} {n : Nat} : putF "b" (.int (n : Nat)) (begF f b r g wd) = begF f n r g wd := (put_past (by decide +kernel)).trans (congrArg _ put_here)
theorem putBr {f b r : Nat} {g : V} {wd : Addr} {n : Nat} : putF "r" (.int (n : Nat)) (begF f b r g wd) = begF f b n g wd := (put_past (by decide +kernel)).trans (congrArg _ ((put_past (by decide +kernel)).trans (congrArg _ put_here)))
end
/-! ### two -/
def sp_do_two (K : PySem.W.Frag) (A : Adr) : Sp := fun vs H Q _ => ∃ (L : RL) (M0 : List Addr) (p : Prog) (t : Cm09.Frame) (below : List Cm09.Frame) (said : List Nat) (log : List Site) (N : Nat) (fq : FL) (ql : List FL) (x : Nat) (o : Op) (a c : Nat) (rv : V), vs = [.ref L.a, .ref fq.fa, rv] ∧ RAt K A L M0 H p (t :: below) said log false .non N ∧ L.fr = fq :: ql ∧ WordsOk t.env ∧ N ≤ 15000 ∧
  Rep K (cold (L.W ++ M0) H) rv (encRow (.plain (.two x o a c))) ∧ ∀ H', Keeps L.W H H' L.W → (match o.make (look t.env a) (look t.env c) with
    | none => RAt K A L M0 H' p (t :: below) said log true .non N
    | some v => RAt K A L M0 H' p ({ t with env := CmBase.put t.env x v } :: below) said log false .non (N + 1)) → Q .non H'
theorem ok_do_two (T : Top K mg A) : DefOk P w K mg base 2 A.f_do_two "do_two" ["run", "begun", "row"] (sp_do_two K A) := by
  refine dv_do_two T (ok_word_of T) (ok_result T) (fun vs H Q E ⟨L, M0, p, t, below, said, log, N, fq, ql, x, o, a, c, rv, hv, _⟩ => by rw [hv]; rfl) (fun vs H Q E ⟨L, M0, p, t, below, said, log, N, fq, ql, x, o, a, c, rv, hv, R, hL, wo, hN, rr, q⟩ => ?_)
  subst hv
  have S : At K Zero (L.W ++ M0) H (start N_do_two [.ref L.a, .ref fq.fa, rv]) [.val (.ref L.a), .val (.ref fq.fa), .dat (.tup [.int 2, nat x, nat o.num, nat a, nat c]), .any, .any] := At.zero R.heat (.cons rfl (.cons rfl (.cons ⟨_, rfl, rr⟩ (.cons trivial (.cons trivial .nil))))) rfl
  have F := R.hfrs
  rw [hL] at F
  have fa := F.1
  have frMono : ∀ {H1 H2 : Hp} {f b r : Nat} {env : CmBase.Env} {g : V}, Ex H1 H2 → FrAt A H1 fq f b r env g N → FrAt A H2 fq f b r env g N := fun e ⟨h1, kvs, h2, h3⟩ => ⟨e _ _ h1, kvs, e _ _ h2, h3⟩
  have hrow : ∀ {σ1 H1 ρ1}, At K Zero (L.W ++ M0) H1 σ1 ρ1 → ρ1[2]? = some (.dat (.tup [.int 2, nat x, nat o.num, nat a, nat c])) → EvF K (tVar 2) σ1 (L.W ++ M0) H1 (.tup [.int 2, nat x, nat o.num, nat a, nat c]) := fun S h => ef_var S h
  refine sf_asg S (EvF.of (ev_word (ev_val S (i := 1) rfl) (EvF.toEv (ef_t (i := 3) (hrow S rfl) rfl)) fa) (d := nat (look t.env a)) (.int _)) fun σ1 H1 e1 S1 => ?_
  refine sf_asg S1 (EvF.of (ev_word (ev_val S1 (i := 1) rfl) (EvF.toEv (ef_t (i := 4) (hrow S1 rfl) rfl)) (frMono e1 fa)) (d := nat (look t.env c)) (.int _)) fun σ2 H2 e2 S2 => ?_
  have e12 := e1.trans e2
  refine sf_if S2 (eb_and (eb_test (ef_eqN (ef_t (i := 2) (hrow S2 rfl) rfl) (ef_n 10))) fun _ => eb_test (ef_eqN (ef_var S2 (i := 4) rfl) (ef_n 0))) (fun hb H3 e3 S3 => ?_) (fun hb H3 e3 S3 => ?_)
  · -- it fails
    rw [Bool.and_eq_true, decide_eq_true_eq, decide_eq_true_eq] at hb
    have hm : o.make (look t.env a) (look t.env c) = none := by
      cases o <;> simp only [Op.num] at hb <;> first | omega | skip
      simp only [Op.make]
      rw [if_pos hb.2]
    rw [hm] at q
    have e13 := e12.trans e3
    have R3 := R.mono e13
    obtain ⟨pv, g1, g2⟩ := R3.obj
    refine sv_fld (v := .bl true) ev_c (ev_val S3 (i := 0) rfl) g1 T.d_Run.cl T.n_Run_failed (by show 6 < 1000; decide) fun H4 e4 => ?_
    rw [putRf]
    exact q _ (Keeps.after (e13.trans e4) (keepsU mem_ra)) ((R3.mono e4).marks (e4 _ _ g1))
  · -- the word is put
    obtain ⟨v, hm⟩ : ∃ v, o.make (look t.env a) (look t.env c) = some v := by
      rw [Bool.and_eq_false_iff, decide_eq_false_iff_not, decide_eq_false_iff_not] at hb
      cases o <;> simp only [Op.make] <;> first | exact ⟨_, rfl⟩ | skip
      rcases hb with hb | hb
      · exact absurd rfl hb
      · rw [if_neg hb]; exact ⟨_, rfl⟩
    rw [hm] at q
    have e13 := e12.trans e3
    refine ef_callR S3.heat (es_cons (ef_t (i := 2) (hrow S3 rfl) rfl) (es_cons (ef_var S3 (i := 3) rfl) (es_cons (ef_var S3 (i := 4) rfl) es_nil))) ⟨o, _, _, v, rfl, wo a, wo c, hm, rfl⟩ H3 (Ex.refl _) _ fun u H4 e4 ru => ?_
    obtain rfl := ru.of_int
    have e14 := e13.trans e4
    have fa4 := frMono e14 fa
    obtain ⟨g1, kvs, g2, g3, g4⟩ := fa4
    refine ev_fld (ev_val (S3.mono e4) (i := 1) rfl) g1 T.d_Begun.cl T.n_Begun_words lkBw H4 (Ex.refl _) _ fun H5 e5 => ?_
    refine EvF.int (ef_t (i := 1) (hrow (S3.mono (e4.trans e5)) rfl) rfl) (Ex.refl _) fun H6 e6 => ?_
    have e16 := (e14.trans e5).trans e6
    have g26 := e6 _ _ (e5 _ _ g2)
    refine ⟨fq.wd, _, rfl, DPut.k (k := kI x) g26 (szL (by omega)), ?_⟩
    have R6 := (R.mono e16).reword (i := 0) (q := fq) (fr := t) (N' := N + 1) (by omega) (g3.put x v) (Nat.le_trans (length_putK _ _ _) (by omega)) (by rw [hL]; rfl) rfl
    exact q _ (Keeps.after e16 (keepsU (mem_wd (by rw [hL]; exact List.mem_cons_self)))) R6
end
end Pc

namespace Pc
open PySem PySem.Spec PyProof.Rows L2 Evl
open CmBase Cm09
theorem Keeps.trans {W W1 W2 : List Addr} {H H1 H2 : Hp} (a : Keeps W H H1 W1) (b : Keeps W1 H1 H2 W2) : Keeps W H H2 W2 := by
  have key : ∀ x o, x ∉ W → H x = some o → x ∉ W1 := fun x o hx h z => by
    rcases a.own x z with y | y
    · exact hx y
    · rw [h] at y; cases y
  refine ⟨fun x o hx h => b.rest x o (key x o hx h) (a.rest x o hx h), fun x hx => ?_⟩
  rcases b.own x hx with z | z
  · exact a.own x z
  · by_cases hw : x ∈ W
    · exact .inl hw
    · cases hq : H x with
      | none => exact .inr rfl
      | some o => rw [a.rest x o hw hq] at z; cases z
section
variable {P : Program} {w : World} {K : PySem.W.Frag} {mg : Str → Option Value} {base : Heap} {A : Adr}
/-! ### a call -/
def sp_do_call (K : PySem.W.Frag) (A : Adr) : Sp := fun vs H Q _ => ∃ (L : RL) (M0 : List Addr) (p : Prog) (t : Cm09.Frame) (below : List Cm09.Frame) (said : List Nat) (log : List Site) (N : Nat) (fq : FL) (ql : List FL) (x g : Nat) (as : List Nat) (rv : V), vs = [.ref L.a, .ref fq.fa, rv] ∧ RAt K A L M0 H p (t :: below) said log false .non N ∧ L.fr = fq :: ql ∧ 8 ≤ N ∧ N ≤ 15000 ∧ as.length ≤ 4 ∧
  Rep K (cold (L.W ++ M0) H) rv (encRow (.call x g as)) ∧ ∀ q' H', Keeps L.W H H' ({ L with fr := q' :: L.fr } : RL).W → RAt K A { L with fr := q' :: L.fr } M0 H' p (⟨g, 0, 0, as.map (look t.env), x⟩ :: t :: below) said (log ++ [⟨t.f, t.b, t.r⟩]) false .non (N + 2) → Q .non H'
theorem ok_do_call (T : Top K mg A) : DefOk P w K mg base 3 A.f_do_call "do_call" ["run", "begun", "row"] (sp_do_call K A) := by
  refine dv_do_call T (ok_Begun T) (ok_words_of T) (fun vs H Q E ⟨L, M0, p, t, below, said, log, N, fq, ql, x, g, as, rv, hv, _⟩ => by rw [hv]; rfl) (fun vs H Q E ⟨L, M0, p, t, below, said, log, N, fq, ql, x, g, as, rv, hv, R, hL, hN8, hN, hal, rr, q⟩ => ?_)
  subst hv
  have S : At K Zero (L.W ++ M0) H (start N_do_call [.ref L.a, .ref fq.fa, rv]) [.val (.ref L.a), .val (.ref fq.fa), .dat (.tup [.int 4, nat x, nat g, .tup (nats as)]), .any] := At.zero R.heat (.cons rfl (.cons rfl (.cons ⟨_, rfl, rr⟩ (.cons trivial .nil)))) rfl
  have F := R.hfrs
  rw [hL] at F
  have fa := F.1
  have few := R.few
  -- place
  refine sf_asg S (d := encSite ⟨t.f, t.b, t.r⟩) (ef_tup S.heat (es_cons (EvF.of (ev_fld (ev_val S (i := 1) rfl) fa.obj T.d_Begun.cl T.n_Begun_f lkBf) (.int _)) (es_cons (EvF.of (ev_fld (ev_val S (i := 1) rfl) fa.obj T.d_Begun.cl T.n_Begun_b lkBb) (.int _)) (es_cons (EvF.of (ev_fld (ev_val S (i := 1) rfl) fa.obj T.d_Begun.cl T.n_Begun_r lkBr) (.int _)) es_nil))) (leb rfl)) fun σ1 H1 e1 S1 => ?_
  have R1 := R.mono e1
  obtain ⟨pv, g1, g2⟩ := R1.obj
  obtain ⟨kv, hk, rk⟩ := S1.env.dat (i := 3) rfl
  obtain ⟨ka, zs, rfl, hka, rz⟩ := rk.of_tup
  have ez : zs = (siteKey ⟨t.f, t.b, t.r⟩).map kV := by
    cases rz with
    | cons r1 rz => cases rz with
      | cons r2 rz => cases rz with
        | cons r3 rz => cases rz; rw [r1.of_int, r2.of_int, r3.of_int]; rfl
  subst ez
  have hka1 := cold_ex _ _ hka
  -- run.made[place] = run.made.get(place, 0) + 1
  refine ⟨.ref L.a, S1.env.val (i := 0) rfl, L.a, _, L.dx, _, .ref L.md, rfl, g1, T.d_Run.cl, T.n_Run_made, lkRm, L.md, rfl, .inr ⟨_, .inl R1.hmade⟩, .ref ka, hk, valV (encTally (tally log)) (siteKey ⟨t.f, t.b, t.r⟩), DGet.t R1.hmade hka1, ?_⟩
  rw [valV_tally]
  refine ⟨_, _, rfl, rfl, .ref L.a, S1.env.val (i := 0) rfl, L.a, _, L.dx, _, .ref L.md, rfl, g1, T.d_Run.cl, T.n_Run_made, lkRm, .ref ka, hk, L.md, _, rfl, DPut.t R1.hmade hka1 (szL ?_), ?_⟩
  · unfold encTally
    rw [List.length_map]
    have := len_tally log
    omega
  have R2 := R1.count ⟨t.f, t.b, t.r⟩
  have S2 := S1.poke (p := L.md) (o := .dT (putK (encTally (tally log)) (siteKey ⟨t.f, t.b, t.r⟩) (.int ((cntOf (tally log) ⟨t.f, t.b, t.r⟩ : Nat) + 1 : Int)))) (List.mem_append_left _ mem_md) (fun z => by
    have y' : hots [.val (.ref L.a), .val (.ref fq.fa), .dat (.tup [.int 4, nat x, nat g, .tup (nats as)]), .dat (encSite ⟨t.f, t.b, t.r⟩)] = [] := rfl
    have z' : L.md ∈ hots [.val (.ref L.a), .val (.ref fq.fa), .dat (.tup [.int 4, nat x, nat g, .tup (nats as)]), .dat (encSite ⟨t.f, t.b, t.r⟩)] := z
    rw [y'] at z'
    cases z') rfl
  have k2 : Keeps L.W H (upd H1 L.md (.dT (putK (encTally (tally log)) (siteKey ⟨t.f, t.b, t.r⟩) (.int ((cntOf (tally log) ⟨t.f, t.b, t.r⟩ : Nat) + 1 : Int))))) L.W := Keeps.after e1 (keepsU mem_md)
  generalize upd H1 L.md _ = H2 at R2 S2 k2
  obtain ⟨pv2, g12, g22⟩ := R2.obj
  have F2 := R2.hfrs
  rw [hL] at F2
  have fa2 := F2.1
  have hrow : EvF K (tVar 2) σ1 (L.W ++ M0) H2 (.tup [.int 4, nat x, nat g, .tup (nats as)]) := ef_var S2 rfl
  -- run.begun.append(Begun(row[2], words_of(begun, row[3]), row[1]))
  refine sv_appR (ev_fld (ev_val S2 (i := 0) rfl) g12 T.d_Run.cl T.n_Run_begun lkRb) R2.hbeg fun H3 e3 => ?_
  have frMono : ∀ {H1 H2 : Hp}, Ex H1 H2 → FrAt A H1 fq t.f t.b t.r t.env (getterOf t below) (N + 1) → FrAt A H2 fq t.f t.b t.r t.env (getterOf t below) (N + 1) := fun e ⟨h1, kvs, h2, h3⟩ => ⟨e _ _ h1, kvs, e _ _ h2, h3⟩
  have S3 := S2.mono e3
  refine mk_Begun (ws := as.map (look t.env)) S3.heat (EvF.toEv (ef_t (i := 2) (hrow.mono e3) rfl)) (ef_words S3.heat (ev_val S3 (i := 1) rfl) (ef_t (i := 3) (hrow.mono e3) rfl) (by omega) (frMono e3 fa2)) (EvF.toEv (ef_t (i := 1) (hrow.mono e3) rfl)) (by rw [List.length_map]; omega) fun x' dx' wd' kvs' H4 H5 e4 e5 nx nw hwx hx hw he hk => ?_
  have R4 := R2.mono (e3.trans e4)
  have hb5 := e5 _ _ R4.hbeg
  have hlen : ((L.fr.map fun q => V.ref q.fa).reverse).length < 16000000 := by
    rw [List.length_reverse, List.length_map, R.hfrs.len]
    omega
  refine ⟨L.bl, _, .ref x', rfl, rfl, hb5, szL hlen, ?_⟩
  rw [List.length_map] at hk
  obtain ⟨R5, k5⟩ := R4.push (q := ⟨x', dx', wd'⟩) (kvs := kvs') (fr := ⟨g, 0, 0, as.map (look t.env), x⟩) e5 nx nw hx hw he (by omega)
  exact q ⟨x', dx', wd'⟩ _ (k2.trans (k5.after (e3.trans e4))) R5
/-! ### a row -/
def Stood (K : PySem.W.Frag) (A : Adr) (L : RL) (M0 : List Addr) (H : Hp) (p : Prog) (said : List Nat) (log : List Site) (N : Nat) : State → Prop
  | .on t below => RAt K A L M0 H p (t :: below) said log false .non N
  | .gave v => ∃ frs, RAt K A L M0 H p frs said log false (.int ((v : Nat) : Int)) N
  | .failed => ∃ frs, RAt K A L M0 H p frs said log true .non N
theorem Stood.more {L : RL} {M0 : List Addr} {H : Hp} {p : Prog} {said : List Nat} {log : List Site} {N N' : Nat} {st : State} (hN : N ≤ N') (h : Stood K A L M0 H p said log N st) : Stood K A L M0 H p said log N' st := by
  cases st with
  | on t below => exact RAt.more hN h
  | gave v => obtain ⟨frs, R⟩ := h; exact ⟨frs, R.more hN⟩
  | failed => obtain ⟨frs, R⟩ := h; exact ⟨frs, R.more hN⟩
def rowStep (t : Cm09.Frame) (below : List Cm09.Frame) : PRow → State × List Nat × List Site
  | .plain (.num x k) => (.on { t with r := t.r + 1, env := CmBase.put t.env x k } below, [], [])
  | .plain (.copy x a) => (.on { t with r := t.r + 1, env := CmBase.put t.env x (look t.env a) } below, [], [])
  | .plain (.two x o a c) => (match o.make (look t.env a) (look t.env c) with
    | none => (.failed, [], [])
    | some v => (.on { t with r := t.r + 1, env := CmBase.put t.env x v } below, [], []))
  | .plain (.say a) => (.on { t with r := t.r + 1 } below, [look t.env a], [])
  | .call x g as => (.on ⟨g, 0, 0, as.map (look t.env), x⟩ ({ t with r := t.r + 1 } :: below), [], [⟨t.f, t.b, t.r⟩])
theorem aug_r (T : Top K mg A) {L : RL} {M0 : List Addr} {H : Hp} {p : Prog} {frs : List Cm09.Frame} {said : List Nat} {log : List Site} {fb : Bool} {gv : V} {N i : Nat} {fq : FL} {fr : Cm09.Frame} {σ : L2.St} {D : Ends} (R : RAt K A L M0 H p frs said log fb gv N) (hq : L.fr[i]? = some fq) (hf : frs[i]? = some fr) (hs : σ[1]? = some (some (.ref fq.fa)))
    (k : ∀ H', Keeps L.W H H' L.W → RAt K A L M0 H' p (frs.set i { fr with r := fr.r + 1 }) said log fb gv N → D.nx σ H') : sFldAug K (tVar 1) (tC (.int 1)) L2.rAdd "r" D σ H := by
  obtain ⟨fr', h1, F⟩ := R.hfrs.cut hq
  have e : fr' = fr := Option.some.inj (h1.symm.trans hf)
  subst e
  refine ⟨.ref fq.fa, hs, fq.fa, _, fq.dx, _, _, rfl, F.obj, T.d_Begun.cl, T.n_Begun_r, lkBr, _, _, rfl, rfl, fq.dx, _, F.obj, (by show 5 < 1000; decide), ?_⟩
  have e2 : (V.int (((fr'.r : Nat) : Int) + 1)) = V.int (((fr'.r + 1 : Nat)) : Int) := by rw [Int.natCast_add]; rfl
  rw [e2, putBr]
  exact k _ (keepsU (mem_fa (List.mem_of_getElem? hq))) (R.replace (f := fr'.f) (b := fr'.b) (r := fr'.r + 1) hq hf)
def sp_do_row (K : PySem.W.Frag) (A : Adr) : Sp := fun vs H Q _ => ∃ (L : RL) (M0 : List Addr) (p : Prog) (t : Cm09.Frame) (below : List Cm09.Frame) (said : List Nat) (log : List Site) (N : Nat) (fq : FL) (ql : List FL) (row : PRow) (rv : V), vs = [.ref L.a, .ref fq.fa, rv] ∧ RAt K A L M0 H p (t :: below) said log false .non N ∧ L.fr = fq :: ql ∧ WordsOk t.env ∧ 8 ≤ N ∧ N ≤ 15000 ∧ RowForm row ∧
  Rep K (cold (L.W ++ M0) H) rv (encRow row) ∧ ∀ L' H', L'.a = L.a → L'.dx = L.dx → Keeps L.W H H' L'.W → Stood K A L' M0 H' p (said ++ (rowStep t below row).2.1) (log ++ (rowStep t below row).2.2) (N + 8) (rowStep t below row).1 → Q .non H'
theorem ok_do_row (T : Top K mg A) : DefOk P w K mg base 4 A.f_do_row "do_row" ["run", "begun", "row"] (sp_do_row K A) := by
  refine dv_do_row T (ok_do_two T) (ok_word_of T) (ok_do_call T) (fun vs H Q E ⟨L, M0, p, t, below, said, log, N, fq, ql, row, rv, hv, _⟩ => by rw [hv]; rfl) (fun vs H Q E ⟨L, M0, p, t, below, said, log, N, fq, ql, row, rv, hv, R, hL, wo, hN8, hN, rform, rr, q⟩ => ?_)
  subst hv
  have S : At K Zero (L.W ++ M0) H (start N_do_row [.ref L.a, .ref fq.fa, rv]) [.val (.ref L.a), .val (.ref fq.fa), .dat (encRow row)] := At.zero R.heat (.cons rfl (.cons rfl (.cons ⟨_, rfl, rr⟩ .nil))) rfl
  have F := R.hfrs
  rw [hL] at F
  have fa := F.1
  have few := R.few
  have hq0 : L.fr[0]? = some fq := by rw [hL]; rfl
  have hs1 : (start N_do_row [.ref L.a, .ref fq.fa, rv])[1]? = some (some (.ref fq.fa)) := rfl
  have frMono : ∀ {H1 H2 : Hp}, Ex H1 H2 → FrAt A H1 fq t.f t.b t.r t.env (getterOf t below) N → FrAt A H2 fq t.f t.b t.r t.env (getterOf t below) N := fun e ⟨h1, kvs, h2, h3⟩ => ⟨e _ _ h1, kvs, e _ _ h2, h3⟩
  cases row with
  | call x g as =>
    have hx : ∀ {H1}, Ex H H1 → EvF K (tVar 2) (start N_do_row [.ref L.a, .ref fq.fa, rv]) (L.W ++ M0) H1 (.tup [.int 4, nat x, nat g, .tup (nats as)]) := fun e => (ef_var S (i := 2) rfl).mono e
    refine sf_if S (eb_test (ef_eq (ef_t (i := 0) (hx (Ex.refl _)) rfl) ef_int)) (fun hb => by cases hb) (fun _ H1 e1 S1 => ?_)
    refine sf_if S1 (eb_test (ef_eq (ef_t (i := 0) (hx e1) rfl) ef_int)) (fun hb => by cases hb) (fun _ H2 e2 S2 => ?_)
    have e12 := e1.trans e2
    refine sf_if S2 (eb_test (ef_eq (ef_t (i := 0) (hx e12) rfl) ef_int)) (fun hb => by cases hb) (fun _ H3 e3 S3 => ?_)
    have e13 := e12.trans e3
    refine ⟨_, rfl, _, rfl, _, rfl, L, M0, p, t, below, said, log, N, fq, ql, x, g, as, rv, rfl, R.mono e13, hL, hN8, hN, rform, rr.mono (cold_mono e13), fun q' H4 k4 R4 => ?_⟩
    refine aug_r T R4 (i := 1) (fq := fq) (fr := t) (by show (q' :: L.fr)[1]? = _; rw [hL]; rfl) rfl hs1 fun H5 k5 R5 => ?_
    refine q { L with fr := q' :: L.fr } H5 rfl rfl ((k4.after e13).trans k5) ?_
    show RAt K A { L with fr := q' :: L.fr } M0 H5 p _ (said ++ []) (log ++ [⟨t.f, t.b, t.r⟩]) false .non (N + 8)
    rw [List.append_nil]
    exact R5.more (by omega)
  | plain row =>
    cases row with
    | copy x a => exact absurd rform id
    | num x k =>
      have hx : ∀ {H1}, Ex H H1 → EvF K (tVar 2) (start N_do_row [.ref L.a, .ref fq.fa, rv]) (L.W ++ M0) H1 (.tup [.int 0, nat x, nat k]) := fun e => (ef_var S (i := 2) rfl).mono e
      refine sf_if S (eb_test (ef_eq (ef_t (i := 0) (hx (Ex.refl _)) rfl) ef_int)) (fun _ H1 e1 S1 => ?_) (fun hb => by cases hb)
      refine EvF.int (ef_t (i := 2) (hx e1) rfl) (Ex.refl _) fun H2 e2 => ?_
      have e12 := e1.trans e2
      obtain ⟨g1, kvs, g2, g3, g4⟩ := frMono e12 fa
      refine ev_fld (ev_val (S1.mono e2) (i := 1) rfl) g1 T.d_Begun.cl T.n_Begun_words lkBw H2 (Ex.refl _) _ fun H3 e3 => ?_
      refine EvF.int (ef_t (i := 1) (hx (e12.trans e3)) rfl) (Ex.refl _) fun H4 e4 => ?_
      have e14 := (e12.trans e3).trans e4
      refine ⟨fq.wd, _, rfl, DPut.k (k := kI x) (e4 _ _ (e3 _ _ g2)) (szL (by omega)), ?_⟩
      have R4 := (R.mono e14).reword (i := 0) (q := fq) (fr := t) (N' := N + 1) (by omega) (g3.put x k) (Nat.le_trans (length_putK _ _ _) (by omega)) hq0 rfl
      refine aug_r T R4 (i := 0) hq0 rfl hs1 fun H5 k5 R5 => ?_
      refine q L H5 rfl rfl ((Keeps.after e14 (keepsU (mem_wd (List.mem_of_getElem? hq0)))).trans k5) ?_
      show RAt K A L M0 H5 p _ (said ++ []) (log ++ []) false .non (N + 8)
      rw [List.append_nil]; rw [List.append_nil]
      exact R5.more (by omega)
    | two x o a c =>
      have hx : ∀ {H1}, Ex H H1 → EvF K (tVar 2) (start N_do_row [.ref L.a, .ref fq.fa, rv]) (L.W ++ M0) H1 (.tup [.int 2, nat x, nat o.num, nat a, nat c]) := fun e => (ef_var S (i := 2) rfl).mono e
      refine sf_if S (eb_test (ef_eq (ef_t (i := 0) (hx (Ex.refl _)) rfl) ef_int)) (fun hb => by cases hb) (fun _ H1 e1 S1 => ?_)
      refine sf_if S1 (eb_test (ef_eq (ef_t (i := 0) (hx e1) rfl) ef_int)) (fun _ H2 e2 S2 => ?_) (fun hb => by cases hb)
      have e12 := e1.trans e2
      refine ⟨_, rfl, _, rfl, _, rfl, L, M0, p, t, below, said, log, N, fq, ql, x, o, a, c, rv, rfl, R.mono e12, hL, wo, hN, rr.mono (cold_mono e12), fun H4 k4 R4 => ?_⟩
      have hst : rowStep t below (.plain (.two x o a c)) = (match o.make (look t.env a) (look t.env c) with
        | none => (.failed, [], [])
        | some v => (.on { t with r := t.r + 1, env := CmBase.put t.env x v } below, [], [])) := rfl
      cases hm : o.make (look t.env a) (look t.env c) with
      | none =>
        rw [hm] at R4 hst
        refine aug_r T R4 (i := 0) hq0 rfl hs1 fun H5 k5 R5 => ?_
        refine q L H5 rfl rfl ((k4.after e12).trans k5) ?_
        rw [hst]
        show Stood K A L M0 H5 p (said ++ []) (log ++ []) (N + 8) .failed
        rw [List.append_nil]; rw [List.append_nil]
        exact ⟨_, R5.more (by omega)⟩
      | some v =>
        rw [hm] at R4 hst
        refine aug_r T R4 (i := 0) hq0 rfl hs1 fun H5 k5 R5 => ?_
        refine q L H5 rfl rfl ((k4.after e12).trans k5) ?_
        rw [hst]
        show RAt K A L M0 H5 p _ (said ++ []) (log ++ []) false .non (N + 8)
        rw [List.append_nil]; rw [List.append_nil]
        exact R5.more (by omega)
    | say a =>
      have hx : ∀ {H1}, Ex H H1 → EvF K (tVar 2) (start N_do_row [.ref L.a, .ref fq.fa, rv]) (L.W ++ M0) H1 (.tup [.int 3, nat a]) := fun e => (ef_var S (i := 2) rfl).mono e
      refine sf_if S (eb_test (ef_eq (ef_t (i := 0) (hx (Ex.refl _)) rfl) ef_int)) (fun hb => by cases hb) (fun _ H1 e1 S1 => ?_)
      refine sf_if S1 (eb_test (ef_eq (ef_t (i := 0) (hx e1) rfl) ef_int)) (fun hb => by cases hb) (fun _ H2 e2 S2 => ?_)
      have e12 := e1.trans e2
      refine sf_if S2 (eb_test (ef_eq (ef_t (i := 0) (hx e12) rfl) ef_int)) (fun _ H3 e3 S3 => ?_) (fun hb => by cases hb)
      have e13 := e12.trans e3
      have R3 := R.mono e13
      obtain ⟨pv, g1, g2⟩ := R3.obj
      refine sv_app (ev_fld (ev_val S3 (i := 0) rfl) g1 T.d_Run.cl T.n_Run_said lkRs) R3.hsaid (by unfold vnats; rw [List.length_map]; omega) (ev_word (ev_val S3 (i := 1) rfl) (EvF.toEv (ef_t (i := 1) (hx e13) rfl)) (frMono e13 fa)) fun H4 e4 => ?_
      have R4 := (R3.mono e4).say (v := look t.env a)
      refine aug_r T R4 (i := 0) hq0 rfl hs1 fun H5 k5 R5 => ?_
      refine q L H5 rfl rfl ((Keeps.after (e13.trans e4) (keepsU mem_sl)).trans k5) ?_
      show RAt K A L M0 H5 p _ (said ++ [look t.env a]) (log ++ []) false .non (N + 8)
      rw [List.append_nil]
      exact R5.more (by omega)
end
end Pc

namespace Pc
open PySem PySem.Spec PyProof.Rows L2 Evl
open CmBase Cm09
theorem puts_snoc : ∀ {xs vs : List Nat} {e : CmBase.Env} {x v : Nat}, xs.length = vs.length → puts e (xs ++ [x]) (vs ++ [v]) = CmBase.put (puts e xs vs) x v
  | [], [], _, _, _, _ => rfl
  | [], _ :: _, _, _, _, h => by cases h
  | _ :: _, [], _, _, _, h => by cases h
  | x :: xs, v :: vs, e, y, u, h => puts_snoc (xs := xs) (vs := vs) (e := CmBase.put e x v) (Nat.succ.inj h)
section
variable {P : Program} {w : World} {K : PySem.W.Frag} {mg : Str → Option Value} {base : Heap} {A : Adr}
/-! ### on to a block -/
def sp_go_on (K : PySem.W.Frag) (A : Adr) : Sp := fun vs H Q _ => ∃ (L : RL) (M0 : List Addr) (p : Prog) (t : Cm09.Frame) (below : List Cm09.Frame) (said : List Nat) (log : List Site) (N : Nat) (fq : FL) (ql : List FL) (u : Nat) (as : List Nat) (hv : V), vs = [.ref L.a, .ref fq.fa, .int (u : Nat), hv] ∧ RAt K A L M0 H p (t :: below) said log false .non N ∧ L.fr = fq :: ql ∧ t.f < p.length ∧ WayWell (fnAt p t.f) u as ∧ as.length ≤ 8 ∧ 8 ≤ N ∧ N ≤ 15000 ∧
  Rep K (cold (L.W ++ M0) H) hv (.tup (nats as)) ∧ ∀ H', Keeps L.W H H' L.W → RAt K A L M0 H' p ({ t with b := u, r := 0, env := handTo (fnAt p t.f) t.env u as } :: below) said log false .non (N + 8) → Q .non H'
theorem ef_prog (T : Top K mg A) {L : RL} {M0 : List Addr} {H : Hp} {p : Prog} {frs : List Cm09.Frame} {said : List Nat} {log : List Site} {fb : Bool} {gv : V} {N : Nat} {σ : L2.St} {ta : TE} (R : RAt K A L M0 H p frs said log fb gv N) (h : Ev ta σ H (.ref L.a)) : EvF K (tFld K ta "program") σ (L.W ++ M0) H (encSt A ⟨p, none⟩) := by
  obtain ⟨pv, g1, g2⟩ := R.obj
  exact EvF.of (ev_fld h g1 T.d_Run.cl T.n_Run_program lkRp) g2
theorem ok_go_on (T : Top K mg A) : DefOk P w K mg base 3 A.f_go_on "go_on" ["run", "begun", "t", "handed"] (sp_go_on K A) := by
  refine dv_go_on T (ok_words_of T) (fun vs H Q E ⟨L, M0, p, t, below, said, log, N, fq, ql, u, as, hv, h, _⟩ => by rw [h]; rfl) (fun vs H Q E ⟨L, M0, p, t, below, said, log, N, fq, ql, u, as, hv, h, R, hL, hf, way, hal, hN8, hN, rh, q⟩ => ?_)
  subst h
  have S : At K Zero (L.W ++ M0) H (start N_go_on [.ref L.a, .ref fq.fa, .int (u : Nat), hv]) [.val (.ref L.a), .val (.ref fq.fa), .dat (nat u), .dat (.tup (nats as)), .any, .any, .any] := At.zero R.heat (.cons rfl (.cons rfl (.cons ⟨_, rfl, .int _⟩ (.cons ⟨_, rfl, rh⟩ (.cons trivial (.cons trivial (.cons trivial .nil))))))) rfl
  have F := R.hfrs
  rw [hL] at F
  have fa := F.1
  have hq0 : L.fr[0]? = some fq := by rw [hL]; rfl
  have frMono : ∀ {H1 H2 : Hp}, Ex H1 H2 → FrAt A H1 fq t.f t.b t.r t.env (getterOf t below) N → FrAt A H2 fq t.f t.b t.r t.env (getterOf t below) N := fun e ⟨h1, kvs, h2, h3⟩ => ⟨e _ _ h1, kvs, e _ _ h2, h3⟩
  have hlen := way.len
  -- taken
  refine sf_asg S (ef_taken T (ef_atB (ef_blocks T (ef_atF (ef_functions T (ef_prog T R (ev_val S (i := 0) rfl))) (EvF.of (ev_fld (ev_val S (i := 1) rfl) fa.obj T.d_Begun.cl T.n_Begun_f lkBf) (d := nat t.f) (.int _)) (fnAt_get hf))) (ef_var S (i := 2) rfl) (blockAt_get way.hi))) fun σ1 H1 e1 S1 => ?_
  refine sf_asg S1 (ef_words S1.heat (ev_val S1 (i := 1) rfl) (ef_var S1 (i := 3) rfl) (by omega) (frMono e1 fa)) fun σ2 H2 e2 S2 => ?_
  have e12 := e1.trans e2
  generalize htk : (blockAt (fnAt p t.f) u).takes = tk at S2
  have htk' : takesOfFn (fnAt p t.f) u = tk := htk
  rw [htk'] at hlen
  have S2' : At K Zero (L.W ++ M0) H2 σ2 [.val (.ref L.a), .val (.ref fq.fa), .dat (nat u), .dat (.tup (nats as)), .dat (.tup (nats tk)), .dat (.lst ((as.map (look t.env)).map nat)), .any] := S2
  refine sf_forRH S2' (own := [fq.wd]) (n := tk.length) (es_cons (ef_lenTM (ef_var S2' (i := 4) rfl)) es_nil) (by omega)
    (fun i ρ H' => (∃ y, ρ = [.val (.ref L.a), .val (.ref fq.fa), .dat (nat u), .dat (.tup (nats as)), .dat (.tup (nats tk)), .dat (.lst ((as.map (look t.env)).map nat)), y] ∧ hots [y] = []) ∧ RAt K A L M0 H' p ({ t with env := puts t.env (tk.take i) ((as.map (look t.env)).take i) } :: below) said log false .non (N + i) ∧ Keeps L.W H2 H' L.W)
    ⟨fun a ha => ⟨rfl, by rw [List.mem_singleton.1 ha]; exact List.mem_append_left _ (mem_wd (List.mem_of_getElem? hq0))⟩, fun i ρ' H' ⟨⟨y, hρ, hh⟩, _⟩ a ha => ?_, fun H3 e3 => ⟨⟨_, rfl, rfl⟩, R.mono (e12.trans e3), Keeps.same e3⟩, fun B' i d σ3 H3 ρ3 eB oB hd ⟨⟨y, hρ, hh⟩, R3, k3⟩ S3 => ?_, fun σ3 H3 ρ3 ⟨⟨y, hρ, hh⟩, R3, k3⟩ S3 => ?_⟩
  · rw [hρ] at ha
    have z : hots [.val (.ref L.a), .val (.ref fq.fa), .dat (nat u), .dat (.tup (nats as)), .dat (.tup (nats tk)), .dat (.lst ((as.map (look t.env)).map nat)), y] = hots [y] := rfl
    rw [z, hh] at ha
    cases ha
  · subst hρ
    obtain ⟨hi, rfl⟩ := upto_of hd
    obtain ⟨wv, hw⟩ : ∃ v, (as.map (look t.env))[i]? = some v := ⟨_, List.getElem?_eq_getElem (by rw [List.length_map]; omega)⟩
    obtain ⟨tv, ht⟩ : ∃ v, tk[i]? = some v := ⟨_, List.getElem?_eq_getElem hi⟩
    have F3 := R3.hfrs
    rw [hL] at F3
    obtain ⟨f1, kvs, f2, f3, f4⟩ := F3.1
    refine ef_at (f := nat) (ef_var S3 (i := 5) rfl) (ef_var S3 (i := 6) rfl) hw H3 (Ex.refl _) _ fun v H4 e4 rv => ?_
    obtain rfl := rv.of_int
    refine ev_fld (ev_val (S3.mono e4) (i := 1) rfl) (e4 _ _ f1) T.d_Begun.cl T.n_Begun_words lkBw H4 (Ex.refl _) _ fun H5 e5 => ?_
    have e35 := e4.trans e5
    have S5 := S3.mono e35
    refine EvF.int (n := ((tv : Nat) : Int)) (ef_ixT (ef_var S5 (i := 4) rfl) (ef_var S5 (i := 6) rfl) (ix_get ht)) (Ex.refl _) fun H6 e6 => ?_
    have e36 := e35.trans e6
    refine ⟨fq.wd, _, rfl, DPut.k (k := kI tv) (e36 _ _ f2) (szL (by omega)), ?_⟩
    have R7 := (R3.mono e36).reword (i := 0) (q := fq) (N' := N + (i + 1)) (by omega) (f3.put tv wv) (Nat.le_trans (length_putK _ _ _) (by omega)) hq0 rfl
    have S7 := (S3.mono e36).poke (p := fq.wd) (o := .dK (putK kvs (kI tv) (.int ((wv : Nat) : Int)))) (List.mem_append_left _ (mem_wd (List.mem_of_getElem? hq0))) (fun z => by
      have y' : hots [.val (.ref L.a), .val (.ref fq.fa), .dat (nat u), .dat (.tup (nats as)), .dat (.tup (nats tk)), .dat (.lst ((as.map (look t.env)).map nat)), .dat (.int (i : Nat))] = [] := rfl
      have z' : fq.wd ∈ hots [.val (.ref L.a), .val (.ref fq.fa), .dat (nat u), .dat (.tup (nats as)), .dat (.tup (nats tk)), .dat (.lst ((as.map (look t.env)).map nat)), .dat (.int (i : Nat))] := z
      rw [y'] at z'
      cases z') (oB fq.wd (List.mem_singleton.mpr rfl))
    refine ⟨_, ⟨⟨_, rfl, rfl⟩, ?_, (k3.then e36).trans (keepsU (mem_wd (List.mem_of_getElem? hq0)))⟩, S7⟩
    have e7 : puts t.env (tk.take (i + 1)) ((as.map (look t.env)).take (i + 1)) = CmBase.put (puts t.env (tk.take i) ((as.map (look t.env)).take i)) tv wv := by
      rw [(take_snoc ht).1, (take_snoc hw).1]
      exact puts_snoc (by rw [List.length_take, List.length_take, List.length_map]; omega)
    rw [e7]
    exact R7
  · subst hρ
    rw [upto_len] at R3
    have ew : (as.map (look t.env)).take tk.length = as.map (look t.env) := List.take_of_length_le (by rw [List.length_map]; omega)
    rw [List.take_length, ew] at R3
    -- begun.b = t
    have F3 := R3.hfrs
    rw [hL] at F3
    refine sv_fld (v := .int (u : Nat)) (EvF.toEv (ef_var S3 (i := 2) rfl)) (ev_val S3 (i := 1) rfl) F3.1.obj T.d_Begun.cl T.n_Begun_b (by show 5 < 1000; decide) fun H4 e4 => ?_
    rw [putBb]
    have R4 := (R3.mono e4).replace (i := 0) (q := fq) (f := t.f) (b := u) (r := t.r) hq0 rfl
    have k4 : Keeps L.W H (upd H4 fq.fa (.ins A.C_Begun fq.dx (begF t.f u t.r (getterOf { t with env := puts t.env tk (as.map (look t.env)) } below) fq.wd))) L.W := (Keeps.after e12 (k3.then e4)).trans (keepsU (mem_fa (List.mem_of_getElem? hq0)))
    have S4 := (S3.mono e4).poke (p := fq.fa) (o := .ins A.C_Begun fq.dx (begF t.f u t.r (getterOf { t with env := puts t.env tk (as.map (look t.env)) } below) fq.wd)) (List.mem_append_left _ (mem_fa (List.mem_of_getElem? hq0))) (fun z => by
      have y' : hots [.val (.ref L.a), .val (.ref fq.fa), .dat (nat u), .dat (.tup (nats as)), .dat (.tup (nats tk)), .dat (.lst ((as.map (look t.env)).map nat)), y] = hots [y] := rfl
      rw [y', hh] at z
      cases z) rfl
    have R4' : RAt K A L M0 (upd H4 fq.fa (.ins A.C_Begun fq.dx (begF t.f u t.r (getterOf { t with env := puts t.env tk (as.map (look t.env)) } below) fq.wd))) p ({ t with b := u, env := puts t.env tk (as.map (look t.env)) } :: below) said log false .non (N + tk.length) := R4
    generalize upd H4 fq.fa _ = G4 at R4' S4 k4
    have F4 := R4'.hfrs
    rw [hL] at F4
    refine sv_fld (v := .int ((0 : Nat) : Int)) ev_c (ev_val S4 (i := 1) rfl) F4.1.obj T.d_Begun.cl T.n_Begun_r (by show 5 < 1000; decide) fun H5 e5 => ?_
    rw [putBr]
    have R5 := (R4'.mono e5).replace (i := 0) (q := fq) (f := t.f) (b := u) (r := 0) hq0 rfl
    refine q _ ((k4.then e5).trans (keepsU (mem_fa (List.mem_of_getElem? hq0)))) ?_
    have R6 : RAt K A L M0 (upd H5 fq.fa (.ins A.C_Begun fq.dx (begF t.f u 0 (getterOf { t with b := u, env := puts t.env tk (as.map (look t.env)) } below) fq.wd))) p ({ t with b := u, r := 0, env := puts t.env tk (as.map (look t.env)) } :: below) said log false .non (N + tk.length) := R5
    have eh : handTo (fnAt p t.f) t.env u as = puts t.env tk (as.map (look t.env)) := by
      unfold handTo hand
      rw [htk']
    rw [eh]
    exact R6.more (by omega)
end
end Pc

namespace Pc
open PySem PySem.Spec PyProof.Rows L2 Evl
open CmBase Cm09
section
variable {P : Program} {w : World} {K : PySem.W.Frag} {mg : Str → Option Value} {base : Heap} {A : Adr}
theorem sv_popA {ta : TE} {σ : L2.St} {H : Hp} {D : Ends} {i : Nat} {p : Addr} {vs : List V} {v : V} (h : Ev ta σ H (.ref p)) (hp : H p = some (.lst (vs ++ [v]))) (k : ∀ H', Ex H H' → D.nx (σ.set i (some v)) (upd H' p (.lst vs))) : tAsg (tBM0 K "list" rPop ta) (gName i) D σ H := h H (Ex.refl H) _ fun H1 e1 => ⟨.inl ⟨rfl, _, sq_of (e1 _ _ hp)⟩, p, _, v, rfl, rfl, e1 _ _ hp, by simp, by
  rw [List.dropLast_concat]
  exact k H1 e1⟩
/-! ### a word is given -/
def giveStep (t : Cm09.Frame) (v : Nat) : List Cm09.Frame → State
  | [] => .gave v
  | c :: l => .on { c with env := CmBase.put c.env t.into v } l
def sp_give (K : PySem.W.Frag) (A : Adr) : Sp := fun vs H Q _ => ∃ (L : RL) (M0 : List Addr) (p : Prog) (t : Cm09.Frame) (below : List Cm09.Frame) (said : List Nat) (log : List Site) (N v : Nat), vs = [.ref L.a, .int (v : Nat)] ∧ RAt K A L M0 H p (t :: below) said log false .non N ∧ N ≤ 15000 ∧
  ∀ L' H', L'.a = L.a → L'.dx = L.dx → Keeps L.W H H' L'.W → Stood K A L' M0 H' p said log (N + 1) (giveStep t v below) → Q .non H'
theorem refs_last (q : FL) (ql : List FL) : ((q :: ql).map fun q => V.ref q.fa).reverse = (ql.map fun q => V.ref q.fa).reverse ++ [.ref q.fa] := by rw [List.map_cons, List.reverse_cons]
theorem ok_give (T : Top K mg A) : DefOk P w K mg base 1 A.f_give "give" ["run", "word"] (sp_give K A) := by
  refine dv_give T (fun vs H Q E ⟨L, M0, p, t, below, said, log, N, v, hv, _⟩ => by rw [hv]; rfl) (fun vs H Q E ⟨L, M0, p, t, below, said, log, N, v, hv, R, hN, q⟩ => ?_)
  subst hv
  have S : At K Zero (L.W ++ M0) H (start N_give [.ref L.a, .int (v : Nat)]) [.val (.ref L.a), .val (.int (v : Nat)), .any, .any] := At.zero R.heat (.cons rfl (.cons rfl (.cons trivial (.cons trivial .nil)))) rfl
  obtain ⟨fq, ql, hL⟩ : ∃ fq ql, L.fr = fq :: ql := by
    cases hf : L.fr with
    | nil => have := R.hfrs.len; rw [hf] at this; cases this
    | cons a b => exact ⟨a, b, rfl⟩
  have F := R.hfrs
  rw [hL] at F
  obtain ⟨pv, g1, g2⟩ := R.obj
  have hbg := R.hbeg
  rw [hL, refs_last] at hbg
  -- over = run.begun.pop()
  refine sv_popA (ev_fld (ev_val S (i := 0) rfl) g1 T.d_Run.cl T.n_Run_begun lkRb) hbg fun H1 e1 => ?_
  obtain ⟨R2, k2⟩ := (R.mono e1).pop hL
  have hov : upd H1 L.bl (.lst ((ql.map fun q => V.ref q.fa).reverse)) fq.fa = some (.ins A.C_Begun fq.dx (begF t.f t.b t.r (getterOf t below) fq.wd)) := keepU (e1 _ _ hbg) (e1 _ _ F.1.obj) (fun z => by cases z)
  have k02 := Keeps.after e1 k2
  have c2 : cold (L.W ++ M0) (upd H1 L.bl (.lst ((ql.map fun q => V.ref q.fa).reverse))) = cold (L.W ++ M0) H1 := cold_upd (List.mem_append_left _ mem_bl)
  generalize hG : upd H1 L.bl (.lst ((ql.map fun q => V.ref q.fa).reverse)) = H2 at R2 k02 hov k2 c2
  have S2 : At K Zero (({ L with fr := ql } : RL).W ++ M0) H2 ((start N_give [.ref L.a, .int (v : Nat)]).set 2 (some (.ref fq.fa))) [.val (.ref L.a), .val (.int (v : Nat)), .val (.ref fq.fa), .any] := At.zero R2.heat (.cons rfl (.cons rfl (.cons rfl (.cons trivial .nil)))) rfl
  obtain ⟨pv2, g12, g22⟩ := R2.obj
  have hb2 := R2.hbeg
  have hlenq : ql.length = below.length := F.2.len
  refine sf_if S2 (eb_test (M := ({ L with fr := ql } : RL).W ++ M0) (ef_eqN (ef_lenV (ev_fld (ev_val S2 (i := 0) rfl) g12 T.d_Run.cl T.n_Run_begun lkRb) hb2) (ef_n 0))) (fun hb H3 e3 S3 => ?_) (fun hb H3 e3 S3 => ?_)
  · -- it was the first one
    have hz := of_decide_eq_true hb
    have hz' : ql.length = 0 := by simpa using hz
    have hbn : below = [] := List.length_eq_zero_iff.mp (by omega)
    subst hbn
    have R3 := R2.mono e3
    refine sv_fld (v := .int (v : Nat)) (ev_val S3 (i := 1) rfl) (ev_val S3 (i := 0) rfl) (e3 _ _ g12) T.d_Run.cl T.n_Run_given (by show 6 < 1000; decide) fun H4 e4 => ?_
    rw [putRg]
    have R4 := (R3.mono e4).marks (fb' := false) (gv' := .int (v : Nat)) (e4 _ _ (e3 _ _ g12))
    exact q { L with fr := ql } _ rfl rfl ((k02.then (e3.trans e4)).trans (keepsU mem_ra)) ⟨_, R4.more (by omega)⟩
  · have hz := of_decide_eq_false hb
    have hz' : ql.length ≠ 0 := by simpa using hz
    obtain ⟨cq, ql', hq⟩ : ∃ cq ql', ql = cq :: ql' := by
      cases ql with
      | nil => exact absurd rfl hz'
      | cons a b => exact ⟨a, b, rfl⟩
    obtain ⟨c, l, hbl⟩ : ∃ c l, below = c :: l := by
      cases below with
      | nil => rw [hq] at hlenq; cases hlenq
      | cons a b => exact ⟨a, b, rfl⟩
    subst hbl
    have R3 := R2.mono e3
    have hb3 := R3.hbeg
    have hb3' : H3 L.bl = some (.lst ((ql'.map fun q => V.ref q.fa).reverse ++ [.ref cq.fa])) := by
      rw [← refs_last, ← hq]
      exact hb3
    have F3 := R3.hfrs
    have hq0 : ({ L with fr := ql } : RL).fr[0]? = some cq := by show ql[0]? = _; rw [hq]; rfl
    -- caller = run.begun[-1]
    refine sv_asg S3 (ev_ixV (M := ({ L with fr := ql } : RL).W ++ M0) (ev_fld (ev_val S3 (i := 0) rfl) (e3 _ _ g12) T.d_Run.cl T.n_Run_begun lkRb) hb3' (ef_neg ef_int) (atI_last _ _)) fun H4 e4 S4 => ?_
    obtain ⟨fr', hf', FA⟩ := (R3.mono e4).hfrs.cut hq0
    have ef : c = fr' := Option.some.inj hf'
    subst ef
    obtain ⟨f1, kvs, f2, f3, f4⟩ := FA
    have e24 := e3.trans e4
    -- caller.words[over.getter] = word
    refine ⟨_, S4.env.val (i := 1) rfl, ?_⟩
    refine ev_fld (ev_val S4 (i := 3) rfl) f1 T.d_Begun.cl T.n_Begun_words lkBw H4 (Ex.refl _) _ fun H5 e5 => ?_
    refine ev_fld (ev_val (S4.mono e5) (i := 2) rfl) (e5 _ _ (e24 _ _ hov)) T.d_Begun.cl T.n_Begun_getter lkBg H5 (Ex.refl _) _ fun H6 e6 => ?_
    have e26 := (e24.trans e5).trans e6
    refine ⟨cq.wd, _, rfl, DPut.k (k := kI t.into) (e6 _ _ (e5 _ _ f2)) (szL (by omega)), ?_⟩
    have R7 := (R2.mono e26).reword (i := 0) (q := cq) (fr := c) (N' := N + 1) (by omega) (f3.put t.into v) (Nat.le_trans (length_putK _ _ _) (by omega)) hq0 rfl
    exact q { L with fr := ql } _ rfl rfl ((k02.then e26).trans (keepsU (mem_wd (List.mem_of_getElem? hq0)))) R7
/-! ### an end -/
def endStep (p : Prog) (t : Cm09.Frame) (below : List Cm09.Frame) : CmBase.End → State
  | .jump u as => .on { t with b := u, r := 0, env := handTo (fnAt p t.f) t.env u as } below
  | .fork v u as w bs => if look t.env v = 0 then .on { t with b := w, r := 0, env := handTo (fnAt p t.f) t.env w bs } below else .on { t with b := u, r := 0, env := handTo (fnAt p t.f) t.env u as } below
  | .give v => giveStep t (look t.env v) below
def sp_do_ending (K : PySem.W.Frag) (A : Adr) : Sp := fun vs H Q _ => ∃ (L : RL) (M0 : List Addr) (p : Prog) (t : Cm09.Frame) (below : List Cm09.Frame) (said : List Nat) (log : List Site) (N : Nat) (fq : FL) (ql : List FL) (e : CmBase.End) (ev : V), vs = [.ref L.a, .ref fq.fa, ev] ∧ RAt K A L M0 H p (t :: below) said log false .non N ∧ L.fr = fq :: ql ∧ t.f < p.length ∧ EndWell (fnAt p t.f) e ∧ EndForm e ∧ 8 ≤ N ∧ N ≤ 15000 ∧
  Rep K (cold (L.W ++ M0) H) ev (encEnd e) ∧ ∀ L' H', L'.a = L.a → L'.dx = L.dx → Keeps L.W H H' L'.W → Stood K A L' M0 H' p said log (N + 8) (endStep p t below e) → Q .non H'
theorem ok_do_ending (T : Top K mg A) : DefOk P w K mg base 4 A.f_do_ending "do_ending" ["run", "begun", "ending"] (sp_do_ending K A) := by
  refine dv_do_ending T (ok_go_on T) (ok_word_of T) (ok_give T) (fun vs H Q E ⟨L, M0, p, t, below, said, log, N, fq, ql, e, ev, hv, _⟩ => by rw [hv]; rfl) (fun vs H Q E ⟨L, M0, p, t, below, said, log, N, fq, ql, e, ev, hv, R, hL, hf, ew, ef, hN8, hN, re, q⟩ => ?_)
  subst hv
  have S : At K Zero (L.W ++ M0) H (start N_do_ending [.ref L.a, .ref fq.fa, ev]) [.val (.ref L.a), .val (.ref fq.fa), .dat (encEnd e)] := At.zero R.heat (.cons rfl (.cons rfl (.cons ⟨_, rfl, re⟩ .nil))) rfl
  have F := R.hfrs
  rw [hL] at F
  have fa := F.1
  have frMono : ∀ {H1 H2 : Hp}, Ex H1 H2 → FrAt A H1 fq t.f t.b t.r t.env (getterOf t below) N → FrAt A H2 fq t.f t.b t.r t.env (getterOf t below) N := fun e ⟨h1, kvs, h2, h3⟩ => ⟨e _ _ h1, kvs, e _ _ h2, h3⟩
  have go : ∀ {H1 : Hp} {tu th : TE} {u : Nat} {as : List Nat} {D : Ends} (e1 : Ex H H1), EvF K tu (start N_do_ending [.ref L.a, .ref fq.fa, ev]) (L.W ++ M0) H1 (nat u) → EvF K th (start N_do_ending [.ref L.a, .ref fq.fa, ev]) (L.W ++ M0) H1 (.tup (nats as)) → WayWell (fnAt p t.f) u as → as.length ≤ 8 →
      (∀ H2, Keeps L.W H H2 L.W → RAt K A L M0 H2 p ({ t with b := u, r := 0, env := handTo (fnAt p t.f) t.env u as } :: below) said log false .non (N + 8) → D.nx (start N_do_ending [.ref L.a, .ref fq.fa, ev]) H2) →
      tDrop (tCall (sp_go_on K A) [] E0 (tCons (tVar 0) (tCons (tVar 1) (tCons tu (tCons th tNil))))) D (start N_do_ending [.ref L.a, .ref fq.fa, ev]) H1 := fun {H1 tu th u as D} e1 hu hh way hal k =>
    ⟨_, rfl, _, rfl, hu.int (Ex.refl _) fun H2 e2 => hh H2 e2 _ fun hv H3 e3 rh => ⟨L, M0, p, t, below, said, log, N, fq, ql, u, as, hv, rfl, R.mono ((e1.trans e2).trans e3), hL, hf, way, hal, hN8, hN, rh, fun H4 k4 R4 => k H4 (k4.after ((e1.trans e2).trans e3)) R4⟩⟩
  cases e with
  | jump u as =>
    have hx : ∀ {H1}, Ex H H1 → EvF K (tVar 2) (start N_do_ending [.ref L.a, .ref fq.fa, ev]) (L.W ++ M0) H1 (.tup [.int 0, nat u, .tup (nats as)]) := fun e => (ef_var S (i := 2) rfl).mono e
    refine sf_if S (eb_test (ef_eq (ef_t (i := 0) (hx (Ex.refl _)) rfl) ef_int)) (fun _ H1 e1 S1 => ?_) (fun hb => by cases hb)
    exact go e1 (ef_t (i := 1) (hx e1) rfl) (ef_t (i := 2) (hx e1) rfl) ew ef fun H2 k2 R2 => q L H2 rfl rfl k2 R2
  | fork v u as w0 bs =>
    have hx : ∀ {H1}, Ex H H1 → EvF K (tVar 2) (start N_do_ending [.ref L.a, .ref fq.fa, ev]) (L.W ++ M0) H1 (.tup [.int 1, nat v, nat u, .tup (nats as), nat w0, .tup (nats bs)]) := fun e => (ef_var S (i := 2) rfl).mono e
    refine sf_if S (eb_test (ef_eq (ef_t (i := 0) (hx (Ex.refl _)) rfl) ef_int)) (fun hb => by cases hb) (fun _ H1 e1 S1 => ?_)
    refine sf_if S1 (eb_test (ef_eq (ef_t (i := 0) (hx e1) rfl) ef_int)) (fun _ H2 e2 S2 => ?_) (fun hb => by cases hb)
    have e12 := e1.trans e2
    have hst : endStep p t below (.fork v u as w0 bs) = if look t.env v = 0 then .on { t with b := w0, r := 0, env := handTo (fnAt p t.f) t.env w0 bs } below else .on { t with b := u, r := 0, env := handTo (fnAt p t.f) t.env u as } below := rfl
    refine sf_if S2 (eb_test (K := K) (M := L.W ++ M0) (ef_neN (EvF.of (ev_word (ev_val S2 (i := 1) rfl) (EvF.toEv (ef_t (i := 1) (hx e12) rfl)) (frMono e12 fa)) (d := nat (look t.env v)) (.int _)) (ef_n 0))) (fun hb H3 e3 S3 => ?_) (fun hb H3 e3 S3 => ?_)
    · have hz : ¬ look t.env v = 0 := by simpa using hb
      rw [if_neg hz] at hst
      rw [hst] at q
      have e13 := e12.trans e3
      exact go e13 (ef_t (i := 2) (hx e13) rfl) (ef_t (i := 3) (hx e13) rfl) ew.1 ef.1 fun H2 k2 R2 => q L H2 rfl rfl k2 R2
    · have hz : look t.env v = 0 := by simpa using hb
      rw [if_pos hz] at hst
      rw [hst] at q
      have e13 := e12.trans e3
      exact go e13 (ef_t (i := 4) (hx e13) rfl) (ef_t (i := 5) (hx e13) rfl) ew.2 ef.2 fun H2 k2 R2 => q L H2 rfl rfl k2 R2
  | give v =>
    have hx : ∀ {H1}, Ex H H1 → EvF K (tVar 2) (start N_do_ending [.ref L.a, .ref fq.fa, ev]) (L.W ++ M0) H1 (.tup [.int 2, nat v]) := fun e => (ef_var S (i := 2) rfl).mono e
    refine sf_if S (eb_test (ef_eq (ef_t (i := 0) (hx (Ex.refl _)) rfl) ef_int)) (fun hb => by cases hb) (fun _ H1 e1 S1 => ?_)
    refine sf_if S1 (eb_test (ef_eq (ef_t (i := 0) (hx e1) rfl) ef_int)) (fun hb => by cases hb) (fun _ H2 e2 S2 => ?_)
    have e12 := e1.trans e2
    refine ⟨_, rfl, ev_word (ev_val S2 (i := 1) rfl) (EvF.toEv (ef_t (i := 1) (hx e12) rfl)) (frMono e12 fa) H2 (Ex.refl _) _ fun H3 e3 => ?_⟩
    exact ⟨L, M0, p, t, below, said, log, N, look t.env v, rfl, R.mono (e12.trans e3), hN, fun L' H4 ha hd k4 St => q L' H4 ha hd (k4.after (e12.trans e3)) (St.more (by omega))⟩
/-! ### a step -/
theorem step1_row {p : Prog} {t : Cm09.Frame} {below : List Cm09.Frame} {row : PRow} (h : (blockAt (fnAt p t.f) t.b).rows[t.r]? = some row) : step1 p t below = rowStep t below row := by
  unfold step1
  simp only [h]
  cases row with
  | plain row => cases row <;> rfl
  | call x g as => rfl
theorem step1_end {p : Prog} {t : Cm09.Frame} {below : List Cm09.Frame} (h : (blockAt (fnAt p t.f) t.b).rows[t.r]? = none) : step1 p t below = (endStep p t below (blockAt (fnAt p t.f) t.b).last, [], []) := by
  unfold step1
  simp only [h]
  cases (blockAt (fnAt p t.f) t.b).last with
  | jump u as => rfl
  | fork v u as w bs => rfl
  | give v => cases below <;> rfl
def sp_do_step (K : PySem.W.Frag) (A : Adr) : Sp := fun vs H Q _ => ∃ (L : RL) (M0 : List Addr) (p : Prog) (t : Cm09.Frame) (below : List Cm09.Frame) (said : List Nat) (log : List Site) (N : Nat), vs = [.ref L.a] ∧ RAt K A L M0 H p (t :: below) said log false .non N ∧ FrOk p t ∧ Runs p ∧ 8 ≤ N ∧ N ≤ 15000 ∧
  ∀ L' H', L'.a = L.a → L'.dx = L.dx → Keeps L.W H H' L'.W → Stood K A L' M0 H' p (said ++ (step1 p t below).2.1) (log ++ (step1 p t below).2.2) (N + 8) (step1 p t below).1 → Q .non H'
theorem ok_do_step (T : Top K mg A) : DefOk P w K mg base 5 A.f_do_step "do_step" ["run"] (sp_do_step K A) := by
  refine dv_do_step T (ok_do_row T) (ok_do_ending T) (fun vs H Q E ⟨L, M0, p, t, below, said, log, N, hv, _⟩ => by rw [hv]; rfl) (fun vs H Q E ⟨L, M0, p, t, below, said, log, N, hv, R, fo, ru, hN8, hN, q⟩ => ?_)
  subst hv
  have S : At K Zero (L.W ++ M0) H (start N_do_step [.ref L.a]) [.val (.ref L.a), .any, .any] := At.zero R.heat (.cons rfl (.cons trivial (.cons trivial .nil))) rfl
  obtain ⟨fq, ql, hL⟩ : ∃ fq ql, L.fr = fq :: ql := by
    cases hf : L.fr with
    | nil => have := R.hfrs.len; rw [hf] at this; cases this
    | cons a b => exact ⟨a, b, rfl⟩
  have F := R.hfrs
  rw [hL] at F
  have fa := F.1
  obtain ⟨pv, g1, g2⟩ := R.obj
  have hbg := R.hbeg
  rw [hL, refs_last] at hbg
  have hBm := blockAt_mem fo.b
  have hFw := ru.whole _ (fnAt_mem fo.f)
  have hFf := ru.form _ (fnAt_mem fo.f)
  refine sv_asg S (ev_ixV (M := L.W ++ M0) (ev_fld (ev_val S (i := 0) rfl) g1 T.d_Run.cl T.n_Run_begun lkRb) hbg (ef_neg ef_int) (atI_last _ _)) fun H1 e1 S1 => ?_
  have R1 := R.mono e1
  refine sf_asg S1 (ef_atB (ef_blocks T (ef_atF (ef_functions T (ef_prog T R1 (ev_val S1 (i := 0) rfl))) (EvF.of (ev_fld (ev_val S1 (i := 1) rfl) (e1 _ _ fa.obj) T.d_Begun.cl T.n_Begun_f lkBf) (d := nat t.f) (.int _)) (fnAt_get fo.f))) (EvF.of (ev_fld (ev_val S1 (i := 1) rfl) (e1 _ _ fa.obj) T.d_Begun.cl T.n_Begun_b lkBb) (d := nat t.b) (.int _)) (blockAt_get fo.b)) fun σ2 H2 e2 S2 => ?_
  have e12 := e1.trans e2
  have hB : ∀ {H3}, Ex H2 H3 → EvF K (tVar 2) σ2 (L.W ++ M0) H3 (encBlk A (blockAt (fnAt p t.f) t.b).takes (blockAt (fnAt p t.f) t.b).rows (encEnd (blockAt (fnAt p t.f) t.b).last)) := fun e => (ef_var S2 (i := 2) rfl).mono e
  refine sf_if S2 (eb_test (ef_ltN (EvF.of (ev_fld (ev_val S2 (i := 1) rfl) (e12 _ _ fa.obj) T.d_Begun.cl T.n_Begun_r lkBr) (d := nat t.r) (.int _)) (ef_lenM (ef_rows T (hB (Ex.refl _)))))) (fun hb H3 e3 S3 => ?_) (fun hb H3 e3 S3 => ?_)
  · have hlt : t.r < (blockAt (fnAt p t.f) t.b).rows.length := of_decide_eq_true hb
    obtain ⟨row, hrow⟩ : ∃ row, (blockAt (fnAt p t.f) t.b).rows[t.r]? = some row := ⟨_, List.getElem?_eq_getElem hlt⟩
    rw [step1_row hrow] at q
    have e13 := e12.trans e3
    refine ⟨_, S3.env.val (i := 0) rfl, _, S3.env.val (i := 1) rfl, ef_atR (ef_rows T (hB e3)) (EvF.of (ev_fld (ev_val S3 (i := 1) rfl) (e13 _ _ fa.obj) T.d_Begun.cl T.n_Begun_r lkBr) (d := nat t.r) (.int _)) hrow H3 (Ex.refl _) _ fun rv H4 e4 rr => ?_⟩
    have e14 := e13.trans e4
    exact ⟨L, M0, p, t, below, said, log, N, fq, ql, row, rv, rfl, R.mono e14, hL, fo.words, hN8, hN, (hFf.blocks _ hBm).rows row (List.mem_of_getElem? hrow), rr, fun L' H5 ha hd k5 St => q L' H5 ha hd (k5.after e14) St⟩
  · have hge : ¬ t.r < (blockAt (fnAt p t.f) t.b).rows.length := of_decide_eq_false hb
    rw [step1_end (List.getElem?_eq_none (by omega))] at q
    have e13 := e12.trans e3
    refine ⟨_, S3.env.val (i := 0) rfl, _, S3.env.val (i := 1) rfl, ef_ending T (hB e3) H3 (Ex.refl _) _ fun ev H4 e4 re => ?_⟩
    have e14 := e13.trans e4
    refine ⟨L, M0, p, t, below, said, log, N, fq, ql, _, ev, rfl, R.mono e14, hL, fo.f, hFw.ends _ hBm, (hFf.blocks _ hBm).last, hN8, hN, re, fun L' H5 ha hd k5 St => q L' H5 ha hd (k5.after e14) ?_⟩
    show Stood K A L' M0 H5 p (said ++ []) (log ++ []) (N + 8) _
    rw [List.append_nil]; rw [List.append_nil]
    exact St
end
end Pc

namespace Pc
open PySem PySem.Spec PyProof.Rows L2 Evl
open CmBase Cm09
section
variable {P : Program} {w : World} {K : PySem.W.Frag} {mg : Str → Option Value} {base : Heap} {A : Adr}
/-! ### a run begins -/
theorem sFld_one {ta te : TE} {f : Str} {D : Ends} {σ : L2.St} {H : Hp} (h : te σ H fun v H1 => [v].length ≤ sizeLine ∧ ∀ p, H1 p = none → ta σ (upd H1 p (.lst [v])) fun x H2 => ∃ a C dx fs, x = .ref a ∧ H2 a = some (.ins C dx fs) ∧ Cls K C ∧ NoAttr K C f ∧ fs.length < 1000 ∧ D.nx σ (upd H2 a (.ins C dx (putF f (.ref p) fs)))) : sFld K ta (tLst (tCons te tNil)) f D σ H := h
def sp_Run (K : PySem.W.Frag) (A : Adr) : Sp := fun vs H Q _ => ∃ (M0 : List Addr) (x dx : Addr) (p : Prog) (pv hv : V) (f : Nat) (ws : List Nat), vs = [.ref x, pv, .int (f : Nat), hv] ∧ x ∉ M0 ∧ Hot (x :: M0) H ∧ H x = some (.ins A.C_Run dx []) ∧ Rep K (cold (x :: M0) H) pv (encSt A ⟨p, none⟩) ∧ Rep K (cold (x :: M0) H) hv (.lst (ws.map nat)) ∧ ws.length ≤ 8 ∧
  ∀ L H', L.a = x → L.dx = dx → Keeps [x] H H' L.W → RAt K A L M0 H' p [⟨f, 0, 0, ws, 0⟩] [] [] false .non 8 → Q .non H'
theorem ok_Run (T : Top K mg A) : MakeOk P w K mg base 3 A.C_Run A.f_Run "Run" ["self", "program", "f", "handed"] (sp_Run K A) := by
  refine dv_Run T (ok_Begun T) (fun vs H Q E ⟨M0, x, dx, p, pv, hv, f, ws, h, _⟩ => by rw [h]; rfl) (fun vs H Q E ⟨M0, x, dx, p, pv, hv, f, ws, h, xM, hM, hx, rp, rh, hl, q⟩ => ?_)
  subst h
  have few : ∀ n : Nat, n < 7 → n < 1000 := fun n h => by omega
  -- self.program = program
  refine ⟨pv, rfl, .ref x, rfl, x, _, dx, [], rfl, hx, T.d_Run.cl, T.n_Run_program, few 0 (by decide), ?_⟩
  have c0 : cold (x :: M0) (upd H x (.ins A.C_Run dx (putF "program" pv []))) = cold (x :: M0) H := cold_upd List.mem_cons_self
  have M1 : Hot (x :: M0) (upd H x (.ins A.C_Run dx (putF "program" pv []))) := hM.upd
  have K1 : Keeps [x] H (upd H x (.ins A.C_Run dx (putF "program" pv []))) [x] := ⟨fun y o hy h => by rw [upd_ne (fun z => hy (by rw [z]; exact List.mem_singleton.mpr rfl))]; exact h, fun y hy => .inl hy⟩
  have hx1 : upd H x (.ins A.C_Run dx (putF "program" pv [])) x = some (.ins A.C_Run dx [("program", pv)]) := upd_same
  generalize upd H x (.ins A.C_Run dx (putF "program" pv [])) = H1 at c0 M1 K1 hx1
  have S1 : At K Zero (x :: M0) H1 (start N_Run [.ref x, pv, .int (f : Nat), hv]) [.val (.ref x), .dat (encSt A ⟨p, none⟩), .dat (nat f), .dat (.lst (ws.map nat))] := At.zero M1 (.cons rfl (.cons ⟨_, rfl, by rw [c0]; exact rp⟩ (.cons ⟨_, rfl, .int _⟩ (.cons ⟨_, rfl, by rw [c0]; exact rh⟩ .nil)))) rfl
  -- self.begun = [Begun(f, handed, None)]
  unfold tSeq
  dsimp only
  refine sFld_one ?_
  refine mk_Begun (ws := ws) S1.heat (EvF.toEv (ef_var S1 (i := 2) rfl)) (ef_var S1 (i := 3) rfl) ev_c (by omega) fun fa fdx wd kvs H2 H3 e2 e3 nfa nwd hwf hfa hwd hen hkl => ?_
  have e13 := e2.trans e3
  refine ⟨leb rfl, fun bl hbl => ?_⟩
  have nebl : ∀ {y o}, H3 y = some o → y ≠ bl := fun h => ne_of_none h hbl
  refine ⟨.ref x, rfl, x, _, dx, _, rfl, (upd_ne (nebl (e13 _ _ hx1))).trans (e13 _ _ hx1), T.d_Run.cl, T.n_Run_begun, few 1 (by decide), ?_⟩
  have a2 : putF "begun" (.ref bl) ([("program", pv)] : List (Str × V)) = ([("program", pv), ("begun", .ref bl)] : List (Str × V)) := put_past (by decide +kernel)
  rw [a2]
  have xfa : fa ≠ x := fun z => by rw [z, e2 _ _ hx1] at nfa; cases nfa
  have xwd : wd ≠ x := fun z => by rw [z, e2 _ _ hx1] at nwd; cases nwd
  have xbl : bl ≠ x := fun z => by rw [z, e13 _ _ hx1] at hbl; cases hbl
  -- the heap behind it
  obtain ⟨G, hG⟩ : ∃ G, G = upd (upd H3 bl (.lst [.ref fa])) x (.ins A.C_Run dx [("program", pv), ("begun", .ref bl)]) := ⟨_, rfl⟩
  have Gx : G x = some (.ins A.C_Run dx [("program", pv), ("begun", .ref bl)]) := by rw [hG]; exact upd_same
  have Gb : G bl = some (.lst [.ref fa]) := by rw [hG, upd_ne xbl]; exact upd_same
  have Gf : G fa = some (.ins A.C_Begun fdx (begF f 0 0 .non wd)) := by rw [hG, upd_ne xfa, upd_ne (nebl hfa)]; exact hfa
  have Gw : G wd = some (.dK kvs) := by rw [hG, upd_ne xwd, upd_ne (nebl hwd)]; exact hwd
  have Go : ∀ y o, y ≠ x → H1 y = some o → G y = some o := fun y o hy h => by rw [hG, upd_ne hy, upd_ne (nebl (e13 _ _ h))]; exact e13 _ _ h
  rw [← hG]
  clear hG
  -- self.said = []
  refine ⟨leb rfl, fun sl hsl => ?_⟩
  refine ⟨.ref x, rfl, x, _, dx, _, rfl, (upd_ne (ne_of_none Gx hsl)).trans Gx, T.d_Run.cl, T.n_Run_said, few 2 (by decide), ?_⟩
  have a3 : putF "said" (.ref sl) ([("program", pv), ("begun", .ref bl)] : List (Str × V)) = ([("program", pv), ("begun", .ref bl), ("said", .ref sl)] : List (Str × V)) := (put_past (by decide +kernel)).trans (congrArg _ (put_past (by decide +kernel)))
  rw [a3]
  obtain ⟨G2, hG2⟩ : ∃ G2, G2 = upd (upd G sl (.lst [])) x (.ins A.C_Run dx [("program", pv), ("begun", .ref bl), ("said", .ref sl)]) := ⟨_, rfl⟩
  have xsl : sl ≠ x := fun z => by rw [z, Gx] at hsl; cases hsl
  have G2x : G2 x = some (.ins A.C_Run dx [("program", pv), ("begun", .ref bl), ("said", .ref sl)]) := by rw [hG2]; exact upd_same
  have G2s : G2 sl = some (.lst []) := by rw [hG2, upd_ne xsl]; exact upd_same
  have G2o : ∀ y o, y ≠ x → G y = some o → G2 y = some o := fun y o hy h => by rw [hG2, upd_ne hy, upd_ne (ne_of_none h hsl)]; exact h
  rw [← hG2]
  clear hG2
  -- self.made = {}
  intro md hmd
  refine ⟨.ref x, rfl, x, _, dx, _, rfl, (upd_ne (ne_of_none G2x hmd)).trans G2x, T.d_Run.cl, T.n_Run_made, few 3 (by decide), ?_⟩
  have a4 : putF "made" (.ref md) ([("program", pv), ("begun", .ref bl), ("said", .ref sl)] : List (Str × V)) = ([("program", pv), ("begun", .ref bl), ("said", .ref sl), ("made", .ref md)] : List (Str × V)) := (put_past (by decide +kernel)).trans (congrArg _ ((put_past (by decide +kernel)).trans (congrArg _ (put_past (by decide +kernel)))))
  rw [a4]
  obtain ⟨G3, hG3⟩ : ∃ G3, G3 = upd (upd G2 md (.dT [])) x (.ins A.C_Run dx [("program", pv), ("begun", .ref bl), ("said", .ref sl), ("made", .ref md)]) := ⟨_, rfl⟩
  have xmd : md ≠ x := fun z => by rw [z, G2x] at hmd; cases hmd
  have G3x : G3 x = some (.ins A.C_Run dx [("program", pv), ("begun", .ref bl), ("said", .ref sl), ("made", .ref md)]) := by rw [hG3]; exact upd_same
  have G3m : G3 md = some (.dT []) := by rw [hG3, upd_ne xmd]; exact upd_same
  have G3o : ∀ y o, y ≠ x → G2 y = some o → G3 y = some o := fun y o hy h => by rw [hG3, upd_ne hy, upd_ne (ne_of_none h hmd)]; exact h
  rw [← hG3]
  clear hG3
  -- self.failed = False, self.given = None
  refine ⟨.ref x, rfl, x, _, dx, _, rfl, G3x, T.d_Run.cl, T.n_Run_failed, few 4 (by decide), ?_⟩
  refine ⟨.ref x, rfl, x, _, dx, _, rfl, upd_same, T.d_Run.cl, T.n_Run_given, few 5 (by decide), ?_⟩
  have a5 : putF "given" V.non (putF "failed" (.bl false) ([("program", pv), ("begun", .ref bl), ("said", .ref sl), ("made", .ref md)] : List (Str × V))) = ([("program", pv), ("begun", .ref bl), ("said", .ref sl), ("made", .ref md), ("failed", .bl false), ("given", .non)] : List (Str × V)) := by
    have z : putF "failed" (.bl false) ([("program", pv), ("begun", .ref bl), ("said", .ref sl), ("made", .ref md)] : List (Str × V)) = ([("program", pv), ("begun", .ref bl), ("said", .ref sl), ("made", .ref md), ("failed", .bl false)] : List (Str × V)) := (put_past (by decide +kernel)).trans (congrArg _ ((put_past (by decide +kernel)).trans (congrArg _ ((put_past (by decide +kernel)).trans (congrArg _ (put_past (by decide +kernel)))))))
    rw [z]
    exact (put_past (by decide +kernel)).trans (congrArg _ ((put_past (by decide +kernel)).trans (congrArg _ ((put_past (by decide +kernel)).trans (congrArg _ ((put_past (by decide +kernel)).trans (congrArg _ (put_past (by decide +kernel)))))))))
  rw [a5]
  obtain ⟨G4, hG4⟩ : ∃ G4, G4 = upd (upd G3 x (.ins A.C_Run dx (putF "failed" (.bl false) ([("program", pv), ("begun", .ref bl), ("said", .ref sl), ("made", .ref md)] : List (Str × V))))) x (.ins A.C_Run dx [("program", pv), ("begun", .ref bl), ("said", .ref sl), ("made", .ref md), ("failed", .bl false), ("given", .non)]) := ⟨_, rfl⟩
  have G4x : G4 x = some (.ins A.C_Run dx [("program", pv), ("begun", .ref bl), ("said", .ref sl), ("made", .ref md), ("failed", .bl false), ("given", .non)]) := by rw [hG4]; exact upd_same
  have G4o : ∀ y o, y ≠ x → G3 y = some o → G4 y = some o := fun y o hy h => by rw [hG4, upd_ne hy, upd_ne hy]; exact h
  rw [← hG4]
  clear hG4
  have Q4 : ∀ y o, y ≠ x → G y = some o → G4 y = some o := fun y o hy h => G4o y o hy (G3o y o hy (G2o y o hy h))
  have G4b := Q4 _ _ xbl Gb
  have G4f := Q4 _ _ xfa Gf
  have G4w := Q4 _ _ xwd Gw
  have G4s := G4o _ _ xsl (G3o _ _ xsl G2s)
  have G4m := G4o _ _ xmd G3m
  let L : RL := ⟨x, dx, bl, sl, md, [⟨fa, fdx, wd⟩]⟩
  have hW : ∀ y, y ∈ L.W → y = x ∨ (y = bl ∨ y = sl ∨ y = md ∨ y = fa ∨ y = wd) := fun y hy => by
    have hy' : y ∈ [x, bl, sl, md] ++ ([fa, wd] ++ []) := hy
    simp only [List.append_nil, List.mem_append, List.mem_cons, List.not_mem_nil, or_false] at hy'
    rcases hy' with (h | h | h | h) | (h | h)
    · exact .inl h
    · exact .inr (.inl h)
    · exact .inr (.inr (.inl h))
    · exact .inr (.inr (.inr (.inl h)))
    · exact .inr (.inr (.inr (.inr (.inl h))))
    · exact .inr (.inr (.inr (.inr (.inr h))))
  have none1 : ∀ y, y ∈ L.W → y ≠ x → H1 y = none := fun y hy hne => by
    rcases hW y hy with h | h | h | h | h | h
    · exact absurd h hne
    · rw [h]; exact fresh_back e13 hbl
    · cases hq : H1 y with
      | none => rfl
      | some o => rw [h] at hq hne; rw [Go _ _ hne hq] at hsl; cases hsl
    · cases hq : H1 y with
      | none => rfl
      | some o => rw [h] at hq hne; rw [G2o _ _ hne (Go _ _ hne hq)] at hmd; cases hmd
    · rw [h]; exact fresh_back e2 nfa
    · rw [h]; exact fresh_back e2 nwd
  have kp1 : Keeps [x] H1 G4 L.W := ⟨fun y o hy h => Q4 y o (fun z => hy (by rw [z]; exact List.mem_singleton.mpr rfl)) (Go y o (fun z => hy (by rw [z]; exact List.mem_singleton.mpr rfl)) h), fun y hy => by
    by_cases hyx : y = x
    · exact .inl (by rw [hyx]; exact List.mem_singleton.mpr rfl)
    · exact .inr (none1 y hy hyx)⟩
  refine q L G4 rfl rfl (K1.trans kp1) ⟨fun y hy => ?_, ⟨fun m hm z => ?_⟩, ?_, by simp [L], by simp [L], ⟨pv, G4x, ?_⟩, G4b, G4s, G4m, ⟨⟨G4f, kvs, G4w, hen, by omega⟩, trivial⟩, ?_⟩
  · by_cases hyx : y = x
    · rw [hyx]; exact xM
    · exact fun z => M1.all y (List.mem_cons_of_mem _ z) (none1 y hy hyx)
  · rcases List.mem_append.1 hm with y | y
    · rcases hW m y with h | h | h | h | h | h
      · rw [h, G4x] at z; cases z
      · rw [h, G4b] at z; cases z
      · rw [h, G4s] at z; cases z
      · rw [h, G4m] at z; cases z
      · rw [h, G4f] at z; cases z
      · rw [h, G4w] at z; cases z
    · by_cases hmx : m = x
      · rw [hmx, G4x] at z; cases z
      · cases hq : H1 m with
        | none => exact M1.all m (List.mem_cons_of_mem _ y) hq
        | some o => rw [Q4 m o hmx (Go m o hmx hq)] at z; cases z
  · show bl ≠ sl
    exact ne_of_none Gb hsl
  · have hc := kp1.cold M0
    have e0 : cold ([x] ++ M0) H1 = cold (x :: M0) H1 := rfl
    rw [e0, c0] at hc
    exact rp.mono hc
  · exact ⟨by show 1 ≤ 8; decide, Nat.zero_le _, Nat.zero_le _⟩
end
end Pc

namespace Pc
open PySem PySem.Spec PyProof.Rows L2 Evl
open CmBase Cm09
/-! ### a whole run -/
def isFailed : State → Bool
  | .failed => true
  | _ => false
def givenOf : State → Dv
  | .gave v => nat v
  | _ => .non
def encRun (A : Adr) (p : Prog) (q : List Nat × List Site × State) : Dv := .obj A.C_Run [("program", encSt A ⟨p, none⟩), ("begun", .any), ("said", .lst (q.1.map nat)), ("made", .dT (encTally (tally q.2.1))), ("failed", .bl (isFailed q.2.2)), ("given", givenOf q.2.2)]
section
variable {P : Program} {w : World} {K : PySem.W.Frag} {mg : Str → Option Value} {base : Heap} {A : Adr}
theorem RAt.datum {L : RL} {M0 : List Addr} {H : Hp} {p : Prog} {frs : List Cm09.Frame} {said : List Nat} {log : List Site} {fb : Bool} {gv : V} {N : Nat} {gd : Dv} (R : RAt K A L M0 H p frs said log fb gv N) (hg : Rep K (cold M0 H) gv gd) : Rep K (cold M0 H) (.ref L.a) (.obj A.C_Run [("program", encSt A ⟨p, none⟩), ("begun", .any), ("said", .lst (said.map nat)), ("made", .dT (encTally (tally log))), ("failed", .bl fb), ("given", gd)]) := by
  obtain ⟨pv, h1, h2⟩ := R.obj
  refine .obj (cold_of (R.dis _ mem_ra) h1) (.cons (h2.mono (cold_sub fun y hy => List.mem_append_right _ hy)) (.cons (.any _) (.cons (.lst (cold_of (R.dis _ mem_sl) R.hsaid) (nats_reps said)) (.cons (.dT (cold_of (R.dis _ mem_md) R.hmade)) (.cons (.bl fb) (.cons hg .nil))))))
theorem Stood.datum {L : RL} {M0 : List Addr} {H : Hp} {p : Prog} {said : List Nat} {log : List Site} {N : Nat} {st : State} (h : Stood K A L M0 H p said log N st) : Rep K (cold M0 H) (.ref L.a) (encRun A p (said, log, st)) := by
  cases st with
  | on t below => exact RAt.datum h .non
  | gave v => obtain ⟨frs, R⟩ := h; exact R.datum (.int _)
  | failed => obtain ⟨frs, R⟩ := h; exact R.datum .non
theorem Stood.obj {L : RL} {M0 : List Addr} {H : Hp} {p : Prog} {said : List Nat} {log : List Site} {N : Nat} {st : State} (h : Stood K A L M0 H p said log N st) : ∃ pv gv, H L.a = some (.ins A.C_Run L.dx (runF pv L (isFailed st) gv)) ∧ (decide (gv = .non) = (givenOf st).isNon) ∧ Hot (L.W ++ M0) H := by
  cases st with
  | on t below => obtain ⟨pv, h1, _⟩ := RAt.obj h; exact ⟨pv, .non, h1, rfl, RAt.heat h⟩
  | gave v => obtain ⟨frs, R⟩ := h; obtain ⟨pv, h1, _⟩ := R.obj; exact ⟨pv, _, h1, rfl, R.heat⟩
  | failed => obtain ⟨frs, R⟩ := h; obtain ⟨pv, h1, _⟩ := R.obj; exact ⟨pv, .non, h1, rfl, R.heat⟩
theorem Stood.mono {L : RL} {M0 : List Addr} {H H' : Hp} {p : Prog} {said : List Nat} {log : List Site} {N : Nat} {st : State} (e : Ex H H') (h : Stood K A L M0 H p said log N st) : Stood K A L M0 H' p said log N st := by
  cases st with
  | on t below => exact RAt.mono e h
  | gave v => obtain ⟨frs, R⟩ := h; exact ⟨frs, R.mono e⟩
  | failed => obtain ⟨frs, R⟩ := h; exact ⟨frs, R.mono e⟩
theorem run_stop {p : Prog} {n : Nat} {st : State} (h : n = 0 ∨ ((givenOf st).isNon && !isFailed st) = false) : runState p n st = ([], [], st) := by
  cases n with
  | zero => rfl
  | succ n =>
    rcases h with h | h
    · cases h
    · cases st with
      | on t below => cases h
      | gave v => rfl
      | failed => rfl
theorem run_go {p : Prog} {n : Nat} {t : Cm09.Frame} {below : List Cm09.Frame} : runState p (n + 1) (.on t below) = ((step1 p t below).2.1 ++ (runState p n (step1 p t below).1).1, (step1 p t below).2.2 ++ (runState p n (step1 p t below).1).2.1, (runState p n (step1 p t below).1).2.2) := rfl
abbrev R_run_of (A : Adr) : List Dv → Dv → Prop := fun ds d => ∃ (p : Prog) (f n : Nat) (ws : List Nat), ds = [encSt A ⟨p, none⟩, nat f, nat n, .lst (ws.map nat)] ∧ Runs p ∧ f < p.length ∧ n ≤ 1000 ∧ ws.length ≤ 8 ∧ (∀ x ∈ ws, x < 4294967296) ∧ d = encRun A p (runFn p f n ws)
theorem ok_run_of (T : Top K mg A) : DefOk P w K mg base 6 A.f_run_of "run_of" ["program", "f", "n", "words"] (spR K (R_run_of A)) := by
  refine dv_run_of T (ok_Run T) (ok_do_step T) (spR_len (fun ds d ⟨p, f, n, ws, hd, _⟩ => by rw [hd]; rfl)) (fun vs H Q E ⟨M, ds, d, hM, rs, ⟨p, f, n, ws, hd, ru, hf, hn, hl, hw, he⟩, q⟩ => ?_)
  subst hd he
  have S : At K H M H (start N_run_of vs) [.dat (encSt A ⟨p, none⟩), .dat (nat f), .dat (nat n), .dat (.lst (ws.map nat)), .any, .any] := At.start hM rs
  obtain ⟨pv, hpv, rp⟩ := S.env.dat (i := 0) rfl
  obtain ⟨fv, hfv, rf⟩ := S.env.dat (i := 1) rfl
  obtain ⟨nv, hnv, rn⟩ := S.env.dat (i := 2) rfl
  obtain ⟨wv, hwv, rw'⟩ := S.env.dat (i := 3) rfl
  obtain rfl := rf.of_int
  obtain rfl := rn.of_int
  -- run = Run(program, f, words)
  refine ⟨pv, hpv, _, hfv, wv, hwv, fun x dx nx nd ne => ?_⟩
  have hne : ∀ {y o}, H y = some o → upd (upd H dx (.own x)) x (.ins A.C_Run dx []) y = some o := fun {y o} h => by rw [upd_ne (ne_of_none h nx), upd_ne (ne_of_none h nd)]; exact h
  have xM : x ∉ M := hM.fresh nx
  have hc : Ex (cold M H) (cold (x :: M) (upd (upd H dx (.own x)) x (.ins A.C_Run dx []))) := fun y o h => by
    obtain ⟨y1, y2⟩ := cold_some.mp h
    exact cold_of (fun z => (List.mem_cons.1 z).elim (ne_of_none y2 nx) y1) (hne y2)
  refine ⟨M, x, dx, p, pv, wv, f, ws, rfl, xM, ⟨fun m hm z => ?_⟩, upd_same, rp.mono hc, rw'.mono hc, hl, fun L H1 hLa hLd k1 R1 => ⟨rfl, ?_⟩⟩
  · rcases List.mem_cons.1 hm with y | y
    · rw [y, upd_same] at z; cases z
    · cases hq : H m with
      | none => exact hM.all m y hq
      | some o => rw [hne hq] at z; cases z
  have k0 : Keeps [x] H H1 L.W := by
    refine ⟨fun y o hy h => k1.rest y o hy (hne h), fun y hy => ?_⟩
    rcases k1.own y hy with z | z
    · exact .inl z
    · exact .inr (by
        cases hq : H y with
        | none => rfl
        | some o => rw [hne hq] at z; cases z)
  have hEx : ∀ {L' : RL} {H' : Hp}, Keeps [x] H H' L'.W → Ex H H' := fun k y o h => k.rest y o (fun z => by rw [List.mem_singleton.1 z, nx] at h; cases h) h
  have St1 : Stood K A L M H1 p [] [] 8 (.on ⟨f, 0, 0, ws, 0⟩ []) := R1
  have ok1 : StOk p (.on ⟨f, 0, 0, ws, 0⟩ []) := fun fr hfr => by
    rw [List.mem_singleton.1 hfr]
    exact ⟨hf, (ru.whole _ (fnAt_mem hf)).some, WordsOk.of_list hw⟩
  -- done = 0
  let σ1 : L2.St := (start N_run_of vs).set 4 (some (.ref x))
  have hσ2 : ∀ k : Nat, k ≠ 4 → ∀ o, (start N_run_of vs)[k]? = some o → σ1[k]? = some o := fun k hk o h => by
    show ((start N_run_of vs).set 4 (some (.ref x)))[k]? = _
    rw [List.getElem?_set, if_neg (Ne.symm hk)]
    exact h
  have lenσ : (start N_run_of vs).length = 6 := by rw [S.env.length]; rfl
  let Inv : Nat → L2.St → Hp → Prop := fun m σ H' => ∃ (i : Nat) (L' : RL) (st : State) (said : List Nat) (log : List Site), m = n - i ∧ i ≤ n ∧ L'.a = x ∧ Keeps [x] H H' L'.W ∧ Stood K A L' M H' p said log (8 + 8 * i) st ∧ StOk p st ∧ said ++ (runState p (n - i) st).1 = (runFn p f n ws).1 ∧ log ++ (runState p (n - i) st).2.1 = (runFn p f n ws).2.1 ∧ (runState p (n - i) st).2.2 = (runFn p f n ws).2.2 ∧
    σ[2]? = some (some (.int (n : Nat))) ∧ σ[4]? = some (some (.ref x)) ∧ σ[5]? = some (some (.int (i : Nat)))
  unfold gName tSeq
  dsimp only
  refine s_asg (σ := σ1) (i := 5) ev_c fun H1' e1' => ?_
  replace St1 := St1.mono e1'
  replace k0 := k0.then e1'
  clear R1 k1
  revert St1 k0
  generalize H1' = H1
  intro St1 k0
  dsimp only
  refine s_while Inv n ⟨0, L, _, [], [], by omega, Nat.zero_le _, hLa, k0, St1, ok1, rfl, rfl, rfl, ?_, ?_, ?_⟩ fun m σ H' ⟨i, L', st, said, log, hm, hi, hLa', kp, Sd, ok, t1, t2, t3, s2, s4, s5⟩ => ?_
  · show (σ1.set 5 _)[2]? = _
    rw [List.getElem?_set, if_neg (by decide)]
    exact hσ2 2 (by decide) _ hnv
  · show (σ1.set 5 _)[4]? = _
    rw [List.getElem?_set, if_neg (by decide)]
    show ((start N_run_of vs).set 4 (some (.ref x)))[4]? = _
    rw [List.getElem?_set, if_pos rfl, if_pos (by rw [lenσ]; decide)]
  · show (σ1.set 5 _)[5]? = _
    rw [List.getElem?_set, if_pos rfl, if_pos (by show 5 < ((start N_run_of vs).set 4 (some (.ref x))).length; rw [List.length_set, lenσ]; decide)]
    rfl
  · obtain ⟨pv', gv, o1, o2, o3⟩ := Sd.obj
    rw [hLa'] at o1
    have ev4 : Ev (tVar 4) σ H' (.ref x) := ev_var s4
    refine ⟨decide (i < n) && ((givenOf st).isNon && !isFailed st), eb_and (eb_test (K := K) (M := M) (ef_ltN (EvF.of (ev_var s5) (.int _)) (EvF.of (ev_var s2) (.int _)))) fun _ => eb_and (by rw [← o2]; exact eb_isV (ev_fld ev4 o1 T.d_Run.cl T.n_Run_given lkRg)) fun _ => eb_not (eb_B (K := K) (M := M) (EvF.of (ev_fld ev4 o1 T.d_Run.cl T.n_Run_failed lkRf) (.bl _))), fun hb H2 e2 => ⟨_, fun _ _ n => n, ?_⟩, fun hb H2 e2 => ?_⟩
    · -- a step
      rw [Bool.and_eq_true, decide_eq_true_eq] at hb
      obtain ⟨hlt, hgo⟩ := hb
      cases st with
      | gave v => cases hgo
      | failed => cases hgo
      | on t below =>
        have fo := ok t List.mem_cons_self
        refine ⟨_, s4, L', M, p, t, below, said, log, 8 + 8 * i, by rw [hLa']; rfl, RAt.mono e2 Sd, fo, ru, by omega, by omega, fun L2 H3 ha hd2 k3 St3 => ?_⟩
        refine ⟨.int (i : Nat), s5, _, _, rfl, rfl, n - (i + 1), by omega, i + 1, L2, _, _, _, rfl, by omega, by rw [ha, hLa'], (kp.then e2).trans k3, St3, step_ok ru ok, ?_, ?_, ?_, ?_, ?_, ?_⟩
        · have e5 : n - i = (n - (i + 1)) + 1 := by omega
          rw [e5, run_go] at t1
          rw [← t1, List.append_assoc]
        · have e5 : n - i = (n - (i + 1)) + 1 := by omega
          rw [e5, run_go] at t2
          rw [← t2, List.append_assoc]
        · have e5 : n - i = (n - (i + 1)) + 1 := by omega
          rw [e5, run_go] at t3
          exact t3
        · rw [List.getElem?_set, if_neg (by decide)]; exact s2
        · rw [List.getElem?_set, if_neg (by decide)]; exact s4
        · have l5 := (List.getElem?_eq_some_iff.1 s5).1
          rw [List.getElem?_set, if_pos rfl, if_pos l5]
          rfl
    · -- it has stopped
      have hst : runState p (n - i) st = ([], [], st) := run_stop (by
        rw [Bool.and_eq_false_iff, decide_eq_false_iff_not] at hb
        rcases hb with hb | hb
        · exact .inl (by omega)
        · exact .inr hb)
      rw [hst] at t1 t2 t3
      have t1' : said = (runFn p f n ws).1 := by rw [← t1]; exact (List.append_nil _).symm
      have t2' : log = (runFn p f n ws).2.1 := by rw [← t2]; exact (List.append_nil _).symm
      have t3' : st = (runFn p f n ws).2.2 := t3
      refine ⟨.ref x, s4, q _ _ ((hEx kp).trans e2) ?_⟩
      have r := (Sd.mono e2).datum
      rw [hLa', t1', t2', t3'] at r
      exact r
/-! what a run tells -/
theorem ef_said {ta : TE} {σ : L2.St} {M : List Addr} {H : Hp} {p : Prog} {r : List Nat × List Site × State} (T : Top K mg A) (h : EvF K ta σ M H (encRun A p r)) : EvF K (tFld K ta "said") σ M H (.lst (r.1.map nat)) := ef_fld h T.d_Run.cl T.n_Run_said ((lk_past (by decide +kernel)).trans ((lk_past (by decide +kernel)).trans lk_here))
theorem ef_made {ta : TE} {σ : L2.St} {M : List Addr} {H : Hp} {p : Prog} {r : List Nat × List Site × State} (T : Top K mg A) (h : EvF K ta σ M H (encRun A p r)) : EvF K (tFld K ta "made") σ M H (.dT (encTally (tally r.2.1))) := ef_fld h T.d_Run.cl T.n_Run_made ((lk_past (by decide +kernel)).trans ((lk_past (by decide +kernel)).trans ((lk_past (by decide +kernel)).trans lk_here)))
theorem ef_failed {ta : TE} {σ : L2.St} {M : List Addr} {H : Hp} {p : Prog} {r : List Nat × List Site × State} (T : Top K mg A) (h : EvF K ta σ M H (encRun A p r)) : EvF K (tFld K ta "failed") σ M H (.bl (isFailed r.2.2)) := ef_fld h T.d_Run.cl T.n_Run_failed ((lk_past (by decide +kernel)).trans ((lk_past (by decide +kernel)).trans ((lk_past (by decide +kernel)).trans ((lk_past (by decide +kernel)).trans lk_here))))
theorem ef_given {ta : TE} {σ : L2.St} {M : List Addr} {H : Hp} {p : Prog} {r : List Nat × List Site × State} (T : Top K mg A) (h : EvF K ta σ M H (encRun A p r)) : EvF K (tFld K ta "given") σ M H (givenOf r.2.2) := ef_fld h T.d_Run.cl T.n_Run_given ((lk_past (by decide +kernel)).trans ((lk_past (by decide +kernel)).trans ((lk_past (by decide +kernel)).trans ((lk_past (by decide +kernel)).trans ((lk_past (by decide +kernel)).trans lk_here)))))
abbrev R_how_it_stands (A : Adr) : List Dv → Dv → Prop := fun ds d => ∃ p r, ds = [encRun A p r] ∧ d = .lst (nats (stateNums r.2.2))
theorem ok_how_it_stands (T : Top K mg A) : DefOk P w K mg base 1 A.f_how_it_stands "how_it_stands" ["run"] (spR K (R_how_it_stands A)) := by
  refine dv_how_it_stands T (spR_len (fun ds d ⟨p, r, hd, _⟩ => by rw [hd]; rfl)) (fun vs H Q E ⟨M, ds, d, hM, rs, ⟨p, ⟨sd, lg, st⟩, hd, he⟩, q⟩ => ?_)
  subst hd he
  have S : At K H M H (start N_how_it_stands vs) [.dat (encRun A p (sd, lg, st))] := At.start hM rs
  have hg := ef_given T (ef_var S (i := 0) rfl)
  cases st with
  | gave v =>
    refine sf_if S (eb_test (ef_notN hg)) (fun _ H1 e1 S1 => ?_) (fun hb => by cases hb)
    exact sf_ret S1 (ef_lst S1.heat (es_cons ef_int (es_cons (hg.mono e1) es_nil)) (leb rfl)) q
  | failed =>
    refine sf_if S (eb_test (ef_notN hg)) (fun hb => by cases hb) (fun _ H1 e1 S1 => ?_)
    refine sf_if S1 (eb_B (ef_failed T (ef_var S1 (i := 0) rfl))) (fun _ H2 e2 S2 => ?_) (fun hb => by cases hb)
    exact sf_ret S2 (ef_lst S2.heat (es_cons ef_int es_nil) (leb rfl)) q
  | on t below =>
    refine sf_if S (eb_test (ef_notN hg)) (fun hb => by cases hb) (fun _ H1 e1 S1 => ?_)
    refine sf_if S1 (eb_B (ef_failed T (ef_var S1 (i := 0) rfl))) (fun hb => by cases hb) (fun _ H2 e2 S2 => ?_)
    exact sf_ret S2 (ef_lst S2.heat (es_cons ef_int es_nil) (leb rfl)) q
abbrev R_times_made (A : Adr) : List Dv → Dv → Prop := fun ds d => ∃ p r s, ds = [encRun A p r, encSite s] ∧ d = nat ((r.2.1.filter fun y => y == s).length)
theorem ok_times_made (T : Top K mg A) : DefOk P w K mg base 1 A.f_times_made "times_made" ["run", "place"] (spR K (R_times_made A)) := by
  refine dv_times_made T (spR_len (fun ds d ⟨p, r, s, hd, _⟩ => by rw [hd]; rfl)) (fun vs H Q E ⟨M, ds, d, hM, rs, ⟨p, r, s, hd, he⟩, q⟩ => ?_)
  subst hd he
  have S : At K H M H (start N_times_made vs) [.dat (encRun A p r), .dat (encSite s)] := At.start hM rs
  have hk : EvF K (tVar 1) (start N_times_made vs) M H (.tup (([(s.f : Int), (s.b : Int), (s.r : Int)] : List Int).map Dv.int)) := ef_var S rfl
  refine sf_ret S (ef_dget2T (ef_made T (ef_var S (i := 0) rfl)) hk ef_int ⟨_, ?_, rfl⟩) fun v H' e r => q v H' e r
  have := valV_tally (tally r.2.1) s
  rw [cnt_tally] at this
  exact this
abbrev R_calls_made (A : Adr) : List Dv → Dv → Prop := fun ds d => ∃ p r, ds = [encRun A p r] ∧ d = nat r.2.1.length
theorem ok_calls_made (T : Top K mg A) : DefOk P w K mg base 1 A.f_calls_made "calls_made" ["run"] (spR K (R_calls_made A)) := by
  refine dv_calls_made T (spR_len (fun ds d ⟨p, r, hd, _⟩ => by rw [hd]; rfl)) (fun vs H Q E ⟨M, ds, d, hM, rs, ⟨p, r, hd, he⟩, q⟩ => ?_)
  subst hd he
  have S : At K H M H (start N_calls_made vs) [.dat (encRun A p r)] := At.start hM rs
  refine sf_ret S (ef_sumVals (is := (tally r.2.1).map fun e => ((e.2 : Nat) : Int)) (ef_made T (ef_var S (i := 0) rfl)) ?_) fun v H' e rv => q v H' e ?_
  · unfold encTally
    rw [List.map_map]; rw [List.map_map]
    rfl
  · have e2 : ((tally r.2.1).map fun e => ((e.2 : Nat) : Int)).sum = ((r.2.1.length : Nat) : Int) := by
      rw [← sum_tally]
      generalize tally r.2.1 = l
      induction l with
      | nil => rfl
      | cons a b ih => rw [List.map_cons, List.sum_cons, List.map_cons, List.sum_cons, Int.natCast_add, ih]
    rw [e2] at rv
    exact rv
end
end Pc

namespace Pc
open PySem PySem.Spec PyProof.Rows L2 Evl
open CmBase Cm09
/-! ### which calls are put in -/
def encPl (c : List Site) : Dv := .lst (c.map encSite)
def encCh (A : Adr) (y : List Site × Nat × Nat) : Dv := .obj A.C_Choice [("places", encPl y.1), ("spared", nat y.2.1), ("size", nat y.2.2)]
section
variable {P : Program} {w : World} {K : PySem.W.Frag} {mg : Str → Option Value} {base : Heap} {A : Adr}
def sp_Choice (A : Adr) : Sp := fun vs H Q _ => ∃ (p dx : Addr) (a b c : V), vs = [.ref p, a, b, c] ∧ H p = some (.ins A.C_Choice dx []) ∧ ∀ H', (∀ y o, y ≠ p → H y = some o → H' y = some o) → H' p = some (.ins A.C_Choice dx [("places", a), ("spared", b), ("size", c)]) → Q .non H'
theorem ok_Choice (T : Top K mg A) : MakeOk P w K mg base 1 A.C_Choice A.f_Choice "Choice" ["self", "places", "spared", "size"] (sp_Choice A) := by
  refine dv_Choice T (fun vs H Q E ⟨p, dx, a, b, c, hv, _⟩ => by rw [hv]; rfl) (fun vs H Q E ⟨p, dx, a, b, c, hv, hp, q⟩ => ?_)
  subst hv
  refine ⟨a, rfl, .ref p, rfl, p, _, dx, _, rfl, hp, T.d_Choice.cl, T.n_Choice_places, (by show 0 < 1000; decide), ?_⟩
  refine ⟨b, rfl, .ref p, rfl, p, _, dx, _, rfl, upd_same, T.d_Choice.cl, T.n_Choice_spared, (by show 1 < 1000; decide), ?_⟩
  refine ⟨c, rfl, .ref p, rfl, p, _, dx, _, rfl, upd_same, T.d_Choice.cl, T.n_Choice_size, (by show 2 < 1000; decide), ?_⟩
  refine q _ (fun y o hy h => ?_) ?_
  · rw [upd_ne hy, upd_ne hy, upd_ne hy]
    exact h
  · rw [upd_same]
    have e1 : putF "places" a [] = ([("places", a)] : List (Str × V)) := rfl
    have e2 : putF "spared" b ([("places", a)] : List (Str × V)) = ([("places", a), ("spared", b)] : List (Str × V)) := put_past (by decide +kernel)
    have e3 : putF "size" c ([("places", a), ("spared", b)] : List (Str × V)) = ([("places", a), ("spared", b), ("size", c)] : List (Str × V)) := (put_past (by decide +kernel)).trans (congrArg _ (put_past (by decide +kernel)))
    rw [e1, e2, e3]
section
variable {ta tb tc : TE} {σ : L2.St} {M : List Addr} {H : Hp} {y z : List Site × Nat × Nat}
theorem ef_Choice (hM : Hot M H) (ha : EvF K ta σ M H (encPl y.1)) (hb : EvF K tb σ M H (nat y.2.1)) (hc : EvF K tc σ M H (nat y.2.2)) : EvF K (tMake A.C_Choice (sp_Choice A) [] E0 (tCons ta (tCons tb (tCons tc tNil)))) σ M H (encCh A y) := fun H1 e Q q =>
  ha H1 e _ fun a H2 e2 ra => hb.int (e.trans e2) fun H3 e3 => hc.int ((e.trans e2).trans e3) fun H4 e4 x dx nx nd ne => ⟨x, dx, a, _, _, rfl, upd_same, fun H' kp hx => ⟨rfl, by
    have e5 : Ex H4 H' := madeObj nx nd kp
    have e14 := ((e.trans e2).trans e3).trans e4
    refine q _ H' (((e2.trans e3).trans e4).trans e5) (.obj (cold_of ((hM.mono e14).fresh nx) hx) (.cons (ra.mono (cold_mono ((e3.trans e4).trans e5))) (.cons (.int _) (.cons (.int _) .nil))))⟩⟩
theorem ef_places (T : Top K mg A) (h : EvF K ta σ M H (encCh A y)) : EvF K (tFld K ta "places") σ M H (encPl y.1) := ef_fld h T.d_Choice.cl T.n_Choice_places lk_here
theorem ef_spared (T : Top K mg A) (h : EvF K ta σ M H (encCh A y)) : EvF K (tFld K ta "spared") σ M H (nat y.2.1) := ef_fld h T.d_Choice.cl T.n_Choice_spared ((lk_past (by decide +kernel)).trans lk_here)
theorem ef_size (T : Top K mg A) (h : EvF K ta σ M H (encCh A y)) : EvF K (tFld K ta "size") σ M H (nat y.2.2) := ef_fld h T.d_Choice.cl T.n_Choice_size ((lk_past (by decide +kernel)).trans ((lk_past (by decide +kernel)).trans lk_here))
end
abbrev R_may_be_put_in (A : Adr) : List Dv → Dv → Prop := fun ds d => ∃ s, ds = [encSt A s] ∧ Small s ∧ d = .lst ((mayPut s.prog).map encSite)
theorem ok_may_be_put_in (T : Top K mg A) : DefOk P w K mg base 3 A.f_may_be_put_in "may_be_put_in" ["program"] (spR K (R_may_be_put_in A)) := by
  refine dv_may_be_put_in T (ok_all_calls T) (ok_row_at T) (spR_len (fun ds d ⟨s, hd, _⟩ => by rw [hd]; rfl)) (fun vs H Q E ⟨M, ds, d, hM, rs, ⟨s, hd, sm, he⟩, q⟩ => ?_)
  subst hd he
  have S : At K H M H (start N_may_be_put_in vs) [.dat (encSt A s), .any] := At.start hM rs
  refine sf_ret S (ef_lcL (enc := encSite) (fun x => decide (calleeAt s.prog x < x.f)) encSite S (ef_callR S.heat (es_cons (ef_var S rfl) es_nil) ⟨s, rfl, sm, rfl⟩) (by have := sm.sites_le; omega) (fun x M' H' σ' hm S' => ?_) fun x M' H' σ' _ S' _ => ef_var S' rfl) fun v H' e r => q v H' e r
  obtain ⟨y, g, as, hr⟩ := mem_sites.mp hm
  rw [callee_is hr]
  have hx : EvF K (tVar 1) σ' M' H' (.tup [nat x.f, nat x.b, nat x.r]) := ef_var S' rfl
  exact eb_test (ef_ltN (ef_t (i := 2) (ef_callR (d := .tup [.int 4, nat y, nat g, .tup (nats as)]) S'.heat (es_cons (ef_var S' rfl) (es_cons (ef_var S' rfl) es_nil)) ⟨s, x, _, rfl, site_fn hr, hr, rfl⟩) rfl) (ef_t (i := 0) hx rfl))
abbrev R_all_choices : List Dv → Dv → Prop := fun ds d => ∃ l : List Site, ds = [.lst (l.map encSite)] ∧ l.length ≤ 8 ∧ d = .lst ((choices l).map encPl)
theorem ok_all_choices (T : Top K mg A) : DefOk P w K mg base 1 A.f_all_choices "all_choices" ["places"] (spR K R_all_choices) := by
  refine dv_all_choices T (spR_len (fun ds d ⟨l, hd, _⟩ => by rw [hd]; rfl)) (fun vs H Q E ⟨M, ds, d, hM, rs, ⟨l, hd, hl, he⟩, q⟩ => ?_)
  subst hd he
  have S : At K H M H (start N_all_choices vs) [.dat (.lst (l.map encSite)), .any, .any, .any, .any] := At.start hM rs
  have step : ∀ i, (l.take i).foldl (fun (acc : List (List Site)) s => acc.flatMap fun c => [c ++ [s], c]) [[]] = choices (l.take i) := fun i => pyChoices_eq (l.take i)
  refine sf_asg S (ef_lst S.heat (es_cons (ef_lst S.heat es_nil (leb rfl)) es_nil) (leb rfl)) fun σ1 H1 e1 S1 => ?_
  refine sf_forL S1 (ef_var S1 (i := 0) rfl) (fun i ρ => ∃ x2 x3 x4, ρ = [.dat (.lst (l.map encSite)), .dat (.lst ((choices (l.take i)).map encPl)), x2, x3, x4]) ⟨⟨_, _, _, rfl⟩, fun B' i d σ2 H2 ρ2 eB hd ⟨x2, x3, x4, hρ⟩ S2 => ?_, fun σ2 H2 ρ2 ⟨x2, x3, x4, hρ⟩ S2 => ?_⟩
  · subst hρ
    obtain ⟨t, ht, rfl⟩ := map_get hd
    have hi := (List.getElem?_eq_some_iff.1 ht).1
    have hcl : (choices (l.take i)).length ≤ 256 := by
      rw [choices_len, List.length_take]
      exact Nat.le_trans (Nat.pow_le_pow_right (by decide) (show min i l.length ≤ 8 by omega)) (by decide)
    have hsl : ∀ c ∈ choices (l.take i), c.length ≤ 8 := fun c hc => Nat.le_trans (choices_sub hc).length_le (by rw [List.length_take]; omega)
    generalize hcs : choices (l.take i) = cs at S2 hcl hsl
    refine sf_new S2 es_nil (leb rfl) (ltb rfl) fun p σ3 H3 hp3 hpM e3 S3 => ?_
    refine sf_forL S3 (ef_var S3 (i := 1) rfl) (fun j ρ => ∃ x4, ρ = [.dat (.lst (l.map encSite)), .dat (.lst (cs.map encPl)), .dat (encSite t), .hot p (((cs.take j).flatMap fun c => [c ++ [t], c]).map encPl), x4]) ⟨⟨_, rfl⟩, fun B4 j d σ4 H4 ρ4 eB4 hd4 ⟨y4, hρ4⟩ S4 => ?_, fun σ4 H4 ρ4 ⟨y4, hρ4⟩ S4 => ?_⟩
    · subst hρ4
      obtain ⟨c, hc, rfl⟩ := map_get hd4
      have hcm := hsl c (mem_of_get hc)
      have hlen : ((cs.take j).flatMap fun c => [c ++ [t], c]).length ≤ 512 := by
        have := flat_le (cs.take j) (fun c => [c ++ [t], c]) 2 fun _ _ => Nat.le_refl _
        rw [List.length_take] at this
        omega
      have hC : EvF K (tVar 4) σ4 (p :: M) H4 (.lst (c.map encSite)) := ef_var S4 rfl
      refine sf_app S4 (j := 3) rfl (by rw [List.length_map]; omega) (d := encPl (c ++ [t])) ((ef_cat S4.heat hC (ef_lst S4.heat (es_cons (ef_var S4 (i := 2) rfl) es_nil) (leb rfl)) (by rw [List.length_map]; show _ + 1 ≤ _; omega)).cast (by unfold encPl; rw [List.map_append]; rfl)) fun H5 S5 => ?_
      refine sf_app S5 (j := 3) rfl (by rw [List.length_append, List.length_map]; show _ + 1 < _; omega) (d := encPl c) (ef_var S5 (i := 4) rfl) fun H6 S6 => ?_
      have e6 : ((cs.take (j + 1)).flatMap fun c => [c ++ [t], c]).map encPl = (((cs.take j).flatMap fun c => [c ++ [t], c]).map encPl ++ [encPl (c ++ [t])]) ++ [encPl c] := by
        rw [(take_snoc hc).1, List.flatMap_append, List.map_append, List.append_assoc]
        rfl
      rw [← e6] at S6
      exact ⟨_, ⟨_, rfl⟩, S6⟩
    · subst hρ4
      rw [List.length_map, List.take_length] at S4
      have S5 := S4.freeze hpM (i := 3) rfl
      refine sf_asg S5 (ef_var S5 (i := 3) rfl) fun σ6 H6 e6 S6 => ?_
      have e7 : (cs.flatMap fun c => [c ++ [t], c]) = choices (l.take (i + 1)) := by
        rw [← step (i + 1), (take_snoc ht).1, List.foldl_append, step i, hcs]
        rfl
      rw [e7] at S6
      exact ⟨_, ⟨_, _, _, rfl⟩, S6⟩
  · subst hρ
    rw [List.length_map, List.take_length] at S2
    exact sf_ret S2 (ef_var S2 (i := 1) rfl) fun v H' e r => q v H' e r
abbrev R_is_better (A : Adr) : List Dv → Dv → Prop := fun ds d => ∃ y z, ds = [encCh A y, encCh A z] ∧ d = .bl (decide (better y.2.1 y.2.2 z.2.1 z.2.2))
theorem ok_is_better (T : Top K mg A) : DefOk P w K mg base 1 A.f_is_better "is_better" ["one", "other"] (spR K (R_is_better A)) := by
  refine dv_is_better T (spR_len (fun ds d ⟨y, z, hd, _⟩ => by rw [hd]; rfl)) (fun vs H Q E ⟨M, ds, d, hM, rs, ⟨y, z, hd, he⟩, q⟩ => ?_)
  subst hd he
  have S : At K H M H (start N_is_better vs) [.dat (encCh A y), .dat (encCh A z)] := At.start hM rs
  refine sf_if S (eb_test (ef_neN (ef_spared T (ef_var S (i := 0) rfl)) (ef_spared T (ef_var S (i := 1) rfl)))) (fun hb H1 e1 S1 => ?_) (fun hb H1 e1 S1 => ?_)
  · have hne : ¬ y.2.1 = z.2.1 := by simpa using hb
    refine sf_ret S1 (ef_gtN (ef_spared T (ef_var S1 (i := 0) rfl)) (ef_spared T (ef_var S1 (i := 1) rfl))) fun v H' e r => q v H' e ?_
    have e2 : decide (better y.2.1 y.2.2 z.2.1 z.2.2) = decide (z.2.1 < y.2.1) := by
      refine decide_eq_decide.mpr ⟨fun h => ?_, fun h => .inl h⟩
      unfold better at h
      omega
    rw [e2]
    exact r
  · have heq : y.2.1 = z.2.1 := by simpa using hb
    refine sf_ret S1 (ef_ltN (ef_size T (ef_var S1 (i := 0) rfl)) (ef_size T (ef_var S1 (i := 1) rfl))) fun v H' e r => q v H' e ?_
    have e2 : decide (better y.2.1 y.2.2 z.2.1 z.2.2) = decide (y.2.2 < z.2.2) := by
      refine decide_eq_decide.mpr ⟨fun h => ?_, fun h => .inr ⟨heq, h⟩⟩
      unfold better at h
      omega
    rw [e2]
    exact r
end
end Pc

namespace Pc
open PySem PySem.Spec PyProof.Rows L2 Evl
open CmBase Cm09
/-! ### the choice for a size and a run -/
theorem made_next (p : Prog) (c : List Site) (i : Nat) : made p c (i + 1) = made p c i ++ [fnAt (made p c (i + 1)) i] := by
  have e := made_at (p := p) (c := c) (Nat.lt_succ_self i)
  rw [e]
  rfl
theorem inFn_snoc (c : List Site) (t : Site) (i : Nat) : inFn (c ++ [t]) i = if t.f = i then inFn c i ++ [t] else inFn c i := by
  unfold inFn
  rw [List.filter_append]
  by_cases h : t.f = i
  · rw [if_pos h, List.filter_cons, if_pos (by rw [h]; exact beq_self_eq_true i)]
    rfl
  · rw [if_neg h, List.filter_cons, if_neg (fun z => h (beq_iff_eq.mp z))]
    exact List.append_nil _
theorem ints_sum (l : List Nat) : (l.map fun n => ((n : Nat) : Int)).sum = ((l.sum : Nat) : Int) := by
  induction l with
  | nil => rfl
  | cons a r ih => rw [List.map_cons, List.sum_cons, List.sum_cons, Int.natCast_add, ih]
section
variable {P : Program} {w : World} {K : PySem.W.Frag} {mg : Str → Option Value} {base : Heap} {A : Adr}
theorem sf_augLast {B : Hp} {M : List Addr} {H : Hp} {σ : L2.St} {ρ : List Sv} {D : Ends} {ti te : TE} {j i : Nat} {p : Addr} {L : List Nat} {x n : Nat} (S : At K B M H σ ρ) (hj : ρ[j]? = some (.hot p (nats (L ++ [x])))) (hL : L.length = i) (hi : EvF K ti σ M H (nat i)) (h : EvF K te σ M H (nat n))
    (k : ∀ H', At K B M H' σ (ρ.set j (.hot p (nats (L ++ [x + n])))) → D.nx σ H') : tAugS (tVar j) ti te (rIxL K) (ipI fun i j => i + j) rSetL D σ H := by
  have hg : (L ++ [x])[i]? = some x := by rw [← hL]; simp
  refine sf_augS (m := ((i : Nat) : Int)) (x := ((x : Nat) : Int)) (n := ((n : Nat) : Int)) (k0 := i) S hj hi (ix_get (f := nat) hg) (ixN_nat (by unfold nats; rw [List.length_map, List.length_append, hL]; exact Nat.lt_succ_self i)) h fun H' S' => k H' ?_
  have e : (nats (L ++ [x])).set i (.int (((x : Nat) : Int) + ((n : Nat) : Int))) = nats (L ++ [x + n]) := by
    unfold nats
    rw [List.map_append, List.map_append, List.set_append_right _ _ (by rw [List.length_map]; omega), List.length_map, hL, Nat.sub_self]
    rfl
  rw [e] at S'
  exact S'
abbrev R_size_with (A : Adr) : List Dv → Dv → Prop := fun ds d => ∃ s c, ds = [encSt A s, .lst (nats (s.prog.map sizeFn)), .lst (nats (s.prog.map nm)), encPl c] ∧ Small s ∧ isWhole s.prog = true ∧ Choice s.prog c ∧ d = nat (size (putAll s.prog c))
theorem ok_size_with (T : Top K mg A) : DefOk P w K mg base 2 A.f_size_with "size_with" ["program", "own_sizes", "own_names", "places"] (spR K (R_size_with A)) := by
  refine dv_size_with T (ok_row_at T) (spR_len (fun ds d ⟨s, c, hd, _⟩ => by rw [hd]; rfl)) (fun vs H Q E ⟨M, ds, d, hM, rs, ⟨s, c, hd, sm, hw, hc, he⟩, q⟩ => ?_)
  subst hd he
  have S : At K H M H (start N_size_with vs) [.dat (encSt A s), .dat (.lst (nats (s.prog.map sizeFn))), .dat (.lst (nats (s.prog.map nm))), .dat (encPl c), .any, .any, .any, .any, .any] := At.start hM rs
  have h5 := sm.fns
  have hW := (whole_of hw).2
  refine sf_new S es_nil (leb rfl) (ltb rfl) fun p1 σ1 H1 hp1 hm1 e1 S1 => ?_
  refine sf_new S1 es_nil (leb rfl) (ltb rfl) fun p2 σ2 H2 hp2 hm2 e2 S2 => ?_
  have hlen : (s.prog.map sizeFn).length = s.prog.length := List.length_map _
  refine sf_forN S2 (n := s.prog.length) (es_cons ((ef_lenM (f := nat) (l := s.prog.map sizeFn) (ef_var S2 (i := 1) rfl)).cast (by rw [hlen])) es_nil) (by omega)
    (fun i ρ => ∃ y6 y7 y8, ρ = [.dat (encSt A s), .dat (.lst (nats (s.prog.map sizeFn))), .dat (.lst (nats (s.prog.map nm))), .dat (encPl c), .hot p1 (nats ((made s.prog c i).map sizeFn)), .hot p2 (nats ((made s.prog c i).map nm)), y6, y7, y8])
    ⟨⟨_, _, _, rfl⟩, fun B' i d σ3 H3 ρ3 eB hd ⟨y6, y7, y8, hρ⟩ S3 => ?_, fun σ3 H3 ρ3 ⟨y6, y7, y8, hρ⟩ S3 => ?_⟩
  · subst hρ
    obtain ⟨hi, rfl⟩ := upto_of hd
    have hml : (made s.prog c i).length = i := made_len _ _ _
    refine sf_app S3 (j := 4) rfl (by unfold nats; rw [List.length_map, List.length_map, hml]; omega) (d := nat (sizeFn (fnAt s.prog i))) (ef_at (f := nat) (l := s.prog.map sizeFn) (ef_var S3 (i := 1) rfl) (ef_var S3 (i := 6) rfl) (get_map (fnAt_get hi))) fun H4 S4 => ?_
    refine sf_app S4 (j := 5) rfl (by unfold nats; rw [List.length_map, List.length_map, hml]; omega) (d := nat (nm (fnAt s.prog i))) (ef_at (f := nat) (l := s.prog.map nm) (ef_var S4 (i := 2) rfl) (ef_var S4 (i := 6) rfl) (get_map (fnAt_get hi))) fun H5 S5 => ?_
    have en : ∀ (L : List Nat) (x : Nat), nats L ++ [nat x] = nats (L ++ [x]) := fun L x => by unfold nats; rw [List.map_append]; rfl
    rw [en, en] at S5
    refine sf_forL S5 (ef_var S5 (i := 3) rfl)
      (fun j ρ => ∃ y7 y8, ρ = [.dat (encSt A s), .dat (.lst (nats (s.prog.map sizeFn))), .dat (.lst (nats (s.prog.map nm))), .dat (encPl c), .hot p1 (nats ((made s.prog c i).map sizeFn ++ [sizeFn (fnAt s.prog i) + ((inFn (c.take j) i).map fun t => sizeFn (fnAt (made s.prog c i) (calleeAt s.prog t)) + nm (fnAt (made s.prog c i) (calleeAt s.prog t)) + 1).sum])), .hot p2 (nats ((made s.prog c i).map nm ++ [nm (fnAt s.prog i) + ((inFn (c.take j) i).map fun t => nm (fnAt (made s.prog c i) (calleeAt s.prog t))).sum])), .dat (nat i), y7, y8])
      ⟨⟨_, _, rfl⟩, fun B6 j d σ6 H6 ρ6 eB6 hd6 ⟨z7, z8, hρ6⟩ S6 => ?_, fun σ6 H6 ρ6 ⟨z7, z8, hρ6⟩ S6 => ?_⟩
    · subst hρ6
      obtain ⟨t, ht, rfl⟩ := map_get hd6
      have htc := mem_of_get ht
      have e1 := (take_snoc ht).1
      have hpl : EvF K (tVar 7) σ6 (p2 :: p1 :: M) H6 (.tup [nat t.f, nat t.b, nat t.r]) := ef_var S6 rfl
      refine sf_if S6 (eb_test (ef_eqN (ef_t (i := 0) hpl rfl) (ef_var S6 (i := 6) rfl))) (fun hb H7 e7 S7 => ?_) (fun hb H7 e7 S7 => ?_)
      · have htf : t.f = i := of_decide_eq_true hb
        have ch := hc.ok t htc
        obtain ⟨x0, as, hat⟩ := ch.at'
        have hlt : calleeAt s.prog t < i := by rw [← htf]; exact ch.less
        generalize hg : calleeAt s.prog t = g at hat hlt
        refine sf_asg S7 (d := nat g) (ef_t (i := 2) (ef_callR (d := .tup [.int 4, nat x0, nat g, .tup (nats as)]) S7.heat (es_cons (ef_var S7 (i := 0) rfl) (es_cons (ef_var S7 (i := 7) rfl) es_nil)) ⟨s, t, _, rfl, by omega, hat, rfl⟩) rfl) fun σ8 H8 e8 S8 => ?_
        have gs : ∀ (F : Fn → Nat) (y : Nat), ((made s.prog c i).map F ++ [y])[g]? = some (F (fnAt (made s.prog c i) g)) := fun F y => by
          rw [List.getElem?_append_left (by rw [List.length_map, hml]; exact hlt)]
          exact get_map (fnAt_get (by rw [hml]; exact hlt))
        refine sf_augLast S8 (j := 4) rfl (by rw [List.length_map, hml]) (ef_var S8 (i := 6) rfl) (ef_addN (ef_addN (ef_ixH S8 (i := 4) rfl (ef_var S8 (i := 8) rfl) (ix_get (f := nat) (gs sizeFn _))) (ef_ixH S8 (i := 5) rfl (ef_var S8 (i := 8) rfl) (ix_get (f := nat) (gs nm _)))) (ef_int (n := 1))) fun H9 S9 => ?_
        refine sf_augLast S9 (j := 5) rfl (by rw [List.length_map, hml]) (ef_var S9 (i := 6) rfl) (ef_ixH S9 (i := 5) rfl (ef_var S9 (i := 8) rfl) (ix_get (f := nat) (gs nm _))) fun H10 S10 => ?_
        refine ⟨_, ⟨.dat (encSite t), .dat (nat g), ?_⟩, S10⟩
        rw [e1, inFn_snoc, if_pos htf, List.map_append, List.map_append, List.sum_append, List.sum_append, List.map_singleton, List.map_singleton, List.sum_singleton, List.sum_singleton, hg, Nat.add_assoc (sizeFn (fnAt s.prog i)), Nat.add_assoc (nm (fnAt s.prog i))]
        rfl
      · have htf : ¬ t.f = i := of_decide_eq_false hb
        refine ⟨_, ⟨.dat (encSite t), z8, ?_⟩, S7⟩
        rw [e1, inFn_snoc, if_neg htf]
        rfl
    · subst hρ6
      have hcl : (c.map encSite).length = c.length := List.length_map _
      rw [hcl, List.take_length] at S6
      have fo := made_folded hW (fun f hf => (sm.fn f hf).form) hc (i + 1) (by omega) i (Nat.lt_succ_self i)
      rw [← fo.size, ← fo.nm] at S6
      have en2 : ∀ F : Fn → Nat, (made s.prog c i).map F ++ [F (fnAt (made s.prog c (i + 1)) i)] = (made s.prog c (i + 1)).map F := fun F => by
        conv => rhs; rw [made_next, List.map_append]
        rfl
      rw [en2, en2] at S6
      exact ⟨_, ⟨_, _, _, rfl⟩, S6⟩
  · subst hρ
    have hu : (upto s.prog.length).length = s.prog.length := upto_len _
    rw [hu] at S3
    have S4 := (S3.freeze hm2 (i := 5) rfl).freeze hm1 (i := 4) rfl
    refine sf_ret S4 (ef_sum (l := ((made s.prog c s.prog.length).map sizeFn).map fun n => ((n : Nat) : Int)) ((ef_var S4 (i := 4) rfl).cast (by rw [nats_nums]))) fun v H' e r => q v H' e ?_
    rw [ints_sum] at r
    rw [size_sum, putAll_made]
    exact r
abbrev R_choice_for (A : Adr) : List Dv → Dv → Prop := fun ds d => ∃ s most p r, ds = [encSt A s, nat most, encRun A p r] ∧ Small s ∧ isWhole s.prog = true ∧ d = encCh A (pyBest s.prog most r.2.1 (choices (mayPut s.prog)) ([], 0, size s.prog))
theorem ok_choice_for (T : Top K mg A) : DefOk P w K mg base 4 A.f_choice_for "choice_for" ["program", "size", "run"] (spR K (R_choice_for A)) := by
  refine dv_choice_for T (ok_function_size T) (ok_names_of T) (ok_Choice T) (ok_all_choices T) (ok_may_be_put_in T) (ok_times_made T) (ok_size_with T) (ok_is_better T) (spR_len (fun ds d ⟨s, most, p, r, hd, _⟩ => by rw [hd]; rfl)) (fun vs H Q E ⟨M, ds, d, hM, rs, ⟨s, most, p, r, hd, sm, hw, he⟩, q⟩ => ?_)
  subst hd he
  have S : At K H M H (start N_choice_for vs) [.dat (encSt A s), .dat (nat most), .dat (encRun A p r), .any, .any, .any, .any, .any, .any, .any, .any] := At.start hM rs
  have h5 := sm.fns
  have hfit : ∀ f ∈ s.prog, Fits f := fun f hf => told_fits (sm.fn f hf)
  have hbl : ∀ f ∈ s.prog, f.blocks.length ≤ 100000 := fun f hf => by
    have h1 := (hfit f hf).size
    rw [sizeFn_sum] at h1
    have h2 : f.blocks.length ≤ (f.blocks.map bsize).sum := by
      generalize f.blocks = l
      induction l with
      | nil => exact Nat.le_refl _
      | cons a r ih =>
        rw [List.map_cons, List.sum_cons, List.length_cons]
        have : 1 ≤ bsize a := by unfold bsize; omega
        omega
    omega
  have er : ∀ (F : Fn → Nat), ((s.prog.filter fun _ => true).map fun f => nat (F f)) = nats (s.prog.map F) := fun F => by
    rw [filter_all]
    unfold nats
    rw [List.map_map]
    rfl
  have hmp : (mayPut s.prog).length ≤ 8 := Nat.le_trans (List.length_filter_le _ _) sm.sites_le
  refine sf_asg S (d := .lst (nats (s.prog.map sizeFn))) ((ef_lcL (enc := encFn A) (fun _ => true) (fun f => nat (sizeFn f)) S (ef_functions T (ef_var S (i := 0) rfl)) (by omega) (fun f M' H' σ' _ S' => eb_yes) fun f M' H' σ' hm S' _ => ef_callR S'.heat (es_cons (ef_var S' rfl) es_nil) ⟨f, rfl, hbl f hm, rfl⟩).cast (by rw [er])) fun σ1 H1 e1 S1 => ?_
  refine sf_asg S1 (d := .lst (nats (s.prog.map nm))) ((ef_lcL (enc := encFn A) (fun _ => true) (fun f => nat (nm f)) S1 (ef_functions T (ef_var S1 (i := 0) rfl)) (by omega) (fun f M' H' σ' _ S' => eb_yes) fun f M' H' σ' hm S' _ => ef_lenM (ef_callR S'.heat (es_cons (ef_var S' rfl) es_nil) ⟨f, rfl, hfit f hm, rfl⟩)).cast (by rw [er])) fun σ2 H2 e2 S2 => ?_
  refine sf_asg S2 (ef_Choice (y := ([], 0, size s.prog)) S2.heat (ef_lst S2.heat es_nil (leb rfl)) (ef_int (n := 0)) ((ef_sum (l := (s.prog.map sizeFn).map fun n => ((n : Nat) : Int)) ((ef_var S2 (i := 3) rfl).cast (by rw [nats_nums]))).cast (by rw [ints_sum, size_sum]; rfl))) fun σ3 H3 e3 S3 => ?_
  refine sf_forL S3 (ef_callR (d := .lst ((choices (mayPut s.prog)).map encPl)) S3.heat (es_cons (ef_callR S3.heat (es_cons (ef_var S3 (i := 0) rfl) es_nil) ⟨s, rfl, sm, rfl⟩) es_nil) ⟨mayPut s.prog, rfl, hmp, rfl⟩)
    (fun i ρ => ∃ y6 y7 y8 y9 y10, ρ = [.dat (encSt A s), .dat (nat most), .dat (encRun A p r), .dat (.lst (nats (s.prog.map sizeFn))), .dat (.lst (nats (s.prog.map nm))), .dat (encCh A (pyBest s.prog most r.2.1 ((choices (mayPut s.prog)).take i) ([], 0, size s.prog))), y6, y7, y8, y9, y10])
    ⟨⟨_, _, _, _, _, rfl⟩, fun B' i d σ4 H4 ρ4 eB hd ⟨y6, y7, y8, y9, y10, hρ⟩ S4 => ?_, fun σ4 H4 ρ4 ⟨y6, y7, y8, y9, y10, hρ⟩ S4 => ?_⟩
  · subst hρ
    obtain ⟨c, hcg, rfl⟩ := map_get hd
    have hcm := mem_of_get hcg
    have hsub := choices_sub hcm
    have hc : Choice s.prog c := .of_sub hsub
    have hcl : c.length ≤ 8 := Nat.le_trans hsub.length_le hmp
    have e1 := (take_snoc hcg).1
    generalize hb : pyBest s.prog most r.2.1 ((choices (mayPut s.prog)).take i) ([], 0, size s.prog) = best at S4
    have hnext : pyBest s.prog most r.2.1 ((choices (mayPut s.prog)).take (i + 1)) ([], 0, size s.prog) = if size (putAll s.prog c) ≤ most ∧ better (gain r.2.1 c) (size (putAll s.prog c)) best.2.1 best.2.2 then (c, gain r.2.1 c, size (putAll s.prog c)) else best := by
      rw [e1, pyBest_app, hb]
      rfl
    refine sf_asg S4 (d := nat (gain r.2.1 c)) ((ef_sumM (xs := c) (g := fun t => (r.2.1.filter fun y => y == t).length) (ef_lcL (enc := encSite) (fun _ => true) (fun t => nat (r.2.1.filter fun y => y == t).length) S4 (ef_var S4 (i := 6) rfl) (by omega) (fun f M' H' σ' _ S' => eb_yes) fun t M' H' σ' hm S' _ => ef_callR S'.heat (es_cons (ef_var S' (i := 2) rfl) (es_cons (ef_var S' (i := 10) rfl) es_nil)) ⟨p, r, t, rfl, rfl⟩)).cast (by rw [gain_sum _ _ (site_irrefl hc)])) fun σ5 H5 e5 S5 => ?_
    refine sf_asg S5 (ef_Choice (y := (c, gain r.2.1 c, size (putAll s.prog c))) S5.heat (ef_var S5 (i := 6) rfl) (ef_var S5 (i := 7) rfl) (ef_callR S5.heat (es_cons (ef_var S5 (i := 0) rfl) (es_cons (ef_var S5 (i := 3) rfl) (es_cons (ef_var S5 (i := 4) rfl) (es_cons (ef_var S5 (i := 6) rfl) es_nil)))) ⟨s, c, rfl, sm, hw, hc, rfl⟩)) fun σ6 H6 e6 S6 => ?_
    refine sf_if S6 (eb_and (eb_test (ef_leN (ef_size T (ef_var S6 (i := 8) rfl)) (ef_var S6 (i := 1) rfl))) fun _ => eb_B (ef_callR S6.heat (es_cons (ef_var S6 (i := 8) rfl) (es_cons (ef_var S6 (i := 5) rfl) es_nil)) ⟨_, best, rfl, rfl⟩)) (fun hb7 H7 e7 S7 => ?_) (fun hb7 H7 e7 S7 => ?_)
    · have hif : size (putAll s.prog c) ≤ most ∧ better (gain r.2.1 c) (size (putAll s.prog c)) best.2.1 best.2.2 := by
        rw [Bool.and_eq_true] at hb7
        exact ⟨of_decide_eq_true hb7.1, of_decide_eq_true hb7.2⟩
      refine sf_asg S7 (ef_var S7 (i := 8) rfl) fun σ8 H8 e8 S8 => ?_
      rw [if_pos hif] at hnext
      rw [← hnext] at S8
      exact ⟨_, ⟨_, _, _, _, _, rfl⟩, S8⟩
    · have hif : ¬ (size (putAll s.prog c) ≤ most ∧ better (gain r.2.1 c) (size (putAll s.prog c)) best.2.1 best.2.2) := fun z => by
        rw [decide_eq_true z.1, decide_eq_true z.2] at hb7
        cases hb7
      rw [if_neg hif] at hnext
      refine sf_next ?_
      dsimp only
      rw [← hnext] at S7
      exact ⟨_, ⟨_, _, _, _, _, rfl⟩, S7⟩
  · subst hρ
    rw [List.length_map, List.take_length] at S4
    exact sf_ret S4 (ef_var S4 (i := 5) rfl) fun v H' e r => q v H' e r
end
end Pc

namespace Pc
open PySem PySem.Spec PyProof.Rows L2 Evl
open CmBase Cm09
/-! ### what is asked -/
theorem nums_ints (l : List Nat) : nums (Cm09.ints l) = nats l := (nats_nums l).symm
theorem step1_said (p : Prog) (t : Cm09.Frame) (below : List Cm09.Frame) : (step1 p t below).2.1.length ≤ 1 := by
  unfold step1
  simp only
  cases (blockAt (fnAt p t.f) t.b).rows[t.r]? with
  | some row =>
    cases row with
    | plain row =>
      cases row with
      | num x k => exact Nat.zero_le _
      | copy x a => exact Nat.zero_le _
      | two x o a c =>
        show (match o.make (look t.env a) (look t.env c) with | none => _ | some v => _ : State × List Nat × List Site).2.1.length ≤ 1
        cases o.make (look t.env a) (look t.env c) <;> exact Nat.zero_le _
      | say a => exact Nat.le_refl _
    | call x g as => exact Nat.zero_le _
  | none =>
    show (match (blockAt (fnAt p t.f) t.b).last with | .jump u as => _ | .fork v u as w bs => _ | .give v => _ : State × List Nat × List Site).2.1.length ≤ 1
    cases (blockAt (fnAt p t.f) t.b).last with
    | jump u as => exact Nat.zero_le _
    | fork v u as w bs => exact Nat.zero_le _
    | give v => cases below <;> exact Nat.zero_le _
theorem run_said (p : Prog) : ∀ (n : Nat) (st : State), (runState p n st).1.length ≤ n
  | 0, st => Nat.le_refl _
  | n + 1, .on t below => by
    rw [run_go]
    have h1 := step1_said p t below
    have h2 := run_said p n (step1 p t below).1
    rw [List.length_append]
    omega
  | n + 1, .gave v => Nat.zero_le _
  | n + 1, .failed => Nat.zero_le _
theorem notRun_or (s : Cm09.St) (f n : Nat) (l : List Nat) : notRun s f n l < 0 ∨ (notRun s f n l = 0 ∧ ready s = true ∧ f < s.prog.length ∧ n ≤ 1000 ∧ l.length = (fnAt s.prog f).args) := by
  unfold notRun
  by_cases h1 : ready s = false
  · rw [if_pos h1]; left; decide
  · rw [if_neg h1]
    by_cases h2 : s.prog.length ≤ f
    · rw [if_pos h2]; left; decide
    · rw [if_neg h2]
      by_cases h3 : 1000 < n
      · rw [if_pos h3]; left; decide
      · rw [if_neg h3]
        by_cases h4 : l.length ≠ (fnAt s.prog f).args
        · rw [if_pos h4]; left; decide
        · rw [if_neg h4]
          right
          refine ⟨rfl, ?_, by omega, by omega, Decidable.not_not.mp h4⟩
          cases e : ready s with
          | true => rfl
          | false => exact absurd e h1
theorem ready_of {s : Cm09.St} (h : ready s = true) : s = ⟨s.prog, none⟩ ∧ isWhole s.prog = true := by
  unfold ready at h
  rw [Bool.and_eq_true] at h
  refine ⟨?_, h.2⟩
  obtain ⟨p, o⟩ := s
  cases o with
  | none => rfl
  | some x => exact absurd h.1 (by simp)
theorem pyBest_in (p : Prog) (most : Nat) (log : List Site) : ∀ (cs : List (List Site)) (y : List Site × Nat × Nat), pyBest p most log cs y = y ∨ (pyBest p most log cs y).1 ∈ cs
  | [], y => .inl rfl
  | c :: l, y => by
    show pyBest p most log l _ = y ∨ (pyBest p most log l _).1 ∈ c :: l
    generalize hz : (if size (putAll p c) ≤ most ∧ better (gain log c) (size (putAll p c)) y.2.1 y.2.2 then (c, gain log c, size (putAll p c)) else y) = z
    rcases pyBest_in p most log l z with e | e
    · rw [e, ← hz]
      split
      · right; exact List.mem_cons_self
      · left; rfl
    · right; exact List.mem_cons_of_mem _ e
theorem best_choice (p : Prog) (most : Nat) (log : List Site) (z : Nat) : Choice p (pyBest p most log (choices (mayPut p)) ([], 0, z)).1 := by
  rcases pyBest_in p most log (choices (mayPut p)) ([], 0, z) with e | e
  · rw [e]
    exact .of_sub (List.nil_sublist _)
  · exact .of_sub (choices_sub e)
section
variable {P : Program} {w : World} {K : PySem.W.Frag} {mg : Str → Option Value} {base : Heap} {A : Adr}
abbrev R_tell_shows (A : Adr) : List Dv → Dv → Prop := fun ds d => ∃ s, ds = [encSt A s] ∧ Small s ∧ d = .lst (nums (Cm09.step s .shows).2)
theorem ok_tell_shows (T : Top K mg A) : DefOk P w K mg base 6 A.f_tell_shows "tell_shows" ["program"] (spR K (R_tell_shows A)) := by
  refine dv_tell_shows T (ok_program_in_numbers T) (ok_unended_in_numbers T) (spR_len (fun ds d ⟨s, hd, _⟩ => by rw [hd]; rfl)) (fun vs H Q E ⟨M, ds, d, hM, rs, ⟨s, hd, sm, he⟩, q⟩ => ?_)
  subst hd he
  have S : At K H M H (start N_tell_shows vs) [.dat (encSt A s), .any] := At.start hM rs
  have hft : ∀ f ∈ s.prog, Fits f := fun f hf => told_fits (sm.fn f hf)
  have hpl : (progNums s.prog).length ≤ 4000000 := by
    have h1 := fns_nums_le hft
    have h5 := sm.fns
    show (s.prog.length :: s.prog.flatMap Fn.nums).length ≤ _
    rw [List.length_cons]
    omega
  refine sf_asg S (ef_callR (d := .lst (nats (progNums s.prog))) S.heat (es_cons (ef_var S rfl) es_nil) ⟨s, rfl, sm.fns, hft, rfl⟩) fun σ1 H1 e1 S1 => ?_
  have hu : EvF K (tFld K (tVar 0) "unended") σ1 M H1 (encOpen A s.opened) := ef_unended T (ef_var S1 rfl)
  have hua : encOpen A s.opened ≠ .any := by
    cases s.opened with
    | none => intro z; cases z
    | some p => intro z; cases z
  refine sf_if S1 (eb_test (ef_isN hu hua)) (fun hb H2 e2 S2 => ?_) (fun hb H2 e2 S2 => ?_)
  · refine sf_ret S2 (ef_cat S2.heat (ef_var S2 (i := 1) rfl) (ef_lst S2.heat (es_cons (ef_int (n := 0)) es_nil) (leb rfl)) (by rw [nats_len]; show _ + 1 ≤ _; omega)) fun v H' e r => q v H' e ?_
    cases ho : s.opened with
    | some p => rw [ho] at hb; cases hb
    | none =>
      have z : (Cm09.step s .shows).2 = Cm09.ints (progNums s.prog ++ [0]) := by
        show Cm09.ints (progNums s.prog ++ match s.opened with | none => [0] | some (ts, l) => _) = _
        rw [ho]
      rw [z, nums_ints, nats_app]
      exact r
  · cases ho : s.opened with
    | none => rw [ho] at hb; cases hb
    | some p =>
      obtain ⟨ts, l⟩ := p
      have ot := sm.opened ts l ho
      have z : (Cm09.step s .shows).2 = Cm09.ints ((progNums s.prog ++ [1]) ++ openNums ts l) := by
        show Cm09.ints (progNums s.prog ++ match s.opened with | none => [0] | some (ts, l) => _) = _
        rw [ho, List.append_assoc]
        rfl
      have hol := openNums_le (ts := ts) ot.form
      have h1 := ot.takes
      have h2 := ot.many
      have hu2 : EvF K (tFld K (tVar 0) "unended") σ1 M H2 (encBlk A ts l .non) := (ef_unended T (ef_var S2 (i := 0) rfl)).cast (by rw [ho]; rfl)
      refine sf_next ?_
      dsimp only
      refine sf_ret S2 (ef_cat S2.heat (ef_cat S2.heat (ef_var S2 (i := 1) rfl) (ef_lst S2.heat (es_cons (ef_int (n := 1)) es_nil) (leb rfl)) (by rw [nats_len]; show _ + 1 ≤ _; omega)) (ef_callR (d := .lst (nats (openNums ts l))) S2.heat (es_cons hu2 es_nil) ⟨ts, l, .non, rfl, by omega, by omega, ot.form, rfl⟩) (by rw [List.length_append, nats_len, nats_len]; show _ + 1 + _ ≤ _; omega)) fun v H' e r => q v H' e ?_
      rw [z, nums_ints, nats_app, nats_app]
      exact r
abbrev R_run_refusal (A : Adr) : List Dv → Dv → Prop := fun ds d => ∃ s f n l, ds = [encSt A s, nat f, nat n, .lst (nats l)] ∧ Small s ∧ d = .int (notRun s f n l)
theorem ok_run_refusal (T : Top K mg A) : DefOk P w K mg base 5 A.f_run_refusal "run_refusal" ["program", "f", "n", "words"] (spR K (R_run_refusal A)) := by
  refine dv_run_refusal T (ok_is_sound T) (spR_len (fun ds d ⟨s, f, n, l, hd, _⟩ => by rw [hd]; rfl)) (fun vs H Q E ⟨M, ds, d, hM, rs, ⟨s, f, n, l, hd, sm, he⟩, q⟩ => ?_)
  subst hd he
  have S : At K H M H (start N_run_refusal vs) [.dat (encSt A s), .dat (nat f), .dat (nat n), .dat (.lst (nats l))] := At.start hM rs
  unfold notRun at q
  refine sf_if S (eb_not (eb_B (ef_callR S.heat (es_cons (ef_var S (i := 0) rfl) es_nil) ⟨s, rfl, sm, rfl⟩))) (fun hb H1 e1 S1 => ?_) (fun hb H1 e1 S1 => ?_)
  · rw [Bool.not_eq_true'] at hb
    rw [if_pos hb] at q
    exact sf_ret S1 (ef_neg ef_int) fun v H' e r => q v H' e r
  · have hb' : ¬ ready s = false := by
      intro z
      rw [z] at hb
      cases hb
    rw [if_neg hb'] at q
    refine sf_next ?_
    dsimp only
    refine sf_if S1 (eb_test (ef_geN (ef_var S1 (i := 1) rfl) (ef_lenM (ef_functions T (ef_var S1 (i := 0) rfl))))) (fun hb H2 e2 S2 => ?_) (fun hb H2 e2 S2 => ?_)
    · rw [if_pos (of_decide_eq_true hb)] at q
      exact sf_ret S2 (ef_neg ef_int) fun v H' e r => q v H' e r
    · have hf := of_decide_eq_false hb
      rw [if_neg hf] at q
      refine sf_next ?_
      dsimp only
      refine sf_if S2 (eb_test (ef_gtN (ef_var S2 (i := 2) rfl) (ef_n 1000))) (fun hb H3 e3 S3 => ?_) (fun hb H3 e3 S3 => ?_)
      · rw [if_pos (of_decide_eq_true hb)] at q
        exact sf_ret S3 (ef_neg ef_int) fun v H' e r => q v H' e r
      · rw [if_neg (of_decide_eq_false hb)] at q
        refine sf_next ?_
        dsimp only
        refine sf_if S3 (eb_test (ef_neN (ef_lenM (f := nat) (l := l) (ef_var S3 (i := 3) rfl)) (ef_handed T (ef_atF (ef_functions T (ef_var S3 (i := 0) rfl)) (ef_var S3 (i := 1) rfl) (fnAt_get (by omega)))))) (fun hb H4 e4 S4 => ?_) (fun hb H4 e4 S4 => ?_)
        · rw [if_pos (by simpa using hb)] at q
          exact sf_ret S4 (ef_neg ef_int) fun v H' e r => q v H' e r
        · rw [if_neg (by simpa using hb)] at q
          refine sf_next ?_
          dsimp only
          exact sf_ret S4 ef_int fun v H' e r => q v H' e r
def notChosen (s : Cm09.St) (most f n : Nat) (l : List Nat) : Int := if notRun s f n l < 0 then notRun s f n l else if most < size s.prog then -8 else 0
abbrev R_choice_refusal (A : Adr) : List Dv → Dv → Prop := fun ds d => ∃ s most f n l, ds = [encSt A s, nat most, nat f, nat n, .lst (nats l)] ∧ Small s ∧ d = .int (notChosen s most f n l)
theorem ok_choice_refusal (T : Top K mg A) : DefOk P w K mg base 6 A.f_choice_refusal "choice_refusal" ["program", "size", "f", "n", "words"] (spR K (R_choice_refusal A)) := by
  refine dv_choice_refusal T (ok_run_refusal T) (ok_program_size T) (spR_len (fun ds d ⟨s, most, f, n, l, hd, _⟩ => by rw [hd]; rfl)) (fun vs H Q E ⟨M, ds, d, hM, rs, ⟨s, most, f, n, l, hd, sm, he⟩, q⟩ => ?_)
  subst hd he
  have S : At K H M H (start N_choice_refusal vs) [.dat (encSt A s), .dat (nat most), .dat (nat f), .dat (nat n), .dat (.lst (nats l)), .any] := At.start hM rs
  unfold notChosen at q
  refine sf_asg S (ef_callR (d := .int (notRun s f n l)) S.heat (es_cons (ef_var S (i := 0) rfl) (es_cons (ef_var S (i := 2) rfl) (es_cons (ef_var S (i := 3) rfl) (es_cons (ef_var S (i := 4) rfl) es_nil)))) ⟨s, f, n, l, rfl, sm, rfl⟩) fun σ1 H1 e1 S1 => ?_
  refine sf_if S1 (eb_test (ef_ne (ef_var S1 (i := 5) rfl) ef_int)) (fun hb H2 e2 S2 => ?_) (fun hb H2 e2 S2 => ?_)
  · have hne : notRun s f n l ≠ 0 := by simpa using hb
    rcases notRun_or s f n l with h | h
    · rw [if_pos h] at q
      exact sf_ret S2 (ef_var S2 (i := 5) rfl) fun v H' e r => q v H' e r
    · exact absurd h.1 hne
  · have heq : notRun s f n l = 0 := by simpa using hb
    rw [if_neg (by rw [heq]; decide)] at q
    refine sf_next ?_
    dsimp only
    refine sf_if S2 (eb_test (ef_gtN (ef_callR S2.heat (es_cons (ef_var S2 (i := 0) rfl) es_nil) ⟨s, rfl, sm, rfl⟩) (ef_var S2 (i := 1) rfl))) (fun hb H3 e3 S3 => ?_) (fun hb H3 e3 S3 => ?_)
    · rw [if_pos (of_decide_eq_true hb)] at q
      exact sf_ret S3 (ef_neg ef_int) fun v H' e r => q v H' e r
    · rw [if_neg (of_decide_eq_false hb)] at q
      refine sf_next ?_
      dsimp only
      exact sf_ret S3 ef_int fun v H' e r => q v H' e r
abbrev R_run_in_numbers (A : Adr) : List Dv → Dv → Prop := fun ds d => ∃ p r, ds = [encRun A p r] ∧ r.1.length ≤ 1000 ∧ d = .lst (nats (Cm09.ranNums r))
theorem stateNums_le (st : State) : (stateNums st).length ≤ 2 := by
  cases st with
  | gave v => exact Nat.le_refl _
  | failed => show 1 ≤ 2; decide
  | on t b => show 1 ≤ 2; decide
theorem ok_run_in_numbers (T : Top K mg A) : DefOk P w K mg base 2 A.f_run_in_numbers "run_in_numbers" ["run"] (spR K (R_run_in_numbers A)) := by
  refine dv_run_in_numbers T (ok_how_it_stands T) (ok_calls_made T) (spR_len (fun ds d ⟨p, r, hd, _⟩ => by rw [hd]; rfl)) (fun vs H Q E ⟨M, ds, d, hM, rs, ⟨p, r, hd, hl, he⟩, q⟩ => ?_)
  subst hd he
  have S : At K H M H (start N_run_in_numbers vs) [.dat (encRun A p r)] := At.start hM rs
  have h2 := stateNums_le r.2.2
  have hsaid := ef_said T (ef_var S (i := 0) rfl)
  refine sf_ret S (ef_cat S.heat (ef_cat S.heat (ef_cat S.heat (ef_lst S.heat (es_cons (ef_lenM hsaid) es_nil) (leb rfl)) hsaid (by rw [List.length_map]; show 1 + _ ≤ _; omega)) (ef_callR (d := .lst (nats (stateNums r.2.2))) S.heat (es_cons (ef_var S (i := 0) rfl) es_nil) ⟨p, r, rfl, rfl⟩) (by rw [List.length_append, List.length_map, nats_len]; show 1 + _ + _ ≤ _; omega))
    (ef_lst S.heat (es_cons (ef_callR (d := nat r.2.1.length) S.heat (es_cons (ef_var S (i := 0) rfl) es_nil) ⟨p, r, rfl, rfl⟩) es_nil) (leb rfl)) (by rw [List.length_append, List.length_append, List.length_map, nats_len]; show 1 + _ + _ + 1 ≤ _; omega)) fun v H' e rv => q v H' e ?_
  have z : nats (Cm09.ranNums r) = (([nat r.1.length] ++ r.1.map nat) ++ nats (stateNums r.2.2)) ++ [nat r.2.1.length] := by
    unfold Cm09.ranNums
    rw [nats_app, nats_app]
    rfl
  rw [z]
  exact rv
end
end Pc

namespace Pc
open PySem PySem.Spec PyProof.Rows L2 Evl
open CmBase Cm09
section
variable {P : Program} {w : World} {K : PySem.W.Frag} {mg : Str → Option Value} {base : Heap} {A : Adr}
structure Asked (s : Cm09.St) (f n : Nat) (l : List Nat) : Prop where
  none : s = ⟨s.prog, none⟩
  whole : isWhole s.prog = true
  f : f < s.prog.length
  n : n ≤ 1000
  l : l.length ≤ 8
theorem asked_of {s : Cm09.St} {f n : Nat} {l : List Nat} (sm : Small s) (h : notRun s f n l = 0) : Asked s f n l := by
  rcases notRun_or s f n l with h1 | ⟨_, h2, h3, h4, h5⟩
  · rw [h] at h1
    exact absurd h1 (by decide)
  · obtain ⟨e1, e2⟩ := ready_of h2
    have := (sm.fn _ (fnAt_mem h3)).args
    exact ⟨e1, e2, h3, h4, by omega⟩
theorem run_asked {s : Cm09.St} {f n : Nat} {l : List Nat} (sm : Small s) (a : Asked s f n l) (hw : ∀ x ∈ l, x < 4294967296) : R_run_of A [encSt A s, nat f, nat n, .lst (nats l)] (encRun A s.prog (runFn s.prog f n l)) :=
  ⟨s.prog, f, n, l, by rw [← a.none]; rfl, runs_of sm a.whole, a.f, a.n, a.l, hw, rfl⟩
theorem run_chosen {s : Cm09.St} {f n : Nat} {l : List Nat} {c : List Site} (sm : Small s) (a : Asked s f n l) (hc : Choice s.prog c) (hw : ∀ x ∈ l, x < 4294967296) : R_run_of A [encSt A ⟨putAll s.prog c, none⟩, nat f, nat n, .lst (nats l)] (encRun A (putAll s.prog c) (runFn (putAll s.prog c) f n l)) :=
  ⟨_, f, n, l, rfl, made_runs sm a.whole hc, by rw [putAll_len]; exact a.f, a.n, a.l, hw, rfl⟩
theorem said_le {p : Prog} {f n : Nat} {l : List Nat} (h : n ≤ 1000) : (runFn p f n l).1.length ≤ 1000 := Nat.le_trans (run_said p n _) h
abbrev R_tell_run (A : Adr) : List Dv → Dv → Prop := fun ds d => ∃ s f n l, ds = [encSt A s, nat f, nat n, .lst (nats l)] ∧ Small s ∧ (∀ x ∈ l, x < 4294967296) ∧ d = .lst (nums (Cm09.step s (.run f n l)).2)
theorem ok_tell_run (T : Top K mg A) : DefOk P w K mg base 7 A.f_tell_run "tell_run" ["program", "f", "n", "words"] (spR K (R_tell_run A)) := by
  refine dv_tell_run T (ok_run_refusal T) (ok_run_in_numbers T) (ok_run_of T) (spR_len (fun ds d ⟨s, f, n, l, hd, _⟩ => by rw [hd]; rfl)) (fun vs H Q E ⟨M, ds, d, hM, rs, ⟨s, f, n, l, hd, sm, hx, he⟩, q⟩ => ?_)
  subst hd he
  have S : At K H M H (start N_tell_run vs) [.dat (encSt A s), .dat (nat f), .dat (nat n), .dat (.lst (nats l)), .any] := At.start hM rs
  have hs : (Cm09.step s (.run f n l)).2 = if notRun s f n l < 0 then [notRun s f n l] else Cm09.ints (Cm09.ranNums (runFn s.prog f n l)) := rfl
  rw [hs] at q
  refine sf_asg S (ef_callR (d := .int (notRun s f n l)) S.heat (es_cons (ef_var S (i := 0) rfl) (es_cons (ef_var S (i := 1) rfl) (es_cons (ef_var S (i := 2) rfl) (es_cons (ef_var S (i := 3) rfl) es_nil)))) ⟨s, f, n, l, rfl, sm, rfl⟩) fun σ1 H1 e1 S1 => ?_
  refine sf_if S1 (eb_test (ef_ne (ef_var S1 (i := 4) rfl) ef_int)) (fun hb H2 e2 S2 => ?_) (fun hb H2 e2 S2 => ?_)
  · have hne : notRun s f n l ≠ 0 := by simpa using hb
    rcases notRun_or s f n l with h | h
    · rw [if_pos h] at q
      exact sf_ret S2 (ef_lst S2.heat (es_cons (ef_var S2 (i := 4) rfl) es_nil) (leb rfl)) fun v H' e r => q v H' e r
    · exact absurd h.1 hne
  · have heq : notRun s f n l = 0 := by simpa using hb
    rw [if_neg (by rw [heq]; decide), nums_ints] at q
    have a := asked_of sm heq
    refine sf_next ?_
    dsimp only
    exact sf_ret S2 (ef_callR S2.heat (es_cons (ef_callR S2.heat (es_cons (ef_var S2 (i := 0) rfl) (es_cons (ef_var S2 (i := 1) rfl) (es_cons (ef_var S2 (i := 2) rfl) (es_cons (ef_var S2 (i := 3) rfl) es_nil)))) (run_asked sm a hx)) es_nil) ⟨s.prog, _, rfl, said_le a.n, rfl⟩) fun v H' e r => q v H' e r
abbrev R_tell_counts (A : Adr) : List Dv → Dv → Prop := fun ds d => ∃ s f n l, ds = [encSt A s, nat f, nat n, .lst (nats l)] ∧ Small s ∧ (∀ x ∈ l, x < 4294967296) ∧ d = .lst (nums (Cm09.step s (.counts f n l)).2)
theorem ok_tell_counts (T : Top K mg A) : DefOk P w K mg base 7 A.f_tell_counts "tell_counts" ["program", "f", "n", "words"] (spR K (R_tell_counts A)) := by
  refine dv_tell_counts T (ok_run_refusal T) (ok_run_of T) (ok_all_calls T) (ok_times_made T) (spR_len (fun ds d ⟨s, f, n, l, hd, _⟩ => by rw [hd]; rfl)) (fun vs H Q E ⟨M, ds, d, hM, rs, ⟨s, f, n, l, hd, sm, hx, he⟩, q⟩ => ?_)
  subst hd he
  have S : At K H M H (start N_tell_counts vs) [.dat (encSt A s), .dat (nat f), .dat (nat n), .dat (.lst (nats l)), .any, .any, .any, .any, .any] := At.start hM rs
  have hs : (Cm09.step s (.counts f n l)).2 = if notRun s f n l < 0 then [notRun s f n l] else Cm09.ints ((sites s.prog).length :: (sites s.prog).flatMap fun x => [x.f, x.b, x.r, ((runFn s.prog f n l).2.1.filter fun y => y == x).length]) := rfl
  rw [hs] at q
  refine sf_asg S (ef_callR (d := .int (notRun s f n l)) S.heat (es_cons (ef_var S (i := 0) rfl) (es_cons (ef_var S (i := 1) rfl) (es_cons (ef_var S (i := 2) rfl) (es_cons (ef_var S (i := 3) rfl) es_nil)))) ⟨s, f, n, l, rfl, sm, rfl⟩) fun σ1 H1 e1 S1 => ?_
  refine sf_if S1 (eb_test (ef_ne (ef_var S1 (i := 4) rfl) ef_int)) (fun hb H2 e2 S2 => ?_) (fun hb H2 e2 S2 => ?_)
  · have hne : notRun s f n l ≠ 0 := by simpa using hb
    rcases notRun_or s f n l with h | h
    · rw [if_pos h] at q
      exact sf_ret S2 (ef_lst S2.heat (es_cons (ef_var S2 (i := 4) rfl) es_nil) (leb rfl)) fun v H' e r => q v H' e r
    · exact absurd h.1 hne
  · have heq : notRun s f n l = 0 := by simpa using hb
    rw [if_neg (by rw [heq]; decide), nums_ints] at q
    have a := asked_of sm heq
    have h8 := sm.sites_le
    refine sf_next ?_
    dsimp only
    refine sf_asg S2 (ef_callR S2.heat (es_cons (ef_var S2 (i := 0) rfl) (es_cons (ef_var S2 (i := 1) rfl) (es_cons (ef_var S2 (i := 2) rfl) (es_cons (ef_var S2 (i := 3) rfl) es_nil)))) (run_asked sm a hx)) fun σ3 H3 e3 S3 => ?_
    generalize hr : runFn s.prog f n l = r at q S3
    refine sf_asg S3 (ef_callR (d := .lst ((sites s.prog).map encSite)) S3.heat (es_cons (ef_var S3 (i := 0) rfl) es_nil) ⟨s, rfl, sm, rfl⟩) fun σ4 H4 e4 S4 => ?_
    refine sf_new S4 (es_cons (ef_lenM (f := encSite) (ef_var S4 (i := 6) rfl)) es_nil) (leb rfl) (ltb rfl) fun p σ5 H5 hp5 hpM e5 S5 => ?_
    refine sf_forL S5 (ef_var S5 (i := 6) rfl) (fun j ρ => ∃ y8, ρ = [.dat (encSt A s), .dat (nat f), .dat (nat n), .dat (.lst (nats l)), .dat (.int (notRun s f n l)), .dat (encRun A s.prog r), .dat (.lst ((sites s.prog).map encSite)), .hot p (nats ((sites s.prog).length :: ((sites s.prog).take j).flatMap fun x => [x.f, x.b, x.r, (r.2.1.filter fun y => y == x).length])), y8])
      ⟨⟨_, rfl⟩, fun B6 j d σ6 H6 ρ6 eB6 hd6 ⟨y8, hρ6⟩ S6 => ?_, fun σ6 H6 ρ6 ⟨y8, hρ6⟩ S6 => ?_⟩
    · subst hρ6
      obtain ⟨t, ht, rfl⟩ := map_get hd6
      have hfl := flat_le ((sites s.prog).take j) (fun x => [x.f, x.b, x.r, (r.2.1.filter fun y => y == x).length]) 4 fun _ _ => Nat.le_refl _
      rw [List.length_take] at hfl
      refine sf_extT S6 (j := 7) (es := [nat t.f, nat t.b, nat t.r]) rfl (ef_var S6 (i := 8) rfl) (by rw [nats_len, List.length_cons]; show _ + 3 ≤ _; omega) fun H7 S7 => ?_
      refine sf_app S7 (j := 7) rfl (by rw [List.length_append, nats_len, List.length_cons]; show _ + 3 < _; omega) (ef_callR (d := nat (r.2.1.filter fun y => y == t).length) S7.heat (es_cons (ef_var S7 (i := 5) rfl) (es_cons (ef_var S7 (i := 8) rfl) es_nil)) ⟨s.prog, r, t, rfl, rfl⟩) fun H8 S8 => ?_
      have e9 : nats ((sites s.prog).length :: ((sites s.prog).take (j + 1)).flatMap fun x => [x.f, x.b, x.r, (r.2.1.filter fun y => y == x).length]) = (nats ((sites s.prog).length :: ((sites s.prog).take j).flatMap fun x => [x.f, x.b, x.r, (r.2.1.filter fun y => y == x).length]) ++ [nat t.f, nat t.b, nat t.r]) ++ [nat (r.2.1.filter fun y => y == t).length] := by
        rw [(take_snoc ht).1, List.flatMap_append, ← List.cons_append, nats_app, List.append_assoc]
        rfl
      rw [← e9] at S8
      exact ⟨_, ⟨_, rfl⟩, S8⟩
    · subst hρ6
      rw [List.length_map, List.take_length] at S6
      have S7 := S6.freeze hpM (i := 7) rfl
      exact sf_ret S7 (ef_var S7 (i := 7) rfl) fun v H' e r => q v H' e r
theorem row_first (r : PRow) : ∃ k rest, encRow r = .tup (nat k :: rest) ∧ decide (k = 4) = isCall r := by
  cases r with
  | plain r =>
    cases r with
    | num x k => exact ⟨0, _, rfl, rfl⟩
    | copy x a => exact ⟨1, _, rfl, rfl⟩
    | two x o a b => exact ⟨2, _, rfl, rfl⟩
    | say a => exact ⟨3, _, rfl, rfl⟩
  | call x g as => exact ⟨4, _, rfl, rfl⟩
abbrev R_is_call_at (A : Adr) : List Dv → Dv → Prop := fun ds d => ∃ s f b r, ds = [encSt A s, nat f, nat b, nat r] ∧ d = .bl ((sites s.prog).contains ⟨f, b, r⟩)
theorem ok_is_call_at (T : Top K mg A) : DefOk P w K mg base 1 A.f_is_call_at "is_call_at" ["program", "f", "b", "r"] (spR K (R_is_call_at A)) := by
  refine dv_is_call_at T (spR_len (fun ds d ⟨s, f, b, r, hd, _⟩ => by rw [hd]; rfl)) (fun vs H Q E ⟨M, ds, d, hM, rs, ⟨s, f, b, r, hd, he⟩, q⟩ => ?_)
  subst hd he
  have S : At K H M H (start N_is_call_at vs) [.dat (encSt A s), .dat (nat f), .dat (nat b), .dat (nat r), .any] := At.start hM rs
  have hc : (sites s.prog).contains ⟨f, b, r⟩ = true ↔ ∃ x g as, (blockAt (fnAt s.prog f) b).rows[r]? = some (.call x g as) := by
    rw [List.contains_iff_mem]
    exact mem_sites
  refine sf_if S (eb_or (eb_test (ef_geN (ef_var S (i := 1) rfl) (ef_lenM (ef_functions T (ef_var S (i := 0) rfl))))) fun hn => eb_test (ef_geN (ef_var S (i := 2) rfl) (ef_lenM (ef_blocks T (ef_atF (ef_functions T (ef_var S (i := 0) rfl)) (ef_var S (i := 1) rfl) (fnAt_get (Nat.lt_of_not_le (of_decide_eq_false hn)))))))) (fun hb H1 e1 S1 => ?_) (fun hb H1 e1 S1 => ?_)
  · refine sf_ret S1 ef_bl fun v H' e rv => q v H' e ?_
    have z : (sites s.prog).contains ⟨f, b, r⟩ = false := by
      cases hcc : (sites s.prog).contains ⟨f, b, r⟩ with
      | false => rfl
      | true =>
        obtain ⟨x, g, as, hr⟩ := hc.mp hcc
        have h1 : f < s.prog.length := site_fn (x := ⟨f, b, r⟩) hr
        have h2 := (block_in hr).1
        rw [Bool.or_eq_true] at hb
        rcases hb with h | h
        · exact absurd (of_decide_eq_true h) (by omega)
        · exact absurd (of_decide_eq_true h) (by omega)
    rw [z]
    exact rv
  · rw [Bool.or_eq_false_iff] at hb
    have hf := Nat.lt_of_not_le (of_decide_eq_false hb.1)
    have hbb := Nat.lt_of_not_le (of_decide_eq_false hb.2)
    refine sf_next ?_
    dsimp only
    refine sf_asg S1 (ef_rows T (ef_atB (ef_blocks T (ef_atF (ef_functions T (ef_var S1 (i := 0) rfl)) (ef_var S1 (i := 1) rfl) (fnAt_get hf))) (ef_var S1 (i := 2) rfl) (blockAt_get hbb))) fun σ2 H2 e2 S2 => ?_
    generalize hrows : (blockAt (fnAt s.prog f) b).rows = rows at S2 hc
    by_cases hr : r < rows.length
    · obtain ⟨row, hrow⟩ : ∃ row, rows[r]? = some row := ⟨rows[r], List.getElem?_eq_getElem hr⟩
      obtain ⟨k, rest, hk, hk4⟩ := row_first row
      refine sf_ret S2 (ef_andV (ef_ltN (ef_var S2 (i := 3) rfl) (ef_lenM (f := encRow) (ef_var S2 (i := 4) rfl))) fun _ => ef_eqN (a := k) (ef_t (i := 0) ((ef_atR (ef_var S2 (i := 4) rfl) (ef_var S2 (i := 3) rfl) hrow).cast hk) rfl) (ef_n 4)) fun v H' e rv => q v H' e ?_
      have z : (sites s.prog).contains ⟨f, b, r⟩ = (decide (r < rows.length) && decide (k = 4)) := by
        rw [decide_eq_true hr, Bool.true_and, hk4]
        cases hcc : (sites s.prog).contains ⟨f, b, r⟩ with
        | true =>
          obtain ⟨x, g, as, h3⟩ := hc.mp hcc
          rw [hrow] at h3
          injection h3 with h3
          rw [h3]
          rfl
        | false =>
          cases row with
          | plain r => rfl
          | call x g as => exact absurd (hc.mpr ⟨x, g, as, hrow⟩) (by rw [hcc]; decide)
      rw [z]
      exact rv
    · refine sf_ret S2 (ef_andV (b := false) (ef_ltN (ef_var S2 (i := 3) rfl) (ef_lenM (f := encRow) (ef_var S2 (i := 4) rfl))) fun z => absurd (of_decide_eq_true z) hr) fun v H' e rv => q v H' e ?_
      have z : (sites s.prog).contains ⟨f, b, r⟩ = (decide (r < rows.length) && false) := by
        rw [Bool.and_false]
        cases hcc : (sites s.prog).contains ⟨f, b, r⟩ with
        | false => rfl
        | true =>
          obtain ⟨x, g, as, h3⟩ := hc.mp hcc
          exact absurd (List.getElem?_eq_some_iff.1 h3).1 hr
      rw [z]
      exact rv
end
end Pc

namespace Pc
open PySem PySem.Spec PyProof.Rows L2 Evl
open CmBase Cm09
theorem putin_fits {s : Cm09.St} {f b r x g : Nat} {as : List Nat} (sm : Small s) (hw : isWhole s.prog = true) (hr : (blockAt (fnAt s.prog f) b).rows[r]? = some (.call x g as)) :
    f < s.prog.length ∧ g < s.prog.length ∧ 1 ≤ (fnAt s.prog g).blocks.length ∧ Fits (putIn (fnAt s.prog f) (fnAt s.prog g) b r) := by
  have hf : f < s.prog.length := site_fn (x := ⟨f, b, r⟩) hr
  have hW := (whole_of hw).2
  have hB := blockAt_mem (block_in hr).1
  obtain ⟨hg, _⟩ := (hW _ (fnAt_mem hf)).calls _ hB _ _ _ (List.mem_of_getElem? hr)
  have wg := hW _ (fnAt_mem hg)
  have tf := sm.fn _ (fnAt_mem hf)
  have tg := sm.fn _ (fnAt_mem hg)
  refine ⟨hf, hg, wg.some, putIn_form hr tf.form tg.form, ?_, ?_⟩
  · rw [putIn_above hr wg.some wg.zero]
    have h1 := told_above tf
    have h2 := told_above tg
    omega
  · rw [putIn_size hr wg.some wg.zero]
    have h1 := told_size tf
    have h2 := told_size tg
    have h3 := nm_above (fnAt s.prog g)
    have h4 := told_above tg
    omega
section
variable {P : Program} {w : World} {K : PySem.W.Frag} {mg : Str → Option Value} {base : Heap} {A : Adr}
abbrev R_tell_putin (A : Adr) : List Dv → Dv → Prop := fun ds d => ∃ s f b r, ds = [encSt A s, nat f, nat b, nat r] ∧ Small s ∧ d = .lst (nums (Cm09.step s (.putIn f b r)).2)
theorem ok_tell_putin (T : Top K mg A) : DefOk P w K mg base 6 A.f_tell_putin "tell_putin" ["program", "f", "b", "r"] (spR K (R_tell_putin A)) := by
  refine dv_tell_putin T (ok_is_sound T) (ok_is_call_at T) (ok_function_in_numbers T) (ok_put_in T) (spR_len (fun ds d ⟨s, f, b, r, hd, _⟩ => by rw [hd]; rfl)) (fun vs H Q E ⟨M, ds, d, hM, rs, ⟨s, f, b, r, hd, sm, he⟩, q⟩ => ?_)
  subst hd he
  have S : At K H M H (start N_tell_putin vs) [.dat (encSt A s), .dat (nat f), .dat (nat b), .dat (nat r)] := At.start hM rs
  have hs : (Cm09.step s (.putIn f b r)).2 = if ready s = false then [-6] else if (sites s.prog).contains ⟨f, b, r⟩ = false then [-2] else Cm09.ints (Cm09.putIn (fnAt s.prog f) (fnAt s.prog (calleeAt s.prog ⟨f, b, r⟩)) b r).nums := rfl
  rw [hs] at q
  refine sf_if S (eb_not (eb_B (ef_callR S.heat (es_cons (ef_var S (i := 0) rfl) es_nil) ⟨s, rfl, sm, rfl⟩))) (fun hb H1 e1 S1 => ?_) (fun hb H1 e1 S1 => ?_)
  · rw [Bool.not_eq_true'] at hb
    rw [if_pos hb] at q
    exact sf_ret S1 (ef_lst S1.heat (es_cons (ef_neg ef_int) es_nil) (leb rfl)) fun v H' e r => q v H' e r
  · rw [Bool.not_eq_false'] at hb
    rw [if_neg (by rw [hb]; decide)] at q
    refine sf_next ?_
    dsimp only
    refine sf_if S1 (eb_not (eb_B (ef_callR S1.heat (es_cons (ef_var S1 (i := 0) rfl) (es_cons (ef_var S1 (i := 1) rfl) (es_cons (ef_var S1 (i := 2) rfl) (es_cons (ef_var S1 (i := 3) rfl) es_nil)))) ⟨s, f, b, r, rfl, rfl⟩))) (fun hb2 H2 e2 S2 => ?_) (fun hb2 H2 e2 S2 => ?_)
    · rw [Bool.not_eq_true'] at hb2
      rw [if_pos hb2] at q
      exact sf_ret S2 (ef_lst S2.heat (es_cons (ef_neg ef_int) es_nil) (leb rfl)) fun v H' e r => q v H' e r
    · rw [Bool.not_eq_false'] at hb2
      rw [if_neg (by rw [hb2]; decide), nums_ints] at q
      refine sf_next ?_
      dsimp only
      rw [List.contains_iff_mem] at hb2
      obtain ⟨x, g, as, hr⟩ := mem_sites.mp hb2
      rw [callee_is hr] at q
      obtain ⟨hf, hg, hg1, hfit⟩ := putin_fits sm (ready_of hb).2 hr
      have hfns : EvF K (tFld K (tVar 0) "functions") (start N_tell_putin vs) M H2 (.lst (s.prog.map (encFn A))) := ef_functions T (ef_var S2 (i := 0) rfl)
      refine sf_ret S2 (ef_callR S2.heat (es_cons (ef_call (d := encFn A (putIn (fnAt s.prog f) (fnAt s.prog g) b r)) (es_cons (ef_atF hfns (ef_var S2 (i := 1) rfl) (fnAt_get hf)) (es_cons hfns (es_cons (ef_var S2 (i := 2) rfl) (es_cons (ef_var S2 (i := 3) rfl) es_nil)))) ?_) es_nil) ⟨_, rfl, hfit, rfl⟩) fun v H' e r => q v H' e r
      intro vs1 H3 e3 rs3 Q3 E3 q3
      cases rs3 with
      | cons r1 rs3 =>
        cases rs3 with
        | cons r2 rs3 =>
          cases rs3 with
          | cons r3 rs3 =>
            cases rs3 with
            | cons r4 rs3 =>
              cases rs3
              obtain ⟨fl, fvs, rfl, hfl, rfs⟩ := r2.of_lst
              obtain rfl := r3.of_int
              obtain rfl := r4.of_int
              exact ⟨M, _, _, fvs, fl, _, b, r, x, g, as, _, rfl, S2.heat.mono e3, r1, cold_ex _ _ hfl, rfs, hr, fnAt_get hg, told_fits (sm.fn _ (fnAt_mem hf)), told_fits (sm.fn _ (fnAt_mem hg)), hg1, q3⟩
/-- the choice that is made -/
def made_for (s : Cm09.St) (most f n : Nat) (l : List Nat) : List Site × Nat × Nat := pyBest s.prog most (runFn s.prog f n l).2.1 (choices (mayPut s.prog)) ([], 0, size s.prog)
theorem chosen_is {s : Cm09.St} {most f n : Nat} {l : List Nat} (sm : Small s) (a : Asked s f n l) (h : size s.prog ≤ most) : Cm09.choose s.prog most (runFn s.prog f n l).2.1 = some (made_for s most f n l) := choose_is (whole_of a.whole).2 (fun f hf => (sm.fn f hf).form) h
theorem chosen_not {s : Cm09.St} {most f n : Nat} {l : List Nat} (sm : Small s) (a : Asked s f n l) (h : most < size s.prog) : Cm09.choose s.prog most (runFn s.prog f n l).2.1 = none := choose_none (whole_of a.whole).2 (fun f hf => (sm.fn f hf).form) h
/-- refused, or chosen -/
theorem refused_or (s : Cm09.St) (most f n : Nat) (l : List Nat) (sm : Small s) (F : List Site × Nat × Nat → List Int) :
    (notChosen s most f n l ≠ 0 ∧ (if notRun s f n l < 0 then [notRun s f n l] else match Cm09.choose s.prog most (runFn s.prog f n l).2.1 with | none => [-8] | some c => F c) = [notChosen s most f n l]) ∨
    (notChosen s most f n l = 0 ∧ Asked s f n l ∧ (if notRun s f n l < 0 then [notRun s f n l] else match Cm09.choose s.prog most (runFn s.prog f n l).2.1 with | none => [-8] | some c => F c) = F (made_for s most f n l)) := by
  unfold notChosen
  by_cases h : notRun s f n l < 0
  · rw [if_pos h, if_pos h]
    left
    exact ⟨by omega, rfl⟩
  · rw [if_neg h, if_neg h]
    have h0 : notRun s f n l = 0 := by
      rcases notRun_or s f n l with h1 | h1
      · exact absurd h1 h
      · exact h1.1
    have a := asked_of sm h0
    by_cases h2 : most < size s.prog
    · rw [if_pos h2, chosen_not sm a h2]
      left
      exact ⟨by decide, rfl⟩
    · rw [if_neg h2, chosen_is sm a (by omega)]
      right
      exact ⟨rfl, a, rfl⟩
abbrev R_tell_choose (A : Adr) : List Dv → Dv → Prop := fun ds d => ∃ s most f n l, ds = [encSt A s, nat most, nat f, nat n, .lst (nats l)] ∧ Small s ∧ (∀ x ∈ l, x < 4294967296) ∧ d = .lst (nums (Cm09.step s (.choose most f n l)).2)
theorem ok_tell_choose (T : Top K mg A) : DefOk P w K mg base 7 A.f_tell_choose "tell_choose" ["program", "size", "f", "n", "words"] (spR K (R_tell_choose A)) := by
  refine dv_tell_choose T (ok_choice_refusal T) (ok_choice_for T) (ok_run_of T) (spR_len (fun ds d ⟨s, most, f, n, l, hd, _⟩ => by rw [hd]; rfl)) (fun vs H Q E ⟨M, ds, d, hM, rs, ⟨s, most, f, n, l, hd, sm, hx, he⟩, q⟩ => ?_)
  subst hd he
  have S : At K H M H (start N_tell_choose vs) [.dat (encSt A s), .dat (nat most), .dat (nat f), .dat (nat n), .dat (.lst (nats l)), .any, .any, .any, .any] := At.start hM rs
  have hs : (Cm09.step s (.choose most f n l)).2 = if notRun s f n l < 0 then [notRun s f n l] else match Cm09.choose s.prog most (runFn s.prog f n l).2.1 with | none => [-8] | some c => (fun c : List Site × Nat × Nat => Cm09.ints (c.2.1 :: c.2.2 :: c.1.length :: c.1.flatMap fun x => [x.f, x.b, x.r])) c := rfl
  rw [hs] at q
  refine sf_asg S (ef_callR (d := .int (notChosen s most f n l)) S.heat (es_cons (ef_var S (i := 0) rfl) (es_cons (ef_var S (i := 1) rfl) (es_cons (ef_var S (i := 2) rfl) (es_cons (ef_var S (i := 3) rfl) (es_cons (ef_var S (i := 4) rfl) es_nil))))) ⟨s, most, f, n, l, rfl, sm, rfl⟩) fun σ1 H1 e1 S1 => ?_
  refine sf_if S1 (eb_test (ef_ne (ef_var S1 (i := 5) rfl) ef_int)) (fun hb H2 e2 S2 => ?_) (fun hb H2 e2 S2 => ?_)
  · have hne : notChosen s most f n l ≠ 0 := by simpa using hb
    rcases refused_or s most f n l sm fun c => Cm09.ints (c.2.1 :: c.2.2 :: c.1.length :: c.1.flatMap fun x => [x.f, x.b, x.r]) with ⟨_, h⟩ | ⟨h, _⟩
    · rw [h] at q
      exact sf_ret S2 (ef_lst S2.heat (es_cons (ef_var S2 (i := 5) rfl) es_nil) (leb rfl)) fun v H' e r => q v H' e r
    · exact absurd h hne
  · have heq : notChosen s most f n l = 0 := by simpa using hb
    rcases refused_or s most f n l sm fun c => Cm09.ints (c.2.1 :: c.2.2 :: c.1.length :: c.1.flatMap fun x => [x.f, x.b, x.r]) with ⟨h, _⟩ | ⟨_, a, h⟩
    · exact absurd heq h
    rw [h, nums_ints] at q
    have hc : Choice s.prog (made_for s most f n l).1 := best_choice _ _ _ _
    have h8 := sm.sites_le
    have hfew := hc.few
    refine sf_next ?_
    dsimp only
    refine sf_asg S2 (ef_callR (d := encCh A (made_for s most f n l)) S2.heat (es_cons (ef_var S2 (i := 0) rfl) (es_cons (ef_var S2 (i := 1) rfl) (es_cons (ef_callR S2.heat (es_cons (ef_var S2 (i := 0) rfl) (es_cons (ef_var S2 (i := 2) rfl) (es_cons (ef_var S2 (i := 3) rfl) (es_cons (ef_var S2 (i := 4) rfl) es_nil)))) (run_asked sm a hx)) es_nil))) ⟨s, most, s.prog, _, rfl, sm, a.whole, rfl⟩) fun σ3 H3 e3 S3 => ?_
    generalize made_for s most f n l = c at q S3 hfew
    refine sf_new S3 (es_cons (ef_spared T (ef_var S3 (i := 6) rfl)) (es_cons (ef_size T (ef_var S3 (i := 6) rfl)) (es_cons (ef_lenM (f := encSite) (ef_places T (ef_var S3 (i := 6) rfl))) es_nil))) (leb rfl) (ltb rfl) fun p σ5 H5 hp5 hpM e5 S5 => ?_
    refine sf_forL S5 (ds := c.1.map encSite) (ef_places T (ef_var S5 (i := 6) rfl)) (fun j ρ => ∃ y8, ρ = [.dat (encSt A s), .dat (nat most), .dat (nat f), .dat (nat n), .dat (.lst (nats l)), .dat (.int (notChosen s most f n l)), .dat (encCh A c), .hot p (nats (c.2.1 :: c.2.2 :: c.1.length :: (c.1.take j).flatMap fun x => [x.f, x.b, x.r])), y8])
      ⟨⟨_, rfl⟩, fun B6 j d σ6 H6 ρ6 eB6 hd6 ⟨y8, hρ6⟩ S6 => ?_, fun σ6 H6 ρ6 ⟨y8, hρ6⟩ S6 => ?_⟩
    · subst hρ6
      obtain ⟨t, ht, rfl⟩ := map_get hd6
      have hfl := flat_le (c.1.take j) (fun x => [x.f, x.b, x.r]) 3 fun _ _ => Nat.le_refl _
      rw [List.length_take] at hfl
      refine sf_extT S6 (j := 7) (es := [nat t.f, nat t.b, nat t.r]) rfl (ef_var S6 (i := 8) rfl) (by rw [nats_len, List.length_cons, List.length_cons, List.length_cons]; show _ + 3 ≤ _; omega) fun H7 S7 => ?_
      have e9 : nats (c.2.1 :: c.2.2 :: c.1.length :: (c.1.take (j + 1)).flatMap fun x => [x.f, x.b, x.r]) = nats (c.2.1 :: c.2.2 :: c.1.length :: (c.1.take j).flatMap fun x => [x.f, x.b, x.r]) ++ [nat t.f, nat t.b, nat t.r] := by
        rw [(take_snoc ht).1, List.flatMap_append, ← List.cons_append, ← List.cons_append, ← List.cons_append, nats_app]
        rfl
      rw [← e9] at S7
      exact ⟨_, ⟨_, rfl⟩, S7⟩
    · subst hρ6
      rw [List.length_map, List.take_length] at S6
      have S7 := S6.freeze hpM (i := 7) rfl
      exact sf_ret S7 (ef_var S7 (i := 7) rfl) fun v H' e r => q v H' e r
abbrev R_with_choice (A : Adr) : List Dv → Dv → Prop := fun ds d => ∃ s most f n l, ds = [encSt A s, nat most, nat f, nat n, .lst (nats l)] ∧ Small s ∧ Asked s f n l ∧ (∀ x ∈ l, x < 4294967296) ∧ d = encSt A ⟨putAll s.prog (made_for s most f n l).1, none⟩
theorem ok_with_choice (T : Top K mg A) : DefOk P w K mg base 7 A.f_with_choice "with_choice" ["program", "size", "f", "n", "words"] (spR K (R_with_choice A)) := by
  refine dv_with_choice T (ok_choice_for T) (ok_run_of T) (ok_with_put_in T) (spR_len (fun ds d ⟨s, most, f, n, l, hd, _⟩ => by rw [hd]; rfl)) (fun vs H Q E ⟨M, ds, d, hM, rs, ⟨s, most, f, n, l, hd, sm, a, hx, he⟩, q⟩ => ?_)
  subst hd he
  have S : At K H M H (start N_with_choice vs) [.dat (encSt A s), .dat (nat most), .dat (nat f), .dat (nat n), .dat (.lst (nats l)), .any] := At.start hM rs
  refine sf_asg S (ef_callR (d := encCh A (made_for s most f n l)) S.heat (es_cons (ef_var S (i := 0) rfl) (es_cons (ef_var S (i := 1) rfl) (es_cons (ef_callR S.heat (es_cons (ef_var S (i := 0) rfl) (es_cons (ef_var S (i := 2) rfl) (es_cons (ef_var S (i := 3) rfl) (es_cons (ef_var S (i := 4) rfl) es_nil)))) (run_asked sm a hx)) es_nil))) ⟨s, most, s.prog, _, rfl, sm, a.whole, rfl⟩) fun σ3 H3 e3 S3 => ?_
  exact sf_ret S3 (ef_callR S3.heat (es_cons (ef_var S3 (i := 0) rfl) (es_cons (ef_places T (ef_var S3 (i := 5) rfl)) es_nil)) ⟨s, _, rfl, sm, a.whole, best_choice _ _ _ _, rfl⟩) fun v H' e r => q v H' e r
theorem chosenProg_is (s : Cm09.St) (most f n : Nat) (l : List Nat) (F : Prog → List Int) : (match chosenProg s most f n l with | none => [-8] | some p => F p) = (match Cm09.choose s.prog most (runFn s.prog f n l).2.1 with | none => [-8] | some c => (fun c : List Site × Nat × Nat => F (putAll s.prog c.1)) c) := by
  unfold chosenProg
  cases Cm09.choose s.prog most (runFn s.prog f n l).2.1 with
  | none => rfl
  | some c => rfl
abbrev R_tell_runchosen (A : Adr) : List Dv → Dv → Prop := fun ds d => ∃ s most f n l, ds = [encSt A s, nat most, nat f, nat n, .lst (nats l)] ∧ Small s ∧ (∀ x ∈ l, x < 4294967296) ∧ d = .lst (nums (Cm09.step s (.runChosen most f n l)).2)
theorem ok_tell_runchosen (T : Top K mg A) : DefOk P w K mg base 8 A.f_tell_runchosen "tell_runchosen" ["program", "size", "f", "n", "words"] (spR K (R_tell_runchosen A)) := by
  refine dv_tell_runchosen T (ok_choice_refusal T) (ok_run_in_numbers T) (ok_run_of T) (ok_with_choice T) (spR_len (fun ds d ⟨s, most, f, n, l, hd, _⟩ => by rw [hd]; rfl)) (fun vs H Q E ⟨M, ds, d, hM, rs, ⟨s, most, f, n, l, hd, sm, hx, he⟩, q⟩ => ?_)
  subst hd he
  have S : At K H M H (start N_tell_runchosen vs) [.dat (encSt A s), .dat (nat most), .dat (nat f), .dat (nat n), .dat (.lst (nats l)), .any] := At.start hM rs
  have hs : (Cm09.step s (.runChosen most f n l)).2 = if notRun s f n l < 0 then [notRun s f n l] else match chosenProg s most f n l with | none => [-8] | some p => (fun p => Cm09.ints (Cm09.ranNums (runFn p f n l))) p := rfl
  rw [hs, chosenProg_is] at q
  refine sf_asg S (ef_callR (d := .int (notChosen s most f n l)) S.heat (es_cons (ef_var S (i := 0) rfl) (es_cons (ef_var S (i := 1) rfl) (es_cons (ef_var S (i := 2) rfl) (es_cons (ef_var S (i := 3) rfl) (es_cons (ef_var S (i := 4) rfl) es_nil))))) ⟨s, most, f, n, l, rfl, sm, rfl⟩) fun σ1 H1 e1 S1 => ?_
  refine sf_if S1 (eb_test (ef_ne (ef_var S1 (i := 5) rfl) ef_int)) (fun hb H2 e2 S2 => ?_) (fun hb H2 e2 S2 => ?_)
  · have hne : notChosen s most f n l ≠ 0 := by simpa using hb
    rcases refused_or s most f n l sm fun c => Cm09.ints (Cm09.ranNums (runFn (putAll s.prog c.1) f n l)) with ⟨_, h⟩ | ⟨h, _⟩
    · rw [h] at q
      exact sf_ret S2 (ef_lst S2.heat (es_cons (ef_var S2 (i := 5) rfl) es_nil) (leb rfl)) fun v H' e r => q v H' e r
    · exact absurd h hne
  · have heq : notChosen s most f n l = 0 := by simpa using hb
    rcases refused_or s most f n l sm fun c => Cm09.ints (Cm09.ranNums (runFn (putAll s.prog c.1) f n l)) with ⟨h, _⟩ | ⟨_, a, h⟩
    · exact absurd heq h
    rw [h, nums_ints] at q
    refine sf_next ?_
    dsimp only
    exact sf_ret S2 (ef_callR S2.heat (es_cons (ef_callR S2.heat (es_cons (ef_callR S2.heat (es_cons (ef_var S2 (i := 0) rfl) (es_cons (ef_var S2 (i := 1) rfl) (es_cons (ef_var S2 (i := 2) rfl) (es_cons (ef_var S2 (i := 3) rfl) (es_cons (ef_var S2 (i := 4) rfl) es_nil))))) ⟨s, most, f, n, l, rfl, sm, a, hx, rfl⟩) (es_cons (ef_var S2 (i := 2) rfl) (es_cons (ef_var S2 (i := 3) rfl) (es_cons (ef_var S2 (i := 4) rfl) es_nil)))) (run_chosen sm a (best_choice _ _ _ _) hx)) es_nil) ⟨_, _, rfl, said_le a.n, rfl⟩) fun v H' e r => q v H' e r
abbrev R_tell_whole (A : Adr) : List Dv → Dv → Prop := fun ds d => ∃ s most f n l, ds = [encSt A s, nat most, nat f, nat n, .lst (nats l)] ∧ Small s ∧ (∀ x ∈ l, x < 4294967296) ∧ d = .lst (nums (Cm09.step s (.whole most f n l)).2)
theorem ok_tell_whole (T : Top K mg A) : DefOk P w K mg base 8 A.f_tell_whole "tell_whole" ["program", "size", "f", "n", "words"] (spR K (R_tell_whole A)) := by
  refine dv_tell_whole T (ok_choice_refusal T) (ok_program_in_numbers T) (ok_with_choice T) (spR_len (fun ds d ⟨s, most, f, n, l, hd, _⟩ => by rw [hd]; rfl)) (fun vs H Q E ⟨M, ds, d, hM, rs, ⟨s, most, f, n, l, hd, sm, hx, he⟩, q⟩ => ?_)
  subst hd he
  have S : At K H M H (start N_tell_whole vs) [.dat (encSt A s), .dat (nat most), .dat (nat f), .dat (nat n), .dat (.lst (nats l)), .any] := At.start hM rs
  have hs : (Cm09.step s (.whole most f n l)).2 = if notRun s f n l < 0 then [notRun s f n l] else match chosenProg s most f n l with | none => [-8] | some p => (fun p => Cm09.ints (progNums p)) p := rfl
  rw [hs, chosenProg_is] at q
  refine sf_asg S (ef_callR (d := .int (notChosen s most f n l)) S.heat (es_cons (ef_var S (i := 0) rfl) (es_cons (ef_var S (i := 1) rfl) (es_cons (ef_var S (i := 2) rfl) (es_cons (ef_var S (i := 3) rfl) (es_cons (ef_var S (i := 4) rfl) es_nil))))) ⟨s, most, f, n, l, rfl, sm, rfl⟩) fun σ1 H1 e1 S1 => ?_
  refine sf_if S1 (eb_test (ef_ne (ef_var S1 (i := 5) rfl) ef_int)) (fun hb H2 e2 S2 => ?_) (fun hb H2 e2 S2 => ?_)
  · have hne : notChosen s most f n l ≠ 0 := by simpa using hb
    rcases refused_or s most f n l sm fun c => Cm09.ints (progNums (putAll s.prog c.1)) with ⟨_, h⟩ | ⟨h, _⟩
    · rw [h] at q
      exact sf_ret S2 (ef_lst S2.heat (es_cons (ef_var S2 (i := 5) rfl) es_nil) (leb rfl)) fun v H' e r => q v H' e r
    · exact absurd h hne
  · have heq : notChosen s most f n l = 0 := by simpa using hb
    rcases refused_or s most f n l sm fun c => Cm09.ints (progNums (putAll s.prog c.1)) with ⟨h, _⟩ | ⟨_, a, h⟩
    · exact absurd heq h
    rw [h, nums_ints] at q
    refine sf_next ?_
    dsimp only
    exact sf_ret S2 (ef_callR S2.heat (es_cons (ef_callR S2.heat (es_cons (ef_var S2 (i := 0) rfl) (es_cons (ef_var S2 (i := 1) rfl) (es_cons (ef_var S2 (i := 2) rfl) (es_cons (ef_var S2 (i := 3) rfl) (es_cons (ef_var S2 (i := 4) rfl) es_nil))))) ⟨s, most, f, n, l, rfl, sm, a, hx, rfl⟩) es_nil) ⟨_, rfl, by rw [putAll_len]; exact sm.fns, made_all_fits sm a.whole (best_choice _ _ _ _), rfl⟩) fun v H' e r => q v H' e r
end
end Pc

namespace Pc
open PySem PySem.Spec PyProof.Rows L2 Evl
open CmBase Cm09
/-! ### a line's calls, parted -/
theorem put_app (a b : List (List (List Int))) : PyFlat.put (a ++ b) = PyFlat.put a ++ PyFlat.put b := by
  induction a with
  | nil => rfl
  | cons c r ih =>
    show PyFlat.put1 c ++ PyFlat.put (r ++ b) = (PyFlat.put1 c ++ PyFlat.put r) ++ PyFlat.put b
    rw [ih, List.append_assoc]
theorem put_snoc (a : List (List (List Int))) (c : List (List Int)) : PyFlat.put (a ++ [c]) = PyFlat.put a ++ PyFlat.put1 c := by
  rw [put_app]
  show _ ++ (PyFlat.put1 c ++ []) = _
  rw [List.append_nil]
def encPart : List (List Int) → Dv
  | (p :: a) :: xs => .tup [.int p, .lst (nums a), .lst (nums (xs.headD []))]
  | _ => .non
theorem mid_get {pre a post : List Int} {p : Int} : (pre ++ (p :: a ++ post))[pre.length]? = some p := by
  rw [List.getElem?_append_right (Nat.le_refl _), Nat.sub_self]
  rfl
theorem mid_cut {pre a post : List Int} : ((pre ++ (a ++ post)).take (pre.length + a.length)).drop pre.length = a := by
  rw [← List.append_assoc, List.take_append_of_le_length (by rw [List.length_append]; exact Nat.le_refl _), List.take_of_length_le (by rw [List.length_append]; exact Nat.le_refl _), List.drop_left]
theorem nums_cut (l : List Int) (m n : Nat) : ((nums l).take m).drop n = nums ((l.take m).drop n) := by
  unfold nums
  rw [List.map_drop, List.map_take]
section
variable {P : Program} {w : World} {K : PySem.W.Frag} {mg : Str → Option Value} {base : Heap} {A : Adr}
theorem ef_const {c : Addr} {vs : List V} {tb : TE} {σ : L2.St} {M : List Addr} {H : Hp} {i : Nat} {v : V} {d : Dv} (hs : ∀ H, SqT K H c vs) (hb : EvF K tb σ M H (nat i)) (h : vs[i]? = some v) (hr : ∀ Hc, Rep K Hc v d) : EvF K (tOp (rIxT K) (tC (.ref c)) tb) σ M H d := fun H1 e Q q =>
  hb.int e fun H2 e2 => ⟨c, vs, (i : Int), v, rfl, rfl, hs H2, atI_nat h, q v H2 e2 (hr _)⟩
theorem sq_up {H H' : Hp} {a : Addr} {xs : List V} (h : SqL K H a xs) (e : Ex H H') : SqL K H' a xs := h.elim (fun r => .inl (r.elim (fun z => .inl (e _ _ z)) fun ⟨o, z⟩ => .inr ⟨o, e _ _ z⟩)) .inr
section
variable {ta tb tc : TE} {σ : L2.St} {M : List Addr} {H : Hp} {a : Addr} {l : List Int} {i m n : Nat}
theorem ef_lenQ (h : Ev ta σ H (.ref a)) (hs : SqL K H a (l.map V.int)) : EvF K (tCB (rLenS K) (tCons ta tNil)) σ M H (nat l.length) := (EvF.of (ev_len (K := K) h hs) (.int _)).cast (by rw [List.length_map]; rfl)
theorem ef_ixQ {x : Int} (h : Ev ta σ H (.ref a)) (hs : SqL K H a (l.map V.int)) (hb : EvF K tb σ M H (nat i)) (hi : l[i]? = some x) : EvF K (tOp (rIxL K) ta tb) σ M H (.int x) := fun H1 e Q q =>
  h H1 e _ fun H2 e2 => hb.int (e.trans e2) fun H3 e3 => ⟨a, _, (i : Int), .int x, rfl, rfl, sq_up hs ((e.trans e2).trans e3), atI_nat (get_map hi), q _ H3 (e2.trans e3) (.int _)⟩
theorem ef_cutQ (hM : Hot M H) (h : Ev ta σ H (.ref a)) (hs : SqL K H a (l.map V.int)) (hb : EvF K tb σ M H (nat n)) (hc : EvF K tc σ M H (nat m)) : EvF K (tSl (rSlL K) ta (tPart tb) (tPart tc)) σ M H (.lst (nums ((l.take m).drop n))) := fun H1 e Q q =>
  h H1 e _ fun H2 e2 => hb.int (e.trans e2) fun H3 e3 => ⟨(n : Int), rfl, hc.int ((e.trans e2).trans e3) fun H4 e4 => by
    have e24 := e3.trans e4
    refine ⟨(m : Int), rfl, a, l.map V.int, rfl, sq_up hs ((e.trans e2).trans e24), fun p hp => ?_⟩
    rw [cut_both, ← List.map_take, ← List.map_drop]
    exact q _ _ ((e2.trans e24).trans (Ex.new hp)) (.lst (cold_fresh (hM.mono ((e.trans e2).trans e24)) hp) (Reps.of_list _))⟩
end
def sp_split_calls (K : PySem.W.Frag) : Sp := fun vs H Q _ => ∃ M a cs, Hot M H ∧ vs = [V.ref a] ∧ SqL K H a ((PyFlat.put cs).map V.int) ∧ (∀ c ∈ cs, PyFlat.okCall PyCm09.shape c) ∧ cs.length ≤ 100000 ∧ ∀ v H', Ex H H' → Rep K (cold M H') v (.lst (cs.map encPart)) → Q v H'
theorem ok_split_calls (T : Top K mg A) : DefOk P w K mg base 1 A.f_split_calls "split_calls" ["calls"] (sp_split_calls K) := by
  refine dv_split_calls T (fun vs H Q E ⟨M, a, cs, _, hv, _⟩ => by rw [hv]; rfl) (fun vs H Q E ⟨M, a0, cs, hM, hv, hq, ok, hz, q⟩ => ?_)
  subst hv
  have S : At K H M H (start N_split_calls [V.ref a0]) [.val (.ref a0), .any, .any, .any, .any, .any, .any, .any] := ⟨Ex.refl H, hM, .cons rfl (.cons trivial (.cons trivial (.cons trivial (.cons trivial (.cons trivial (.cons trivial (.cons trivial .nil))))))), List.nodup_nil, fun p hp => (by cases hp)⟩
  refine sf_new S es_nil (leb rfl) (ltb rfl) fun p σ1 H1 hp1 hpM e1 S1 => ?_
  dsimp only
  refine sf_asg (i := 2) S1 (d := .int 0) ef_int fun σ2 H2 e2 S2 => ?_
  refine sf_while S2 (fun m ρ => ∃ k y3 y4 y5 y6 y7, m = cs.length - k ∧ k ≤ cs.length ∧ ρ = [.val (.ref a0), .hot p ((cs.take k).map encPart), .dat (nat (PyFlat.put (cs.take k)).length), y3, y4, y5, y6, y7]) cs.length ⟨0, _, _, _, _, _, rfl, Nat.zero_le _, rfl⟩ fun m σ3 H3 ρ3 ⟨k, y3, y4, y5, y6, y7, hm, hk, hρ⟩ S3 => ?_
  subst hρ
  refine ⟨decide ((PyFlat.put (cs.take k)).length < (PyFlat.put cs).length), eb_test (ef_ltN (ef_var S3 (i := 2) rfl) (ef_lenQ (ev_val S3 rfl) (sq_up hq S3.ex))), fun hb H4 S4 => ?_, fun hb H4 S4 => ?_⟩
  · have hlt := of_decide_eq_true hb
    have hkl : k < cs.length := by
      rcases Nat.lt_or_ge k cs.length with z | z
      · exact z
      · rw [List.take_of_length_le z] at hlt
        omega
    have hg : cs[k]? = some cs[k] := List.getElem?_eq_getElem hkl
    obtain ⟨p0, a, xs, hc, hs⟩ := ok _ (List.mem_of_getElem? hg)
    obtain ⟨n, rfl, hn, hm1, hl1, hx1⟩ := shape_of hs
    have hsn := (take_snoc hg).1
    have hsplit : PyFlat.put cs = PyFlat.put (cs.take k) ++ (PyFlat.put1 cs[k] ++ PyFlat.put (cs.drop (k + 1))) := by
      rw [← List.append_assoc, ← put_snoc, ← hsn, ← put_app, List.take_append_drop]
    generalize hpre : PyFlat.put (cs.take k) = pre at S4 hlt hsplit
    rw [hc] at hsplit
    have hl2 : PyFlat.put cs = pre ++ ((n : Int) :: a ++ (PyFlat.putRows xs ++ PyFlat.put (cs.drop (k + 1)))) := by
      rw [hsplit]
      show pre ++ (((n : Int) :: a ++ PyFlat.putRows xs) ++ _) = _
      rw [List.append_assoc]
    have hnext : PyFlat.put (cs.take (k + 1)) = pre ++ ((n : Int) :: a ++ PyFlat.putRows xs) := by
      rw [hsn, put_snoc, hpre, hc]
      rfl
    have hpart : (cs.take (k + 1)).map encPart = (cs.take k).map encPart ++ [.tup [nat n, .lst (nums a), .lst (nums (xs.headD []))]] := by
      rw [hsn, List.map_append, hc]
      rfl
    have g1 : (PyFlat.put cs)[pre.length]? = some (n : Int) := by rw [hl2]; exact mid_get
    refine sf_asg S4 (d := nat n) (ef_ixQ (ev_val S4 rfl) (sq_up hq S4.ex) (ef_var S4 (i := 2) rfl) g1) fun σ5 H5 e5 S5 => ?_
    refine sf_asg S5 (d := nat (pre.length + 1 + a.length)) (ef_addN (ef_addN (ef_var S5 (i := 2) rfl) (ef_n 1)) (ef_const (v := .int (a.length : Nat)) T.s_WHOLE_NUMBERS (ef_var S5 (i := 3) rfl) (get_map (f := fun m : Nat => V.int (m : Nat)) hm1) (fun _ => .int _))) fun σ6 H6 e6 S6 => ?_
    have cut1 : (((PyFlat.put cs).take (pre.length + 1 + a.length)).drop (pre.length + 1)) = a := by
      have z := mid_cut (pre := pre ++ [(n : Int)]) (a := a) (post := PyFlat.putRows xs ++ PyFlat.put (cs.drop (k + 1)))
      rw [List.length_append] at z
      have z2 : PyFlat.put cs = (pre ++ [(n : Int)]) ++ (a ++ (PyFlat.putRows xs ++ PyFlat.put (cs.drop (k + 1)))) := by
        rw [hl2, List.append_assoc]
        rfl
      rw [z2]
      exact z
    refine sf_asg S6 (d := .lst (nums a)) ((ef_cutQ S6.heat (ev_val S6 rfl) (sq_up hq S6.ex) (ef_addN (ef_var S6 (i := 2) rfl) (ef_n 1)) (ef_var S6 (i := 4) rfl)).cast (by rw [cut1])) fun σ7 H7 e7 S7 => ?_
    refine sf_asg S7 (ef_lst S7.heat es_nil (leb rfl)) fun σ8 H8 e8 S8 => ?_
    refine sf_if S8 (eb_B (ef_const (v := .bl (decide (xs.length = 1))) T.s_HAS_LIST (ef_var S8 (i := 3) rfl) (get_map (f := V.bl) hl1) (fun _ => .bl _))) (fun hb9 H9 e9 S9 => ?_) (fun hb9 H9 e9 S9 => ?_)
    · obtain ⟨x, rfl⟩ := len1 (of_decide_eq_true hb9)
      have hl3 : PyFlat.put cs = (pre ++ ((n : Int) :: a)) ++ ((x.length : Int) :: x ++ PyFlat.put (cs.drop (k + 1))) := by
        rw [hl2, List.append_assoc]
        show _ = pre ++ ((n : Int) :: a ++ _)
        show pre ++ ((n : Int) :: a ++ ((((x.length : Int) :: x) ++ []) ++ _)) = _
        rw [List.append_nil]
      have hpl : (pre ++ ((n : Int) :: a)).length = pre.length + 1 + a.length := by
        rw [List.length_append, List.length_cons]
        omega
      have g2 : (PyFlat.put cs)[pre.length + 1 + a.length]? = some (x.length : Int) := by
        rw [hl3, ← hpl]
        exact mid_get
      have cut2 : (((PyFlat.put cs).take (pre.length + 1 + a.length + 1 + x.length)).drop (pre.length + 1 + a.length + 1)) = x := by
        have z := mid_cut (pre := (pre ++ ((n : Int) :: a)) ++ [(x.length : Int)]) (a := x) (post := PyFlat.put (cs.drop (k + 1)))
        rw [List.length_append, hpl] at z
        have z2 : PyFlat.put cs = ((pre ++ ((n : Int) :: a)) ++ [(x.length : Int)]) ++ (x ++ PyFlat.put (cs.drop (k + 1))) := by
          rw [hl3, List.append_assoc (pre ++ _)]
          rfl
        rw [z2]
        exact z
      refine sf_asg S9 (d := nat (pre.length + 1 + a.length + 1)) (ef_addN (ef_var S9 (i := 4) rfl) (ef_n 1)) fun σ10 H10 e10 S10 => ?_
      refine sf_asg S10 (d := nat (pre.length + 1 + a.length + 1 + x.length)) (ef_addN (ef_var S10 (i := 7) rfl) (ef_ixQ (ev_val S10 rfl) (sq_up hq S10.ex) (ef_var S10 (i := 4) rfl) g2)) fun σ11 H11 e11 S11 => ?_
      refine sf_asg S11 (d := .lst (nums x)) ((ef_cutQ S11.heat (ev_val S11 rfl) (sq_up hq S11.ex) (ef_var S11 (i := 7) rfl) (ef_var S11 (i := 4) rfl)).cast (by rw [cut2])) fun σ12 H12 e12 S12 => ?_
      refine sf_app S12 (j := 1) rfl (by rw [List.length_map, List.length_take]; omega) (ef_tup S12.heat (es_cons (ef_var S12 (i := 3) rfl) (es_cons (ef_var S12 (i := 5) rfl) (es_cons (ef_var S12 (i := 6) rfl) es_nil))) (leb rfl)) fun H13 S13 => ?_
      refine sf_asg S13 (ef_var S13 (i := 4) rfl) fun σ14 H14 e14 S14 => ?_
      have hlen : (PyFlat.put (cs.take (k + 1))).length = pre.length + 1 + a.length + 1 + x.length := by
        rw [hnext]
        show (pre ++ ((n : Int) :: a ++ (((x.length : Int) :: x) ++ []))).length = _
        rw [List.append_nil, List.length_append, List.length_append, List.length_cons, List.length_cons]
        omega
      refine ⟨cs.length - (k + 1), by omega, _, ⟨k + 1, .dat (nat n), .dat (nat (pre.length + 1 + a.length + 1 + x.length)), .dat (.lst (nums a)), .dat (.lst (nums x)), .dat (nat (pre.length + 1 + a.length + 1)), rfl, by omega, ?_⟩, S14⟩
      rw [hpart, hlen]
      rfl
    · have hx0 : xs = [] := len0 (by
        have z := of_decide_eq_false hb9
        omega)
      subst hx0
      refine sf_next ?_
      dsimp only
      refine sf_app S9 (j := 1) rfl (by rw [List.length_map, List.length_take]; omega) (ef_tup S9.heat (es_cons (ef_var S9 (i := 3) rfl) (es_cons (ef_var S9 (i := 5) rfl) (es_cons (ef_var S9 (i := 6) rfl) es_nil))) (leb rfl)) fun H13 S13 => ?_
      refine sf_asg S13 (ef_var S13 (i := 4) rfl) fun σ14 H14 e14 S14 => ?_
      have hlen : (PyFlat.put (cs.take (k + 1))).length = pre.length + 1 + a.length := by
        rw [hnext]
        show (pre ++ ((n : Int) :: a ++ [])).length = _
        rw [List.append_nil, List.length_append, List.length_cons]
        omega
      refine ⟨cs.length - (k + 1), by omega, _, ⟨k + 1, .dat (nat n), .dat (nat (pre.length + 1 + a.length)), .dat (.lst (nums a)), .dat (.lst []), y7, rfl, by omega, ?_⟩, S14⟩
      rw [hpart, hlen]
      rfl
  · have hge := of_decide_eq_false hb
    have hkl : k = cs.length := by
      rcases Nat.lt_or_ge k cs.length with z | z
      · exfalso
        have hg : cs[k]? = some cs[k] := List.getElem?_eq_getElem z
        obtain ⟨p0, a, xs, hc, hs⟩ := ok _ (List.mem_of_getElem? hg)
        have hsn := (take_snoc hg).1
        have hsplit : PyFlat.put cs = PyFlat.put (cs.take k) ++ (PyFlat.put1 cs[k] ++ PyFlat.put (cs.drop (k + 1))) := by
          rw [← List.append_assoc, ← put_snoc, ← hsn, ← put_app, List.take_append_drop]
        rw [hsplit, hc] at hge
        apply hge
        show _ < (_ ++ ((p0 :: a ++ PyFlat.putRows xs) ++ _)).length
        rw [List.length_append, List.length_append, List.length_append, List.length_cons]
        omega
      · omega
    subst hkl
    rw [List.take_length] at S4
    have S5 := S4.freeze hpM (i := 1) rfl
    exact sf_ret S5 (ef_var S5 (i := 1) rfl) fun v H' e r => q v H' e r
end
end Pc

namespace Pc
open PySem PySem.Spec PyProof.Rows L2 Evl
open CmBase Cm09
/-! ### one call answered -/
theorem rowed_one (s : Cm09.St) (r : PRow) : ∃ n, (rowed s r).2 = [n] := by
  unfold rowed
  repeat' split
  all_goals exact ⟨_, rfl⟩
theorem ended_one (s : Cm09.St) (e : CmBase.End) : ∃ n, (ended s e).2 = [n] := by
  unfold ended
  repeat' split
  all_goals exact ⟨_, rfl⟩
theorem step_one {k : Nat} {ns l : List Nat} {x : Cm09.Call} (s : Cm09.St) (h : Part k ns l x) (hk : k ≤ 8) : ∃ n, (Cm09.step s x).2 = [n] := by
  cases h
  all_goals first | exact absurd hk (by decide) | exact rowed_one _ _ | exact ended_one _ _ | skip
  all_goals simp only [Cm09.step]
  all_goals repeat' split
  all_goals first | exact ⟨_, rfl⟩ | exact rowed_one _ _ | exact ended_one _ _
theorem step_same {k : Nat} {ns l : List Nat} {x : Cm09.Call} (s : Cm09.St) (h : Part k ns l x) (hk : ¬ k ≤ 8) : (Cm09.step s x).1 = s := by
  cases h <;> first | rfl | exact absurd (by decide) hk
section
variable {P : Program} {w : World} {K : PySem.W.Frag} {mg : Str → Option Value} {base : Heap} {A : Adr}
section
variable {B H : Hp} {M : List Addr} {σ : L2.St} {ρ : List Sv} {D : Ends} {te : TE} {u : TS} {k j : Nat}
theorem kind_no (S : At K B M H σ ρ) (hρ : ρ[1]? = some (.dat (nat k))) (j : Nat) (hne : k ≠ j) (h : ∀ H1, Ex H H1 → At K B M H1 σ ρ → u D σ H1) : tSeq (tIfS (tTest (tOp rEq (tVar 1) (tC (.int (j : Nat))))) (tRet te) tNext) u D σ H := by
  refine sf_if S (eb_test (ef_eqN (ef_var S hρ) (ef_n j))) (fun hb H1 e1 S1 => absurd (of_decide_eq_true hb) hne) (fun hb H1 e1 S1 => ?_)
  exact h H1 e1 S1
theorem kind_yes (S : At K B M H σ ρ) (j : Nat) (hρ : ρ[1]? = some (.dat (nat j))) (h : ∀ H1, Ex H H1 → At K B M H1 σ ρ → te σ H1 D.rt) : tSeq (tIfS (tTest (tOp rEq (tVar 1) (tC (.int (j : Nat))))) (tRet te) tNext) u D σ H := by
  refine sf_if S (eb_test (ef_eqN (ef_var S hρ) (ef_n j))) (fun hb H1 e1 S1 => h H1 e1 S1) (fun hb H1 e1 S1 => absurd rfl (of_decide_eq_false hb))
end
theorem tell_call {L : Loc} {M0 : List Addr} {s : Cm09.St} {H : Hp} {σ : L2.St} {as : TA} {ds : List Dv} {n : Nat} {R : List Dv → Cm09.Call → Prop} {c : Cm09.Call} {Q : VK} (h0 : Ev (tVar 0) σ H (.ref L.a)) (has : EvFs K as σ (L.W ++ M0) H ds) (hn : ds.length = n) (p : PAt K A L M0 H s) (sm : Small s) (hr : R ds c)
    (q : ∀ L' H', L'.a = L.a → Keeps L.W H H' L'.W → PAt K A L' M0 H' (Cm09.step s c).1 → Q (.int ((Cm09.step s c).2.headD 0)) H') : tCall (spB K A n R) [] E0 (tCons (tVar 0) as) σ H Q := by
  show tVar 0 σ H (fun x H1 => as σ H1 fun xs H2 => spB K A n R ((x :: xs) ++ []) H2 Q E0)
  refine h0 H (Ex.refl H) _ fun H1 e1 => has H1 e1 _ fun vs H2 e2 rs => ?_
  rw [List.append_nil]
  exact ⟨L, M0, s, vs, ds, c, rfl, hn, p.mono (e1.trans e2), sm, rs, hr, fun L' H' ha kp p' => q L' H' ha (kp.after (e1.trans e2)) p'⟩
abbrev R_build : List Dv → Cm09.Call → Prop := fun ds c => ∃ k ns l, ds = [nat k, .lst (nats ns), .lst (nats l)] ∧ Part k ns l c ∧ l.length ≤ 12 ∧ k ≤ 8
theorem ok_build (T : Top K mg A) : DefOk P w K mg base 5 A.f_build "build" ["program", "kind", "numbers", "listed"] (spB K A 3 R_build) := by
  refine dv_build T (ok_add_function T) (ok_add_block T) (ok_add_num T) (ok_add_two T) (ok_add_say T) (ok_add_call T) (ok_add_jump T) (ok_add_fork T) (ok_add_give T) spB_len (fun vs H Q E ⟨L, M0, s, ws, ds, c, hv, hn, p, sm, rs, ⟨k, ns, l, hd, hp, hl, hk⟩, q⟩ => ?_)
  subst hv hd
  have S : At K Zero (L.W ++ M0) H (start N_build (V.ref L.a :: ws)) [.val (.ref L.a), .dat (nat k), .dat (.lst (nats ns)), .dat (.lst (nats l))] := by
    cases rs with
    | cons r1 rs => cases rs with
      | cons r2 rs => cases rs with
        | cons r3 rs => cases rs; exact At.zero p.heat (.cons rfl (.cons ⟨_, rfl, r1⟩ (.cons ⟨_, rfl, r2⟩ (.cons ⟨_, rfl, r3⟩ .nil)))) rfl
  have back : ∀ {H1 : Hp}, Ex H H1 → ∀ L' H', L'.a = L.a → Keeps L.W H1 H' L'.W → PAt K A L' M0 H' (Cm09.step s c).1 → Q (.int ((Cm09.step s c).2.headD 0)) H' := fun e L' H' ha kp p' => q L' H' ha (kp.after e) p'
  cases hp with
  | fn a =>
    refine kind_yes S 0 rfl fun H0 e0 S0 => ?_
    exact tell_call (ev_val S0 rfl) (es_cons (ef_at (f := nat) (l := [a]) (ef_var S0 (i := 2) rfl) (ef_n 0) rfl) es_nil) rfl (p.mono e0) sm ⟨a, rfl, rfl⟩ (back e0)
  | block l =>
    refine kind_no S rfl 0 (by decide) fun H0 e0 S0 => ?_
    refine kind_yes S0 1 rfl fun H1 e1 S1 => ?_
    exact tell_call (ev_val S1 rfl) (es_cons (ef_var S1 (i := 3) rfl) es_nil) rfl (p.mono (e0.trans e1)) sm ⟨l, rfl, by omega, rfl⟩ (back (e0.trans e1))
  | num a b =>
    refine kind_no S rfl 0 (by decide) fun H0 e0 S0 => ?_
    refine kind_no S0 rfl 1 (by decide) fun H1 e1 S1 => ?_
    refine kind_yes S1 2 rfl fun H2 e2 S2 => ?_
    exact tell_call (ev_val S2 rfl) (es_cons (ef_at (f := nat) (l := [a, b]) (ef_var S2 (i := 2) rfl) (ef_n 0) rfl) (es_cons (ef_at (f := nat) (l := [a, b]) (ef_var S2 (i := 2) rfl) (ef_n 1) rfl) es_nil)) rfl (p.mono ((e0.trans e1).trans e2)) sm ⟨a, b, rfl, rfl⟩ (back ((e0.trans e1).trans e2))
  | two a b c d =>
    refine kind_no S rfl 0 (by decide) fun H0 e0 S0 => ?_
    refine kind_no S0 rfl 1 (by decide) fun H1 e1 S1 => ?_
    refine kind_no S1 rfl 2 (by decide) fun H2 e2 S2 => ?_
    refine kind_yes S2 3 rfl fun H3 e3 S3 => ?_
    exact tell_call (ev_val S3 rfl) (es_cons (ef_at (f := nat) (l := [a, b, c, d]) (ef_var S3 (i := 2) rfl) (ef_n 0) rfl) (es_cons (ef_at (f := nat) (l := [a, b, c, d]) (ef_var S3 (i := 2) rfl) (ef_n 1) rfl) (es_cons (ef_at (f := nat) (l := [a, b, c, d]) (ef_var S3 (i := 2) rfl) (ef_n 2) rfl) (es_cons (ef_at (f := nat) (l := [a, b, c, d]) (ef_var S3 (i := 2) rfl) (ef_n 3) rfl) es_nil)))) rfl (p.mono (((e0.trans e1).trans e2).trans e3)) sm ⟨a, b, c, d, rfl, rfl⟩ (back (((e0.trans e1).trans e2).trans e3))
  | say a =>
    refine kind_no S rfl 0 (by decide) fun H0 e0 S0 => ?_
    refine kind_no S0 rfl 1 (by decide) fun H1 e1 S1 => ?_
    refine kind_no S1 rfl 2 (by decide) fun H2 e2 S2 => ?_
    refine kind_no S2 rfl 3 (by decide) fun H3 e3 S3 => ?_
    refine kind_yes S3 4 rfl fun H4 e4 S4 => ?_
    exact tell_call (ev_val S4 rfl) (es_cons (ef_at (f := nat) (l := [a]) (ef_var S4 (i := 2) rfl) (ef_n 0) rfl) es_nil) rfl (p.mono ((((e0.trans e1).trans e2).trans e3).trans e4)) sm ⟨a, rfl, rfl⟩ (back ((((e0.trans e1).trans e2).trans e3).trans e4))
  | call a b l =>
    refine kind_no S rfl 0 (by decide) fun H0 e0 S0 => ?_
    refine kind_no S0 rfl 1 (by decide) fun H1 e1 S1 => ?_
    refine kind_no S1 rfl 2 (by decide) fun H2 e2 S2 => ?_
    refine kind_no S2 rfl 3 (by decide) fun H3 e3 S3 => ?_
    refine kind_no S3 rfl 4 (by decide) fun H4 e4 S4 => ?_
    refine kind_yes S4 5 rfl fun H5 e5 S5 => ?_
    exact tell_call (ev_val S5 rfl) (es_cons (ef_at (f := nat) (l := [a, b]) (ef_var S5 (i := 2) rfl) (ef_n 0) rfl) (es_cons (ef_at (f := nat) (l := [a, b]) (ef_var S5 (i := 2) rfl) (ef_n 1) rfl) (es_cons (ef_var S5 (i := 3) rfl) es_nil))) rfl (p.mono (((((e0.trans e1).trans e2).trans e3).trans e4).trans e5)) sm ⟨a, b, l, rfl, by omega, rfl⟩ (back (((((e0.trans e1).trans e2).trans e3).trans e4).trans e5))
  | jump a l =>
    refine kind_no S rfl 0 (by decide) fun H0 e0 S0 => ?_
    refine kind_no S0 rfl 1 (by decide) fun H1 e1 S1 => ?_
    refine kind_no S1 rfl 2 (by decide) fun H2 e2 S2 => ?_
    refine kind_no S2 rfl 3 (by decide) fun H3 e3 S3 => ?_
    refine kind_no S3 rfl 4 (by decide) fun H4 e4 S4 => ?_
    refine kind_no S4 rfl 5 (by decide) fun H5 e5 S5 => ?_
    refine kind_yes S5 6 rfl fun H6 e6 S6 => ?_
    exact tell_call (ev_val S6 rfl) (es_cons (ef_at (f := nat) (l := [a]) (ef_var S6 (i := 2) rfl) (ef_n 0) rfl) (es_cons (ef_var S6 (i := 3) rfl) es_nil)) rfl (p.mono ((((((e0.trans e1).trans e2).trans e3).trans e4).trans e5).trans e6)) sm ⟨a, l, rfl, by omega, rfl⟩ (back ((((((e0.trans e1).trans e2).trans e3).trans e4).trans e5).trans e6))
  | fork a b c d l =>
    refine kind_no S rfl 0 (by decide) fun H0 e0 S0 => ?_
    refine kind_no S0 rfl 1 (by decide) fun H1 e1 S1 => ?_
    refine kind_no S1 rfl 2 (by decide) fun H2 e2 S2 => ?_
    refine kind_no S2 rfl 3 (by decide) fun H3 e3 S3 => ?_
    refine kind_no S3 rfl 4 (by decide) fun H4 e4 S4 => ?_
    refine kind_no S4 rfl 5 (by decide) fun H5 e5 S5 => ?_
    refine kind_no S5 rfl 6 (by decide) fun H6 e6 S6 => ?_
    refine kind_yes S6 7 rfl fun H7 e7 S7 => ?_
    exact tell_call (ev_val S7 rfl) (es_cons (ef_at (f := nat) (l := [a, b, c, d]) (ef_var S7 (i := 2) rfl) (ef_n 0) rfl) (es_cons (ef_at (f := nat) (l := [a, b, c, d]) (ef_var S7 (i := 2) rfl) (ef_n 1) rfl) (es_cons (ef_at (f := nat) (l := [a, b, c, d]) (ef_var S7 (i := 2) rfl) (ef_n 2) rfl) (es_cons (ef_at (f := nat) (l := [a, b, c, d]) (ef_var S7 (i := 2) rfl) (ef_n 3) rfl) (es_cons (ef_var S7 (i := 3) rfl) es_nil))))) rfl (p.mono (((((((e0.trans e1).trans e2).trans e3).trans e4).trans e5).trans e6).trans e7)) sm ⟨a, b, c, d, l, rfl, by omega, rfl⟩ (back (((((((e0.trans e1).trans e2).trans e3).trans e4).trans e5).trans e6).trans e7))
  | give a =>
    refine kind_no S rfl 0 (by decide) fun H0 e0 S0 => ?_
    refine kind_no S0 rfl 1 (by decide) fun H1 e1 S1 => ?_
    refine kind_no S1 rfl 2 (by decide) fun H2 e2 S2 => ?_
    refine kind_no S2 rfl 3 (by decide) fun H3 e3 S3 => ?_
    refine kind_no S3 rfl 4 (by decide) fun H4 e4 S4 => ?_
    refine kind_no S4 rfl 5 (by decide) fun H5 e5 S5 => ?_
    refine kind_no S5 rfl 6 (by decide) fun H6 e6 S6 => ?_
    refine kind_no S6 rfl 7 (by decide) fun H7 e7 S7 => ?_
    exact tell_call (ev_val S7 rfl) (es_cons (ef_at (f := nat) (l := [a]) (ef_var S7 (i := 2) rfl) (ef_n 0) rfl) es_nil) rfl (p.mono (((((((e0.trans e1).trans e2).trans e3).trans e4).trans e5).trans e6).trans e7)) sm ⟨a, rfl, rfl⟩ (back (((((((e0.trans e1).trans e2).trans e3).trans e4).trans e5).trans e6).trans e7))
  | shows => exact absurd hk (by decide)
  | run _ _ _ => exact absurd hk (by decide)
  | counts _ _ _ => exact absurd hk (by decide)
  | putIn _ _ _ => exact absurd hk (by decide)
  | choose _ _ _ _ => exact absurd hk (by decide)
  | runChosen _ _ _ _ => exact absurd hk (by decide)
  | whole _ _ _ _ => exact absurd hk (by decide)
abbrev R_tell (A : Adr) : List Dv → Dv → Prop := fun ds d => ∃ s k ns l x, ds = [encSt A s, nat k, .lst (nats ns), .lst (nats l)] ∧ Part k ns l x ∧ Small s ∧ (∀ n ∈ l, n < 4294967296) ∧ ¬ k ≤ 8 ∧ d = .lst (nums (Cm09.step s x).2)
theorem ok_tell (T : Top K mg A) : DefOk P w K mg base 9 A.f_tell "tell" ["program", "kind", "numbers", "listed"] (spR K (R_tell A)) := by
  refine dv_tell T (ok_tell_shows T) (ok_tell_run T) (ok_tell_counts T) (ok_tell_putin T) (ok_tell_choose T) (ok_tell_runchosen T) (ok_tell_whole T) (spR_len (fun ds d ⟨s, k, ns, l, x, hd, _⟩ => by rw [hd]; rfl)) (fun vs H Q E ⟨M, ds, d, hM, rs, ⟨s, k, ns, l, x, hd, hp, sm, hl, hk, he⟩, q⟩ => ?_)
  subst hd he
  have S : At K H M H (start N_tell vs) [.dat (encSt A s), .dat (nat k), .dat (.lst (nats ns)), .dat (.lst (nats l))] := At.start hM rs
  cases hp with
  | fn _ => exact absurd (by decide) hk
  | block _ => exact absurd (by decide) hk
  | num _ _ => exact absurd (by decide) hk
  | two _ _ _ _ => exact absurd (by decide) hk
  | say _ => exact absurd (by decide) hk
  | call _ _ _ => exact absurd (by decide) hk
  | jump _ _ => exact absurd (by decide) hk
  | fork _ _ _ _ _ => exact absurd (by decide) hk
  | give _ => exact absurd (by decide) hk
  | shows =>
    refine kind_yes S 9 rfl fun H9 e9 S9 => ?_
    exact ef_callR S9.heat (es_cons (ef_var S9 (i := 0) rfl) es_nil) ⟨s, rfl, sm, rfl⟩ _ (Ex.refl _) _ fun v H' e' r => q v H' (e9.trans e') r
  | run a b l =>
    refine kind_no S rfl 9 (by decide) fun H9 e9 S9 => ?_
    refine kind_yes S9 10 rfl fun H10 e10 S10 => ?_
    exact ef_callR S10.heat (es_cons (ef_var S10 (i := 0) rfl) (es_cons (ef_at (f := nat) (l := [a, b]) (ef_var S10 (i := 2) rfl) (ef_n 0) rfl) (es_cons (ef_at (f := nat) (l := [a, b]) (ef_var S10 (i := 2) rfl) (ef_n 1) rfl) (es_cons (ef_var S10 (i := 3) rfl) es_nil)))) ⟨s, a, b, l, rfl, sm, hl, rfl⟩ _ (Ex.refl _) _ fun v H' e' r => q v H' ((e9.trans e10).trans e') r
  | counts a b l =>
    refine kind_no S rfl 9 (by decide) fun H9 e9 S9 => ?_
    refine kind_no S9 rfl 10 (by decide) fun H10 e10 S10 => ?_
    refine kind_yes S10 11 rfl fun H11 e11 S11 => ?_
    exact ef_callR S11.heat (es_cons (ef_var S11 (i := 0) rfl) (es_cons (ef_at (f := nat) (l := [a, b]) (ef_var S11 (i := 2) rfl) (ef_n 0) rfl) (es_cons (ef_at (f := nat) (l := [a, b]) (ef_var S11 (i := 2) rfl) (ef_n 1) rfl) (es_cons (ef_var S11 (i := 3) rfl) es_nil)))) ⟨s, a, b, l, rfl, sm, hl, rfl⟩ _ (Ex.refl _) _ fun v H' e' r => q v H' (((e9.trans e10).trans e11).trans e') r
  | putIn a b c =>
    refine kind_no S rfl 9 (by decide) fun H9 e9 S9 => ?_
    refine kind_no S9 rfl 10 (by decide) fun H10 e10 S10 => ?_
    refine kind_no S10 rfl 11 (by decide) fun H11 e11 S11 => ?_
    refine kind_yes S11 12 rfl fun H12 e12 S12 => ?_
    exact ef_callR S12.heat (es_cons (ef_var S12 (i := 0) rfl) (es_cons (ef_at (f := nat) (l := [a, b, c]) (ef_var S12 (i := 2) rfl) (ef_n 0) rfl) (es_cons (ef_at (f := nat) (l := [a, b, c]) (ef_var S12 (i := 2) rfl) (ef_n 1) rfl) (es_cons (ef_at (f := nat) (l := [a, b, c]) (ef_var S12 (i := 2) rfl) (ef_n 2) rfl) es_nil)))) ⟨s, a, b, c, rfl, sm, rfl⟩ _ (Ex.refl _) _ fun v H' e' r => q v H' ((((e9.trans e10).trans e11).trans e12).trans e') r
  | choose a b c l =>
    refine kind_no S rfl 9 (by decide) fun H9 e9 S9 => ?_
    refine kind_no S9 rfl 10 (by decide) fun H10 e10 S10 => ?_
    refine kind_no S10 rfl 11 (by decide) fun H11 e11 S11 => ?_
    refine kind_no S11 rfl 12 (by decide) fun H12 e12 S12 => ?_
    refine kind_yes S12 13 rfl fun H13 e13 S13 => ?_
    exact ef_callR S13.heat (es_cons (ef_var S13 (i := 0) rfl) (es_cons (ef_at (f := nat) (l := [a, b, c]) (ef_var S13 (i := 2) rfl) (ef_n 0) rfl) (es_cons (ef_at (f := nat) (l := [a, b, c]) (ef_var S13 (i := 2) rfl) (ef_n 1) rfl) (es_cons (ef_at (f := nat) (l := [a, b, c]) (ef_var S13 (i := 2) rfl) (ef_n 2) rfl) (es_cons (ef_var S13 (i := 3) rfl) es_nil))))) ⟨s, a, b, c, l, rfl, sm, hl, rfl⟩ _ (Ex.refl _) _ fun v H' e' r => q v H' (((((e9.trans e10).trans e11).trans e12).trans e13).trans e') r
  | runChosen a b c l =>
    refine kind_no S rfl 9 (by decide) fun H9 e9 S9 => ?_
    refine kind_no S9 rfl 10 (by decide) fun H10 e10 S10 => ?_
    refine kind_no S10 rfl 11 (by decide) fun H11 e11 S11 => ?_
    refine kind_no S11 rfl 12 (by decide) fun H12 e12 S12 => ?_
    refine kind_no S12 rfl 13 (by decide) fun H13 e13 S13 => ?_
    refine kind_yes S13 14 rfl fun H14 e14 S14 => ?_
    exact ef_callR S14.heat (es_cons (ef_var S14 (i := 0) rfl) (es_cons (ef_at (f := nat) (l := [a, b, c]) (ef_var S14 (i := 2) rfl) (ef_n 0) rfl) (es_cons (ef_at (f := nat) (l := [a, b, c]) (ef_var S14 (i := 2) rfl) (ef_n 1) rfl) (es_cons (ef_at (f := nat) (l := [a, b, c]) (ef_var S14 (i := 2) rfl) (ef_n 2) rfl) (es_cons (ef_var S14 (i := 3) rfl) es_nil))))) ⟨s, a, b, c, l, rfl, sm, hl, rfl⟩ _ (Ex.refl _) _ fun v H' e' r => q v H' ((((((e9.trans e10).trans e11).trans e12).trans e13).trans e14).trans e') r
  | whole a b c l =>
    refine kind_no S rfl 9 (by decide) fun H9 e9 S9 => ?_
    refine kind_no S9 rfl 10 (by decide) fun H10 e10 S10 => ?_
    refine kind_no S10 rfl 11 (by decide) fun H11 e11 S11 => ?_
    refine kind_no S11 rfl 12 (by decide) fun H12 e12 S12 => ?_
    refine kind_no S12 rfl 13 (by decide) fun H13 e13 S13 => ?_
    refine kind_no S13 rfl 14 (by decide) fun H14 e14 S14 => ?_
    exact ef_callR S14.heat (es_cons (ef_var S14 (i := 0) rfl) (es_cons (ef_at (f := nat) (l := [a, b, c]) (ef_var S14 (i := 2) rfl) (ef_n 0) rfl) (es_cons (ef_at (f := nat) (l := [a, b, c]) (ef_var S14 (i := 2) rfl) (ef_n 1) rfl) (es_cons (ef_at (f := nat) (l := [a, b, c]) (ef_var S14 (i := 2) rfl) (ef_n 2) rfl) (es_cons (ef_var S14 (i := 3) rfl) es_nil))))) ⟨s, a, b, c, l, rfl, sm, hl, rfl⟩ _ (Ex.refl _) _ fun v H' e' r => q v H' ((((((e9.trans e10).trans e11).trans e12).trans e13).trans e14).trans e') r
/-- the promise of an answer -/
def spA (K : PySem.W.Frag) (A : Adr) : Sp := fun vs H Q _ => ∃ L M0 s ws k ns l x, vs = V.ref L.a :: ws ∧ PAt K A L M0 H s ∧ Small s ∧ Reps K (cold (L.W ++ M0) H) ws [nat k, .lst (nats ns), .lst (nats l)] ∧ Part k ns l x ∧ (∀ n ∈ l, n < 4294967296) ∧ l.length ≤ 12 ∧
  ∀ L' v H', L'.a = L.a → Keeps L.W H H' L'.W → PAt K A L' M0 H' (Cm09.step s x).1 → Rep K (cold M0 H') v (.lst (nums (Cm09.step s x).2)) → Q v H'
theorem ok_answer (T : Top K mg A) : DefOk P w K mg base 10 A.f_answer "answer" ["program", "kind", "numbers", "listed"] (spA K A) := by
  refine dv_answer T (ok_build T) (ok_tell T) (fun vs H Q E ⟨L, M0, s, ws, k, ns, l, x, hv, _, _, rs, _⟩ => by rw [hv, List.length_cons, rs.length]; rfl) (fun vs H Q E ⟨L, M0, s, ws, k, ns, l, x, hv, p, sm, rs, hp, hl, hm, q⟩ => ?_)
  subst hv
  have S : At K Zero (L.W ++ M0) H (start N_answer (V.ref L.a :: ws)) [.val (.ref L.a), .dat (nat k), .dat (.lst (nats ns)), .dat (.lst (nats l))] := by
    cases rs with
    | cons r1 rs => cases rs with
      | cons r2 rs => cases rs with
        | cons r3 rs => cases rs; exact At.zero p.heat (.cons rfl (.cons ⟨_, rfl, r1⟩ (.cons ⟨_, rfl, r2⟩ (.cons ⟨_, rfl, r3⟩ .nil)))) rfl
  refine sf_if S (eb_test (ef_leN (ef_var S (i := 1) rfl) (ef_n 8))) (fun hb H1 e1 S1 => ?_) (fun hb H1 e1 S1 => ?_)
  · have hk := of_decide_eq_true hb
    obtain ⟨n, hn⟩ := step_one s hp hk
    refine tell_call (ev_val S1 rfl) (es_cons (ef_var S1 (i := 1) rfl) (es_cons (ef_var S1 (i := 2) rfl) (es_cons (ef_var S1 (i := 3) rfl) es_nil))) rfl (p.mono e1) sm ⟨k, ns, l, rfl, hp, hm, hk⟩ fun L' H' ha kp p' => ?_
    rw [hn]
    refine ⟨leb rfl, fun y hy => ?_⟩
    refine q L' _ _ ha ((kp.after e1).then (Ex.new hy)) (p'.mono (Ex.new hy)) ?_
    rw [hn]
    exact .lst (cold_fresh (⟨fun m hm => p'.heat.all m (List.mem_append_right _ hm)⟩ : Hot M0 _) hy) (.cons (.int _) .nil)
  · have hk := of_decide_eq_false hb
    have e2 := step_same s hp hk
    rw [e2] at q
    have hM0 : Hot M0 H1 := ⟨fun m hm => S1.heat.all m (List.mem_append_right _ hm)⟩
    have cs : Ex (cold (L.W ++ M0) H) (cold M0 H) := cold_sub fun x hx => List.mem_append_right _ hx
    have S2 : At K Zero M0 H1 (start N_answer (V.ref L.a :: ws)) [.dat (encSt A s), .dat (nat k), .dat (.lst (nats ns)), .dat (.lst (nats l))] := by
      have pr := (p.mono e1).rep
      have rs' := rs.mono (cs.trans (cold_mono e1))
      cases rs' with
      | cons r1 rs' => cases rs' with
        | cons r2 rs' => cases rs' with
          | cons r3 rs' => cases rs'; exact At.zero hM0 (.cons ⟨_, rfl, pr⟩ (.cons ⟨_, rfl, r1⟩ (.cons ⟨_, rfl, r2⟩ (.cons ⟨_, rfl, r3⟩ .nil)))) rfl
    refine sf_next ?_
    dsimp only
    exact sr_ret (ef_callR S2.heat (es_cons (ef_var S2 (i := 0) rfl) (es_cons (ef_var S2 (i := 1) rfl) (es_cons (ef_var S2 (i := 2) rfl) (es_cons (ef_var S2 (i := 3) rfl) es_nil)))) ⟨s, k, ns, l, x, rfl, hp, sm, hl, hk, rfl⟩) fun v H' e r => q L v H' rfl (.same (e1.trans e)) (p.mono (e1.trans e)) r
end
end Pc

namespace Pc
open PySem PySem.Spec PyProof.Rows L2 Evl
open CmBase Cm09
/-! ### a whole line -/
theorem cold_poke {M : List Addr} {H : Hp} {p : Addr} {o : HO} (hp : p ∈ M) : Ex (cold M H) (cold M (L2.upd H p o)) := fun x u h => by
  obtain ⟨h1, h2⟩ := cold_some.mp h
  have hx : x ≠ p := fun z => h1 (by rw [z]; exact hp)
  exact cold_of h1 (by rw [upd_ne hx]; exact h2)
theorem PAt.poke {K : PySem.W.Frag} {A : Adr} {L : Loc} {M0 : List Addr} {H : Hp} {s : Cm09.St} {p : Addr} {o : HO} (q : PAt K A L M0 H s) (hp : p ∈ M0) : PAt K A L M0 (L2.upd H p o) s := by
  obtain ⟨fvs, h1, F⟩ := q.fns
  obtain ⟨u, h2, O⟩ := q.opn
  have ne : ∀ x ∈ L.W, x ≠ p := fun x hx z => q.dis x hx (by rw [z]; exact hp)
  have st : ∀ x ∈ L.W, ∀ y, H x = some y → L2.upd H p o x = some y := fun x hx y h => by rw [upd_ne (ne x hx)]; exact h
  have ex : Ex (cold (L.W ++ M0) H) (cold (L.W ++ M0) (L2.upd H p o)) := cold_poke (List.mem_append_right _ hp)
  refine ⟨q.nd, q.dis, q.heat.upd, ⟨fvs, st _ (by unfold Loc.W; simp) _ h1, F.move ex fun b vs hb h => st b (by unfold Loc.W; rw [hb]; simp) _ h⟩, ⟨u, st _ (by unfold Loc.W; simp) _ h2, O.move ex fun b r hb => ⟨fun y h => st b (by unfold Loc.W; rw [hb]; simp) _ h, fun y h => st r (by unfold Loc.W; rw [hb]; simp) _ h⟩⟩⟩
/-! the line, played -/
def stOf (cs : List (List (List Int))) : Cm09.St := cs.foldl (fun s c => (Cm09Neutral.step s ((PyCm09.whole c).headD [])).1) Cm09.init
def tellOf (cs : List (List (List Int))) : List Int := PyFlat.told (PyFlat.played (fun s c => Cm09Neutral.step s (c.headD [])) Cm09Neutral.start (cs.map PyCm09.whole))
theorem played_app (a b : List (List (List Int))) : ∀ s : Cm09.St, PyFlat.played (fun s c => Cm09Neutral.step s (c.headD [])) s ((a ++ b).map PyCm09.whole) = PyFlat.played (fun s c => Cm09Neutral.step s (c.headD [])) s (a.map PyCm09.whole) ++ PyFlat.played (fun s c => Cm09Neutral.step s (c.headD [])) (a.foldl (fun s c => (Cm09Neutral.step s ((PyCm09.whole c).headD [])).1) s) (b.map PyCm09.whole) := by
  induction a with
  | nil => intro s; rfl
  | cons c r ih =>
    intro s
    show _ :: _ = _ :: _ ++ _
    rw [List.cons_append]
    exact congrArg _ (ih _)
theorem tell_app (a b : List (List (List Int))) : tellOf (a ++ b) = tellOf a ++ PyFlat.told (PyFlat.played (fun s c => Cm09Neutral.step s (c.headD [])) (stOf a) (b.map PyCm09.whole)) := by
  unfold tellOf
  rw [played_app]
  unfold PyFlat.told
  rw [List.flatMap_append]
  rfl
theorem tell_snoc (a : List (List (List Int))) (c : List (List Int)) : tellOf (a ++ [c]) = tellOf a ++ (((Cm09Neutral.step (stOf a) ((PyCm09.whole c).headD [])).2.length : Int) :: (Cm09Neutral.step (stOf a) ((PyCm09.whole c).headD [])).2) := by
  rw [tell_app]
  congr 1
  show (_ :: _) ++ [] = _
  rw [List.append_nil]
theorem st_snoc (a : List (List (List Int))) (c : List (List Int)) : stOf (a ++ [c]) = (Cm09Neutral.step (stOf a) ((PyCm09.whole c).headD [])).1 := by
  unfold stOf
  rw [List.foldl_append]
  rfl
theorem tell_take (cs : List (List (List Int))) (i : Nat) : (tellOf (cs.take i)).length ≤ (tellOf cs).length := by
  have h := tell_app (cs.take i) (cs.drop i)
  rw [List.take_append_drop i cs] at h
  rw [h, List.length_append]
  omega
theorem step_of {s : Cm09.St} {c : List Int} {x : Cm09.Call} (h : Cm09Neutral.callOf c = some x) : Cm09Neutral.step s c = Cm09.step s x := by
  unfold Cm09Neutral.step
  rw [h]
theorem st_kept {cs : List (List (List Int))} (h : ∀ c ∈ cs, Parted c) : ∀ i, Kept (stOf (cs.take i))
  | 0 => Kept.init
  | i + 1 => by
    by_cases hi : i < cs.length
    · have hg : cs[i]? = some cs[i] := List.getElem?_eq_getElem hi
      rw [(take_snoc hg).1, st_snoc]
      obtain ⟨k, ns, l, x, xs, _, _, hp, hc, hn, hl, hm⟩ := h _ (List.mem_of_getElem? hg)
      rw [step_of hc]
      exact (st_kept h i).step (hp.callIn hn hl hm)
    · have e : cs.take (i + 1) = cs.take i := by rw [List.take_of_length_le (by omega), List.take_of_length_le (by omega)]
      rw [e]
      exact st_kept h i
section
variable {P : Program} {w : World} {K : PySem.W.Frag} {mg : Str → Option Value} {base : Heap} {A : Adr}
theorem sv_extV {ta te : TE} {σ : L2.St} {H : Hp} {D : Ends} {p b : Addr} {vs ws : List V} (h : Ev ta σ H (.ref p)) (hp : H p = some (.lst vs)) (he : Ev te σ H (.ref b)) (hb : H b = some (.lst ws)) (hz : vs.length + ws.length ≤ 16000000) (k : ∀ H', Ex H H' → D.nx σ (L2.upd H' p (.lst (vs ++ ws)))) :
    tDrop (tBM K "list" rExtend ta (tCons te tNil)) D σ H := h H (Ex.refl H) _ fun H1 e1 => ⟨Or.inl ⟨rfl, vs, sq_of (e1 _ _ hp)⟩, he H1 e1 _ fun H2 e2 => ⟨p, b, vs, ws, rfl, rfl, e2 _ _ (e1 _ _ hp), e2 _ _ (e1 _ _ hb), szB hz, k H2 (e1.trans e2)⟩⟩
theorem ans_call {L : Loc} {M0 : List Addr} {s : Cm09.St} {H : Hp} {σ : L2.St} {as : TA} {k : Nat} {ns l : List Nat} {x : Cm09.Call} {Q : VK} (h0 : Ev (tVar 1) σ H (.ref L.a)) (has : EvFs K as σ (L.W ++ M0) H [nat k, .lst (nats ns), .lst (nats l)]) (p : PAt K A L M0 H s) (sm : Small s) (hp : Part k ns l x) (hl : ∀ n ∈ l, n < 4294967296) (hm : l.length ≤ 12)
    (q : ∀ L' v H', L'.a = L.a → Keeps L.W H H' L'.W → PAt K A L' M0 H' (Cm09.step s x).1 → Rep K (cold M0 H') v (.lst (nums (Cm09.step s x).2)) → Q v H') : tCall (spA K A) [] E0 (tCons (tVar 1) as) σ H Q := by
  show tVar 1 σ H (fun x H1 => as σ H1 fun xs H2 => spA K A ((x :: xs) ++ []) H2 Q E0)
  refine h0 H (Ex.refl H) _ fun H1 e1 => has H1 e1 _ fun vs H2 e2 rs => ?_
  rw [List.append_nil]
  exact ⟨L, M0, s, vs, k, ns, l, x, rfl, p.mono (e1.trans e2), sm, rs, hp, hl, hm, fun L' v H' ha kp p' r => q L' v H' ha (kp.after (e1.trans e2)) p' r⟩
/-- the promise of the whole -/
def spAns (K : PySem.W.Frag) : Sp := fun vs H Q _ => ∃ a l, vs = [V.ref a] ∧ SqL K H a (l.map V.int) ∧ PyCm09.answers_asked l = true ∧ ∀ H' p, H' p = some (.lst ((PyCm09.answers l).map V.int)) → Q (.ref p) H'
theorem asked_is {l : List Int} (h : PyCm09.answers_asked l = true) : ∃ cs, l = PyFlat.put cs ∧ (∀ c ∈ cs, PyFlat.okCall PyCm09.shape c) ∧ (∀ c ∈ cs, Parted c) ∧ cs.length ≤ 40 ∧ PyCm09.answers l = tellOf cs ∧ (tellOf cs).length ≤ 10000000 := by
  unfold PyCm09.answers_asked at h
  cases hc : PyFlat.calls PyCm09.shape l.length l with
  | none => rw [hc] at h; exact nomatch h
  | some cs =>
    rw [hc] at h
    have h' : (!cs.isEmpty && PyFlat.atMost 40 cs && PyInside.calls PyCm09.bound cs && Cm09Neutral.asked ((cs.map PyCm09.whole).map fun c => c.headD []) && PyFlat.short 10000000 (PyCm09.answers l)) = true := h
    rw [Bool.and_eq_true, Bool.and_eq_true, Bool.and_eq_true, Bool.and_eq_true] at h'
    obtain ⟨⟨⟨⟨_, h2⟩, h3⟩, _⟩, h5⟩ := h'
    obtain ⟨e, ok⟩ := PyFlat.put_calls _ _ _ hc
    have ea : PyCm09.answers l = tellOf cs := by
      unfold PyCm09.answers PyCm09.calls
      rw [hc]
      rfl
    refine ⟨cs, e, ok, fun c hcm => parted_of (ok c hcm) (List.all_eq_true.mp h3 c hcm), of_decide_eq_true h2, ea, ?_⟩
    rw [← ea]
    exact of_decide_eq_true h5
theorem pure_answers (T : Top K mg A) (vs : List V) (H : Hp) (Q : VK) (E : XK) (hyp : spAns K vs H Q E) : t_answers K w A (sp_Program A) (sp_split_calls K) (spA K A) { nx := fun _ H' => Q .non H', rt := Q } (start N_answers vs) H := by
  obtain ⟨a, l, hv, hq, hask, q⟩ := hyp
  subst hv
  obtain ⟨cs, rfl, ok, prt, h40, ea, hbig⟩ := asked_is hask
  rw [ea] at q
  refine sm_Program fun x fl H1 e1 nx nf hxf ⟨dx, hx⟩ hfl => ?_
  show ([] : List V).length ≤ sizeLine ∧ ∀ p, H1 p = none → tFor (iList K (tCall (sp_split_calls K) [] E0 (tCons (tVar 0) tNil))) (gName 3) (tSeq (tAsg (tCall (spA K A) [] E0 (tCons (tVar 1) (tCons (tOp (rIxT K) (tVar 3) (tC (.int 0))) (tCons (tOp (rIxT K) (tVar 3) (tC (.int 1))) (tCons (tOp (rIxT K) (tVar 3) (tC (.int 2))) tNil))))) (gName 4)) (tSeq (tDrop (tBM K "list" rAppend (tVar 2) (tCons (tCB (rLenS K) (tCons (tVar 4) tNil)) tNil))) (tDrop (tBM K "list" rExtend (tVar 2) (tCons (tVar 4) tNil))))) { nx := tRet (tVar 2) { nx := fun _ H' => Q .non H', rt := Q }, rt := Q } (((start N_answers [V.ref a]).set 1 (some (.ref x))).set 2 (some (.ref p))) (L2.upd H1 p (.lst []))
  refine ⟨Nat.zero_le _, fun p hp => ?_⟩
  let L0 : Loc := ⟨x, dx, fl, none, none⟩
  let σ2 : L2.St := ((start N_answers [V.ref a]).set 1 (some (.ref x))).set 2 (some (.ref p))
  have hpx : x ≠ p := ne_of_none hx hp
  have hpf : fl ≠ p := ne_of_none hfl hp
  have P0 : PAt K A L0 [p] (L2.upd H1 p (.lst [])) Cm09.init := by
    refine ⟨?_, ?_, ⟨fun m hm => ?_⟩, ⟨[], ?_, ?_⟩, ⟨.non, ?_, ?_⟩⟩
    · show [x, fl].Nodup
      simp [Ne.symm hxf]
    · intro y hy
      have hy' : y ∈ [x, fl] := hy
      rw [List.mem_singleton]
      rcases List.mem_cons.1 hy' with z | z
      · rw [z]; exact hpx
      · rw [List.mem_singleton.1 z]; exact hpf
    · have hm' : m ∈ [x, fl] ++ [p] := hm
      rcases List.mem_append.1 hm' with z | z
      · rcases List.mem_cons.1 z with z | z
        · rw [z, upd_ne hpx, hx]; intro y; cases y
        · rw [List.mem_singleton.1 z, upd_ne hpf, hfl]; intro y; cases y
      · rw [List.mem_singleton.1 z, upd_same]; intro y; cases y
    · show L2.upd H1 p (.lst []) fl = _
      rw [upd_ne hpf]; exact hfl
    · trivial
    · show L2.upd H1 p (.lst []) x = _
      rw [upd_ne hpx]; exact hx
    · trivial
  have stl : (start N_answers [V.ref a]).length = 5 := rfl
  have g1 : σ2[1]? = some (some (.ref x)) := rfl
  have g2 : σ2[2]? = some (some (.ref p)) := rfl
  have g3 : σ2.length = 5 := rfl
  refine ⟨V.ref a, rfl, ?_⟩
  show sp_split_calls K ([V.ref a] ++ []) _ _ E0
  refine ⟨L0.W ++ [p], a, cs, P0.heat, rfl, sq_up hq (e1.trans (Ex.new hp)), ok, by omega, fun v H3 e3 r => ?_⟩
  obtain ⟨b, vs, rfl, h1, rs⟩ := r.of_lst
  have hvl : vs.length = cs.length := by rw [rs.length, List.length_map]
  let Inv : Nat → L2.St → Hp → Prop := fun i σ H' => ∃ L' : Loc, L'.a = x ∧ σ[1]? = some (some (.ref x)) ∧ σ[2]? = some (some (.ref p)) ∧ σ.length = 5 ∧ PAt K A L' [p] H' (stOf (cs.take i)) ∧ H' p = some (.lst ((tellOf (cs.take i)).map V.int)) ∧ Ex (cold (L0.W ++ [p]) H3) (cold (L'.W ++ [p]) H')
  refine ⟨b, rfl, ⟨vs, sq_of (cold_ex _ _ h1)⟩, for_list (K := K) (xs := vs) Inv ⟨L0, rfl, g1, g2, g3, P0.mono e3, e3 _ _ upd_same, Ex.refl _⟩ (fun i σ H' _ ⟨L', _, _, _, _, _, _, exk⟩ => sq_of (cold_ex _ _ (exk _ _ h1))) (fun i xv σ H' hxv ⟨L', ha, s1, s2, sl, pa, hp', exk⟩ => ?_) (fun σ H' ⟨L', ha, s1, s2, sl, pa, hp', exk⟩ => ?_)⟩
  · obtain ⟨d, hd, rd⟩ := rs.getV hxv
    obtain ⟨c, hc, rfl⟩ := map_get hd
    have rd' := rd.mono exk
    obtain ⟨k, ns, l, y, xs, ec, el, hpart, hcall, hn, hl, hm⟩ := prt c (mem_of_get hc)
    have epart : encPart c = .tup [nat k, .lst (nats ns), .lst (nats l)] := by
      rw [ec]
      show Dv.tup [.int (k : Nat), .lst (nums (Cm09.ints ns)), .lst (nums (xs.headD []))] = _
      rw [el, nums_ints, nums_ints]
      rfl
    rw [epart] at rd'
    have sm := (st_kept prt i).small
    have t1 : (σ.set 3 (some xv))[1]? = some (some (.ref x)) := by rw [List.getElem?_set, if_neg (by decide)]; exact s1
    have t2 : (σ.set 3 (some xv))[2]? = some (some (.ref p)) := by rw [List.getElem?_set, if_neg (by decide)]; exact s2
    have t3 : (σ.set 3 (some xv))[3]? = some (some xv) := by rw [List.getElem?_set, if_pos rfl, if_pos (by rw [sl]; decide)]
    have h3 : EvF K (tVar 3) (σ.set 3 (some xv)) (L'.W ++ [p]) H' (.tup [nat k, .lst (nats ns), .lst (nats l)]) := EvF.of (ev_var t3) rd'
    have hsn := (take_snoc hc).1
    refine ans_call (by rw [ha]; exact ev_var t1) (es_cons (ef_t (i := 0) h3 rfl) (es_cons (ef_t (i := 1) h3 rfl) (es_cons (ef_t (i := 2) h3 rfl) es_nil))) pa sm hpart hl hm fun L2' v H4 ha2 kp2 pa2 rv => ?_
    obtain ⟨b2, ws, rfl, hb2, rw2⟩ := rv.of_lst
    have ew := rw2.to_list
    subst ew
    have estep := step_of (s := stOf (cs.take i)) hcall
    have hout : tellOf (cs.take (i + 1)) = tellOf (cs.take i) ++ (((Cm09.step (stOf (cs.take i)) y).2.length : Int) :: (Cm09.step (stOf (cs.take i)) y).2) := by
      rw [hsn, tell_snoc, estep]
    have hst : stOf (cs.take (i + 1)) = (Cm09.step (stOf (cs.take i)) y).1 := by
      rw [hsn, st_snoc, estep]
    have hlen := tell_take cs (i + 1)
    rw [hout, List.length_append, List.length_cons] at hlen
    generalize (Cm09.step (stOf (cs.take i)) y).2 = ans at hb2 hout hlen
    have hpM : p ∉ L'.W := fun z => pa.dis p z (List.mem_singleton.mpr rfl)
    have hp4 : H4 p = some (.lst ((tellOf (cs.take i)).map V.int)) := kp2.rest _ _ hpM hp'
    have hbp : b2 ≠ p := fun z => (cold_some.mp hb2).1 (by rw [z]; exact List.mem_singleton.mpr rfl)
    have u2 : ((σ.set 3 (some xv)).set 4 (some (.ref b2)))[2]? = some (some (.ref p)) := by rw [List.getElem?_set, if_neg (by decide)]; exact t2
    have u1 : ((σ.set 3 (some xv)).set 4 (some (.ref b2)))[1]? = some (some (.ref x)) := by rw [List.getElem?_set, if_neg (by decide)]; exact t1
    have u4 : ((σ.set 3 (some xv)).set 4 (some (.ref b2)))[4]? = some (some (.ref b2)) := by rw [List.getElem?_set, if_pos rfl, if_pos (by rw [List.length_set, sl]; decide)]
    have ul : ((σ.set 3 (some xv)).set 4 (some (.ref b2))).length = 5 := by rw [List.length_set, List.length_set, sl]
    refine sv_app (ev_var u2) hp4 (by rw [List.length_map]; omega) (ev_len (K := K) (ev_var u4) (sq_of (cold_ex _ _ hb2))) fun H5 e5 => ?_
    refine sv_extV (ev_var u2) upd_same (ev_var u4) (by rw [upd_ne hbp]; exact e5 _ _ (cold_ex _ _ hb2)) (by rw [List.length_append, List.length_map, List.length_map]; show _ + 1 + _ ≤ _; omega) fun H6 e6 => ?_
    refine ⟨L2', ha2.trans ha, u1, u2, ul, ?_, ?_, ?_⟩
    · rw [hst]
      exact ((((pa2.mono e5).poke (List.mem_singleton.mpr rfl)).mono e6).poke (List.mem_singleton.mpr rfl))
    · rw [upd_same, hout, List.map_append, List.map_cons, List.length_map, List.append_assoc]
      rfl
    · have pm : p ∈ L2'.W ++ [p] := List.mem_append_right _ (List.mem_singleton.mpr rfl)
      exact ((((exk.trans (kp2.cold [p])).trans (cold_mono e5)).trans (cold_poke pm)).trans (cold_mono e6)).trans (cold_poke pm)
  · refine ⟨.ref p, s2, q H' p ?_⟩
    rw [hvl, List.take_length] at hp'
    exact hp'
theorem fn_answers (T : Top K mg A) {fd : FuncData} (F : Fun K "answers" "answers" s_answers A.f_answers fd) : FnOk P w K mg base CX0 11 A.f_answers fd ["calls"] (spAns K) := by
  refine F.ok sc_answers (fun vs H Q E ⟨a, l, hv, _⟩ => by rw [hv]; rfl) (fun cdv Ar outer s H vs Q E hr q => ⟨t_answers K w A (sp_Program A) (sp_split_calls K) (spA K A), ?_, pure_answers T vs H Q E q⟩)
  exact (pss_cons (ps_set (i := 1) sc_answers.nd rfl (.inl rfl) (pe_makeD0 (ok_Program T) (hr.mono (by decide)) rfl))
      (pss_cons (ps_set (i := 2) sc_answers.nd rfl (.inl rfl) (pe_lst pa_nil))
      (pss_cons (ps_for PassesOwn.never rfl (pi_list (pe_callD (ok_split_calls T) (hr.mono (by decide)) rfl (pa_cons (pv 0) pa_nil))) (pg_name (i := 3) sc_answers.nd rfl (.inl rfl)) (pss_cons (ps_set (i := 4) sc_answers.nd rfl (.inl rfl) (pe_callD (ok_answer T) (hr.mono (by decide)) rfl (pa_cons (pv 1) (pa_cons (pe_ix ix_tup (pv 3) pe_int (fun _ _ => rfl)) (pa_cons (pe_ix ix_tup (pv 3) pe_int (fun _ _ => rfl)) (pa_cons (pe_ix ix_tup (pv 3) pe_int (fun _ _ => rfl)) pa_nil))))))
      (pss_cons (ps_expr (pe_bm PySem.F.plainAttrs_list PySem.F.slot_list_append PySem.F.type_list_append mt_append (pv 2) (pa_cons (pe_callB call_len_seq (by rfl) T.z_len PySem.boot_len (pa_cons (pv 4) pa_nil)) pa_nil)))
      (pss_one (ps_expr (pe_bm PySem.F.plainAttrs_list PySem.F.slot_list_extend PySem.F.type_list_extend mt_extend (pv 2) (pa_cons (pv 4) pa_nil)))))))
      (pss_one (ps_ret (pv 2))))))
end
end Pc

namespace Pc
open L2 PyProof.Rows PySem PySem.Spec
section
variable {mg : Str → Option Value} {h : Heap} {K : PySem.W.Frag}
theorem ex_int (X : K.In h) (G : h.Ns mainGlobals mg) (x : Str) (n : Int) {t : Tok} (a : PySem.W.nsIn K mainGlobals x = some (some (.int n t))) : ∃ t, mg x = some (.int n t) := ⟨t, PySem.W.mg_of X G a⟩
theorem ex_def (X : K.In h) (G : h.Ns mainGlobals mg) (x : Str) (st : Stmt) (ps : List Str) {f : Addr} {od an : Option Addr} {sl : Array (Option Value)} {oc kV dc pm cd ct : Value}
    (b : ∀ fd, Fun K x x st f fd → Binds K fd ps []) (a : PySem.W.nsIn K mainGlobals x = some (some (.ref f))) (l : K.lookup f = some ⟨oc, od, .func (PySem.W.fnOf x x (defArgs st) (defBody st) (defScope st) .none kV dc pm an cd ct), sl⟩)
    (c : PySem.W.codeIn K cd x = true) (k : PySem.W.keepIn K (.ref f) = true) : ∃ f, DefAt K mg x st ps f :=
  ⟨f, PySem.W.mg_of X G a, _, fun_mk l c k, b _ (fun_mk l c k)⟩
theorem ex_class (X : K.In h) (G : h.Ns mainGlobals mg) (x qual : Str) (st : Stmt) (ps : List Str) {C f : Addr} {od an : Option Addr} {sl : Array (Option Value)} {oc kV dc pm cd ct : Value}
    (b : ∀ fd, Fun K "__init__" qual st f fd → Binds K fd ps []) (g : PySem.W.nsIn K mainGlobals x = some (some (.ref C)))
    (a : PySem.W.findIn K (.ref C) "__init__" = some (some (.ref f))) (i : PySem.W.isFn K (.ref f) = true) (l : K.lookup f = some ⟨oc, od, .func (PySem.W.fnOf "__init__" qual (defArgs st) (defBody st) (defScope st) .none kV dc pm an cd ct), sl⟩)
    (c : PySem.W.codeIn K cd qual = true) (k : PySem.W.keepIn K (.ref f) = true) (pg : PySem.W.plainGet K C Str.empty = true) (hd : PySem.W.hasDictIn K C = true) (po : PySem.W.plainOver K C = true)
    (sa : PySem.W.findIn K (.ref C) "__setattr__" = some (some (.builtin "object.__setattr__"))) (mk : PySem.W.makesIn K C = true) (kc : PySem.W.keepIn K (.ref C) = true) (L : List Str) (N : ∀ y ∈ L, PySem.W.findIn K (.ref C) y = some none) : ∃ C f, ClassAt K mg x qual st ps C f ∧ ∀ y ∈ L, NoAttr K C y :=
  ⟨C, f, ⟨PySem.W.mg_of X G g, ⟨pg, hd, po, sa⟩, ⟨mk, a, i, kc⟩, _, fun_mk l c k, b _ (fun_mk l c k)⟩, N⟩
theorem ex_tup (X : K.In h) (G : h.Ns mainGlobals mg) (x : Str) (xs : List V) {a : Addr} {od : Option Addr} {its : Array Value} {n : Nat} {sl : Array (Option Value)} (g : PySem.W.nsIn K mainGlobals x = some (some (.ref a))) (l : K.lookup a = some ⟨.type "tuple", od, .seq its n, sl⟩) (z : its.size ≤ sizeLine) (v : Vals xs its.toList) : ∃ a, mg x = some (.ref a) ∧ ∀ H, SqT K H a xs :=
  ⟨a, PySem.W.mg_of X G g, fun H => .inr ⟨_, its, n, l, rfl, rfl, z, v⟩⟩
theorem binds_always {x qual : Str} {st : Stmt} {f : Addr} {fd : FuncData} {ps : List Str} (F : Fun K x qual st f fd)
    (hb : ∀ (kV doc pm : Value) (an : Option Addr) (cdv ct : Value) (us : List Value), us.length = ps.length → bindArgs (PySem.W.fnOf x qual (defArgs st) (defBody st) (defScope st) .none kV doc pm an cdv ct) ⟨us, []⟩ = pure (ps.zip us)) (s : Shared) (us : List Value) (hu : us.length = ps.length) : BindsTo s fd ⟨us, []⟩ (ps.zip us) := by
  rcases F.ex with ⟨_, _, c1, c2, c3, c4, c5, c6, _, rfl, _, _⟩
  exact .of_eq (hb c1 c2 c3 c4 c5 c6 us hu)
end
end Pc
open PyProof.Rows PySem PySem.W
theorem PySem.Challenge.cw_putcalls_s01_answers_holds : PySem.Challenge.rw_putcalls_s01_answers.Holds := by
  w_on; k_headS; (case hw => exact ⟨[.list [.int 9]], by decide +kernel, by decide +kernel⟩)
  k_fillS
  refine L2.walk_specK (r := PySem.Challenge.rw_putcalls_s01_answers) (k := 11) (CX := L2.CX0) (ps := ["calls"]) (sp := Pc.spAns) (by decide +kernel) rfl rfl ⟨rfl, by decide, by decide⟩ (fun w h Y => PySem.W.kIn_of Y) ?F ?S (fun _ _ _ _ z => z)
  case F =>
    intro w mg fa h Y KX G hmg
    have g_ROW_NUM := Pc.ex_int KX G "ROW_NUM" 0 (by k_is)
    have g_ROW_TWO := Pc.ex_int KX G "ROW_TWO" 2 (by k_is)
    have g_ROW_SAY := Pc.ex_int KX G "ROW_SAY" 3 (by k_is)
    have g_ROW_CALL := Pc.ex_int KX G "ROW_CALL" 4 (by k_is)
    have g_END_JUMP := Pc.ex_int KX G "END_JUMP" 0 (by k_is)
    have g_END_FORK := Pc.ex_int KX G "END_FORK" 1 (by k_is)
    have g_END_GIVE := Pc.ex_int KX G "END_GIVE" 2 (by k_is)
    have g_GREATEST_NAME := Pc.ex_int KX G "GREATEST_NAME" 23 (by k_is)
    have g_GREATEST_OPERATION := Pc.ex_int KX G "GREATEST_OPERATION" 10 (by k_is)
    have g_GREATEST_CALLED := Pc.ex_int KX G "GREATEST_CALLED" 4 (by k_is)
    have g_FIRST_TARGET := Pc.ex_int KX G "FIRST_TARGET" 1 (by k_is)
    have g_LAST_TARGET := Pc.ex_int KX G "LAST_TARGET" 5 (by k_is)
    have g_MOST_WORDS := Pc.ex_int KX G "MOST_WORDS" 4 (by k_is)
    have g_MOST_FUNCTIONS := Pc.ex_int KX G "MOST_FUNCTIONS" 5 (by k_is)
    have g_MOST_BLOCKS := Pc.ex_int KX G "MOST_BLOCKS" 6 (by k_is)
    have g_MOST_TAKEN := Pc.ex_int KX G "MOST_TAKEN" 4 (by k_is)
    have g_MOST_ROWS := Pc.ex_int KX G "MOST_ROWS" 8 (by k_is)
    have g_MOST_CALLS := Pc.ex_int KX G "MOST_CALLS" 8 (by k_is)
    have g_MOST_HANDED_TO_FUNCTION := Pc.ex_int KX G "MOST_HANDED_TO_FUNCTION" 4 (by k_is)
    have g_MOST_HANDED_BY_JUMP := Pc.ex_int KX G "MOST_HANDED_BY_JUMP" 4 (by k_is)
    have g_MOST_HANDED_BY_FORK := Pc.ex_int KX G "MOST_HANDED_BY_FORK" 8 (by k_is)
    have g_WORDS := Pc.ex_int KX G "WORDS" 4294967296 (by k_is)
    have g_BITS := Pc.ex_int KX G "BITS" 32 (by k_is)
    have g_SUM := Pc.ex_int KX G "SUM" 0 (by k_is)
    have g_LESS := Pc.ex_int KX G "LESS" 1 (by k_is)
    have g_PRODUCT := Pc.ex_int KX G "PRODUCT" 2 (by k_is)
    have g_AND := Pc.ex_int KX G "AND" 3 (by k_is)
    have g_OR := Pc.ex_int KX G "OR" 4 (by k_is)
    have g_EXCLUSIVE_OR := Pc.ex_int KX G "EXCLUSIVE_OR" 5 (by k_is)
    have g_UP := Pc.ex_int KX G "UP" 6 (by k_is)
    have g_DOWN := Pc.ex_int KX G "DOWN" 7 (by k_is)
    have g_IS_LESS := Pc.ex_int KX G "IS_LESS" 8 (by k_is)
    have g_IS_SAME := Pc.ex_int KX G "IS_SAME" 9 (by k_is)
    have g_QUOTIENT := Pc.ex_int KX G "QUOTIENT" 10 (by k_is)
    have g_MOST_STEPS := Pc.ex_int KX G "MOST_STEPS" 1000 (by k_is)
    have g_NOT_REFUSED := Pc.ex_int KX G "NOT_REFUSED" 0 (by k_is)
    have g_FUNCTION := Pc.ex_int KX G "FUNCTION" 0 (by k_is)
    have g_BLOCK := Pc.ex_int KX G "BLOCK" 1 (by k_is)
    have g_NUM := Pc.ex_int KX G "NUM" 2 (by k_is)
    have g_TWO := Pc.ex_int KX G "TWO" 3 (by k_is)
    have g_SAY := Pc.ex_int KX G "SAY" 4 (by k_is)
    have g_CALL := Pc.ex_int KX G "CALL" 5 (by k_is)
    have g_JUMP := Pc.ex_int KX G "JUMP" 6 (by k_is)
    have g_FORK := Pc.ex_int KX G "FORK" 7 (by k_is)
    have g_GIVE := Pc.ex_int KX G "GIVE" 8 (by k_is)
    have g_SHOWS := Pc.ex_int KX G "SHOWS" 9 (by k_is)
    have g_RUN := Pc.ex_int KX G "RUN" 10 (by k_is)
    have g_COUNTS := Pc.ex_int KX G "COUNTS" 11 (by k_is)
    have g_PUTIN := Pc.ex_int KX G "PUTIN" 12 (by k_is)
    have g_CHOOSE := Pc.ex_int KX G "CHOOSE" 13 (by k_is)
    have g_RUNCHOSEN := Pc.ex_int KX G "RUNCHOSEN" 14 (by k_is)
    obtain ⟨c_WHOLE_NUMBERS, g_WHOLE_NUMBERS, s_WHOLE_NUMBERS⟩ := Pc.ex_tup KX G "WHOLE_NUMBERS" [.int 1, .int 0, .int 2, .int 4, .int 1, .int 2, .int 1, .int 4, .int 1, .int 0, .int 2, .int 2, .int 3, .int 3, .int 3, .int 3] (by k_is) (by k_is) (by decide) (.cons ⟨_, rfl⟩ (.cons ⟨_, rfl⟩ (.cons ⟨_, rfl⟩ (.cons ⟨_, rfl⟩ (.cons ⟨_, rfl⟩ (.cons ⟨_, rfl⟩ (.cons ⟨_, rfl⟩ (.cons ⟨_, rfl⟩ (.cons ⟨_, rfl⟩ (.cons ⟨_, rfl⟩ (.cons ⟨_, rfl⟩ (.cons ⟨_, rfl⟩ (.cons ⟨_, rfl⟩ (.cons ⟨_, rfl⟩ (.cons ⟨_, rfl⟩ (.cons ⟨_, rfl⟩ .nil))))))))))))))))
    obtain ⟨c_HAS_LIST, g_HAS_LIST, s_HAS_LIST⟩ := Pc.ex_tup KX G "HAS_LIST" [.bl false, .bl true, .bl false, .bl false, .bl false, .bl true, .bl true, .bl true, .bl false, .bl false, .bl true, .bl true, .bl false, .bl true, .bl true, .bl true] (by k_is) (by k_is) (by decide) (.cons rfl (.cons rfl (.cons rfl (.cons rfl (.cons rfl (.cons rfl (.cons rfl (.cons rfl (.cons rfl (.cons rfl (.cons rfl (.cons rfl (.cons rfl (.cons rfl (.cons rfl (.cons rfl .nil))))))))))))))))
    have z_any : mg "any" = none := PySem.W.mg_none_of KX G (by k_is)
    have z_len : mg "len" = none := PySem.W.mg_none_of KX G (by k_is)
    have z_list : mg "list" = none := PySem.W.mg_none_of KX G (by k_is)
    have z_range : mg "range" = none := PySem.W.mg_none_of KX G (by k_is)
    have z_reversed : mg "reversed" = none := PySem.W.mg_none_of KX G (by k_is)
    have z_set : mg "set" = none := PySem.W.mg_none_of KX G (by k_is)
    have z_sorted : mg "sorted" = none := PySem.W.mg_none_of KX G (by k_is)
    have z_sum : mg "sum" = none := PySem.W.mg_none_of KX G (by k_is)
    have z_tuple : mg "tuple" = none := PySem.W.mg_none_of KX G (by k_is)
    obtain ⟨C_Block, f_Block, d_Block, N_Block⟩ := Pc.ex_class KX G "Block" "Block.__init__" (L2.inClass (Pc.topS 8) 0) ["self", "taken"] (fun fd F => F.binds fun _ _ _ _ _ _ us hl => match us, hl with | [_, _], _ => rfl) (by k_is) (by k_is) (by k_is) (by k_is) (by k_is) (by k_is) (by k_is) (by k_is) (by k_is) (by k_is) (by k_is) (by k_is) ["taken", "rows", "ending"] (List.forall_mem_cons.mpr ⟨by k_is, List.forall_mem_cons.mpr ⟨by k_is, List.forall_mem_cons.mpr ⟨by k_is, List.forall_mem_nil _⟩⟩⟩)
    obtain ⟨C_Function, f_Function, d_Function, N_Function⟩ := Pc.ex_class KX G "Function" "Function.__init__" (L2.inClass (Pc.topS 9) 0) ["self", "handed"] (fun fd F => F.binds fun _ _ _ _ _ _ us hl => match us, hl with | [_, _], _ => rfl) (by k_is) (by k_is) (by k_is) (by k_is) (by k_is) (by k_is) (by k_is) (by k_is) (by k_is) (by k_is) (by k_is) (by k_is) ["handed", "blocks"] (List.forall_mem_cons.mpr ⟨by k_is, List.forall_mem_cons.mpr ⟨by k_is, List.forall_mem_nil _⟩⟩)
    obtain ⟨C_Program, f_Program, d_Program, N_Program⟩ := Pc.ex_class KX G "Program" "Program.__init__" (L2.inClass (Pc.topS 10) 0) ["self"] (fun fd F => F.binds fun _ _ _ _ _ _ us hl => match us, hl with | [_], _ => rfl) (by k_is) (by k_is) (by k_is) (by k_is) (by k_is) (by k_is) (by k_is) (by k_is) (by k_is) (by k_is) (by k_is) (by k_is) ["functions", "unended"] (List.forall_mem_cons.mpr ⟨by k_is, List.forall_mem_cons.mpr ⟨by k_is, List.forall_mem_nil _⟩⟩)
    obtain ⟨f_calls_among, d_calls_among⟩ := Pc.ex_def KX G "calls_among" (Pc.topS 11) ["rows"] (fun fd F => F.binds fun _ _ _ _ _ _ us hl => match us, hl with | [_], _ => rfl) (by k_is) (by k_is) (by k_is) (by k_is)
    obtain ⟨f_all_calls, d_all_calls⟩ := Pc.ex_def KX G "all_calls" (Pc.topS 12) ["program"] (fun fd F => F.binds fun _ _ _ _ _ _ us hl => match us, hl with | [_], _ => rfl) (by k_is) (by k_is) (by k_is) (by k_is)
    obtain ⟨f_row_at, d_row_at⟩ := Pc.ex_def KX G "row_at" (Pc.topS 13) ["program", "place"] (fun fd F => F.binds fun _ _ _ _ _ _ us hl => match us, hl with | [_, _], _ => rfl) (by k_is) (by k_is) (by k_is) (by k_is)
    obtain ⟨f_calls_standing, d_calls_standing⟩ := Pc.ex_def KX G "calls_standing" (Pc.topS 14) ["program"] (fun fd F => F.binds fun _ _ _ _ _ _ us hl => match us, hl with | [_], _ => rfl) (by k_is) (by k_is) (by k_is) (by k_is)
    obtain ⟨f_has_wrong_name, d_has_wrong_name⟩ := Pc.ex_def KX G "has_wrong_name" (Pc.topS 30) ["names"] (fun fd F => F.binds fun _ _ _ _ _ _ us hl => match us, hl with | [_], _ => rfl) (by k_is) (by k_is) (by k_is) (by k_is)
    obtain ⟨f_is_wrong_target, d_is_wrong_target⟩ := Pc.ex_def KX G "is_wrong_target" (Pc.topS 31) ["block"] (fun fd F => F.binds fun _ _ _ _ _ _ us hl => match us, hl with | [_], _ => rfl) (by k_is) (by k_is) (by k_is) (by k_is)
    obtain ⟨f_add_function, d_add_function⟩ := Pc.ex_def KX G "add_function" (Pc.topS 32) ["program", "k"] (fun fd F => F.binds fun _ _ _ _ _ _ us hl => match us, hl with | [_, _], _ => rfl) (by k_is) (by k_is) (by k_is) (by k_is)
    obtain ⟨f_add_block, d_add_block⟩ := Pc.ex_def KX G "add_block" (Pc.topS 33) ["program", "taken"] (fun fd F => F.binds fun _ _ _ _ _ _ us hl => match us, hl with | [_, _], _ => rfl) (by k_is) (by k_is) (by k_is) (by k_is)
    obtain ⟨f_put_row, d_put_row⟩ := Pc.ex_def KX G "put_row" (Pc.topS 34) ["program", "row", "names"] (fun fd F => F.binds fun _ _ _ _ _ _ us hl => match us, hl with | [_, _, _], _ => rfl) (by k_is) (by k_is) (by k_is) (by k_is)
    obtain ⟨f_add_num, d_add_num⟩ := Pc.ex_def KX G "add_num" (Pc.topS 35) ["program", "x", "n"] (fun fd F => F.binds fun _ _ _ _ _ _ us hl => match us, hl with | [_, _, _], _ => rfl) (by k_is) (by k_is) (by k_is) (by k_is)
    obtain ⟨f_add_two, d_add_two⟩ := Pc.ex_def KX G "add_two" (Pc.topS 36) ["program", "x", "o", "a", "b"] (fun fd F => F.binds fun _ _ _ _ _ _ us hl => match us, hl with | [_, _, _, _, _], _ => rfl) (by k_is) (by k_is) (by k_is) (by k_is)
    obtain ⟨f_add_say, d_add_say⟩ := Pc.ex_def KX G "add_say" (Pc.topS 37) ["program", "a"] (fun fd F => F.binds fun _ _ _ _ _ _ us hl => match us, hl with | [_, _], _ => rfl) (by k_is) (by k_is) (by k_is) (by k_is)
    obtain ⟨f_add_call, d_add_call⟩ := Pc.ex_def KX G "add_call" (Pc.topS 38) ["program", "x", "g", "handed"] (fun fd F => F.binds fun _ _ _ _ _ _ us hl => match us, hl with | [_, _, _, _], _ => rfl) (by k_is) (by k_is) (by k_is) (by k_is)
    obtain ⟨f_put_end, d_put_end⟩ := Pc.ex_def KX G "put_end" (Pc.topS 39) ["program", "ending"] (fun fd F => F.binds fun _ _ _ _ _ _ us hl => match us, hl with | [_, _], _ => rfl) (by k_is) (by k_is) (by k_is) (by k_is)
    obtain ⟨f_add_jump, d_add_jump⟩ := Pc.ex_def KX G "add_jump" (Pc.topS 40) ["program", "t", "handed"] (fun fd F => F.binds fun _ _ _ _ _ _ us hl => match us, hl with | [_, _, _], _ => rfl) (by k_is) (by k_is) (by k_is) (by k_is)
    obtain ⟨f_add_fork, d_add_fork⟩ := Pc.ex_def KX G "add_fork" (Pc.topS 41) ["program", "v", "t", "u", "n", "handed"] (fun fd F => F.binds fun _ _ _ _ _ _ us hl => match us, hl with | [_, _, _, _, _, _], _ => rfl) (by k_is) (by k_is) (by k_is) (by k_is)
    obtain ⟨f_add_give, d_add_give⟩ := Pc.ex_def KX G "add_give" (Pc.topS 42) ["program", "v"] (fun fd F => F.binds fun _ _ _ _ _ _ us hl => match us, hl with | [_, _], _ => rfl) (by k_is) (by k_is) (by k_is) (by k_is)
    obtain ⟨f_is_wrong_way, d_is_wrong_way⟩ := Pc.ex_def KX G "is_wrong_way" (Pc.topS 44) ["function", "t", "handed"] (fun fd F => F.binds fun _ _ _ _ _ _ us hl => match us, hl with | [_, _, _], _ => rfl) (by k_is) (by k_is) (by k_is) (by k_is)
    obtain ⟨f_is_wrong_ending, d_is_wrong_ending⟩ := Pc.ex_def KX G "is_wrong_ending" (Pc.topS 45) ["function", "ending"] (fun fd F => F.binds fun _ _ _ _ _ _ us hl => match us, hl with | [_, _], _ => rfl) (by k_is) (by k_is) (by k_is) (by k_is)
    obtain ⟨f_is_wrong_function, d_is_wrong_function⟩ := Pc.ex_def KX G "is_wrong_function" (Pc.topS 46) ["function"] (fun fd F => F.binds fun _ _ _ _ _ _ us hl => match us, hl with | [_], _ => rfl) (by k_is) (by k_is) (by k_is) (by k_is)
    obtain ⟨f_is_wrong_call, d_is_wrong_call⟩ := Pc.ex_def KX G "is_wrong_call" (Pc.topS 47) ["program", "row"] (fun fd F => F.binds fun _ _ _ _ _ _ us hl => match us, hl with | [_, _], _ => rfl) (by k_is) (by k_is) (by k_is) (by k_is)
    obtain ⟨f_is_sound, d_is_sound⟩ := Pc.ex_def KX G "is_sound" (Pc.topS 48) ["program"] (fun fd F => F.binds fun _ _ _ _ _ _ us hl => match us, hl with | [_], _ => rfl) (by k_is) (by k_is) (by k_is) (by k_is)
    obtain ⟨f_list_in_numbers, d_list_in_numbers⟩ := Pc.ex_def KX G "list_in_numbers" (Pc.topS 50) ["names"] (fun fd F => F.binds fun _ _ _ _ _ _ us hl => match us, hl with | [_], _ => rfl) (by k_is) (by k_is) (by k_is) (by k_is)
    obtain ⟨f_row_in_numbers, d_row_in_numbers⟩ := Pc.ex_def KX G "row_in_numbers" (Pc.topS 51) ["row"] (fun fd F => F.binds fun _ _ _ _ _ _ us hl => match us, hl with | [_], _ => rfl) (by k_is) (by k_is) (by k_is) (by k_is)
    obtain ⟨f_ending_in_numbers, d_ending_in_numbers⟩ := Pc.ex_def KX G "ending_in_numbers" (Pc.topS 52) ["ending"] (fun fd F => F.binds fun _ _ _ _ _ _ us hl => match us, hl with | [_], _ => rfl) (by k_is) (by k_is) (by k_is) (by k_is)
    obtain ⟨f_unended_in_numbers, d_unended_in_numbers⟩ := Pc.ex_def KX G "unended_in_numbers" (Pc.topS 53) ["block"] (fun fd F => F.binds fun _ _ _ _ _ _ us hl => match us, hl with | [_], _ => rfl) (by k_is) (by k_is) (by k_is) (by k_is)
    obtain ⟨f_function_in_numbers, d_function_in_numbers⟩ := Pc.ex_def KX G "function_in_numbers" (Pc.topS 54) ["function"] (fun fd F => F.binds fun _ _ _ _ _ _ us hl => match us, hl with | [_], _ => rfl) (by k_is) (by k_is) (by k_is) (by k_is)
    obtain ⟨f_program_in_numbers, d_program_in_numbers⟩ := Pc.ex_def KX G "program_in_numbers" (Pc.topS 55) ["program"] (fun fd F => F.binds fun _ _ _ _ _ _ us hl => match us, hl with | [_], _ => rfl) (by k_is) (by k_is) (by k_is) (by k_is)
    obtain ⟨C_Begun, f_Begun, d_Begun, N_Begun⟩ := Pc.ex_class KX G "Begun" "Begun.__init__" (L2.inClass (Pc.topS 70) 0) ["self", "f", "handed", "getter"] (fun fd F => F.binds fun _ _ _ _ _ _ us hl => match us, hl with | [_, _, _, _], _ => rfl) (by k_is) (by k_is) (by k_is) (by k_is) (by k_is) (by k_is) (by k_is) (by k_is) (by k_is) (by k_is) (by k_is) (by k_is) ["f", "b", "r", "getter", "words"] (List.forall_mem_cons.mpr ⟨by k_is, List.forall_mem_cons.mpr ⟨by k_is, List.forall_mem_cons.mpr ⟨by k_is, List.forall_mem_cons.mpr ⟨by k_is, List.forall_mem_cons.mpr ⟨by k_is, List.forall_mem_nil _⟩⟩⟩⟩⟩)
    obtain ⟨C_Run, f_Run, d_Run, N_Run⟩ := Pc.ex_class KX G "Run" "Run.__init__" (L2.inClass (Pc.topS 71) 0) ["self", "program", "f", "handed"] (fun fd F => F.binds fun _ _ _ _ _ _ us hl => match us, hl with | [_, _, _, _], _ => rfl) (by k_is) (by k_is) (by k_is) (by k_is) (by k_is) (by k_is) (by k_is) (by k_is) (by k_is) (by k_is) (by k_is) (by k_is) ["program", "begun", "said", "made", "failed", "given"] (List.forall_mem_cons.mpr ⟨by k_is, List.forall_mem_cons.mpr ⟨by k_is, List.forall_mem_cons.mpr ⟨by k_is, List.forall_mem_cons.mpr ⟨by k_is, List.forall_mem_cons.mpr ⟨by k_is, List.forall_mem_cons.mpr ⟨by k_is, List.forall_mem_nil _⟩⟩⟩⟩⟩⟩)
    obtain ⟨f_result, d_result⟩ := Pc.ex_def KX G "result" (Pc.topS 72) ["o", "first", "second"] (fun fd F => F.binds fun _ _ _ _ _ _ us hl => match us, hl with | [_, _, _], _ => rfl) (by k_is) (by k_is) (by k_is) (by k_is)
    obtain ⟨f_word_of, d_word_of⟩ := Pc.ex_def KX G "word_of" (Pc.topS 73) ["begun", "name"] (fun fd F => F.binds fun _ _ _ _ _ _ us hl => match us, hl with | [_, _], _ => rfl) (by k_is) (by k_is) (by k_is) (by k_is)
    obtain ⟨f_words_of, d_words_of⟩ := Pc.ex_def KX G "words_of" (Pc.topS 74) ["begun", "names"] (fun fd F => F.binds fun _ _ _ _ _ _ us hl => match us, hl with | [_, _], _ => rfl) (by k_is) (by k_is) (by k_is) (by k_is)
    obtain ⟨f_do_two, d_do_two⟩ := Pc.ex_def KX G "do_two" (Pc.topS 75) ["run", "begun", "row"] (fun fd F => F.binds fun _ _ _ _ _ _ us hl => match us, hl with | [_, _, _], _ => rfl) (by k_is) (by k_is) (by k_is) (by k_is)
    obtain ⟨f_do_call, d_do_call⟩ := Pc.ex_def KX G "do_call" (Pc.topS 76) ["run", "begun", "row"] (fun fd F => F.binds fun _ _ _ _ _ _ us hl => match us, hl with | [_, _, _], _ => rfl) (by k_is) (by k_is) (by k_is) (by k_is)
    obtain ⟨f_do_row, d_do_row⟩ := Pc.ex_def KX G "do_row" (Pc.topS 77) ["run", "begun", "row"] (fun fd F => F.binds fun _ _ _ _ _ _ us hl => match us, hl with | [_, _, _], _ => rfl) (by k_is) (by k_is) (by k_is) (by k_is)
    obtain ⟨f_go_on, d_go_on⟩ := Pc.ex_def KX G "go_on" (Pc.topS 78) ["run", "begun", "t", "handed"] (fun fd F => F.binds fun _ _ _ _ _ _ us hl => match us, hl with | [_, _, _, _], _ => rfl) (by k_is) (by k_is) (by k_is) (by k_is)
    obtain ⟨f_give, d_give⟩ := Pc.ex_def KX G "give" (Pc.topS 79) ["run", "word"] (fun fd F => F.binds fun _ _ _ _ _ _ us hl => match us, hl with | [_, _], _ => rfl) (by k_is) (by k_is) (by k_is) (by k_is)
    obtain ⟨f_do_ending, d_do_ending⟩ := Pc.ex_def KX G "do_ending" (Pc.topS 80) ["run", "begun", "ending"] (fun fd F => F.binds fun _ _ _ _ _ _ us hl => match us, hl with | [_, _, _], _ => rfl) (by k_is) (by k_is) (by k_is) (by k_is)
    obtain ⟨f_do_step, d_do_step⟩ := Pc.ex_def KX G "do_step" (Pc.topS 81) ["run"] (fun fd F => F.binds fun _ _ _ _ _ _ us hl => match us, hl with | [_], _ => rfl) (by k_is) (by k_is) (by k_is) (by k_is)
    obtain ⟨f_run_of, d_run_of⟩ := Pc.ex_def KX G "run_of" (Pc.topS 82) ["program", "f", "n", "words"] (fun fd F => F.binds fun _ _ _ _ _ _ us hl => match us, hl with | [_, _, _, _], _ => rfl) (by k_is) (by k_is) (by k_is) (by k_is)
    obtain ⟨f_how_it_stands, d_how_it_stands⟩ := Pc.ex_def KX G "how_it_stands" (Pc.topS 83) ["run"] (fun fd F => F.binds fun _ _ _ _ _ _ us hl => match us, hl with | [_], _ => rfl) (by k_is) (by k_is) (by k_is) (by k_is)
    obtain ⟨f_times_made, d_times_made⟩ := Pc.ex_def KX G "times_made" (Pc.topS 84) ["run", "place"] (fun fd F => F.binds fun _ _ _ _ _ _ us hl => match us, hl with | [_, _], _ => rfl) (by k_is) (by k_is) (by k_is) (by k_is)
    obtain ⟨f_calls_made, d_calls_made⟩ := Pc.ex_def KX G "calls_made" (Pc.topS 85) ["run"] (fun fd F => F.binds fun _ _ _ _ _ _ us hl => match us, hl with | [_], _ => rfl) (by k_is) (by k_is) (by k_is) (by k_is)
    obtain ⟨f_names_in_row, d_names_in_row⟩ := Pc.ex_def KX G "names_in_row" (Pc.topS 87) ["row"] (fun fd F => F.binds fun _ _ _ _ _ _ us hl => match us, hl with | [_], _ => rfl) (by k_is) (by k_is) (by k_is) (by k_is)
    obtain ⟨f_names_in_ending, d_names_in_ending⟩ := Pc.ex_def KX G "names_in_ending" (Pc.topS 88) ["ending"] (fun fd F => F.binds fun _ _ _ _ _ _ us hl => match us, hl with | [_], _ => rfl) (by k_is) (by k_is) (by k_is) (by k_is)
    obtain ⟨f_names_of, d_names_of⟩ := Pc.ex_def KX G "names_of" (Pc.topS 89) ["function"] (fun fd F => F.binds fun _ _ _ _ _ _ us hl => match us, hl with | [_], _ => rfl) (by k_is) (by k_is) (by k_is) (by k_is)
    obtain ⟨f_other_names, d_other_names⟩ := Pc.ex_def KX G "other_names" (Pc.topS 90) ["function"] (fun fd F => F.binds fun _ _ _ _ _ _ us hl => match us, hl with | [_], _ => rfl) (by k_is) (by k_is) (by k_is) (by k_is)
    obtain ⟨f_first_free_name, d_first_free_name⟩ := Pc.ex_def KX G "first_free_name" (Pc.topS 91) ["function"] (fun fd F => F.binds fun _ _ _ _ _ _ us hl => match us, hl with | [_], _ => rfl) (by k_is) (by k_is) (by k_is) (by k_is)
    obtain ⟨f_names_above, d_names_above⟩ := Pc.ex_def KX G "names_above" (Pc.topS 92) ["names", "d"] (fun fd F => F.binds fun _ _ _ _ _ _ us hl => match us, hl with | [_, _], _ => rfl) (by k_is) (by k_is) (by k_is) (by k_is)
    obtain ⟨f_row_above, d_row_above⟩ := Pc.ex_def KX G "row_above" (Pc.topS 93) ["row", "d"] (fun fd F => F.binds fun _ _ _ _ _ _ us hl => match us, hl with | [_, _], _ => rfl) (by k_is) (by k_is) (by k_is) (by k_is)
    obtain ⟨f_block_of, d_block_of⟩ := Pc.ex_def KX G "block_of" (Pc.topS 95) ["taken", "rows", "ending"] (fun fd F => F.binds fun _ _ _ _ _ _ us hl => match us, hl with | [_, _, _], _ => rfl) (by k_is) (by k_is) (by k_is) (by k_is)
    obtain ⟨f_copied_ending, d_copied_ending⟩ := Pc.ex_def KX G "copied_ending" (Pc.topS 96) ["ending", "d", "n", "c"] (fun fd F => F.binds fun _ _ _ _ _ _ us hl => match us, hl with | [_, _, _, _], _ => rfl) (by k_is) (by k_is) (by k_is) (by k_is)
    obtain ⟨f_copied_blocks, d_copied_blocks⟩ := Pc.ex_def KX G "copied_blocks" (Pc.topS 97) ["called", "d", "n", "c"] (fun fd F => F.binds fun _ _ _ _ _ _ us hl => match us, hl with | [_, _, _, _], _ => rfl) (by k_is) (by k_is) (by k_is) (by k_is)
    obtain ⟨f_put_in, d_put_in⟩ := Pc.ex_def KX G "put_in" (Pc.topS 98) ["function", "functions", "b", "r"] (fun fd F => F.binds fun _ _ _ _ _ _ us hl => match us, hl with | [_, _, _, _], _ => rfl) (by k_is) (by k_is) (by k_is) (by k_is)
    obtain ⟨f_with_put_in, d_with_put_in⟩ := Pc.ex_def KX G "with_put_in" (Pc.topS 99) ["program", "places"] (fun fd F => F.binds fun _ _ _ _ _ _ us hl => match us, hl with | [_, _], _ => rfl) (by k_is) (by k_is) (by k_is) (by k_is)
    obtain ⟨C_Choice, f_Choice, d_Choice, N_Choice⟩ := Pc.ex_class KX G "Choice" "Choice.__init__" (L2.inClass (Pc.topS 101) 0) ["self", "places", "spared", "size"] (fun fd F => F.binds fun _ _ _ _ _ _ us hl => match us, hl with | [_, _, _, _], _ => rfl) (by k_is) (by k_is) (by k_is) (by k_is) (by k_is) (by k_is) (by k_is) (by k_is) (by k_is) (by k_is) (by k_is) (by k_is) ["places", "spared", "size"] (List.forall_mem_cons.mpr ⟨by k_is, List.forall_mem_cons.mpr ⟨by k_is, List.forall_mem_cons.mpr ⟨by k_is, List.forall_mem_nil _⟩⟩⟩)
    obtain ⟨f_function_size, d_function_size⟩ := Pc.ex_def KX G "function_size" (Pc.topS 102) ["function"] (fun fd F => F.binds fun _ _ _ _ _ _ us hl => match us, hl with | [_], _ => rfl) (by k_is) (by k_is) (by k_is) (by k_is)
    obtain ⟨f_program_size, d_program_size⟩ := Pc.ex_def KX G "program_size" (Pc.topS 103) ["program"] (fun fd F => F.binds fun _ _ _ _ _ _ us hl => match us, hl with | [_], _ => rfl) (by k_is) (by k_is) (by k_is) (by k_is)
    obtain ⟨f_may_be_put_in, d_may_be_put_in⟩ := Pc.ex_def KX G "may_be_put_in" (Pc.topS 104) ["program"] (fun fd F => F.binds fun _ _ _ _ _ _ us hl => match us, hl with | [_], _ => rfl) (by k_is) (by k_is) (by k_is) (by k_is)
    obtain ⟨f_all_choices, d_all_choices⟩ := Pc.ex_def KX G "all_choices" (Pc.topS 105) ["places"] (fun fd F => F.binds fun _ _ _ _ _ _ us hl => match us, hl with | [_], _ => rfl) (by k_is) (by k_is) (by k_is) (by k_is)
    obtain ⟨f_size_with, d_size_with⟩ := Pc.ex_def KX G "size_with" (Pc.topS 106) ["program", "own_sizes", "own_names", "places"] (fun fd F => F.binds fun _ _ _ _ _ _ us hl => match us, hl with | [_, _, _, _], _ => rfl) (by k_is) (by k_is) (by k_is) (by k_is)
    obtain ⟨f_is_better, d_is_better⟩ := Pc.ex_def KX G "is_better" (Pc.topS 107) ["one", "other"] (fun fd F => F.binds fun _ _ _ _ _ _ us hl => match us, hl with | [_, _], _ => rfl) (by k_is) (by k_is) (by k_is) (by k_is)
    obtain ⟨f_choice_for, d_choice_for⟩ := Pc.ex_def KX G "choice_for" (Pc.topS 108) ["program", "size", "run"] (fun fd F => F.binds fun _ _ _ _ _ _ us hl => match us, hl with | [_, _, _], _ => rfl) (by k_is) (by k_is) (by k_is) (by k_is)
    obtain ⟨f_tell_shows, d_tell_shows⟩ := Pc.ex_def KX G "tell_shows" (Pc.topS 112) ["program"] (fun fd F => F.binds fun _ _ _ _ _ _ us hl => match us, hl with | [_], _ => rfl) (by k_is) (by k_is) (by k_is) (by k_is)
    obtain ⟨f_run_refusal, d_run_refusal⟩ := Pc.ex_def KX G "run_refusal" (Pc.topS 113) ["program", "f", "n", "words"] (fun fd F => F.binds fun _ _ _ _ _ _ us hl => match us, hl with | [_, _, _, _], _ => rfl) (by k_is) (by k_is) (by k_is) (by k_is)
    obtain ⟨f_choice_refusal, d_choice_refusal⟩ := Pc.ex_def KX G "choice_refusal" (Pc.topS 114) ["program", "size", "f", "n", "words"] (fun fd F => F.binds fun _ _ _ _ _ _ us hl => match us, hl with | [_, _, _, _, _], _ => rfl) (by k_is) (by k_is) (by k_is) (by k_is)
    obtain ⟨f_run_in_numbers, d_run_in_numbers⟩ := Pc.ex_def KX G "run_in_numbers" (Pc.topS 115) ["run"] (fun fd F => F.binds fun _ _ _ _ _ _ us hl => match us, hl with | [_], _ => rfl) (by k_is) (by k_is) (by k_is) (by k_is)
    obtain ⟨f_tell_run, d_tell_run⟩ := Pc.ex_def KX G "tell_run" (Pc.topS 116) ["program", "f", "n", "words"] (fun fd F => F.binds fun _ _ _ _ _ _ us hl => match us, hl with | [_, _, _, _], _ => rfl) (by k_is) (by k_is) (by k_is) (by k_is)
    obtain ⟨f_tell_counts, d_tell_counts⟩ := Pc.ex_def KX G "tell_counts" (Pc.topS 117) ["program", "f", "n", "words"] (fun fd F => F.binds fun _ _ _ _ _ _ us hl => match us, hl with | [_, _, _, _], _ => rfl) (by k_is) (by k_is) (by k_is) (by k_is)
    obtain ⟨f_is_call_at, d_is_call_at⟩ := Pc.ex_def KX G "is_call_at" (Pc.topS 118) ["program", "f", "b", "r"] (fun fd F => F.binds fun _ _ _ _ _ _ us hl => match us, hl with | [_, _, _, _], _ => rfl) (by k_is) (by k_is) (by k_is) (by k_is)
    obtain ⟨f_tell_putin, d_tell_putin⟩ := Pc.ex_def KX G "tell_putin" (Pc.topS 119) ["program", "f", "b", "r"] (fun fd F => F.binds fun _ _ _ _ _ _ us hl => match us, hl with | [_, _, _, _], _ => rfl) (by k_is) (by k_is) (by k_is) (by k_is)
    obtain ⟨f_tell_choose, d_tell_choose⟩ := Pc.ex_def KX G "tell_choose" (Pc.topS 120) ["program", "size", "f", "n", "words"] (fun fd F => F.binds fun _ _ _ _ _ _ us hl => match us, hl with | [_, _, _, _, _], _ => rfl) (by k_is) (by k_is) (by k_is) (by k_is)
    obtain ⟨f_with_choice, d_with_choice⟩ := Pc.ex_def KX G "with_choice" (Pc.topS 121) ["program", "size", "f", "n", "words"] (fun fd F => F.binds fun _ _ _ _ _ _ us hl => match us, hl with | [_, _, _, _, _], _ => rfl) (by k_is) (by k_is) (by k_is) (by k_is)
    obtain ⟨f_tell_runchosen, d_tell_runchosen⟩ := Pc.ex_def KX G "tell_runchosen" (Pc.topS 122) ["program", "size", "f", "n", "words"] (fun fd F => F.binds fun _ _ _ _ _ _ us hl => match us, hl with | [_, _, _, _, _], _ => rfl) (by k_is) (by k_is) (by k_is) (by k_is)
    obtain ⟨f_tell_whole, d_tell_whole⟩ := Pc.ex_def KX G "tell_whole" (Pc.topS 123) ["program", "size", "f", "n", "words"] (fun fd F => F.binds fun _ _ _ _ _ _ us hl => match us, hl with | [_, _, _, _, _], _ => rfl) (by k_is) (by k_is) (by k_is) (by k_is)
    obtain ⟨f_split_calls, d_split_calls⟩ := Pc.ex_def KX G "split_calls" (Pc.topS 142) ["calls"] (fun fd F => F.binds fun _ _ _ _ _ _ us hl => match us, hl with | [_], _ => rfl) (by k_is) (by k_is) (by k_is) (by k_is)
    obtain ⟨f_build, d_build⟩ := Pc.ex_def KX G "build" (Pc.topS 143) ["program", "kind", "numbers", "listed"] (fun fd F => F.binds fun _ _ _ _ _ _ us hl => match us, hl with | [_, _, _, _], _ => rfl) (by k_is) (by k_is) (by k_is) (by k_is)
    obtain ⟨f_tell, d_tell⟩ := Pc.ex_def KX G "tell" (Pc.topS 144) ["program", "kind", "numbers", "listed"] (fun fd F => F.binds fun _ _ _ _ _ _ us hl => match us, hl with | [_, _, _, _], _ => rfl) (by k_is) (by k_is) (by k_is) (by k_is)
    obtain ⟨f_answer, d_answer⟩ := Pc.ex_def KX G "answer" (Pc.topS 145) ["program", "kind", "numbers", "listed"] (fun fd F => F.binds fun _ _ _ _ _ _ us hl => match us, hl with | [_, _, _, _], _ => rfl) (by k_is) (by k_is) (by k_is) (by k_is)
    obtain ⟨f_answers, d_answers⟩ := Pc.ex_def KX G "answers" (Pc.topS 146) ["calls"] (fun fd F => F.binds fun _ _ _ _ _ _ us hl => match us, hl with | [_], _ => rfl) (by k_is) (by k_is) (by k_is) (by k_is)
    let A : Pc.Adr := { C_Block := C_Block, f_Block := f_Block, C_Function := C_Function, f_Function := f_Function, C_Program := C_Program, f_Program := f_Program, f_calls_among := f_calls_among, f_all_calls := f_all_calls, f_row_at := f_row_at, f_calls_standing := f_calls_standing, f_has_wrong_name := f_has_wrong_name, f_is_wrong_target := f_is_wrong_target, f_add_function := f_add_function, f_add_block := f_add_block, f_put_row := f_put_row, f_add_num := f_add_num, f_add_two := f_add_two, f_add_say := f_add_say, f_add_call := f_add_call, f_put_end := f_put_end, f_add_jump := f_add_jump, f_add_fork := f_add_fork, f_add_give := f_add_give, f_is_wrong_way := f_is_wrong_way, f_is_wrong_ending := f_is_wrong_ending, f_is_wrong_function := f_is_wrong_function, f_is_wrong_call := f_is_wrong_call, f_is_sound := f_is_sound, f_list_in_numbers := f_list_in_numbers, f_row_in_numbers := f_row_in_numbers, f_ending_in_numbers := f_ending_in_numbers, f_unended_in_numbers := f_unended_in_numbers, f_function_in_numbers := f_function_in_numbers, f_program_in_numbers := f_program_in_numbers, C_Begun := C_Begun, f_Begun := f_Begun, C_Run := C_Run, f_Run := f_Run, f_result := f_result, f_word_of := f_word_of, f_words_of := f_words_of, f_do_two := f_do_two, f_do_call := f_do_call, f_do_row := f_do_row, f_go_on := f_go_on, f_give := f_give, f_do_ending := f_do_ending, f_do_step := f_do_step, f_run_of := f_run_of, f_how_it_stands := f_how_it_stands, f_times_made := f_times_made, f_calls_made := f_calls_made, f_names_in_row := f_names_in_row, f_names_in_ending := f_names_in_ending, f_names_of := f_names_of, f_other_names := f_other_names, f_first_free_name := f_first_free_name, f_names_above := f_names_above, f_row_above := f_row_above, f_block_of := f_block_of, f_copied_ending := f_copied_ending, f_copied_blocks := f_copied_blocks, f_put_in := f_put_in, f_with_put_in := f_with_put_in, C_Choice := C_Choice, f_Choice := f_Choice, f_function_size := f_function_size, f_program_size := f_program_size, f_may_be_put_in := f_may_be_put_in, f_all_choices := f_all_choices, f_size_with := f_size_with, f_is_better := f_is_better, f_choice_for := f_choice_for, f_tell_shows := f_tell_shows, f_run_refusal := f_run_refusal, f_choice_refusal := f_choice_refusal, f_run_in_numbers := f_run_in_numbers, f_tell_run := f_tell_run, f_tell_counts := f_tell_counts, f_is_call_at := f_is_call_at, f_tell_putin := f_tell_putin, f_tell_choose := f_tell_choose, f_with_choice := f_with_choice, f_tell_runchosen := f_tell_runchosen, f_tell_whole := f_tell_whole, f_split_calls := f_split_calls, f_build := f_build, f_tell := f_tell, f_answer := f_answer, f_answers := f_answers, c_WHOLE_NUMBERS := c_WHOLE_NUMBERS, c_HAS_LIST := c_HAS_LIST }
    have T : Pc.Top _ mg A := { g_ROW_NUM := g_ROW_NUM, g_ROW_TWO := g_ROW_TWO, g_ROW_SAY := g_ROW_SAY, g_ROW_CALL := g_ROW_CALL, g_END_JUMP := g_END_JUMP, g_END_FORK := g_END_FORK, g_END_GIVE := g_END_GIVE, g_GREATEST_NAME := g_GREATEST_NAME, g_GREATEST_OPERATION := g_GREATEST_OPERATION, g_GREATEST_CALLED := g_GREATEST_CALLED, g_FIRST_TARGET := g_FIRST_TARGET, g_LAST_TARGET := g_LAST_TARGET, g_MOST_WORDS := g_MOST_WORDS, g_MOST_FUNCTIONS := g_MOST_FUNCTIONS, g_MOST_BLOCKS := g_MOST_BLOCKS, g_MOST_TAKEN := g_MOST_TAKEN, g_MOST_ROWS := g_MOST_ROWS, g_MOST_CALLS := g_MOST_CALLS, g_MOST_HANDED_TO_FUNCTION := g_MOST_HANDED_TO_FUNCTION, g_MOST_HANDED_BY_JUMP := g_MOST_HANDED_BY_JUMP, g_MOST_HANDED_BY_FORK := g_MOST_HANDED_BY_FORK, g_WORDS := g_WORDS, g_BITS := g_BITS, g_SUM := g_SUM, g_LESS := g_LESS, g_PRODUCT := g_PRODUCT, g_AND := g_AND, g_OR := g_OR, g_EXCLUSIVE_OR := g_EXCLUSIVE_OR, g_UP := g_UP, g_DOWN := g_DOWN, g_IS_LESS := g_IS_LESS, g_IS_SAME := g_IS_SAME, g_QUOTIENT := g_QUOTIENT, g_MOST_STEPS := g_MOST_STEPS, g_NOT_REFUSED := g_NOT_REFUSED, g_FUNCTION := g_FUNCTION, g_BLOCK := g_BLOCK, g_NUM := g_NUM, g_TWO := g_TWO, g_SAY := g_SAY, g_CALL := g_CALL, g_JUMP := g_JUMP, g_FORK := g_FORK, g_GIVE := g_GIVE, g_SHOWS := g_SHOWS, g_RUN := g_RUN, g_COUNTS := g_COUNTS, g_PUTIN := g_PUTIN, g_CHOOSE := g_CHOOSE, g_RUNCHOSEN := g_RUNCHOSEN, g_WHOLE_NUMBERS := g_WHOLE_NUMBERS, s_WHOLE_NUMBERS := s_WHOLE_NUMBERS, g_HAS_LIST := g_HAS_LIST, s_HAS_LIST := s_HAS_LIST, z_any := z_any, z_len := z_len, z_list := z_list, z_range := z_range, z_reversed := z_reversed, z_set := z_set, z_sorted := z_sorted, z_sum := z_sum, z_tuple := z_tuple, d_Block := d_Block, n_Block_taken := N_Block "taken" (by decide), n_Block_rows := N_Block "rows" (by decide), n_Block_ending := N_Block "ending" (by decide), d_Function := d_Function, n_Function_handed := N_Function "handed" (by decide), n_Function_blocks := N_Function "blocks" (by decide), d_Program := d_Program, n_Program_functions := N_Program "functions" (by decide), n_Program_unended := N_Program "unended" (by decide), d_calls_among := d_calls_among, d_all_calls := d_all_calls, d_row_at := d_row_at, d_calls_standing := d_calls_standing, d_has_wrong_name := d_has_wrong_name, d_is_wrong_target := d_is_wrong_target, d_add_function := d_add_function, d_add_block := d_add_block, d_put_row := d_put_row, d_add_num := d_add_num, d_add_two := d_add_two, d_add_say := d_add_say, d_add_call := d_add_call, d_put_end := d_put_end, d_add_jump := d_add_jump, d_add_fork := d_add_fork, d_add_give := d_add_give, d_is_wrong_way := d_is_wrong_way, d_is_wrong_ending := d_is_wrong_ending, d_is_wrong_function := d_is_wrong_function, d_is_wrong_call := d_is_wrong_call, d_is_sound := d_is_sound, d_list_in_numbers := d_list_in_numbers, d_row_in_numbers := d_row_in_numbers, d_ending_in_numbers := d_ending_in_numbers, d_unended_in_numbers := d_unended_in_numbers, d_function_in_numbers := d_function_in_numbers, d_program_in_numbers := d_program_in_numbers, d_Begun := d_Begun, n_Begun_f := N_Begun "f" (by decide), n_Begun_b := N_Begun "b" (by decide), n_Begun_r := N_Begun "r" (by decide), n_Begun_getter := N_Begun "getter" (by decide), n_Begun_words := N_Begun "words" (by decide), d_Run := d_Run, n_Run_program := N_Run "program" (by decide), n_Run_begun := N_Run "begun" (by decide), n_Run_said := N_Run "said" (by decide), n_Run_made := N_Run "made" (by decide), n_Run_failed := N_Run "failed" (by decide), n_Run_given := N_Run "given" (by decide), d_result := d_result, d_word_of := d_word_of, d_words_of := d_words_of, d_do_two := d_do_two, d_do_call := d_do_call, d_do_row := d_do_row, d_go_on := d_go_on, d_give := d_give, d_do_ending := d_do_ending, d_do_step := d_do_step, d_run_of := d_run_of, d_how_it_stands := d_how_it_stands, d_times_made := d_times_made, d_calls_made := d_calls_made, d_names_in_row := d_names_in_row, d_names_in_ending := d_names_in_ending, d_names_of := d_names_of, d_other_names := d_other_names, d_first_free_name := d_first_free_name, d_names_above := d_names_above, d_row_above := d_row_above, d_block_of := d_block_of, d_copied_ending := d_copied_ending, d_copied_blocks := d_copied_blocks, d_put_in := d_put_in, d_with_put_in := d_with_put_in, d_Choice := d_Choice, n_Choice_places := N_Choice "places" (by decide), n_Choice_spared := N_Choice "spared" (by decide), n_Choice_size := N_Choice "size" (by decide), d_function_size := d_function_size, d_program_size := d_program_size, d_may_be_put_in := d_may_be_put_in, d_all_choices := d_all_choices, d_size_with := d_size_with, d_is_better := d_is_better, d_choice_for := d_choice_for, d_tell_shows := d_tell_shows, d_run_refusal := d_run_refusal, d_choice_refusal := d_choice_refusal, d_run_in_numbers := d_run_in_numbers, d_tell_run := d_tell_run, d_tell_counts := d_tell_counts, d_is_call_at := d_is_call_at, d_tell_putin := d_tell_putin, d_tell_choose := d_tell_choose, d_with_choice := d_with_choice, d_tell_runchosen := d_tell_runchosen, d_tell_whole := d_tell_whole, d_split_calls := d_split_calls, d_build := d_build, d_tell := d_tell, d_answer := d_answer, d_answers := d_answers }
    obtain ⟨fd, F, b⟩ := d_answers.fn
    have e : fa = f_answers := by
      have e1 := hmg.symm.trans d_answers.g
      cases e1
      rfl
    subst e
    exact ⟨fd, fun s us hu => Pc.binds_always F (fun _ _ _ _ _ _ us hl => match us, hl with | [_], _ => rfl) s us hu, fun base _ _ => Pc.fn_answers (A := A) T F⟩
  case S =>
    intro K H xs a hO hwi hask hx
    cases hx with
    | cons h1 h2 =>
      cases h2
      cases h1 with
      | lst hs ha =>
        have e := L2.ints_dw a.1 _ ha
        subst e
        exact ⟨_, a.1, rfl, hs, hask, fun H' p hp => .lst (L2.SqL.of hp) (L2.dw_ints _)⟩
