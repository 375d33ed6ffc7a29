import PyProof.Rows.All
import Wide.All
import OpenK.AllK
import Wide.FinOn
import Open.SpecLaws
import KE.OsHead
import KE.OsGo
import HandS.ForSpec
import HandS.ForMost
import HandS.More
import HandS.SortKw
import HandS.Keys
import HandS.DictEq
import HandS.DictComp
import HandS.WrittenGet
import HandS.Zip
import HandS.OwnEq
import Sq33Spec
import PySq33
import HandS.Walk
import PySem.Challenge.RW_binnedtrees_s01_answers
set_option Elab.async false
set_option linter.all false
set_option maxRecDepth 100000
set_option maxHeartbeats 4000000
namespace L2
open PySem PySem.Spec PyProof.Rows
/-! ## sorted(xs, key=f), f an own def that gives a new pair of ints -/
section
variable {X : Cx}
theorem call_sub {n : Nat} {A : Around} {f : Addr} {fd : FuncData} {ps : List Str} {sp : Sp} {pins : List (Addr × Obj)} {σ : St} {H : Hp} {s : Shared} {Q : VK} {us : List Value} {vs : List V} {E : Value → Shared → Prop} (sb : Sub X n A) (F : FnOk X.prog X.w X.K X.mg X.base CX0 n f fd ps sp) (hb : Binds X.K fd ps [])
    (I : Inv X pins σ H s) (r : Vals vs us) (h : sp vs H Q E0) : wpAny (model X.prog X.w) A (call (.ref f) us) (EP X pins σ Q) E s := by
  have hl : us.length = ps.length := by rw [← r.length]; exact F.len _ _ _ _ h
  have e0 : Env0 X.prog X.w X.K X.mg X.base A X.stack s H := by
    have e := I.env0
    exact ⟨by rw [sb.fr]; exact e.frames, e.mod, e.bs, e.bsz, e.funs, e.frf, e.hok, e.bare⟩
  refine wpAny_call (codeAny_mono (F.run A X.stack s H ⟨us, []⟩ us vs Q E0 sb.room e0 (by
    have := hb s us I.kIn (by simpa using hl)
    simpa using this) r h) fun r s' hq => ?_)
  cases r with
  | error e => exact hq.elim
  | ok fl =>
    cases fl with
    | ret u => exact I.after hq
    | next => exact False.elim hq
    | brk => exact False.elim hq
    | cont => exact False.elim hq
/-- the pair that stands at a value -/
def pairOf (H : Hp) (v : V) : Int × Int := match v with
  | .ref a => match H a with
    | some (.tup [.int i, .int j]) => (i, j)
    | _ => (0, 0)
  | _ => (0, 0)
theorem pairOf_eq {H : Hp} {a : Addr} {i j : Int} (h : H a = some (.tup [.int i, .int j])) : pairOf H (.ref a) = (i, j) := by
  unfold pairOf
  simp only [h]
def rSortBy (K : PySem.W.Frag) (f : Addr) (sp : Sp) : List V → List V → Hp → VK → Prop := fun vs zs H Q => ∃ (a : Addr) (xs : List V) (k : V → Int × Int), vs = [V.ref a] ∧ zs = [V.ref f] ∧ SqL K H a xs ∧ (∀ x ∈ xs, ∃ b, x = V.ref b) ∧
  (∀ x ∈ xs, ∀ H1 : Hp, Ext H H1 → sp [x] H1 (fun v H2 => ∃ t, v = V.ref t ∧ Ext H1 H2 ∧ H2 t = some (.tup [.int (k x).1, .int (k x).2])) E0) ∧
  ∀ (ys : List V) (p : Addr) (H' : Hp), ys.Perm xs → SrtO.Srtd (ltP k) ys → Ext H H' → H p = none → H' p = some (.lst ys) → Q (.ref p) H'
/-- what the keys' loop keeps: the keys made so far stand in the store -/
structure Keyd (X : Cx) (pins : List (Addr × Obj)) (σ : St) (H : Hp) (kS : Addr) (k : V → Int × Int) (xs : List V) (i : Nat) (s : Shared) : Prop where
  ex : ∃ (H1 : Hp) (ts : List Addr), Inv X pins σ H1 s ∧ Ext H H1 ∧ H kS = none ∧ H1 kS = some (.lst (ts.map V.ref)) ∧ ts.length = i ∧ ∀ (j : Nat) (t : Addr) (x : V), ts[j]? = some t → xs[j]? = some x → H1 t = some (.tup [.int (k x).1, .int (k x).2])
theorem keyd_step {n : Nat} {A : Around} {f : Addr} {fd : FuncData} {ps : List Str} {sp : Sp} {pins : List (Addr × Obj)} {σ : St} {H : Hp} {kS : Addr} {k : V → Int × Int} {xs : List V} {i : Nat} {s : Shared} {x : V} {u : Value} (sb : Sub X n A) (F : FnOk X.prog X.w X.K X.mg X.base CX0 n f fd ps sp) (hb : Binds X.K fd ps [])
    (hz : xs.length ≤ sizeLine) (hx : xs[i]? = some x) (rx : RelV x u) (hsp : ∀ H1 : Hp, Ext H H1 → sp [x] H1 (fun v H2 => ∃ t, v = V.ref t ∧ Ext H1 H2 ∧ H2 t = some (.tup [.int (k x).1, .int (k x).2])) E0)
    (K : Keyd X pins σ H kS k xs i s) {E : Value → Shared → Prop} : wpAny (model X.prog X.w) A (call (.ref f) [u]) (fun v s1 => ∀ s2, (s2 = { s1 with heap := s1.heap.update kS (Obj.mapSeq (·.push v)) }) → (∃ its n, s1.heap.get? kS = some (seqObj "list" its n) ∧ its.size ≤ sizeLine ∧ its.size + 1 ≤ sizeLine + 1) ∧ Keyd X pins σ H kS k xs (i + 1) s2) E s := by
  obtain ⟨H1, ts, I, ex, hn, hk, hl, ht⟩ := K
  refine wpAny_mono (call_sub sb F hb I (.cons rx .nil) (hsp H1 ex)) (fun v s1 hq => ?_) fun _ _ z => z
  obtain ⟨v', H2, I2, rv, t, rfl, ex2, h2⟩ := hq
  obtain rfl : v = Value.ref t := rv
  have hlt : i < xs.length := (List.getElem?_eq_some_iff.mp hx).1
  intro s2 es2
  subst es2
  have hk2 := ex2 _ _ hk
  obtain ⟨z, its, m, r, hl2, e⟩ := I2.lstM hk2
  have hil : its.length = i := by rw [← hl2, List.length_map, hl]
  refine ⟨⟨its.toArray, m, e, by rw [List.size_toArray]; omega, by rw [List.size_toArray]; omega⟩, ?_⟩
  have I3 := I2.lset (f := (·.push (Value.ref t))) (its' := its ++ [Value.ref t]) (ys := (ts ++ [t]).map V.ref) (t' := s1.toks) hk2 e (by simp) (by
    rw [List.map_append]
    exact r.append (.cons rfl .nil)) (by rw [List.length_map, List.length_append, List.length_singleton]; omega)
  have ne : ∀ b o, H2 b = some o → (∀ ys, o ≠ .lst ys) → b ≠ kS := fun b o e1 z e2 => by
    subst e2
    rw [hk2] at e1
    exact z _ (Option.some.inj e1).symm
  refine ⟨upd H2 kS (.lst ((ts ++ [t]).map V.ref)), ts ++ [t], I3, fun b o e1 => ?_, hn, upd_same, by rw [List.length_append, List.length_singleton, hl], fun j t' x' h1 h3 => ?_⟩
  · rw [upd_ne (ne_of_none e1 hn)]
    exact ex2 _ _ (ex _ _ e1)
  · have h4 : H2 t' = some (.tup [.int (k x').1, .int (k x').2]) := by
      by_cases c : j < ts.length
      · rw [List.getElem?_append_left c] at h1
        exact ex2 _ _ (ht j t' x' h1 h3)
      · have cj : j = i := by
          have := (List.getElem?_eq_some_iff.mp h1).1
          rw [List.length_append, List.length_singleton] at this
          omega
        subst cj
        rw [List.getElem?_append_right (by omega), hl, Nat.sub_self] at h1
        have e1 : t = t' := by simpa using h1
        rw [hx] at h3
        cases h3
        rw [← e1]
        exact h2
    rw [upd_ne (ne t' _ h4 fun ys z => by cases z)]
    exact h4
end
end L2
namespace SrtK
open PySem PyProof.Rows Srt SrtO
theorem by_tail {prog : Program} {w : World} {A : Around} {E : Value → Shared → Prop} {s : Shared} {D kS : Addr} {e1 m : Nat} {keys : Array Value} {st : SortSt} {P : PySem.Fin → Shared → Prop} (hD : s.heap.get? D = some (seqObj "list" #[] e1)) (hk : s.heap.get? kS = some (seqObj "list" keys m)) (ne : kS ≠ D)
    (hz : keys.size ≤ sizeLine) (ho : ((arrOf st).map (·.2)).size ≤ sizeLine + 1) (hf : failedOf st = none)
    (h : P (.done (.ret .none)) { s with heap := (s.heap.update kS (Obj.mapSeq fun _ => #[])).update D (Obj.mapSeq fun _ => (arrOf st).map (·.2)) }) :
    wpAny (model prog w) A (ksk_tail D false e1 (.ref kS) st) P E s := by
  have s1 := Heap.SameBut.update s.heap kS (Obj.mapSeq fun _ => (#[] : Array Value))
  have na1 : (s.heap.update kS (Obj.mapSeq fun _ => (#[] : Array Value))).get? D = some (seqObj "list" #[] e1) := (s1.2 D ne.symm).trans hD
  unfold ksk_tail
  try dsimp only
  refine wpAny_bind (listUpdate_at hk rfl ?_ hz (Nat.zero_le _))
  refine wpAny_bind (wpAny_letGo ?_)
  refine wpAny_bind (seqEpoch_at na1 rfl ?_)
  refine wpAny_bind (listUpdate_at na1 rfl ?_ (Nat.zero_le _) ho)
  rw [hf]
  simp only [bne_self_eq_false, Bool.false_eq_true, if_false]
  exact wpAny_pure h
theorem zip_list (keys : Array Value) (vs : List Value) : (keys.zip vs.toArray).toList = keys.toList.zip vs := by
  rw [Array.toList_zip]
theorem by_end {prog : Program} {w : World} {A : Around} {E : Value → Shared → Prop} {s : Shared} {D kS : Addr} {e1 m : Nat} {keys : Array Value} {its : List Value} {kT : Value → Int × Int} {P : PySem.Fin → Shared → Prop} (hD : s.heap.get? D = some (seqObj "list" #[] e1)) (hk : s.heap.get? kS = some (seqObj "list" keys m)) (ne : kS ≠ D)
    (hl : keys.size = its.length) (hz : its.length ≤ sizeLine) (hp : ∀ v ∈ keys.toList, IsPair s.heap v (kT v).1 (kT v).2)
    (h : ∀ ps : List Keyed, ps.Perm (keys.toList.zip its) → ps.Pairwise (fun p q => lexB (kT q.1) (kT p.1) = false) →
      P (.done (.ret .none)) { s with heap := (s.heap.update kS (Obj.mapSeq fun _ => #[])).update D (Obj.mapSeq fun _ => (ps.map (·.2)).toArray) }) :
    wpAny (model prog w) A (ksk_end D false its.toArray e1 (.ref kS) keys) P E s := by
  have O : Swo (lt2 fun v u => lexB (kT v) (kT u)) := swo2 (swo_lex kT)
  have hzs : (keys.zip its.toArray).size = its.length := by rw [Array.size_zip, hl, List.size_toArray, Nat.min_self]
  have fin : ∀ st' : SortSt, Srtd (lt2 fun v u => lexB (kT v) (kT u)) (arrOf st').toList → Stb (lt2 fun v u => lexB (kT v) (kT u)) (arrOf st').toList (keys.zip its.toArray).toList → failedOf st' = none →
      wpAny (model prog w) A (ksk_tail D false e1 (.ref kS) st') P E s := by
    intro st' h1 h2 h3
    have hlen : (arrOf st').size = its.length := by
      have := h2.len
      rw [Array.length_toList, Array.length_toList, hzs] at this
      exact this
    refine by_tail hD hk ne (by rw [hl]; exact hz) (by rw [Array.size_map, hlen]; omega) h3 ?_
    have h4 := h (arrOf st').toList (by rw [← zip_list]; exact h2.perm) h1
    have e : ((arrOf st').toList.map (·.2)).toArray = (arrOf st').map (·.2) := by
      apply Array.ext'
      rw [Array.toList_map]
    rw [e] at h4
    exact h4
  unfold ksk_end
  simp only [Bool.false_eq_true, if_false]
  by_cases h2 : its.toArray.size < 2
  · rw [if_pos h2, if_pos h2]
    refine wpAny_bind (wpAny_pure ?_)
    rw [StateT.run_pure]
    refine wpAny_bind (wpAny_pure ?_)
    try dsimp only
    refine fin (SortSt.mk' general' (keys.zip its.toArray) #[] 7 none) ?_ (Stb.refl _) rfl
    show Srtd _ (keys.zip its.toArray).toList
    rw [List.size_toArray] at h2
    have hl2 : (keys.zip its.toArray).toList.length < 2 := by rw [Array.length_toList, hzs]; exact h2
    match (keys.zip its.toArray).toList, hl2 with
    | [], _ => exact List.Pairwise.nil
    | [v], _ => exact List.pairwise_singleton _ _
    | _ :: _ :: l, q => exact absurd q (by rw [List.length_cons, List.length_cons]; omega)
  · rw [if_neg h2, if_neg h2]
    rw [List.size_toArray] at h2
    have hS := pairs_sortableO (prog := prog) (w := w) (A := A) (s := s) (a := D) (vs := keys.toList) (k := kT) (by rw [Array.length_toList]; omega) hp fun o e => by
      rw [hD] at e
      cases e
      intro c
      exact absurd (Value.type.inj c) (by decide)
    obtain ⟨κ, hkind, hT⟩ := hS s.heap fun _ _ _ e => e
    rw [Array.toArray_toList] at hkind
    refine wpAny_bind (hkind _ _ ?_)
    have hall : AllL (fun p : Keyed => p.1 ∈ keys.toList) (keys.zip its.toArray).toList := fun p hm => by
      rw [zip_list] at hm
      exact (List.of_mem_zip hm).1
    refine wpAny_bind (wpAny_mono (wpS_sortO (st0 := SortSt.mk' κ (keys.zip its.toArray) #[] 7 none)
      (Q := fun _ st' => Srtd (lt2 fun v u => lexB (kT v) (kT u)) (arrOf st').toList ∧ Stb (lt2 fun v u => lexB (kT v) (kT u)) (arrOf st').toList (keys.zip its.toArray).toList ∧ failedOf st' = none) O hT rfl hall rfl rfl fun st' a1 a2 a3 => ⟨a1, a2, a3⟩) ?_ fun _ _ e => e)
    rintro ⟨⟨⟩, st'⟩ s' ⟨rfl, hp1, hp2, hf⟩
    try dsimp only
    exact fin st' hp1 hp2 hf
end SrtK
namespace L2
open PySem PySem.Spec PyProof.Rows
section
variable {X : Cx}
theorem zip_get {α β : Type} {l : List α} {m : List β} {p : α × β} (h : p ∈ l.zip m) : ∃ j : Nat, l[j]? = some p.1 ∧ m[j]? = some p.2 := by
  obtain ⟨j, hj, e⟩ := List.mem_iff_getElem.mp h
  rw [List.length_zip] at hj
  rw [List.getElem_zip] at e
  refine ⟨j, ?_, ?_⟩
  · rw [List.getElem?_eq_getElem (by omega)]
    exact congrArg some (congrArg Prod.fst e)
  · rw [List.getElem?_eq_getElem (by omega)]
    exact congrArg some (congrArg Prod.snd e)
theorem cr_sortedBy {n : Nat} {f : Addr} {fd : FuncData} {ps : List Str} {sp : Sp} (F : FnOk X.prog X.w X.K X.mg X.base CX0 n f fd ps sp) (hb : Binds X.K fd ps []) (hr : Room (n + 2) X.A) : CallRK X (.builtin "sorted") [Str.ofString "key"] (rSortBy X.K f sp) := by
  intro pins s σ H vs zs us ws Q I r rz h
  obtain ⟨a, xs, k, rfl, rfl, hs, hx, hsp, q⟩ := h
  obtain rfl := Vals.ref1 r
  obtain ⟨w1, rfl, ew⟩ := vals1 rz
  obtain rfl : w1 = Value.ref f := ew
  have sb : Sub X n X.A.in1.in1 := Sub.in1 (Sub.in1 (⟨hr, rfl⟩ : Sub X (n + 2) X.A))
  obtain ⟨its, rv, hl, hz⟩ := I.list hs
  have hzi : its.length ≤ sizeLine := by rw [← rv.length]; exact hz
  show wpAny _ _ (call (.builtin "sorted") [.ref a] [(Str.ofString "key", .ref f)]) _ _ _
  refine PyProof.Rows.call_function_entry_kw kind_sorted plain_sorted entry_sorted (ksk_s1 _ _) ?_
  unfold Builtin.«sorted»
  refine wpAny_bind (m := checkCount "sorted" 1 1 _) (wpAny_pure ?_)
  refine wpAny_bind (collect_list hl.isList ?_ hzi)
  refine wpAny_bind (wpAny_newList ?_ hzi)
  have hsz : ((s.heap.push (seqObj "list" #[] 0)).update s.heap.objs.size (Obj.mapSeq (· ++ its.toArray))).objs.size = s.heap.objs.size + 1 := by
    rw [Heap.size_update, size_push']
  have hoL : (((s.heap.push (seqObj "list" #[] 0)).update s.heap.objs.size (Obj.mapSeq (· ++ its.toArray))).push (seqObj "list" its.toArray 0)).get? (s.heap.objs.size + 1) = some (seqObj "list" its.toArray 0) := by
    rw [← hsz]; exact Heap.get?_push_size _ rfl
  have keep : ∀ b o, s.heap.get? b = some o → (((s.heap.push (seqObj "list" #[] 0)).update s.heap.objs.size (Obj.mapSeq (· ++ its.toArray))).push (seqObj "list" its.toArray 0)).get? b = some o := fun b o q => by
    have hlt : b < s.heap.objs.size := Heap.lt_size q
    refine Heap.get?_push_of_some _ ?_
    rw [Heap.get?_update_ne _ _ _ _ (Nat.ne_of_lt hlt)]
    exact Heap.get?_push_of_some _ q
  show wpAny _ _ _ _ _ { s with heap := ((s.heap.push (seqObj "list" #[] 0)).update s.heap.objs.size (Obj.mapSeq (· ++ its.toArray))).push (seqObj "list" its.toArray 0) }
  rw [hsz]
  generalize hD : s.heap.objs.size + 1 = D at hoL ⊢
  generalize hh1 : (((s.heap.push (seqObj "list" #[] 0)).update s.heap.objs.size (Obj.mapSeq (· ++ its.toArray))).push (seqObj "list" its.toArray 0)) = h1 at hoL keep ⊢
  have HDn : H D = none := I.hok.fresh (by omega)
  have fD : FpOk X pins H D := I.fpOk (by omega) HDn
  have I1 : Inv X pins σ H { s with heap := h1 } := I.kept (t' := s.toks) keep
  refine wpAny_bind (wpAny_holding (wpAny_call_entry_kw slot_list_sort ⟨_, hoL, rfl⟩ entry_list_sort ?body (ksk_l1 _ _)))
  case body =>
    show wpAny _ X.A.in1.in1 (Builtin.«list.sort» ⟨[.ref D], [(Str.ofString "key", .ref f)]⟩) _ _ _
    rw [ksk_t1]
    unfold ksk_tree
    refine wpAny_bind (listItems_at hoL rfl ?_)
    refine wpAny_bind (listUpdate_at hoL rfl ?_ (by rw [List.size_toArray]; exact hzi) (Nat.zero_le _))
    obtain ⟨e1, ho1⟩ : ∃ e1, (h1.update D (Obj.mapSeq fun _ => (#[] : Array Value))).get? D = some (seqObj "list" #[] e1) := ⟨_, get?_update_seq hoL fun _ => #[]⟩
    have sD := Heap.SameBut.update h1 D (Obj.mapSeq fun _ => (#[] : Array Value))
    have I2 : Inv X pins σ H { s with heap := h1.update D (Obj.mapSeq fun _ => (#[] : Array Value)) } := I1.turned (t' := s.toks) (fun b o hb e => (sD.2 b hb).trans e) fD.1 fD.2.1 fD.2.2.2.1 fD.2.2.2.2.1 fD.2.2.2.2.2
    generalize hh2 : h1.update D (Obj.mapSeq fun _ => (#[] : Array Value)) = h2 at ho1 I2 ⊢
    refine wpAny_bind (seqEpoch_at ho1 rfl ?_)
    refine wpAny_bind (wpAny_newTuple ?_ (by show its.length ≤ _; exact hzi))
    refine wpAny_bind (wpAny_newList ?_ (Nat.zero_le _))
    refine wpAny_holding ?_
    show wpAny _ _ _ _ _ { s with heap := (h2.push (seqObj "tuple" its.toArray 0)).push (seqObj "list" #[] 0) }
    have I3 : Inv X pins σ H { s with heap := h2.push (seqObj "tuple" its.toArray 0) } := I2.kept (t' := s.toks) fun b o e => Heap.get?_push_of_some _ e
    have ho3 : (h2.push (seqObj "tuple" its.toArray 0)).get? D = some (seqObj "list" #[] e1) := Heap.get?_push_of_some _ ho1
    generalize hh3 : h2.push (seqObj "tuple" its.toArray 0) = h3 at ho3 I3 ⊢
    have hS3 : H h3.objs.size = none := I3.hok.fresh (Nat.le_refl _)
    have I4 : Inv X pins σ (upd H h3.objs.size (.lst [])) { s with heap := h3.push (seqObj "list" #[] 0) } := I3.lnew (its := []) (t' := s.toks) .nil (Nat.zero_le _)
    have hDS : D < h3.objs.size := Heap.lt_size ho3
    have ho4 : (h3.push (seqObj "list" #[] 0)).get? D = some (seqObj "list" #[] e1) := Heap.get?_push_of_some _ ho3
    generalize hkS : h3.objs.size = kS at hS3 I4 hDS ⊢
    generalize hh4 : h3.push (seqObj "list" #[] 0) = h4 at ho4 I4 ⊢
    have fD4 : ∀ b ∈ [D], FpOk X pins (upd H kS (.lst [])) b := fun b hb => by
      rw [List.mem_singleton.mp hb]
      exact ⟨by rw [upd_ne (Nat.ne_of_lt hDS)]; exact fD.1, fD.2⟩
    have I5 := I4.pinned (fp := [D]) fD4 fun b hb => by
      rw [List.mem_singleton.mp hb]
      exact ⟨_, ho4, fun v z => by cases z⟩
    have hpD : pinsAt [D] h4 = [(D, seqObj "list" #[] e1)] := by
      unfold pinsAt
      simp [ho4]
    rw [show ({ s with heap := h4 } : Shared).heap = h4 from rfl, hpD] at I5
    unfold ksk_rest
    refine wpAny_bind (wpAny_rule ?_)
    rw [List.forIn_toArray]
    have hv : ∀ (i : Nat) (u : Value), its[i]? = some u → ∃ x, xs[i]? = some x ∧ RelV x u := fun i u e => by
      have hi : i < xs.length := by
        rw [rv.length]
        exact (List.getElem?_eq_some_iff.mp e).1
      obtain ⟨u', e', r'⟩ := rv.get (List.getElem?_eq_getElem hi)
      rw [e] at e'
      cases e'
      exact ⟨_, List.getElem?_eq_getElem hi, r'⟩
    refine wpAny_bind (ksk_fold (fun i s' => Keyd X (pins ++ [(D, seqObj "list" #[] e1)]) σ H kS k xs i s') its 0 { s with heap := h4 }
      ⟨upd H kS (.lst []), [], I5, fun b o e => by rw [upd_ne (ne_of_none e hS3)]; exact e, hS3, upd_same, rfl, fun j t x e => by simp at e⟩ ?step ?done)
    case step =>
      intro j u s' hu K
      rw [Nat.zero_add] at K ⊢
      obtain ⟨x, hx1, rx⟩ := hv j u hu
      have hmx : x ∈ xs := List.mem_of_getElem? hx1
      refine wpAny_bind (wpAny_attempt (wpAny_mono (keyd_step sb F hb hz hx1 rx (hsp x hmx) K) (fun v s1 hq => ?_) fun _ _ z => z))
      obtain ⟨⟨its1, m1, g1, g2, g3⟩, K2⟩ := hq _ rfl
      try dsimp only
      refine wpAny_bind (listUpdate_at g1 rfl ?_ g2 (Nat.le_trans (Nat.le_of_eq (Array.size_push ..)) g3))
      exact wpAny_pure ⟨rfl, K2⟩
    case done =>
      intro s' K
      rw [Nat.zero_add] at K
      obtain ⟨H1, ts, I6, ex6, _, hk6, hl6, ht6⟩ := K
      obtain ⟨z6, ks, m6, rk, hlk, gk⟩ := I6.lstM hk6
      have hpin := I6.pin (D, seqObj "list" #[] e1) (List.mem_append_right _ (List.mem_append_right _ (List.mem_singleton.mpr rfl)))
      refine wpAny_bind (listItems_at gk rfl ?_)
      obtain ⟨ek, eks⟩ := refs_back rk fun x m => by
        obtain ⟨t, _, rfl⟩ := List.mem_map.mp m
        exact ⟨t, rfl⟩
      have hkl : ks.length = its.length := by rw [← hlk, List.length_map, hl6]
      have kget : ∀ (j : Nat) (v : Value), ks[j]? = some v → ∃ t x u, v = Value.ref t ∧ ts[j]? = some t ∧ xs[j]? = some x ∧ its[j]? = some u ∧ RelV x u ∧ H1 t = some (.tup [.int (k x).1, .int (k x).2]) := fun j v e => by
        have hj : j < ks.length := (List.getElem?_eq_some_iff.mp e).1
        have hj2 : j < ts.length := by rw [← hlk, List.length_map] at hj; exact hj
        have hj3 : j < its.length := by omega
        obtain ⟨x, e3, r3⟩ := hv j _ (List.getElem?_eq_getElem hj3)
        have e4 : (ts.map V.ref)[j]? = some (V.ref ts[j]) := by rw [List.getElem?_map, List.getElem?_eq_getElem hj2] <;> rfl
        rw [ek, List.getElem?_map, e] at e4
        have e5 : backV v = V.ref ts[j] := Option.some.inj e4
        obtain ⟨t, rfl⟩ := eks v (List.mem_of_getElem? e)
        have e6 : t = ts[j] := by
          have := e5
          injection this
        refine ⟨t, x, _, rfl, by rw [e6]; exact List.getElem?_eq_getElem hj2, e3, List.getElem?_eq_getElem hj3, r3, ?_⟩
        rw [e6]
        exact ht6 j _ x (List.getElem?_eq_getElem hj2) e3
      refine SrtK.by_end (kT := fun v => pairOf H1 (backV v)) hpin.1 gk (fun z => by rw [z, hpin.2.1] at hk6; cases hk6) (by rw [List.size_toArray, hkl]) hzi (fun v hm => ?_) fun qs hq1 hq2 => ?_
      · rw [List.toList_toArray] at hm
        obtain ⟨j, e⟩ := List.getElem?_of_mem hm
        obtain ⟨t, x, u, rfl, _, _, _, _, h5⟩ := kget j v e
        have e5 : pairOf H1 (backV (Value.ref t)) = k x := pairOf_eq h5
        show Srt.IsPair s'.heap (Value.ref t) (pairOf H1 (backV (Value.ref t))).1 (pairOf H1 (backV (Value.ref t))).2
        rw [e5]
        obtain ⟨_, its2, r2, o, ho, hc, n2, hd⟩ := I6.hok _ _ h5
        obtain ⟨u1, u2, rfl, ri, rj⟩ := vals2 r2
        obtain ⟨t1, rfl⟩ := ri
        obtain ⟨t2, rfl⟩ := rj
        exact ⟨t, o, t1, t2, n2, rfl, ho, hc, hd⟩
      · rw [List.toList_toArray] at hq1
        have hpair : ∀ p ∈ qs, ∃ x, x ∈ xs ∧ RelV x p.2 ∧ backV p.2 = x ∧ pairOf H1 (backV p.1) = k x ∧ (∃ b, p.2 = Value.ref b) := fun p hp => by
          obtain ⟨j, g1, g2⟩ := zip_get (hq1.mem_iff.mp hp)
          obtain ⟨t, x, u, e1, _, e3, e4, r4, h5⟩ := kget j p.1 g1
          rw [g2] at e4
          cases e4
          have hm := List.mem_of_getElem? e3
          obtain ⟨b, rfl⟩ := hx x hm
          have e6 : p.2 = Value.ref b := r4
          refine ⟨_, hm, r4, by rw [e6]; rfl, by rw [e1]; exact pairOf_eq h5, b, e6⟩
        have hout : ∀ u ∈ qs.map (·.2), ∃ b, u = Value.ref b := fun u hu => by
          obtain ⟨p, hp, rfl⟩ := List.mem_map.mp hu
          exact (hpair p hp).elim fun x h => h.2.2.2.2
        have hperm : ((qs.map (·.2)).map backV).Perm xs := by
          have h1 := (hq1.map (·.2)).map backV
          rw [List.map_snd_zip (by omega)] at h1
          rw [(refs_back rv hx).1]
          exact h1
        have hsrt : SrtO.Srtd (ltP k) ((qs.map (·.2)).map backV) := by
          rw [List.map_map]
          show List.Pairwise _ _
          rw [List.pairwise_map]
          refine hq2.imp_of_mem fun {p q} hp hq h => ?_
          obtain ⟨x, _, _, e3, e4, _⟩ := hpair p hp
          obtain ⟨y, _, _, f3, f4, _⟩ := hpair q hq
          show SrtO.lexB (k (backV q.2)) (k (backV p.2)) = false
          rw [e3, f3, ← e4, ← f4]
          exact h
        have hlen : ((qs.map (·.2)).map backV).length ≤ sizeLine := by rw [hperm.length_eq]; exact hz
        have I7 := I6.lset (f := fun _ => (#[] : Array Value)) (its' := []) (ys := []) (t' := s'.toks) hk6 gk rfl .nil (Nat.zero_le _)
        have kne : kS ≠ D := fun z => by rw [z, hpin.2.1] at hk6; cases hk6
        have I8 : Inv X pins σ (upd H1 kS (.lst [])) _ := I7.unpinned
        have na : (s'.heap.update kS (Obj.mapSeq fun _ => (#[] : Array Value))).get? D = some (seqObj "list" #[] e1) := by
          rw [Heap.get?_update_ne _ _ _ _ kne.symm]
          exact hpin.1
        have sD2 := Heap.SameBut.update (s'.heap.update kS (Obj.mapSeq fun _ => (#[] : Array Value))) D (Obj.mapSeq fun _ => (qs.map (·.2)).toArray)
        obtain ⟨e8, ho8⟩ : ∃ e8, ((s'.heap.update kS (Obj.mapSeq fun _ => (#[] : Array Value))).update D (Obj.mapSeq fun _ => (qs.map (·.2)).toArray)).get? D = some (seqObj "list" (qs.map (·.2)).toArray e8) := ⟨_, get?_update_seq na fun _ => (qs.map (·.2)).toArray⟩
        have fD8 : FpOk X pins (upd H1 kS (.lst [])) D := ⟨by rw [upd_ne kne.symm]; exact hpin.2.1, fD.2⟩
        have I9 := I8.take (t' := s'.toks) (o := .lst ((qs.map (·.2)).map backV)) (fun b o hb e => (sD2.2 b hb).trans e) fD8 (show ObjOk X.prog X.w _ _ _ (.lst ((qs.map (·.2)).map backV)) from ⟨hlen, _, e8, vals_back hout, ho8⟩)
        refine ⟨_, rfl, wpAny_pure ⟨_, rfl, .ref D, _, I9, rfl, q _ D _ hperm hsrt (fun b o e => ?_) HDn upd_same⟩⟩
        rw [upd_ne (ne_of_none e HDn), upd_ne (ne_of_none e hS3)]
        exact ex6 _ _ e
end
end L2
namespace L2
open PySem PySem.Spec PyProof.Rows
section
variable {X : Cx}
/-! ## sorted(d, reverse=True), keys ints, any number -/
def rSortDR : List V → List V → Hp → VK → Prop := fun xs zs H Q => ∃ (a : Addr) (kvs : List (Key × V)) (ks : List Int), xs = [.ref a] ∧ zs = [.bl true] ∧ Rd H a (.dK kvs) ∧ kvs.map (·.1) = ks.map Sum.inl ∧
    ∀ (ys : List Int) (p : Addr), ys.Perm ks → ys.Pairwise (· ≥ ·) → H p = none → Q (.ref p) (upd H p (.lst (ys.map V.int)))
theorem call_sortedDR (hcalm : X.calm = true) : CallRK X (.builtin "sorted") [Str.ofString "reverse"] rSortDR := by
  intro pins s σ H xs zs us ws Q I r rz q
  obtain ⟨a, kvs, ks, ex, ez, hd, hks, q⟩ := q
  subst ex
  subst ez
  obtain rfl := Vals.ref1 r
  obtain ⟨w1, rfl, ew⟩ := vals1 rz
  obtain rfl : w1 = Value.bool true := ew
  obtain ⟨z, lo, vs, rel, dd⟩ := dk_rd I.hok hd
  obtain ⟨ep, hat⟩ := dd.dictAt
  have hkeys : vs.map (·.1) = ks.map Sum.inl := rel.keys.symm.trans hks
  have hl : vs.length = ks.length := by
    have e := congrArg List.length hkeys
    rw [List.length_map, List.length_map] at e
    exact e
  have h16 : vs.length ≤ sizeLine := by rw [← rel.length]; exact z
  show wpAny _ _ (call (.builtin "sorted") [.ref a] [(Str.ofString "reverse", .bool true)]) _ _ _
  refine PyProof.Rows.call_function_entry_kw kind_sorted plain_sorted entry_sorted (PyProof.Rows.args_sorted_rev _ _) ?_
  unfold Builtin.«sorted»
  refine wpAny_bind (m := checkCount "sorted" 1 1 _) (wpAny_pure ?_)
  refine wpAny_bind (PySem.W.kdu_collect (A := X.A.in1) (PySem.W.kdl_dict (knd := mixKind X.prog X.w) (kvs := vs) (ep := ep) lo) (I.ok.hd hcalm) hat h16 fun h' tk acc hk hacc => ?_)
  have hal : acc.toList.length = ks.length := by rw [Array.length_toList, hacc.1, hl]
  have hS : IntsAre acc.toList ks := ints_each hal fun j v e => by
    obtain ⟨k, x, e1, e2⟩ := hacc.2 j v (by rw [← Array.getElem?_toList]; exact e)
    have e3 : (vs.map (·.1))[j]? = some k := by rw [List.getElem?_map, e1]; rfl
    rw [hkeys, List.getElem?_map] at e3
    cases e4 : ks[j]? with
    | none => rw [e4] at e3; cases e3
    | some y =>
      rw [e4] at e3
      have e5 : Sum.inl y = k := Option.some.inj e3
      subst e5
      rcases keyIs_shape (show keyIs (Sum.inl y) v = true from e2) with ⟨i, t, ek, ev⟩ | ⟨z, t, ek, ev⟩
      · cases ek
        exact ⟨y, t, rfl, ev⟩
      · cases ek
  have I1 : Inv X pins σ H { s with heap := h', toks := tk } := I.kept hk
  have hz2 : acc.toList.length ≤ sizeLine := by rw [hal, ← hl]; exact h16
  refine wpAny_bind (wpAny_newList ?_ hz2)
  have hoL : (h'.push (seqObj "list" acc.toList.toArray 0)).get? h'.objs.size = some (seqObj "list" acc.toList.toArray 0) := Heap.get?_push_size _ rfl
  show wpAny _ _ _ _ _ { s with heap := h'.push (seqObj "list" acc.toList.toArray 0), toks := tk }
  refine wpAny_bind (wpAny_holding (PyProof.Rows.wpAny_call_entry_kw PyProof.Rows.slot_list_sort ⟨_, hoL, rfl⟩ PyProof.Rows.entry_list_sort ?_ (PyProof.Rows.args_list_sort_rev _ _)))
  refine SrtR.list_sort_ordR (b := true) (s := { s with heap := h'.push (seqObj "list" acc.toList.toArray 0), toks := tk }) SrtO.swo_int hoL hz2 (fun h2 => SrtO.ints_sortable hS h2) fun out g1 g2 => ⟨_, rfl, ?_⟩
  obtain ⟨ns', k1, k2, k3⟩ := SrtR.ints_outR (b := true) hS g1 g2
  obtain ⟨e', he'⟩ := PyProof.Rows.sortedHeap_at (vs := acc.toList) (out := out.toArray.reverse) hoL
  have hlen : (ns'.map V.int).length ≤ sizeLine := by
    rw [List.length_map, k2.length_eq, ← hl]
    exact h16
  have k1' : IntsAre (out.toArray.reverse).toList ns' := k1
  refine wpAny_pure ⟨_, rfl, .ref h'.objs.size, upd H h'.objs.size (.lst (ns'.map V.int)), I1.laid (t' := tk) (fun b u e => ?_) (Nat.le_refl _)
    (show ObjOk X.prog X.w _ _ _ (.lst (ns'.map V.int)) from ⟨hlen, (out.toArray.reverse).toList, e', vals_of_ints k1', by rw [Array.toArray_toList]; exact he'⟩), rfl, q ns' _ k2 k3 (I1.hok.fresh (Nat.le_refl _))⟩
  have hb : b < h'.objs.size := Heap.lt_size e
  show (PyProof.Rows.sortedHeap _ _ _ _).get? b = some u
  rw [PyProof.Rows.sortedHeap_old (Nat.ne_of_lt hb) (by rw [size_push']; exact Nat.lt_succ_of_lt hb)]
  exact Heap.get?_push_of_some _ e
end
end L2
namespace PySem
open PySem.AutoSeq1
theorem list_extend_tupleO (l : Addr) (items : Array Value) (n : Nat) (b : Addr) (items2 : Array Value) (n2 : Nat) (dd : Option Addr) (sl : Array (Option Value)) (hs0 : ¬(!items.isEmpty && Builtin.List.listTooLong (items.size + items2.size)) = true) (hs1 : items.size ≤ sizeLine) (hs2 : items.size + items2.size ≤ sizeLine + 1) :
    Meets (Builtin.«list.extend» ⟨[.ref l, .ref b], []⟩) (fun _ R s => s.heap.get? l = some { cls := .type "list", dict := none, data := .seq items n, slots := #[] } ∧ s.heap.get? b = some { cls := .type "tuple", dict := dd, data := .seq items2 n2, slots := sl } ∧ R (.ok (.ret Value.none)) { s with heap := s.heap.update l (Obj.mapSeq fun x => x ++ items2), toks := s.toks }) :=
  .of_wp fun prog w A R s h => by
    obtain ⟨hp, g, d, tk, os⟩ := s; obtain ⟨hl, hb, h⟩ := h; have f1 := idx_int; have f2 := sub_tuple_tuple; have f3 := sub_list_list; have f4 := sub_tuple_list; have f5 := sub_list_tuple;
    have hz' : (items ++ items2).size ≤ sizeLine + 1 := by rw [Array.size_append]; exact hs2
    wp_walk using (wpAny_updateSeq hl rfl (hz := hs1) (_hz' := hz')), wpAny_loadPart' hl, wpAny_loadPart' hb; exact ⟨_, rfl, h⟩
end PySem
namespace L2
open PySem PySem.Spec PyProof.Rows
section
variable {X : Cx}
/-! ## xs.extend(t), t a tuple -/
def rExtendT : V → List V → Hp → VK → Prop := fun x vs H Q => ∃ l b xs zs, x = .ref l ∧ vs = [.ref b] ∧ H l = some (.lst xs) ∧ H b = some (.tup zs) ∧ xs.length + zs.length ≤ sizeLine ∧ Q .non (upd H l (.lst (xs ++ zs)))
theorem mt_extendT : MtM X "list.extend" rExtendT := by
  intro pins s σ H x vs v us Q I rx rv h
  obtain ⟨l, b, xs, zs, rfl, rfl, hH, hB, hz, q⟩ := h
  cases rx
  obtain ⟨u, rfl, ru⟩ := rv.one
  cases ru
  obtain ⟨z, its, n, r, hl, e⟩ := I.lstM hH
  obtain ⟨_, its2, r2, o, ho, hc, n2, hd⟩ := I.hok b _ hB
  have hl2 := r2.length
  have hsz : its.toArray.size + its2.toArray.size ≤ sizeLine := by rw [List.size_toArray, List.size_toArray]; omega
  have hlong : ¬ (!its.toArray.isEmpty && Builtin.List.listTooLong (its.toArray.size + its2.toArray.size)) = true := by
    rw [notLongL hsz, Bool.and_false]
    exact Bool.false_ne_true
  refine call_meets F.slot_list_extend ⟨_, e, rfl⟩ F.entry_list_extend (F.args_list_extend_2 _ _)
    (list_extend_tupleO l its.toArray n b its2.toArray n2 o.dict o.slots hlong (by rw [List.size_toArray]; omega) (by omega)) ⟨e, ?_, ?_⟩
  · rw [ho]
    obtain ⟨oc, od, oda, osl⟩ := o
    cases hc
    cases hd
    rfl
  · refine ⟨.non, _, I.lset (its' := its ++ its2) hH e (by simp) (r.append r2) ?_, rfl, q⟩
    rw [List.length_append]
    omega
end
end L2
namespace L2
open PySem PySem.Spec PyProof.Rows
section
variable {X : Cx}
/-! ## d == e, two dicts of ints -/
def intB : V → Bool
  | .int _ => true
  | _ => false
def rEqDI : R2 := fun x y H Q => ∃ a b ks ls, x = .ref a ∧ y = .ref b ∧ H a = some (.dK ks) ∧ H b = some (.dK ls) ∧ (∀ p ∈ ks, intB p.2 = true) ∧ (∀ p ∈ ls, intB p.2 = true) ∧
  Q (.bl (ks.length == ls.length && ks.all fun p => decide (valV ls p.1 = some p.2))) H
theorem eqAt_ints {A : Around} {s : Shared} {x y : V} {u v : Value} (fx : intB x = true) (fy : intB y = true) (rx : RelV x u) (ry : RelV y v) : SeqAt.EqAt A s u v (decide (y = x)) := by
  cases x with
  | int i =>
    cases y with
    | int j =>
      have q := eqAt_V (A := A) (s := s) (y := .int i) (x := .int j) rx ry rfl rfl
      have e : eqV (.int i) (.int j) = decide ((V.int j) = V.int i) := by
        show (i == j) = _
        by_cases c : i = j
        · subst c
          rw [decide_eq_true rfl]
          exact beq_self_eq_true i
        · rw [decide_eq_false (fun z => c (V.int.inj z).symm)]
          exact beq_eq_false_iff_ne.mpr c
      rw [e] at q
      exact q
    | _ => cases fy
  | _ => cases fx
theorem hits_ints {A : Around} {s : Shared} {ls : List (Key × V)} {vb : List (Key × Value)} (rb : KV ls vb) (fl : ∀ p ∈ ls, intB p.2 = true) {ks : List (Key × V)} {va : List (Key × Value)} (ra : KV ks va) :
    (∀ p ∈ ks, intB p.2 = true) → PySem.W.KeqHits A s vb va (ks.all fun p => decide (valV ls p.1 = some p.2)) := by
  unfold KV at ra
  induction ra with
  | nil => intro _; exact .nil
  | @cons p q ps qs h t k =>
    intro hp
    obtain ⟨h1, h2⟩ := h
    obtain ⟨key, v⟩ := q
    have h1' : p.1 = key := h1
    have rr : RelO (valV ls p.1) (valueAt vb p.1) := rb.val p.1
    rw [List.all_cons]
    cases e : valV ls p.1 with
    | none =>
      rw [e] at rr
      rw [decide_eq_false (fun z => nomatch z), Bool.false_and]
      refine .miss ?_
      rw [← h1']
      cases e2 : valueAt vb p.1 with
      | none => rfl
      | some y => rw [e2] at rr; exact rr.elim
    | some u =>
      rw [e] at rr
      obtain ⟨y, hy, ry⟩ := rr.some_of
      rw [h1'] at hy
      have hu : intB u = true := by
        unfold valV at e
        cases e3 : ls.find? (fun kv => decide (kv.1 = p.1)) with
        | none => rw [e3] at e; cases e
        | some w =>
          rw [e3] at e
          have : w.2 = u := Option.some.inj e
          rw [← this]
          exact fl w (List.mem_of_find?_eq_some e3)
      have q1 := eqAt_ints (A := A) (s := s) (hp p List.mem_cons_self) hu h2 ry
      have e4 : decide (some u = some p.2) = decide (u = p.2) := by
        by_cases c : u = p.2
        · rw [c, decide_eq_true rfl, decide_eq_true rfl]
        · rw [decide_eq_false c, decide_eq_false fun z => c (Option.some.inj z)]
      rw [e4]
      exact .hit hy q1 (k fun p' hm => hp p' (List.mem_cons_of_mem _ hm))
theorem op_eq_dictI (hu : X.A.units < cLine) : OpR X (compareOp .Eq) rEqDI := by
  intro pins s σ H x y v u Q I rx ry h
  obtain ⟨a, b, ks, ls, rfl, rfl, ea, eb, fk, fl, q⟩ := h
  obtain rfl : v = Value.ref a := rx
  obtain rfl : u = Value.ref b := ry
  obtain ⟨_, ya, va, ra, da⟩ := (show ObjOk X.prog X.w H s.heap a (.dK ks) from I.hok a _ ea)
  obtain ⟨_, yb, vb, rb, db⟩ := (show ObjOk X.prog X.w H s.heap b (.dK ls) from I.hok b _ eb)
  refine PySem.W.keq_eq (knd := mixKind X.prog X.w) (r := ks.all fun p => decide (valV ls p.1 = some p.2)) ya yb da db hu (fun _ => hits_ints rb fl ra fk) (fin_bl I q ?_)
  rw [← ra.length, ← rb.length]
end
end L2
namespace L2
open PySem PySem.Spec PyProof.Rows
section
variable {X : Cx}
/-! ## d[k] of a written dict, keys ints -/
/-- at p stands, written, a dict of ints that holds u at i -/
def KInt (K : PySem.W.Frag) (p : Addr) (i : Int) (v : V) : Prop := ∃ (es : Array DictEntry) (n : Nat) (u : Value), K.lookup p = some ⟨.type "dict", none, .dict es n, #[]⟩ ∧ PySem.IntKeys es ∧ findBy Value.isInt es i = some u ∧ RelV v u
def rIxDI (K : PySem.W.Frag) : R2 := fun x y H Q => ∃ (p : Addr) (i : Int) (v : V), x = .ref p ∧ y = .int i ∧ KInt K p i v ∧ Q v H
theorem ix_kdictI : IxR X (rIxDI X.K) := by
  intro value slice pins s σ H x y v u Q I rx ry h hs
  obtain ⟨p, i, r, rfl, rfl, ⟨es, n, u0, hl, hk, e, ru⟩, q⟩ := h
  obtain rfl : v = Value.ref p := rx
  obtain ⟨t, rfl⟩ := ry
  have hm : s.heap.IntMap p (fun k => findBy Value.isInt es k) := ⟨_, es, n, I.kIn _ _ hl, rfl, rfl, hk, fun _ => rfl⟩
  exact tail_any hm.typeIs slot_dict_getitem.lookup (wpAny_getItem_intMap hm e ⟨r, H, I.tok _, ru, q⟩) hs
end
end L2
namespace My
open Sq28 (Place Tree)
/-! ## trees: the specification's sorted list and the dicts' list in the order of insertion -/
def Keys (T : List Place) : Prop := T.Pairwise fun p q => p.thing ≠ q.thing
def Asc (T : List Place) : Prop := T.Pairwise fun p q => p.thing < q.thing
theorem Asc.keys {T : List Place} (h : Asc T) : Keys T := h.imp fun h => Nat.ne_of_lt h
theorem Keys.perm {T t : List Place} (h : Keys t) (p : T.Perm t) : Keys T := by
  unfold Keys at *
  exact (p.pairwise_iff (R := fun p q : Place => p.thing ≠ q.thing) (fun {a b} h e => h e.symm)).mpr h
theorem get_some {T : List Place} {x : Nat} {p : Place} (h : Sq28.get T x = some p) : p ∈ T ∧ p.thing = x := by
  unfold Sq28.get at h
  exact ⟨List.mem_of_find?_eq_some h, by simpa using List.find?_some h⟩
theorem get_of : ∀ {T : List Place} {p : Place}, Keys T → p ∈ T → Sq28.get T p.thing = some p
  | q :: T, p, k, m => by
    unfold Keys at k
    rw [List.pairwise_cons] at k
    unfold Sq28.get
    rw [List.find?_cons]
    rcases List.mem_cons.mp m with rfl | m
    · simp
    · have := k.1 p m
      have e : (q.thing == p.thing) = false := by simpa using this
      rw [e]
      exact get_of k.2 m
theorem get_none {T : List Place} {x : Nat} (h : Sq28.get T x = none) : ∀ p ∈ T, p.thing ≠ x := by
  unfold Sq28.get at h
  intro p hp e
  rw [List.find?_eq_none] at h
  exact h p hp (by simpa using e)
theorem get_perm {T t : List Place} (k : Keys t) (p : T.Perm t) (x : Nat) : Sq28.get T x = Sq28.get t x := by
  have kT := k.perm p
  cases e : Sq28.get T x with
  | some q =>
    obtain ⟨m, rfl⟩ := get_some e
    exact (get_of k (p.mem_iff.mp m)).symm
  | none =>
    cases e' : Sq28.get t x with
    | none => rfl
    | some q =>
      obtain ⟨m, rfl⟩ := get_some e'
      exact absurd rfl (get_none e q (p.mem_iff.mpr m))
/-- what d[k] = v makes of the dicts -/
def ins (p : Place) (T : List Place) : List Place := if (T.any fun q => decide (q.thing = p.thing)) = true then T.map (fun q => if q.thing = p.thing then p else q) else T ++ [p]
theorem filter_ne {T : List Place} {x : Nat} (h : ∀ p ∈ T, p.thing ≠ x) : T.filter (fun q => decide (q.thing ≠ x)) = T := by
  rw [List.filter_eq_self]
  intro q hq
  exact decide_eq_true (h q hq)
theorem map_ne {T : List Place} {p : Place} (h : ∀ q ∈ T, q.thing ≠ p.thing) : T.map (fun q => if q.thing = p.thing then p else q) = T := by
  conv => rhs; rw [← List.map_id T]
  refine List.map_congr_left fun q hq => ?_
  rw [if_neg (h q hq)]
  rfl
theorem ins_perm : ∀ {T : List Place} (p : Place), Keys T → (ins p T).Perm (p :: T.filter fun q => decide (q.thing ≠ p.thing)) := by
  intro T p k
  by_cases a : (T.any fun q => decide (q.thing = p.thing)) = true
  · unfold ins
    rw [if_pos a]
    induction T with
    | nil => simp at a
    | cons q T ih =>
      unfold Keys at k
      rw [List.pairwise_cons] at k
      by_cases e : q.thing = p.thing
      · have hn : ∀ u ∈ T, u.thing ≠ p.thing := fun u hu z => k.1 u hu (e.trans z.symm)
        rw [List.map_cons, if_pos e, List.filter_cons_of_neg (by simpa using e), map_ne hn, filter_ne hn]
      · rw [List.map_cons, if_neg e, List.filter_cons_of_pos (by simpa using e)]
        have a' : (T.any fun q => decide (q.thing = p.thing)) = true := by
          rw [List.any_cons, decide_eq_false e, Bool.false_or] at a
          exact a
        exact ((ih k.2 a').cons q).trans (List.Perm.swap p q _)
  · unfold ins
    rw [if_neg a]
    have hn : ∀ u ∈ T, u.thing ≠ p.thing := fun u hu z => a (List.any_eq_true.mpr ⟨u, hu, decide_eq_true z⟩)
    rw [filter_ne hn]
    exact List.perm_append_singleton p T
theorem put_perm (p : Place) : ∀ t : List Place, (Sq28.put p t).Perm (p :: t.filter fun q => decide (q.thing ≠ p.thing)) := by
  intro t
  unfold Sq28.put
  refine List.perm_middle.trans (List.Perm.cons p ?_)
  induction t with
  | nil => exact List.Perm.refl _
  | cons q t ih =>
    by_cases h1 : q.thing < p.thing
    · rw [List.filter_cons_of_pos (by simpa using h1), List.filter_cons_of_neg (by simp; omega), List.filter_cons_of_pos (by simp; omega)]
      exact ih.cons q
    · by_cases h2 : p.thing < q.thing
      · rw [List.filter_cons_of_neg (by simpa using h1), List.filter_cons_of_pos (by simpa using h2), List.filter_cons_of_pos (by simp; omega)]
        exact List.perm_middle.trans (ih.cons q)
      · rw [List.filter_cons_of_neg (by simpa using h1), List.filter_cons_of_neg (by simpa using h2), List.filter_cons_of_neg (by simp; omega)]
        exact ih
theorem ins_put {T t : List Place} (p : Place) (k : Keys t) (h : T.Perm t) : (ins p T).Perm (Sq28.put p t) :=
  (ins_perm p (k.perm h)).trans (((h.filter _).cons p).trans (put_perm p t).symm)
theorem put_asc {t : List Place} (p : Place) (h : Asc t) : Asc (Sq28.put p t) := by
  unfold Sq28.put Asc
  unfold Asc at h
  rw [List.pairwise_append]
  refine ⟨h.filter _, ?_, ?_⟩
  · rw [List.pairwise_cons]
    exact ⟨fun q hq => by simpa using (List.mem_filter.mp hq).2, h.filter _⟩
  · intro a ha b hb
    have h1 : a.thing < p.thing := by simpa using (List.mem_filter.mp ha).2
    rcases List.mem_cons.mp hb with rfl | hb
    · exact h1
    · have h2 : p.thing < b.thing := by simpa using (List.mem_filter.mp hb).2
      omega
theorem put_mem {t : List Place} {p q : Place} (h : q ∈ Sq28.put p t) : q = p ∨ (q ∈ t ∧ q.thing ≠ p.thing) := by
  have := (put_perm p t).mem_iff.mp h
  rcases List.mem_cons.mp this with e | e
  · exact .inl e
  · exact .inr ⟨(List.mem_filter.mp e).1, by simpa using (List.mem_filter.mp e).2⟩
/-! ### no circles -/
def Rk (t : List Place) (r : Nat → Nat) : Prop := ∀ p ∈ t, r p.under < r p.thing
structure Ok (t : List Place) : Prop where
  keys : Keys t
  lo : ∀ p ∈ t, 2 ≤ p.thing ∧ p.thing < 64
  rk : ∃ r, Rk t r
theorem Ok.perm {T t : List Place} (h : Ok t) (p : T.Perm t) : Ok T :=
  ⟨h.keys.perm p, fun q hq => h.lo q (p.mem_iff.mp hq), h.rk.elim fun r hr => ⟨r, fun q hq => hr q (p.mem_iff.mp hq)⟩⟩
theorem Keys.nodup {t : List Place} (h : Keys t) : (t.map (·.thing)).Nodup := by
  unfold List.Nodup
  rw [List.pairwise_map]
  exact h
theorem Ok.len {t : List Place} (h : Ok t) : t.length ≤ 64 := by
  have := h.keys.nodup.length_le_of_subset (l₂ := List.range 64) (fun x hx => by
    obtain ⟨p, hp, rfl⟩ := List.mem_map.mp hx
    exact List.mem_range.mpr (h.lo p hp).2)
  rwa [List.length_map, List.length_range] at this
/-- the chain upward ends within f steps -/
def End (t : List Place) : Nat → Nat → Prop
  | 0, _ => False
  | f + 1, x => match Sq28.get t x with
    | none => True
    | some p => End t f p.under
theorem line_end {t : List Place} : ∀ {f x : Nat}, End t f x → Sq28.line t (f + 1) x = Sq28.line t f x
  | 0, _, h => h.elim
  | f + 1, x, h => by
    unfold End at h
    unfold Sq28.line
    cases e : Sq28.get t x with
    | none => rfl
    | some p =>
      rw [e] at h
      show x :: Sq28.line t (f + 1) p.under = x :: Sq28.line t f p.under
      rw [line_end h]
theorem line_not {t : List Place} {r : Nat → Nat} (hr : Rk t r) : ∀ {f x : Nat}, ¬ End t f x → (Sq28.line t f x).length = f ∧ (Sq28.line t f x).Nodup ∧ ∀ y ∈ Sq28.line t f x, y ∈ t.map (·.thing) ∧ r y ≤ r x
  | 0, _, _ => ⟨rfl, List.nodup_nil, fun y hy => by simp [Sq28.line] at hy⟩
  | f + 1, x, h => by
    unfold End at h
    unfold Sq28.line
    cases e : Sq28.get t x with
    | none =>
      rw [e] at h
      exact (h trivial).elim
    | some p =>
      rw [e] at h
      obtain ⟨m, rfl⟩ := get_some e
      obtain ⟨a, b, c⟩ := line_not hr h
      have hp := hr p m
      refine ⟨?_, ?_, ?_⟩
      · show (p.thing :: Sq28.line t f p.under).length = f + 1
        rw [List.length_cons, a]
      · show (p.thing :: Sq28.line t f p.under).Nodup
        rw [List.nodup_cons]
        exact ⟨fun z => by have := (c _ z).2; omega, b⟩
      · intro y hy
        rcases List.mem_cons.mp (show y ∈ p.thing :: Sq28.line t f p.under from hy) with rfl | hy
        · exact ⟨List.mem_map.mpr ⟨p, m, rfl⟩, Nat.le_refl _⟩
        · exact ⟨(c y hy).1, by have := (c y hy).2; omega⟩
theorem Ok.end_ {t : List Place} (h : Ok t) (x : Nat) : End t (t.length + 1) x := by
  obtain ⟨r, hr⟩ := h.rk
  refine Classical.byContradiction fun n => ?_
  obtain ⟨a, b, c⟩ := line_not hr n
  have := b.length_le_of_subset (l₂ := t.map (·.thing)) fun y hy => (c y hy).1
  rw [a, List.length_map] at this
  omega
theorem above_none {t : List Place} {x : Nat} (e : Sq28.get t x = none) : Sq28.above t x = [x] := by
  unfold Sq28.above Sq28.line
  rw [e]
theorem above_some {t : List Place} (h : Ok t) {x : Nat} {p : Place} (e : Sq28.get t x = some p) : Sq28.above t x = x :: Sq28.above t p.under := by
  have hE := h.end_ x
  unfold End at hE
  rw [e] at hE
  have h1 := line_end hE
  unfold Sq28.above
  conv => lhs; unfold Sq28.line
  rw [e]
  show x :: Sq28.line t t.length p.under = _
  rw [h1]
theorem line_congr {T t : List Place} (h : ∀ x, Sq28.get T x = Sq28.get t x) : ∀ f x, Sq28.line T f x = Sq28.line t f x
  | 0, _ => rfl
  | f + 1, x => by
    unfold Sq28.line
    rw [h x]
    cases Sq28.get t x with
    | none => rfl
    | some p =>
      show x :: _ = x :: _
      rw [line_congr h f]
theorem outcome_perm {T t : List Place} (k : Keys t) (p : T.Perm t) (d : Sq28.Deed) : Sq28.outcome T d = Sq28.outcome t d := by
  have hg := get_perm k p
  unfold Sq28.outcome Sq28.there Sq28.above
  rw [hg, p.length_eq, line_congr hg]
/-- a chain stays under ranks -/
theorem above_rk {t : List Place} (h : Ok t) {r : Nat → Nat} (hr : Rk t r) : ∀ (n x : Nat), r x < n → ∀ y ∈ Sq28.above t x, r y ≤ r x
  | 0, _, hn => absurd hn (Nat.not_lt_zero _)
  | n + 1, x, hn => by
    intro y hy
    cases e : Sq28.get t x with
    | none =>
      rw [above_none e] at hy
      rw [List.mem_singleton.mp hy]
      exact Nat.le_refl _
    | some p =>
      rw [above_some h e] at hy
      obtain ⟨m, rfl⟩ := get_some e
      have := hr p m
      rcases List.mem_cons.mp hy with rfl | hy
      · exact Nat.le_refl _
      · have := above_rk h hr n p.under (by omega) y hy
        omega
theorem above_self {t : List Place} (h : Ok t) (x : Nat) : x ∈ Sq28.above t x := by
  cases e : Sq28.get t x with
  | none => rw [above_none e]; exact List.mem_singleton.mpr rfl
  | some p => rw [above_some h e]; exact .head _
/-- the tree behind a move, as the dicts have it -/
def doneT (T : List Place) (d : Sq28.Deed) : List Place := if Sq28.outcome T d = 1 then ins ⟨d.thing, d.under, d.label⟩ T else T
theorem done_ok {t : List Place} (h : Ok t) {d : Sq28.Deed} (h2 : 2 ≤ d.thing) (h64 : d.thing < 64) (a : Asc t) : Ok (Sq28.done t d) := by
  unfold Sq28.done
  by_cases o : Sq28.outcome t d = 1
  · rw [if_pos o]
    refine ⟨(put_asc _ a).keys, fun p hp => ?_, ?_⟩
    · rcases put_mem hp with rfl | ⟨hp, _⟩
      · exact ⟨h2, h64⟩
      · exact h.lo p hp
    · obtain ⟨r, hr⟩ := h.rk
      have hc : d.thing ∉ Sq28.above t d.under := by
        unfold Sq28.outcome at o
        by_cases h1 : Sq28.there t d.under = false
        · rw [if_pos h1] at o; omega
        · rw [if_neg h1] at o
          by_cases h3 : (Sq28.above t d.under).contains d.thing = true
          · rw [if_pos h3] at o; omega
          · intro z
            exact h3 (List.contains_iff_mem.mpr z)
      refine ⟨fun x => if d.thing ∈ Sq28.above t x then r x + r d.under + 1 else r x, fun p hp => ?_⟩
      show (if d.thing ∈ Sq28.above t p.under then r p.under + r d.under + 1 else r p.under) < (if d.thing ∈ Sq28.above t p.thing then r p.thing + r d.under + 1 else r p.thing)
      rcases put_mem hp with rfl | ⟨hp, hn⟩
      · show (if d.thing ∈ Sq28.above t d.under then r d.under + r d.under + 1 else r d.under) < (if d.thing ∈ Sq28.above t d.thing then r d.thing + r d.under + 1 else r d.thing)
        rw [if_neg hc, if_pos (above_self h _)]
        omega
      · have e := above_some h (get_of h.keys hp)
        have lt := hr p hp
        by_cases c : d.thing ∈ Sq28.above t p.under
        · rw [if_pos c, if_pos (by rw [e]; exact .tail _ c)]
          omega
        · have hn' : d.thing ≠ p.thing := fun z => hn z.symm
          rw [if_neg c, if_neg (by rw [e]; intro z; rcases List.mem_cons.mp z with z | z; exact hn' z; exact c z)]
          exact lt
  · rw [if_neg o]
    exact h
theorem done_asc {t : List Place} (a : Asc t) (d : Sq28.Deed) : Asc (Sq28.done t d) := by
  unfold Sq28.done
  split
  · exact put_asc _ a
  · exact a
theorem done_perm {T t : List Place} (a : Asc t) (p : T.Perm t) (d : Sq28.Deed) : (doneT T d).Perm (Sq28.done t d) := by
  unfold doneT Sq28.done
  rw [outcome_perm a.keys p]
  split
  · exact ins_put _ a.keys p
  · exact p
/-- the dicts' list T stands for the specification's tree t -/
structure Tr (T t : List Place) : Prop where
  perm : T.Perm t
  asc : Asc t
  ok : Ok t
theorem Tr.nil : Tr [] [] := ⟨List.Perm.refl _, List.Pairwise.nil, List.Pairwise.nil, fun _ h => (nomatch h), fun _ => 0, fun _ h => (nomatch h)⟩
theorem Tr.okT {T t : List Place} (h : Tr T t) : Ok T := h.ok.perm h.perm
theorem Tr.done {T t : List Place} (h : Tr T t) {d : Sq28.Deed} (h2 : 2 ≤ d.thing) (h64 : d.thing < 64) : Tr (doneT T d) (Sq28.done t d) :=
  ⟨done_perm h.asc h.perm d, done_asc h.asc d, done_ok h.ok h2 h64 h.asc⟩
theorem Tr.get {T t : List Place} (h : Tr T t) (x : Nat) : Sq28.get T x = Sq28.get t x := get_perm h.ok.keys h.perm x
theorem Tr.outcome {T t : List Place} (h : Tr T t) (d : Sq28.Deed) : Sq28.outcome T d = Sq28.outcome t d := outcome_perm h.ok.keys h.perm d
theorem Tr.folds {T t : List Place} (h : Tr T t) : ∀ {l : List Sq28.Deed}, (∀ d ∈ l, 2 ≤ d.thing ∧ d.thing < 64) → Tr (l.foldl doneT T) (l.foldl Sq28.done t) := by
  intro l
  induction l generalizing T t with
  | nil => intro _; exact h
  | cons d l ih =>
    intro hl
    have hd := hl d (.head _)
    exact ih (h.done hd.1 hd.2) fun e he => hl e (.tail _ he)
/-- like dicts, like trees -/
theorem asc_ext {t u : List Place} (a : Asc t) (b : Asc u) (h : ∀ x, Sq28.get t x = Sq28.get u x) : t = u := by
  have mem : ∀ p, p ∈ t ↔ p ∈ u := fun p => ⟨fun m => (get_some ((h p.thing).symm.trans (get_of a.keys m))).1, fun m => (get_some ((h p.thing).trans (get_of b.keys m))).1⟩
  have nt : t.Nodup := a.imp fun h e => by subst e; omega
  have nu : u.Nodup := b.imp fun h e => by subst e; omega
  have hp : t.Perm u := by
    rw [List.perm_ext_iff_of_nodup nt nu]
    exact mem
  exact hp.eq_of_pairwise (fun x y _ _ h1 h2 => by omega) a b
theorem Tr.same {T t U u : List Place} (h : Tr T t) (k : Tr U u) : t = u ↔ ∀ x, Sq28.get T x = Sq28.get U x := by
  constructor
  · rintro rfl x
    rw [h.get, k.get]
  · intro e
    exact asc_ext h.asc k.asc fun x => by rw [← h.get, ← k.get, e]
/-! ### the loop upward -/
theorem within_stop {t : List Place} (h : Ok t) {x top : Nat} (e : Sq28.get t x = none ∨ x = top) : (Sq28.above t x).contains top = decide (x = top) := by
  by_cases c : x = top
  · rw [decide_eq_true c, ← c]
    exact List.contains_iff_mem.mpr (above_self h x)
  · rw [decide_eq_false c]
    rcases e with e | e
    · rw [above_none e]
      simp
      exact fun z => c z.symm
    · exact (c e).elim
theorem within_step {t : List Place} (h : Ok t) {x top : Nat} {p : Place} (c : x ≠ top) (e : Sq28.get t x = some p) : (Sq28.above t x).contains top = (Sq28.above t p.under).contains top := by
  rw [above_some h e, List.contains_cons]
  have : (top == x) = false := by simpa using fun z => c z.symm
  rw [this, Bool.false_or]
end My
namespace My
open Sq28 (Place Tree)
/-! ## all nodes below a node, by a stack -/
/-- the chain downward ends within f steps -/
def Dn (t : List Place) : Nat → Nat → Prop
  | 0, _ => False
  | f + 1, x => ∀ p ∈ Sq28.under t x, Dn t f p.thing
theorem under_mem {t : List Place} {x : Nat} {p : Place} : p ∈ Sq28.under t x ↔ p ∈ t ∧ p.under = x := by
  unfold Sq28.under
  rw [List.mem_filter]
  simp
theorem listed_dn {t : List Place} : ∀ {f d x : Nat}, Dn t f x → Sq28.listed t (f + 1) d x = Sq28.listed t f d x
  | 0, _, _, h => h.elim
  | f + 1, d, x, h => by
    show (Sq28.under t x).flatMap (fun p => (p, d) :: Sq28.listed t (f + 1) (d + 1) p.thing) = (Sq28.under t x).flatMap (fun p => (p, d) :: Sq28.listed t f (d + 1) p.thing)
    rw [List.flatMap_def, List.flatMap_def]
    congr 1
    refine List.map_congr_left fun p hp => ?_
    rw [listed_dn (h p hp)]
theorem dn_not {t : List Place} {r : Nat → Nat} (hr : Rk t r) : ∀ {f x : Nat}, ¬ Dn t f x → ∃ l : List Nat, l.length = f ∧ l.Nodup ∧ (∀ y ∈ l, y ∈ t.map (·.thing) ∧ r x < r y)
  | 0, _, _ => ⟨[], rfl, List.nodup_nil, fun y hy => nomatch hy⟩
  | f + 1, x, h => by
    have h' : ∃ p, p ∈ Sq28.under t x ∧ ¬ Dn t f p.thing := Classical.byContradiction fun n => h fun p hp => Classical.byContradiction fun z => n ⟨p, hp, z⟩
    obtain ⟨p, hp, hd⟩ := h'
    obtain ⟨m, e⟩ := under_mem.mp hp
    have lt := hr p m
    rw [e] at lt
    obtain ⟨l, a, b, c⟩ := dn_not hr hd
    refine ⟨p.thing :: l, by rw [List.length_cons, a], List.nodup_cons.mpr ⟨fun z => by have := (c _ z).2; omega, b⟩, fun y hy => ?_⟩
    rcases List.mem_cons.mp hy with rfl | hy
    · exact ⟨List.mem_map.mpr ⟨p, m, rfl⟩, lt⟩
    · exact ⟨(c y hy).1, by have := (c y hy).2; omega⟩
theorem Ok.dn {t : List Place} (h : Ok t) (x : Nat) : Dn t (t.length + 1) x := by
  obtain ⟨r, hr⟩ := h.rk
  refine Classical.byContradiction fun n => ?_
  obtain ⟨l, a, b, c⟩ := dn_not hr n
  have := b.length_le_of_subset (l₂ := t.map (·.thing)) fun y hy => (c y hy).1
  rw [a, List.length_map] at this
  omega
def L (t : List Place) (d x : Nat) : List (Place × Nat) := Sq28.listed t (t.length + 1) d x
theorem L_eq {t : List Place} (h : Ok t) (d x : Nat) : L t d x = (Sq28.under t x).flatMap fun p => (p, d) :: L t (d + 1) p.thing := by
  have hd := h.dn x
  show (Sq28.under t x).flatMap (fun p => (p, d) :: Sq28.listed t t.length (d + 1) p.thing) = _
  rw [List.flatMap_def, List.flatMap_def]
  congr 1
  refine List.map_congr_left fun p hp => ?_
  have : Dn t t.length p.thing := hd p hp
  show (p, d) :: Sq28.listed t t.length (d + 1) p.thing = (p, d) :: Sq28.listed t (t.length + 1) (d + 1) p.thing
  rw [listed_dn this]
/-- how deep below top -/
def dep (t : List Place) (top x : Nat) : Nat := (Sq28.above t x).idxOf top
theorem dep_top {t : List Place} {top : Nat} (e : Sq28.get t top = none) : dep t top top = 0 := by
  unfold dep
  rw [above_none e]
  simp
theorem dep_child {t : List Place} (h : Ok t) {top : Nat} (ht : top < 2) {p : Place} (hp : p ∈ t) : dep t top p.thing = dep t top p.under + 1 := by
  unfold dep
  rw [above_some h (get_of h.keys hp), List.idxOf_cons]
  have : (p.thing == top) = false := by
    have := (h.lo p hp).1
    simp
    omega
  rw [this]
  rfl
/-- what a stack still lists: each node, with how deep it is -/
def F (t : List Place) (top : Nat) (S : List Nat) : List (Nat × Nat) := S.flatMap fun x => (x, dep t top x) :: (L t (dep t top x + 1) x).map fun q => (q.1.thing, q.2)
theorem F_cons {t : List Place} (h : Ok t) {top : Nat} (ht : top < 2) (x : Nat) (S : List Nat) :
    F t top (x :: S) = (x, dep t top x) :: F t top ((Sq28.under t x).map (·.thing) ++ S) := by
  unfold F
  rw [List.flatMap_cons, List.flatMap_append, List.flatMap_map, List.cons_append]
  congr 2
  rw [L_eq h, List.map_flatMap, List.flatMap_def, List.flatMap_def]
  congr 1
  refine List.map_congr_left fun p hp => ?_
  obtain ⟨m, e⟩ := under_mem.mp hp
  rw [dep_child h ht m, e]
  rfl
theorem F_len {t : List Place} {top : Nat} : ∀ S : List Nat, S.length ≤ (F t top S).length
  | [] => Nat.zero_le _
  | x :: S => by
    have := F_len (t := t) (top := top) S
    unfold F at this ⊢
    rw [List.flatMap_cons, List.length_append, List.length_cons, List.length_cons]
    omega
theorem listed_mem {t : List Place} : ∀ {f d x : Nat} {q : Place × Nat}, q ∈ Sq28.listed t f d x → q.1 ∈ t
  | 0, _, _, _, h => by simp [Sq28.listed] at h
  | f + 1, d, x, q, h => by
    unfold Sq28.listed at h
    rw [List.mem_flatMap] at h
    obtain ⟨p, hp, h⟩ := h
    rcases List.mem_cons.mp h with rfl | h
    · exact (under_mem.mp hp).1
    · exact listed_mem h
/-- all that is listed: the top itself, then the specification's rows -/
theorem F_top {t : List Place} (h : Ok t) {top : Nat} (ht : top < 2) : F t top [top] = (top, 0) :: (Sq28.all t top).map fun q => (q.1.thing, q.2) := by
  have e : Sq28.get t top = none := by
    cases e : Sq28.get t top with
    | none => rfl
    | some p =>
      obtain ⟨m, rfl⟩ := get_some e
      have := (h.lo p m).1
      omega
  unfold F
  rw [List.flatMap_cons, List.flatMap_nil, List.append_nil, dep_top e]
  rfl
/-- a row as the program has it: a node other than the top, its depth, its label -/
def lab (t : List Place) (x : Nat) : Nat := ((Sq28.get t x).map (·.label)).getD 0
def rows (t : List Place) (top : Nat) (out : List (Nat × Nat)) : List (Nat × Nat × Nat) := (out.filter fun q => decide (q.1 ≠ top)).map fun q => (q.1, q.2, lab t q.1)
theorem rows_all {t : List Place} (h : Ok t) {top : Nat} (ht : top < 2) : rows t top (F t top [top]) = (Sq28.all t top).map fun q => (q.1.thing, q.2, q.1.label) := by
  rw [F_top h ht]
  unfold rows
  rw [List.filter_cons_of_neg (by simp), List.filter_eq_self.mpr, List.map_map]
  · refine List.map_congr_left fun q hq => ?_
    have m := listed_mem (show q ∈ Sq28.listed t (t.length + 1) 1 top from hq)
    show (q.1.thing, q.2, lab t q.1.thing) = (q.1.thing, q.2, q.1.label)
    unfold lab
    rw [get_of h.keys m]
    rfl
  · intro q hq
    obtain ⟨u, hu, rfl⟩ := List.mem_map.mp hq
    have m := listed_mem (show u ∈ Sq28.listed t (t.length + 1) 1 top from hu)
    have := (h.lo _ m).1
    exact decide_eq_true (show u.1.thing ≠ top by omega)
theorem rows_snoc (t : List Place) (top : Nat) (out : List (Nat × Nat)) (q : Nat × Nat) : rows t top (out ++ [q]) = rows t top out ++ (if q.1 ≠ top then [(q.1, q.2, lab t q.1)] else []) := by
  unfold rows
  rw [List.filter_append, List.map_append]
  congr 1
  by_cases c : q.1 = top
  · rw [if_neg (fun z => z c), List.filter_cons_of_neg (by simpa using c)]
    rfl
  · rw [if_pos c, List.filter_cons_of_pos (by simpa using c)]
    rfl
/-- the dict's keys sorted downward are the tree's nodes backward -/
theorem sorted_desc {T t : List Place} (h : Tr T t) {ys : List Nat} (p : ys.Perm (T.map (·.thing))) (o : ys.Pairwise (· ≥ ·)) : ys = (t.map (·.thing)).reverse := by
  have p' : ys.Perm (t.map (·.thing)).reverse := p.trans ((h.perm.map _).trans (List.reverse_perm _).symm)
  refine p'.eq_of_pairwise (le := fun a b => a ≥ b) (fun x y _ _ h1 h2 => by omega) o ?_
  rw [List.pairwise_reverse, List.pairwise_map]
  exact h.asc.imp fun h => Nat.le_of_lt h
end My
namespace My
open Sq28 (Stamp Place Tree)
open Sq33 (Deed Desk House Letter Counts at_ most)
/-! ## the logs -/
def bef (a b : Deed) : Prop := a.move.stamp.before b.move.stamp = true
theorem before_iff (a b : Stamp) : a.before b = true ↔ a.count < b.count ∨ (a.count = b.count ∧ a.hand < b.hand) := by
  unfold Stamp.before
  simp [Bool.or_eq_true, Bool.and_eq_true]
theorem stamp_ext {a b : Stamp} (h1 : a.count = b.count) (h2 : a.hand = b.hand) : a = b := by
  cases a
  cases b
  simp at h1 h2
  rw [h1, h2]
theorem bef_tri (a b : Stamp) (h1 : ¬ a.before b = true) (h2 : ¬ b.before a = true) : a = b := by
  rw [before_iff] at h1 h2
  exact stamp_ext (by omega) (by omega)
theorem bef_trans {a b c : Stamp} (h1 : a.before b = true) (h2 : b.before c = true) : a.before c = true := by
  rw [before_iff] at *
  omega
theorem bef_irr {a b : Stamp} (h1 : a.before b = true) : a ≠ b := by
  rw [before_iff] at h1
  rintro rfl
  omega
theorem bef_asymm {a b : Stamp} (h1 : a.before b = true) : ¬ b.before a = true := by
  rw [before_iff] at *
  omega
def Sorted (l : List Deed) : Prop := l.Pairwise bef
theorem Sorted.nodup {l : List Deed} (h : Sorted l) : l.Nodup := h.imp fun h e => by subst e; exact bef_irr h rfl
theorem Sorted.inj : ∀ {l : List Deed}, Sorted l → ∀ a ∈ l, ∀ b ∈ l, a.move.stamp = b.move.stamp → a = b := by
  intro l h
  induction l with
  | nil => intro a ha; exact nomatch ha
  | cons c l ih =>
    unfold Sorted at h
    rw [List.pairwise_cons] at h
    intro a ha b hb e
    rcases List.mem_cons.mp ha with ea | ha'
    · rcases List.mem_cons.mp hb with eb | hb'
      · rw [ea, eb]
      · exact (bef_irr (h.1 b hb') (by rw [← ea, e])).elim
    · rcases List.mem_cons.mp hb with eb | hb'
      · exact (bef_irr (h.1 a ha') (by rw [← eb, e])).elim
      · exact ih h.2 a ha' b hb' e
theorem enter_ok : ∀ {l : List Deed} {d : Deed}, Sorted l → (∀ e ∈ l, d.move.stamp ≠ e.move.stamp) → Sorted (Sq33.enter d l) ∧ (Sq33.enter d l).Perm (d :: l)
  | [], d, _, _ => ⟨List.pairwise_singleton _ _, List.Perm.refl _⟩
  | e :: l, d, h, hn => by
    unfold Sorted at h
    rw [List.pairwise_cons] at h
    unfold Sq33.enter
    by_cases c : d.move.stamp.before e.move.stamp = true
    · rw [if_pos c]
      refine ⟨?_, List.Perm.refl _⟩
      unfold Sorted
      rw [List.pairwise_cons, List.pairwise_cons]
      refine ⟨fun x hx => ?_, h⟩
      rcases List.mem_cons.mp hx with rfl | hx
      · exact c
      · exact bef_trans c (h.1 x hx)
    · rw [if_neg c, if_neg (hn e (.head _))]
      obtain ⟨a, b⟩ := enter_ok (l := l) (d := d) h.2 fun x hx => hn x (.tail _ hx)
      refine ⟨?_, (b.cons e).trans (List.Perm.swap d e l)⟩
      unfold Sorted
      rw [List.pairwise_cons]
      refine ⟨fun x hx => ?_, a⟩
      rcases List.mem_cons.mp (b.mem_iff.mp hx) with rfl | hx
      · have := hn e (.head _)
        have hb : e.move.stamp.before x.move.stamp = true := Classical.byContradiction fun z => this (bef_tri _ _ c z)
        exact hb
      · exact h.1 x hx
theorem enter_end : ∀ {l : List Deed} {d : Deed}, (∀ e ∈ l, bef e d) → Sq33.enter d l = l ++ [d]
  | [], _, _ => rfl
  | e :: l, d, h => by
    unfold Sq33.enter
    have he := h e (.head _)
    rw [if_neg (bef_asymm he), if_neg (fun z => bef_irr he z.symm), enter_end fun x hx => h x (.tail _ hx)]
    rfl
theorem enters_ok : ∀ {ds l : List Deed}, Sorted l → ds.Pairwise (fun a b => a.move.stamp ≠ b.move.stamp) → (∀ d ∈ ds, ∀ e ∈ l, d.move.stamp ≠ e.move.stamp) →
    Sorted (ds.foldl (fun (s : List Deed) d => Sq33.enter d s) l) ∧ (ds.foldl (fun (s : List Deed) d => Sq33.enter d s) l).Perm (l ++ ds)
  | [], l, h, _, _ => ⟨h, by rw [List.append_nil]; exact List.Perm.refl _⟩
  | d :: ds, l, h, hp, hn => by
    rw [List.pairwise_cons] at hp
    obtain ⟨a, b⟩ := enter_ok h (hn d (.head _))
    obtain ⟨a2, b2⟩ := enters_ok (ds := ds) a hp.2 fun x hx e he => by
      rcases List.mem_cons.mp (b.mem_iff.mp he) with rfl | he
      · exact fun z => hp.1 x hx z.symm
      · exact hn x (.tail _ hx) e he
    refine ⟨a2, b2.trans ((b.append_right ds).trans ?_)⟩
    exact (List.perm_middle (a := d) (l₁ := l) (l₂ := ds)).symm
/-- the program's sort gives what the specification enters -/
theorem sorted_is {ys l : List Deed} (p : ys.Perm l) (o : ys.Pairwise fun a b => ¬ bef b a) {zs : List Deed} (hs : Sorted zs) (hp : zs.Perm l) : ys = zs := by
  refine (p.trans hp.symm).eq_of_pairwise (le := fun a b => ¬ bef b a) (fun x y hx hy h1 h2 => ?_) o (hs.imp fun h => bef_asymm h)
  exact hs.inj x (hp.mem_iff.mpr (p.mem_iff.mp hx)) y hy (bef_tri _ _ h2 h1)

/-! ## what holds of a house -/
structure DeskOk (n : Nat) (all : List Deed) (x : Desk) : Prop where
  has : x.has.length = n
  sure : x.sure.length = n
  rows : ∀ c ∈ x.sure, c.length = n
  heard : x.heard.length = n
  sorted : Sorted x.kept
  sub : ∀ d ∈ x.kept, d ∈ all
  was : ∀ d ∈ x.kept, d.n ≤ at_ x.has d.desk
  clock : ∀ d ∈ x.kept, d.move.stamp.count ≤ x.clock
structure LetterOk (n : Nat) (all : List Deed) (m : Letter) : Prop where
  fr : m.from_ < n
  to : m.to < n
  ne : m.from_ ≠ m.to
  has : m.has.length = n
  sorted : Sorted m.deeds
  sub : ∀ d ∈ m.deeds, d ∈ all
  was : ∀ d ∈ m.deeds, d.n ≤ at_ m.has d.desk
  clock : ∀ d ∈ m.deeds, d.move.stamp.count ≤ m.clock
structure HouseOk (h : House) : Prop where
  pos : 1 ≤ h.hands
  six : h.hands ≤ 6
  desks : h.desks.length = h.hands
  all80 : h.all.length ≤ 80
  let200 : h.letters.length ≤ 200
  inj : ∀ d ∈ h.all, ∀ e ∈ h.all, d.move.stamp = e.move.stamp → d = e
  hand : ∀ d ∈ h.all, d.desk < h.hands
  thing : ∀ d ∈ h.all, 2 ≤ d.move.thing ∧ d.move.thing < 64
  own : ∀ d ∈ h.all, d.move.stamp.count ≤ (h.desk d.desk).clock
  desk : ∀ k, k < h.hands → DeskOk h.hands h.all (h.desk k)
  letter : ∀ m ∈ h.letters, LetterOk h.hands h.all m
theorem len80 {h : House} (H : HouseOk h) {l : List Deed} (s : Sorted l) (sub : ∀ d ∈ l, d ∈ h.all) : l.length ≤ 80 :=
  Nat.le_trans (s.nodup.length_le_of_subset sub) H.all80
theorem desk_get {h : House} (H : HouseOk h) {k : Nat} (hk : k < h.hands) : h.desks[k]? = some (h.desk k) := by
  have hl : k < h.desks.length := by rw [H.desks]; exact hk
  unfold House.desk
  rw [List.getElem?_eq_getElem hl]
  rfl
theorem desk_set {h : House} (H : HouseOk h) {k : Nat} (hk : k < h.hands) (x : Desk) (j : Nat) : (h.set k x).desk j = if j = k then x else h.desk j := by
  unfold House.set House.desk
  show ((h.desks.set k x)[j]?).getD _ = _
  rw [List.getElem?_set]
  by_cases c : k = j
  · rw [if_pos c, if_pos (by rw [H.desks]; exact hk), if_pos c.symm]
    rfl
  · rw [if_neg c, if_neg (fun z => c z.symm)]
theorem new_desk {n k : Nat} (hk : k < n) : (Sq33.new n).desk k = Sq33.none_ n := by
  unfold Sq33.new House.desk
  show ((List.replicate n (Sq33.none_ n))[k]?).getD _ = _
  rw [List.getElem?_replicate, if_pos hk]
  rfl
theorem none_ok (n : Nat) (all : List Deed) : DeskOk n all (Sq33.none_ n) where
  has := List.length_replicate
  sure := List.length_replicate
  rows := fun c hc => by rw [List.eq_of_mem_replicate hc]; exact List.length_replicate
  heard := List.length_replicate
  sorted := List.Pairwise.nil
  sub := fun d hd => nomatch hd
  was := fun d hd => nomatch hd
  clock := fun d hd => nomatch hd
theorem new_ok {n : Nat} (h1 : 1 ≤ n) (h6 : n ≤ 6) : HouseOk (Sq33.new n) where
  pos := h1
  six := h6
  desks := List.length_replicate
  all80 := Nat.zero_le _
  let200 := Nat.zero_le _
  inj := fun d hd => nomatch hd
  hand := fun d hd => nomatch hd
  thing := fun d hd => nomatch hd
  own := fun d hd => nomatch hd
  desk := fun k hk => by
    rw [new_desk (n := n) hk]
    exact none_ok n _
  letter := fun m hm => nomatch hm
theorem DeskOk.more {n : Nat} {all : List Deed} {x : Desk} (D : DeskOk n all x) (d : Deed) : DeskOk n (all ++ [d]) x :=
  { D with sub := fun e he => List.mem_append_left _ (D.sub e he) }
theorem LetterOk.more {n : Nat} {all : List Deed} {x : Letter} (D : LetterOk n all x) (d : Deed) : LetterOk n (all ++ [d]) x :=
  { D with sub := fun e he => List.mem_append_left _ (D.sub e he) }
theorem at_set {c : Counts} {k j v : Nat} (hk : k < c.length) : at_ (c.set k v) j = if j = k then v else at_ c j := by
  unfold at_
  rw [List.getElem?_set]
  by_cases e : k = j
  · rw [if_pos e, if_pos hk, if_pos e.symm]
    rfl
  · rw [if_neg e, if_neg (fun z => e z.symm)]
theorem at_most {a b : Counts} {j : Nat} (h : j < a.length) : at_ (most a b) j = max (at_ a j) (at_ b j) := by
  unfold most
  conv => lhs; unfold at_
  rw [List.getElem?_map, List.getElem?_range h]
  rfl
theorem most_len (a b : Counts) : (most a b).length = a.length := by
  unfold most
  rw [List.length_map, List.length_range]
/-- the move that is made -/
def made (h : House) (k x u v : Nat) : Deed := ⟨at_ (h.desk k).has k + 1, ⟨h.all.length, ⟨(h.desk k).clock + 1, k⟩, x, u, v⟩⟩
def moved (h : House) (k x u v : Nat) : House :=
  House.set { h with all := h.all ++ [made h k x u v] } k { h.desk k with kept := Sq33.enter (made h k x u v) (h.desk k).kept, has := (h.desk k).has.set k (at_ (h.desk k).has k + 1), clock := (h.desk k).clock + 1 }
theorem made_end {h : House} (H : HouseOk h) {k x u v : Nat} (hk : k < h.hands) : Sq33.enter (made h k x u v) (h.desk k).kept = (h.desk k).kept ++ [made h k x u v] := by
  refine enter_end fun e he => ?_
  have := (H.desk k hk).clock e he
  show Stamp.before _ _ = true
  rw [before_iff]
  left
  show e.move.stamp.count < (h.desk k).clock + 1
  omega
theorem moved_ok {h : House} (H : HouseOk h) {k x u v : Nat} (hk : k < h.hands) (h80 : h.all.length < 80) (hx : 2 ≤ x ∧ x < 64) : HouseOk (moved h k x u v) := by
  have hs : ∀ j, (moved h k x u v).desk j = if j = k then { h.desk k with kept := Sq33.enter (made h k x u v) (h.desk k).kept, has := (h.desk k).has.set k (at_ (h.desk k).has k + 1), clock := (h.desk k).clock + 1 } else h.desk j := by
    intro j
    unfold moved House.set House.desk
    show ((h.desks.set k _)[j]?).getD _ = _
    rw [List.getElem?_set]
    by_cases c : k = j
    · rw [if_pos c, if_pos (by rw [H.desks]; exact hk), if_pos c.symm]
      rfl
    · rw [if_neg c, if_neg (fun z => c z.symm)]
  have D := H.desk k hk
  have hall : ∀ d ∈ h.all, d.move.stamp ≠ ⟨(h.desk k).clock + 1, k⟩ := fun d hd e => by
    have h1 := H.own d hd
    have h2 : d.desk = k := by unfold Deed.desk; rw [e]
    have h3 : d.move.stamp.count = (h.desk k).clock + 1 := by rw [e]
    rw [h2] at h1
    omega
  refine ⟨H.pos, H.six, ?_, ?_, H.let200, ?_, ?_, ?_, ?_, ?_, fun m hm => (H.letter m hm).more _⟩
  · show (h.desks.set k _).length = h.hands
    rw [List.length_set, H.desks]
  · show (h.all ++ [made h k x u v]).length ≤ 80
    rw [List.length_append, List.length_singleton]
    omega
  · intro d hd e he q
    rcases List.mem_append.mp (show d ∈ h.all ++ [made h k x u v] from hd) with hd | hd <;> rcases List.mem_append.mp (show e ∈ h.all ++ [made h k x u v] from he) with he | he
    · exact H.inj d hd e he q
    · rw [List.mem_singleton.mp he] at q
      exact (hall d hd q).elim
    · rw [List.mem_singleton.mp hd] at q
      exact (hall e he q.symm).elim
    · rw [List.mem_singleton.mp he, List.mem_singleton.mp hd]
  · intro d hd
    rcases List.mem_append.mp (show d ∈ h.all ++ [made h k x u v] from hd) with hd | hd
    · exact H.hand d hd
    · rw [List.mem_singleton.mp hd]
      exact hk
  · intro d hd
    rcases List.mem_append.mp (show d ∈ h.all ++ [made h k x u v] from hd) with hd | hd
    · exact H.thing d hd
    · rw [List.mem_singleton.mp hd]
      exact hx
  · intro d hd
    rw [hs]
    rcases List.mem_append.mp (show d ∈ h.all ++ [made h k x u v] from hd) with hd | hd
    · have := H.own d hd
      by_cases c : d.desk = k
      · rw [if_pos c]
        rw [c] at this
        show d.move.stamp.count ≤ (h.desk k).clock + 1
        omega
      · rw [if_neg c]
        exact this
    · rw [List.mem_singleton.mp hd]
      rw [if_pos (show (made h k x u v).desk = k from rfl)]
      exact Nat.le_refl _
  · intro j hj
    rw [hs]
    by_cases c : j = k
    · rw [if_pos c]
      have hkl : k < (h.desk k).has.length := by rw [D.has]; exact hk
      have me : ∀ d, d ∈ Sq33.enter (made h k x u v) (h.desk k).kept → d ∈ (h.desk k).kept ∨ d = made h k x u v := fun d hd => by
        rw [made_end H hk] at hd
        rcases List.mem_append.mp hd with hd | hd
        · exact .inl hd
        · exact .inr (List.mem_singleton.mp hd)
      refine ⟨?_, D.sure, D.rows, D.heard, ?_, ?_, ?_, ?_⟩
      · show ((h.desk k).has.set k _).length = h.hands
        rw [List.length_set, D.has]
      · exact (enter_ok D.sorted fun e he z => hall e (D.sub e he) z.symm).1
      · intro d hd
        rcases me d hd with hd | rfl
        · exact List.mem_append_left _ (D.sub d hd)
        · exact List.mem_append_right _ (List.mem_singleton.mpr rfl)
      · intro d hd
        show d.n ≤ at_ ((h.desk k).has.set k (at_ (h.desk k).has k + 1)) d.desk
        rw [at_set hkl]
        rcases me d hd with hd | rfl
        · have := D.was d hd
          by_cases c2 : d.desk = k
          · rw [if_pos c2]
            rw [c2] at this
            omega
          · rw [if_neg c2]
            exact this
        · rw [if_pos (show (made h k x u v).desk = k from rfl)]
          exact Nat.le_refl _
      · intro d hd
        show d.move.stamp.count ≤ (h.desk k).clock + 1
        rcases me d hd with hd | rfl
        · have := D.clock d hd
          omega
        · exact Nat.le_refl _
    · rw [if_neg c]
      exact (H.desk j hj).more _
def letter (h : House) (k j : Nat) : Letter := ⟨k, j, (h.desk k).has, (h.desk k).clock, h.lacks k j⟩
theorem sent_ok {h : House} (H : HouseOk h) {k j : Nat} (hk : k < h.hands) (hj : j < h.hands) (ne : k ≠ j) (h200 : h.letters.length < 200) : HouseOk { h with letters := h.letters ++ [letter h k j] } := by
  have D := H.desk k hk
  refine ⟨H.pos, H.six, H.desks, H.all80, ?_, H.inj, H.hand, H.thing, H.own, H.desk, ?_⟩
  · show (h.letters ++ [letter h k j]).length ≤ 200
    rw [List.length_append, List.length_singleton]
    omega
  · intro m hm
    rcases List.mem_append.mp (show m ∈ h.letters ++ [letter h k j] from hm) with hm | hm
    · exact H.letter m hm
    · rw [List.mem_singleton.mp hm]
      have sub : ∀ d ∈ h.lacks k j, d ∈ (h.desk k).kept := fun d hd => (List.mem_filter.mp hd).1
      exact ⟨hk, hj, ne, D.has, D.sorted.filter _, fun d hd => D.sub d (sub d hd), fun d hd => D.was d (sub d hd), fun d hd => D.clock d (sub d hd)⟩
/-- what a letter brings -/
def newer (x : Desk) (m : Letter) : List Deed := m.deeds.filter fun d => !x.was d
theorem newer_out {h : House} (H : HouseOk h) {m : Letter} (hm : m ∈ h.letters) : ∀ d ∈ newer (h.desk m.to) m, ∀ e ∈ (h.desk m.to).kept, d.move.stamp ≠ e.move.stamp := by
  intro d hd e he q
  have M := H.letter m hm
  have D := H.desk m.to M.to
  obtain ⟨h1, h2⟩ := List.mem_filter.mp hd
  have := H.inj d (M.sub d h1) e (D.sub e he) q
  subst this
  have hw := D.was d he
  have h3 : ¬ (h.desk m.to).was d = true := by simpa using h2
  unfold Desk.was at h3
  exact h3 (decide_eq_true hw)
theorem newer_sorted {h : House} (H : HouseOk h) {m : Letter} (hm : m ∈ h.letters) : Sorted (newer (h.desk m.to) m) := (H.letter m hm).sorted.filter _
theorem gets_kept {h : House} (H : HouseOk h) {m : Letter} (hm : m ∈ h.letters) : Sorted ((h.desk m.to).gets m).kept ∧ ((h.desk m.to).gets m).kept.Perm ((h.desk m.to).kept ++ newer (h.desk m.to) m) :=
  enters_ok (H.desk m.to (H.letter m hm).to).sorted ((newer_sorted H hm).imp fun h => bef_irr h) (newer_out H hm)
theorem got_ok {h : House} (H : HouseOk h) {m : Letter} (hm : m ∈ h.letters) : HouseOk (h.set m.to ((h.desk m.to).gets m)) := by
  have M := H.letter m hm
  have D := H.desk m.to M.to
  have hs := desk_set H M.to ((h.desk m.to).gets m)
  obtain ⟨ks, kp⟩ := gets_kept H hm
  have memk : ∀ d ∈ ((h.desk m.to).gets m).kept, d ∈ (h.desk m.to).kept ∨ d ∈ m.deeds := fun d hd => by
    rcases List.mem_append.mp (kp.mem_iff.mp hd) with hd | hd
    · exact .inl hd
    · exact .inr (List.mem_filter.mp hd).1
  refine ⟨H.pos, H.six, ?_, H.all80, H.let200, H.inj, H.hand, H.thing, ?_, ?_, H.letter⟩
  · show (h.desks.set _ _).length = h.hands
    rw [List.length_set, H.desks]
  · intro d hd
    have := H.own d hd
    rw [hs]
    by_cases c : d.desk = m.to
    · rw [if_pos c]
      rw [c] at this
      exact Nat.le_trans this (Nat.le_max_left _ _)
    · rw [if_neg c]
      exact this
  · intro j hj
    rw [hs]
    by_cases c : j = m.to
    · rw [if_pos c]
      have ld : ∀ d ∈ h.all, d.desk < (h.desk m.to).has.length := fun d hd => by rw [D.has]; exact H.hand d hd
      refine ⟨?_, ?_, ?_, ?_, ks, ?_, ?_, ?_⟩
      · show (most _ _).length = h.hands
        rw [most_len, D.has]
      · show (List.set _ _ _).length = h.hands
        rw [List.length_set, D.sure]
      · intro c hc
        rcases List.mem_or_eq_of_mem_set (show c ∈ List.set _ _ _ from hc) with hc | hc
        · exact D.rows c hc
        · rw [hc, most_len]
          have hl : m.from_ < (h.desk m.to).sure.length := by rw [D.sure]; exact M.fr
          rw [List.getElem?_eq_getElem hl]
          exact D.rows _ (List.getElem_mem hl)
      · show (List.set _ _ _).length = h.hands
        rw [List.length_set, D.heard]
      · intro d hd
        rcases memk d hd with hd | hd
        · exact D.sub d hd
        · exact M.sub d hd
      · intro d hd
        show d.n ≤ at_ (most _ _) d.desk
        rcases memk d hd with hd | hd
        · rw [at_most (ld d (D.sub d hd))]
          exact Nat.le_trans (D.was d hd) (Nat.le_max_left _ _)
        · rw [at_most (ld d (M.sub d hd))]
          exact Nat.le_trans (M.was d hd) (Nat.le_max_right _ _)
      · intro d hd
        show d.move.stamp.count ≤ max _ _
        rcases memk d hd with hd | hd
        · exact Nat.le_trans (D.clock d hd) (Nat.le_max_left _ _)
        · exact Nat.le_trans (M.clock d hd) (Nat.le_max_right _ _)
    · rw [if_neg c]
      exact H.desk j hj
theorem forgot_ok {h : House} (H : HouseOk h) {k : Nat} (hk : k < h.hands) (l : List Deed) : HouseOk (h.set k ((h.desk k).forgets l)) := by
  have D := H.desk k hk
  have hs := desk_set H hk ((h.desk k).forgets l)
  have sub : ∀ d ∈ ((h.desk k).forgets l).kept, d ∈ (h.desk k).kept := fun d hd => (List.drop_sublist _ _).subset hd
  refine ⟨H.pos, H.six, ?_, H.all80, H.let200, H.inj, H.hand, H.thing, ?_, ?_, H.letter⟩
  · show (h.desks.set _ _).length = h.hands
    rw [List.length_set, H.desks]
  · intro d hd
    have := H.own d hd
    rw [hs]
    by_cases c : d.desk = k
    · rw [if_pos c]
      rw [c] at this
      exact this
    · rw [if_neg c]
      exact this
  · intro j hj
    rw [hs]
    by_cases c : j = k
    · rw [if_pos c]
      exact ⟨D.has, D.sure, D.rows, D.heard, D.sorted.sublist (List.drop_sublist _ _), fun d hd => D.sub d (sub d hd), fun d hd => D.was d (sub d hd), fun d hd => D.clock d (sub d hd)⟩
    · rw [if_neg c]
      exact H.desk j hj
end My
namespace My
open Sq28 (Stamp Place Tree)
open Sq33 (Deed Desk House Letter Counts at_ most)
/-! ## a replica's rows and clocks as the program keeps them -/
def conf (x : Desk) (k : Nat) : List Counts := x.sure.set k x.has
def clks (x : Desk) (k : Nat) : List Nat := x.heard.set k x.clock
theorem conf_len {n : Nat} {all : List Deed} {x : Desk} (D : DeskOk n all x) (k : Nat) : (conf x k).length = n := by
  unfold conf
  rw [List.length_set, D.sure]
theorem clks_len {n : Nat} {all : List Deed} {x : Desk} (D : DeskOk n all x) (k : Nat) : (clks x k).length = n := by
  unfold clks
  rw [List.length_set, D.heard]
theorem conf_own {n : Nat} {all : List Deed} {x : Desk} (D : DeskOk n all x) {k : Nat} (hk : k < n) : (conf x k)[k]? = some x.has := by
  unfold conf
  rw [List.getElem?_set, if_pos rfl, if_pos (by rw [D.sure]; exact hk)]
theorem clks_own {n : Nat} {all : List Deed} {x : Desk} (D : DeskOk n all x) {k : Nat} (hk : k < n) : (clks x k)[k]? = some x.clock := by
  unfold clks
  rw [List.getElem?_set, if_pos rfl, if_pos (by rw [D.heard]; exact hk)]
theorem conf_rows {n : Nat} {all : List Deed} {x : Desk} (D : DeskOk n all x) (k : Nat) : ∀ c ∈ conf x k, c.length = n := fun c hc => by
  rcases List.mem_or_eq_of_mem_set hc with hc | hc
  · exact D.rows c hc
  · rw [hc]
    exact D.has
theorem sure_conf {h : House} (H : HouseOk h) {k j : Nat} (hk : k < h.hands) (hj : j < h.hands) : (conf (h.desk k) k)[j]? = some (h.sure k j) := by
  have D := H.desk k hk
  unfold House.sure
  by_cases c : k = j
  · rw [if_pos c, ← c]
    exact conf_own D hk
  · rw [if_neg c]
    unfold conf
    rw [List.getElem?_set, if_neg c]
    have hl : j < (h.desk k).sure.length := by rw [D.sure]; exact hj
    rw [List.getElem?_eq_getElem hl]
    rfl
theorem allHave_conf {h : House} (H : HouseOk h) {k : Nat} (hk : k < h.hands) (d : Deed) : h.allHave k d = (conf (h.desk k) k).all fun c => decide (d.n ≤ at_ c d.desk) := by
  have D := H.desk k hk
  unfold House.allHave
  rw [Bool.eq_iff_iff, List.all_eq_true, List.all_eq_true]
  constructor
  · intro a c hc
    obtain ⟨j, hj, e⟩ := List.mem_iff_getElem.mp hc
    have hjn : j < h.hands := by rw [conf_len D] at hj; exact hj
    have e2 := sure_conf H hk hjn
    rw [List.getElem?_eq_getElem hj, e] at e2
    rw [Option.some.inj e2]
    exact a j (List.mem_range.mpr hjn)
  · intro a j hj
    have hjn := List.mem_range.mp hj
    exact a _ (List.mem_of_getElem? (sure_conf H hk hjn))
theorem settled_fold (k : Nat) (g : Nat → Nat) : ∀ (l : List Nat) (c : Nat), let r := l.foldl (fun (m : Nat) j => if j = k then m else min m (g j)) c
    (r ≤ c ∧ ∀ j ∈ l, j ≠ k → r ≤ g j) ∧ (r = c ∨ ∃ j ∈ l, j ≠ k ∧ r = g j)
  | [], c => ⟨⟨Nat.le_refl _, fun j hj => nomatch hj⟩, .inl rfl⟩
  | i :: l, c => by
    have ih := settled_fold k g l (if i = k then c else min c (g i))
    dsimp only at ih ⊢
    rw [List.foldl_cons]
    obtain ⟨⟨a, b⟩, d⟩ := ih
    generalize l.foldl (fun (m : Nat) j => if j = k then m else min m (g j)) (if i = k then c else min c (g i)) = r at a b d ⊢
    by_cases e : i = k
    · rw [if_pos e] at a d
      refine ⟨⟨a, fun j hj n => ?_⟩, ?_⟩
      · rcases List.mem_cons.mp hj with rfl | hj
        · exact (n e).elim
        · exact b j hj n
      · rcases d with d | ⟨j, hj, n, d⟩
        · exact .inl d
        · exact .inr ⟨j, .tail _ hj, n, d⟩
    · rw [if_neg e] at a d
      refine ⟨⟨Nat.le_trans a (Nat.min_le_left _ _), fun j hj n => ?_⟩, ?_⟩
      · rcases List.mem_cons.mp hj with rfl | hj
        · exact Nat.le_trans a (Nat.min_le_right _ _)
        · exact b j hj n
      · rcases d with d | ⟨j, hj, n, d⟩
        · rcases Nat.le_total c (g i) with q | q
          · exact .inl (by rw [d, Nat.min_eq_left q])
          · exact .inr ⟨i, .head _, e, by rw [d, Nat.min_eq_right q]⟩
        · exact .inr ⟨j, .tail _ hj, n, d⟩
theorem settled_min {h : House} (H : HouseOk h) {k : Nat} (hk : k < h.hands) : h.settled k ∈ clks (h.desk k) k ∧ ∀ y ∈ clks (h.desk k) k, h.settled k ≤ y := by
  have D := H.desk k hk
  have S := settled_fold k (fun j => at_ (h.desk k).heard j) (List.range h.hands) (h.desk k).clock
  dsimp only at S
  obtain ⟨⟨a, b⟩, d⟩ := S
  have get : ∀ j, j < h.hands → j ≠ k → (clks (h.desk k) k)[j]? = some (at_ (h.desk k).heard j) := fun j hj n => by
    unfold clks at_
    rw [List.getElem?_set, if_neg (fun z => n z.symm)]
    have hl : j < (h.desk k).heard.length := by rw [D.heard]; exact hj
    rw [List.getElem?_eq_getElem hl]
    rfl
  refine ⟨?_, fun y hy => ?_⟩
  · rcases d with d | ⟨j, hj, n, d⟩
    · have e : h.settled k = (h.desk k).clock := d
      rw [e]
      exact List.mem_of_getElem? (clks_own D hk)
    · have e : h.settled k = at_ (h.desk k).heard j := d
      rw [e]
      exact List.mem_of_getElem? (get j (List.mem_range.mp hj) n)
  · obtain ⟨j, hj, e⟩ := List.mem_iff_getElem.mp hy
    have hjn : j < h.hands := by rw [clks_len D] at hj; exact hj
    by_cases c : j = k
    · have e2 : (clks (h.desk k) k)[j]? = some (h.desk k).clock := by
        have := clks_own D hk
        rw [c]
        exact this
      rw [List.getElem?_eq_getElem hj, e] at e2
      rw [Option.some.inj e2]
      exact a
    · have e2 := get j hjn c
      rw [List.getElem?_eq_getElem hj, e] at e2
      rw [Option.some.inj e2]
      exact b j (List.mem_range.mpr hjn) c
theorem min_uniq {l : List Nat} {a b : Nat} (ha : a ∈ l) (la : ∀ y ∈ l, a ≤ y) (hb : b ∈ l) (lb : ∀ y ∈ l, b ≤ y) : a = b := Nat.le_antisymm (la b hb) (lb a ha)
/-- what a move makes of rows and clocks -/
theorem conf_moved (x : Desk) (k v c : Nat) (l : List Deed) : conf { x with kept := l, has := x.has.set k v, clock := c } k = (conf x k).set k (x.has.set k v) := by
  show x.sure.set k (x.has.set k v) = (x.sure.set k x.has).set k (x.has.set k v)
  rw [List.set_set]
theorem clks_moved (x : Desk) (k v c : Nat) (l : List Deed) : clks { x with kept := l, has := x.has.set k v, clock := c } k = (clks x k).set k c := by
  show x.heard.set k c = (x.heard.set k x.clock).set k c
  rw [List.set_set]
/-- what a letter makes of them -/
theorem conf_gets {n : Nat} {all : List Deed} {x : Desk} (D : DeskOk n all x) {m : Letter} (ne : m.from_ ≠ m.to) (hf : m.from_ < n) :
    ∃ c, (conf x m.to)[m.from_]? = some c ∧ conf (x.gets m) m.to = ((conf x m.to).set m.to (most x.has m.has)).set m.from_ (most c m.has) := by
  have hl : m.from_ < x.sure.length := by rw [D.sure]; exact hf
  refine ⟨x.sure[m.from_], ?_, ?_⟩
  · unfold conf
    rw [List.getElem?_set, if_neg (fun z => ne z.symm), List.getElem?_eq_getElem hl]
  · show (x.sure.set m.from_ (most ((x.sure[m.from_]?).getD []) m.has)).set m.to (most x.has m.has) = ((x.sure.set m.to x.has).set m.to (most x.has m.has)).set m.from_ (most x.sure[m.from_] m.has)
    rw [List.getElem?_eq_getElem hl, List.set_set, List.set_comm _ _ ne]
    rfl
theorem clks_gets {n : Nat} {all : List Deed} {x : Desk} (D : DeskOk n all x) {m : Letter} (ne : m.from_ ≠ m.to) (hf : m.from_ < n) :
    ∃ c, (clks x m.to)[m.from_]? = some c ∧ clks (x.gets m) m.to = ((clks x m.to).set m.to (max x.clock m.clock)).set m.from_ (max c m.clock) := by
  have hl : m.from_ < x.heard.length := by rw [D.heard]; exact hf
  refine ⟨x.heard[m.from_], ?_, ?_⟩
  · unfold clks
    rw [List.getElem?_set, if_neg (fun z => ne z.symm), List.getElem?_eq_getElem hl]
  · show (x.heard.set m.from_ (max (at_ x.heard m.from_) m.clock)).set m.to (max x.clock m.clock) = ((x.heard.set m.to x.clock).set m.to (max x.clock m.clock)).set m.from_ (max x.heard[m.from_] m.clock)
    have e : at_ x.heard m.from_ = x.heard[m.from_] := by
      unfold at_
      rw [List.getElem?_eq_getElem hl]
      rfl
    rw [e, List.set_set, List.set_comm _ _ ne]
theorem most_get {a b : Counts} (hl : a.length = b.length) {i x y : Nat} (hx : a[i]? = some x) (hy : b[i]? = some y) : (most a b)[i]? = some (max x y) := by
  have hi : i < a.length := (List.getElem?_eq_some_iff.mp hx).1
  unfold most
  rw [List.getElem?_map, List.getElem?_range hi]
  show some (max (at_ a i) (at_ b i)) = _
  unfold at_
  rw [hx, hy]
  rfl
theorem at_get {c : Counts} {i : Nat} (h : i < c.length) : c[i]? = some (at_ c i) := by
  unfold at_
  rw [List.getElem?_eq_getElem h]
  rfl
/-- none_ as the program makes it -/
theorem conf_none (n k : Nat) : conf (Sq33.none_ n) k = List.replicate n (List.replicate n 0) := by
  show (List.replicate n (List.replicate n 0)).set k (List.replicate n 0) = _
  refine List.ext_getElem? fun j => ?_
  rw [List.getElem?_set, List.getElem?_replicate]
  by_cases c : k = j
  · rw [if_pos c, List.length_replicate, c]
  · rw [if_neg c]
theorem clks_none (n k : Nat) : clks (Sq33.none_ n) k = List.replicate n 0 := by
  show (List.replicate n 0).set k 0 = _
  refine List.ext_getElem? fun j => ?_
  rw [List.getElem?_set, List.getElem?_replicate]
  by_cases c : k = j
  · rw [if_pos c, List.length_replicate, c]
  · rw [if_neg c]
theorem new_desks (n : Nat) : (Sq33.new n).hands = n := rfl
/-- the longest beginning, item by item -/
theorem takeWhile_step {α : Type} (p : α → Bool) {l : List α} {i : Nat} {x : α} (hx : l[i]? = some x) (h : ∀ y ∈ l.take i, p y = true) : (p x = true → ∀ y ∈ l.take (i + 1), p y = true) ∧ (p x = false → l.takeWhile p = l.take i) := by
  constructor
  · intro hp y hy
    rw [List.take_add_one, hx] at hy
    rcases List.mem_append.mp hy with hy | hy
    · exact h y hy
    · have : y = x := by simpa using hy
      rw [this]
      exact hp
  · intro hp
    induction l generalizing i with
    | nil => simp at hx
    | cons z l ih =>
      cases i with
      | zero =>
        have : z = x := by simpa using hx
        subst this
        rw [List.takeWhile_cons, hp]
        rfl
      | succ i =>
        have hz := h z (by rw [List.take_succ_cons]; exact .head _)
        rw [List.takeWhile_cons, hz, List.take_succ_cons]
        simp only [if_true]
        rw [ih (by simpa using hx) fun y hy => h y (by rw [List.take_succ_cons]; exact .tail _ hy)]
theorem takeWhile_all {α : Type} (p : α → Bool) {l : List α} (h : ∀ y ∈ l, p y = true) : l.takeWhile p = l := by
  induction l with
  | nil => rfl
  | cons z l ih =>
    rw [List.takeWhile_cons, h z (.head _)]
    simp only [if_true]
    rw [ih fun y hy => h y (.tail _ hy)]
end My
namespace My
/-! ## the calls in one list -/
inductive IsCall : List Nat → Sq33.Call → Prop
  | c1 (a : Nat) : IsCall [1, a] (.begin_ a)
  | c2 (a b c d : Nat) : IsCall [2, a, b, c, d] (.move a b c d)
  | c3 (a b : Nat) : IsCall [3, a, b] (.send a b)
  | c4 (a : Nat) : IsCall [4, a] (.comes a)
  | c5 (a : Nat) : IsCall [5, a] (.forget a)
  | c6 (a : Nat) : IsCall [6, a] (.tree a)
  | c7 (a : Nat) : IsCall [7, a] (.bin a)
  | c8 (a : Nat) : IsCall [8, a] (.kept a)
  | c9 (a : Nat) : IsCall [9, a] (.settled a)
  | c10 (a : Nat) : IsCall [10, a] (.ripe a)
  | c11 (a b : Nat) : IsCall [11, a, b] (.same a b)
theorem shape_cases {p : Int} {n k : Nat} (h : PySq33.shape p = some (n, k)) :
    (p = 1 ∧ n = 1 ∧ k = 0) ∨ (p = 2 ∧ n = 4 ∧ k = 0) ∨ (p = 3 ∧ n = 2 ∧ k = 0) ∨ (p = 4 ∧ n = 1 ∧ k = 0) ∨ (p = 5 ∧ n = 1 ∧ k = 0) ∨ (p = 6 ∧ n = 1 ∧ k = 0) ∨ (p = 7 ∧ n = 1 ∧ k = 0) ∨ (p = 8 ∧ n = 1 ∧ k = 0) ∨ (p = 9 ∧ n = 1 ∧ k = 0) ∨ (p = 10 ∧ n = 1 ∧ k = 0) ∨ (p = 11 ∧ n = 2 ∧ k = 0) := by
  unfold PySq33.shape at h
  repeat' split at h
  all_goals first
    | (cases h; done)
    | (cases h; simp_all)
theorem nat_of {z : Int} (h : 0 ≤ z) : z = ((z.toNat : Nat) : Int) := by omega
/-- one call cut off -/
theorem seg {p : Int} {r t : List Int} {c : List (List Int)} (hr : ∀ z ∈ r, 0 ≤ z) (h : PyFlat.call PySq33.shape (p :: r) = some (c, t)) :
    ∃ (n : Nat) (cs : List Nat) (x : Sq33.Call), PySq33.shape p = some (n, 0) ∧ t = r.drop n ∧ n ≤ r.length ∧ p :: r.take n = cs.map (fun (m : Nat) => (m : Int)) ∧ IsCall cs x ∧ Sq33Neutral.callOf (PySq33.whole c) = some x := by
  unfold PyFlat.call at h
  dsimp only at h
  cases e : PySq33.shape p with
  | none => rw [e] at h; cases h
  | some nk =>
    obtain ⟨n, k⟩ := nk
    have hc := shape_cases e
    have k0 : k = 0 := by rcases hc with h | h | h | h | h | h | h | h | h | h | h <;> exact h.2.2
    subst k0
    rw [e] at h
    dsimp only at h
    by_cases hl : r.length < n
    · rw [if_pos hl] at h; cases h
    · rw [if_neg hl] at h
      have er : PyFlat.rows 0 (r.drop n) = some ([], r.drop n) := rfl
      rw [er] at h
      dsimp only at h
      cases h
      rcases hc with ⟨rfl, rfl, _⟩ | ⟨rfl, rfl, _⟩ | ⟨rfl, rfl, _⟩ | ⟨rfl, rfl, _⟩ | ⟨rfl, rfl, _⟩ | ⟨rfl, rfl, _⟩ | ⟨rfl, rfl, _⟩ | ⟨rfl, rfl, _⟩ | ⟨rfl, rfl, _⟩ | ⟨rfl, rfl, _⟩ | ⟨rfl, rfl, _⟩
      · match r, hl, hr with
        | a :: r, _, hr =>
          have ha := nat_of (hr a (by simp))
          exact ⟨1, [1, a.toNat], .begin_ a.toNat, e, rfl, by simp, by simp [← ha], .c1 _, rfl⟩
        | [], hl, _ => exact (hl (by simp)).elim
      · match r, hl, hr with
        | a :: b :: c :: d :: r, _, hr =>
          have ha := nat_of (hr a (by simp))
          have hb := nat_of (hr b (by simp))
          have hc := nat_of (hr c (by simp))
          have hd := nat_of (hr d (by simp))
          exact ⟨4, [2, a.toNat, b.toNat, c.toNat, d.toNat], .move a.toNat b.toNat c.toNat d.toNat, e, rfl, by simp, by simp [← ha, ← hb, ← hc, ← hd], .c2 _ _ _ _, rfl⟩
        | [], hl, _ => exact (hl (by simp)).elim
        | [_], hl, _ => exact (hl (by simp)).elim
        | [_, _], hl, _ => exact (hl (by simp)).elim
        | [_, _, _], hl, _ => exact (hl (by simp)).elim
      · match r, hl, hr with
        | a :: b :: r, _, hr =>
          have ha := nat_of (hr a (by simp))
          have hb := nat_of (hr b (by simp))
          exact ⟨2, [3, a.toNat, b.toNat], .send a.toNat b.toNat, e, rfl, by simp, by simp [← ha, ← hb], .c3 _ _, rfl⟩
        | [], hl, _ => exact (hl (by simp)).elim
        | [_], hl, _ => exact (hl (by simp)).elim
      · match r, hl, hr with
        | a :: r, _, hr =>
          have ha := nat_of (hr a (by simp))
          exact ⟨1, [4, a.toNat], .comes a.toNat, e, rfl, by simp, by simp [← ha], .c4 _, rfl⟩
        | [], hl, _ => exact (hl (by simp)).elim
      · match r, hl, hr with
        | a :: r, _, hr =>
          have ha := nat_of (hr a (by simp))
          exact ⟨1, [5, a.toNat], .forget a.toNat, e, rfl, by simp, by simp [← ha], .c5 _, rfl⟩
        | [], hl, _ => exact (hl (by simp)).elim
      · match r, hl, hr with
        | a :: r, _, hr =>
          have ha := nat_of (hr a (by simp))
          exact ⟨1, [6, a.toNat], .tree a.toNat, e, rfl, by simp, by simp [← ha], .c6 _, rfl⟩
        | [], hl, _ => exact (hl (by simp)).elim
      · match r, hl, hr with
        | a :: r, _, hr =>
          have ha := nat_of (hr a (by simp))
          exact ⟨1, [7, a.toNat], .bin a.toNat, e, rfl, by simp, by simp [← ha], .c7 _, rfl⟩
        | [], hl, _ => exact (hl (by simp)).elim
      · match r, hl, hr with
        | a :: r, _, hr =>
          have ha := nat_of (hr a (by simp))
          exact ⟨1, [8, a.toNat], .kept a.toNat, e, rfl, by simp, by simp [← ha], .c8 _, rfl⟩
        | [], hl, _ => exact (hl (by simp)).elim
      · match r, hl, hr with
        | a :: r, _, hr =>
          have ha := nat_of (hr a (by simp))
          exact ⟨1, [9, a.toNat], .settled a.toNat, e, rfl, by simp, by simp [← ha], .c9 _, rfl⟩
        | [], hl, _ => exact (hl (by simp)).elim
      · match r, hl, hr with
        | a :: r, _, hr =>
          have ha := nat_of (hr a (by simp))
          exact ⟨1, [10, a.toNat], .ripe a.toNat, e, rfl, by simp, by simp [← ha], .c10 _, rfl⟩
        | [], hl, _ => exact (hl (by simp)).elim
      · match r, hl, hr with
        | a :: b :: r, _, hr =>
          have ha := nat_of (hr a (by simp))
          have hb := nat_of (hr b (by simp))
          exact ⟨2, [11, a.toNat, b.toNat], .same a.toNat b.toNat, e, rfl, by simp, by simp [← ha, ← hb], .c11 _ _, rfl⟩
        | [], hl, _ => exact (hl (by simp)).elim
        | [_], hl, _ => exact (hl (by simp)).elim
/-- what is left to answer from a state -/
def left (h : Sq33.House) (raw : List (List (List Int))) : List Int := PyFlat.told (PyFlat.played Sq33Neutral.step h (raw.map PySq33.whole))
theorem left_nil (h : Sq33.House) : left h [] = [] := rfl
theorem left_cons (h : Sq33.House) (c : List (List Int)) (cs : List (List (List Int))) {x : Sq33.Call} (e : Sq33Neutral.callOf (PySq33.whole c) = some x) :
    left h (c :: cs) = (((h.step x).2.value :: (h.step x).2.out).length : Int) :: ((h.step x).2.value :: (h.step x).2.out) ++ left (h.step x).1 cs := by
  have es : Sq33Neutral.step h (PySq33.whole c) = ((h.step x).1, (h.step x).2.value :: (h.step x).2.out) := by
    unfold Sq33Neutral.step
    rw [e]
  unfold left
  rw [List.map_cons]
  show PyFlat.told (_ :: _) = _
  unfold PyFlat.told
  rw [List.flatMap_cons, es]
theorem outs_cons (h : Sq33.House) (c : List (List Int)) (cs : List (List (List Int))) {x : Sq33.Call} (e : Sq33Neutral.callOf (PySq33.whole c) = some x) :
    Sq33Neutral.outs h ((c :: cs).map PySq33.whole) = ((h.step x).2.out.length + 1) + Sq33Neutral.outs (h.step x).1 (cs.map PySq33.whole) := by
  have es : Sq33Neutral.step h (PySq33.whole c) = ((h.step x).1, (h.step x).2.value :: (h.step x).2.out) := by
    unfold Sq33Neutral.step
    rw [e]
  rw [List.map_cons]
  conv => lhs; unfold Sq33Neutral.outs
  rw [es]
  rfl
theorem left_len : ∀ (raw : List (List (List Int))) (h : Sq33.House), (left h raw).length = Sq33Neutral.outs h (raw.map PySq33.whole) + raw.length
  | [], _ => rfl
  | c :: cs, h => by
    have ih := left_len cs (Sq33Neutral.step h (PySq33.whole c)).1
    unfold left at ih ⊢
    rw [List.map_cons]
    have e1 : PyFlat.told (PyFlat.played Sq33Neutral.step h (PySq33.whole c :: cs.map PySq33.whole)) = (((Sq33Neutral.step h (PySq33.whole c)).2.length : Int) :: (Sq33Neutral.step h (PySq33.whole c)).2) ++ PyFlat.told (PyFlat.played Sq33Neutral.step (Sq33Neutral.step h (PySq33.whole c)).1 (cs.map PySq33.whole)) := by
      unfold PyFlat.told
      show List.flatMap _ (_ :: _) = _
      rw [List.flatMap_cons]
    rw [e1, List.length_append, ih, List.length_cons, List.length_cons]
    conv => rhs; unfold Sq33Neutral.outs
    dsimp only
    omega
/-- what a request that may be sent is -/
theorem asked_is {ns : List Int} (h : PySq33.answers_asked ns = true) : ∃ raw, PyFlat.calls PySq33.shape ns.length ns = some raw ∧ PySq33.answers ns = left Sq33Neutral.start raw ∧ Sq33Neutral.outs Sq33Neutral.start (raw.map PySq33.whole) < 1000000 ∧ raw.length ≤ 250 := by
  unfold PySq33.answers_asked at h
  cases e : PyFlat.calls PySq33.shape ns.length ns with
  | none => rw [e] at h; cases h
  | some raw =>
    rw [e] at h
    dsimp only at h
    simp only [Bool.and_eq_true] at h
    obtain ⟨⟨⟨⟨_, h2⟩, _⟩, h4⟩, _⟩ := h
    unfold Sq33Neutral.asked at h4
    simp only [Bool.and_eq_true, decide_eq_true_eq] at h4
    unfold PyFlat.atMost at h2
    refine ⟨raw, rfl, ?_, h4.2.2.2, of_decide_eq_true h2⟩
    unfold PySq33.answers PySq33.calls
    rw [e]
    rfl
/-- the calls cut off one by one -/
theorem calls_cut {f : Nat} {p : Int} {r : List Int} {raw : List (List (List Int))} (h : PyFlat.calls PySq33.shape f (p :: r) = some raw) : ∃ (c : List (List Int)) (t : List Int) (f' : Nat) (cs : List (List (List Int))), PyFlat.call PySq33.shape (p :: r) = some (c, t) ∧ PyFlat.calls PySq33.shape f' t = some cs ∧ raw = c :: cs := by
  cases f with
  | zero => cases h
  | succ f =>
    unfold PyFlat.calls at h
    cases e : PyFlat.call PySq33.shape (p :: r) with
    | none => rw [e] at h; cases h
    | some ct =>
      obtain ⟨c, t⟩ := ct
      rw [e] at h
      dsimp only at h
      cases e2 : PyFlat.calls PySq33.shape f t with
      | none => rw [e2] at h; cases h
      | some cs =>
        rw [e2] at h
        cases h
        exact ⟨c, t, f, cs, rfl, e2, rfl⟩
theorem calls_nil {f : Nat} {raw : List (List (List Int))} (h : PyFlat.calls PySq33.shape f [] = some raw) : raw = [] := by
  cases f <;> (unfold PyFlat.calls at h; cases h; rfl)
end My
namespace My
open PySem hiding Place
open PySem.Spec PyProof.Rows L2
open Sq28 (Place Tree)
open Sq33 (Deed Desk House Letter Counts at_ most)
/-! ## the program's text by places -/
def top (i : Nat) : Stmt := PySem.Challenge.pw_binnedtrees_s01_answers.main.body.getD i (.Pass ⟨0, 0, 0, 0⟩)
abbrev sMovI : Stmt := inClass (top 6) 0
abbrev sStamp : Stmt := top 7
abbrev sTreI : Stmt := inClass (top 8) 0
abbrev sTwin : Stmt := inClass (top 8) 1
abbrev sSame : Stmt := inClass (top 8) 2
abbrev sHas : Stmt := inClass (top 8) 3
abbrev sWithin : Stmt := inClass (top 8) 4
abbrev sApply : Stmt := inClass (top 8) 5
abbrev sRows : Stmt := inClass (top 8) 6
abbrev sMsgI : Stmt := inClass (top 10) 0
abbrev sLarger : Stmt := top 11
abbrev sRepI : Stmt := inClass (top 12) 0
abbrev sOwn : Stmt := inClass (top 12) 1
abbrev sHor : Stmt := inClass (top 12) 2
abbrev sTree : Stmt := inClass (top 12) 3
abbrev sMake : Stmt := inClass (top 12) 4
abbrev sMsg : Stmt := inClass (top 12) 5
abbrev sTake : Stmt := inClass (top 12) 6
abbrev sConf : Stmt := inClass (top 12) 7
abbrev sCmp : Stmt := inClass (top 12) 8
abbrev sComp : Stmt := inClass (top 12) 9
abbrev sRange : Stmt := top 22
abbrev sCount : Stmt := top 23
abbrev sSesI : Stmt := inClass (top 24) 0
abbrev sStart : Stmt := inClass (top 24) 1
abbrev sHasR : Stmt := inClass (top 24) 2
abbrev sBegin : Stmt := inClass (top 24) 3
abbrev sSMove : Stmt := inClass (top 24) 4
abbrev sSend : Stmt := inClass (top 24) 5
abbrev sDeliver : Stmt := inClass (top 24) 6
abbrev sSComp : Stmt := inClass (top 24) 7
abbrev sBelow : Stmt := inClass (top 24) 8
abbrev sLTree : Stmt := inClass (top 24) 9
abbrev sLBin : Stmt := inClass (top 24) 10
abbrev sLLog : Stmt := inClass (top 24) 11
abbrev sTHor : Stmt := inClass (top 24) 12
abbrev sCCmp : Stmt := inClass (top 24) 13
abbrev sCompare : Stmt := inClass (top 24) 14
abbrev sCall : Stmt := top 37
abbrev sAns : Stmt := top 38
/-! ## an instance's fields: names and values apart -/
def fz (ks : List Str) (vs : List V) : List (Str × V) := ks.zip vs
def ixK : List Str → Str → Option Nat
  | [], _ => none
  | k :: ks, f => if k = f then some 0 else (ixK ks f).map (· + 1)
theorem ixK_mem : ∀ {ks : List Str} {f : Str} {i : Nat}, ixK ks f = some i → f ∈ ks
  | [], _, _, h => nomatch h
  | k :: ks, f, i, h => by
    unfold ixK at h
    by_cases c : k = f
    · rw [c]; exact .head _
    · rw [if_neg c] at h
      cases e : ixK ks f with
      | none => rw [e] at h; cases h
      | some j => exact .tail _ (ixK_mem e)
theorem fz_lk : ∀ {ks : List Str} {vs : List V} {f : Str} {i : Nat} {v : V}, ixK ks f = some i → vs[i]? = some v → (fz ks vs).lookup f = some v
  | [], _, _, _, _, h, _ => nomatch h
  | k :: ks, [], _, _, _, _, h => by simp at h
  | k :: ks, u :: vs, f, i, v, h, hv => by
    unfold ixK at h
    show List.lookup f ((k, u) :: fz ks vs) = some v
    by_cases c : k = f
    · rw [if_pos c] at h
      cases h
      subst c
      have e : (k == k) = true := beq_self_eq_true k
      simp only [List.lookup, e]
      simpa using hv
    · rw [if_neg c] at h
      cases e : ixK ks f with
      | none => rw [e] at h; cases h
      | some j =>
        rw [e] at h
        cases h
        have e2 : (f == k) = false := beq_eq_false_iff_ne.mpr fun z => c z.symm
        simp only [List.lookup, e2]
        exact fz_lk e (by simpa using hv)
theorem fz_no : ∀ {ks : List Str} {vs : List V} {f : Str}, ixK ks f = none → (fz ks vs).lookup f = none
  | [], _, _, _ => rfl
  | k :: ks, [], _, _ => rfl
  | k :: ks, u :: vs, f, h => by
    unfold ixK at h
    show List.lookup f ((k, u) :: fz ks vs) = none
    by_cases c : k = f
    · rw [if_pos c] at h; cases h
    · rw [if_neg c] at h
      have e2 : (f == k) = false := beq_eq_false_iff_ne.mpr fun z => c z.symm
      simp only [List.lookup, e2]
      cases e : ixK ks f with
      | none => exact fz_no e
      | some j => rw [e] at h; cases h
theorem fz_put : ∀ {ks : List Str} {vs : List V} {f : Str} {i : Nat} {v : V}, ixK ks f = some i → ks.length = vs.length → putF f v (fz ks vs) = fz ks (vs.set i v)
  | [], _, _, _, _, h, _ => nomatch h
  | k :: ks, [], _, _, _, _, h => by cases h
  | k :: ks, u :: vs, f, i, v, h, hl => by
    unfold ixK at h
    by_cases c : k = f
    · rw [if_pos c] at h
      cases h
      subst c
      exact if_pos rfl
    · rw [if_neg c] at h
      cases e : ixK ks f with
      | none => rw [e] at h; cases h
      | some j =>
        rw [e] at h
        cases h
        refine Eq.trans (if_neg c : putF f v ((k, u) :: fz ks vs) = (k, u) :: putF f v (fz ks vs)) ?_
        rw [fz_put e (by simpa using hl)]
        rfl
theorem fz_new : ∀ {ks : List Str} {vs : List V} {f : Str} {v : V}, ixK ks f = none → ks.length = vs.length → putF f v (fz ks vs) = fz (ks ++ [f]) (vs ++ [v])
  | [], [], _, _, _, _ => rfl
  | k :: ks, [], _, _, _, h => by cases h
  | [], u :: vs, _, _, _, h => by cases h
  | k :: ks, u :: vs, f, v, h, hl => by
    unfold ixK at h
    by_cases c : k = f
    · rw [if_pos c] at h; cases h
    · rw [if_neg c] at h
      cases e : ixK ks f with
      | some j => rw [e] at h; cases h
      | none =>
        refine Eq.trans (if_neg c : putF f v ((k, u) :: fz ks vs) = (k, u) :: putF f v (fz ks vs)) ?_
        rw [fz_new e (by simpa using hl)]
        rfl
theorem fz_len (ks : List Str) (vs : List V) : (fz ks vs).length ≤ ks.length := by
  unfold fz
  rw [List.length_zip]
  exact Nat.min_le_left _ _
/-- what of the text a class with these fields has -/
structure CC (K : PySem.W.Frag) (C : Addr) (ks : List Str) : Prop where
  cl : Cls K C
  no : ∀ f ∈ ks, NoAttr K C f
  few : ks.length < 100
section
variable {K : PySem.W.Frag} {H : Hp} {a C dx : Addr} {ks KS : List Str} {vs : List V} {f : Str} {i : Nat} {v y : V}
theorem fld {Q : V → Prop} (h : H a = some (.ins C dx (fz ks vs))) (c : CC K C ks) (e : ixK ks f = some i) (hv : vs[i]? = some v) (q : Q v) :
    ∃ a' C' dx' fs v', V.ref a = V.ref a' ∧ H a' = some (.ins C' dx' fs) ∧ Cls K C' ∧ NoAttr K C' f ∧ fs.lookup f = some v' ∧ Q v' :=
  ⟨a, C, dx, _, v, rfl, h, c.cl, c.no f (ixK_mem e), fz_lk e hv, q⟩
theorem sfld {D : Addr → Addr → Addr → List (Str × V) → Prop} (h : H a = some (.ins C dx (fz ks vs))) (c : CC K C ks) (hf : f ∈ ks) (q : D a C dx (fz ks vs)) :
    ∃ a' C' dx' fs, V.ref a = V.ref a' ∧ H a' = some (.ins C' dx' fs) ∧ Cls K C' ∧ NoAttr K C' f ∧ fs.length < 1000 ∧ D a' C' dx' fs :=
  ⟨a, C, dx, _, rfl, h, c.cl, c.no f hf, by have := fz_len ks vs; have := c.few; omega, q⟩
theorem sfnew {D : Addr → Addr → Addr → List (Str × V) → Prop} (h : H a = some (.ins C dx (fz ks vs))) (c : CC K C KS) (hf : f ∈ KS) (hs : ks.length ≤ KS.length) (q : D a C dx (fz ks vs)) :
    ∃ a' C' dx' fs, V.ref a = V.ref a' ∧ H a' = some (.ins C' dx' fs) ∧ Cls K C' ∧ NoAttr K C' f ∧ fs.length < 1000 ∧ D a' C' dx' fs :=
  ⟨a, C, dx, _, rfl, h, c.cl, c.no f hf, by have := fz_len ks vs; have := c.few; omega, q⟩
end
theorem pgi {X : Cx} {x : Str} {pos : Pos} {n : Int} {t : Tok} (hg : Gl X x) (hm : X.mg x = some (.int n t)) (hd : (x == ("__debug__" : Str)) = false := by decide) : PE X (.Name x pos) (tC (.int n)) := pe_glob hg hm (v := .int n) ⟨t, rfl⟩ hd
theorem ift {c : Bool} {A B : Prop} (hc : c = true) (h : A) : if c = true then A else B := by
  rw [if_pos hc]
  exact h
theorem iff_ {c : Bool} {A B : Prop} (hc : c = false) (h : B) : if c = true then A else B := by
  rw [hc, if_neg Bool.false_ne_true]
  exact h
/-! ## what stands in the heap -/
structure Cs where
  M : Addr
  T : Addr
  G : Addr
  R : Addr
  S : Addr
def mK : List Str := ["origin", "number", "counter", "node", "parent", "label"]
def tK : List Str := ["parents", "labels"]
def gK : List Str := ["sender", "receiver", "counts", "clock", "moves"]
def rK : List Str := ["place", "confirmed", "clocks", "log", "snapshot", "compacted"]
def sK : List Str := ["replicas", "messages", "moves_made"]
/-- what the top has written -/
structure Txt (K : PySem.W.Frag) (mg : Str → Option Value) (c : Cs) : Prop where
  M : CC K c.M mK
  T : CC K c.T tK
  G : CC K c.G gK
  R : CC K c.R rK
  S : CC K c.S sK
  gM : mg "Move" = some (.ref c.M)
  gT : mg "Tree" = some (.ref c.T)
  gG : mg "Message" = some (.ref c.G)
  gR : mg "Replica" = some (.ref c.R)
  gS : mg "Session" = some (.ref c.S)
  len : mg "len" = none
  dict : mg "dict" = none
  sorted : mg "sorted" = none
  zip : mg "zip" = none
  max : mg "max" = none
  min : mg "min" = none
  range : mg "range" = none
  list : mg "list" = none
  all : mg "all" = none
  int : mg "int" = none
  root : ∃ t, mg "ROOT" = some (.int 0 t)
  bin : ∃ t, mg "BIN_trees" = some (.int 1 t)
  placed : ∃ t, mg "PLACED" = some (.int 1 t)
  nopar : ∃ t, mg "NO_PARENT" = some (.int 2 t)
  into : ∃ t, mg "INTO_ITSELF" = some (.int 3 t)
  oor : ∃ t, mg "OUT_OF_RANGE" = some (.int (-1) t)
  nth : ∃ t, mg "NOT_THERE" = some (.int (-2) t)
  tmany : ∃ t, mg "TOO_MANY" = some (.int (-5) t)
  mrep : ∃ t, mg "MOST_REPLICAS" = some (.int 6 t)
  lnode : ∃ t, mg "LAST_NODE" = some (.int 63 t)
  llab : ∃ t, mg "LARGEST_LABEL" = some (.int 1000000000 t)
  mmov : ∃ t, mg "MOST_MOVES" = some (.int 80 t)
  mmsg : ∃ t, mg "MOST_MESSAGES" = some (.int 200 t)
  n1 : ∃ t, mg "BEGIN" = some (.int 1 t)
  n2 : ∃ t, mg "MOVE" = some (.int 2 t)
  n3 : ∃ t, mg "SEND" = some (.int 3 t)
  n4 : ∃ t, mg "DELIVER" = some (.int 4 t)
  n5 : ∃ t, mg "COMPACT" = some (.int 5 t)
  n6 : ∃ t, mg "TREE" = some (.int 6 t)
  n7 : ∃ t, mg "BIN_replicas" = some (.int 7 t)
  n8 : ∃ t, mg "LOG" = some (.int 8 t)
  n9 : ∃ t, mg "HORIZON" = some (.int 9 t)
  n10 : ∃ t, mg "COMPACTABLE" = some (.int 10 t)
def nV (n : Nat) : V := .int (n : Int)
def mV (d : Deed) : List V := [nV d.desk, nV d.n, nV d.move.stamp.count, nV d.move.thing, nV d.move.under, nV d.move.label]
def MovAt (c : Cs) (H : Hp) (a : Addr) (d : Deed) : Prop := ∃ dx, H a = some (.ins c.M dx (fz mK (mV d)))
def pK (T : List Place) : List (Key × V) := T.map fun p => (Sum.inl (p.thing : Int), nV p.under)
def lK (T : List Place) : List (Key × V) := T.map fun p => (Sum.inl (p.thing : Int), nV p.label)
structure TreeAt (c : Cs) (H : Hp) (t ap ab : Addr) (T : List Place) : Prop where
  ne : ap ≠ ab
  ob : ∃ dx, H t = some (.ins c.T dx (fz tK [.ref ap, .ref ab]))
  hp : H ap = some (.dK (pK T))
  hb : H ab = some (.dK (lK T))
theorem TreeAt.same {c : Cs} {H H' : Hp} {t ap ab : Addr} {T : List Place} (h : TreeAt c H t ap ab T) (s : Same H H') : TreeAt c H' t ap ab T :=
  ⟨h.ne, h.ob.elim fun dx e => ⟨dx, s _ _ e⟩, s _ _ h.hp, s _ _ h.hb⟩
theorem MovAt.same {c : Cs} {H H' : Hp} {a : Addr} {d : Deed} (h : MovAt c H a d) (s : Same H H') : MovAt c H' a d := h.elim fun dx e => ⟨dx, s _ _ e⟩
/-- an instance is no dict, no list -/
theorem ins_dict {H : Hp} {a b C dx : Addr} {fs : List (Str × V)} {kvs : List (Key × V)} (h1 : H a = some (.ins C dx fs)) (h2 : H b = some (.dK kvs)) : a ≠ b := ne_of h1 h2 (by intro z; cases z)
theorem ins_list {H : Hp} {a b C dx : Addr} {fs : List (Str × V)} {xs : List V} (h1 : H a = some (.ins C dx fs)) (h2 : H b = some (.lst xs)) : a ≠ b := ne_of h1 h2 (by intro z; cases z)
theorem dict_list {H : Hp} {a b : Addr} {xs : List V} {kvs : List (Key × V)} (h1 : H a = some (.dK kvs)) (h2 : H b = some (.lst xs)) : a ≠ b := ne_of h1 h2 (by intro z; cases z)
/-- a new object -/
theorem same_upd {H : Hp} {p : Addr} {o : HO} (h : H p = none) : Same H (upd H p o) := fun b u e => by
  rw [upd_ne (ne_of_none e h)]
  exact e
theorem Same.upd' {H H' : Hp} {p : Addr} {o : HO} (s : Same H H') (h : H p = none) : Same H (upd H' p o) := fun b u e => by
  rw [upd_ne (ne_of_none e h)]
  exact s _ _ e
theorem key_inj {x y : Nat} : (Sum.inl (x : Int) : Key) = Sum.inl (y : Int) ↔ x = y := by
  constructor
  · intro e
    have := Sum.inl.inj e
    omega
  · rintro rfl
    rfl
theorem valV_pK (x : Nat) : ∀ T : List Place, valV (pK T) (Sum.inl (x : Int)) = (Sq28.get T x).map fun p => nV p.under
  | [] => rfl
  | p :: T => by
    have ih := valV_pK x T
    unfold Sq28.get at ih ⊢
    unfold pK at ih ⊢
    rw [List.map_cons, List.find?_cons]
    by_cases c : p.thing = x
    · rw [valV_pos (key_inj.mpr c)]
      simp [c]
    · rw [valV_neg (fun z => c (key_inj.mp z)), ih]
      have : (p.thing == x) = false := by simpa using c
      rw [this]
theorem valV_lK (x : Nat) : ∀ T : List Place, valV (lK T) (Sum.inl (x : Int)) = (Sq28.get T x).map fun p => nV p.label
  | [] => rfl
  | p :: T => by
    have ih := valV_lK x T
    unfold Sq28.get at ih ⊢
    unfold lK at ih ⊢
    rw [List.map_cons, List.find?_cons]
    by_cases c : p.thing = x
    · rw [valV_pos (key_inj.mpr c)]
      simp [c]
    · rw [valV_neg (fun z => c (key_inj.mp z)), ih]
      have : (p.thing == x) = false := by simpa using c
      rw [this]
theorem putK_pK (T : List Place) (x u l : Nat) : putK (pK T) (Sum.inl (x : Int)) (nV u) = pK (ins ⟨x, u, l⟩ T) := by
  have e : ((pK T).any fun kv => decide (kv.1 = Sum.inl (x : Int))) = (T.any fun q => decide (q.thing = x)) := by
    unfold pK
    rw [List.any_map]
    congr 1
    funext p
    exact decide_eq_decide.mpr key_inj
  unfold putK ins
  rw [e]
  by_cases a : (T.any fun q => decide (q.thing = x)) = true
  · rw [if_pos a, if_pos a]
    unfold pK
    rw [List.map_map, List.map_map]
    refine List.map_congr_left fun p _ => ?_
    show (if (Sum.inl (p.thing : Int) : Key) = Sum.inl (x : Int) then _ else _) = (fun q : Place => ((Sum.inl (q.thing : Int) : Key), nV q.under)) (if p.thing = x then _ else p)
    by_cases c : p.thing = x
    · rw [if_pos (key_inj.mpr c), if_pos c]
      show ((Sum.inl (p.thing : Int) : Key), nV u) = (Sum.inl (x : Int), nV u)
      rw [c]
    · rw [if_neg (fun z => c (key_inj.mp z)), if_neg c]
  · rw [if_neg a, if_neg a]
    unfold pK
    rw [List.map_append]
    rfl
theorem putK_lK (T : List Place) (x u l : Nat) : putK (lK T) (Sum.inl (x : Int)) (nV l) = lK (ins ⟨x, u, l⟩ T) := by
  have e : ((lK T).any fun kv => decide (kv.1 = Sum.inl (x : Int))) = (T.any fun q => decide (q.thing = x)) := by
    unfold lK
    rw [List.any_map]
    congr 1
    funext p
    exact decide_eq_decide.mpr key_inj
  unfold putK ins
  rw [e]
  by_cases a : (T.any fun q => decide (q.thing = x)) = true
  · rw [if_pos a, if_pos a]
    unfold lK
    rw [List.map_map, List.map_map]
    refine List.map_congr_left fun p _ => ?_
    show (if (Sum.inl (p.thing : Int) : Key) = Sum.inl (x : Int) then _ else _) = (fun q : Place => ((Sum.inl (q.thing : Int) : Key), nV q.label)) (if p.thing = x then _ else p)
    by_cases c : p.thing = x
    · rw [if_pos (key_inj.mpr c), if_pos c]
      show ((Sum.inl (p.thing : Int) : Key), nV l) = (Sum.inl (x : Int), nV l)
      rw [c]
    · rw [if_neg (fun z => c (key_inj.mp z)), if_neg c]
  · rw [if_neg a, if_neg a]
    unfold lK
    rw [List.map_append]
    rfl
theorem pK_len (T : List Place) : (pK T).length = T.length := List.length_map _
theorem lK_len (T : List Place) : (lK T).length = T.length := List.length_map _
theorem nV_inj {a b : Nat} : nV a = nV b ↔ a = b := by
  constructor
  · intro e
    have := V.int.inj e
    omega
  · rintro rfl
    rfl
end My
namespace My
open PySem hiding Place
open PySem.Spec PyProof.Rows L2
open Sq28 (Place Tree)
open Sq33 (Deed Desk House Letter Counts at_ most)
/-! ## moves and trees: the promises -/
def spMovI (c : Cs) : Sp := fun vs H Q _ => ∃ (p dx : Addr) (d : Deed), vs = [.ref p, nV d.desk, nV d.n, nV d.move.stamp.count, nV d.move.thing, nV d.move.under, nV d.move.label] ∧ H p = some (.ins c.M dx []) ∧
  ∀ H' : Hp, MovAt c H' p d → (∀ b o, H b = some o → b ≠ p → H' b = some o) → Q .non H'
def spStamp (c : Cs) : Sp := fun vs H Q _ => ∃ (a : Addr) (d : Deed), vs = [.ref a] ∧ MovAt c H a d ∧ ∀ t, H t = none → Q (.ref t) (upd H t (.tup [nV d.move.stamp.count, nV d.desk]))
def spTreI (c : Cs) : Sp := fun vs H Q _ => ∃ (p dx : Addr), vs = [.ref p] ∧ H p = some (.ins c.T dx []) ∧
  ∀ (ap ab : Addr) (H' : Hp), H ap = none → H ab = none → TreeAt c H' p ap ab [] → (∀ b o, H b = some o → b ≠ p → H' b = some o) → Q .non H'
def spTwin (c : Cs) : Sp := fun vs H Q _ => ∃ (t ap ab : Addr) (T : List Place), vs = [.ref t] ∧ TreeAt c H t ap ab T ∧
  ∀ (q qp qb : Addr) (H' : Hp), H q = none → H qp = none → H qb = none → Same H H' → TreeAt c H' q qp qb T → Q (.ref q) H'
def spSame (c : Cs) : Sp := fun vs H Q _ => ∃ (t ap ab u bp bb : Addr) (T U : List Place), vs = [.ref t, .ref u] ∧ TreeAt c H t ap ab T ∧ TreeAt c H u bp bb U ∧ Keys T ∧ Keys U ∧
  ∀ b : Bool, (b = true ↔ ∀ x, Sq28.get T x = Sq28.get U x) → Q (.bl b) H
def spHas (c : Cs) : Sp := fun vs H Q _ => ∃ (t ap ab : Addr) (T : List Place) (x : Nat), vs = [.ref t, nV x] ∧ TreeAt c H t ap ab T ∧ Q (.bl (Sq28.there T x)) H
def spWithin (c : Cs) : Sp := fun vs H Q _ => ∃ (t ap ab : Addr) (T : List Place) (x y : Nat), vs = [.ref t, nV x, nV y] ∧ TreeAt c H t ap ab T ∧ Ok T ∧ Q (.bl ((Sq28.above T x).contains y)) H
def spApply (c : Cs) : Sp := fun vs H Q _ => ∃ (t ap ab m : Addr) (T : List Place) (d : Deed), vs = [.ref t, .ref m] ∧ TreeAt c H t ap ab T ∧ MovAt c H m d ∧ Ok T ∧
  ∀ H' : Hp, TreeAt c H' t ap ab (doneT T d.move) → (∀ b o, H b = some o → b ≠ ap → b ≠ ab → H' b = some o) → Q (nV (Sq28.outcome T d.move)) H'
section
variable {P : Program} {w : World} {K : PySem.W.Frag} {mg : Str → Option Value} {base : Heap} {c : Cs}
theorem scMovI : FnScope ["self", "origin", "number", "counter", "node", "parent", "label"] ["self", "origin", "number", "counter", "node", "parent", "label"] (defScope sMovI) := ⟨rfl, rfl, rfl, by decide +kernel, rfl, by decide +kernel, by decide +kernel⟩
theorem ok_movI {f : Addr} {fd : FuncData} (F : Fun K "__init__" "Move.__init__" sMovI f fd) (T : Txt K mg c) : FnOk P w K mg base CX0 1 f fd ["self", "origin", "number", "counter", "node", "parent", "label"] (spMovI c) := by
  refine F.ok scMovI (fun vs H Q E h => ?_) (fun cdv A outer s H vs Q E hr h => ?_)
  · obtain ⟨p, dx, d, rfl, _⟩ := h
    rfl
  · obtain ⟨p, dx, d, rfl, hp, k⟩ := h
    refine ⟨_, pss_cons (ps_fld (pv 0) (pv 1) rfl) (pss_cons (ps_fld (pv 0) (pv 2) rfl) (pss_cons (ps_fld (pv 0) (pv 3) rfl) (pss_cons (ps_fld (pv 0) (pv 4) rfl) (pss_cons (ps_fld (pv 0) (pv 5) rfl) (pss_one (ps_fld (pv 0) (pv 6) rfl)))))), ?_⟩
    refine ⟨_, rfl, _, rfl, sfnew (ks := []) (vs := []) hp T.M (by decide +kernel) (by decide) ?_⟩
    rw [fz_new (by decide +kernel) rfl]
    refine ⟨_, rfl, _, rfl, sfnew upd_same T.M (by decide +kernel) (by decide) ?_⟩
    rw [fz_new (by decide +kernel) rfl]
    refine ⟨_, rfl, _, rfl, sfnew upd_same T.M (by decide +kernel) (by decide) ?_⟩
    rw [fz_new (by decide +kernel) rfl]
    refine ⟨_, rfl, _, rfl, sfnew upd_same T.M (by decide +kernel) (by decide) ?_⟩
    rw [fz_new (by decide +kernel) rfl]
    refine ⟨_, rfl, _, rfl, sfnew upd_same T.M (by decide +kernel) (by decide) ?_⟩
    rw [fz_new (by decide +kernel) rfl]
    refine ⟨_, rfl, _, rfl, sfnew upd_same T.M (by decide +kernel) (by decide) ?_⟩
    rw [fz_new (by decide +kernel) rfl]
    refine k _ ⟨dx, upd_same⟩ fun b o e hb => ?_
    simp only [upd_ne hb]
    exact e
theorem scStamp : FnScope ["move"] ["move"] (defScope sStamp) := ⟨rfl, rfl, rfl, by decide +kernel, rfl, by decide +kernel, by decide +kernel⟩
theorem ok_stamp {f : Addr} {fd : FuncData} (F : Fun K "timestamp" "timestamp" sStamp f fd) (T : Txt K mg c) : FnOk P w K mg base CX0 1 f fd ["move"] (spStamp c) := by
  refine F.ok scStamp (fun vs H Q E h => ?_) (fun cdv A outer s H vs Q E hr h => ?_)
  · obtain ⟨p, d, rfl, _⟩ := h
    rfl
  · obtain ⟨p, d, rfl, ⟨dx, hp⟩, k⟩ := h
    refine ⟨_, pss_one (ps_ret (pe_tup (pa_cons (pe_fld (pv 0) rfl) (pa_cons (pe_fld (pv 0) rfl) pa_nil)))), ?_⟩
    refine ⟨_, rfl, fld hp T.M (i := 2) (by decide +kernel) rfl ⟨_, rfl, fld hp T.M (i := 0) (by decide +kernel) rfl ⟨(by show 2 ≤ sizeLine; decide), fun t ht => ?_⟩⟩⟩
    exact k t ht
theorem scTreI : FnScope ["self"] ["self"] (defScope sTreI) := ⟨rfl, rfl, rfl, by decide +kernel, rfl, by decide +kernel, by decide +kernel⟩
theorem ok_treI {f : Addr} {fd : FuncData} (F : Fun K "__init__" "Tree.__init__" sTreI f fd) (T : Txt K mg c) : FnOk P w K mg base CX0 1 f fd ["self"] (spTreI c) := by
  refine F.ok scTreI (fun vs H Q E h => ?_) (fun cdv A outer s H vs Q E hr h => ?_)
  · obtain ⟨p, dx, rfl, _⟩ := h
    rfl
  · obtain ⟨p, dx, rfl, hp, k⟩ := h
    refine ⟨_, pss_cons (ps_fld (pv 0) pe_dnewK rfl) (pss_one (ps_fld (pv 0) pe_dnewK rfl)), ?_⟩
    intro ap hap
    have n1 : p ≠ ap := ne_of_none hp hap
    refine ⟨_, rfl, sfnew (ks := []) (vs := []) (dx := dx) (C := c.T) (by rw [upd_ne n1]; exact hp) T.T (by decide +kernel) (by decide) ?_⟩
    rw [fz_new (by decide +kernel) rfl]
    intro ab hab
    have n2 : p ≠ ab := fun z => by rw [← z, upd_same] at hab; cases hab
    have n3 : ap ≠ ab := fun z => by rw [← z, upd_ne n1.symm, upd_same] at hab; cases hab
    have hab0 : H ab = none := by
      rw [upd_ne n2.symm, upd_ne n3.symm] at hab
      exact hab
    refine ⟨_, rfl, sfnew (by rw [upd_ne n2]; exact upd_same) T.T (by decide +kernel) (by decide) ?_⟩
    rw [fz_new (by decide +kernel) rfl]
    refine k ap ab _ hap hab0 ⟨n3, ⟨dx, upd_same⟩, ?_, ?_⟩ fun b o e hb => ?_
    · rw [upd_ne n1.symm, upd_ne n3, upd_ne n1.symm, upd_same]
      rfl
    · rw [upd_ne n2.symm, upd_same]
      rfl
    · rw [upd_ne hb, upd_ne (ne_of_none e hab0), upd_ne hb, upd_ne (ne_of_none e hap)]
      exact e
end
end My
namespace My
open PySem hiding Place
open PySem.Spec PyProof.Rows L2
open Sq28 (Place Tree)
open Sq33 (Deed Desk House Letter Counts at_ most)
theorem nVd (a b : Nat) : decide (nV a = nV b) = decide (a = b) := decide_eq_decide.mpr nV_inj
section
variable {P : Program} {w : World} {K : PySem.W.Frag} {mg : Str → Option Value} {base : Heap} {c : Cs}
theorem scTwin : FnScope ["self", "other"] ["self"] (defScope sTwin) := ⟨rfl, rfl, rfl, by decide +kernel, rfl, by decide +kernel, by decide +kernel⟩
theorem ok_twin {f fI : Addr} {fd fdI : FuncData} (F : Fun K "twin" "Tree.twin" sTwin f fd) (T : Txt K mg c) (M : Mk K c.T fI) (FI : Fun K "__init__" "Tree.__init__" sTreI fI fdI) (bI : Binds K fdI ["self"] []) : FnOk P w K mg base CX0 3 f fd ["self"] (spTwin c) := by
  have GI : FnOk P w K mg base CX0 1 fI fdI ["self"] (spTreI c) := ok_treI FI T
  refine F.ok scTwin (fun vs H Q E h => ?_) (fun cdv A outer s H vs Q E hr h => ?_)
  · obtain ⟨t, ap, ab, L, rfl, _⟩ := h
    rfl
  · obtain ⟨t, ap, ab, L, rfl, tr, k⟩ := h
    obtain ⟨dt, ht⟩ := tr.ob
    refine ⟨_, pss_cons (ps_set (i := 1) scTwin.nd rfl (Or.inl rfl) (pe_make0 M GI hr rfl T.gT bI .nil pass0))
      (pss_cons (ps_fld (pv 1) (pe_callTy call_dictD (by rfl) T.dict (by decide +kernel) (pa_cons (pe_fld (pv 0) rfl) pa_nil)) rfl)
      (pss_cons (ps_fld (pv 1) (pe_callTy call_dictD (by rfl) T.dict (by decide +kernel) (pa_cons (pe_fld (pv 0) rfl) pa_nil)) rfl)
      (pss_one (ps_ret (pv 1))))), ?_⟩
    intro x dx nx nd nex
    refine ⟨x, dx, rfl, upd_same, fun ap1 ab1 H1 n1 n2 tr1 kp => ⟨rfl, ?_⟩⟩
    have s1 : Same H H1 := Same.made nx nd kp
    obtain ⟨d1, hx⟩ := tr1.ob
    refine ⟨_, rfl, fld (s1 _ _ ht) T.T (i := 0) (by decide +kernel) rfl ⟨ap, _, rfl, .inl (s1 _ _ tr.hp), fun q hq => ?_⟩⟩
    have nxq : x ≠ q := ne_of_none hx hq
    refine ⟨_, rfl, sfld (by rw [upd_ne nxq]; exact hx) T.T (by decide +kernel) ?_⟩
    rw [fz_put (i := 0) (by decide +kernel) rfl]
    have q0 : H q = none := s1.free hq
    have nxt : t ≠ x := ne_of_none ht nx
    have s2 : Same H (upd (upd H1 q (.dK (pK L))) x (.ins c.T d1 (fz tK [.ref q, .ref ab1]))) := fun b o e => by
      rw [upd_ne (ne_of_none e nx), upd_ne (ne_of_none e q0)]
      exact s1 _ _ e
    refine ⟨_, rfl, fld (s2 _ _ ht) T.T (i := 1) (by decide +kernel) rfl ⟨ab, _, rfl, .inl (s2 _ _ tr.hb), fun r hr1 => ?_⟩⟩
    have nxr : x ≠ r := fun z => by rw [← z, upd_same] at hr1; cases hr1
    have nqr : q ≠ r := fun z => by rw [← z, upd_ne nxq.symm, upd_same] at hr1; cases hr1
    have r0 : H r = none := s2.free hr1
    refine ⟨_, rfl, sfld (by rw [upd_ne nxr]; exact upd_same) T.T (by decide +kernel) ?_⟩
    rw [fz_put (i := 1) (by decide +kernel) rfl]
    refine ⟨_, rfl, k x q r _ nx q0 r0 (fun b o e => ?_) ⟨nqr, ⟨d1, upd_same⟩, ?_, ?_⟩⟩
    · rw [upd_ne (ne_of_none e nx), upd_ne (ne_of_none e r0)]
      exact s2 _ _ e
    · rw [upd_ne nxq.symm, upd_ne nqr, upd_ne nxq.symm, upd_same]
    · rw [upd_ne nxr.symm, upd_same]
theorem scHas : FnScope ["self", "node"] ["self", "node"] (defScope sHas) := ⟨rfl, rfl, rfl, by decide +kernel, rfl, by decide +kernel, by decide +kernel⟩
theorem ok_has {f : Addr} {fd : FuncData} (F : Fun K "has" "Tree.has" sHas f fd) (T : Txt K mg c) : FnOk P w K mg base CX0 1 f fd ["self", "node"] (spHas c) := by
  refine F.ok scHas (fun vs H Q E h => ?_) (fun cdv A outer s H vs Q E hr h => ?_)
  · obtain ⟨t, ap, ab, L, x, rfl, _⟩ := h
    rfl
  · obtain ⟨t, ap, ab, L, x, rfl, tr, k⟩ := h
    obtain ⟨dt, ht⟩ := tr.ob
    obtain ⟨t0, e0⟩ := T.root
    obtain ⟨t1, e1⟩ := T.bin
    refine ⟨_, pss_one (ps_ret (pe_or (pe_cmpR op_eq (pv 1) (pgi rfl e0) (nomark _)) (pe_or (pe_cmpR op_eq (pv 1) (pgi rfl e1) (nomark _))
      (pe_one (pe_cmp (pc_din (hu_of hr) (pv 1) (pe_fld (pv 0) rfl)) rfl))))), ?_⟩
    unfold Sq28.there at k
    refine ⟨_, rfl, rfl, _, rfl, ?_⟩
    have d0 : decide (nV x = V.int 0) = (x == 0) := nVd x 0
    have d1 : decide (nV x = V.int 1) = (x == 1) := nVd x 1
    rw [d0]
    by_cases c0 : (x == 0) = true
    · refine ift c0 ?_
      rw [show (x == Sq28.ROOT) = true from c0, Bool.true_or] at k
      exact k
    · have c0' : (x == 0) = false := by simpa using c0
      refine iff_ c0' ⟨_, rfl, rfl, _, rfl, ?_⟩
      rw [show (x == Sq28.ROOT) = false from c0', Bool.false_or] at k
      rw [d1]
      by_cases c1 : (x == 1) = true
      · refine ift c1 ?_
        rw [show (x == Sq28.BIN) = true from c1, Bool.true_or] at k
        exact k
      · have c1' : (x == 1) = false := by simpa using c1
        refine iff_ c1' ⟨_, rfl, _, rfl, fld ht T.T (i := 0) (by decide +kernel) rfl ⟨ap, _, rfl, DGet.k (k := Sum.inl (x : Int)) tr.hp, ?_⟩⟩
        rw [show (x == Sq28.BIN) = false from c1', Bool.false_or] at k
        rw [valV_pK, Option.isSome_map]
        exact k
theorem scWithin : FnScope ["self", "node", "top", "reached"] ["self", "node", "top"] (defScope sWithin) := ⟨rfl, rfl, rfl, by decide +kernel, rfl, by decide +kernel, by decide +kernel⟩
theorem ok_within {f : Addr} {fd : FuncData} (F : Fun K "is_within" "Tree.is_within" sWithin f fd) (T : Txt K mg c) : FnOk P w K mg base CX0 1 f fd ["self", "node", "top"] (spWithin c) := by
  refine F.ok scWithin (fun vs H Q E h => ?_) (fun cdv A outer s H vs Q E hr h => ?_)
  · obtain ⟨t, ap, ab, L, x, y, rfl, _⟩ := h
    rfl
  · obtain ⟨t, ap, ab, L, x, y, rfl, tr, ok, k⟩ := h
    obtain ⟨dt, ht⟩ := tr.ob
    refine ⟨_, pss_cons (ps_set (i := 3) scWithin.nd rfl (Or.inl rfl) (pv 1))
      (pss_cons (ps_while PassesOwn.never (PW.pt (pw_and (pt_cmpR op_ne (pv 3) (pv 2) (nomark _)) (pw_and1 (pt_cmp (pc_din (hu_of hr) (pv 3) (pe_fld (pv 0) rfl))))))
        (pss_one (ps_set (i := 3) scWithin.nd rfl (Or.inl rfl) (pe_dget (hu_of hr) (pe_fld (pv 0) rfl) (pv 3) (fun _ _ => rfl)))))
      (pss_one (ps_ret (pe_cmpR op_eq (pv 3) (pv 2) (nomark _))))), ?_⟩
    refine ⟨_, rfl, ?_⟩
    refine ⟨fun m σ H' => H' = H ∧ ∃ r : Nat, σ = [some (.ref t), some (nV x), some (nV y), some (nV r)] ∧ (Sq28.above L r).contains y = (Sq28.above L x).contains y ∧ m = (Sq28.above L r).length,
      ⟨_, rfl, x, rfl, rfl, rfl⟩, ?_⟩
    rintro m σ H' ⟨rfl, r, rfl, hc, rfl⟩
    refine ⟨_, rfl, _, rfl, rfl, _, rfl, ?_⟩
    rw [nVd]
    have fin : (Sq28.get L r = none ∨ r = y) → Q (.bl (decide (nV r = nV y))) H' := fun e => by
      rw [nVd, ← within_stop ok e, hc]
      exact k
    by_cases cy : r = y
    · refine iff_ (by rw [decide_eq_true cy]; rfl) ?_
      refine iff_ rfl ?_
      exact ⟨_, rfl, _, rfl, rfl, fin (.inr cy)⟩
    · refine ift (by rw [decide_eq_false cy]; rfl) ?_
      refine ⟨_, rfl, _, rfl, fld ht T.T (i := 0) (by decide +kernel) rfl ⟨ap, _, rfl, DGet.k (k := Sum.inl (r : Int)) tr.hp, _, rfl, ?_⟩⟩
      rw [valV_pK, Option.isSome_map]
      cases e : Sq28.get L r with
      | none =>
        refine iff_ rfl ?_
        exact ⟨_, rfl, _, rfl, rfl, fin (.inl e)⟩
      | some p =>
        refine ift rfl ?_
        have ab1 := above_some ok e
        refine ⟨fun σ' H2 => H2 = H' ∧ σ' = [some (.ref t), some (nV x), some (nV y), some (nV p.under)], fun σ' H2 ⟨e1, e2⟩ => ⟨_, ?_, e1, p.under, e2, ?_, rfl⟩, ?_⟩
        · rw [ab1, List.length_cons]
          exact Nat.lt_succ_self _
        · rw [← hc]
          exact (within_step ok cy e).symm
        · refine ⟨_, rfl, fld ht T.T (i := 0) (by decide +kernel) rfl ⟨_, rfl, ap, nV p.under, rfl, ?_, rfl, rfl⟩⟩
          have := DGet.k (k := Sum.inl (r : Int)) tr.hp
          rw [valV_pK, e] at this
          exact this
theorem scApply : FnScope ["self", "move"] ["self", "move"] (defScope sApply) := ⟨rfl, rfl, rfl, by decide +kernel, rfl, by decide +kernel, by decide +kernel⟩
theorem ok_apply {f fH fW : Addr} {fd fdH fdW : FuncData} (F : Fun K "apply" "Tree.apply" sApply f fd) (T : Txt K mg c) (FH : Fun K "has" "Tree.has" sHas fH fdH) (bH : Binds K fdH ["self", "node"] []) (mH : Meth K c.T "has" fH)
    (FW : Fun K "is_within" "Tree.is_within" sWithin fW fdW) (bW : Binds K fdW ["self", "node", "top"] []) (mW : Meth K c.T "is_within" fW) : FnOk P w K mg base CX0 2 f fd ["self", "move"] (spApply c) := by
  have GH : FnOk P w K mg base CX0 1 fH fdH ["self", "node"] (spHas c) := ok_has FH T
  have GW : FnOk P w K mg base CX0 1 fW fdW ["self", "node", "top"] (spWithin c) := ok_within FW T
  refine F.ok scApply (fun vs H Q E h => ?_) (fun cdv A outer s H vs Q E hr h => ?_)
  · obtain ⟨t, ap, ab, m, L, d, rfl, _⟩ := h
    rfl
  · obtain ⟨t, ap, ab, m, L, d, rfl, tr, ⟨dm, hm⟩, ok, k⟩ := h
    obtain ⟨dt, ht⟩ := tr.ob
    obtain ⟨t0, e0⟩ := T.nopar
    obtain ⟨t1, e1⟩ := T.into
    obtain ⟨t2, e2⟩ := T.placed
    refine ⟨_, pss_cons (ps_if (pt_not (pt_val (pe_meth (pv 0) T.T.cl mH GH hr bH .nil pass0 (pa_cons (pe_fld (pv 1) rfl) pa_nil)))) (pss_one (ps_ret (pgi rfl e0))) pss_nil)
      (pss_cons (ps_if (pt_val (pe_meth (pv 0) T.T.cl mW GW hr bW .nil pass0 (pa_cons (pe_fld (pv 1) rfl) (pa_cons (pe_fld (pv 1) rfl) pa_nil)))) (pss_one (ps_ret (pgi rfl e1))) pss_nil)
      (pss_cons (ps_dput (hu_of hr) (pe_fld (pv 0) rfl) (pe_fld (pv 1) rfl) (pe_fld (pv 1) rfl) rfl)
      (pss_cons (ps_dput (hu_of hr) (pe_fld (pv 0) rfl) (pe_fld (pv 1) rfl) (pe_fld (pv 1) rfl) rfl)
      (pss_one (ps_ret (pgi rfl e2)))))), ?_⟩
    refine ⟨_, rfl, t, dt, _, rfl, ht, fz_no (by decide +kernel), _, rfl, fld hm T.M (i := 4) (by decide +kernel) rfl ⟨t, ap, ab, L, d.move.under, rfl, tr, _, rfl, ?_⟩⟩
    have nok : Sq28.outcome L d.move ≠ 1 → Q (nV (Sq28.outcome L d.move)) H := fun z => k H (by unfold doneT; rw [if_neg z]; exact tr) fun b o e _ _ => e
    by_cases c1 : Sq28.there L d.move.under = false
    · have o2 : Sq28.outcome L d.move = 2 := by unfold Sq28.outcome; rw [if_pos c1]
      refine ift (by rw [c1]; rfl) ?_
      have := nok (by rw [o2]; decide)
      rw [o2] at this
      exact this
    · refine iff_ (by simp at c1; rw [c1]; rfl) ?_
      refine ⟨_, rfl, t, dt, _, rfl, ht, fz_no (by decide +kernel), _, rfl, fld hm T.M (i := 4) (by decide +kernel) rfl ⟨_, rfl, fld hm T.M (i := 3) (by decide +kernel) rfl ⟨t, ap, ab, L, d.move.under, d.move.thing, rfl, tr, ok, _, rfl, ?_⟩⟩⟩
      by_cases c2 : (Sq28.above L d.move.under).contains d.move.thing = true
      · have o3 : Sq28.outcome L d.move = 3 := by unfold Sq28.outcome; rw [if_neg c1, if_pos c2]
        refine ift c2 ?_
        have := nok (by rw [o3]; decide)
        rw [o3] at this
        exact this
      · have o1 : Sq28.outcome L d.move = 1 := by unfold Sq28.outcome; rw [if_neg c1, if_neg c2]
        refine iff_ (by simpa using c2) ?_
        have hl : L.length < sizeLine := Nat.lt_of_le_of_lt ok.len (by decide)
        refine ⟨_, rfl, fld hm T.M (i := 4) (by decide +kernel) rfl ⟨_, rfl, fld ht T.T (i := 0) (by decide +kernel) rfl ⟨_, rfl, fld hm T.M (i := 3) (by decide +kernel) rfl ⟨ap, _, rfl, DPut.k (k := Sum.inl (d.move.thing : Int)) tr.hp (by rw [pK_len]; exact hl), ?_⟩⟩⟩⟩
        have np : ∀ {b C dx : Addr} {fs : List (Str × V)}, H b = some (.ins C dx fs) → b ≠ ap := fun e => ins_dict e tr.hp
        have nb : ∀ {b C dx : Addr} {fs : List (Str × V)}, H b = some (.ins C dx fs) → b ≠ ab := fun e => ins_dict e tr.hb
        refine ⟨_, rfl, fld (by rw [upd_ne (np hm)]; exact hm) T.M (i := 5) (by decide +kernel) rfl ⟨_, rfl, fld (by rw [upd_ne (np ht)]; exact ht) T.T (i := 1) (by decide +kernel) rfl ⟨_, rfl, fld (by rw [upd_ne (np hm)]; exact hm) T.M (i := 3) (by decide +kernel) rfl
          ⟨ab, _, rfl, DPut.k (k := Sum.inl (d.move.thing : Int)) (by rw [upd_ne tr.ne.symm]; exact tr.hb) (by rw [lK_len]; exact hl), ?_⟩⟩⟩⟩
        rw [putK_pK L d.move.thing d.move.under d.move.label, putK_lK L d.move.thing d.move.under d.move.label]
        have := k (upd (upd H ap (.dK (pK (ins ⟨d.move.thing, d.move.under, d.move.label⟩ L)))) ab (.dK (lK (ins ⟨d.move.thing, d.move.under, d.move.label⟩ L)))) (by
          unfold doneT
          rw [if_pos o1]
          refine ⟨tr.ne, ⟨dt, ?_⟩, ?_, upd_same⟩
          · rw [upd_ne (nb ht), upd_ne (np ht)]
            exact ht
          · rw [upd_ne tr.ne]
            exact upd_same) fun b o e h1 h2 => by
          rw [upd_ne h2, upd_ne h1]
          exact e
        rw [o1] at this
        exact this
end
end My
namespace My
open PySem hiding Place
open PySem.Spec PyProof.Rows L2
open Sq28 (Place Tree)
open Sq33 (Deed Desk House Letter Counts at_ most)
/-! ## two trees compared -/
theorem keys_nodup {T : List Place} (h : Keys T) : T.Nodup := h.imp fun h e => h (by rw [e])
theorem sub_sub {α : Type} [DecidableEq α] {l m : List α} (hl : l.Nodup) (h : ∀ x ∈ l, x ∈ m) (hn : m.length ≤ l.length) : ∀ x ∈ m, x ∈ l := fun x hx => Classical.byContradiction fun z => by
  have := (List.nodup_cons.mpr ⟨z, hl⟩).length_le_of_subset (l₂ := m) fun y hy => by
    rcases List.mem_cons.mp hy with rfl | hy
    · exact hx
    · exact h y hy
  rw [List.length_cons] at this
  omega
theorem place_ext {p q : Place} (h1 : p.thing = q.thing) (h2 : p.under = q.under) (h3 : p.label = q.label) : p = q := by
  cases p
  cases q
  simp at h1 h2 h3
  rw [h1, h2, h3]
theorem dicts_same {T U : List Place} (hT : Keys T) (hU : Keys U) :
    (((pK T).length == (pK U).length && (pK T).all fun p => decide (valV (pK U) p.1 = some p.2)) = true ∧ ((lK T).length == (lK U).length && (lK T).all fun p => decide (valV (lK U) p.1 = some p.2)) = true) ↔ ∀ x, Sq28.get T x = Sq28.get U x := by
  constructor
  · rintro ⟨h1, h2⟩
    rw [Bool.and_eq_true, List.all_eq_true, pK_len, pK_len] at h1
    rw [Bool.and_eq_true, List.all_eq_true] at h2
    have hlen : T.length = U.length := by simpa using h1.1
    have sub : ∀ p ∈ T, p ∈ U := fun p hp => by
      have a := h1.2 _ (List.mem_map.mpr ⟨p, hp, rfl⟩)
      have b := h2.2 _ (List.mem_map.mpr ⟨p, hp, rfl⟩)
      have a' := of_decide_eq_true a
      have b' := of_decide_eq_true b
      dsimp only at a' b'
      rw [valV_pK] at a'
      rw [valV_lK] at b'
      cases e : Sq28.get U p.thing with
      | none => rw [e] at a'; cases a'
      | some q =>
        rw [e] at a' b'
        obtain ⟨m, et⟩ := get_some e
        have a2 := nV_inj.mp (Option.some.inj a')
        have b2 := nV_inj.mp (Option.some.inj b')
        rw [← place_ext et a2 b2]
        exact m
    have sup := sub_sub (keys_nodup hT) sub (by omega)
    have p : T.Perm U := (List.perm_ext_iff_of_nodup (keys_nodup hT) (keys_nodup hU)).mpr fun q => ⟨sub q, sup q⟩
    exact get_perm hU p
  · intro h
    have mem : ∀ p, p ∈ T ↔ p ∈ U := fun p => ⟨fun m => (get_some ((h p.thing).symm.trans (get_of hT m))).1, fun m => (get_some ((h p.thing).trans (get_of hU m))).1⟩
    have p : T.Perm U := (List.perm_ext_iff_of_nodup (keys_nodup hT) (keys_nodup hU)).mpr mem
    rw [Bool.and_eq_true, Bool.and_eq_true, List.all_eq_true, List.all_eq_true, pK_len, pK_len, lK_len, lK_len, p.length_eq]
    refine ⟨⟨by simp, fun q hq => ?_⟩, by simp, fun q hq => ?_⟩
    · obtain ⟨z, hz, rfl⟩ := List.mem_map.mp hq
      refine decide_eq_true ?_
      show valV (pK U) (Sum.inl (z.thing : Int)) = some (nV z.under)
      rw [valV_pK, ← h, get_of hT hz]
      rfl
    · obtain ⟨z, hz, rfl⟩ := List.mem_map.mp hq
      refine decide_eq_true ?_
      show valV (lK U) (Sum.inl (z.thing : Int)) = some (nV z.label)
      rw [valV_lK, ← h, get_of hT hz]
      rfl
theorem pK_ints (T : List Place) : ∀ p ∈ pK T, intB p.2 = true := fun p hp => by
  obtain ⟨z, _, rfl⟩ := List.mem_map.mp hp
  rfl
theorem lK_ints (T : List Place) : ∀ p ∈ lK T, intB p.2 = true := fun p hp => by
  obtain ⟨z, _, rfl⟩ := List.mem_map.mp hp
  rfl
/-! ## rows -/
def RowsAt (H : Hp) (ts : List Addr) (rs : List (List Nat)) : Prop := ts.length = rs.length ∧ ∀ (i : Nat) (t : Addr) (r : List Nat), ts[i]? = some t → rs[i]? = some r → H t = some (.tup (r.map nV))
theorem RowsAt.nil (H : Hp) : RowsAt H [] [] := ⟨rfl, fun i t r h => by simp at h⟩
theorem RowsAt.keep {H H' : Hp} {ts : List Addr} {rs : List (List Nat)} (h : RowsAt H ts rs) (k : ∀ b xs, H b = some (.tup xs) → H' b = some (.tup xs)) : RowsAt H' ts rs := ⟨h.1, fun i t r a b => k _ _ (h.2 i t r a b)⟩
theorem RowsAt.snoc {H : Hp} {ts : List Addr} {rs : List (List Nat)} {t : Addr} {r : List Nat} (h : RowsAt H ts rs) (e : H t = some (.tup (r.map nV))) : RowsAt H (ts ++ [t]) (rs ++ [r]) := by
  refine ⟨by rw [List.length_append, List.length_append, h.1]; rfl, fun i t' r' a b => ?_⟩
  by_cases c : i < ts.length
  · rw [List.getElem?_append_left c] at a
    rw [List.getElem?_append_left (by rw [← h.1]; exact c)] at b
    exact h.2 i t' r' a b
  · have c1 : i = ts.length := by
      have := (List.getElem?_eq_some_iff.mp a).1
      rw [List.length_append, List.length_singleton] at this
      omega
    subst c1
    rw [List.getElem?_append_right (Nat.le_refl _), Nat.sub_self] at a
    rw [h.1, List.getElem?_append_right (Nat.le_refl _), Nat.sub_self] at b
    have e1 : t = t' := by simpa using a
    have e2 : r = r' := by simpa using b
    rw [← e1, ← e2]
    exact e
def row3 (q : Nat × Nat × Nat) : List Nat := [q.1, q.2.1, q.2.2]
theorem sorted_descI {T t : List Place} (h : Tr T t) {ys : List Int} (p : ys.Perm (T.map fun q => (q.thing : Int))) (o : ys.Pairwise (· ≥ ·)) : ys = ((t.map (·.thing)).reverse).map fun (n : Nat) => (n : Int) := by
  have p1 : (T.map fun q => (q.thing : Int)).Perm (((t.map (·.thing)).reverse).map fun (n : Nat) => (n : Int)) := by
    have := (h.perm.map (·.thing)).trans (List.reverse_perm (t.map (·.thing))).symm
    have := this.map fun (n : Nat) => (n : Int)
    rw [List.map_map] at this
    exact this
  refine (p.trans p1).eq_of_pairwise (le := fun a b => a ≥ b) (fun x y _ _ h1 h2 => by omega) o ?_
  rw [List.pairwise_map, List.pairwise_reverse, List.pairwise_map]
  refine h.asc.imp fun h => ?_
  show (_ : Int) ≤ _
  omega
/-- whether a node stands straight below x -/
def isUnder (t : List Place) (x y : Nat) : Bool := decide ((Sq28.get t y).map (·.under) = some x)
theorem filter_under {t : List Place} (k : Keys t) (x : Nat) : ((t.map (·.thing)).reverse).filter (isUnder t x) = ((Sq28.under t x).map (·.thing)).reverse := by
  rw [List.filter_reverse, List.filter_map]
  congr 2
  unfold Sq28.under
  refine List.filter_congr fun p hp => ?_
  show isUnder t x p.thing = _
  unfold isUnder
  rw [get_of k hp]
  show decide (some p.under = some x) = (p.under == x)
  by_cases c : p.under = x
  · rw [c]; simp
  · rw [decide_eq_false (fun z => c (Option.some.inj z))]
    simpa using fun z => c z
theorem isUnder_get {t : List Place} {x y : Nat} (h : isUnder t x y = true) : ∃ p, p ∈ t ∧ p.thing = y ∧ p.under = x := by
  unfold isUnder at h
  have := of_decide_eq_true h
  cases e : Sq28.get t y with
  | none => rw [e] at this; cases this
  | some p =>
    rw [e] at this
    obtain ⟨m, e2⟩ := get_some e
    exact ⟨p, m, e2, Option.some.inj this⟩
/-- the depths noted -/
def Deps (t : List Place) (top : Nat) (kvs : List (Key × V)) (S : List Nat) : Prop := ∀ y ∈ S, valV kvs (Sum.inl (y : Int)) = some (nV (dep t top y))
theorem valV_put {κ : Type} [DecidableEq κ] (k k' : κ) (v : V) : ∀ kvs : List (κ × V), valV (putK kvs k v) k' = if k' = k then some v else valV kvs k' := by
  intro kvs
  unfold putK
  by_cases a : (kvs.any fun kv => decide (kv.1 = k)) = true
  · rw [if_pos a]
    induction kvs with
    | nil => simp at a
    | cons p r ih =>
      rw [List.map_cons]
      by_cases c : p.1 = k
      · rw [if_pos c]
        by_cases c2 : k' = k
        · rw [if_pos c2, valV_pos (by rw [c2]; exact c)]
        · rw [if_neg c2, valV_neg (fun z => c2 (by rw [← z, ← c]))]
          have c3 : ¬ p.1 = k' := fun z => c2 (by rw [← z, c])
          rw [valV_neg c3]
          by_cases a2 : (r.any fun kv => decide (kv.1 = k)) = true
          · rw [ih a2, if_neg c2]
          · have hn : ∀ q ∈ r, ¬ q.1 = k := fun q hq z => a2 (List.any_eq_true.mpr ⟨q, hq, decide_eq_true z⟩)
            congr 1
            conv => rhs; rw [← List.map_id r]
            refine List.map_congr_left fun q hq => ?_
            rw [if_neg (hn q hq)]
            rfl
      · rw [if_neg c]
        have a2 : (r.any fun kv => decide (kv.1 = k)) = true := by
          rw [List.any_cons, decide_eq_false c, Bool.false_or] at a
          exact a
        by_cases c3 : p.1 = k'
        · rw [valV_pos c3, valV_pos c3, if_neg (fun z => c (by rw [c3, z]))]
        · rw [valV_neg c3, valV_neg c3]
          exact ih a2
  · rw [if_neg a]
    have hn : valV kvs k = none := by
      have := valV_any k kvs
      cases e : valV kvs k with
      | none => rfl
      | some u =>
        rw [e] at this
        exact (a this).elim
    have app : ∀ l : List (κ × V), valV (l ++ [(k, v)]) k' = match valV l k' with
      | some u => some u
      | none => if k' = k then some v else none := by
      intro l
      induction l with
      | nil =>
        by_cases c : k' = k
        · rw [if_pos c]
          exact valV_pos c.symm
        · rw [if_neg c]
          exact valV_neg fun z => c z.symm
      | cons p r ih =>
        rw [List.cons_append]
        by_cases c3 : p.1 = k'
        · rw [valV_pos c3, valV_pos c3]
        · rw [valV_neg c3, valV_neg c3]
          exact ih
    rw [app]
    by_cases c : k' = k
    · rw [if_pos c, if_pos c, c, hn]
    · rw [if_neg c, if_neg c]
      cases valV kvs k' <;> rfl
theorem putK_len {κ : Type} [DecidableEq κ] (kvs : List (κ × V)) (k : κ) (v : V) : (putK kvs k v).length ≤ kvs.length + 1 := by
  unfold putK
  split
  · rw [List.length_map]
    omega
  · rw [List.length_append, List.length_singleton]
    omega
theorem deps_put {t : List Place} {top y : Nat} {kvs : List (Key × V)} {S : List Nat} (h : Deps t top kvs S) : Deps t top (putK kvs (Sum.inl (y : Int)) (nV (dep t top y))) (y :: S) := by
  intro z hz
  rw [valV_put]
  by_cases c : z = y
  · rw [c, if_pos rfl]
  · rw [if_neg (fun q => c (key_inj.mp q))]
    rcases List.mem_cons.mp hz with e | hz
    · exact (c e).elim
    · exact h z hz
def spRows (c : Cs) : Sp := fun vs H Q _ => ∃ (t ap ab : Addr) (T u : List Place) (top : Nat), vs = [.ref t, nV top] ∧ TreeAt c H t ap ab T ∧ Tr T u ∧ top < 2 ∧ (Sq28.all u top).length ≤ 1000000 ∧
  ∀ (p : Addr) (ts : List Addr) (H' : Hp), Same H H' → H p = none → H' p = some (.lst (ts.map V.ref)) → RowsAt H' ts ((Sq28.all u top).map fun q => [q.1.thing, q.2, q.1.label]) → Q (.ref p) H'
section
variable {P : Program} {w : World} {K : PySem.W.Frag} {mg : Str → Option Value} {base : Heap} {c : Cs}
theorem scSame : FnScope ["self", "other"] ["self", "other"] (defScope sSame) := ⟨rfl, rfl, rfl, by decide +kernel, rfl, by decide +kernel, by decide +kernel⟩
theorem ok_same {f : Addr} {fd : FuncData} (F : Fun K "same_as" "Tree.same_as" sSame f fd) (T : Txt K mg c) : FnOk P w K mg base CX0 1 f fd ["self", "other"] (spSame c) := by
  refine F.ok scSame (fun vs H Q E h => ?_) (fun cdv A outer s H vs Q E hr h => ?_)
  · obtain ⟨t, ap, ab, u, bp, bb, L, M, rfl, _⟩ := h
    rfl
  · obtain ⟨t, ap, ab, u, bp, bb, L, M, rfl, tr, ur, kL, kM, k⟩ := h
    obtain ⟨dt, ht⟩ := tr.ob
    obtain ⟨du, hu⟩ := ur.ob
    refine ⟨_, pss_one (ps_ret (pe_and (pe_cmpR (op_eq_dictI (Nat.lt_of_succ_lt (hu_of hr))) (pe_fld (pv 0) rfl) (pe_fld (pv 1) rfl) (nomark _)) (pe_one (pe_cmpR (op_eq_dictI (Nat.lt_of_succ_lt (hu_of hr))) (pe_fld (pv 0) rfl) (pe_fld (pv 1) rfl) (nomark _))))), ?_⟩
    have D := dicts_same kL kM
    refine ⟨_, rfl, fld ht T.T (i := 0) (by decide +kernel) rfl ⟨_, rfl, fld hu T.T (i := 0) (by decide +kernel) rfl ⟨ap, bp, _, _, rfl, rfl, tr.hp, ur.hp, pK_ints L, pK_ints M, _, rfl, ?_⟩⟩⟩
    by_cases c1 : ((pK L).length == (pK M).length && (pK L).all fun p => decide (valV (pK M) p.1 = some p.2)) = true
    · refine ift c1 ?_
      refine ⟨_, rfl, fld ht T.T (i := 1) (by decide +kernel) rfl ⟨_, rfl, fld hu T.T (i := 1) (by decide +kernel) rfl ⟨ab, bb, _, _, rfl, rfl, tr.hb, ur.hb, lK_ints L, lK_ints M, ?_⟩⟩⟩
      exact k _ ⟨fun e => D.mp ⟨c1, e⟩, fun e => (D.mpr e).2⟩
    · refine iff_ (by simpa only [Bool.not_eq_true] using c1) ?_
      exact k _ ⟨(fun e => Bool.noConfusion e), fun e => (c1 (D.mpr e).1).elim⟩
end
end My
namespace My
open PySem hiding Place
open PySem.Spec PyProof.Rows L2
open Sq28 (Place Tree)
open Sq33 (Deed Desk House Letter Counts at_ most)
/-- what the walk's three objects and rows keep -/
structure WalkAt (H0 : Hp) (t : List Place) (top : Nat) (pr pd pw : Addr) (out : List (Nat × Nat)) (S : List Nat) (ts : List Addr) (kvs : List (Key × V)) (H : Hp) : Prop where
  s : Same H0 H
  r0 : H0 pr = none
  d0 : H0 pd = none
  w0 : H0 pw = none
  ne : pr ≠ pw
  r : H pr = some (.lst (ts.map V.ref))
  d : H pd = some (.dK kvs)
  w : H pw = some (.lst (S.reverse.map nV))
  rs : RowsAt H ts ((rows t top out).map row3)
  dep : Deps t top kvs S
  kl : kvs.length ≤ out.length + S.length
/-- for child in sorted(self.parents, reverse=True): .. -/
def tInner (K : PySem.W.Frag) : TS := tFor (iList K (tCKw rSortDR (tCons (tFld K (tVar 0) "parents") tNil) (tCons (tC (.bl true)) tNil))) (gName 6)
  (tIfS (tTest (tOp rEq (tDGet (tFld K (tVar 0) "parents") (tVar 6)) (tVar 5)))
    (tSeq (sDPut (tVar 3) (tVar 6) (tOp (rI0 fun i j => .int (i + j)) (tDGet (tVar 3) (tVar 5)) (tC (.int 1)))) (tDrop (tBM K "list" rAppend (tVar 4) (tCons (tVar 6) tNil)))) tNext)
def kids (u : List Place) (x i : Nat) : List Nat := ((((u.map (·.thing)).reverse).take i).filter (isUnder u x)).reverse
theorem kids_all {u : List Place} (k : Keys u) (x : Nat) : kids u x (u.map (·.thing)).reverse.length = (Sq28.under u x).map (·.thing) := by
  unfold kids
  rw [List.take_length, filter_under k, List.reverse_reverse]
theorem kids_len {u : List Place} (k : Keys u) (x i : Nat) : (kids u x i).length ≤ (Sq28.under u x).length := by
  have h : ((((u.map (·.thing)).reverse).take i).filter (isUnder u x)).length ≤ (((u.map (·.thing)).reverse).filter (isUnder u x)).length := ((List.take_sublist _ _).filter _).length_le
  rw [filter_under k, List.length_reverse, List.length_map] at h
  unfold kids
  rw [List.length_reverse]
  exact h
theorem kids_step {u : List Place} {x i y : Nat} (h : ((u.map (·.thing)).reverse)[i]? = some y) : kids u x (i + 1) = if isUnder u x y = true then y :: kids u x i else kids u x i := by
  unfold kids
  rw [List.take_add_one, h, List.filter_append, List.reverse_append]
  by_cases c : isUnder u x y = true
  · rw [if_pos c]
    show (List.filter (isUnder u x) [y]).reverse ++ _ = _
    rw [List.filter_cons_of_pos c]
    rfl
  · rw [if_neg c]
    show (List.filter (isUnder u x) [y]).reverse ++ _ = _
    rw [List.filter_cons_of_neg c]
    rfl
theorem inner_ok {K : PySem.W.Frag} {mg : Str → Option Value} {c : Cs} (T : Txt K mg c) {D : Ends} {H0 H3 : Hp} {t ap ab pr pd pw : Addr} {L u : List Place} {top x : Nat} {out : List (Nat × Nat)} {S : List Nat} {ts : List Addr} {kvs : List (Key × V)} {v6 : Option V} (tr : TreeAt c H0 t ap ab L) (R : Tr L u) (htop : top < 2)
    (wa : WalkAt H0 u top pr pd pw out S ts kvs H3) (hx : valV kvs (Sum.inl (x : Int)) = some (nV (dep u top x))) (hz : out.length + ((Sq28.under u x).length + S.length) ≤ 1000001)
    (hD : ∀ (kvs' : List (Key × V)) (v : Option V) (H4 : Hp), WalkAt H0 u top pr pd pw out ((Sq28.under u x).map (·.thing) ++ S) ts kvs' H4 → D.nx [some (.ref t), some (nV top), some (.ref pr), some (.ref pd), some (.ref pw), some (nV x), v] H4) :
    tInner K D [some (.ref t), some (nV top), some (.ref pr), some (.ref pd), some (.ref pw), some (nV x), v6] H3 := by
  obtain ⟨dt, ht⟩ := tr.ob
  refine ⟨_, rfl, fld (wa.s _ _ ht) T.T (i := 0) (by decide +kernel) rfl ⟨ap, _, L.map (fun q => (q.thing : Int)), rfl, rfl, .inl (wa.s _ _ tr.hp), by unfold pK; rw [List.map_map, List.map_map]; rfl, fun ys py hp hs hpy => ?_⟩⟩
  have eys := sorted_descI R hp hs
  subst eys
  have eV : List.map V.int (List.map (fun (n : Nat) => (n : Int)) (List.map (·.thing) u).reverse) = (u.map (·.thing)).reverse.map nV := by
    rw [List.map_map]
    rfl
  rw [eV]
  have npw : py ≠ pw := fun z => by rw [z, wa.w] at hpy; cases hpy
  have sy : ∀ b o, H3 b = some o → (upd H3 py (.lst ((u.map (·.thing)).reverse.map nV))) b = some o := fun b o e => by
    rw [upd_ne (ne_of_none e hpy)]
    exact e
  have ky := R.ok.keys
  refine ⟨py, rfl, ⟨_, SqL.of upd_same⟩, for_list (K := K) (a := py) (xs := (u.map (·.thing)).reverse.map nV) (fun i σ H4 => ∃ (kvs : List (Key × V)) (v6 : Option V), σ = [some (.ref t), some (nV top), some (.ref pr), some (.ref pd), some (.ref pw), some (nV x), v6] ∧
    WalkAt H0 u top pr pd pw out (kids u x i ++ S) ts kvs H4 ∧ valV kvs (Sum.inl (x : Int)) = some (nV (dep u top x)) ∧ H4 py = some (.lst ((u.map (·.thing)).reverse.map nV)))
    ⟨kvs, v6, rfl, ?_, hx, upd_same⟩ (fun i σ H4 _ ⟨_, _, _, _, _, e⟩ => SqL.of e) ?_ ?_⟩
  · refine ⟨fun b o e => sy _ _ (wa.s _ _ e), wa.r0, wa.d0, wa.w0, wa.ne, sy _ _ wa.r, sy _ _ wa.d, sy _ _ wa.w, wa.rs.keep fun b xs e => sy _ _ e, wa.dep, wa.kl⟩
  · rintro i v σ H4 hi ⟨kvs4, v6', rfl, wa4, hx4, hy4⟩
    obtain ⟨y, hy, rfl⟩ : ∃ y, (u.map (·.thing)).reverse[i]? = some y ∧ v = nV y := by
      rw [List.getElem?_map] at hi
      cases e : (u.map (·.thing)).reverse[i]? with
      | none => rw [e] at hi; cases hi
      | some z => rw [e] at hi; exact ⟨z, rfl, (Option.some.inj hi).symm⟩
    have hstep := kids_step (x := x) hy
    have hm : ∃ p, p ∈ u ∧ p.thing = y := by
      have := List.mem_of_getElem? hy
      rw [List.mem_reverse] at this
      obtain ⟨p, hp, e⟩ := List.mem_map.mp this
      exact ⟨p, hp, e⟩
    obtain ⟨p, hpu, rfl⟩ := hm
    have hg : Sq28.get L p.thing = some p := by rw [R.get]; exact get_of ky hpu
    have hdg : DGet H4 ap (nV p.thing) (some (nV p.under)) := by
      have := DGet.k (k := Sum.inl (p.thing : Int)) (wa4.s _ _ tr.hp)
      rw [valV_pK, hg] at this
      exact this
    refine ⟨_, rfl, fld (wa4.s _ _ ht) T.T (i := 0) (by decide +kernel) rfl ⟨_, rfl, ap, nV p.under, rfl, hdg, _, rfl, rfl, _, rfl, ?_⟩⟩
    rw [nVd]
    have eU : isUnder u x p.thing = decide (p.under = x) := by
      unfold isUnder
      rw [get_of ky hpu]
      show decide (some p.under = some x) = _
      by_cases cc : p.under = x
      · rw [cc, decide_eq_true rfl, decide_eq_true rfl]
      · rw [decide_eq_false cc, decide_eq_false fun z => cc (Option.some.inj z)]
    have hk := kids_len ky x i
    have hk1 := kids_len ky x (i + 1)
    have hkl := wa4.kl
    rw [List.length_append] at hkl
    by_cases cu : p.under = x
    · rw [eU, decide_eq_true cu, if_pos rfl] at hstep
      rw [hstep, List.length_cons] at hk1
      refine ift (decide_eq_true cu) ?_
      refine ⟨_, rfl, _, rfl, pd, nV (dep u top x), rfl, ?_, _, _, rfl, rfl, _, rfl, _, rfl, pd, _, rfl, DPut.k (k := Sum.inl (p.thing : Int)) wa4.d (Nat.lt_of_le_of_lt (m := 1000001) (by omega) (by decide)), ?_⟩
      · have := DGet.k (k := Sum.inl (x : Int)) wa4.d
        rw [hx4] at this
        exact this
      have ed : V.int (((dep u top x : Nat) : Int) + 1) = nV (dep u top p.thing) := by
        rw [dep_child R.ok htop hpu, cu]
        rfl
      have ndw : pd ≠ pw := dict_list wa4.d wa4.w
      have nrd : pr ≠ pd := (dict_list wa4.d wa4.r).symm
      have npd : py ≠ pd := (dict_list wa4.d hy4).symm
      refine ⟨_, rfl, .inl ⟨rfl, _, SqL.of (by rw [upd_ne ndw.symm]; exact wa4.w)⟩, _, rfl, pw, _, _, rfl, rfl, (by rw [upd_ne ndw.symm]; exact wa4.w), ?_, ?_⟩
      · rw [List.length_map, List.length_reverse, List.length_append]
        exact Nat.lt_of_le_of_lt (m := 1000001) (by omega) (by decide)
      · refine ⟨putK kvs4 (Sum.inl (p.thing : Int)) (nV (dep u top p.thing)), some (nV p.thing), rfl, ?_, ?_, ?_⟩
        · rw [hstep]
          refine ⟨Same.upd' (Same.upd' wa4.s wa4.d0) wa4.w0, wa4.r0, wa4.d0, wa4.w0, wa4.ne, ?_, ?_, ?_, ?_, deps_put wa4.dep, ?_⟩
          · rw [upd_ne wa4.ne, upd_ne nrd]
            exact wa4.r
          · rw [upd_ne ndw, ← ed]
            exact upd_same
          · rw [upd_same, List.cons_append, List.reverse_cons, List.map_append]
            rfl
          · exact wa4.rs.keep fun b xs e => by
              rw [upd_ne (ne_of e wa4.w (by intro z; cases z)), upd_ne (ne_of e wa4.d (by intro z; cases z))]
              exact e
          · have := putK_len kvs4 (Sum.inl (p.thing : Int)) (nV (dep u top p.thing))
            rw [List.cons_append, List.length_cons, List.length_append]
            omega
        · rw [valV_put]
          by_cases c : (Sum.inl (x : Int) : Key) = Sum.inl (p.thing : Int)
          · rw [if_pos c, key_inj.mp c]
          · rw [if_neg c]
            exact hx4
        · rw [upd_ne npw, upd_ne npd]
          exact hy4
    · rw [eU, decide_eq_false cu, if_neg Bool.false_ne_true] at hstep
      refine iff_ (decide_eq_false cu) ?_
      refine ⟨kvs4, some (nV p.thing), rfl, ?_, hx4, hy4⟩
      rw [hstep]
      exact wa4
  · rintro σ H4 ⟨kvs4, v6', rfl, wa4, hx4, hy4⟩
    rw [List.length_map, kids_all ky] at wa4
    exact hD kvs4 v6' H4 wa4
section
variable {P : Program} {w : World} {K : PySem.W.Frag} {mg : Str → Option Value} {base : Heap} {c : Cs}
theorem scRows : FnScope ["self", "top", "rows", "depths", "waiting", "node", "child"] ["self", "top"] (defScope sRows) := ⟨rfl, rfl, rfl, by decide +kernel, rfl, by decide +kernel, by decide +kernel⟩
theorem ok_rows {f : Addr} {fd : FuncData} (FF : Fun K "rows_below" "Tree.rows_below" sRows f fd) (T : Txt K mg c) : FnOk P w K mg base CX0 1 f fd ["self", "top"] (spRows c) := by
  refine FF.ok scRows (fun vs H Q E h => ?_) (fun cdv A outer s H vs Q E hr h => ?_)
  · obtain ⟨t, ap, ab, L, u, top, rfl, _⟩ := h
    rfl
  · obtain ⟨t, ap, ab, L, u, top, rfl, tr, R, htop, hsz, k⟩ := h
    obtain ⟨dt, ht⟩ := tr.ob
    have hu := hu_of hr
    refine ⟨_, pss_cons (ps_set (i := 2) scRows.nd rfl (Or.inl rfl) (pe_lst pa_nil))
      (pss_cons (ps_set (i := 3) scRows.nd rfl (Or.inl rfl) (pe_disp (pps_cons (pv 1) pe_int pps_nil) (by rfl) (by rfl) (fun z => by cases z) (by decide)))
      (pss_cons (ps_set (i := 4) scRows.nd rfl (Or.inl rfl) (pe_lst (pa_cons (pv 1) pa_nil)))
      (pss_cons (ps_while PassesOwn.never (pt_truth (pv 4) (by intro _; rfl))
        (pss_cons (ps_set (i := 5) scRows.nd rfl (Or.inl rfl) (pe_bm0 PySem.F.plainAttrs_list PySem.F.slot_list_pop PySem.F.type_list_pop mt_pop (pv 4)))
        (pss_cons (ps_if (pt_cmpR op_ne (pv 5) (pv 1) (nomark _))
          (pss_one (ps_expr (pe_bm PySem.F.plainAttrs_list PySem.F.slot_list_append PySem.F.type_list_append mt_append (pv 2) (pa_cons (pe_tup (pa_cons (pv 5) (pa_cons (pe_dget hu (pv 3) (pv 5) (fun _ _ => rfl)) (pa_cons (pe_dget hu (pe_fld (pv 0) rfl) (pv 5) (fun _ _ => rfl)) pa_nil)))) pa_nil)))) pss_nil)
        (pss_one (ps_for PassesOwn.never rfl (pi_list (pe_callBK (call_sortedDR rfl) (by rfl) T.sorted (by decide +kernel) (pa_cons (pe_fld (pv 0) rfl) pa_nil) (pk_cons pe_bl pk_nil))) (pg_name (i := 6) scRows.nd rfl (Or.inl rfl))
          (pss_one (ps_if (pt_cmpR op_eq (pe_dget hu (pe_fld (pv 0) rfl) (pv 6) (fun _ _ => rfl)) (pv 5) (nomark _))
            (pss_cons (ps_dput hu (pv 3) (pv 6) (pe_op op_add (pe_dget hu (pv 3) (pv 5) (fun _ _ => rfl)) pe_int) rfl)
            (pss_one (ps_expr (pe_bm PySem.F.plainAttrs_list PySem.F.slot_list_append PySem.F.type_list_append mt_append (pv 4) (pa_cons (pv 6) pa_nil))))) pss_nil)))))))
      (pss_one (ps_ret (pv 2)))))), ?_⟩
    -- rows = []; depths = {top: 0}; waiting = [top]
    refine ⟨Nat.zero_le _, fun pr hpr => ?_⟩
    intro pd hpd
    refine ⟨_, rfl, upd_same, [(Sum.inl (top : Int), .int 0)], rfl, (by show 1 ≤ 15; decide), ?_⟩
    refine ⟨_, rfl, (by show 1 ≤ sizeLine; decide), fun pw hpw => ?_⟩
    have nrd : pr ≠ pd := fun z => by rw [← z, upd_same] at hpd; cases hpd
    have nwd : pw ≠ pd := fun z => by rw [z, upd_same] at hpw; cases hpw
    have nwr : pw ≠ pr := fun z => by rw [z, upd_ne nrd, upd_ne nrd, upd_same] at hpw; cases hpw
    have hpd0 : H pd = none := by rw [upd_ne nrd.symm] at hpd; exact hpd
    have hpw0 : H pw = none := by rw [upd_ne nwd, upd_ne nwd, upd_ne nwr] at hpw; exact hpw
    have e0 : Sq28.get u top = none := by
      cases e : Sq28.get u top with
      | none => rfl
      | some p =>
        obtain ⟨m, rfl⟩ := get_some e
        have := (R.ok.lo p m).1
        omega
    have tot : (F u top [top]).length ≤ 1000001 := by
      rw [F_top R.ok htop, List.length_cons, List.length_map]
      omega
    have st : WalkAt H u top pr pd pw [] [top] [] [(Sum.inl (top : Int), .int 0)] (upd (upd (upd (upd H pr (.lst [])) pd (.dK [])) pd (.dK (mergeK [] [(Sum.inl (top : Int), .int 0)]))) pw (.lst [nV top])) := by
      refine ⟨fun b o e => ?_, hpr, hpd0, hpw0, nwr.symm, ?_, ?_, upd_same, RowsAt.nil _, fun y hy => ?_, by show 1 ≤ 0 + 1; omega⟩
      · rw [upd_ne (ne_of_none e hpw0), upd_ne (ne_of_none e hpd0), upd_ne (ne_of_none e hpd0), upd_ne (ne_of_none e hpr)]
        exact e
      · rw [upd_ne nwr.symm, upd_ne nrd, upd_ne nrd, upd_same]
        rfl
      · rw [upd_ne nwd.symm, upd_same]
        rfl
      · rw [List.mem_singleton.mp hy, dep_top e0]
        exact valV_pos rfl
    refine ⟨fun m σ H1 => ∃ (out : List (Nat × Nat)) (S : List Nat) (ts : List Addr) (kvs : List (Key × V)) (v5 v6 : Option V), σ = [some (.ref t), some (nV top), some (.ref pr), some (.ref pd), some (.ref pw), v5, v6] ∧
      WalkAt H u top pr pd pw out S ts kvs H1 ∧ out ++ F u top S = F u top [top] ∧ (∀ y ∈ S, y = top ∨ (Sq28.get u y).isSome = true) ∧ m = (F u top S).length,
      ⟨_, [], [top], [], _, none, none, rfl, st, rfl, fun y hy => .inl (List.mem_singleton.mp hy), rfl⟩, ?_⟩
    rintro m σ H1 ⟨out, S, ts, kvs, v5, v6, rfl, wa, hF, hS, rfl⟩
    refine ⟨_, rfl, _, .inl ⟨_, SqL.of wa.w, rfl⟩, ?_⟩
    cases S with
    | nil =>
      refine iff_ rfl ?_
      refine ⟨_, rfl, ?_⟩
      refine k pr ts H1 wa.s hpr wa.r ?_
      have e : F u top ([] : List Nat) = [] := rfl
      rw [e, List.append_nil] at hF
      have := wa.rs
      rw [hF, rows_all R.ok htop, List.map_map] at this
      exact this
    | cons x S =>
      have hlen : out.length + (F u top (x :: S)).length ≤ 1000001 := by
        rw [← hF, List.length_append] at tot
        exact tot
      have hFc := F_cons R.ok htop x S
      have hSl := F_len (t := u) (top := top) ((Sq28.under u x).map (·.thing) ++ S)
      rw [List.length_append, List.length_map] at hSl
      have hFl : (F u top (x :: S)).length = (F u top ((Sq28.under u x).map (·.thing) ++ S)).length + 1 := by rw [hFc, List.length_cons]
      refine ift (by simp) ?_
      refine ⟨fun σ' H2 => ∃ (out : List (Nat × Nat)) (S' : List Nat) (ts : List Addr) (kvs : List (Key × V)) (v5 v6 : Option V), σ' = [some (.ref t), some (nV top), some (.ref pr), some (.ref pd), some (.ref pw), v5, v6] ∧
        WalkAt H u top pr pd pw out S' ts kvs H2 ∧ out ++ F u top S' = F u top [top] ∧ (∀ y ∈ S', y = top ∨ (Sq28.get u y).isSome = true) ∧ (F u top S').length < (F u top (x :: S)).length,
        fun σ' H2 ⟨out, S', ts, kvs, v5, v6, e1, e2, e3, e4, e5⟩ => ⟨_, e5, out, S', ts, kvs, v5, v6, e1, e2, e3, e4, rfl⟩, ?_⟩
      -- node = waiting.pop()
      have hw := wa.w
      have eS : ((x :: S).reverse.map nV) = S.reverse.map nV ++ [nV x] := by rw [List.reverse_cons, List.map_append]; rfl
      rw [eS] at hw
      refine ⟨_, rfl, .inl ⟨rfl, _, SqL.of hw⟩, pw, _, nV x, rfl, rfl, hw, (by simp), ?_⟩
      rw [List.dropLast_concat]
      have depx := wa.dep x (.head _)
      have ndw : pd ≠ pw := dict_list wa.d wa.w
      have nrw := wa.ne
      have hd2 : (upd H1 pw (.lst (S.reverse.map nV))) pd = some (.dK kvs) := by rw [upd_ne ndw]; exact wa.d
      have hr2 : (upd H1 pw (.lst (S.reverse.map nV))) pr = some (.lst (ts.map V.ref)) := by rw [upd_ne nrw]; exact wa.r
      have s2 : Same H (upd H1 pw (.lst (S.reverse.map nV))) := Same.upd' wa.s wa.w0
      have rs2 : RowsAt (upd H1 pw (.lst (S.reverse.map nV))) ts ((rows u top out).map row3) := wa.rs.keep fun b xs e => by
        rw [upd_ne (ne_of e wa.w (by intro z; cases z))]
        exact e
      have hl2 := wa.kl
      rw [List.length_cons] at hl2
      -- if node != top: rows.append(..)
      refine ⟨_, rfl, _, rfl, rfl, _, rfl, ?_⟩
      have hSl2 : out.length + 1 + ((Sq28.under u x).length + S.length) ≤ 1000001 := by omega
      have cont : ∀ (D : Ends) (ts' : List Addr) (H3 : Hp), WalkAt H u top pr pd pw (out ++ [(x, dep u top x)]) S ts' kvs H3 →
          D.nx = (fun σ' H2 => ∃ (out : List (Nat × Nat)) (S' : List Nat) (ts : List Addr) (kvs : List (Key × V)) (v5 v6 : Option V), σ' = [some (.ref t), some (nV top), some (.ref pr), some (.ref pd), some (.ref pw), v5, v6] ∧
            WalkAt H u top pr pd pw out S' ts kvs H2 ∧ out ++ F u top S' = F u top [top] ∧ (∀ y ∈ S', y = top ∨ (Sq28.get u y).isSome = true) ∧ (F u top S').length < (F u top (x :: S)).length) →
          tInner K D [some (.ref t), some (nV top), some (.ref pr), some (.ref pd), some (.ref pw), some (nV x), v6] H3 := by
        intro D ts' H3 wa3 eD
        refine inner_ok T tr R htop wa3 depx (by rw [List.length_append, List.length_singleton]; exact hSl2) fun kvs' v H4 wa4 => ?_
        rw [eD]
        refine ⟨_, _, ts', kvs', _, v, rfl, wa4, ?_, fun y hy => ?_, by rw [hFl]; exact Nat.lt_succ_self _⟩
        · rw [← hF, hFc, List.append_assoc]
          rfl
        · rcases List.mem_append.mp hy with hy | hy
          · obtain ⟨p, hp, rfl⟩ := List.mem_map.mp hy
            right
            rw [get_of R.ok.keys (under_mem.mp hp).1]
            rfl
          · exact hS y (.tail _ hy)
      have hl3 : kvs.length ≤ (out ++ [(x, dep u top x)]).length + S.length := by
        rw [List.length_append, List.length_singleton]
        omega
      have dep2 : Deps u top kvs S := fun y hy => wa.dep y (.tail _ hy)
      rw [nVd]
      by_cases ct : x = top
      · refine iff_ (by rw [decide_eq_true ct]; rfl) ?_
        refine cont _ ts _ ⟨s2, wa.r0, wa.d0, wa.w0, wa.ne, hr2, hd2, upd_same, ?_, dep2, hl3⟩ rfl
        rw [rows_snoc, if_neg (fun z => z ct), List.append_nil]
        exact rs2
      · refine ift (by rw [decide_eq_false ct]; rfl) ?_
        obtain ⟨p, hp⟩ : ∃ p, Sq28.get u x = some p := by
          rcases hS x (.head _) with z | z
          · exact (ct z).elim
          · exact Option.isSome_iff_exists.mp z
        have hgl : DGet (upd H1 pw (.lst (S.reverse.map nV))) ab (nV x) (some (nV p.label)) := by
          have := DGet.k (k := Sum.inl (x : Int)) (s2 _ _ tr.hb)
          rw [valV_lK, R.get, hp] at this
          exact this
        have hgd : DGet (upd H1 pw (.lst (S.reverse.map nV))) pd (nV x) (some (nV (dep u top x))) := by
          have := DGet.k (k := Sum.inl (x : Int)) hd2
          rw [depx] at this
          exact this
        refine ⟨_, rfl, .inl ⟨rfl, _, SqL.of hr2⟩, ?_⟩
        refine ⟨_, rfl, _, rfl, _, rfl, pd, nV (dep u top x), rfl, hgd, _, rfl, fld (s2 _ _ ht) T.T (i := 1) (by decide +kernel) rfl ⟨_, rfl, ab, nV p.label, rfl, hgl, (by show 3 ≤ sizeLine; decide), fun tt htt => ?_⟩⟩
        have nrt : pr ≠ tt := ne_of_none hr2 htt
        have hlr : ts.length < sizeLine := by
          have h1 := rs2.1
          have h2 : (rows u top out).length ≤ out.length := by
            unfold rows
            rw [List.length_map]
            exact List.length_filter_le _ _
          rw [List.length_map] at h1
          exact Nat.lt_of_le_of_lt (m := 1000001) (by omega) (by decide)
        refine ⟨pr, _, _, rfl, rfl, (by rw [upd_ne nrt]; exact hr2), (by rw [List.length_map]; exact hlr), ?_⟩
        have hd0 := s2.free htt
        have nwt : pw ≠ tt := ne_of_none upd_same htt
        have ndt : pd ≠ tt := ne_of_none hd2 htt
        refine cont _ (ts ++ [tt]) _ ⟨Same.upd' (Same.upd' s2 hd0) wa.r0, wa.r0, wa.d0, wa.w0, wa.ne, ?_, ?_, ?_, ?_, dep2, hl3⟩ rfl
        · rw [upd_same, List.map_append]
          rfl
        · rw [upd_ne (dict_list wa.d wa.r), upd_ne ndt]
          exact hd2
        · rw [upd_ne nrw.symm, upd_ne nwt]
          exact upd_same
        · rw [rows_snoc, if_pos ct, List.map_append]
          have el : lab u x = p.label := by unfold lab; rw [hp]; rfl
          refine RowsAt.snoc (rs2.keep fun b xs e => ?_) ?_
          · rw [upd_ne (ne_of e hr2 (by intro z; cases z)), upd_ne (ne_of_none e htt)]
            exact e
          · rw [upd_ne nrt.symm, upd_same]
            show some (HO.tup [nV x, nV (dep u top x), nV p.label]) = some (HO.tup [nV x, nV (dep u top x), nV (lab u x)])
            rw [el]
end
end My
namespace My
open PySem hiding Place
open PySem.Spec PyProof.Rows L2
open Sq28 (Place Tree)
open Sq33 (Deed Desk House Letter Counts at_ most)
def spMsgI (c : Cs) : Sp := fun vs H Q _ => ∃ (p dx gc gm : Addr) (f t cl : Nat), vs = [.ref p, nV f, nV t, .ref gc, nV cl, .ref gm] ∧ H p = some (.ins c.G dx []) ∧
  ∀ H' : Hp, H' p = some (.ins c.G dx (fz gK [nV f, nV t, .ref gc, nV cl, .ref gm])) → (∀ b o, H b = some o → b ≠ p → H' b = some o) → Q .non H'
def spLarger : Sp := fun vs H Q _ => ∃ (a b : Addr) (xs ys : List Nat), vs = [.ref a, .ref b] ∧ H a = some (.lst (xs.map nV)) ∧ H b = some (.lst (ys.map nV)) ∧ xs.length = ys.length ∧ xs.length ≤ 1000 ∧
  ∀ (p : Addr) (H' : Hp), Same H H' → H p = none → H' p = some (.lst ((most xs ys).map nV)) → Q (.ref p) H'
def spCount : Sp := fun vs H Q _ => ∃ (p : Addr) (ts : List Addr) (rs : List (List Nat)), vs = [.ref p] ∧ H p = some (.lst (ts.map V.ref)) ∧ RowsAt H ts rs ∧ (rs.length :: rs.flatten).length ≤ 2000000 ∧
  ∀ (q : Addr) (H' : Hp), Same H H' → H q = none → H' q = some (.lst ((rs.length :: rs.flatten).map nV)) → Q (.ref q) H'
def spRange : Sp := fun vs H Q _ => ∃ (x u v : Nat), vs = [nV x, nV u, nV v] ∧ Q (.bl (!decide (x < 2 ∨ Sq28.THINGS ≤ x ∨ Sq28.THINGS ≤ u ∨ Sq28.LABEL < v))) H
theorem most_len' (xs ys : List Nat) : (most xs ys).length = xs.length := by
  unfold most
  rw [List.length_map, List.length_range]
theorem take_snoc {α : Type} {l : List α} {i : Nat} {x : α} (h : l[i]? = some x) : l.take (i + 1) = l.take i ++ [x] := by
  rw [List.take_add_one, h]
  rfl
section
variable {P : Program} {w : World} {K : PySem.W.Frag} {mg : Str → Option Value} {base : Heap} {c : Cs}
theorem scMsgI : FnScope ["self", "sender", "receiver", "counts", "clock", "moves"] ["self", "sender", "receiver", "counts", "clock", "moves"] (defScope sMsgI) := ⟨rfl, rfl, rfl, by decide +kernel, rfl, by decide +kernel, by decide +kernel⟩
theorem ok_msgI {f : Addr} {fd : FuncData} (F : Fun K "__init__" "Message.__init__" sMsgI f fd) (T : Txt K mg c) : FnOk P w K mg base CX0 1 f fd ["self", "sender", "receiver", "counts", "clock", "moves"] (spMsgI c) := by
  refine F.ok scMsgI (fun vs H Q E h => ?_) (fun cdv A outer s H vs Q E hr h => ?_)
  · obtain ⟨p, dx, gc, gm, f, t, cl, rfl, _⟩ := h
    rfl
  · obtain ⟨p, dx, gc, gm, f, t, cl, rfl, hp, k⟩ := h
    refine ⟨_, pss_cons (ps_fld (pv 0) (pv 1) rfl) (pss_cons (ps_fld (pv 0) (pv 2) rfl) (pss_cons (ps_fld (pv 0) (pv 3) rfl) (pss_cons (ps_fld (pv 0) (pv 4) rfl) (pss_one (ps_fld (pv 0) (pv 5) rfl))))), ?_⟩
    refine ⟨_, rfl, _, rfl, sfnew (ks := []) (vs := []) hp T.G (by decide +kernel) (by decide) ?_⟩
    rw [fz_new (by decide +kernel) rfl]
    refine ⟨_, rfl, _, rfl, sfnew upd_same T.G (by decide +kernel) (by decide) ?_⟩
    rw [fz_new (by decide +kernel) rfl]
    refine ⟨_, rfl, _, rfl, sfnew upd_same T.G (by decide +kernel) (by decide) ?_⟩
    rw [fz_new (by decide +kernel) rfl]
    refine ⟨_, rfl, _, rfl, sfnew upd_same T.G (by decide +kernel) (by decide) ?_⟩
    rw [fz_new (by decide +kernel) rfl]
    refine ⟨_, rfl, _, rfl, sfnew upd_same T.G (by decide +kernel) (by decide) ?_⟩
    rw [fz_new (by decide +kernel) rfl]
    refine k _ upd_same fun b o e hb => ?_
    simp only [upd_ne hb]
    exact e
theorem scLarger : FnScope ["counts", "others", "count", "other"] ["counts", "others"] (defScope sLarger) := ⟨rfl, rfl, rfl, by decide +kernel, rfl, by decide +kernel, by decide +kernel⟩
theorem ok_larger {f : Addr} {fd : FuncData} (F : Fun K "larger_counts" "larger_counts" sLarger f fd) (T : Txt K mg c) : FnOk P w K mg base CX0 1 f fd ["counts", "others"] spLarger := by
  refine F.ok scLarger (fun vs H Q E h => ?_) (fun cdv A outer s H vs Q E hr h => ?_)
  · obtain ⟨a, b, xs, ys, rfl, _⟩ := h
    rfl
  · obtain ⟨a, b, xs, ys, rfl, ha, hb, hl, hz, k⟩ := h
    refine ⟨_, pss_one (ps_ret (pe_lc (own := [("count", 2), ("other", 3)]) (g := gTup K 2 (gCons (gName 2) (gCons (gName 3) gNil))) rfl scLarger.nd (pi_zip (by rfl) T.zip (pa_cons (pv 0) (pa_cons (pv 1) pa_nil)))
      (blkOk_by (N := ["counts", "others", "count", "other"]) (sc := defScope sLarger) (by decide +kernel))
      (fun _ _ _ _ _ => pg_tup rfl (pgs_cons (pg_name (i := 2) scLarger.nd rfl (Or.inl rfl) (hf := Or.inr rfl)) (pgs_cons (pg_name (i := 3) scLarger.nd rfl (Or.inl rfl) (hf := Or.inr rfl)) pgs_nil))) (fun _ _ _ _ _ => pts_nil)
      (fun _ _ _ _ _ => pe_callB (call_max2 rfl) (by rfl) T.max (by decide +kernel) (pa_cons (pv 2) (pa_cons (pv 3) pa_nil))))), ?_⟩
    refine ⟨_, rfl, _, rfl, a, b, _, _, rfl, SqL.of ha, SqL.of hb, fun D hD => ?_⟩
    refine lc_it (walk_zip (K := K) (a := a) (b := b) (xs := xs.map nV) (ys := ys.map nV) (n := xs.length) (by rw [List.length_map, List.length_map]; omega))
      (fun i H' => Same H H' ∧ H' D = some (.lst (((most xs ys).take i).map nV))) ⟨same_upd hD, upd_same⟩ (fun i H' _ ⟨s, _⟩ => ⟨SqL.of (s _ _ ha), SqL.of (s _ _ hb)⟩) ?_ ?_
    · rintro i v H1 H2 hi ⟨s1, h1⟩ ⟨tt, x, y, rfl, ht, rfl, hx, hy⟩
      dsimp only at hx hy
      rw [List.getElem?_map] at hx hy
      cases ex : xs[i]? with
      | none => rw [ex] at hx; cases hx
      | some m =>
        cases ey : ys[i]? with
        | none => rw [ey] at hy; cases hy
        | some n =>
          rw [ex] at hx
          rw [ey] at hy
          cases hx
          cases hy
          refine ⟨tt, _, rfl, SqT.of upd_same, rfl, _, _, rfl, _, _, rfl, rfl, ?_⟩
          refine ⟨rfl, ⟨_, rfl, _, rfl, _, _, rfl, ((most xs ys).take i).map nV, ?_, ?_, ?_⟩⟩
          · rw [upd_ne (ne_of_none h1 ht)]
            exact h1
          · rw [List.length_map]
            have := most_len' xs ys
            have := List.length_take_le i (most xs ys)
            exact Nat.lt_of_le_of_lt (m := 1000) (by omega) (by decide)
          · refine ⟨Same.upd' (Same.upd' s1 (s1.free ht)) hD, ?_⟩
            rw [upd_same, take_snoc (most_get hl ex ey), List.map_append]
            have e : V.int (if (n : Int) > (m : Int) then (n : Int) else (m : Int)) = nV (max m n) := by
              unfold nV
              congr 1
              by_cases q : m < n
              · rw [if_pos (by omega), Nat.max_eq_right (by omega)]
              · rw [if_neg (by omega), Nat.max_eq_left (by omega)]
            show some (HO.lst (List.map nV (List.take i (most xs ys)) ++ [V.int (if (n : Int) > (m : Int) then (n : Int) else (m : Int))])) = _
            rw [e]
            rfl
    · rintro H1 ⟨s1, h1⟩
      refine k D H1 s1 hD ?_
      rw [h1, List.take_of_length_le (by rw [most_len']; exact Nat.le_refl _)]
theorem scCount : FnScope ["rows", "told", "row"] ["rows"] (defScope sCount) := ⟨rfl, rfl, rfl, by decide +kernel, rfl, by decide +kernel, by decide +kernel⟩
theorem ok_count {f : Addr} {fd : FuncData} (F : Fun K "counted_rows" "counted_rows" sCount f fd) (T : Txt K mg c) : FnOk P w K mg base CX0 1 f fd ["rows"] spCount := by
  refine F.ok scCount (fun vs H Q E h => ?_) (fun cdv A outer s H vs Q E hr h => ?_)
  · obtain ⟨p, ts, rs, rfl, _⟩ := h
    rfl
  · obtain ⟨p, ts, rs, rfl, hp, R, hz, k⟩ := h
    refine ⟨_, pss_cons (ps_set (i := 1) scCount.nd rfl (Or.inl rfl) (pe_lst (pa_cons (pe_callB call_len_seq (by rfl) T.len PySem.boot_len (pa_cons (pv 0) pa_nil)) pa_nil)))
      (pss_cons (ps_for PassesOwn.never rfl (pi_list (pv 0)) (pg_name (i := 2) scCount.nd rfl (Or.inl rfl))
        (pss_one (ps_expr (pe_bm PySem.F.plainAttrs_list PySem.F.slot_list_extend PySem.F.type_list_extend mt_extendT (pv 1) (pa_cons (pv 2) pa_nil)))))
      (pss_one (ps_ret (pv 1)))), ?_⟩
    refine ⟨_, rfl, p, _, rfl, .inl (SqL.of hp), (by show 1 ≤ sizeLine; decide), fun q hq => ?_⟩
    have npq : p ≠ q := ne_of_none hp hq
    rw [List.length_map, R.1]
    refine ⟨_, rfl, p, rfl, ⟨_, SqL.of (by rw [upd_ne npq]; exact hp)⟩, for_list (K := K) (a := p) (xs := ts.map V.ref) (fun i σ H1 => ∃ v : Option V, σ = [some (.ref p), some (.ref q), v] ∧ Same H H1 ∧ H1 q = some (.lst ((rs.length :: (rs.take i).flatten).map nV)))
      ⟨none, rfl, same_upd hq, upd_same⟩ (fun i σ H1 _ ⟨_, _, s1, _⟩ => SqL.of (s1 _ _ hp)) ?_ ?_⟩
    · rintro i v σ H1 hi ⟨_, rfl, s1, h1⟩
      rw [List.getElem?_map] at hi
      cases et : ts[i]? with
      | none => rw [et] at hi; cases hi
      | some t =>
        rw [et] at hi
        cases hi
        obtain ⟨r, er⟩ : ∃ r, rs[i]? = some r := by
          have : i < rs.length := by rw [← R.1]; exact (List.getElem?_eq_some_iff.mp et).1
          exact ⟨_, List.getElem?_eq_getElem this⟩
        have ht := s1 _ _ (R.2 i t r et er)
        refine ⟨_, rfl, .inl ⟨rfl, _, SqL.of h1⟩, _, rfl, q, t, _, _, rfl, rfl, h1, ht, ?_, ⟨_, rfl, Same.upd' s1 hq, ?_⟩⟩
        · rw [List.length_map, List.length_map, ← List.length_append]
          have e : ((rs.length :: (rs.take i).flatten) ++ r).length ≤ (rs.length :: rs.flatten).length := by
            rw [List.length_append, List.length_cons, List.length_cons]
            have e2 : (rs.take (i + 1)).flatten.length ≤ rs.flatten.length := by
              conv => rhs; rw [← List.take_append_drop (i + 1) rs]
              rw [List.flatten_append, List.length_append]
              omega
            rw [take_snoc er, List.flatten_append, List.length_append] at e2
            have e3 : [r].flatten.length = r.length := by simp
            omega
          exact Nat.le_trans (Nat.le_trans e hz) (by decide)
        · rw [upd_same, take_snoc er, List.flatten_append, ← List.map_append]
          simp
    · rintro σ H1 ⟨_, rfl, s1, h1⟩
      refine ⟨_, rfl, k q H1 s1 hq ?_⟩
      rw [h1, List.length_map, R.1, List.take_length]
theorem scRange : FnScope ["node", "parent", "label"] ["node", "parent", "label"] (defScope sRange) := ⟨rfl, rfl, rfl, by decide +kernel, rfl, by decide +kernel, by decide +kernel⟩
theorem ok_range {f : Addr} {fd : FuncData} (F : Fun K "move_in_range" "move_in_range" sRange f fd) (T : Txt K mg c) : FnOk P w K mg base CX0 1 f fd ["node", "parent", "label"] spRange := by
  refine F.ok scRange (fun vs H Q E h => ?_) (fun cdv A outer s H vs Q E hr h => ?_)
  · obtain ⟨x, u, v, rfl, _⟩ := h
    rfl
  · obtain ⟨x, u, v, rfl, k⟩ := h
    obtain ⟨t0, e0⟩ := T.root
    obtain ⟨t1, e1⟩ := T.bin
    obtain ⟨t2, e2⟩ := T.lnode
    obtain ⟨t3, e3⟩ := T.llab
    refine ⟨_, pss_cons (ps_if (PW.pt (pw_or (pt_cmpR op_eq (pv 0) (pgi rfl e0) (nomark _)) (pw_or (pt_cmpR op_eq (pv 0) (pgi rfl e1) (nomark _)) (pw_or1 (pt_cmpR op_gt (pv 0) (pgi rfl e2) (nomark _)))))) (pss_one (ps_ret pe_bl)) pss_nil)
      (pss_one (ps_ret (pe_and (pe_cmpR op_le (pv 1) (pgi rfl e2) (nomark _)) (pe_one (pe_cmpR op_le (pv 2) (pgi rfl e3) (nomark _)))))), ?_⟩
    have kF : (x < 2 ∨ 64 ≤ x ∨ 64 ≤ u ∨ 10 ^ 9 < v) → Q (.bl false) H := fun z => by
      have e : (!decide (x < 2 ∨ Sq28.THINGS ≤ x ∨ Sq28.THINGS ≤ u ∨ Sq28.LABEL < v)) = false := by
        rw [decide_eq_true (show x < 2 ∨ Sq28.THINGS ≤ x ∨ Sq28.THINGS ≤ u ∨ Sq28.LABEL < v from z)]
        rfl
      rw [e] at k
      exact k
    have kT : ¬ (x < 2 ∨ 64 ≤ x ∨ 64 ≤ u ∨ 10 ^ 9 < v) → Q (.bl true) H := fun z => by
      have e : (!decide (x < 2 ∨ Sq28.THINGS ≤ x ∨ Sq28.THINGS ≤ u ∨ Sq28.LABEL < v)) = true := by
        rw [decide_eq_false (show ¬ (x < 2 ∨ Sq28.THINGS ≤ x ∨ Sq28.THINGS ≤ u ∨ Sq28.LABEL < v) from z)]
        rfl
      rw [e] at k
      exact k
    have d0 : decide (nV x = V.int 0) = decide (x = 0) := nVd x 0
    have d1 : decide (nV x = V.int 1) = decide (x = 1) := nVd x 1
    refine ⟨_, rfl, rfl, _, rfl, ?_⟩
    rw [d0]
    by_cases c0 : x = 0
    · refine ift (decide_eq_true c0) ?_
      exact ift rfl (kF (by omega))
    · refine iff_ (decide_eq_false c0) ⟨_, rfl, rfl, _, rfl, ?_⟩
      rw [d1]
      by_cases c1 : x = 1
      · refine ift (decide_eq_true c1) ?_
        exact ift rfl (kF (by omega))
      · refine iff_ (decide_eq_false c1) ⟨_, rfl, _, _, rfl, rfl, _, rfl, ?_⟩
        by_cases c2 : 63 < x
        · refine ift (decide_eq_true (show (63 : Int) < (x : Int) by omega)) ?_
          exact kF (by omega)
        · refine iff_ (decide_eq_false (show ¬ (63 : Int) < (x : Int) by omega)) ⟨_, rfl, _, _, rfl, rfl, _, rfl, ?_⟩
          by_cases c3 : u ≤ 63
          · refine ift (decide_eq_true (show (u : Int) ≤ (63 : Int) by omega)) ⟨_, rfl, _, _, rfl, rfl, ?_⟩
            by_cases c4 : v ≤ 1000000000
            · have := kT (by omega)
              rw [← decide_eq_true (show (v : Int) ≤ (1000000000 : Int) by omega)] at this
              exact this
            · have := kF (by omega)
              rw [← decide_eq_false (show ¬ (v : Int) ≤ (1000000000 : Int) by omega)] at this
              exact this
          · exact iff_ (decide_eq_false (show ¬ (u : Int) ≤ (63 : Int) by omega)) (kF (by omega))
end
end My
namespace My
open PySem hiding Place
open PySem.Spec PyProof.Rows L2
open Sq28 (Place Tree)
open Sq33 (Deed Desk House Letter Counts at_ most)
/-! ## whose an address is -/
inductive Role where
  | oth
  | fix
  | sess
  | reps
  | msgs
  | rep (k : Nat)
  | conf (k : Nat)
  | row (k i : Nat)
  | clks (k : Nat)
  | log (k : Nat)
  | snap (k : Nat)
  | par (k : Nat)
  | labs (k : Nat)
  deriving DecidableEq
def Role.own : Role → Option Nat
  | .rep k => some k
  | .conf k => some k
  | .row k _ => some k
  | .clks k => some k
  | .log k => some k
  | .snap k => some k
  | .par k => some k
  | .labs k => some k
  | _ => none
abbrev Roles := Addr → Role
theorem rne {W : Roles} {a b : Addr} {r s : Role} (h1 : W a = r) (h2 : W b = s) (h : r ≠ s) : a ≠ b := fun e => h (by rw [← h1, e, h2])
def setW (W : Roles) (a : Addr) (r : Role) : Roles := fun b => if b = a then r else W b
theorem sw_same {W : Roles} {a : Addr} {r : Role} : setW W a r a = r := if_pos rfl
theorem sw_ne {W : Roles} {a b : Addr} {r : Role} (h : b ≠ a) : setW W a r b = W b := if_neg h
theorem sw_old {W : Roles} {H : Hp} {a b : Addr} {r : Role} {o : HO} (h : H b = some o) (n : H a = none) : setW W a r b = W b := sw_ne (ne_of_none h n)
/-- the addresses of a replica's parts -/
structure RA where
  a : Addr
  dx : Addr
  ac : Addr
  acl : Addr
  al : Addr
  at_ : Addr
  ap : Addr
  ab : Addr
  rows : List Addr
  T : List Place
/-- a replica in the heap: its rows of counts, its clocks, its log, its snapshot -/
structure RepC (c : Cs) (W : Roles) (A : Deed → Addr) (H : Hp) (k : Nat) (cf : List Counts) (cl : List Nat) (kept : List Deed) (bs : List Place) (gone : Nat) (R : RA) : Prop where
  hr : H R.a = some (.ins c.R R.dx (fz rK [nV k, .ref R.ac, .ref R.acl, .ref R.al, .ref R.at_, nV gone]))
  wr : W R.a = .rep k
  hc : H R.ac = some (.lst (R.rows.map V.ref))
  wc : W R.ac = .conf k
  rl : R.rows.length = cf.length
  row : ∀ (i : Nat) (r : Addr) (z : Counts), R.rows[i]? = some r → cf[i]? = some z → H r = some (.lst (z.map nV)) ∧ W r = .row k i
  hcl : H R.acl = some (.lst (cl.map nV))
  wcl : W R.acl = .clks k
  hl : H R.al = some (.lst (kept.map fun d => .ref (A d)))
  wl : W R.al = .log k
  ht : TreeAt c H R.at_ R.ap R.ab R.T
  wt : W R.at_ = .snap k
  wp : W R.ap = .par k
  wb : W R.ab = .labs k
  tr : Tr R.T bs
  mv : ∀ d ∈ kept, MovAt c H (A d) d ∧ W (A d) = .fix
abbrev RepD (c : Cs) (W : Roles) (A : Deed → Addr) (H : Hp) (k : Nat) (x : Desk) (R : RA) : Prop := RepC c W A H k (conf x k) (clks x k) x.kept x.base x.gone R
section
variable {c : Cs} {W W' : Roles} {A A' : Deed → Addr} {H H' : Hp} {k : Nat} {cf : List Counts} {cl : List Nat} {kept : List Deed} {bs : List Place} {gone : Nat} {R : RA}
theorem RepC.move (h : RepC c W A H k cf cl kept bs gone R) (hw : ∀ b o, H b = some o → W' b = W b) (hf : ∀ b o, H b = some o → ((W b).own = some k ∨ W b = .fix) → H' b = some o) (hA : ∀ d ∈ kept, A' d = A d) :
    RepC c W' A' H' k cf cl kept bs gone R := by
  have s : ∀ {b o r}, H b = some o → W b = r → r.own = some k → H' b = some o := fun e w q => hf _ _ e (.inl (by rw [w]; exact q))
  obtain ⟨dt, ht⟩ := h.ht.ob
  refine ⟨s h.hr h.wr rfl, (hw _ _ h.hr).trans h.wr, s h.hc h.wc rfl, (hw _ _ h.hc).trans h.wc, h.rl, fun i r z a b => ?_, s h.hcl h.wcl rfl, (hw _ _ h.hcl).trans h.wcl, ?_, (hw _ _ h.hl).trans h.wl,
    ⟨h.ht.ne, ⟨dt, s ht h.wt rfl⟩, s h.ht.hp h.wp rfl, s h.ht.hb h.wb rfl⟩, (hw _ _ ht).trans h.wt, (hw _ _ h.ht.hp).trans h.wp, (hw _ _ h.ht.hb).trans h.wb, h.tr, fun d hd => ?_⟩
  · obtain ⟨e, w⟩ := h.row i r z a b
    exact ⟨s e w rfl, (hw _ _ e).trans w⟩
  · have e : (kept.map fun d => V.ref (A' d)) = kept.map fun d => V.ref (A d) := List.map_congr_left fun d hd => by rw [hA d hd]
    rw [e]
    exact s h.hl h.wl rfl
  · obtain ⟨⟨dx, e⟩, w⟩ := h.mv d hd
    rw [hA d hd]
    exact ⟨⟨dx, hf _ _ e (.inr w)⟩, (hw _ _ e).trans w⟩
theorem RepC.same (h : RepC c W A H k cf cl kept bs gone R) (hw : ∀ b o, H b = some o → W' b = W b) (s : Same H H') : RepC c W' A H' k cf cl kept bs gone R := h.move hw (fun b o e _ => s b o e) fun _ _ => rfl
/-- a row replaced -/
theorem RepC.conf_put (h : RepC c W A H k cf cl kept bs gone R) {p : Addr} {z : Counts} {i : Nat} (hp : H p = some (.lst (z.map nV))) (wp : W p = .row k i) :
    RepC c W A (upd H R.ac (.lst ((R.rows.map V.ref).set i (.ref p)))) k (cf.set i z) cl kept bs gone { R with rows := R.rows.set i p } := by
  obtain ⟨dt, ht⟩ := h.ht.ob
  have s : ∀ {b o r}, H b = some o → W b = r → r ≠ .conf k → (upd H R.ac (.lst ((R.rows.map V.ref).set i (.ref p)))) b = some o := fun e w q => by
    rw [upd_ne (rne w h.wc q)]
    exact e
  refine ⟨s h.hr h.wr nofun, h.wr, ?_, h.wc, by simp [h.rl], fun j r u a b => ?_, s h.hcl h.wcl nofun, h.wcl, s h.hl h.wl nofun, h.wl, ⟨h.ht.ne, ⟨dt, s ht h.wt nofun⟩, s h.ht.hp h.wp nofun, s h.ht.hb h.wb nofun⟩, h.wt, h.wp, h.wb, h.tr, fun d hd => ?_⟩
  · show upd H R.ac _ R.ac = some (.lst ((R.rows.set i p).map V.ref))
    rw [upd_same, List.map_set]
  · rw [List.getElem?_set] at a b
    by_cases e : i = j
    · rw [if_pos e] at a b
      have h1 : i < R.rows.length := Classical.byContradiction fun n => by rw [if_neg n] at a; cases a
      rw [if_pos h1] at a
      rw [if_pos (by rw [← h.rl]; exact h1)] at b
      cases a
      cases b
      rw [← e]
      exact ⟨s hp wp nofun, wp⟩
    · rw [if_neg e] at a b
      obtain ⟨e1, w⟩ := h.row j r u a b
      exact ⟨s e1 w nofun, w⟩
  · obtain ⟨⟨dx, e⟩, w⟩ := h.mv d hd
    exact ⟨⟨dx, s e w nofun⟩, w⟩
theorem RepC.clk_put (h : RepC c W A H k cf cl kept bs gone R) (i v : Nat) :
    RepC c W A (upd H R.acl (.lst ((cl.map nV).set i (nV v)))) k cf (cl.set i v) kept bs gone R := by
  obtain ⟨dt, ht⟩ := h.ht.ob
  have s : ∀ {b o r}, H b = some o → W b = r → r ≠ .clks k → (upd H R.acl (.lst ((cl.map nV).set i (nV v)))) b = some o := fun e w q => by
    rw [upd_ne (rne w h.wcl q)]
    exact e
  refine ⟨s h.hr h.wr nofun, h.wr, s h.hc h.wc nofun, h.wc, h.rl, fun j r u a b => ?_, ?_, h.wcl, s h.hl h.wl nofun, h.wl, ⟨h.ht.ne, ⟨dt, s ht h.wt nofun⟩, s h.ht.hp h.wp nofun, s h.ht.hb h.wb nofun⟩, h.wt, h.wp, h.wb, h.tr, fun d hd => ?_⟩
  · obtain ⟨e1, w⟩ := h.row j r u a b
    exact ⟨s e1 w nofun, w⟩
  · rw [upd_same, List.map_set]
  · obtain ⟨⟨dx, e⟩, w⟩ := h.mv d hd
    exact ⟨⟨dx, s e w nofun⟩, w⟩
end
/-- what is known of a replica's numbers -/
structure RepM (n : Nat) (all : List Deed) (k : Nat) (x : Desk) : Prop where
  D : DeskOk n all x
  hk : k < n
  n6 : n ≤ 6
  thing : ∀ d ∈ x.kept, 2 ≤ d.move.thing ∧ d.move.thing < 64
  hand : ∀ d ∈ all, d.desk < n
  few : x.kept.length ≤ 80
theorem upd_some {H : Hp} {a b : Addr} {o z : HO} (h : H b = some o) : ∃ o', upd H a z b = some o' := by
  by_cases c : b = a
  · exact ⟨z, by rw [c, upd_same]⟩
  · exact ⟨o, by rw [upd_ne c]; exact h⟩
structure Step (W W' : Roles) (H H' : Hp) (k : Nat) : Prop where
  w : ∀ b o, H b = some o → W' b = W b
  f : ∀ b o, H b = some o → (W b).own ≠ some k → H' b = some o
  x : ∀ b o, H b = some o → ∃ o', H' b = some o'
def spRepI (c : Cs) : Sp := fun vs H Q _ => ∃ (W : Roles) (A : Deed → Addr) (p dx : Addr) (k n : Nat), vs = [.ref p, nV k, nV n] ∧ H p = some (.ins c.R dx []) ∧ k < n ∧ n ≤ 6 ∧
  ∀ (R : RA) (W' : Roles) (H' : Hp), R.a = p → RepD c W' A H' k (Sq33.none_ n) R → (∀ b o, H b = some o → b ≠ p → H' b = some o ∧ W' b = W b) → Q .non H'
def spOwn (c : Cs) : Sp := fun vs H Q _ => ∃ (W : Roles) (A : Deed → Addr) (k : Nat) (x : Desk) (R : RA) (n : Nat) (all : List Deed), vs = [.ref R.a] ∧ RepD c W A H k x R ∧ RepM n all k x ∧
  ∀ r, R.rows[k]? = some r → H r = some (.lst (x.has.map nV)) → Q (.ref r) H
def spHor (c : Cs) : Sp := fun vs H Q _ => ∃ (W : Roles) (A : Deed → Addr) (k : Nat) (x : Desk) (R : RA) (n : Nat) (all : List Deed), vs = [.ref R.a] ∧ RepD c W A H k x R ∧ RepM n all k x ∧
  ∀ m, m ∈ clks x k → (∀ y ∈ clks x k, m ≤ y) → Q (nV m) H
def spTree (c : Cs) : Sp := fun vs H Q _ => ∃ (W : Roles) (A : Deed → Addr) (k : Nat) (x : Desk) (R : RA) (n : Nat) (all : List Deed), vs = [.ref R.a] ∧ RepD c W A H k x R ∧ RepM n all k x ∧
  ∀ (q qp qb : Addr) (G : List Place) (H' : Hp), H q = none → H qp = none → H qb = none → Same H H' → TreeAt c H' q qp qb G → Tr G x.tree → Q (.ref q) H'
theorem own_row {c : Cs} {W : Roles} {A : Deed → Addr} {H : Hp} {k : Nat} {x : Desk} {R : RA} {n : Nat} {all : List Deed} (h : RepD c W A H k x R) (M : RepM n all k x) {j : Nat} (hj : j < n) : ∃ (r : Addr) (z : Counts), R.rows[j]? = some r ∧ (conf x k)[j]? = some z ∧ z.length = n ∧ H r = some (.lst (z.map nV)) ∧ W r = .row k j := by
  have h1 : j < R.rows.length := by rw [h.rl, conf_len M.D]; exact hj
  have h2 : j < (conf x k).length := by rw [conf_len M.D]; exact hj
  have e1 := List.getElem?_eq_getElem h1
  have e2 := List.getElem?_eq_getElem h2
  obtain ⟨a, b⟩ := h.row j _ _ e1 e2
  exact ⟨_, _, e1, e2, conf_rows M.D k _ (List.getElem_mem h2), a, b⟩
theorem rep_flat (n : Nat) : (List.replicate n [V.int 0]).flatten = (List.replicate n 0).map nV := by
  induction n with
  | zero => rfl
  | succ n ih =>
    rw [List.replicate_succ, List.flatten_cons, ih, List.replicate_succ]
    rfl
section
variable {P : Program} {w : World} {K : PySem.W.Frag} {mg : Str → Option Value} {base : Heap} {c : Cs}
theorem scOwn : FnScope ["self"] ["self"] (defScope sOwn) := ⟨rfl, rfl, rfl, by decide +kernel, rfl, by decide +kernel, by decide +kernel⟩
theorem ok_own {f : Addr} {fd : FuncData} (F : Fun K "own_counts" "Replica.own_counts" sOwn f fd) (T : Txt K mg c) : FnOk P w K mg base CX0 1 f fd ["self"] (spOwn c) := by
  refine F.ok scOwn (fun vs H Q E h => ?_) (fun cdv A outer s H vs Q E hr h => ?_)
  · obtain ⟨W, A, k, x, R, n, all, rfl, _⟩ := h
    rfl
  · obtain ⟨W, A, k, x, R, n, all, rfl, C, M, q⟩ := h
    refine ⟨_, pss_one (ps_ret (pe_ix ix_list (pe_fld (pv 0) rfl) (pe_fld (pv 0) rfl) (fun _ _ => rfl))), ?_⟩
    obtain ⟨r, z, e1, e2, _, e3, _⟩ := own_row C M M.hk
    rw [conf_own M.D M.hk] at e2
    cases e2
    refine ⟨_, rfl, fld C.hr T.R (i := 1) (by decide +kernel) rfl ⟨_, rfl, fld C.hr T.R (i := 0) (by decide +kernel) rfl ⟨R.ac, _, _, .ref r, rfl, rfl, SqL.of C.hc, atI_nat (by rw [List.getElem?_map, e1]; rfl), ?_⟩⟩⟩
    exact q r e1 e3
theorem scHor : FnScope ["self"] ["self"] (defScope sHor) := ⟨rfl, rfl, rfl, by decide +kernel, rfl, by decide +kernel, by decide +kernel⟩
theorem ok_hor {f : Addr} {fd : FuncData} (F : Fun K "horizon" "Replica.horizon" sHor f fd) (T : Txt K mg c) : FnOk P w K mg base CX0 1 f fd ["self"] (spHor c) := by
  refine F.ok scHor (fun vs H Q E h => ?_) (fun cdv A outer s H vs Q E hr h => ?_)
  · obtain ⟨W, A, k, x, R, n, all, rfl, _⟩ := h
    rfl
  · obtain ⟨W, A, k, x, R, n, all, rfl, C, M, q⟩ := h
    refine ⟨_, pss_one (ps_ret (pe_callB (cr_min rfl) (by rfl) T.min (by decide +kernel) (pa_cons (pe_fld (pv 0) rfl) pa_nil))), ?_⟩
    have hk := M.hk
    refine ⟨_, rfl, fld C.hr T.R (i := 2) (by decide +kernel) rfl ⟨R.acl, (clks x k).map (fun (n : Nat) => (n : Int)), rfl, SqL.of (by rw [List.map_map]; exact C.hcl), ?_, fun m hm hle => ?_⟩⟩
    · rw [List.length_map, clks_len M.D]
      omega
    · obtain ⟨m', hm', rfl⟩ := List.mem_map.mp hm
      exact q m' hm' fun y hy => by
        have := hle _ (List.mem_map.mpr ⟨y, hy, rfl⟩)
        omega
theorem scTree : FnScope ["self", "grown", "move"] ["self"] (defScope sTree) := ⟨rfl, rfl, rfl, by decide +kernel, rfl, by decide +kernel, by decide +kernel⟩
theorem ok_tree {f fw fA : Addr} {fd fdw fdA : FuncData} (F : Fun K "tree" "Replica.tree" sTree f fd) (T : Txt K mg c) (Gw : FnOk P w K mg base CX0 3 fw fdw ["self"] (spTwin c)) (bw : Binds K fdw ["self"] []) (mw : Meth K c.T "twin" fw)
    (GA : FnOk P w K mg base CX0 2 fA fdA ["self", "move"] (spApply c)) (bA : Binds K fdA ["self", "move"] []) (mA : Meth K c.T "apply" fA) : FnOk P w K mg base CX0 4 f fd ["self"] (spTree c) := by
  refine F.ok scTree (fun vs H Q E h => ?_) (fun cdv A outer s H vs Q E hr h => ?_)
  · obtain ⟨W, A, k, x, R, n, all, rfl, _⟩ := h
    rfl
  · obtain ⟨W, A, k, x, R, n, all, rfl, C, M, q⟩ := h
    refine ⟨_, pss_cons (ps_set (i := 1) scTree.nd rfl (Or.inl rfl) (pe_meth0 (pe_fld (pv 0) rfl) T.T.cl mw Gw hr bw .nil pass0))
      (pss_cons (ps_for PassesOwn.never rfl (pi_list (pe_fld (pv 0) rfl)) (pg_name (i := 2) scTree.nd rfl (Or.inl rfl))
        (pss_one (ps_expr (pe_meth (pv 1) T.T.cl mA GA (hr.mono (by decide)) bA .nil pass0 (pa_cons (pv 2) pa_nil)))))
      (pss_one (ps_ret (pv 1)))), ?_⟩
    obtain ⟨dt, ht⟩ := C.ht.ob
    refine ⟨_, rfl, fld C.hr T.R (i := 4) (by decide +kernel) rfl ⟨R.at_, dt, _, rfl, ht, fz_no (by decide +kernel), R.at_, R.ap, R.ab, R.T, rfl, C.ht, fun g gp gb H1 n1 n2 n3 s1 t1 => ?_⟩⟩
    refine ⟨_, rfl, fld (s1 _ _ C.hr) T.R (i := 3) (by decide +kernel) rfl ⟨R.al, rfl, ⟨_, SqL.of (s1 _ _ C.hl)⟩, for_list (K := K) (a := R.al) (xs := x.kept.map fun d => .ref (A d))
      (fun i σ H2 => ∃ (v : Option V) (G : List Place), σ = [some (.ref R.a), some (.ref g), v] ∧ Same H H2 ∧ TreeAt c H2 g gp gb G ∧ Tr G (((x.kept.take i).map fun d => d.move).foldl Sq28.done x.base))
      ⟨none, R.T, rfl, s1, t1, C.tr⟩ (fun i σ H2 _ ⟨_, _, _, s2, _⟩ => SqL.of (s2 _ _ C.hl)) ?_ ?_⟩⟩
    · rintro i v σ H2 hi ⟨_, G, rfl, s2, t2, tr2⟩
      rw [List.getElem?_map] at hi
      cases ed : x.kept[i]? with
      | none => rw [ed] at hi; cases hi
      | some d =>
        rw [ed] at hi
        cases hi
        have hd := List.mem_of_getElem? ed
        obtain ⟨dg, hg⟩ := t2.ob
        refine ⟨_, rfl, g, dg, _, rfl, hg, fz_no (by decide +kernel), _, rfl, g, gp, gb, A d, G, d, rfl, t2, (C.mv d hd).1.same s2, tr2.okT, fun H3 t3 k3 => ?_⟩
        refine ⟨_, _, rfl, fun b o e => k3 b o (s2 b o e) (ne_of_none e n2) (ne_of_none e n3), t3, ?_⟩
        rw [take_snoc ed, List.map_append, List.foldl_append]
        exact tr2.done (M.thing d hd).1 (M.thing d hd).2
    · rintro σ H2 ⟨_, G, rfl, s2, t2, tr2⟩
      rw [List.length_map, List.take_length] at tr2
      exact ⟨_, rfl, q g gp gb G H2 n1 n2 n3 s2 t2 tr2⟩
end
end My
namespace My
open PySem hiding Place
open PySem.Spec PyProof.Rows L2
open Sq28 (Place Tree)
open Sq33 (Deed Desk House Letter Counts at_ most)
section
variable {P : Program} {w : World} {K : PySem.W.Frag} {mg : Str → Option Value} {base : Heap} {c : Cs}
theorem scRepI : FnScope ["self", "place", "replica_count", "row"] ["self", "place", "replica_count"] (defScope sRepI) := ⟨rfl, rfl, rfl, by decide +kernel, rfl, by decide +kernel, by decide +kernel⟩
theorem ok_repI {f fI : Addr} {fd fdI : FuncData} (F : Fun K "__init__" "Replica.__init__" sRepI f fd) (T : Txt K mg c) (MT : Mk K c.T fI) (GI : FnOk P w K mg base CX0 1 fI fdI ["self"] (spTreI c)) (bI : Binds K fdI ["self"] []) : FnOk P w K mg base CX0 3 f fd ["self", "place", "replica_count"] (spRepI c) := by
  refine F.ok scRepI (fun vs H Q E h => ?_) (fun cdv A outer s H vs Q E hr h => ?_)
  · obtain ⟨W, A, p, dx, k, n, rfl, _⟩ := h
    rfl
  · obtain ⟨W, A', p, dx, k, n, rfl, hp, hk, h6, q⟩ := h
    refine ⟨_, pss_cons (ps_fld (pv 0) (pv 1) rfl)
      (pss_cons (ps_fld (pv 0) (pe_lc (own := [("row", 3)]) (g := gName 3) rfl scRepI.nd (pi_range1 (by rfl) T.range (pa_cons (pv 2) pa_nil)) (blkOk_by (N := ["self", "place", "replica_count", "row"]) (sc := defScope sRepI) (by decide +kernel))
        (fun _ _ _ _ _ => pg_name (i := 3) scRepI.nd rfl (Or.inl rfl) (hf := Or.inr rfl)) (fun _ _ _ _ _ => pts_nil) (fun _ _ _ _ _ => pe_op op_rep (pe_lst (pa_cons pe_int pa_nil)) (pv 2))) rfl)
      (pss_cons (ps_fld (pv 0) (pe_op op_rep (pe_lst (pa_cons pe_int pa_nil)) (pv 2)) rfl)
      (pss_cons (ps_fld (pv 0) (pe_lst pa_nil) rfl)
      (pss_cons (ps_fld (pv 0) (pe_make0 MT GI hr rfl T.gT bI .nil pass0) rfl)
      (pss_one (ps_fld (pv 0) pe_int rfl)))))), ?_⟩
    -- self.place = place
    refine ⟨_, rfl, _, rfl, sfnew (ks := []) (vs := []) hp T.R (by decide +kernel) (by decide) ?_⟩
    rw [fz_new (by decide +kernel) rfl]
    generalize hH1 : upd H p _ = H1
    have hp1 : H1 p = some (.ins c.R dx (fz (["place"]) ([nV k]))) := by rw [← hH1]; exact upd_same
    have k1 : ∀ b o, H b = some o → b ≠ p → H1 b = some o := fun b o e hb => by rw [← hH1, upd_ne hb]; exact e
    -- self.confirmed = [[0] * replica_count for row in range(replica_count)]
    have hn64 : -(2 ^ 62) ≤ (n : Int) ∧ (n : Int) < 2 ^ 62 := ⟨by omega, by omega⟩
    refine ⟨_, rfl, (n : Int), rfl, hn64.1, hn64.2, fun ac hac => ?_⟩
    have npc : p ≠ ac := ne_of_none hp1 hac
    refine lc_range (lo := 0) (n := n) (fun i H2 => ∃ rows : List Addr, rows.length = i ∧ Same H1 H2 ∧ H2 ac = some (.lst (rows.map V.ref)) ∧ rows.Nodup ∧ (∀ r ∈ rows, r ≠ ac ∧ H1 r = none ∧ H2 r = some (.lst ((List.replicate n 0).map nV))))
      ⟨[], rfl, same_upd hac, upd_same, List.nodup_nil, fun r h => nomatch h⟩ ?_ ?_
    · rintro i H2 hi ⟨rows, el, s2, h2, nd, hrows⟩
      refine ⟨rfl, ⟨(by show 1 ≤ sizeLine; decide), fun z hz => ?_⟩⟩
      refine ⟨_, rfl, z, (n : Int), _, rfl, rfl, upd_same, by omega, by omega, (by show 1 * n ≤ sizeLine; exact Nat.le_trans (m := 6) (by omega) (by decide)), fun r hr2 => ?_⟩
      have nzr : z ≠ r := fun e => by rw [← e, upd_same] at hr2; cases hr2
      have hr3 : H2 r = none := by rw [upd_ne nzr.symm] at hr2; exact hr2
      have nac : ac ≠ r := ne_of_none h2 hr3
      have naz : ac ≠ z := ne_of_none h2 hz
      refine ⟨rows.map V.ref, ?_, ?_, rows ++ [r], ?_, ?_, ?_, ?_, ?_⟩
      · rw [upd_ne nac, upd_ne naz]
        exact h2
      · rw [List.length_map, el]
        exact Nat.lt_of_le_of_lt (m := 6) (by omega) (by decide)
      · rw [List.length_append, el]
        rfl
      · exact Same.upd' (Same.upd' (Same.upd' s2 (s2.free hz)) (s2.free hr3)) hac
      · rw [upd_same, List.map_append]
        rfl
      · rw [List.nodup_append]
        refine ⟨nd, List.nodup_cons.mpr ⟨nofun, List.nodup_nil⟩, fun a ha b hb => ?_⟩
        rw [List.mem_singleton.mp hb]
        exact ne_of_none (hrows a ha).2.2 hr3
      · intro u hu
        rcases List.mem_append.mp hu with hu | hu
        · obtain ⟨a1, a2, a3⟩ := hrows u hu
          refine ⟨a1, a2, ?_⟩
          rw [upd_ne a1, upd_ne (ne_of_none a3 hr3), upd_ne (ne_of_none a3 hz)]
          exact a3
        · rw [List.mem_singleton.mp hu]
          refine ⟨nac.symm, s2.free hr3, ?_⟩
          rw [upd_ne nac.symm, upd_same]
          show some (HO.lst (List.replicate n [V.int 0]).flatten) = _
          rw [rep_flat]
    · rintro H2 ⟨rows, el, s2, h2, nd, hrows⟩
      refine ⟨_, rfl, sfnew (ks := ["place"]) (vs := [nV k]) (s2 _ _ hp1) T.R (by decide +kernel) (by decide) ?_⟩
      rw [fz_new (by decide +kernel) rfl]
      generalize hH3 : upd H2 p _ = H3
      have hp3 : H3 p = some (.ins c.R dx (fz ["place", "confirmed"] [nV k, .ref ac])) := by rw [← hH3]; exact upd_same
      have k3 : ∀ b o, H2 b = some o → b ≠ p → H3 b = some o := fun b o e hb => by rw [← hH3, upd_ne hb]; exact e
      have h3 : H3 ac = some (.lst (rows.map V.ref)) := k3 _ _ h2 npc.symm
      have hrows3 : ∀ r ∈ rows, H3 r = some (.lst ((List.replicate n 0).map nV)) := fun r hr => k3 _ _ (hrows r hr).2.2 fun e => by
        have := (hrows r hr).2.1
        rw [e, hp1] at this
        cases this
      have kH3 : ∀ b o, H b = some o → b ≠ p → H3 b = some o := fun b o e hb => k3 b o (s2 b o (k1 b o e hb)) hb
      -- self.clocks = [0] * replica_count
      refine ⟨(by show 1 ≤ sizeLine; decide), fun z hz => ?_⟩
      refine ⟨_, rfl, z, (n : Int), _, rfl, rfl, upd_same, by omega, by omega, (by show 1 * n ≤ sizeLine; exact Nat.le_trans (m := 6) (by omega) (by decide)), fun acl hacl => ?_⟩
      have nzl : z ≠ acl := fun e => by rw [← e, upd_same] at hacl; cases hacl
      have hacl3 : H3 acl = none := by rw [upd_ne nzl.symm] at hacl; exact hacl
      have npz : p ≠ z := ne_of_none hp3 hz
      have npl : p ≠ acl := ne_of_none hp3 hacl3
      refine ⟨_, rfl, sfnew (ks := ["place", "confirmed"]) (vs := [nV k, .ref ac]) (by rw [upd_ne npl, upd_ne npz]; exact hp3) T.R (by decide +kernel) (by decide) ?_⟩
      rw [fz_new (by decide +kernel) rfl]
      generalize hH4 : upd (upd (upd H3 z (.lst [V.int 0])) acl (.lst (List.replicate (n : Int).toNat [V.int 0]).flatten)) p _ = H4
      have hp4 : H4 p = some (.ins c.R dx (fz ["place", "confirmed", "clocks"] [nV k, .ref ac, .ref acl])) := by rw [← hH4]; exact upd_same
      have k4 : ∀ b o, H3 b = some o → b ≠ p → H4 b = some o := fun b o e hb => by
        rw [← hH4, upd_ne hb, upd_ne (ne_of_none e hacl3), upd_ne (ne_of_none e hz)]
        exact e
      have hacl4 : H4 acl = some (.lst ((List.replicate n 0).map nV)) := by
        rw [← hH4, upd_ne npl.symm, upd_same]
        show some (HO.lst (List.replicate n [V.int 0]).flatten) = _
        rw [rep_flat]
      -- self.log = []
      refine ⟨Nat.zero_le _, fun al hal => ?_⟩
      have npal : p ≠ al := ne_of_none hp4 hal
      refine ⟨_, rfl, sfnew (ks := ["place", "confirmed", "clocks"]) (vs := [nV k, .ref ac, .ref acl]) (by rw [upd_ne npal]; exact hp4) T.R (by decide +kernel) (by decide) ?_⟩
      rw [fz_new (by decide +kernel) rfl]
      generalize hH5 : upd (upd H4 al (.lst [])) p _ = H5
      have hp5 : H5 p = some (.ins c.R dx (fz ["place", "confirmed", "clocks", "log"] [nV k, .ref ac, .ref acl, .ref al])) := by rw [← hH5]; exact upd_same
      have k5 : ∀ b o, H4 b = some o → b ≠ p → H5 b = some o := fun b o e hb => by
        rw [← hH5, upd_ne hb, upd_ne (ne_of_none e hal)]
        exact e
      have hal5 : H5 al = some (.lst []) := by rw [← hH5, upd_ne npal.symm, upd_same]
      -- self.snapshot = Tree()
      intro x xd nx nxd nex
      refine ⟨x, xd, rfl, upd_same, fun ap ab H6 n1 n2 t6 kp => ⟨rfl, ?_⟩⟩
      have s6 : Same H5 H6 := Same.made nx nxd kp
      have fresh5 : ∀ b, (upd (upd H5 xd (.own x)) x (.ins c.T xd [])) b = none → H5 b = none := fun b e => by
        cases e5 : H5 b with
        | none => rfl
        | some o =>
          rw [upd_ne (ne_of_none e5 nx), upd_ne (ne_of_none e5 nxd), e5] at e
          cases e
      have n1' := fresh5 _ n1
      have n2' := fresh5 _ n2
      refine ⟨_, rfl, sfnew (ks := ["place", "confirmed", "clocks", "log"]) (vs := [nV k, .ref ac, .ref acl, .ref al]) (s6 _ _ hp5) T.R (by decide +kernel) (by decide) ?_⟩
      rw [fz_new (by decide +kernel) rfl]
      -- self.compacted = 0
      refine ⟨_, rfl, sfnew upd_same T.R (by decide +kernel) (by decide) ?_⟩
      rw [fz_new (by decide +kernel) rfl]
      generalize hH7 : upd (upd H6 p _) p _ = H7
      have hp7 : H7 p = some (.ins c.R dx (fz rK [nV k, .ref ac, .ref acl, .ref al, .ref x, nV 0])) := by rw [← hH7]; exact upd_same
      have k7 : ∀ b o, H6 b = some o → b ≠ p → H7 b = some o := fun b o e hb => by
        rw [← hH7, upd_ne hb, upd_ne hb]
        exact e
      have npx : p ≠ x := ne_of_none hp5 nx
      have npp : p ≠ ap := ne_of_none hp5 n1'
      have npb : p ≠ ab := ne_of_none hp5 n2'
      obtain ⟨xt, hx⟩ := t6.ob
      have a3 : H3 ac = _ := h3
      have a4 : H4 ac = _ := k4 _ _ a3 npc.symm
      have a5 : H5 ac = _ := k5 _ _ a4 npc.symm
      have a7 : H7 ac = some (.lst (rows.map V.ref)) := k7 _ _ (s6 _ _ a5) npc.symm
      have b5 := k5 _ _ hacl4 npl.symm
      have b7 := k7 _ _ (s6 _ _ b5) npl.symm
      have c7 := k7 _ _ (s6 _ _ hal5) npal.symm
      have nrp : ∀ r ∈ rows, r ≠ p := fun r hr e => by
        have := (hrows r hr).2.1
        rw [e, hp1] at this
        cases this
      have r4 : ∀ r ∈ rows, H4 r = some (.lst ((List.replicate n 0).map nV)) := fun r hr => k4 _ _ (hrows3 r hr) (nrp r hr)
      have r5 : ∀ r ∈ rows, H5 r = some (.lst ((List.replicate n 0).map nV)) := fun r hr => k5 _ _ (r4 r hr) (nrp r hr)
      have r7 : ∀ r ∈ rows, H7 r = some (.lst ((List.replicate n 0).map nV)) := fun r hr => k7 _ _ (s6 _ _ (r5 r hr)) (nrp r hr)
      -- whose they are
      have kk : ∀ b o, H b = some o → b ≠ p → H6 b = some o := fun b o e hb => s6 _ _ (k5 _ _ (k4 _ _ (kH3 _ _ e hb) hb) hb)
      let W' : Roles := fun b => if b = p then .rep k else if b = ac then .conf k else if b = acl then .clks k else if b = al then .log k else if b = x then .snap k else if b = ap then .par k else if b = ab then .labs k else
        if b ∈ rows then .row k (rows.idxOf b) else W b
      have lac : ac ≠ acl := ne_of_none a3 hacl3
      have lal : ac ≠ al := ne_of_none a4 hal
      have lax : ac ≠ x := ne_of_none a5 nx
      have lap : ac ≠ ap := ne_of_none a5 n1'
      have lab' : ac ≠ ab := ne_of_none a5 n2'
      have mal : acl ≠ al := ne_of_none hacl4 hal
      have max' : acl ≠ x := ne_of_none b5 nx
      have map' : acl ≠ ap := ne_of_none b5 n1'
      have mab : acl ≠ ab := ne_of_none b5 n2'
      have ax : al ≠ x := ne_of_none hal5 nx
      have aap : al ≠ ap := ne_of_none hal5 n1'
      have aab : al ≠ ab := ne_of_none hal5 n2'
      have xp : x ≠ ap := ins_dict hx t6.hp
      have xb : x ≠ ab := ins_dict hx t6.hb
      have wac : W' ac = .conf k := by show (if ac = p then _ else _) = _; rw [if_neg npc.symm, if_pos rfl]
      have wacl : W' acl = .clks k := by show (if acl = p then _ else _) = _; rw [if_neg npl.symm, if_neg lac.symm, if_pos rfl]
      have wal : W' al = .log k := by show (if al = p then _ else _) = _; rw [if_neg npal.symm, if_neg lal.symm, if_neg mal.symm, if_pos rfl]
      have wx : W' x = .snap k := by show (if x = p then _ else _) = _; rw [if_neg npx.symm, if_neg lax.symm, if_neg max'.symm, if_neg ax.symm, if_pos rfl]
      have wap : W' ap = .par k := by show (if ap = p then _ else _) = _; rw [if_neg npp.symm, if_neg lap.symm, if_neg map'.symm, if_neg aap.symm, if_neg xp.symm, if_pos rfl]
      have wab : W' ab = .labs k := by show (if ab = p then _ else _) = _; rw [if_neg npb.symm, if_neg lab'.symm, if_neg mab.symm, if_neg aab.symm, if_neg xb.symm, if_neg t6.ne.symm, if_pos rfl]
      have wrow : ∀ r ∈ rows, W' r = .row k (rows.idxOf r) := fun r hr => by
        show (if r = p then _ else _) = _
        rw [if_neg (nrp r hr), if_neg (hrows r hr).1, if_neg (ne_of_none (hrows3 r hr) hacl3), if_neg (ne_of_none (r4 r hr) hal), if_neg (ne_of_none (r5 r hr) nx), if_neg (ne_of_none (r5 r hr) n1'), if_neg (ne_of_none (r5 r hr) n2'), if_pos hr]
      refine q ⟨p, dx, ac, acl, al, x, ap, ab, rows, []⟩ W' H7 rfl ?_ fun b o e hb => ⟨k7 _ _ (kk _ _ e hb) hb, ?_⟩
      · show RepC c W' A' H7 k (conf (Sq33.none_ n) k) (clks (Sq33.none_ n) k) [] [] 0 _
        rw [conf_none, clks_none]
        refine ⟨hp7, if_pos rfl, a7, wac, by rw [el, List.length_replicate], fun i r z hi hz => ?_, b7, wacl, c7, wal, ⟨t6.ne, ⟨xt, k7 _ _ hx npx.symm⟩, k7 _ _ t6.hp npp.symm, k7 _ _ t6.hb npb.symm⟩, wx, wap, wab, Tr.nil, fun d hd => nomatch hd⟩
        have hm := List.mem_of_getElem? hi
        have hz2 := List.eq_of_mem_replicate (List.mem_of_getElem? hz)
        subst hz2
        refine ⟨r7 r hm, ?_⟩
        rw [wrow r hm]
        have hlt := (List.getElem?_eq_some_iff.mp hi).1
        have hg := (List.getElem?_eq_some_iff.mp hi).2
        rw [← hg, List.Nodup.idxOf_getElem nd]
      · have e1 := k1 b o e hb
        have e3 := kH3 b o e hb
        have e4 := k4 _ _ e3 hb
        have e5 := k5 _ _ e4 hb
        show (if b = p then _ else _) = _
        have nb : b ∉ rows := fun z => by
          have := (hrows b z).2.1
          rw [e1] at this
          cases this
        rw [if_neg hb, if_neg (ne_of_none e1 hac), if_neg (ne_of_none e3 hacl3), if_neg (ne_of_none e4 hal), if_neg (ne_of_none e5 nx), if_neg (ne_of_none e5 n1'), if_neg (ne_of_none e5 n2'), if_neg nb]
end
end My
namespace My
open PySem hiding Place
open PySem.Spec PyProof.Rows L2
open Sq28 (Place Tree)
open Sq33 (Deed Desk House Letter Counts at_ most)
theorem ixN_nat {n k : Nat} (h : k < n) : ixN n (k : Int) = some k := by
  unfold ixN
  rw [if_pos (by omega), if_pos (by omega)]
  rfl
/-- the move that a replica makes -/
def mk1 (x : Desk) (k id u v l : Nat) : Deed := ⟨at_ x.has k + 1, ⟨id, ⟨x.clock + 1, k⟩, u, v, l⟩⟩
def desk1 (x : Desk) (k id u v l : Nat) : Desk := { x with kept := x.kept ++ [mk1 x k id u v l], has := x.has.set k (at_ x.has k + 1), clock := x.clock + 1 }
def spMake (c : Cs) : Sp := fun vs H Q _ => ∃ (W : Roles) (A : Deed → Addr) (k : Nat) (x : Desk) (R : RA) (n : Nat) (all : List Deed) (id u v l : Nat), vs = [.ref R.a, nV u, nV v, nV l] ∧ RepD c W A H k x R ∧ RepM n all k x ∧
  (∀ e ∈ x.kept, e ≠ mk1 x k id u v l) ∧
  ∀ (p : Addr) (R' : RA) (W' : Roles) (A' : Deed → Addr) (H' : Hp), R'.a = R.a → RepD c W' A' H' k (desk1 x k id u v l) R' → (∀ e, e ≠ mk1 x k id u v l → A' e = A e) → Step W W' H H' k → H p = none → W' p = .oth →
    H' p = some (.lst [nV (at_ x.has k + 1), nV (x.clock + 1), nV (Sq28.outcome x.tree (mk1 x k id u v l).move)]) → Q (.ref p) H'
/-- a message in the heap -/
structure MsgAt (c : Cs) (W : Roles) (A : Deed → Addr) (H : Hp) (g : Addr) (m : Letter) : Prop where
  ob : ∃ dx gc gm, H g = some (.ins c.G dx (fz gK [nV m.from_, nV m.to, .ref gc, nV m.clock, .ref gm])) ∧ H gc = some (.lst (m.has.map nV)) ∧ H gm = some (.lst (m.deeds.map fun d => .ref (A d))) ∧ W g = .fix ∧ W gc = .fix ∧ W gm = .fix
  mv : ∀ d ∈ m.deeds, MovAt c H (A d) d ∧ W (A d) = .fix
theorem MsgAt.move {c : Cs} {W W' : Roles} {A A' : Deed → Addr} {H H' : Hp} {g : Addr} {m : Letter} (h : MsgAt c W A H g m) (hf : ∀ b o, H b = some o → W b = .fix → H' b = some o ∧ W' b = .fix) (hA : ∀ d ∈ m.deeds, A' d = A d) : MsgAt c W' A' H' g m := by
  obtain ⟨dx, gc, gm, e1, e2, e3, w1, w2, w3⟩ := h.ob
  refine ⟨⟨dx, gc, gm, (hf _ _ e1 w1).1, (hf _ _ e2 w2).1, ?_, (hf _ _ e1 w1).2, (hf _ _ e2 w2).2, (hf _ _ e3 w3).2⟩, fun d hd => ?_⟩
  · have e : (m.deeds.map fun d => V.ref (A' d)) = m.deeds.map fun d => V.ref (A d) := List.map_congr_left fun d hd => by rw [hA d hd]
    rw [e]
    exact (hf _ _ e3 w3).1
  · obtain ⟨⟨dd, e⟩, w⟩ := h.mv d hd
    rw [hA d hd]
    exact ⟨⟨dd, (hf _ _ e w).1⟩, (hf _ _ e w).2⟩
def spMsg (c : Cs) : Sp := fun vs H Q _ => ∃ (W : Roles) (A : Deed → Addr) (k : Nat) (x : Desk) (R : RA) (n : Nat) (all : List Deed) (j : Nat), vs = [.ref R.a, nV j] ∧ RepD c W A H k x R ∧ RepM n all k x ∧ j < n ∧
  ∀ (g : Addr) (W' : Roles) (H' : Hp) (z : Counts), (conf x k)[j]? = some z → Same H H' → (∀ b o, H b = some o → W' b = W b) → H g = none → MsgAt c W' A H' g ⟨k, j, x.has, x.clock, x.kept.filter fun d => !decide (d.n ≤ at_ z d.desk)⟩ → Q (.ref g) H'
section
variable {P : Program} {w : World} {K : PySem.W.Frag} {mg : Str → Option Value} {base : Heap} {c : Cs}
theorem scMake : FnScope ["self", "node", "parent", "label", "number", "counter", "move", "outcome"] ["self", "node", "parent", "label"] (defScope sMake) := ⟨rfl, rfl, rfl, by decide +kernel, rfl, by decide +kernel, by decide +kernel⟩
theorem ok_make {f fO fM fT fA : Addr} {fd fdO fdM fdT fdA : FuncData} (F : Fun K "make_move" "Replica.make_move" sMake f fd) (T : Txt K mg c) (GO : FnOk P w K mg base CX0 1 fO fdO ["self"] (spOwn c)) (bO : Binds K fdO ["self"] []) (mO : Meth K c.R "own_counts" fO)
    (MM : Mk K c.M fM) (GM : FnOk P w K mg base CX0 1 fM fdM ["self", "origin", "number", "counter", "node", "parent", "label"] (spMovI c)) (bM : Binds K fdM ["self", "origin", "number", "counter", "node", "parent", "label"] [])
    (GT : FnOk P w K mg base CX0 4 fT fdT ["self"] (spTree c)) (bT : Binds K fdT ["self"] []) (mT : Meth K c.R "tree" fT)
    (GA : FnOk P w K mg base CX0 2 fA fdA ["self", "move"] (spApply c)) (bA : Binds K fdA ["self", "move"] []) (mA : Meth K c.T "apply" fA) : FnOk P w K mg base CX0 5 f fd ["self", "node", "parent", "label"] (spMake c) := by
  refine F.ok scMake (fun vs H Q E h => ?_) (fun cdv A outer s H vs Q E hr h => ?_)
  · obtain ⟨W, A, k, x, R, n, all, id, u, v, l, rfl, _⟩ := h
    rfl
  · obtain ⟨W, B, k, x, R, n, all, id, u, v, l, rfl, C, M, hne, q⟩ := h
    refine ⟨_, pss_cons (ps_set (i := 4) scMake.nd rfl (Or.inl rfl) (pe_op op_add (pe_ix ix_list (pe_meth0 (pv 0) T.R.cl mO GO (hr.mono (by decide)) bO .nil pass0) (pe_fld (pv 0) rfl) (fun _ _ => rfl)) pe_int))
      (pss_cons (ps_set (i := 5) scMake.nd rfl (Or.inl rfl) (pe_op op_add (pe_ix ix_list (pe_fld (pv 0) rfl) (pe_fld (pv 0) rfl) (fun _ _ => rfl)) pe_int))
      (pss_cons (ps_set (i := 6) scMake.nd rfl (Or.inl rfl) (pe_make MM GM (hr.mono (by decide)) rfl T.gM bM .nil pass0 (pa_cons (pe_fld (pv 0) rfl) (pa_cons (pv 4) (pa_cons (pv 5) (pa_cons (pv 1) (pa_cons (pv 2) (pa_cons (pv 3) pa_nil))))))))
      (pss_cons (ps_set (i := 7) scMake.nd rfl (Or.inl rfl) (pe_meth (pe_meth0 (pv 0) T.R.cl mT GT hr bT .nil pass0) T.T.cl mA GA (hr.mono (by decide)) bA .nil pass0 (pa_cons (pv 6) pa_nil)))
      (pss_cons (ps_expr (pe_bm PySem.F.plainAttrs_list PySem.F.slot_list_append PySem.F.type_list_append mt_append (pe_fld (pv 0) rfl) (pa_cons (pv 6) pa_nil)))
      (pss_cons (ps_asg (pv 4) (pg_sub (pe_ix ix_list (pe_fld (pv 0) rfl) (pe_fld (pv 0) rfl) (fun _ _ => rfl)) (pe_fld (pv 0) rfl) set_list))
      (pss_cons (ps_asg (pv 5) (pg_sub (pe_fld (pv 0) rfl) (pe_fld (pv 0) rfl) set_list))
      (pss_one (ps_ret (pe_lst (pa_cons (pv 4) (pa_cons (pv 5) (pa_cons (pv 7) pa_nil)))))))))))), ?_⟩
    have hkn := M.hk
    have hkh : k < x.has.length := by rw [M.D.has]; exact hkn
    have hkc : k < (clks x k).length := by rw [clks_len M.D]; exact hkn
    -- number = self.own_counts()[self.place] + 1
    refine ⟨_, rfl, R.a, R.dx, _, rfl, C.hr, fz_no (by decide +kernel), W, B, k, x, R, n, all, rfl, C, M, fun r er hrow => ?_⟩
    refine ⟨_, rfl, fld C.hr T.R (i := 0) (by decide +kernel) rfl ⟨r, _, _, nV (at_ x.has k), rfl, rfl, SqL.of hrow, atI_nat (by rw [List.getElem?_map, at_get hkh]; rfl), _, _, rfl, rfl, ?_⟩⟩
    -- counter = self.clocks[self.place] + 1
    refine ⟨_, rfl, fld C.hr T.R (i := 2) (by decide +kernel) rfl ⟨_, rfl, fld C.hr T.R (i := 0) (by decide +kernel) rfl ⟨R.acl, _, _, nV x.clock, rfl, rfl, SqL.of C.hcl, atI_nat (by rw [List.getElem?_map, clks_own M.D hkn]; rfl), _, _, rfl, rfl, ?_⟩⟩⟩
    -- move = Move(..)
    refine ⟨_, rfl, fld C.hr T.R (i := 0) (by decide +kernel) rfl ⟨_, rfl, _, rfl, _, rfl, _, rfl, _, rfl, fun m dm nm ndm nem => ?_⟩⟩
    refine ⟨m, dm, mk1 x k id u v l, rfl, upd_same, fun H1 mv kp => ⟨rfl, ?_⟩⟩
    have s1 : Same H H1 := Same.made nm ndm kp
    have C1 : RepD c W B H1 k x R := C.same (fun _ _ _ => rfl) s1
    -- outcome = self.tree().apply(move)
    refine ⟨_, rfl, R.a, R.dx, _, rfl, C1.hr, fz_no (by decide +kernel), W, B, k, x, R, n, all, rfl, C1, M, fun g gp gb G H2 n1 n2 n3 s2 t2 tr2 => ?_⟩
    obtain ⟨dg, hg⟩ := t2.ob
    refine ⟨g, dg, _, rfl, hg, fz_no (by decide +kernel), _, rfl, g, gp, gb, m, G, mk1 x k id u v l, rfl, t2, mv.same s2, tr2.okT, fun H3 t3 k3 => ?_⟩
    have s3 : Same H H3 := fun b o e => k3 b o (s2 _ _ (s1 _ _ e)) (ne_of_none (s1 _ _ e) n2) (ne_of_none (s1 _ _ e) n3)
    have C3 : RepD c W B H3 k x R := C.same (fun _ _ _ => rfl) s3
    obtain ⟨dm1, hm1⟩ := mv
    have hm3 : H3 m = some (.ins c.M dm1 (fz mK (mV (mk1 x k id u v l)))) := k3 _ _ (s2 _ _ hm1) (ne_of_none hm1 n2) (ne_of_none hm1 n3)
    have eo : Sq28.outcome G (mk1 x k id u v l).move = Sq28.outcome x.tree (mk1 x k id u v l).move := tr2.outcome _
    rw [eo]
    -- self.log.append(move)
    have hlen : (x.kept.map fun d => V.ref (B d)).length < sizeLine := by
      rw [List.length_map]
      exact Nat.lt_of_le_of_lt M.few (by decide)
    refine ⟨_, rfl, fld C3.hr T.R (i := 3) (by decide +kernel) rfl ⟨.inl ⟨rfl, _, SqL.of C3.hl⟩, _, rfl, R.al, _, _, rfl, rfl, C3.hl, hlen, ?_⟩⟩
    generalize hH4 : upd H3 R.al _ = H4
    have al4 : H4 R.al = some (.lst ((x.kept.map fun d => V.ref (B d)) ++ [.ref m])) := by rw [← hH4]; exact upd_same
    have k4 : ∀ {b o}, H3 b = some o → W b ≠ .log k → H4 b = some o := fun e z => by rw [← hH4, upd_ne (fun q => z (by rw [q]; exact C.wl))]; exact e
    have kl4 : ∀ {b o}, H3 b = some o → (∀ xs, o ≠ .lst xs) → H4 b = some o := fun e z => by rw [← hH4, upd_ne (ne_of e C3.hl (z _))]; exact e
    -- self.confirmed[self.place][self.place] = number
    obtain ⟨r', z, e1, e2, zl, e3, wr⟩ := own_row C3 M hkn
    rw [er] at e1
    cases e1
    rw [conf_own M.D hkn] at e2
    cases e2
    have wnr : W R.a ≠ .log k := by rw [C.wr]; nofun
    have hr4 := k4 C3.hr wnr
    have hc4 := k4 C3.hc (by rw [C.wc]; nofun)
    have row4 := k4 e3 (by rw [wr]; nofun)
    refine ⟨_, rfl, _, rfl, fld hr4 T.R (i := 1) (by decide +kernel) rfl ⟨_, rfl, fld hr4 T.R (i := 0) (by decide +kernel) rfl ⟨R.ac, _, _, .ref r, rfl, rfl, SqL.of hc4, atI_nat (by rw [List.getElem?_map, er]; rfl), _, rfl, fld hr4 T.R (i := 0) (by decide +kernel) rfl
      ⟨r, _, _, k, rfl, rfl, row4, ixN_nat (by rw [List.length_map]; exact hkh), ?_⟩⟩⟩⟩
    generalize hH5 : upd H4 r _ = H5
    have row5 : H5 r = some (.lst ((x.has.map nV).set k (nV (at_ x.has k + 1)))) := by rw [← hH5]; exact upd_same
    have k5 : ∀ {b o}, H4 b = some o → W b ≠ .row k k → H5 b = some o := fun e z => by rw [← hH5, upd_ne (fun q => z (by rw [q]; exact wr))]; exact e
    have kl5 : ∀ {b o}, H4 b = some o → (∀ xs, o ≠ .lst xs) → H5 b = some o := fun e z => by rw [← hH5, upd_ne (ne_of e row4 (z _))]; exact e
    -- self.clocks[self.place] = counter
    have hr5 := k5 hr4 (by rw [C.wr]; nofun)
    have cl5 := k5 (k4 C3.hcl (by rw [C.wcl]; nofun)) (by rw [C.wcl]; nofun)
    refine ⟨_, rfl, _, rfl, fld hr5 T.R (i := 2) (by decide +kernel) rfl ⟨_, rfl, fld hr5 T.R (i := 0) (by decide +kernel) rfl ⟨R.acl, _, _, k, rfl, rfl, cl5, ixN_nat (by rw [List.length_map]; exact hkc), ?_⟩⟩⟩
    generalize hH6 : upd H5 R.acl _ = H6
    have cl6 : H6 R.acl = some (.lst (((clks x k).map nV).set k (nV (x.clock + 1)))) := by rw [← hH6]; exact upd_same
    have k6 : ∀ {b o}, H5 b = some o → W b ≠ .clks k → H6 b = some o := fun e z => by rw [← hH6, upd_ne (fun q => z (by rw [q]; exact C.wcl))]; exact e
    have kl6 : ∀ {b o}, H5 b = some o → (∀ xs, o ≠ .lst xs) → H6 b = some o := fun e z => by rw [← hH6, upd_ne (ne_of e cl5 (z _))]; exact e
    -- return [number, counter, outcome]
    refine ⟨_, rfl, _, rfl, _, rfl, (by show 3 ≤ sizeLine; decide), fun p hp6 => ?_⟩
    have keep6 : ∀ {b o}, H b = some o → W b ≠ .log k → W b ≠ .row k k → W b ≠ .clks k → H6 b = some o := fun e a1 a2 a3 => k6 (k5 (k4 (s3 _ _ e) a1) a2) a3
    have m6 := kl6 (kl5 (kl4 hm3 nofun) nofun) nofun
    have al6 := k6 (k5 al4 (by rw [C.wl]; nofun)) (by rw [C.wl]; nofun)
    have row6 := k6 row5 (by rw [wr]; nofun)
    have hsome : ∀ {b o}, H b = some o → ∃ o', H6 b = some o' := fun {b o} e => by
      by_cases a1 : W b = .log k
      · have e4 : ∃ o', H4 b = some o' := by
          rw [← hH4]
          by_cases z : b = R.al
          · exact ⟨_, by rw [z, upd_same]⟩
          · exact ⟨o, by rw [upd_ne z]; exact s3 _ _ e⟩
        obtain ⟨o4, e4⟩ := e4
        exact ⟨o4, k6 (k5 e4 (by rw [a1]; nofun)) (by rw [a1]; nofun)⟩
      · have e4 := k4 (s3 _ _ e) a1
        by_cases a2 : W b = .row k k
        · have e5 : ∃ o', H5 b = some o' := by
            rw [← hH5]
            by_cases z : b = r
            · exact ⟨_, by rw [z, upd_same]⟩
            · exact ⟨o, by rw [upd_ne z]; exact e4⟩
          obtain ⟨o5, e5⟩ := e5
          exact ⟨o5, k6 e5 (by rw [a2]; nofun)⟩
        · have e5 := k5 e4 a2
          rw [← hH6]
          by_cases z : b = R.acl
          · exact ⟨_, by rw [z, upd_same]⟩
          · exact ⟨o, by rw [upd_ne z]; exact e5⟩
    have hp0 : H p = none := by
      cases e : H p with
      | none => rfl
      | some o =>
        obtain ⟨o', e'⟩ := hsome e
        rw [e'] at hp6
        cases hp6
    have k7 : ∀ {b o} (z : HO), H6 b = some o → upd H6 p z b = some o := fun z e => by rw [upd_ne (ne_of_none e hp6)]; exact e
    have nmp : m ≠ p := ne_of_none m6 hp6
    have wk : ∀ b o, H b = some o → setW (setW W m .fix) p .oth b = W b := fun b o e => by rw [sw_ne (ne_of_none e hp0), sw_ne (ne_of_none e nm)]
    have keep : ∀ {b o} (z : HO), H b = some o → W b ≠ .log k → W b ≠ .row k k → W b ≠ .clks k → upd H6 p z b = some o := fun z e a1 a2 a3 => k7 z (keep6 e a1 a2 a3)
    obtain ⟨dt, ht⟩ := C.ht.ob
    refine q p R (setW (setW W m .fix) p .oth) (fun e => if e = mk1 x k id u v l then m else B e) _ rfl ?_ (fun e he => if_neg he) ⟨wk, fun b o e hb => keep _ e (fun z => hb (by rw [z]; rfl)) (fun z => hb (by rw [z]; rfl)) (fun z => hb (by rw [z]; rfl)), fun b o e => (hsome e).elim fun o' e' => ⟨o', k7 _ e'⟩⟩ hp0 sw_same upd_same
    show RepC c _ _ _ k (conf (desk1 x k id u v l) k) (clks (desk1 x k id u v l) k) (x.kept ++ [mk1 x k id u v l]) x.base x.gone R
    unfold desk1
    rw [conf_moved, clks_moved]
    have kp' : ∀ {b o ρ} (z : HO), H b = some o → W b = ρ → ρ ≠ .log k → ρ ≠ .row k k → ρ ≠ .clks k → upd H6 p z b = some o := fun z e w a1 a2 a3 => keep z e (by rw [w]; exact a1) (by rw [w]; exact a2) (by rw [w]; exact a3)
    refine ⟨kp' _ C.hr C.wr nofun nofun nofun, (wk _ _ C.hr).trans C.wr, kp' _ C.hc C.wc nofun nofun nofun, (wk _ _ C.hc).trans C.wc, by rw [List.length_set]; exact C.rl, fun i y z hi hz => ?_, ?_, (wk _ _ C.hcl).trans C.wcl, ?_, (wk _ _ C.hl).trans C.wl,
      ⟨C.ht.ne, ⟨dt, kp' _ ht C.wt nofun nofun nofun⟩, kp' _ C.ht.hp C.wp nofun nofun nofun, kp' _ C.ht.hb C.wb nofun nofun nofun⟩, (wk _ _ ht).trans C.wt, (wk _ _ C.ht.hp).trans C.wp, (wk _ _ C.ht.hb).trans C.wb, C.tr, fun d hd => ?_⟩
    · rw [List.getElem?_set] at hz
      by_cases ek : k = i
      · rw [if_pos ek, if_pos (by rw [conf_len M.D]; exact hkn)] at hz
        cases hz
        subst ek
        rw [er] at hi
        cases hi
        refine ⟨?_, ?_⟩
        · rw [k7 _ row6, List.map_set]
        · obtain ⟨e5, _⟩ := C.row k r _ er (conf_own M.D hkn)
          exact (wk _ _ e5).trans wr
      · rw [if_neg ek] at hz
        obtain ⟨e5, w5⟩ := C.row i y z hi hz
        exact ⟨kp' _ e5 w5 nofun (fun e => ek (by cases e; rfl)) nofun, (wk _ _ e5).trans w5⟩
    · rw [k7 _ cl6, List.map_set]
    · rw [k7 _ al6, List.map_append]
      have e : (x.kept.map fun d => V.ref (if d = mk1 x k id u v l then m else B d)) = x.kept.map fun d => V.ref (B d) := List.map_congr_left fun d hd => by rw [if_neg (hne d hd)]
      rw [e]
      show _ = some (HO.lst (_ ++ [V.ref (if mk1 x k id u v l = mk1 x k id u v l then m else _)]))
      rw [if_pos rfl]
    · dsimp only
      rcases List.mem_append.mp hd with hd | hd
      · rw [if_neg (hne d hd)]
        obtain ⟨⟨dd, e⟩, w⟩ := C.mv d hd
        exact ⟨⟨dd, kp' _ e w nofun nofun nofun⟩, (wk _ _ e).trans w⟩
      · rw [List.mem_singleton.mp hd, if_pos rfl]
        exact ⟨⟨dm1, k7 _ m6⟩, by rw [sw_ne nmp]; exact sw_same⟩
end
end My
namespace My
open PySem hiding Place
open PySem.Spec PyProof.Rows L2
open Sq28 (Place Tree)
open Sq33 (Deed Desk House Letter Counts at_ most)
theorem filter_snoc {α : Type} (p : α → Bool) {l : List α} {i : Nat} {x : α} (h : l[i]? = some x) : (l.take (i + 1)).filter p = if p x = true then (l.take i).filter p ++ [x] else (l.take i).filter p := by
  rw [take_snoc h, List.filter_append]
  by_cases c : p x = true
  · rw [if_pos c, List.filter_cons_of_pos c]
    rfl
  · rw [if_neg c, List.filter_cons_of_neg c, List.filter_nil, List.append_nil]
theorem filter_snocT {α : Type} (p : α → Bool) {l : List α} {i : Nat} {x : α} (h : l[i]? = some x) (e : p x = true) : (l.take (i + 1)).filter p = (l.take i).filter p ++ [x] := by
  rw [filter_snoc p h, if_pos e]
theorem filter_snocF {α : Type} (p : α → Bool) {l : List α} {i : Nat} {x : α} (h : l[i]? = some x) (e : p x = false) : (l.take (i + 1)).filter p = (l.take i).filter p := by
  rw [filter_snoc p h, if_neg (by rw [e]; exact Bool.false_ne_true)]
theorem filter_take_len {α : Type} (p : α → Bool) (l : List α) (i : Nat) : ((l.take i).filter p).length ≤ l.length := Nat.le_trans (List.length_filter_le _ _) (List.take_sublist _ _).length_le
section
variable {P : Program} {w : World} {K : PySem.W.Frag} {mg : Str → Option Value} {base : Heap} {c : Cs}
theorem scMsg : FnScope ["self", "receiver", "known", "moves", "counts", "move"] ["self", "receiver"] (defScope sMsg) := ⟨rfl, rfl, rfl, by decide +kernel, rfl, by decide +kernel, by decide +kernel⟩
/-- move.number > counts[move.origin], the move in slot i, the counts in slot j -/
def tNewer (K : PySem.W.Frag) (i j : Nat) : TT := tTest (tOp (rI0 fun i j => .bl (decide (j < i))) (tFld K (tVar i) "number") (tOp (rIxL K) (tVar j) (tFld K (tVar i) "origin")))
theorem ok_msg {f fO fG : Addr} {fd fdO fdG : FuncData} (F : Fun K "message_to" "Replica.message_to" sMsg f fd) (T : Txt K mg c) (GO : FnOk P w K mg base CX0 1 fO fdO ["self"] (spOwn c)) (bO : Binds K fdO ["self"] []) (mO : Meth K c.R "own_counts" fO)
    (MG : Mk K c.G fG) (GG : FnOk P w K mg base CX0 1 fG fdG ["self", "sender", "receiver", "counts", "clock", "moves"] (spMsgI c)) (bG : Binds K fdG ["self", "sender", "receiver", "counts", "clock", "moves"] []) : FnOk P w K mg base CX0 3 f fd ["self", "receiver"] (spMsg c) := by
  refine F.ok scMsg (fun vs H Q E h => ?_) (fun cdv A outer s H vs Q E hr h => ?_)
  · obtain ⟨W, A, k, x, R, n, all, j, rfl, _⟩ := h
    rfl
  · obtain ⟨W, B, k, x, R, n, all, j, rfl, C, M, hj, q⟩ := h
    refine ⟨_, pss_cons (ps_set (i := 2) scMsg.nd rfl (Or.inr rfl) (pe_ix ix_list (pe_fld (pv 0) rfl) (pv 1) (fun _ _ => rfl)))
      (pss_cons (ps_setLc (i := 3) (own := [("move", 5)]) (g := gName 5) (tt := tNewer K 5 2) rfl scMsg.nd rfl rfl (sw_true rfl rfl rfl (by decide +kernel)) (pi_list (pe_fld (pv 0) rfl)) (blkOk_by (N := ["self", "receiver", "known", "moves", "counts", "move"]) (sc := defScope sMsg) (by decide +kernel))
        (fun _ _ _ _ _ => pg_name (i := 5) scMsg.nd rfl (Or.inl rfl) (hf := Or.inr rfl))
        (fun _ _ _ _ _ => pts_one (pt_cmpR op_gt (pe_fld (pv 5) rfl) (pe_ix ix_list (pv 2) (pe_fld (pv 5) rfl) (fun _ _ => rfl)) (nomark _)))
        (fun _ _ _ _ _ => pv 5))
      (pss_cons (ps_set (i := 4) scMsg.nd rfl (Or.inl rfl) (pe_callTy call_list_of (by rfl) T.list (by decide +kernel) (pa_cons (pe_meth0 (pv 0) T.R.cl mO GO (hr.mono (by decide)) bO .nil pass0) pa_nil)))
      (pss_one (ps_ret (pe_make MG GG hr rfl T.gG bG .nil pass0 (pa_cons (pe_fld (pv 0) rfl) (pa_cons (pv 1) (pa_cons (pv 4) (pa_cons (pe_ix ix_list (pe_fld (pv 0) rfl) (pe_fld (pv 0) rfl) (fun _ _ => rfl)) (pa_cons (pv 3) pa_nil)))))))))), ?_⟩
    obtain ⟨rj, z, e1, e2, zl, e3, wrj⟩ := own_row C M hj
    refine ⟨_, rfl, fld C.hr T.R (i := 1) (by decide +kernel) rfl ⟨_, rfl, R.ac, _, _, .ref rj, rfl, rfl, SqL.of C.hc, atI_nat (by rw [List.getElem?_map, e1]; rfl), ?_⟩⟩
    refine ⟨_, rfl, fld C.hr T.R (i := 3) (by decide +kernel) rfl ⟨R.al, rfl, ⟨_, SqL.of C.hl⟩, fun D hD => lc_list (K := K) (a := R.al) (xs := x.kept.map fun d => .ref (B d))
      (fun i H' => Same H H' ∧ H' D = some (.lst (((x.kept.take i).filter fun d => !decide (d.n ≤ at_ z d.desk)).map fun d => .ref (B d)))) ⟨same_upd hD, upd_same⟩ (fun i H' _ ⟨s1, _⟩ => SqL.of (s1 _ _ C.hl)) ?_ ?_⟩⟩
    · rintro i v H1 hi ⟨s1, h1⟩
      rw [List.getElem?_map] at hi
      cases ed : x.kept[i]? with
      | none => rw [ed] at hi; cases hi
      | some d =>
        rw [ed] at hi
        cases hi
        have hd := List.mem_of_getElem? ed
        obtain ⟨dd, hm⟩ := (C.mv d hd).1.same s1
        have hdn : d.desk < z.length := by rw [zl]; exact M.hand d (M.D.sub d hd)
        refine ⟨rfl, ⟨_, rfl, fld hm T.M (i := 1) (by decide +kernel) rfl ⟨_, rfl, _, rfl, fld hm T.M (i := 0) (by decide +kernel) rfl ⟨rj, _, _, nV (at_ z d.desk), rfl, rfl, SqL.of (s1 _ _ e3), atI_nat (by rw [List.getElem?_map, at_get hdn]; rfl), _, _, rfl, rfl, _, rfl, ?_⟩⟩⟩⟩
        by_cases cc : d.n ≤ at_ z d.desk
        · refine iff_ (decide_eq_false (by omega)) ⟨s1, ?_⟩
          rw [filter_snocF (fun d : Deed => !decide (d.n ≤ at_ z d.desk)) ed (by rw [decide_eq_true cc]; rfl)]
          exact h1
        · refine ift (decide_eq_true (by omega)) ⟨_, rfl, _, h1, ?_, Same.upd' s1 hD, ?_⟩
          · rw [List.length_map]
            exact Nat.lt_of_le_of_lt (Nat.le_trans (filter_take_len _ _ _) M.few) (by decide)
          · rw [upd_same, filter_snocT (fun d : Deed => !decide (d.n ≤ at_ z d.desk)) ed (by rw [decide_eq_false cc]; rfl), List.map_append]
            rfl
    · rintro H1 ⟨s1, h1⟩
      rw [List.length_map, List.take_length] at h1
      have C1 : RepD c W B H1 k x R := C.same (fun _ _ _ => rfl) s1
      -- counts = list(self.own_counts())
      refine ⟨_, rfl, R.a, R.dx, _, rfl, C1.hr, fz_no (by decide +kernel), W, B, k, x, R, n, all, rfl, C1, M, fun r er hrow => ⟨r, _, rfl, .inl (SqL.of hrow), fun gc hgc => ?_⟩⟩
      have s2 : Same H (upd H1 gc (.lst (x.has.map nV))) := Same.upd' s1 (s1.free hgc)
      have C2 : RepD c W B (upd H1 gc (.lst (x.has.map nV))) k x R := C.same (fun _ _ _ => rfl) s2
      -- return Message(..)
      refine ⟨_, rfl, fld C2.hr T.R (i := 0) (by decide +kernel) rfl ⟨_, rfl, _, rfl, _, rfl, fld C2.hr T.R (i := 2) (by decide +kernel) rfl ⟨_, rfl, fld C2.hr T.R (i := 0) (by decide +kernel) rfl ⟨R.acl, _, _, nV x.clock, rfl, rfl, SqL.of C2.hcl, atI_nat (by rw [List.getElem?_map, clks_own M.D M.hk]; rfl), _, rfl, fun g dg ng ndg neg => ?_⟩⟩⟩⟩
      refine ⟨g, dg, gc, D, k, j, x.clock, rfl, upd_same, fun H3 hg kp => ⟨rfl, ?_⟩⟩
      have s3' : Same (upd H1 gc (.lst (x.has.map nV))) H3 := Same.made ng ndg kp
      have s3 : Same H H3 := s2.trans s3'
      have ncD : D ≠ gc := ne_of_none h1 hgc
      have hD2 := (upd_ne ncD (H := H1) (o := .lst (x.has.map nV))).trans h1
      have ngD : D ≠ g := ne_of_none hD2 ng
      have ngc : gc ≠ g := ne_of_none upd_same ng
      have g0 : H g = none := s2.free ng
      have gc0 : H gc = none := s1.free hgc
      refine q g (setW (setW (setW W D .fix) gc .fix) g .fix) H3 z e2 s3 (fun b o e => ?_) g0 ⟨⟨dg, gc, D, hg, ?_, ?_, sw_same, ?_, ?_⟩, fun d hd => ?_⟩
      · rw [sw_ne (ne_of_none e g0), sw_ne (ne_of_none e gc0), sw_ne (ne_of_none e hD)]
      · exact s3' _ _ upd_same
      · exact s3' _ _ hD2
      · rw [sw_ne ngc]
        exact sw_same
      · rw [sw_ne ngD, sw_ne ncD]
        exact sw_same
      · obtain ⟨e, w⟩ := C.mv d (List.mem_filter.mp hd).1
        refine ⟨e.same s3, ?_⟩
        obtain ⟨dd, e⟩ := e
        rw [sw_ne (ne_of_none e g0), sw_ne (ne_of_none e gc0), sw_ne (ne_of_none e hD)]
        exact w
end
end My
namespace My
open PySem hiding Place
open PySem.Spec PyProof.Rows L2
open Sq28 (Place Tree)
open Sq33 (Deed Desk House Letter Counts at_ most)
theorem perm_map_inv {α β : Type} (f : α → β) {ys m : List β} (p : ys.Perm m) : ∀ {l : List α}, l.map f = m → ∃ zs : List α, zs.Perm l ∧ ys = zs.map f := by
  induction p with
  | nil =>
    intro l e
    have : l = [] := by simpa using e
    subst this
    exact ⟨[], .nil, rfl⟩
  | cons x p ih =>
    intro l e
    cases l with
    | nil => cases e
    | cons a l =>
      rw [List.map_cons] at e
      injection e with e1 e2
      obtain ⟨zs, pz, ez⟩ := ih e2
      exact ⟨a :: zs, pz.cons a, by rw [List.map_cons, e1, ez]⟩
  | swap x y l =>
    intro l0 e
    cases l0 with
    | nil => cases e
    | cons a l0 =>
      cases l0 with
      | nil => cases e
      | cons b l0 =>
        rw [List.map_cons, List.map_cons] at e
        injection e with e1 e2
        injection e2 with e2 e3
        exact ⟨b :: a :: l0, List.Perm.swap a b l0, by rw [List.map_cons, List.map_cons, e1, e2, e3]⟩
  | trans p1 p2 ih1 ih2 =>
    intro l e
    obtain ⟨z2, q2, e2⟩ := ih2 e
    obtain ⟨z1, q1, e1⟩ := ih1 e2.symm
    exact ⟨z1, q1.trans q2, e1⟩
/-- a move's counter and replica, off the heap -/
def keyV (H : Hp) : V → Int × Int
  | .ref a => match H a with
    | some (.ins _ _ fs) => (match fs.lookup ("counter" : Str) with | some (.int i) => i | _ => 0, match fs.lookup ("origin" : Str) with | some (.int i) => i | _ => 0)
    | _ => (0, 0)
  | _ => (0, 0)
theorem keyV_eq {c : Cs} {H : Hp} {a : Addr} {d : Deed} (h : MovAt c H a d) : keyV H (.ref a) = ((d.move.stamp.count : Int), (d.desk : Int)) := by
  obtain ⟨dx, e⟩ := h
  have e1 : (fz mK (mV d)).lookup ("counter" : Str) = some (nV d.move.stamp.count) := fz_lk (i := 2) (by decide +kernel) rfl
  have e2 : (fz mK (mV d)).lookup ("origin" : Str) = some (nV d.desk) := fz_lk (i := 0) (by decide +kernel) rfl
  unfold keyV
  simp only [e, e1, e2]
  rfl
theorem lexB_bef {a b : Deed} (h : SrtO.lexB ((a.move.stamp.count : Int), (a.desk : Int)) ((b.move.stamp.count : Int), (b.desk : Int)) = false) : ¬ bef a b := by
  unfold SrtO.lexB at h
  unfold bef
  rw [before_iff]
  dsimp only at h
  by_cases c : (a.move.stamp.count : Int) = (b.move.stamp.count : Int)
  · rw [if_pos c] at h
    have := of_decide_eq_false h
    have h2 : a.desk = a.move.stamp.hand := rfl
    have h3 : b.desk = b.move.stamp.hand := rfl
    omega
  · rw [if_neg c] at h
    have := of_decide_eq_false h
    omega
def stepC (has : Counts) (cf : List Counts) (i : Nat) : List Counts := cf.set i (most ((cf[i]?).getD []) has)
def stepL (ck : Nat) (cl : List Nat) (i : Nat) : List Nat := cl.set i (max (at_ cl i) ck)
theorem stepC_ok {n : Nat} (has : Counts) : ∀ {l : List Nat} {cf : List Counts}, (∀ i ∈ l, i < n) → cf.length = n → (∀ z ∈ cf, z.length = n) → (l.foldl (stepC has) cf).length = n ∧ ∀ z ∈ l.foldl (stepC has) cf, z.length = n
  | [], cf, _, h1, h2 => ⟨h1, h2⟩
  | i :: l, cf, hl, h1, h2 => by
    refine stepC_ok has (l := l) (fun j hj => hl j (.tail _ hj)) ?_ ?_
    · unfold stepC
      rw [List.length_set, h1]
    · intro z hz
      unfold stepC at hz
      rcases List.mem_or_eq_of_mem_set hz with hz | hz
      · exact h2 z hz
      · have hi : i < cf.length := by rw [h1]; exact hl i (.head _)
        rw [hz, most_len', List.getElem?_eq_getElem hi]
        exact h2 _ (List.getElem_mem hi)
theorem stepL_ok {n : Nat} (ck : Nat) : ∀ {l : List Nat} {cl : List Nat}, cl.length = n → (l.foldl (stepL ck) cl).length = n
  | [], cl, h1 => h1
  | i :: l, cl, h1 => by
    refine stepL_ok ck (l := l) ?_
    unfold stepL
    rw [List.length_set, h1]
section
variable {c : Cs} {W W' : Roles} {A A' : Deed → Addr} {H H' : Hp} {k : Nat} {cf : List Counts} {cl : List Nat} {kept : List Deed} {bs : List Place} {gone : Nat} {R : RA}
/-- the log replaced -/
theorem RepC.log_put (h : RepC c W A H k cf cl kept bs gone R) {p : Addr} {zs : List Deed} (hp : H p = some (.lst (zs.map fun d => .ref (A d)))) (wp : W p = .log k) (mv : ∀ d ∈ zs, MovAt c H (A d) d ∧ W (A d) = .fix) :
    RepC c W A (upd H R.a (.ins c.R R.dx (fz rK [nV k, .ref R.ac, .ref R.acl, .ref p, .ref R.at_, nV gone]))) k cf cl zs bs gone { R with al := p } := by
  obtain ⟨dt, ht⟩ := h.ht.ob
  have s : ∀ {b o r}, H b = some o → W b = r → r ≠ .rep k → (upd H R.a (.ins c.R R.dx (fz rK [nV k, .ref R.ac, .ref R.acl, .ref p, .ref R.at_, nV gone]))) b = some o := fun e w q => by
    rw [upd_ne (rne w h.wr q)]
    exact e
  refine ⟨upd_same, h.wr, s h.hc h.wc nofun, h.wc, h.rl, fun j r u a b => ?_, s h.hcl h.wcl nofun, h.wcl, s hp wp nofun, wp, ⟨h.ht.ne, ⟨dt, s ht h.wt nofun⟩, s h.ht.hp h.wp nofun, s h.ht.hb h.wb nofun⟩, h.wt, h.wp, h.wb, h.tr, fun d hd => ?_⟩
  · obtain ⟨e1, w⟩ := h.row j r u a b
    exact ⟨s e1 w nofun, w⟩
  · obtain ⟨⟨dx, e⟩, w⟩ := mv d hd
    exact ⟨⟨dx, s e w nofun⟩, w⟩
/-- the number of compacted moves replaced -/
theorem RepC.gone_put (h : RepC c W A H k cf cl kept bs gone R) (v : Nat) :
    RepC c W A (upd H R.a (.ins c.R R.dx (fz rK [nV k, .ref R.ac, .ref R.acl, .ref R.al, .ref R.at_, nV v]))) k cf cl kept bs v R := by
  obtain ⟨dt, ht⟩ := h.ht.ob
  have s : ∀ {b o r}, H b = some o → W b = r → r ≠ .rep k → (upd H R.a (.ins c.R R.dx (fz rK [nV k, .ref R.ac, .ref R.acl, .ref R.al, .ref R.at_, nV v]))) b = some o := fun e w q => by
    rw [upd_ne (rne w h.wr q)]
    exact e
  refine ⟨upd_same, h.wr, s h.hc h.wc nofun, h.wc, h.rl, fun j r u a b => ?_, s h.hcl h.wcl nofun, h.wcl, s h.hl h.wl nofun, h.wl, ⟨h.ht.ne, ⟨dt, s ht h.wt nofun⟩, s h.ht.hp h.wp nofun, s h.ht.hb h.wb nofun⟩, h.wt, h.wp, h.wb, h.tr, fun d hd => ?_⟩
  · obtain ⟨e1, w⟩ := h.row j r u a b
    exact ⟨s e1 w nofun, w⟩
  · obtain ⟨⟨dx, e⟩, w⟩ := h.mv d hd
    exact ⟨⟨dx, s e w nofun⟩, w⟩
end
def spTake (c : Cs) : Sp := fun vs H Q _ => ∃ (W : Roles) (A : Deed → Addr) (k : Nat) (x : Desk) (R : RA) (n : Nat) (all : List Deed) (g : Addr) (m : Letter), vs = [.ref R.a, .ref g] ∧ RepD c W A H k x R ∧ RepM n all k x ∧ MsgAt c W A H g m ∧
  m.to = k ∧ m.from_ < n ∧ m.from_ ≠ m.to ∧ m.has.length = n ∧ (∀ d ∈ m.deeds, d ∈ all) ∧ m.deeds.length ≤ 80 ∧ Sorted (x.gets m).kept ∧ (x.gets m).kept.Perm (x.kept ++ newer x m) ∧
  ∀ (R' : RA) (W' : Roles) (H' : Hp), R'.a = R.a → RepD c W' A H' k (x.gets m) R' → Step W W' H H' k → Q (nV (newer x m).length) H'
/-- what the loop over the two places keeps -/
structure TakeI (c : Cs) (W : Roles) (A : Deed → Addr) (H : Hp) (k : Nat) (cf : List Counts) (cl : List Nat) (zs : List Deed) (bs : List Place) (gone : Nat) (R : RA) (tt D : Addr) (fr : List Deed) (places : List Nat) (W1 : Roles) (R1 : RA) (H1 : Hp) : Prop where
  a : R1.a = R.a
  ac : R1.ac = R.ac
  acl : R1.acl = R.acl
  rep : RepC c W1 A H1 k cf cl zs bs gone R1
  st : ∀ b o, H b = some o → W1 b = W b ∧ ((W b).own ≠ some k → H1 b = some o)
  ex : ∀ b o, H b = some o → ∃ o', H1 b = some o'
  tt : H1 tt = some (.tup (places.map nV))
  hd : H1 D = some (.lst (fr.map fun d => .ref (A d)))
end My
namespace My
open PySem hiding Place
open PySem.Spec PyProof.Rows L2
open Sq28 (Place Tree)
open Sq33 (Deed Desk House Letter Counts at_ most)
section
variable {P : Program} {w : World} {K : PySem.W.Frag} {mg : Str → Option Value} {base : Heap} {c : Cs}
theorem scTake : FnScope ["self", "message", "counts", "fresh", "place", "move"] ["self", "message"] (defScope sTake) := ⟨rfl, rfl, rfl, by decide +kernel, rfl, by decide +kernel, by decide +kernel⟩
theorem ok_take {f fO fS fL : Addr} {fd fdO fdS fdL : FuncData} (F : Fun K "take_in" "Replica.take_in" sTake f fd) (T : Txt K mg c) (GO : FnOk P w K mg base CX0 1 fO fdO ["self"] (spOwn c)) (bO : Binds K fdO ["self"] []) (mO : Meth K c.R "own_counts" fO)
    (GS : FnOk P w K mg base CX0 1 fS fdS ["move"] (spStamp c)) (bS : Binds K fdS ["move"] []) (gS : mg "timestamp" = some (.ref fS))
    (GL : FnOk P w K mg base CX0 1 fL fdL ["counts", "others"] spLarger) (bL : Binds K fdL ["counts", "others"] []) (gL : mg "larger_counts" = some (.ref fL)) (kL : PySem.W.keepIn K (.ref fL) = true) : FnOk P w K mg base CX0 4 f fd ["self", "message"] (spTake c) := by
  refine F.ok scTake (fun vs H Q E h => ?_) (fun cdv A outer s H vs Q E hr h => ?_)
  · obtain ⟨W, A, k, x, R, n, all, g, m, rfl, _⟩ := h
    rfl
  · obtain ⟨W, B, k, x, R, n, all, g, m, rfl, C, M, G, mto, mfr, mne, mhas, msub, mlen, ksort, kperm, q⟩ := h
    refine ⟨_, pss_cons (ps_set (i := 2) scTake.nd rfl (Or.inr rfl) (pe_meth0 (pv 0) T.R.cl mO GO (hr.mono (by decide)) bO .nil pass0))
      (pss_cons (ps_setLc (i := 3) (own := [("move", 5)]) (g := gName 5) (tt := tNewer K 5 2) rfl scTake.nd rfl rfl (sw_true rfl rfl rfl (by decide +kernel)) (pi_list (pe_fld (pv 1) rfl)) (blkOk_by (N := ["self", "message", "counts", "fresh", "place", "move"]) (sc := defScope sTake) (by decide +kernel))
        (fun _ _ _ _ _ => pg_name (i := 5) scTake.nd rfl (Or.inl rfl) (hf := Or.inr rfl))
        (fun _ _ _ _ _ => pts_one (pt_cmpR op_gt (pe_fld (pv 5) rfl) (pe_ix ix_list (pv 2) (pe_fld (pv 5) rfl) (fun _ _ => rfl)) (nomark _)))
        (fun _ _ _ _ _ => pv 5))
      (pss_cons (ps_fld (pv 0) (pe_callBK (cr_sortedBy GS bS hr) (by rfl) T.sorted (by decide +kernel) (pa_cons (pe_op op_cat (pe_fld (pv 0) rfl) (pv 3)) pa_nil) (pk_cons (pe_glob (v := .ref fS) rfl gS rfl) pk_nil)) rfl)
      (pss_cons (ps_for PassesOwn.never rfl (pi_tup (pe_tup (pa_cons (pe_fld (pv 0) rfl) (pa_cons (pe_fld (pv 1) rfl) pa_nil)))) (pg_name (i := 4) scTake.nd rfl (Or.inl rfl))
        (pss_cons (ps_asg (pe_call GL (hr.mono (by decide)) rfl gL kL bL .nil pass0 (pa_cons (pe_ix ix_list (pe_fld (pv 0) rfl) (pv 4) (fun _ _ => rfl)) (pa_cons (pe_fld (pv 1) rfl) pa_nil))) (pg_sub (pe_fld (pv 0) rfl) (pv 4) set_list))
        (pss_one (ps_asg (pe_callB (call_max2 rfl) (by rfl) T.max (by decide +kernel) (pa_cons (pe_ix ix_list (pe_fld (pv 0) rfl) (pv 4) (fun _ _ => rfl)) (pa_cons (pe_fld (pv 1) rfl) pa_nil))) (pg_sub (pe_fld (pv 0) rfl) (pv 4) set_list)))))
      (pss_one (ps_ret (pe_callB call_len_seq (by rfl) T.len PySem.boot_len (pa_cons (pv 3) pa_nil))))))), ?_⟩
    have hkn := M.hk
    subst mto
    obtain ⟨dg, gc, gm, hg, hgc, hgm, wg, wgc, wgm⟩ := G.ob
    have fixn : ∀ {b}, W b = .fix → (W b).own ≠ some m.to := fun e => by rw [e]; nofun
    -- counts = self.own_counts()
    refine ⟨_, rfl, R.a, R.dx, _, rfl, C.hr, fz_no (by decide +kernel), W, B, m.to, x, R, n, all, rfl, C, M, fun rk erk hrk => ?_⟩
    -- fresh = [..]
    refine ⟨_, rfl, fld hg T.G (i := 4) (by decide +kernel) rfl ⟨gm, rfl, ⟨_, SqL.of hgm⟩, fun D hD => lc_list (K := K) (a := gm) (xs := m.deeds.map fun d => .ref (B d))
      (fun i H' => Same H H' ∧ H' D = some (.lst (((m.deeds.take i).filter fun d => !x.was d).map fun d => .ref (B d)))) ⟨same_upd hD, upd_same⟩ (fun i H' _ ⟨s1, _⟩ => SqL.of (s1 _ _ hgm)) ?_ ?_⟩⟩
    · rintro i v H1 hi ⟨s1, h1⟩
      rw [List.getElem?_map] at hi
      cases ed : m.deeds[i]? with
      | none => rw [ed] at hi; cases hi
      | some d =>
        rw [ed] at hi
        cases hi
        have hd := List.mem_of_getElem? ed
        obtain ⟨dd, hm⟩ := (G.mv d hd).1.same s1
        have hdn : d.desk < x.has.length := by rw [M.D.has]; exact M.hand d (msub d hd)
        refine ⟨rfl, ⟨_, rfl, fld hm T.M (i := 1) (by decide +kernel) rfl ⟨_, rfl, _, rfl, fld hm T.M (i := 0) (by decide +kernel) rfl ⟨rk, _, _, nV (at_ x.has d.desk), rfl, rfl, SqL.of (s1 _ _ hrk), atI_nat (by rw [List.getElem?_map, at_get hdn]; rfl), _, _, rfl, rfl, _, rfl, ?_⟩⟩⟩⟩
        by_cases cc : d.n ≤ at_ x.has d.desk
        · refine iff_ (decide_eq_false (by omega)) ⟨s1, ?_⟩
          rw [filter_snocF (fun d : Deed => !x.was d) ed (by show (!decide (d.n ≤ at_ x.has d.desk)) = false; rw [decide_eq_true cc]; rfl)]
          exact h1
        · refine ift (decide_eq_true (by omega)) ⟨_, rfl, _, h1, ?_, Same.upd' s1 hD, ?_⟩
          · rw [List.length_map]
            exact Nat.lt_of_le_of_lt (Nat.le_trans (filter_take_len _ _ _) mlen) (by decide)
          · rw [upd_same, filter_snocT (fun d : Deed => !x.was d) ed (by show (!decide (d.n ≤ at_ x.has d.desk)) = true; rw [decide_eq_false cc]; rfl), List.map_append]
            rfl
    · rintro H1 ⟨s1, h1⟩
      rw [List.length_map, List.take_length] at h1
      have h1' : H1 D = some (.lst ((newer x m).map fun d => .ref (B d))) := h1
      have C1 : RepD c W B H1 m.to x R := C.same (fun _ _ _ => rfl) s1
      have nlen : (newer x m).length ≤ 80 := Nat.le_trans (List.length_filter_le _ _) mlen
      -- self.log = sorted(self.log + fresh, key=timestamp)
      refine ⟨_, rfl, fld C1.hr T.R (i := 3) (by decide +kernel) rfl ⟨_, rfl, R.al, D, _, _, rfl, rfl, C1.hl, h1', ?_, fun ca hca => ?_⟩⟩
      · rw [List.length_map, List.length_map]
        have := M.few
        exact Nat.le_trans (m := 160) (by omega) (by decide)
      have mv1 : ∀ d ∈ x.kept ++ newer x m, MovAt c H1 (B d) d ∧ W (B d) = .fix := fun d hd => by
        rcases List.mem_append.mp hd with hd | hd
        · exact C1.mv d hd
        · obtain ⟨a, b⟩ := G.mv d (List.mem_filter.mp hd).1
          exact ⟨a.same s1, b⟩
      have s2 : Same H1 (upd H1 ca (.lst ((x.kept.map fun d => V.ref (B d)) ++ ((newer x m).map fun d => V.ref (B d))))) := same_upd hca
      refine ⟨ca, (x.kept ++ newer x m).map (fun d => V.ref (B d)), keyV H1, rfl, rfl, SqL.of (by rw [upd_same, List.map_append]), fun y hy => ?_, fun y hy H2 ex => ?_, fun ys p H2 pm sr ex hp hp2 => ?_⟩
      · obtain ⟨d, _, rfl⟩ := List.mem_map.mp hy
        exact ⟨_, rfl⟩
      · obtain ⟨d, hd, rfl⟩ := List.mem_map.mp hy
        refine ⟨B d, d, rfl, ((mv1 d hd).1.same s2).same ex, fun t ht => ⟨t, rfl, same_upd ht, ?_⟩⟩
        rw [upd_same, keyV_eq (mv1 d hd).1]
        rfl
      obtain ⟨zs, pz, rfl⟩ := perm_map_inv _ pm rfl
      have ezs : zs = (x.gets m).kept := by
        refine sorted_is pz ?_ ksort kperm
        have sr' := (List.pairwise_map.mp sr)
        refine sr'.imp_of_mem fun {a b} ha hb h => ?_
        have ka := keyV_eq (mv1 a (pz.mem_iff.mp ha)).1
        have kb := keyV_eq (mv1 b (pz.mem_iff.mp hb)).1
        have h' : SrtO.lexB (keyV H1 (.ref (B b))) (keyV H1 (.ref (B a))) = false := h
        rw [ka, kb] at h'
        exact lexB_bef h'
      subst ezs
      have s3 : Same H H2 := fun b o e => ex b o (s2 _ _ (s1 _ _ e))
      have p0 : H p = none := by
        cases e : H p with
        | none => rfl
        | some o => rw [s2 _ _ (s1 _ _ e)] at hp; cases hp
      have hD2 : H2 D = some (.lst ((newer x m).map fun d => .ref (B d))) := ex _ _ (s2 _ _ h1')
      have C2 : RepD c (setW W p (.log m.to)) B H2 m.to x R := C.same (fun b o e => sw_old e p0) s3
      have mv2 : ∀ d ∈ (x.gets m).kept, MovAt c H2 (B d) d ∧ setW W p (.log m.to) (B d) = .fix := fun d hd => by
        obtain ⟨a, b⟩ := mv1 d (pz.mem_iff.mp hd)
        refine ⟨(a.same s2).same ex, ?_⟩
        have hx : ∃ o, H (B d) = some o := by
          rcases List.mem_append.mp (pz.mem_iff.mp hd) with hd | hd
          · exact (C.mv d hd).1.elim fun dx e => ⟨_, e⟩
          · exact (G.mv d (List.mem_filter.mp hd).1).1.elim fun dx e => ⟨_, e⟩
        obtain ⟨o, e⟩ := hx
        rw [sw_old e p0]
        exact b
      have C3 := C2.log_put hp2 sw_same mv2
      refine ⟨_, rfl, sfld C2.hr T.R (by decide +kernel) ?_⟩
      rw [fz_put (i := 3) (by decide +kernel) rfl]
      generalize hH3 : upd H2 R.a _ = H3
      have C3' : RepC c (setW W p (.log m.to)) B H3 m.to (conf x m.to) (clks x m.to) (x.gets m).kept x.base x.gone { R with al := p } := by rw [← hH3]; exact C3
      have k3 : ∀ b o, H2 b = some o → b ≠ R.a → H3 b = some o := fun b o e z => by rw [← hH3, upd_ne z]; exact e
      have D3 := k3 _ _ hD2 (fun z => by rw [z] at hD; rw [C.hr] at hD; cases hD)
      have st3 : ∀ b o, H b = some o → setW W p (.log m.to) b = W b ∧ ((W b).own ≠ some m.to → H3 b = some o) := fun b o e => ⟨sw_old e p0, fun z => k3 _ _ (s3 _ _ e) fun y => z (by rw [y, C.wr]; rfl)⟩
      have ex3 : ∀ b o, H b = some o → ∃ o', H3 b = some o' := fun b o e => by rw [← hH3]; exact upd_some (s3 _ _ e)
      have g3 := (st3 _ _ hg).2 (fixn wg)
      -- for place in (self.place, message.sender):
      refine ⟨_, rfl, fld C3'.hr T.R (i := 0) (by decide +kernel) rfl ⟨_, rfl, fld g3 T.G (i := 0) (by decide +kernel) rfl ⟨(by show 2 ≤ sizeLine; decide), fun tt htt => ?_⟩⟩⟩
      have hpl : ∀ i ∈ [m.to, m.from_], i < n := fun i hi => by
        rcases List.mem_cons.mp hi with rfl | hi
        · exact hkn
        · rw [List.mem_singleton.mp hi]
          exact mfr
      have nDa : D ≠ R.ac := (ne_of_none C.hc hD).symm
      have nDl : D ≠ R.acl := (ne_of_none C.hcl hD).symm
      refine ⟨tt, rfl, ⟨_, SqT.of upd_same⟩, for_tup (K := K) (a := tt) (xs := [m.to, m.from_].map nV)
        (fun i σ H4 => ∃ (W1 : Roles) (R1 : RA) (v4 : Option V), σ = [some (.ref R.a), some (.ref g), some (.ref rk), some (.ref D), v4, none] ∧
          TakeI c W B H m.to (([m.to, m.from_].take i).foldl (stepC m.has) (conf x m.to)) (([m.to, m.from_].take i).foldl (stepL m.clock) (clks x m.to)) (x.gets m).kept x.base x.gone R tt D (newer x m) [m.to, m.from_] W1 R1 H4)
        ⟨setW W p (.log m.to), { R with al := p }, none, rfl, rfl, rfl, rfl, C3'.same (fun _ _ _ => rfl) (same_upd htt), fun b o e => ⟨(st3 b o e).1, fun z => (same_upd htt) _ _ ((st3 b o e).2 z)⟩, fun b o e => ⟨_, (same_upd htt) _ _ (ex3 b o e).choose_spec⟩, upd_same, (same_upd htt) _ _ D3⟩
        (fun i σ H4 _ ⟨_, _, _, _, I⟩ => SqT.of I.tt) ?_ ?_⟩
      · rintro i v σ H4 hi ⟨W1, R1, v4, rfl, I⟩
        rw [List.getElem?_map] at hi
        cases epl : [m.to, m.from_][i]? with
        | none => rw [epl] at hi; cases hi
        | some pl =>
          rw [epl] at hi
          cases hi
          have hpn := hpl pl (List.mem_of_getElem? epl)
          obtain ⟨cl1, cr1⟩ := stepC_ok m.has (l := [m.to, m.from_].take i) (fun j hj => hpl j ((List.take_sublist _ _).subset hj)) (conf_len M.D m.to) (conf_rows M.D m.to)
          have ll1 := stepL_ok m.clock (l := [m.to, m.from_].take i) (clks_len M.D m.to)
          have ec : ([m.to, m.from_].take (i + 1)).foldl (stepC m.has) (conf x m.to) = stepC m.has (([m.to, m.from_].take i).foldl (stepC m.has) (conf x m.to)) pl := by rw [take_snoc epl, List.foldl_append]; rfl
          have el : ([m.to, m.from_].take (i + 1)).foldl (stepL m.clock) (clks x m.to) = stepL m.clock (([m.to, m.from_].take i).foldl (stepL m.clock) (clks x m.to)) pl := by rw [take_snoc epl, List.foldl_append]; rfl
          rw [ec, el]
          generalize ([m.to, m.from_].take i).foldl (stepC m.has) (conf x m.to) = cf at I cl1 cr1 ⊢
          generalize ([m.to, m.from_].take i).foldl (stepL m.clock) (clks x m.to) = cls at I ll1 ⊢
          obtain ⟨rr, err⟩ : ∃ rr, R1.rows[pl]? = some rr := ⟨_, List.getElem?_eq_getElem (by rw [I.rep.rl, cl1]; exact hpn)⟩
          obtain ⟨z, ez⟩ : ∃ z, cf[pl]? = some z := ⟨_, List.getElem?_eq_getElem (by rw [cl1]; exact hpn)⟩
          obtain ⟨hrr, wrr⟩ := I.rep.row pl rr z err ez
          have zl : z.length = n := cr1 z (List.mem_of_getElem? ez)
          have hra : H4 R.a = _ := I.a ▸ I.rep.hr
          have hg4 := (I.st _ _ hg).2 (fixn wg)
          have hgc4 := (I.st _ _ hgc).2 (fixn wgc)
          refine ⟨_, rfl, fld hra T.R (i := 1) (by decide +kernel) rfl ⟨_, rfl, R1.ac, _, _, .ref rr, rfl, rfl, SqL.of I.rep.hc, atI_nat (by rw [List.getElem?_map, err]; rfl), _, rfl, fld hg4 T.G (i := 2) (by decide +kernel) rfl
            ⟨rr, gc, z, m.has, rfl, hrr, hgc4, by rw [zl, mhas], by rw [zl]; have := M.n6; omega, fun np H5 s5 hnp hnp5 => ?_⟩⟩⟩
          have np0 : H np = none := by
            cases e : H np with
            | none => rfl
            | some o =>
              obtain ⟨o', e'⟩ := I.ex _ _ e
              rw [e'] at hnp
              cases hnp
          have hra5 := s5 _ _ hra
          have hpr : pl < R1.rows.length := by rw [I.rep.rl, cl1]; exact hpn
          refine ⟨_, rfl, fld hra5 T.R (i := 1) (by decide +kernel) rfl ⟨_, rfl, R1.ac, _, _, pl, rfl, rfl, s5 _ _ I.rep.hc, ixN_nat (by rw [List.length_map]; exact hpr), ?_⟩⟩
          have wnp : ∀ b o, H4 b = some o → setW W1 np (.row m.to pl) b = W1 b := fun b o e => sw_old e hnp
          have C5 : RepC c (setW W1 np (.row m.to pl)) B H5 m.to cf cls (x.gets m).kept x.base x.gone R1 := I.rep.same wnp s5
          have C6 := C5.conf_put hnp5 sw_same
          generalize hH6 : upd H5 R1.ac (.lst ((R1.rows.map V.ref).set pl (.ref np))) = H6 at C6 ⊢
          have k6 : ∀ {b o}, H5 b = some o → b ≠ R1.ac → H6 b = some o := fun e z => by rw [← hH6, upd_ne z]; exact e
          have nac : ∀ {b}, (W b).own ≠ some m.to → b ≠ R1.ac := fun z e => z (by rw [e, I.ac, C.wc]; rfl)
          have nacl : ∀ {b}, (W b).own ≠ some m.to → b ≠ R1.acl := fun z e => z (by rw [e, I.acl, C.wcl]; rfl)
          have hg6 := k6 (s5 _ _ hg4) (nac (fixn wg))
          have hra6 : H6 R.a = _ := I.a ▸ C6.hr
          have hcl6 := C6.hcl
          refine ⟨_, rfl, fld hra6 T.R (i := 2) (by decide +kernel) rfl ⟨_, rfl, R1.acl, _, _, nV (at_ cls pl), rfl, rfl, SqL.of hcl6, atI_nat (by rw [List.getElem?_map, at_get (by rw [ll1]; exact hpn)]; rfl), _, rfl, fld hg6 T.G (i := 3) (by decide +kernel) rfl
            ⟨_, _, rfl, ?_⟩⟩⟩
          refine ⟨_, rfl, fld hra6 T.R (i := 2) (by decide +kernel) rfl ⟨_, rfl, R1.acl, _, _, pl, rfl, rfl, hcl6, ixN_nat (by rw [List.length_map, ll1]; exact hpn), ?_⟩⟩
          have emax : V.int (if (m.clock : Int) > (at_ cls pl : Int) then (m.clock : Int) else (at_ cls pl : Int)) = nV (max (at_ cls pl) m.clock) := by
            unfold nV
            congr 1
            by_cases qq : at_ cls pl < m.clock
            · rw [if_pos (by omega), Nat.max_eq_right (by omega)]
            · rw [if_neg (by omega), Nat.max_eq_left (by omega)]
          have C7 := C6.clk_put pl (max (at_ cls pl) m.clock)
          rw [← emax] at C7
          have etake : (cf.set pl (most z m.has)) = stepC m.has cf pl := by unfold stepC; rw [ez]; rfl
          rw [etake] at C7
          refine ⟨_, { R1 with rows := R1.rows.set pl np }, some (nV pl), rfl, ⟨I.a, I.ac, I.acl, C7, fun b o e => ⟨?_, fun zz => ?_⟩, fun b o e => ?_, ?_, ?_⟩⟩
          · rw [sw_old e np0]
            exact (I.st b o e).1
          · rw [upd_ne (nacl zz)]
            exact k6 (s5 _ _ ((I.st b o e).2 zz)) (nac zz)
          · obtain ⟨o', e'⟩ := I.ex b o e
            have e5 := s5 _ _ e'
            obtain ⟨o6, e6⟩ : ∃ o', H6 b = some o' := by rw [← hH6]; exact upd_some e5
            exact upd_some e6
          · rw [upd_ne (ne_of (k6 (s5 _ _ I.tt) (ne_of (s5 _ _ I.tt) C5.hc (by intro z; cases z))) hcl6 (by intro z; cases z))]
            exact k6 (s5 _ _ I.tt) (ne_of (s5 _ _ I.tt) C5.hc (by intro z; cases z))
          · rw [upd_ne (by rw [I.acl]; exact nDl)]
            exact k6 (s5 _ _ I.hd) (by rw [I.ac]; exact nDa)
      · rintro σ H4 ⟨W1, R1, v4, rfl, I⟩
        -- return len(fresh)
        refine ⟨_, rfl, D, _, rfl, .inl (SqL.of I.hd), ?_⟩
        rw [List.length_map]
        refine q R1 W1 H4 I.a ?_ ⟨fun b o e => (I.st b o e).1, fun b o e z => (I.st b o e).2 z, I.ex⟩
        have hrep := I.rep
        rw [List.length_map] at hrep
        obtain ⟨cc, hcc, ecc⟩ := conf_gets M.D mne mfr
        obtain ⟨lc, hlc, elc⟩ := clks_gets M.D mne mfr
        show RepC c W1 B H4 m.to (conf (x.gets m) m.to) (clks (x.gets m) m.to) (x.gets m).kept x.base x.gone R1
        rw [ecc, elc]
        have e1 : ([m.to, m.from_].take [m.to, m.from_].length).foldl (stepC m.has) (conf x m.to) = ((conf x m.to).set m.to (most x.has m.has)).set m.from_ (most cc m.has) := by
          show stepC m.has (stepC m.has (conf x m.to) m.to) m.from_ = _
          unfold stepC
          rw [conf_own M.D hkn, List.getElem?_set, if_neg (fun z => mne z.symm), hcc]
          rfl
        have e2 : ([m.to, m.from_].take [m.to, m.from_].length).foldl (stepL m.clock) (clks x m.to) = ((clks x m.to).set m.to (max x.clock m.clock)).set m.from_ (max lc m.clock) := by
          show stepL m.clock (stepL m.clock (clks x m.to) m.to) m.from_ = _
          unfold stepL at_
          rw [clks_own M.D hkn, List.getElem?_set, if_neg (fun z => mne z.symm), hlc]
          rfl
        rw [e1, e2] at hrep
        exact hrep
end
end My
namespace My
open PySem hiding Place
open PySem.Spec PyProof.Rows L2
open Sq28 (Place Tree)
open Sq33 (Deed Desk House Letter Counts at_ most)
def confB (x : Desk) (k : Nat) (d : Deed) : Bool := (conf x k).all fun z => decide (d.n ≤ at_ z d.desk)
def ripeB (x : Desk) (k m : Nat) (d : Deed) : Bool := confB x k d && decide (d.move.stamp.count ≤ m)
def IsRipe (x : Desk) (k : Nat) (l : List Deed) : Prop := ∀ m, m ∈ clks x k → (∀ y ∈ clks x k, m ≤ y) → l = x.kept.takeWhile (ripeB x k m)
def spConf (c : Cs) : Sp := fun vs H Q _ => ∃ (W : Roles) (A : Deed → Addr) (k : Nat) (x : Desk) (R : RA) (n : Nat) (all : List Deed) (a : Addr) (d : Deed), vs = [.ref R.a, .ref a] ∧ RepD c W A H k x R ∧ RepM n all k x ∧ MovAt c H a d ∧ d.desk < n ∧
  ∀ H' : Hp, Same H H' → Q (.bl (confB x k d)) H'
def spCmp (c : Cs) : Sp := fun vs H Q _ => ∃ (W : Roles) (A : Deed → Addr) (k : Nat) (x : Desk) (R : RA) (n : Nat) (all l : List Deed), vs = [.ref R.a] ∧ RepD c W A H k x R ∧ RepM n all k x ∧ IsRipe x k l ∧
  ∀ (p : Addr) (H' : Hp), Same H H' → H p = none → H' p = some (.lst (l.map fun d => .ref (A d))) → Q (.ref p) H'
def spComp (c : Cs) : Sp := fun vs H Q _ => ∃ (W : Roles) (A : Deed → Addr) (k : Nat) (x : Desk) (R : RA) (n : Nat) (all l : List Deed), vs = [.ref R.a] ∧ RepD c W A H k x R ∧ RepM n all k x ∧ IsRipe x k l ∧
  ∀ (p : Addr) (R' : RA) (W' : Roles) (H' : Hp), R'.a = R.a → RepD c W' A H' k (x.forgets l) R' → Step W W' H H' k → H p = none → W' p = .oth → H' p = some (.lst [nV l.length, nV (x.gone + l.length)]) → Q (.ref p) H'
section
variable {c : Cs} {W W' : Roles} {A A' : Deed → Addr} {H H' : Hp} {k : Nat} {cf : List Counts} {cl : List Nat} {kept : List Deed} {bs bs' : List Place} {gone : Nat} {R : RA}
/-- the snapshot's dicts changed -/
theorem RepC.tree_put (h : RepC c W A H k cf cl kept bs gone R) {T' : List Place} (t : TreeAt c H' R.at_ R.ap R.ab T') (tr : Tr T' bs') (hf : ∀ b o, H b = some o → b ≠ R.ap → b ≠ R.ab → H' b = some o) :
    RepC c W A H' k cf cl kept bs' gone { R with T := T' } := by
  have s : ∀ {b o r}, H b = some o → W b = r → r ≠ .par k → r ≠ .labs k → H' b = some o := fun e w q1 q2 => hf _ _ e (rne w h.wp q1) (rne w h.wb q2)
  refine ⟨s h.hr h.wr nofun nofun, h.wr, s h.hc h.wc nofun nofun, h.wc, h.rl, fun j r u a b => ?_, s h.hcl h.wcl nofun nofun, h.wcl, s h.hl h.wl nofun nofun, h.wl, t, h.wt, h.wp, h.wb, tr, fun d hd => ?_⟩
  · obtain ⟨e1, w⟩ := h.row j r u a b
    exact ⟨s e1 w nofun nofun, w⟩
  · obtain ⟨⟨dx, e⟩, w⟩ := h.mv d hd
    exact ⟨⟨dx, s e w nofun nofun⟩, w⟩
end
theorem cut_drop (xs : List V) {n : Nat} (h : n ≤ xs.length) : cutV xs (some (n : Int)) none = xs.drop n := by
  unfold cutV
  rw [HT.sIx_nat, HT.sIx_none, Nat.min_eq_left h, List.take_of_length_le]
  rw [List.length_drop]
  exact Nat.le_refl _
theorem clks_min {n : Nat} {all : List Deed} {k : Nat} {x : Desk} (M : RepM n all k x) : ∃ m, m ∈ clks x k ∧ ∀ y ∈ clks x k, m ≤ y := by
  have : ∀ l : List Nat, l ≠ [] → ∃ m, m ∈ l ∧ ∀ y ∈ l, m ≤ y := by
    intro l
    induction l with
    | nil => exact fun h => (h rfl).elim
    | cons a l ih =>
      intro _
      cases l with
      | nil => exact ⟨a, .head _, fun y hy => by rw [List.mem_singleton.mp hy]; exact Nat.le_refl _⟩
      | cons b l =>
        obtain ⟨m, hm, hl⟩ := ih (by simp)
        by_cases c : a ≤ m
        · refine ⟨a, .head _, fun y hy => ?_⟩
          rcases List.mem_cons.mp hy with rfl | hy
          · exact Nat.le_refl _
          · exact Nat.le_trans c (hl y hy)
        · refine ⟨m, .tail _ hm, fun y hy => ?_⟩
          rcases List.mem_cons.mp hy with rfl | hy
          · omega
          · exact hl y hy
  refine this _ fun e => ?_
  have := clks_len M.D k
  have := M.hk
  rw [e] at *
  simp at *
  omega
section
variable {P : Program} {w : World} {K : PySem.W.Frag} {mg : Str → Option Value} {base : Heap} {c : Cs}
theorem scConf : FnScope ["self", "move", "counts"] ["self", "move"] (defScope sConf) := ⟨rfl, rfl, rfl, by decide +kernel, rfl, by decide +kernel, by decide +kernel⟩
theorem ok_conf {f : Addr} {fd : FuncData} (F : Fun K "is_confirmed" "Replica.is_confirmed" sConf f fd) (T : Txt K mg c) : FnOk P w K mg base CX0 1 f fd ["self", "move"] (spConf c) := by
  refine F.ok scConf (fun vs H Q E h => ?_) (fun cdv A outer s H vs Q E hr h => ?_)
  · obtain ⟨W, A, k, x, R, n, all, a, d, rfl, _⟩ := h
    rfl
  · obtain ⟨W, B, k, x, R, n, all, a, d, rfl, C, M, ⟨dm, hm⟩, hdn, q⟩ := h
    refine ⟨_, pss_one (ps_ret (pe_callB (cr_all rfl) (by rfl) T.all (by decide +kernel) (pa_cons
      (pe_lc (own := [("counts", 2)]) (g := gName 2) (te := tOp (rI0 fun i j => .bl (decide (i ≤ j))) (tFld K (tVar 1) "number") (tOp (rIxL K) (tVar 2) (tFld K (tVar 1) "origin"))) rfl scConf.nd (pi_list (pe_fld (pv 0) rfl)) (blkOk_by (N := ["self", "move", "counts"]) (sc := defScope sConf) (by decide +kernel))
        (fun _ _ _ _ _ => pg_name (i := 2) scConf.nd rfl (Or.inl rfl) (hf := Or.inr rfl)) (fun _ _ _ _ _ => pts_nil)
        (fun _ _ _ _ _ => pe_cmpR op_le (pe_fld (pv 1) rfl) (pe_ix ix_list (pv 2) (pe_fld (pv 1) rfl) (fun _ _ => rfl)) (nomark _))) pa_nil))), ?_⟩
    refine ⟨_, rfl, fld C.hr T.R (i := 1) (by decide +kernel) rfl ⟨R.ac, rfl, ⟨_, SqL.of C.hc⟩, fun D hD => lc_list (K := K) (a := R.ac) (xs := R.rows.map V.ref)
      (fun i H' => Same H H' ∧ H' D = some (.lst (((conf x k).take i).map fun z => V.bl (decide (d.n ≤ at_ z d.desk))))) ⟨same_upd hD, upd_same⟩ (fun i H' _ ⟨s1, _⟩ => SqL.of (s1 _ _ C.hc)) ?_ ?_⟩⟩
    · rintro i v H1 hi ⟨s1, h1⟩
      rw [List.getElem?_map] at hi
      cases er : R.rows[i]? with
      | none => rw [er] at hi; cases hi
      | some r =>
        rw [er] at hi
        cases hi
        obtain ⟨z, ez⟩ : ∃ z, (conf x k)[i]? = some z := ⟨_, List.getElem?_eq_getElem (by rw [← C.rl]; exact (List.getElem?_eq_some_iff.mp er).1)⟩
        obtain ⟨e3, _⟩ := C.row i r z er ez
        have hz := conf_rows M.D k z (List.mem_of_getElem? ez)
        refine ⟨rfl, ⟨_, rfl, fld (s1 _ _ hm) T.M (i := 1) (by decide +kernel) rfl ⟨_, rfl, _, rfl, fld (s1 _ _ hm) T.M (i := 0) (by decide +kernel) rfl ⟨r, _, _, nV (at_ z d.desk), rfl, rfl, SqL.of (s1 _ _ e3), atI_nat (by rw [List.getElem?_map, at_get (by rw [hz]; exact hdn)]; rfl), _, _, rfl, rfl, _, h1, ?_, Same.upd' s1 hD, ?_⟩⟩⟩⟩
        · rw [List.length_map]
          have h2 := (List.take_sublist i (conf x k)).length_le
          have h3 := conf_len M.D k
          have h4 := M.n6
          exact Nat.lt_of_le_of_lt (m := 6) (by omega) (by decide)
        · rw [upd_same, take_snoc ez, List.map_append]
          have e : decide ((d.n : Int) ≤ (at_ z d.desk : Int)) = decide (d.n ≤ at_ z d.desk) := decide_eq_decide.mpr (by omega)
          show some (HO.lst (_ ++ [V.bl (decide ((d.n : Int) ≤ (at_ z d.desk : Int)))])) = _
          rw [e]
          rfl
    · rintro H1 ⟨s1, h1⟩
      rw [List.length_map, C.rl, List.take_length] at h1
      refine ⟨D, (conf x k).map fun z => decide (d.n ≤ at_ z d.desk), rfl, SqL.of (by rw [List.map_map]; exact h1), ?_⟩
      have e : ((conf x k).map fun z => decide (d.n ≤ at_ z d.desk)).all id = confB x k d := by rw [List.all_map]; rfl
      rw [e]
      exact q H1 s1
theorem scCmp : FnScope ["self", "horizon", "moves", "move"] ["self"] (defScope sCmp) := ⟨rfl, rfl, rfl, by decide +kernel, rfl, by decide +kernel, by decide +kernel⟩
theorem ok_cmp {f fH fC : Addr} {fd fdH fdC : FuncData} (F : Fun K "compactable_moves" "Replica.compactable_moves" sCmp f fd) (T : Txt K mg c) (GH : FnOk P w K mg base CX0 1 fH fdH ["self"] (spHor c)) (bH : Binds K fdH ["self"] []) (mH : Meth K c.R "horizon" fH)
    (GC : FnOk P w K mg base CX0 1 fC fdC ["self", "move"] (spConf c)) (bC : Binds K fdC ["self", "move"] []) (mC : Meth K c.R "is_confirmed" fC) : FnOk P w K mg base CX0 2 f fd ["self"] (spCmp c) := by
  refine F.ok scCmp (fun vs H Q E h => ?_) (fun cdv A outer s H vs Q E hr h => ?_)
  · obtain ⟨W, A, k, x, R, n, all, l, rfl, _⟩ := h
    rfl
  · obtain ⟨W, B, k, x, R, n, all, l, rfl, C, M, hl, q⟩ := h
    refine ⟨_, pss_cons (ps_set (i := 1) scCmp.nd rfl (Or.inl rfl) (pe_meth0 (pv 0) T.R.cl mH GH hr bH .nil pass0))
      (pss_cons (ps_set (i := 2) scCmp.nd rfl (Or.inl rfl) (pe_lst pa_nil))
      (pss_cons (ps_for PassesOwn.never rfl (pi_list (pe_fld (pv 0) rfl)) (pg_name (i := 3) scCmp.nd rfl (Or.inl rfl))
        (pss_cons (ps_if (PW.pt (pw_or (pt_cmpR op_gt (pe_fld (pv 3) rfl) (pv 1) (nomark _)) (pw_or1 (pt_not (pt_val (pe_meth (pv 0) T.R.cl mC GC hr bC .nil pass0 (pa_cons (pv 3) pa_nil))))))) (pss_one ps_break) pss_nil)
        (pss_one (ps_expr (pe_bm PySem.F.plainAttrs_list PySem.F.slot_list_append PySem.F.type_list_append mt_append (pv 2) (pa_cons (pv 3) pa_nil))))))
      (pss_one (ps_ret (pv 2))))), ?_⟩
    refine ⟨_, rfl, R.a, R.dx, _, rfl, C.hr, fz_no (by decide +kernel), W, B, k, x, R, n, all, rfl, C, M, fun m hm hmin => ?_⟩
    have hl' := hl m hm hmin
    refine ⟨Nat.zero_le _, fun p hp => ?_⟩
    have s0 : Same H (upd H p (.lst [])) := same_upd hp
    refine ⟨_, rfl, fld (s0 _ _ C.hr) T.R (i := 3) (by decide +kernel) rfl ⟨R.al, rfl, ⟨_, SqL.of (s0 _ _ C.hl)⟩, for_list (K := K) (a := R.al) (xs := x.kept.map fun d => .ref (B d))
      (fun i σ H1 => ∃ v : Option V, σ = [some (.ref R.a), some (nV m), some (.ref p), v] ∧ Same H H1 ∧ H1 p = some (.lst ((x.kept.take i).map fun d => .ref (B d))) ∧ ∀ y ∈ x.kept.take i, ripeB x k m y = true)
      ⟨none, rfl, s0, upd_same, fun y hy => by simp at hy⟩ (fun i σ H1 _ ⟨_, _, s1, _⟩ => SqL.of (s1 _ _ C.hl)) ?_ ?_⟩⟩
    · rintro i v σ H1 hi ⟨_, rfl, s1, h1, hall⟩
      rw [List.getElem?_map] at hi
      cases ed : x.kept[i]? with
      | none => rw [ed] at hi; cases hi
      | some d =>
        rw [ed] at hi
        cases hi
        have hd := List.mem_of_getElem? ed
        obtain ⟨dd, hmv⟩ := (C.mv d hd).1.same s1
        obtain ⟨tw1, tw2⟩ := takeWhile_step (ripeB x k m) ed hall
        have stop : ripeB x k m d = false → ∀ H2, Same H1 H2 → Q (.ref p) H2 := fun e H2 s2 => q p H2 (s1.trans s2) hp (by rw [hl', tw2 e]; exact s2 _ _ h1)
        refine ⟨_, rfl, fld hmv T.M (i := 2) (by decide +kernel) rfl ⟨_, rfl, _, _, rfl, rfl, _, rfl, ?_⟩⟩
        by_cases cc : m < d.move.stamp.count
        · refine ift (decide_eq_true (show (m : Int) < (d.move.stamp.count : Int) by omega)) ?_
          refine ift rfl ⟨_, rfl, stop ?_ H1 (Same.refl _)⟩
          unfold ripeB
          rw [decide_eq_false (show ¬ d.move.stamp.count ≤ m by omega), Bool.and_false]
        · refine iff_ (decide_eq_false (show ¬ (m : Int) < (d.move.stamp.count : Int) by omega)) ?_
          refine ⟨_, rfl, R.a, R.dx, _, rfl, s1 _ _ C.hr, fz_no (by decide +kernel), _, rfl, W, B, k, x, R, n, all, B d, d, rfl, C.same (fun _ _ _ => rfl) s1, M, ⟨dd, hmv⟩, M.hand d (M.D.sub d hd), fun H2 s2 => ⟨_, rfl, ?_⟩⟩
          have er : ripeB x k m d = confB x k d := by
            unfold ripeB
            rw [decide_eq_true (show d.move.stamp.count ≤ m by omega), Bool.and_true]
          by_cases cb : confB x k d = true
          · refine iff_ (by rw [cb]; rfl) ?_
            refine ⟨_, rfl, .inl ⟨rfl, _, SqL.of (s2 _ _ h1)⟩, _, rfl, p, _, _, rfl, rfl, s2 _ _ h1, ?_, ⟨_, rfl, Same.upd' (s1.trans s2) hp, ?_, tw1 (by rw [er]; exact cb)⟩⟩
            · rw [List.length_map]
              exact Nat.lt_of_le_of_lt (Nat.le_trans (List.take_sublist _ _).length_le M.few) (by decide)
            · rw [upd_same, take_snoc ed, List.map_append]
              rfl
          · have cb' : confB x k d = false := by simpa using cb
            refine ift (by rw [cb']; rfl) ⟨_, rfl, stop (by rw [er]; exact cb') H2 s2⟩
    · rintro σ H1 ⟨_, rfl, s1, h1, hall⟩
      rw [List.length_map, List.take_length] at h1 hall
      refine ⟨_, rfl, q p H1 s1 hp ?_⟩
      rw [hl', takeWhile_all _ hall]
      exact h1
theorem scComp : FnScope ["self", "moves", "move"] ["self"] (defScope sComp) := ⟨rfl, rfl, rfl, by decide +kernel, rfl, by decide +kernel, by decide +kernel⟩
theorem ok_comp {f fC fA : Addr} {fd fdC fdA : FuncData} (F : Fun K "compact_log" "Replica.compact_log" sComp f fd) (T : Txt K mg c) (GC : FnOk P w K mg base CX0 2 fC fdC ["self"] (spCmp c)) (bC : Binds K fdC ["self"] []) (mC : Meth K c.R "compactable_moves" fC)
    (GA : FnOk P w K mg base CX0 2 fA fdA ["self", "move"] (spApply c)) (bA : Binds K fdA ["self", "move"] []) (mA : Meth K c.T "apply" fA) : FnOk P w K mg base CX0 3 f fd ["self"] (spComp c) := by
  refine F.ok scComp (fun vs H Q E h => ?_) (fun cdv A outer s H vs Q E hr h => ?_)
  · obtain ⟨W, A, k, x, R, n, all, l, rfl, _⟩ := h
    rfl
  · obtain ⟨W, B, k, x, R, n, all, l, rfl, C, M, hl, q⟩ := h
    refine ⟨_, pss_cons (ps_set (i := 1) scComp.nd rfl (Or.inl rfl) (pe_meth0 (pv 0) T.R.cl mC GC hr bC .nil pass0))
      (pss_cons (ps_for PassesOwn.never rfl (pi_list (pv 1)) (pg_name (i := 2) scComp.nd rfl (Or.inl rfl))
        (pss_one (ps_expr (pe_meth (pe_fld (pv 0) rfl) T.T.cl mA GA hr bA .nil pass0 (pa_cons (pv 2) pa_nil)))))
      (pss_cons (ps_fld (pv 0) (pe_slice sl_list (pe_fld (pv 0) rfl) (po_some (pe_callB call_len_seq (by rfl) T.len PySem.boot_len (pa_cons (pv 1) pa_nil))) po_none) rfl)
      (pss_cons (ps_fldaug (pv 0) (pe_callB call_len_seq (by rfl) T.len PySem.boot_len (pa_cons (pv 1) pa_nil)) in_add)
      (pss_one (ps_ret (pe_lst (pa_cons (pe_callB call_len_seq (by rfl) T.len PySem.boot_len (pa_cons (pv 1) pa_nil)) (pa_cons (pe_fld (pv 0) rfl) pa_nil)))))))), ?_⟩
    refine ⟨_, rfl, R.a, R.dx, _, rfl, C.hr, fz_no (by decide +kernel), W, B, k, x, R, n, all, l, rfl, C, M, hl, fun p H1 s1 hp hp1 => ?_⟩
    obtain ⟨m0, hm0, hmin0⟩ := clks_min M
    have el := hl m0 hm0 hmin0
    have lpre : l.length ≤ x.kept.length := by rw [el]; exact (List.takeWhile_sublist _).length_le
    have lsub : ∀ d ∈ l, d ∈ x.kept := fun d hd => by rw [el] at hd; exact (List.takeWhile_sublist _).subset hd
    have nac : ∀ {b}, W b ≠ .par k → W b ≠ .labs k → ∀ R1 : RA, R1.ap = R.ap → R1.ab = R.ab → b ≠ R1.ap ∧ b ≠ R1.ab := fun z1 z2 R1 e1 e2 => ⟨fun e => z1 (by rw [e, e1, C.wp]), fun e => z2 (by rw [e, e2, C.wb])⟩
    have npp : p ≠ R.ap := (ne_of_none C.ht.hp hp).symm
    have npb : p ≠ R.ab := (ne_of_none C.ht.hb hp).symm
    -- for move in moves: self.snapshot.apply(move)
    refine ⟨_, rfl, p, rfl, ⟨_, SqL.of hp1⟩, for_list (K := K) (a := p) (xs := l.map fun d => .ref (B d))
      (fun i σ H2 => ∃ (v : Option V) (T1 : List Place), σ = [some (.ref R.a), some (.ref p), v] ∧ RepC c W B H2 k (conf x k) (clks x k) x.kept (((l.take i).map fun d => d.move).foldl Sq28.done x.base) x.gone { R with T := T1 } ∧
        (∀ b o, H b = some o → (W b).own ≠ some k → H2 b = some o) ∧ (∀ b o, H b = some o → ∃ o', H2 b = some o') ∧ H2 p = some (.lst (l.map fun d => .ref (B d))))
      ⟨none, R.T, rfl, C.same (fun _ _ _ => rfl) s1, fun b o e _ => s1 b o e, fun b o e => ⟨o, s1 b o e⟩, hp1⟩ (fun i σ H2 _ ⟨_, _, _, _, _, _, e⟩ => SqL.of e) ?_ ?_⟩
    · rintro i v σ H2 hi ⟨_, T1, rfl, C2, f2, x2, p2⟩
      rw [List.getElem?_map] at hi
      cases ed : l[i]? with
      | none => rw [ed] at hi; cases hi
      | some d =>
        rw [ed] at hi
        cases hi
        have hd := lsub d (List.mem_of_getElem? ed)
        obtain ⟨dt, ht⟩ := C2.ht.ob
        refine ⟨_, rfl, fld C2.hr T.R (i := 4) (by decide +kernel) rfl ⟨R.at_, dt, _, rfl, ht, fz_no (by decide +kernel), _, rfl, R.at_, R.ap, R.ab, B d, T1, d, rfl, C2.ht, (C2.mv d hd).1, C2.tr.okT, fun H3 t3 k3 => ?_⟩⟩
        have tr3 := C2.tr.done (M.thing d hd).1 (M.thing d hd).2
        refine ⟨_, doneT T1 d.move, rfl, ?_, fun b o e z => k3 b o (f2 b o e z) (fun y => z (by rw [y, C.wp]; rfl)) (fun y => z (by rw [y, C.wb]; rfl)), fun b o e => ?_, k3 _ _ p2 npp npb⟩
        · have := C2.tree_put t3 tr3 k3
          rw [take_snoc ed, List.map_append, List.foldl_append]
          exact this
        · obtain ⟨o', e'⟩ := x2 b o e
          by_cases c1 : b = R.ap
          · exact ⟨_, by rw [c1]; exact t3.hp⟩
          · by_cases c2 : b = R.ab
            · exact ⟨_, by rw [c2]; exact t3.hb⟩
            · exact ⟨_, k3 _ _ e' c1 c2⟩
    · rintro σ H2 ⟨_, T1, rfl, C2, f2, x2, p2⟩
      rw [List.length_map, List.take_length] at C2
      -- self.log = self.log[len(moves):]
      refine ⟨_, rfl, fld C2.hr T.R (i := 3) (by decide +kernel) rfl ⟨_, rfl, p, _, rfl, .inl (SqL.of p2), _, rfl, R.al, _, rfl, SqL.of C2.hl, fun np hnp => ?_⟩⟩
      rw [List.length_map, cut_drop _ (by rw [List.length_map]; exact lpre)]
      have np0 : H np = none := by
        cases e : H np with
        | none => rfl
        | some o =>
          obtain ⟨o', e'⟩ := x2 _ _ e
          rw [e'] at hnp
          cases hnp
      generalize hH3 : upd H2 np _ = H3
      have hnp3 : H3 np = some (.lst ((x.kept.drop l.length).map fun d => .ref (B d))) := by rw [← hH3, upd_same, List.map_drop]
      have s3 : Same H2 H3 := by rw [← hH3]; exact same_upd hnp
      have C3 : RepC c (setW W np (.log k)) B H3 k _ _ x.kept _ x.gone { R with T := T1 } := C2.same (W' := setW W np (.log k)) (fun b o e => sw_old e hnp) s3
      refine ⟨_, rfl, sfld C3.hr T.R (by decide +kernel) ?_⟩
      rw [fz_put (i := 3) (by decide +kernel) rfl]
      generalize hH4 : upd H3 R.a _ = H4
      have C4 : RepC c (setW W np (.log k)) B H4 k (conf x k) (clks x k) (x.kept.drop l.length) ((l.map fun d => d.move).foldl Sq28.done x.base) x.gone { R with T := T1, al := np } := by
        rw [← hH4]
        exact C3.log_put (zs := x.kept.drop l.length) hnp3 sw_same fun d hd => C3.mv d ((List.drop_sublist _ _).subset hd)
      have npa : p ≠ R.a := (ne_of_none C.hr hp).symm
      have p4 : H4 p = some (.lst (l.map fun d => .ref (B d))) := by rw [← hH4, upd_ne npa]; exact s3 _ _ p2
      -- self.compacted += len(moves)
      refine ⟨_, rfl, R.a, c.R, R.dx, _, _, rfl, C4.hr, T.R.cl, T.R.no _ (by decide +kernel), fz_lk (i := 5) (by decide +kernel) rfl, _, rfl, p, _, rfl, .inl (SqL.of p4), _, _, rfl, rfl, R.dx, _, C4.hr, Nat.lt_of_le_of_lt (fz_len _ _) (by decide), ?_⟩
      rw [fz_put (i := 5) (by decide +kernel) rfl, List.length_map]
      generalize hH5 : upd H4 R.a _ = H5
      have C5 : RepC c (setW W np (.log k)) B H5 k (conf x k) (clks x k) (x.kept.drop l.length) ((l.map fun d => d.move).foldl Sq28.done x.base) (x.gone + l.length) { R with T := T1, al := np } := by
        rw [← hH5]
        exact C4.gone_put (x.gone + l.length)
      have p5 : H5 p = some (.lst (l.map fun d => .ref (B d))) := by rw [← hH5, upd_ne npa]; exact p4
      -- return [len(moves), self.compacted]
      refine ⟨_, rfl, p, _, rfl, .inl (SqL.of p5), _, rfl, fld C5.hr T.R (i := 5) (by decide +kernel) rfl ⟨(by show 2 ≤ sizeLine; decide), fun r hr5 => ?_⟩⟩
      have ex5 : ∀ b o, H b = some o → ∃ o', H5 b = some o' := fun b o e => by
        obtain ⟨o', e'⟩ := x2 b o e
        obtain ⟨o4, e4⟩ : ∃ o', H4 b = some o' := by rw [← hH4]; exact upd_some (s3 _ _ e')
        rw [← hH5]
        exact upd_some e4
      have f5 : ∀ b o, H b = some o → (W b).own ≠ some k → H5 b = some o := fun b o e z => by
        have na : b ≠ R.a := fun y => z (by rw [y, C.wr]; rfl)
        rw [← hH5, upd_ne na, ← hH4, upd_ne na]
        exact s3 _ _ (f2 b o e z)
      have r0 : H r = none := by
        cases e : H r with
        | none => rfl
        | some o =>
          obtain ⟨o', e'⟩ := ex5 _ _ e
          rw [e'] at hr5
          cases hr5
      refine q r { R with T := T1, al := np } (setW (setW W np (.log k)) r .oth) _ rfl (C5.same (fun b o e => sw_old e hr5) (same_upd hr5)) ⟨fun b o e => ?_, fun b o e z => (same_upd hr5) _ _ (f5 b o e z), fun b o e => ?_⟩ r0 sw_same ?_
      · rw [sw_old e r0, sw_old e np0]
      · obtain ⟨o', e'⟩ := ex5 b o e
        exact ⟨o', (same_upd hr5) _ _ e'⟩
      · rw [upd_same, List.length_map]
        rfl
end
end My
namespace My
open PySem hiding Place
open PySem.Spec PyProof.Rows L2
open Sq28 (Place Tree)
open Sq33 (Deed Desk House Letter Counts at_ most)
/-! ## a session -/
structure SA where
  s : Addr
  dx : Addr
  sr : Addr
  sm : Addr
  ra : List RA
  ga : List Addr
structure SesC (c : Cs) (W : Roles) (A : Deed → Addr) (H : Hp) (h : House) (S : SA) : Prop where
  hs : H S.s = some (.ins c.S S.dx (fz sK [.ref S.sr, .ref S.sm, nV h.all.length]))
  ws : W S.s = .sess
  hsr : H S.sr = some (.lst (S.ra.map fun R => .ref R.a))
  wsr : W S.sr = .reps
  ral : S.ra.length = h.hands
  rep : ∀ (k : Nat) (R : RA), S.ra[k]? = some R → RepD c W A H k (h.desk k) R
  hsm : H S.sm = some (.lst (S.ga.map V.ref))
  wsm : W S.sm = .msgs
  gal : S.ga.length = h.letters.length
  msg : ∀ (i : Nat) (g : Addr) (m : Letter), S.ga[i]? = some g → h.letters[i]? = some m → MsgAt c W A H g m
  ok : HouseOk h
theorem own_oth {W : Roles} {b : Addr} {k : Nat} (h : (W b).own = some k ∨ W b = .fix) : W b ≠ .oth := by
  intro e
  rcases h with h | h
  · rw [e] at h; cases h
  · rw [e] at h; cases h
theorem SesC.move {c : Cs} {W W' : Roles} {A : Deed → Addr} {H H' : Hp} {h : House} {S : SA} (C : SesC c W A H h S) (hw : ∀ b o, H b = some o → W' b = W b) (hf : ∀ b o, H b = some o → W b ≠ .oth → H' b = some o) : SesC c W' A H' h S where
  hs := hf _ _ C.hs (by rw [C.ws]; nofun)
  ws := (hw _ _ C.hs).trans C.ws
  hsr := hf _ _ C.hsr (by rw [C.wsr]; nofun)
  wsr := (hw _ _ C.hsr).trans C.wsr
  ral := C.ral
  rep := fun k R e => (C.rep k R e).move hw (fun b o e z => hf b o e (own_oth z)) fun _ _ => rfl
  hsm := hf _ _ C.hsm (by rw [C.wsm]; nofun)
  wsm := (hw _ _ C.hsm).trans C.wsm
  gal := C.gal
  msg := fun i g m e1 e2 => (C.msg i g m e1 e2).move (fun b o e z => ⟨hf b o e (by rw [z]; nofun), (hw b o e).trans z⟩) fun _ _ => rfl
  ok := C.ok
theorem SesC.same {c : Cs} {W W' : Roles} {A : Deed → Addr} {H H' : Hp} {h : House} {S : SA} (C : SesC c W A H h S) (hw : ∀ b o, H b = some o → W' b = W b) (s : Same H H') : SesC c W' A H' h S := C.move hw fun b o e _ => s b o e
theorem rep_m {h : House} (ok : HouseOk h) {k : Nat} (hk : k < h.hands) : RepM h.hands h.all k (h.desk k) :=
  ⟨ok.desk k hk, hk, ok.six, fun d hd => ok.thing d ((ok.desk k hk).sub d hd), ok.hand, len80 ok (ok.desk k hk).sorted (ok.desk k hk).sub⟩
theorem SesC.get {c : Cs} {W : Roles} {A : Deed → Addr} {H : Hp} {h : House} {S : SA} (C : SesC c W A H h S) {k : Nat} (hk : k < h.hands) : ∃ R, S.ra[k]? = some R ∧ RepD c W A H k (h.desk k) R := by
  have e := List.getElem?_eq_getElem (l := S.ra) (i := k) (by rw [C.ral]; exact hk)
  exact ⟨_, e, C.rep k _ e⟩
/-- what an operation leaves, and its answer: a new list -/
def Post (c : Cs) (W : Roles) (H : Hp) (S : SA) (h' : House) (out : List Int) (Q : VK) : Prop := ∀ (W' : Roles) (A' : Deed → Addr) (H' : Hp) (S' : SA) (p : Addr), S'.s = S.s → SesC c W' A' H' h' S' →
  (∀ b o, H b = some o → W b = .oth → H' b = some o ∧ W' b = .oth) → H p = none → W' p = .oth → H' p = some (.lst (out.map V.int)) → Q (.ref p) H'
theorem Post.ro' {c : Cs} {W : Roles} {A : Deed → Addr} {H H' : Hp} {h : House} {S : SA} {out : List Int} {Q : VK} {p : Addr} (C : SesC c W A H h S) (q : Post c W H S h out Q) (s : Same H H') (hp : H p = none) (e : H' p = some (.lst (out.map V.int))) : Q (.ref p) H' :=
  q (setW W p .oth) A H' S p rfl (C.same (fun b o e => sw_old e hp) s) (fun b o e w => ⟨s b o e, (sw_old e hp).trans w⟩) hp sw_same e
theorem Post.ro {c : Cs} {W : Roles} {A : Deed → Addr} {H H1 : Hp} {h : House} {S : SA} {out : List Int} {Q : VK} {p : Addr} (C : SesC c W A H h S) (q : Post c W H S h out Q) (s : Same H H1) (hp : H1 p = none) : Q (.ref p) (upd H1 p (.lst (out.map V.int))) :=
  q.ro' C (Same.upd' s (s.free hp)) (s.free hp) upd_same
theorem ints_map (l : List Nat) : (Sq33.ints l).map V.int = l.map nV := by
  unfold Sq33.ints
  rw [List.map_map]
  rfl
/-- the fields of a session's instance, before and after the first start -/
def FS (fs : List (Str × V)) : Prop := fs = [] ∨ ∃ vs : List V, vs.length = 3 ∧ fs = fz sK vs
theorem fs_steps {fs : List (Str × V)} (h : FS fs) (a b d : V) : fs.length < 1000 ∧ (putF "replicas" a fs).length < 1000 ∧ (putF "messages" b (putF "replicas" a fs)).length < 1000 ∧ putF "moves_made" d (putF "messages" b (putF "replicas" a fs)) = fz sK [a, b, d] := by
  rcases h with rfl | ⟨vs, hl, rfl⟩
  · have e1 : putF "replicas" a [] = fz ["replicas"] [a] := fz_new (ks := []) (vs := []) (by decide +kernel) rfl
    have e2 : putF "messages" b (fz ["replicas"] [a]) = fz ["replicas", "messages"] [a, b] := fz_new (by decide +kernel) rfl
    have e3 : putF "moves_made" d (fz ["replicas", "messages"] [a, b]) = fz sK [a, b, d] := fz_new (by decide +kernel) rfl
    rw [e1, e2, e3]
    exact ⟨by decide, Nat.lt_of_le_of_lt (fz_len _ _) (by decide), Nat.lt_of_le_of_lt (fz_len _ _) (by decide), rfl⟩
  · match vs, hl with
    | [x, y, z], _ =>
      have e1 : putF "replicas" a (fz sK [x, y, z]) = fz sK [a, y, z] := fz_put (i := 0) (by decide +kernel) rfl
      have e2 : putF "messages" b (fz sK [a, y, z]) = fz sK [a, b, z] := fz_put (i := 1) (by decide +kernel) rfl
      have e3 : putF "moves_made" d (fz sK [a, b, z]) = fz sK [a, b, d] := fz_put (i := 2) (by decide +kernel) rfl
      rw [e1, e2, e3]
      exact ⟨Nat.lt_of_le_of_lt (fz_len _ _) (by decide), Nat.lt_of_le_of_lt (fz_len _ _) (by decide), Nat.lt_of_le_of_lt (fz_len _ _) (by decide), rfl⟩
def spStart (c : Cs) : Sp := fun vs H Q _ => ∃ (s dx : Addr) (fs : List (Str × V)) (n : Nat), vs = [.ref s, nV n] ∧ H s = some (.ins c.S dx fs) ∧ FS fs ∧ 1 ≤ n ∧ n ≤ 6 ∧
  ∀ (W' : Roles) (A' : Deed → Addr) (H' : Hp) (S' : SA), S'.s = s → SesC c W' A' H' (Sq33.new n) S' → (∀ b o, H b = some o → b ≠ s → H' b = some o ∧ W' b = .oth) → Q .non H'
def spSesI (c : Cs) : Sp := fun vs H Q _ => ∃ (s dx : Addr), vs = [.ref s] ∧ H s = some (.ins c.S dx []) ∧
  ∀ (W' : Roles) (A' : Deed → Addr) (H' : Hp) (S' : SA), S'.s = s → SesC c W' A' H' (Sq33.new 1) S' → (∀ b o, H b = some o → b ≠ s → H' b = some o ∧ W' b = .oth) → Q .non H'
def spHasR (c : Cs) : Sp := fun vs H Q _ => ∃ (W : Roles) (A : Deed → Addr) (h : House) (S : SA) (k : Nat), vs = [.ref S.s, nV k] ∧ SesC c W A H h S ∧ Q (.bl (decide (k < h.hands))) H
def spBegin (c : Cs) : Sp := fun vs H Q _ => ∃ (W : Roles) (A : Deed → Addr) (h : House) (S : SA) (n : Nat), vs = [.ref S.s, nV n] ∧ SesC c W A H h S ∧
  Post c W H S (h.step (.begin_ n)).1 ((h.step (.begin_ n)).2.value :: (h.step (.begin_ n)).2.out) Q
section
variable {P : Program} {w : World} {K : PySem.W.Frag} {mg : Str → Option Value} {base : Heap} {c : Cs}
theorem scStart : FnScope ["self", "replica_count", "place"] ["self", "replica_count"] (defScope sStart) := ⟨rfl, rfl, rfl, by decide +kernel, rfl, by decide +kernel, by decide +kernel⟩
theorem ok_start {f fI : Addr} {fd fdI : FuncData} (F : Fun K "start_with" "Session.start_with" sStart f fd) (T : Txt K mg c) (MR : Mk K c.R fI) (GI : FnOk P w K mg base CX0 3 fI fdI ["self", "place", "replica_count"] (spRepI c)) (bI : Binds K fdI ["self", "place", "replica_count"] []) : FnOk P w K mg base CX0 5 f fd ["self", "replica_count"] (spStart c) := by
  refine F.ok scStart (fun vs H Q E h => ?_) (fun cdv A outer s H vs Q E hr h => ?_)
  · obtain ⟨s, dx, fs, n, rfl, _⟩ := h
    rfl
  · obtain ⟨ss, dx, fs, n, rfl, hs, hfs, h1, h6, q⟩ := h
    refine ⟨_, pss_cons (ps_fld (pv 0) (pe_lc (own := [("place", 2)]) (g := gName 2) (te := tMake c.R (spRepI c) [] E0 (tCons (tVar 2) (tCons (tVar 1) tNil))) rfl scStart.nd (pi_range1 (by rfl) T.range (pa_cons (pv 1) pa_nil)) (blkOk_by (N := ["self", "replica_count", "place"]) (sc := defScope sStart) (by decide +kernel))
        (fun _ _ _ _ _ => pg_name (i := 2) scStart.nd rfl (Or.inl rfl) (hf := Or.inr rfl)) (fun _ _ _ _ _ => pts_nil) (fun _ _ _ _ _ => pe_make MR GI hr rfl T.gR bI .nil pass0 (pa_cons (pv 2) (pa_cons (pv 1) pa_nil)))) rfl)
      (pss_cons (ps_fld (pv 0) (pe_lst pa_nil) rfl) (pss_one (ps_fld (pv 0) pe_int rfl))), ?_⟩
    refine ⟨_, rfl, (n : Int), rfl, by omega, by omega, fun D hD => ?_⟩
    have nsD : ss ≠ D := ne_of_none hs hD
    refine lc_range (lo := 0) (n := n) (fun i H1 => ∃ (W1 : Roles) (ra : List RA), ra.length = i ∧ Same H H1 ∧ H1 D = some (.lst (ra.map fun R => .ref R.a)) ∧ (∀ b o, H b = some o → b ≠ ss → W1 b = .oth) ∧ W1 ss = .sess ∧ W1 D = .reps ∧
        ∀ (k : Nat) (R : RA), ra[k]? = some R → RepD c W1 (fun _ => 0) H1 k (Sq33.none_ n) R)
      ⟨fun b => if b = ss then .sess else if b = D then .reps else .oth, [], rfl, same_upd hD, upd_same, fun b o e z => by dsimp only; rw [if_neg z, if_neg (ne_of_none e hD)], if_pos rfl, by dsimp only; rw [if_neg nsD.symm, if_pos rfl], fun k R e => by simp at e⟩ ?_ ?_
    · rintro i H1 hi ⟨W1, ra, el, s1, hD1, w1, ws, wD, hrep⟩
      refine ⟨rfl, ⟨_, rfl, _, rfl, fun x xd nx nxd nex => ?_⟩⟩
      refine ⟨W1, fun _ => 0, x, xd, i, n, by simp [nV], upd_same, hi, h6, fun R W2 H2 eR CR k2 => ⟨rfl, ?_⟩⟩
      have s2 : Same H1 H2 := Same.made nx nxd fun b o e z => (k2 b o e z).1
      have w2 : ∀ b o, H1 b = some o → W2 b = W1 b := fun b o e => (k2 b o (by rw [upd_ne (ne_of_none e nx), upd_ne (ne_of_none e nxd)]; exact e) (ne_of_none e nx)).2
      have x0 : H x = none := s1.free nx
      refine ⟨_, s2 _ _ hD1, by rw [List.length_map, el]; exact Nat.lt_of_le_of_lt (m := 6) (by omega) (by decide), W2, ra ++ [R], by rw [List.length_append, el]; rfl, Same.upd' (s1.trans s2) hD, ?_, fun b o e z => (w2 _ _ (s1 _ _ e)).trans (w1 b o e z), (w2 _ _ (s1 _ _ hs)).trans ws, (w2 _ _ hD1).trans wD, fun k R' e => ?_⟩
      · rw [upd_same, List.map_append, ← eR]
        rfl
      · have wD2 := (w2 _ _ hD1).trans wD
        have stay : ∀ b o, H2 b = some o → ((W2 b).own = some k ∨ W2 b = .fix) → (upd H2 D (.lst ((ra.map fun R => V.ref R.a) ++ [.ref x]))) b = some o := fun b o e z => by
          have : b ≠ D := fun y => by
            rw [y, wD2] at z
            rcases z with z | z <;> cases z
          rw [upd_ne this]
          exact e
        by_cases ck : k < ra.length
        · rw [List.getElem?_append_left ck] at e
          exact ((hrep k R' e).same w2 s2).move (fun _ _ _ => rfl) stay fun _ _ => rfl
        · have ek : k = i := by
            have := (List.getElem?_eq_some_iff.mp e).1
            rw [List.length_append, List.length_singleton] at this
            omega
          rw [List.getElem?_append_right (by omega), ek, el, Nat.sub_self] at e
          have e' : R = R' := by simpa using e
          subst e'
          subst ek
          exact CR.move (fun _ _ _ => rfl) stay fun _ _ => rfl
    · rintro H1 ⟨W1, ra, el, s1, hD1, w1, ws, wD, hrep⟩
      have hs1 := s1 _ _ hs
      obtain ⟨l1, l2, l3, e3⟩ := fs_steps hfs (.ref D) (.ref D) (.int 0)
      refine ⟨_, rfl, ss, c.S, dx, fs, rfl, hs1, T.S.cl, T.S.no _ (by decide +kernel), l1, ?_⟩
      generalize hH2 : upd H1 ss _ = H2
      have hs2 : H2 ss = some (.ins c.S dx (putF "replicas" (.ref D) fs)) := by rw [← hH2]; exact upd_same
      refine ⟨Nat.zero_le _, fun M hM => ?_⟩
      have nsM : ss ≠ M := ne_of_none hs2 hM
      obtain ⟨_, _, m3, e4⟩ := fs_steps hfs (.ref D) (.ref M) (.int 0)
      refine ⟨_, rfl, ss, c.S, dx, _, rfl, (by rw [upd_ne nsM]; exact hs2), T.S.cl, T.S.no _ (by decide +kernel), l2, ?_⟩
      refine ⟨_, rfl, ss, c.S, dx, _, rfl, upd_same, T.S.cl, T.S.no _ (by decide +kernel), m3, ?_⟩
      rw [e4]
      generalize hH4 : upd (upd (upd H2 M _) ss _) ss _ = H4
      have hs4 : H4 ss = some (.ins c.S dx (fz sK [.ref D, .ref M, .int 0])) := by rw [← hH4]; exact upd_same
      have hM4 : H4 M = some (.lst []) := by rw [← hH4, upd_ne nsM.symm, upd_ne nsM.symm]; exact upd_same
      have M1 : H1 M = none := by rw [← hH2, upd_ne nsM.symm] at hM; exact hM
      have k4 : ∀ b o, H1 b = some o → b ≠ ss → H4 b = some o := fun b o e z => by
        rw [← hH4, upd_ne z, upd_ne z, upd_ne (ne_of_none e M1), ← hH2, upd_ne z]
        exact e
      refine q (setW W1 M .msgs) (fun _ => 0) H4 ⟨ss, dx, D, M, ra, []⟩ rfl ⟨hs4, ?_, k4 _ _ hD1 nsD.symm, ?_, el, fun k R e => ?_, hM4, sw_same, rfl, fun i g m e => by simp at e, new_ok h1 h6⟩ fun b o e z => ⟨k4 _ _ (s1 _ _ e) z, ?_⟩
      · rw [sw_old hs1 M1]
        exact ws
      · rw [sw_old hD1 M1]
        exact wD
      · have hk : k < n := by rw [← el]; exact (List.getElem?_eq_some_iff.mp e).1
        rw [new_desk hk]
        refine (hrep k R e).move (fun b o e => sw_old e M1) (fun b o e z => k4 b o e fun y => ?_) fun _ _ => rfl
        rw [y, ws] at z
        rcases z with z | z <;> cases z
      · rw [sw_old (s1 _ _ e) M1]
        exact w1 b o e z
theorem scSesI : FnScope ["self"] ["self"] (defScope sSesI) := ⟨rfl, rfl, rfl, by decide +kernel, rfl, by decide +kernel, by decide +kernel⟩
theorem ok_sesI {f fS : Addr} {fd fdS : FuncData} (F : Fun K "__init__" "Session.__init__" sSesI f fd) (T : Txt K mg c) (GS : FnOk P w K mg base CX0 5 fS fdS ["self", "replica_count"] (spStart c)) (bS : Binds K fdS ["self", "replica_count"] []) (mS : Meth K c.S "start_with" fS) : FnOk P w K mg base CX0 6 f fd ["self"] (spSesI c) := by
  refine F.ok scSesI (fun vs H Q E h => ?_) (fun cdv A outer s H vs Q E hr h => ?_)
  · obtain ⟨s, dx, rfl, _⟩ := h
    rfl
  · obtain ⟨ss, dx, rfl, hs, q⟩ := h
    refine ⟨_, pss_one (ps_expr (pe_meth (pv 0) T.S.cl mS GS hr bS .nil pass0 (pa_cons pe_int pa_nil))), ?_⟩
    exact ⟨_, rfl, ss, dx, [], rfl, hs, rfl, ss, dx, [], 1, rfl, hs, .inl rfl, by decide, by decide, fun W' A' H' S' e C k => q W' A' H' S' e C k⟩
theorem scHasR : FnScope ["self", "replica"] ["self", "replica"] (defScope sHasR) := ⟨rfl, rfl, rfl, by decide +kernel, rfl, by decide +kernel, by decide +kernel⟩
theorem ok_hasR {f : Addr} {fd : FuncData} (F : Fun K "has_replica" "Session.has_replica" sHasR f fd) (T : Txt K mg c) : FnOk P w K mg base CX0 1 f fd ["self", "replica"] (spHasR c) := by
  refine F.ok scHasR (fun vs H Q E h => ?_) (fun cdv A outer s H vs Q E hr h => ?_)
  · obtain ⟨W, A, h, S, k, rfl, _⟩ := h
    rfl
  · obtain ⟨W, B, h, S, k, rfl, C, q⟩ := h
    refine ⟨_, pss_one (ps_ret (pe_cmpR op_lt (pv 1) (pe_callB call_len_seq (by rfl) T.len PySem.boot_len (pa_cons (pe_fld (pv 0) rfl) pa_nil)) (nomark _))), ?_⟩
    refine ⟨_, rfl, _, rfl, fld C.hs T.S (i := 0) (by decide +kernel) rfl ⟨S.sr, _, rfl, .inl (SqL.of C.hsr), _, _, rfl, rfl, ?_⟩⟩
    rw [List.length_map, C.ral]
    have e : decide ((k : Int) < (h.hands : Int)) = decide (k < h.hands) := decide_eq_decide.mpr (by omega)
    rw [← e] at q
    exact q
theorem scBegin : FnScope ["self", "replica_count"] ["self", "replica_count"] (defScope sBegin) := ⟨rfl, rfl, rfl, by decide +kernel, rfl, by decide +kernel, by decide +kernel⟩
theorem ok_begin {f fS : Addr} {fd fdS : FuncData} (F : Fun K "begin" "Session.begin" sBegin f fd) (T : Txt K mg c) (GS : FnOk P w K mg base CX0 5 fS fdS ["self", "replica_count"] (spStart c)) (bS : Binds K fdS ["self", "replica_count"] []) (mS : Meth K c.S "start_with" fS) : FnOk P w K mg base CX0 6 f fd ["self", "replica_count"] (spBegin c) := by
  refine F.ok scBegin (fun vs H Q E h => ?_) (fun cdv A outer s H vs Q E hr h => ?_)
  · obtain ⟨W, A, h, S, n, rfl, _⟩ := h
    rfl
  · obtain ⟨W, B, h, S, n, rfl, C, q⟩ := h
    obtain ⟨t1, e1⟩ := T.mrep
    obtain ⟨t2, e2⟩ := T.oor
    refine ⟨_, pss_cons (ps_if (PW.pt (pw_or (pt_cmpR op_lt (pv 1) pe_int (nomark _)) (pw_or1 (pt_cmpR op_gt (pv 1) (pgi rfl e1) (nomark _))))) (pss_one (ps_ret (pe_lst (pa_cons (pgi rfl e2) pa_nil)))) pss_nil)
      (pss_cons (ps_expr (pe_meth (pv 0) T.S.cl mS GS hr bS .nil pass0 (pa_cons (pv 1) pa_nil)))
      (pss_one (ps_ret (pe_lst (pa_cons pe_int pa_nil))))), ?_⟩
    have bad : (n = 0 ∨ Sq33.HANDS < n) → ∀ p, H p = none → Q (.ref p) (upd H p (.lst [.int (-1)])) := fun z p hp => by
      have e : h.step (.begin_ n) = (h, Sq33.says (-1)) := by
        show (if n = 0 ∨ Sq33.HANDS < n then _ else _) = _
        rw [if_pos z]
      rw [e] at q
      exact q.ro C (Same.refl _) hp
    refine ⟨_, rfl, _, _, rfl, rfl, _, rfl, ?_⟩
    by_cases c0 : n < 1
    · refine ift (decide_eq_true (show (n : Int) < (1 : Int) by omega)) ?_
      exact ift rfl ⟨(by show 1 ≤ sizeLine; decide), fun p hp => bad (.inl (by omega)) p hp⟩
    · refine iff_ (decide_eq_false (show ¬ (n : Int) < (1 : Int) by omega)) ⟨_, rfl, _, _, rfl, rfl, _, rfl, ?_⟩
      by_cases c6 : 6 < n
      · exact ift (decide_eq_true (show (6 : Int) < (n : Int) by omega)) ⟨(by show 1 ≤ sizeLine; decide), fun p hp => bad (.inr c6) p hp⟩
      · refine iff_ (decide_eq_false (show ¬ (6 : Int) < (n : Int) by omega)) ?_
        refine ⟨_, rfl, S.s, S.dx, _, rfl, C.hs, fz_no (by decide +kernel), _, rfl, S.s, S.dx, _, n, rfl, C.hs, .inr ⟨_, rfl, rfl⟩, by omega, by omega, fun W' A' H' S' es C' k' => ?_⟩
        refine ⟨(by show 1 ≤ sizeLine; decide), fun p hp => ?_⟩
        have e : h.step (.begin_ n) = (Sq33.new n, Sq33.says 0) := by
          show (if n = 0 ∨ Sq33.HANDS < n then _ else _) = _
          exact if_neg (show ¬ (n = 0 ∨ 6 < n) by omega)
        rw [e] at q
        have pn : H p = none := by
          cases e : H p with
          | none => rfl
          | some o =>
            by_cases z : p = S.s
            · have := C'.hs
              rw [es, ← z] at this
              rw [this] at hp
              cases hp
            · rw [(k' _ _ e z).1] at hp
              cases hp
        refine q (setW W' p .oth) A' _ S' p es (C'.same (fun b o e => sw_old e hp) (same_upd hp)) (fun b o e z => ?_) pn sw_same upd_same
        have nb : b ≠ S.s := fun y => by rw [y, C.ws] at z; cases z
        obtain ⟨a1, a2⟩ := k' b o e nb
        exact ⟨(same_upd hp) _ _ a1, (sw_old a1 hp).trans a2⟩
end
end My
namespace My
open PySem hiding Place
open PySem.Spec PyProof.Rows L2
open Sq28 (Place Tree)
open Sq33 (Deed Desk House Letter Counts at_ most)
theorem moved_desk {h : House} (H : HouseOk h) {k : Nat} (hk : k < h.hands) (x u v j : Nat) : (moved h k x u v).desk j = if j = k then desk1 (h.desk k) k h.all.length x u v else h.desk j := by
  unfold moved House.set House.desk
  show ((h.desks.set k _)[j]?).getD _ = _
  rw [List.getElem?_set]
  by_cases c : k = j
  · rw [if_pos c, if_pos (by rw [H.desks]; exact hk), if_pos c.symm]
    show ({ h.desk k with kept := Sq33.enter (made h k x u v) (h.desk k).kept, has := (h.desk k).has.set k (at_ (h.desk k).has k + 1), clock := (h.desk k).clock + 1 } : Desk) = _
    rw [made_end H hk]
    rfl
  · rw [if_neg c, if_neg (fun z => c z.symm)]
theorem made_new {h : House} (H : HouseOk h) {k : Nat} (x u v : Nat) : ∀ d ∈ h.all, d ≠ mk1 (h.desk k) k h.all.length x u v := fun d hd e => by
  have h1 := H.own d hd
  have h2 : d.desk = k := by rw [e]; rfl
  have h3 : d.move.stamp.count = (h.desk k).clock + 1 := by rw [e]; rfl
  rw [h2] at h1
  omega
def spSMove (c : Cs) : Sp := fun vs H Q _ => ∃ (W : Roles) (A : Deed → Addr) (h : House) (S : SA) (k x u v : Nat), vs = [.ref S.s, nV k, nV x, nV u, nV v] ∧ SesC c W A H h S ∧
  Post c W H S (h.step (.move k x u v)).1 ((h.step (.move k x u v)).2.value :: (h.step (.move k x u v)).2.out) Q
def spSend (c : Cs) : Sp := fun vs H Q _ => ∃ (W : Roles) (A : Deed → Addr) (h : House) (S : SA) (k j : Nat), vs = [.ref S.s, nV k, nV j] ∧ SesC c W A H h S ∧
  Post c W H S (h.step (.send k j)).1 ((h.step (.send k j)).2.value :: (h.step (.send k j)).2.out) Q
def spDeliver (c : Cs) : Sp := fun vs H Q _ => ∃ (W : Roles) (A : Deed → Addr) (h : House) (S : SA) (i : Nat), vs = [.ref S.s, nV i] ∧ SesC c W A H h S ∧
  Post c W H S (h.step (.comes i)).1 ((h.step (.comes i)).2.value :: (h.step (.comes i)).2.out) Q
def spSComp (c : Cs) : Sp := fun vs H Q _ => ∃ (W : Roles) (A : Deed → Addr) (h : House) (S : SA) (k : Nat), vs = [.ref S.s, nV k] ∧ SesC c W A H h S ∧
  Post c W H S (h.step (.forget k)).1 ((h.step (.forget k)).2.value :: (h.step (.forget k)).2.out) Q
/-- one desk replaced: what stands in the heap -/
theorem SesC.step {c : Cs} {W W' : Roles} {A A' : Deed → Addr} {H H' : Hp} {h h' : House} {S : SA} {k : Nat} {R R' : RA} (C : SesC c W A H h S) (hk : k < h.hands) (e : S.ra[k]? = some R) (st : Step W W' H H' k) (eR : R'.a = R.a) (CR : RepD c W' A' H' k (h'.desk k) R')
    (hh : h'.hands = h.hands) (hl : h'.letters = h.letters) (hd : ∀ j, j ≠ k → h'.desk j = h.desk j) (hn : h'.all.length = h.all.length) (hA : ∀ d ∈ h.all, A' d = A d) (ok : HouseOk h') : SesC c W' A' H' h' { S with ra := S.ra.set k R' } where
  hs := by
    rw [hn]
    exact st.f _ _ C.hs (by rw [C.ws]; nofun)
  ws := (st.w _ _ C.hs).trans C.ws
  hsr := by
    have e1 : ((S.ra.set k R').map fun R => V.ref R.a) = S.ra.map fun R => V.ref R.a := by
      rw [List.map_set, eR]
      refine List.ext_getElem? fun j => ?_
      rw [List.getElem?_set]
      by_cases cj : k = j
      · rw [if_pos cj, List.length_map, if_pos (by rw [C.ral]; exact hk), List.getElem?_map, ← cj, e]
        rfl
      · rw [if_neg cj]
    show H' S.sr = some (.lst ((S.ra.set k R').map fun R => V.ref R.a))
    rw [e1]
    exact st.f _ _ C.hsr (by rw [C.wsr]; nofun)
  wsr := (st.w _ _ C.hsr).trans C.wsr
  ral := by
    show (S.ra.set k R').length = h'.hands
    rw [List.length_set, C.ral, hh]
  rep := fun j R2 e2 => by
    rw [List.getElem?_set] at e2
    by_cases cj : k = j
    · rw [if_pos cj, if_pos (by rw [C.ral]; exact hk)] at e2
      cases e2
      rw [← cj]
      exact CR
    · rw [if_neg cj] at e2
      rw [hd j fun z => cj z.symm]
      have hj : j < h.hands := by rw [← C.ral]; exact (List.getElem?_eq_some_iff.mp e2).1
      refine (C.rep j R2 e2).move st.w (fun b o e z => st.f b o e ?_) fun d hd => hA d ((C.ok.desk j hj).sub d hd)
      rcases z with z | z
      · rw [z]
        exact fun y => cj (Option.some.inj y).symm
      · rw [z]
        nofun
  hsm := st.f _ _ C.hsm (by rw [C.wsm]; nofun)
  wsm := (st.w _ _ C.hsm).trans C.wsm
  gal := by
    rw [hl]
    exact C.gal
  msg := fun i g m e1 e2 => by
    rw [hl] at e2
    exact (C.msg i g m e1 e2).move (fun b o e z => ⟨st.f b o e (by rw [z]; nofun), (st.w b o e).trans z⟩) fun d hd => hA d ((C.ok.letter m (List.mem_of_getElem? e2)).sub d hd)
  ok := ok
theorem Step.oth {W W' : Roles} {H H' : Hp} {k : Nat} (st : Step W W' H H' k) : ∀ b o, H b = some o → W b = .oth → H' b = some o ∧ W' b = .oth := fun b o e z => ⟨st.f b o e (by rw [z]; nofun), (st.w b o e).trans z⟩
section
variable {P : Program} {w : World} {K : PySem.W.Frag} {mg : Str → Option Value} {base : Heap} {c : Cs}
theorem scSMove : FnScope ["self", "replica", "node", "parent", "label"] ["self", "replica", "node", "parent", "label"] (defScope sSMove) := ⟨rfl, rfl, rfl, by decide +kernel, rfl, by decide +kernel, by decide +kernel⟩
theorem ok_smove {f fH fR fM : Addr} {fd fdH fdR fdM : FuncData} (F : Fun K "make_move" "Session.make_move" sSMove f fd) (T : Txt K mg c) (GH : FnOk P w K mg base CX0 1 fH fdH ["self", "replica"] (spHasR c)) (bH : Binds K fdH ["self", "replica"] []) (mH : Meth K c.S "has_replica" fH)
    (GR : FnOk P w K mg base CX0 1 fR fdR ["node", "parent", "label"] spRange) (bR : Binds K fdR ["node", "parent", "label"] []) (gR : mg "move_in_range" = some (.ref fR)) (kR : PySem.W.keepIn K (.ref fR) = true)
    (GM : FnOk P w K mg base CX0 5 fM fdM ["self", "node", "parent", "label"] (spMake c)) (bM : Binds K fdM ["self", "node", "parent", "label"] []) (mM : Meth K c.R "make_move" fM) : FnOk P w K mg base CX0 6 f fd ["self", "replica", "node", "parent", "label"] (spSMove c) := by
  refine F.ok scSMove (fun vs H Q E h => ?_) (fun cdv A outer s H vs Q E hr h => ?_)
  · obtain ⟨W, A, h, S, k, x, u, v, rfl, _⟩ := h
    rfl
  · obtain ⟨W, B, h, S, k, x, u, v, rfl, C, q⟩ := h
    obtain ⟨t1, e1⟩ := T.nth
    obtain ⟨t2, e2⟩ := T.oor
    obtain ⟨t3, e3⟩ := T.tmany
    obtain ⟨t4, e4⟩ := T.mmov
    refine ⟨_, pss_cons (ps_if (pt_not (pt_val (pe_meth (pv 0) T.S.cl mH GH (hr.mono (by decide)) bH .nil pass0 (pa_cons (pv 1) pa_nil)))) (pss_one (ps_ret (pe_lst (pa_cons (pgi rfl e1) pa_nil)))) pss_nil)
      (pss_cons (ps_if (pt_not (pt_val (pe_call GR (hr.mono (by decide)) rfl gR kR bR .nil pass0 (pa_cons (pv 2) (pa_cons (pv 3) (pa_cons (pv 4) pa_nil)))))) (pss_one (ps_ret (pe_lst (pa_cons (pgi rfl e2) pa_nil)))) pss_nil)
      (pss_cons (ps_if (pt_cmpR op_eq (pe_fld (pv 0) rfl) (pgi rfl e4) (nomark _)) (pss_one (ps_ret (pe_lst (pa_cons (pgi rfl e3) pa_nil)))) pss_nil)
      (pss_cons (ps_fldaug (pv 0) pe_int in_add)
      (pss_one (ps_ret (pe_meth (pe_ix ix_list (pe_fld (pv 0) rfl) (pv 1) (fun _ _ => rfl)) T.R.cl mM GM hr bM .nil pass0 (pa_cons (pv 2) (pa_cons (pv 3) (pa_cons (pv 4) pa_nil))))))))), ?_⟩
    refine ⟨_, rfl, S.s, S.dx, _, rfl, C.hs, fz_no (by decide +kernel), _, rfl, W, B, h, S, k, rfl, C, _, rfl, ?_⟩
    by_cases hk : k < h.hands
    · refine iff_ (by rw [decide_eq_true hk]; rfl) ?_
      refine ⟨_, rfl, _, rfl, _, rfl, x, u, v, rfl, _, rfl, ?_⟩
      by_cases cr : x < 2 ∨ Sq28.THINGS ≤ x ∨ Sq28.THINGS ≤ u ∨ Sq28.LABEL < v
      · refine ift (by rw [decide_eq_true cr]; rfl) ⟨(by show 1 ≤ sizeLine; decide), fun p hp => ?_⟩
        have e : h.step (.move k x u v) = (h, Sq33.says (-1)) := by
          show (if h.hands ≤ k then _ else if x < 2 ∨ Sq28.THINGS ≤ x ∨ Sq28.THINGS ≤ u ∨ Sq28.LABEL < v then _ else _) = _
          rw [if_neg (by omega), if_pos cr]
        rw [e] at q
        exact q.ro C (Same.refl _) hp
      · refine iff_ (by rw [decide_eq_false cr]; rfl) ?_
        refine ⟨_, rfl, fld C.hs T.S (i := 2) (by decide +kernel) rfl ⟨rfl, _, rfl, ?_⟩⟩
        have de : decide (nV h.all.length = V.int 80) = decide (h.all.length = 80) := nVd _ 80
        rw [de]
        by_cases c80 : h.all.length = 80
        · refine ift (decide_eq_true c80) ⟨(by show 1 ≤ sizeLine; decide), fun p hp => ?_⟩
          have e : h.step (.move k x u v) = (h, Sq33.says (-5)) := by
            show (if h.hands ≤ k then _ else if x < 2 ∨ Sq28.THINGS ≤ x ∨ Sq28.THINGS ≤ u ∨ Sq28.LABEL < v then _ else if 80 ≤ h.all.length then _ else _) = _
            rw [if_neg (by omega), if_neg cr, if_pos (by omega)]
          rw [e] at q
          exact q.ro C (Same.refl _) hp
        · refine iff_ (decide_eq_false c80) ?_
          have l80 := C.ok.all80
          have e : h.step (.move k x u v) = (moved h k x u v, ⟨((at_ (h.desk k).has k + 1 : Nat) : Int), Sq33.ints [(h.desk k).clock + 1, Sq28.outcome (h.desk k).tree (mk1 (h.desk k) k h.all.length x u v).move]⟩) := by
            show (if h.hands ≤ k then _ else if x < 2 ∨ Sq28.THINGS ≤ x ∨ Sq28.THINGS ≤ u ∨ Sq28.LABEL < v then _ else if 80 ≤ h.all.length then _ else _) = _
            rw [if_neg (by omega), if_neg cr, if_neg (by omega)]
            rfl
          rw [e] at q
          -- self.moves_made += 1
          refine ⟨_, rfl, S.s, c.S, S.dx, _, _, rfl, C.hs, T.S.cl, T.S.no _ (by decide +kernel), fz_lk (i := 2) (by decide +kernel) rfl, _, _, rfl, rfl, S.dx, _, C.hs, Nat.lt_of_le_of_lt (fz_len _ _) (by decide), ?_⟩
          rw [fz_put (i := 2) (by decide +kernel) rfl]
          generalize hH1 : upd H S.s _ = H1
          have hs1 : H1 S.s = some (.ins c.S S.dx (fz sK [.ref S.sr, .ref S.sm, nV (h.all.length + 1)])) := by rw [← hH1]; exact upd_same
          have k1 : ∀ b o, H b = some o → W b ≠ .sess → H1 b = some o := fun b o e z => by rw [← hH1, upd_ne (fun y => z (by rw [y, C.ws]))]; exact e
          obtain ⟨R, eR, CR⟩ := C.get hk
          have CR1 : RepD c W B H1 k (h.desk k) R := CR.move (fun _ _ _ => rfl) (fun b o e z => k1 b o e fun y => by rw [y] at z; rcases z with z | z <;> cases z) fun _ _ => rfl
          have M := rep_m C.ok hk
          have hn : ∀ d ∈ (h.desk k).kept, d ≠ mk1 (h.desk k) k h.all.length x u v := fun d hd => made_new C.ok x u v d (M.D.sub d hd)
          -- self.replicas[replica].make_move(..)
          refine ⟨_, rfl, fld hs1 T.S (i := 0) (by decide +kernel) rfl ⟨_, rfl, S.sr, _, _, .ref R.a, rfl, rfl, SqL.of (k1 _ _ C.hsr (by rw [C.wsr]; nofun)), atI_nat (by rw [List.getElem?_map, eR]; rfl), R.a, R.dx, _, rfl, CR1.hr, fz_no (by decide +kernel), _, rfl, _, rfl, _, rfl,
            W, B, k, h.desk k, R, h.hands, h.all, h.all.length, x, u, v, rfl, CR1, M, hn, fun p R' W' A' H' eRa CR' hA st hp wp hp' => ?_⟩⟩
          have hx : 2 ≤ x ∧ x < 64 := by
            have h1 : ¬ x < 2 := fun z => cr (.inl z)
            have h2 : ¬ 64 ≤ x := fun z => cr (.inr (.inl z))
            omega
          have ok' := moved_ok C.ok (u := u) (v := v) hk (by omega) hx
          -- as if the counter had always been so
          have h0 : HouseOk h := C.ok
          have hsome : ∀ b o, H b = some o → ∃ o', H1 b = some o' := fun b o e => by rw [← hH1]; exact upd_some e
          have stO : ∀ b o, H b = some o → W b ≠ .sess → (W b).own ≠ some k → H' b = some o ∧ W' b = W b := fun b o e z1 z2 => ⟨st.f _ _ (k1 b o e z1) z2, st.w _ _ (k1 b o e z1)⟩
          have pn : H p = none := by
            cases e : H p with
            | none => rfl
            | some o =>
              obtain ⟨o', e'⟩ := hsome _ _ e
              rw [e'] at hp
              cases hp
          have SC : SesC c W' A' H' (moved h k x u v) { S with ra := S.ra.set k R' } := by
            refine ⟨?_, (st.w _ _ hs1).trans C.ws, ?_, (stO _ _ C.hsr (by rw [C.wsr]; nofun) (by rw [C.wsr]; nofun)).2.trans C.wsr, ?_, fun j R2 e2 => ?_, (stO _ _ C.hsm (by rw [C.wsm]; nofun) (by rw [C.wsm]; nofun)).1, (stO _ _ C.hsm (by rw [C.wsm]; nofun) (by rw [C.wsm]; nofun)).2.trans C.wsm, C.gal, fun i g m e1 e2 => ?_, ok'⟩
            · have el : (moved h k x u v).all.length = h.all.length + 1 := by
                show (h.all ++ [made h k x u v]).length = _
                rw [List.length_append]
                rfl
              rw [el]
              exact st.f _ _ hs1 (by rw [C.ws]; nofun)
            · have e1 : ((S.ra.set k R').map fun R => V.ref R.a) = S.ra.map fun R => V.ref R.a := by
                rw [List.map_set, eRa]
                refine List.ext_getElem? fun j => ?_
                rw [List.getElem?_set]
                by_cases cj : k = j
                · rw [if_pos cj, List.length_map, if_pos (by rw [C.ral]; exact hk), List.getElem?_map, ← cj, eR]
                  rfl
                · rw [if_neg cj]
              show H' S.sr = some (.lst ((S.ra.set k R').map fun R => V.ref R.a))
              rw [e1]
              exact (stO _ _ C.hsr (by rw [C.wsr]; nofun) (by rw [C.wsr]; nofun)).1
            · show (S.ra.set k R').length = h.hands
              rw [List.length_set, C.ral]
            · rw [moved_desk h0 hk]
              rw [List.getElem?_set] at e2
              by_cases cj : k = j
              · rw [if_pos cj, if_pos (by rw [C.ral]; exact hk)] at e2
                cases e2
                rw [if_pos cj.symm, ← cj]
                exact CR'
              · rw [if_neg cj] at e2
                rw [if_neg fun z => cj z.symm]
                have hj : j < h.hands := by rw [← C.ral]; exact (List.getElem?_eq_some_iff.mp e2).1
                have nse : ∀ {b : Addr}, ((W b).own = some j ∨ W b = .fix) → W b ≠ .sess := fun z y => by rw [y] at z; rcases z with z | z <;> cases z
                refine (((C.rep j R2 e2).move (W' := W) (fun _ _ _ => rfl) (fun b o e z => k1 b o e (nse z)) fun _ _ => rfl).move st.w (fun b o e z => st.f b o e ?_) fun d hd => hA d (made_new h0 x u v d ((h0.desk j hj).sub d hd)))
                rcases z with z | z
                · rw [z]
                  exact fun y => cj (Option.some.inj y).symm
                · rw [z]
                  nofun
            · exact (C.msg i g m e1 e2).move (fun b o e z => ⟨(stO b o e (by rw [z]; nofun) (by rw [z]; nofun)).1, (stO b o e (by rw [z]; nofun) (by rw [z]; nofun)).2.trans z⟩) fun d hd => hA d (made_new h0 x u v d ((h0.letter m (List.mem_of_getElem? e2)).sub d hd))
          refine q W' A' H' { S with ra := S.ra.set k R' } p rfl SC (fun b o e z => ?_) pn wp hp'
          obtain ⟨a1, a2⟩ := stO b o e (by rw [z]; nofun) (by rw [z]; nofun)
          exact ⟨a1, a2.trans z⟩
    · refine ift (by rw [decide_eq_false hk]; rfl) ⟨(by show 1 ≤ sizeLine; decide), fun p hp => ?_⟩
      have e : h.step (.move k x u v) = (h, Sq33.says (-2)) := by
        show (if h.hands ≤ k then _ else _) = _
        rw [if_pos (by omega)]
      rw [e] at q
      exact q.ro C (Same.refl _) hp
end
end My
namespace My
open PySem hiding Place
open PySem.Spec PyProof.Rows L2
open Sq28 (Place Tree)
open Sq33 (Deed Desk House Letter Counts at_ most)
theorem ripe_is {h : House} (ok : HouseOk h) {k : Nat} (hk : k < h.hands) : IsRipe (h.desk k) k (h.ripe k) := fun m hm hmin => by
  obtain ⟨s1, s2⟩ := settled_min ok hk
  have em : h.settled k = m := min_uniq s1 s2 hm hmin
  show (h.desk k).kept.takeWhile (fun d => h.allHave k d && decide (d.move.stamp.count ≤ h.settled k)) = _
  congr 1
  funext d
  rw [allHave_conf ok hk, em]
  rfl
section
variable {P : Program} {w : World} {K : PySem.W.Frag} {mg : Str → Option Value} {base : Heap} {c : Cs}
theorem scSend : FnScope ["self", "sender", "receiver", "message"] ["self", "sender", "receiver"] (defScope sSend) := ⟨rfl, rfl, rfl, by decide +kernel, rfl, by decide +kernel, by decide +kernel⟩
theorem ok_send {f fH fM : Addr} {fd fdH fdM : FuncData} (F : Fun K "send_message" "Session.send_message" sSend f fd) (T : Txt K mg c) (GH : FnOk P w K mg base CX0 1 fH fdH ["self", "replica"] (spHasR c)) (bH : Binds K fdH ["self", "replica"] []) (mH : Meth K c.S "has_replica" fH)
    (GM : FnOk P w K mg base CX0 3 fM fdM ["self", "receiver"] (spMsg c)) (bM : Binds K fdM ["self", "receiver"] []) (mM : Meth K c.R "message_to" fM) : FnOk P w K mg base CX0 4 f fd ["self", "sender", "receiver"] (spSend c) := by
  refine F.ok scSend (fun vs H Q E h => ?_) (fun cdv A outer s H vs Q E hr h => ?_)
  · obtain ⟨W, A, h, S, k, j, rfl, _⟩ := h
    rfl
  · obtain ⟨W, B, h, S, k, j, rfl, C, q⟩ := h
    obtain ⟨t1, e1⟩ := T.nth
    obtain ⟨t3, e3⟩ := T.tmany
    obtain ⟨t4, e4⟩ := T.mmsg
    refine ⟨_, pss_cons (ps_if (PW.pt (pw_or (pt_not (pt_val (pe_meth (pv 0) T.S.cl mH GH (hr.mono (by decide)) bH .nil pass0 (pa_cons (pv 1) pa_nil)))) (pw_or (pt_not (pt_val (pe_meth (pv 0) T.S.cl mH GH (hr.mono (by decide)) bH .nil pass0 (pa_cons (pv 2) pa_nil)))) (pw_or1 (pt_cmpR op_eq (pv 1) (pv 2) (nomark _)))))) (pss_one (ps_ret (pe_lst (pa_cons (pgi rfl e1) pa_nil)))) pss_nil)
      (pss_cons (ps_if (pt_cmpR op_eq (pe_callB call_len_seq (by rfl) T.len PySem.boot_len (pa_cons (pe_fld (pv 0) rfl) pa_nil)) (pgi rfl e4) (nomark _)) (pss_one (ps_ret (pe_lst (pa_cons (pgi rfl e3) pa_nil)))) pss_nil)
      (pss_cons (ps_set (i := 3) scSend.nd rfl (Or.inl rfl) (pe_meth (pe_ix ix_list (pe_fld (pv 0) rfl) (pv 1) (fun _ _ => rfl)) T.R.cl mM GM hr bM .nil pass0 (pa_cons (pv 2) pa_nil)))
      (pss_cons (ps_expr (pe_bm PySem.F.plainAttrs_list PySem.F.slot_list_append PySem.F.type_list_append mt_append (pe_fld (pv 0) rfl) (pa_cons (pv 3) pa_nil)))
      (pss_one (ps_ret (pe_lst (pa_cons (pe_op op_sub (pe_callB call_len_seq (by rfl) T.len PySem.boot_len (pa_cons (pe_fld (pv 0) rfl) pa_nil)) pe_int) (pa_cons (pe_callB call_len_seq (by rfl) T.len PySem.boot_len (pa_cons (pe_fld (pv 3) rfl) pa_nil)) pa_nil)))))))), ?_⟩
    have bad : (h.hands ≤ k ∨ h.hands ≤ j ∨ k = j) → ∀ p, H p = none → Q (.ref p) (upd H p (.lst [.int (-2)])) := fun z p hp => by
      have e : h.step (.send k j) = (h, Sq33.says (-2)) := by
        show (if h.hands ≤ k ∨ h.hands ≤ j ∨ k = j then _ else _) = _
        rw [if_pos z]
      rw [e] at q
      exact q.ro C (Same.refl _) hp
    refine ⟨_, rfl, S.s, S.dx, _, rfl, C.hs, fz_no (by decide +kernel), _, rfl, W, B, h, S, k, rfl, C, _, rfl, ?_⟩
    by_cases hk : k < h.hands
    · refine iff_ (by rw [decide_eq_true hk]; rfl) ?_
      refine ⟨_, rfl, S.s, S.dx, _, rfl, C.hs, fz_no (by decide +kernel), _, rfl, W, B, h, S, j, rfl, C, _, rfl, ?_⟩
      by_cases hj : j < h.hands
      · refine iff_ (by rw [decide_eq_true hj]; rfl) ?_
        refine ⟨_, rfl, _, rfl, rfl, _, rfl, ?_⟩
        rw [nVd]
        by_cases ne : k = j
        · exact ift (decide_eq_true ne) ⟨(by show 1 ≤ sizeLine; decide), fun p hp => bad (.inr (.inr ne)) p hp⟩
        · refine iff_ (decide_eq_false ne) ?_
          refine ⟨_, rfl, fld C.hs T.S (i := 1) (by decide +kernel) rfl ⟨S.sm, _, rfl, .inl (SqL.of C.hsm), rfl, _, rfl, ?_⟩⟩
          rw [List.length_map, C.gal]
          have de : decide (nV h.letters.length = V.int 200) = decide (h.letters.length = 200) := nVd _ 200
          have l200 := C.ok.let200
          show if decide (nV h.letters.length = V.int 200) = true then _ else _
          rw [de]
          by_cases c200 : h.letters.length = 200
          · refine ift (decide_eq_true c200) ⟨(by show 1 ≤ sizeLine; decide), fun p hp => ?_⟩
            have e : h.step (.send k j) = (h, Sq33.says (-5)) := by
              show (if h.hands ≤ k ∨ h.hands ≤ j ∨ k = j then _ else if 200 ≤ h.letters.length then _ else _) = _
              rw [if_neg (by omega), if_pos (by omega)]
            rw [e] at q
            exact q.ro C (Same.refl _) hp
          · refine iff_ (decide_eq_false c200) ?_
            have e : h.step (.send k j) = ({ h with letters := h.letters ++ [letter h k j] }, ⟨(h.letters.length : Int), [((h.lacks k j).length : Int)]⟩) := by
              show (if h.hands ≤ k ∨ h.hands ≤ j ∨ k = j then _ else if 200 ≤ h.letters.length then _ else _) = _
              rw [if_neg (by omega), if_neg (by omega)]
              rfl
            rw [e] at q
            obtain ⟨R, eR, CR⟩ := C.get hk
            have M := rep_m C.ok hk
            refine ⟨_, rfl, fld C.hs T.S (i := 0) (by decide +kernel) rfl ⟨_, rfl, S.sr, _, _, .ref R.a, rfl, rfl, SqL.of C.hsr, atI_nat (by rw [List.getElem?_map, eR]; rfl), R.a, R.dx, _, rfl, CR.hr, fz_no (by decide +kernel), _, rfl,
              W, B, k, h.desk k, R, h.hands, h.all, j, rfl, CR, M, hj, fun g W' H1 z ez s1 w1 hg mg1 => ?_⟩⟩
            have ez2 := sure_conf C.ok hk hj
            rw [ez2] at ez
            cases ez
            have eLet : (⟨k, j, (h.desk k).has, (h.desk k).clock, (h.desk k).kept.filter fun d => !decide (d.n ≤ at_ (h.sure k j) d.desk)⟩ : Letter) = letter h k j := rfl
            rw [eLet] at mg1
            have C1 : SesC c W' B H1 h S := C.same w1 s1
            -- self.messages.append(message)
            have hlen : (S.ga.map V.ref).length < sizeLine := by
              rw [List.length_map, C.gal]
              exact Nat.lt_of_le_of_lt l200 (by decide)
            refine ⟨_, rfl, fld C1.hs T.S (i := 1) (by decide +kernel) rfl ⟨.inl ⟨rfl, _, SqL.of C1.hsm⟩, _, rfl, S.sm, _, _, rfl, rfl, C1.hsm, hlen, ?_⟩⟩
            generalize hH2 : upd H1 S.sm _ = H2
            have sm2 : H2 S.sm = some (.lst ((S.ga ++ [g]).map V.ref)) := by rw [← hH2, upd_same, List.map_append]; rfl
            have k2 : ∀ b o, H1 b = some o → W' b ≠ .msgs → H2 b = some o := fun b o e z => by rw [← hH2, upd_ne (fun y => z (by rw [y, C1.wsm]))]; exact e
            have C2 : SesC c W' B H2 { h with letters := h.letters ++ [letter h k j] } { S with ga := S.ga ++ [g] } := by
              refine ⟨k2 _ _ C1.hs (by rw [C1.ws]; nofun), C1.ws, k2 _ _ C1.hsr (by rw [C1.wsr]; nofun), C1.wsr, C1.ral, fun i R2 e2 => ?_, sm2, C1.wsm, ?_, fun i g2 m e2 e3 => ?_, sent_ok C.ok hk hj ne (by omega)⟩
              · exact (C1.rep i R2 e2).move (fun _ _ _ => rfl) (fun b o e z => k2 b o e fun y => by rw [y] at z; rcases z with z | z <;> cases z) fun _ _ => rfl
              · show (S.ga ++ [g]).length = (h.letters ++ [letter h k j]).length
                rw [List.length_append, List.length_append, C.gal]
                rfl
              · have stay : ∀ b o, H1 b = some o → W' b = .fix → H2 b = some o ∧ W' b = .fix := fun b o e z => ⟨k2 b o e (by rw [z]; nofun), z⟩
                by_cases ci : i < S.ga.length
                · rw [List.getElem?_append_left ci] at e2
                  rw [List.getElem?_append_left (by rw [← C.gal]; exact ci)] at e3
                  exact (C1.msg i g2 m e2 e3).move stay fun _ _ => rfl
                · have ei : i = S.ga.length := by
                    have := (List.getElem?_eq_some_iff.mp e2).1
                    rw [List.length_append, List.length_singleton] at this
                    omega
                  rw [List.getElem?_append_right (by omega), ei, Nat.sub_self] at e2
                  rw [List.getElem?_append_right (by rw [← C.gal]; omega), ei, C.gal, Nat.sub_self] at e3
                  have e4 : g = g2 := by simpa using e2
                  have e5 : letter h k j = m := by simpa using e3
                  rw [← e4, ← e5]
                  exact mg1.move stay fun _ _ => rfl
            -- return [len(self.messages) - 1, len(message.moves)]
            obtain ⟨dg, gc, gm, g1, g2, g3, wg, wgc, wgm⟩ := mg1.ob
            have hg2 := k2 _ _ g1 (by rw [wg]; nofun)
            have hgm2 := k2 _ _ g3 (by rw [wgm]; nofun)
            refine ⟨_, rfl, fld C2.hs T.S (i := 1) (by decide +kernel) rfl ⟨S.sm, _, rfl, .inl (SqL.of sm2), _, _, rfl, rfl, _, rfl, fld hg2 T.G (i := 4) (by decide +kernel) rfl ⟨gm, _, rfl, .inl (SqL.of hgm2), (by show 2 ≤ sizeLine; decide), fun p hp => ?_⟩⟩⟩
            have eo : [V.int ((((S.ga ++ [g]).map V.ref).length : Int) - 1), V.int ((((letter h k j).deeds.map fun d => V.ref (B d)).length : Nat) : Int)] = (((h.letters.length : Int) :: [((h.lacks k j).length : Int)]).map V.int) := by
              rw [List.length_map, List.length_map, List.length_append, C.gal]
              show [V.int (((h.letters.length + 1 : Nat) : Int) - 1), _] = _
              have : ((h.letters.length + 1 : Nat) : Int) - 1 = (h.letters.length : Int) := by omega
              rw [this]
              rfl
            have e1n : H1 p = none := by rw [← hH2] at hp; by_cases z : p = S.sm; rw [z, upd_same] at hp; cases hp; rw [upd_ne z] at hp; exact hp
            refine q (setW W' p .oth) B _ { S with ga := S.ga ++ [g] } p rfl (C2.same (fun b o e => sw_old e hp) (same_upd hp)) (fun b o e z => ?_) (s1.free e1n) sw_same ?_
            · have e2 := k2 b o (s1 b o e) (by rw [w1 b o e, z]; nofun)
              exact ⟨(same_upd hp) _ _ e2, (sw_old e2 hp).trans ((w1 b o e).trans z)⟩
            · rw [← eo]
              exact upd_same
      · refine ift (by rw [decide_eq_false hj]; rfl) ?_
        exact ift rfl ⟨(by show 1 ≤ sizeLine; decide), fun p hp => bad (.inr (.inl (by omega))) p hp⟩
    · refine ift (by rw [decide_eq_false hk]; rfl) ?_
      exact ift rfl ⟨(by show 1 ≤ sizeLine; decide), fun p hp => bad (.inl (by omega)) p hp⟩
theorem scDeliver : FnScope ["self", "number", "message"] ["self", "number"] (defScope sDeliver) := ⟨rfl, rfl, rfl, by decide +kernel, rfl, by decide +kernel, by decide +kernel⟩
theorem ok_deliver {f fM : Addr} {fd fdM : FuncData} (F : Fun K "deliver_message" "Session.deliver_message" sDeliver f fd) (T : Txt K mg c)
    (GM : FnOk P w K mg base CX0 4 fM fdM ["self", "message"] (spTake c)) (bM : Binds K fdM ["self", "message"] []) (mM : Meth K c.R "take_in" fM) : FnOk P w K mg base CX0 5 f fd ["self", "number"] (spDeliver c) := by
  refine F.ok scDeliver (fun vs H Q E h => ?_) (fun cdv A outer s H vs Q E hr h => ?_)
  · obtain ⟨W, A, h, S, i, rfl, _⟩ := h
    rfl
  · obtain ⟨W, B, h, S, i, rfl, C, q⟩ := h
    obtain ⟨t1, e1⟩ := T.nth
    refine ⟨_, pss_cons (ps_if (pt_cmpR op_ge (pv 1) (pe_callB call_len_seq (by rfl) T.len PySem.boot_len (pa_cons (pe_fld (pv 0) rfl) pa_nil)) (nomark _)) (pss_one (ps_ret (pe_lst (pa_cons (pgi rfl e1) pa_nil)))) pss_nil)
      (pss_cons (ps_set (i := 2) scDeliver.nd rfl (Or.inl rfl) (pe_ix ix_list (pe_fld (pv 0) rfl) (pv 1) (fun _ _ => rfl)))
      (pss_one (ps_ret (pe_lst (pa_cons (pe_meth (pe_ix ix_list (pe_fld (pv 0) rfl) (pe_fld (pv 2) rfl) (fun _ _ => rfl)) T.R.cl mM GM hr bM .nil pass0 (pa_cons (pv 2) pa_nil)) pa_nil))))), ?_⟩
    refine ⟨_, rfl, _, rfl, fld C.hs T.S (i := 1) (by decide +kernel) rfl ⟨S.sm, _, rfl, .inl (SqL.of C.hsm), _, _, rfl, rfl, _, rfl, ?_⟩⟩
    rw [List.length_map, C.gal]
    by_cases hi : h.letters.length ≤ i
    · refine ift (decide_eq_true (show (h.letters.length : Int) ≤ (i : Int) by omega)) ⟨(by show 1 ≤ sizeLine; decide), fun p hp => ?_⟩
      have e : h.step (.comes i) = (h, Sq33.says (-2)) := by
        show (match h.letters[i]? with | none => _ | some m => _) = _
        rw [List.getElem?_eq_none hi]
      rw [e] at q
      exact q.ro C (Same.refl _) hp
    · refine iff_ (decide_eq_false (show ¬ (h.letters.length : Int) ≤ (i : Int) by omega)) ?_
      obtain ⟨m, em⟩ : ∃ m, h.letters[i]? = some m := ⟨_, List.getElem?_eq_getElem (by omega)⟩
      obtain ⟨g, eg⟩ : ∃ g, S.ga[i]? = some g := ⟨_, List.getElem?_eq_getElem (by rw [C.gal]; omega)⟩
      have e : h.step (.comes i) = (h.set m.to ((h.desk m.to).gets m), Sq33.says (newer (h.desk m.to) m).length) := by
        show (match h.letters[i]? with | none => _ | some m => _) = _
        rw [em]
        rfl
      rw [e] at q
      have hm := List.mem_of_getElem? em
      have L := C.ok.letter m hm
      have G := C.msg i g m eg em
      obtain ⟨dg, gc, gm, g1, g2, g3, wg, wgc, wgm⟩ := G.ob
      obtain ⟨R, eR, CR⟩ := C.get L.to
      obtain ⟨ks, kp⟩ := gets_kept C.ok hm
      refine ⟨_, rfl, fld C.hs T.S (i := 1) (by decide +kernel) rfl ⟨_, rfl, S.sm, _, _, .ref g, rfl, rfl, SqL.of C.hsm, atI_nat (by rw [List.getElem?_map, eg]; rfl), ?_⟩⟩
      refine ⟨_, rfl, fld C.hs T.S (i := 0) (by decide +kernel) rfl ⟨_, rfl, fld g1 T.G (i := 1) (by decide +kernel) rfl ⟨S.sr, _, _, .ref R.a, rfl, rfl, SqL.of C.hsr, atI_nat (by rw [List.getElem?_map, eR]; rfl), R.a, R.dx, _, rfl, CR.hr, fz_no (by decide +kernel), _, rfl,
        W, B, m.to, h.desk m.to, R, h.hands, h.all, g, m, rfl, CR, rep_m C.ok L.to, G, rfl, L.fr, L.ne, L.has, L.sub, len80 C.ok L.sorted L.sub, ks, kp, fun R' W' H1 eRa CR' st => ?_⟩⟩⟩
      refine ⟨(by show 1 ≤ sizeLine; decide), fun p hp => ?_⟩
      have pn : H p = none := by
        cases e : H p with
        | none => rfl
        | some o =>
          obtain ⟨o', e'⟩ := st.x _ _ e
          rw [e'] at hp
          cases hp
      have C1 : SesC c W' B H1 (h.set m.to ((h.desk m.to).gets m)) { S with ra := S.ra.set m.to R' } := by
        refine C.step L.to eR st eRa ?_ rfl rfl (fun j nj => ?_) rfl (fun _ _ => rfl) (got_ok C.ok hm)
        · rw [desk_set C.ok L.to, if_pos rfl]
          exact CR'
        · rw [desk_set C.ok L.to, if_neg nj]
      refine q (setW W' p .oth) B _ { S with ra := S.ra.set m.to R' } p rfl (C1.same (fun b o e => sw_old e hp) (same_upd hp)) (fun b o e z => ?_) pn sw_same upd_same
      obtain ⟨a1, a2⟩ := st.oth b o e z
      exact ⟨(same_upd hp) _ _ a1, (sw_old a1 hp).trans a2⟩
theorem scSComp : FnScope ["self", "replica"] ["self", "replica"] (defScope sSComp) := ⟨rfl, rfl, rfl, by decide +kernel, rfl, by decide +kernel, by decide +kernel⟩
theorem ok_scomp {f fH fM : Addr} {fd fdH fdM : FuncData} (F : Fun K "compact_log" "Session.compact_log" sSComp f fd) (T : Txt K mg c) (GH : FnOk P w K mg base CX0 1 fH fdH ["self", "replica"] (spHasR c)) (bH : Binds K fdH ["self", "replica"] []) (mH : Meth K c.S "has_replica" fH)
    (GM : FnOk P w K mg base CX0 3 fM fdM ["self"] (spComp c)) (bM : Binds K fdM ["self"] []) (mM : Meth K c.R "compact_log" fM) : FnOk P w K mg base CX0 4 f fd ["self", "replica"] (spSComp c) := by
  refine F.ok scSComp (fun vs H Q E h => ?_) (fun cdv A outer s H vs Q E hr h => ?_)
  · obtain ⟨W, A, h, S, k, rfl, _⟩ := h
    rfl
  · obtain ⟨W, B, h, S, k, rfl, C, q⟩ := h
    obtain ⟨t1, e1⟩ := T.nth
    refine ⟨_, pss_cons (ps_if (pt_not (pt_val (pe_meth (pv 0) T.S.cl mH GH (hr.mono (by decide)) bH .nil pass0 (pa_cons (pv 1) pa_nil)))) (pss_one (ps_ret (pe_lst (pa_cons (pgi rfl e1) pa_nil)))) pss_nil)
      (pss_one (ps_ret (pe_meth0 (pe_ix ix_list (pe_fld (pv 0) rfl) (pv 1) (fun _ _ => rfl)) T.R.cl mM GM hr bM .nil pass0))), ?_⟩
    refine ⟨_, rfl, S.s, S.dx, _, rfl, C.hs, fz_no (by decide +kernel), _, rfl, W, B, h, S, k, rfl, C, _, rfl, ?_⟩
    by_cases hk : k < h.hands
    · refine iff_ (by rw [decide_eq_true hk]; rfl) ?_
      have e : h.step (.forget k) = (h.set k ((h.desk k).forgets (h.ripe k)), ⟨((h.ripe k).length : Int), [(((h.desk k).gone + (h.ripe k).length : Nat) : Int)]⟩) := by
        show (if h.hands ≤ k then _ else _) = _
        rw [if_neg (by omega)]
      rw [e] at q
      obtain ⟨R, eR, CR⟩ := C.get hk
      refine ⟨_, rfl, fld C.hs T.S (i := 0) (by decide +kernel) rfl ⟨_, rfl, S.sr, _, _, .ref R.a, rfl, rfl, SqL.of C.hsr, atI_nat (by rw [List.getElem?_map, eR]; rfl), R.a, R.dx, _, rfl, CR.hr, fz_no (by decide +kernel),
        W, B, k, h.desk k, R, h.hands, h.all, h.ripe k, rfl, CR, rep_m C.ok hk, ripe_is C.ok hk, fun p R' W' H1 eRa CR' st hp wp hp1 => ?_⟩⟩
      have C1 : SesC c W' B H1 (h.set k ((h.desk k).forgets (h.ripe k))) { S with ra := S.ra.set k R' } := by
        refine C.step hk eR st eRa ?_ rfl rfl (fun j nj => ?_) rfl (fun _ _ => rfl) (forgot_ok C.ok hk _)
        · rw [desk_set C.ok hk, if_pos rfl]
          exact CR'
        · rw [desk_set C.ok hk, if_neg nj]
      exact q W' B H1 { S with ra := S.ra.set k R' } p rfl C1 (fun b o e z => st.oth b o e z) hp wp hp1
    · refine ift (by rw [decide_eq_false hk]; rfl) ⟨(by show 1 ≤ sizeLine; decide), fun p hp => ?_⟩
      have e : h.step (.forget k) = (h, Sq33.says (-2)) := by
        show (if h.hands ≤ k then _ else _) = _
        rw [if_pos (by omega)]
      rw [e] at q
      exact q.ro C (Same.refl _) hp
end
end My
namespace My
open PySem hiding Place
open PySem.Spec PyProof.Rows L2
open Sq28 (Place Tree)
open Sq33 (Deed Desk House Letter Counts at_ most)
def answerOf (o : Sq33.Out) : List Int := o.value :: o.out
def spBelow (c : Cs) : Sp := fun vs H Q _ => ∃ (W : Roles) (A : Deed → Addr) (h : House) (S : SA) (k top : Nat), vs = [.ref S.s, nV k, nV top] ∧ SesC c W A H h S ∧ top < 2 ∧ (k < h.hands → (Sq28.all (h.desk k).tree top).length ≤ 400000) ∧
  Post c W H S h (answerOf (if h.hands ≤ k then Sq33.says (-2) else Sq33.told (Sq28.all (h.desk k).tree top))) Q
def spAsk (c : Cs) (call : Nat → Sq33.Call) : Sp := fun vs H Q _ => ∃ (W : Roles) (A : Deed → Addr) (h : House) (S : SA) (k : Nat), vs = [.ref S.s, nV k] ∧ SesC c W A H h S ∧ (h.step (call k)).2.out.length ≤ 1000000 ∧
  Post c W H S h (answerOf (h.step (call k)).2) Q
def spCompare (c : Cs) : Sp := fun vs H Q _ => ∃ (W : Roles) (A : Deed → Addr) (h : House) (S : SA) (k j : Nat), vs = [.ref S.s, nV k, nV j] ∧ SesC c W A H h S ∧
  Post c W H S h (answerOf (h.step (.same k j)).2) Q
theorem told_rows (l : List (Place × Nat)) : (answerOf (Sq33.told l)).map V.int = ((l.map fun q => [q.1.thing, q.2, q.1.label]).length :: (l.map fun q => [q.1.thing, q.2, q.1.label]).flatten).map nV := by
  unfold answerOf Sq33.told
  rw [List.map_cons, ints_map, List.map_cons, List.length_map, List.flatMap_def]
  rfl
theorem log_rows (l : List Deed) : (answerOf ⟨(l.length : Int), Sq33.ints (l.flatMap fun d => [d.desk, d.n])⟩).map V.int = ((l.map fun d => [d.desk, d.n]).length :: (l.map fun d => [d.desk, d.n]).flatten).map nV := by
  unfold answerOf
  rw [List.map_cons, ints_map, List.map_cons, List.length_map, List.flatMap_def]
  rfl
theorem flat3 (l : List (Place × Nat)) : (l.map fun q => [q.1.thing, q.2, q.1.label]).flatten.length = 3 * l.length := by
  induction l with
  | nil => rfl
  | cons q l ih =>
    rw [List.map_cons, List.flatten_cons, List.length_append, ih, List.length_cons, List.length_cons, List.length_cons, List.length_cons, List.length_nil]
    omega
theorem flat2 (l : List Deed) : (l.map fun d => [d.desk, d.n]).flatten.length = 2 * l.length := by
  induction l with
  | nil => rfl
  | cons q l ih =>
    rw [List.map_cons, List.flatten_cons, List.length_append, ih, List.length_cons, List.length_cons, List.length_cons, List.length_nil]
    omega
theorem eqvAll_ints : ∀ l m : List Nat, PyData.eqvAll (l.map fun (n : Nat) => PyData.int (n : Int)) (m.map fun (n : Nat) => PyData.int (n : Int)) = decide (l = m)
  | [], [] => by simp [PyData.eqvAll]
  | [], b :: m => by simp [PyData.eqvAll]
  | a :: l, [] => by simp [PyData.eqvAll]
  | a :: l, b :: m => by
    have ih := eqvAll_ints l m
    rw [List.map_cons, List.map_cons]
    show PyData.eqvAll (_ :: _) (_ :: _) = _
    rw [PyData.eqvAll, ih]
    have e : PyData.eqv (PyData.int (a : Int)) (PyData.int (b : Int)) = decide (a = b) := by
      rw [PyData.eqv]
      by_cases c : a = b
      · rw [c]; simp
      · rw [decide_eq_false c]
        exact beq_eq_false_iff_ne.mpr fun z => c (by omega)
    rw [e]
    by_cases c : a = b
    · rw [decide_eq_true c, Bool.true_and]
      exact decide_eq_decide.mpr ⟨fun z => by rw [c, z], fun z => by injection z⟩
    · rw [decide_eq_false c, Bool.false_and, decide_eq_false fun z => c (by injection z)]
theorem eqv_ints (l m : List Nat) : PyData.eqv (.list (l.map fun (n : Nat) => PyData.int (n : Int))) (.list (m.map fun (n : Nat) => PyData.int (n : Int))) = decide (l = m) := by
  rw [PyData.eqv, eqvAll_ints]
theorem dpAll_ints (K : PySem.W.Frag) (H : Hp) : ∀ l : List Nat, DpAll K H (l.map nV) (l.map fun (n : Nat) => PyData.int (n : Int))
  | [] => .nil
  | n :: l => .cons (.int _) (dpAll_ints K H l)
theorem shaped_ints (l : List Nat) : SeqAt.shaped (.list (l.map fun (n : Nat) => PyData.int (n : Int))) = true := by
  have := PySem.W.ke_shaped_ints (l.map fun (n : Nat) => (n : Int))
  rw [List.map_map] at this
  exact this
section
variable {P : Program} {w : World} {K : PySem.W.Frag} {mg : Str → Option Value} {base : Heap} {c : Cs}
theorem scBelow : FnScope ["self", "replica", "top"] ["self", "replica", "top"] (defScope sBelow) := ⟨rfl, rfl, rfl, by decide +kernel, rfl, by decide +kernel, by decide +kernel⟩
theorem ok_below {f fH fT fR fC : Addr} {fd fdH fdT fdR fdC : FuncData} (F : Fun K "list_below" "Session.list_below" sBelow f fd) (T : Txt K mg c) (GH : FnOk P w K mg base CX0 1 fH fdH ["self", "replica"] (spHasR c)) (bH : Binds K fdH ["self", "replica"] []) (mH : Meth K c.S "has_replica" fH)
    (GT : FnOk P w K mg base CX0 4 fT fdT ["self"] (spTree c)) (bT : Binds K fdT ["self"] []) (mT : Meth K c.R "tree" fT) (GR : FnOk P w K mg base CX0 1 fR fdR ["self", "top"] (spRows c)) (bR : Binds K fdR ["self", "top"] []) (mR : Meth K c.T "rows_below" fR)
    (GC : FnOk P w K mg base CX0 1 fC fdC ["rows"] spCount) (bC : Binds K fdC ["rows"] []) (gC : mg "counted_rows" = some (.ref fC)) (kC : PySem.W.keepIn K (.ref fC) = true) : FnOk P w K mg base CX0 5 f fd ["self", "replica", "top"] (spBelow c) := by
  refine F.ok scBelow (fun vs H Q E h => ?_) (fun cdv A outer s H vs Q E hr h => ?_)
  · obtain ⟨W, A, h, S, k, top, rfl, _⟩ := h
    rfl
  · obtain ⟨W, B, h, S, k, top, rfl, C, htop, hb, q⟩ := h
    obtain ⟨t1, e1⟩ := T.nth
    refine ⟨_, pss_cons (ps_if (pt_not (pt_val (pe_meth (pv 0) T.S.cl mH GH (hr.mono (by decide)) bH .nil pass0 (pa_cons (pv 1) pa_nil)))) (pss_one (ps_ret (pe_lst (pa_cons (pgi rfl e1) pa_nil)))) pss_nil)
      (pss_one (ps_ret (pe_call GC (hr.mono (by decide)) rfl gC kC bC .nil pass0 (pa_cons (pe_meth (pe_meth0 (pe_ix ix_list (pe_fld (pv 0) rfl) (pv 1) (fun _ _ => rfl)) T.R.cl mT GT hr bT .nil pass0) T.T.cl mR GR (hr.mono (by decide)) bR .nil pass0 (pa_cons (pv 2) pa_nil)) pa_nil)))), ?_⟩
    refine ⟨_, rfl, S.s, S.dx, _, rfl, C.hs, fz_no (by decide +kernel), _, rfl, W, B, h, S, k, rfl, C, _, rfl, ?_⟩
    by_cases hk : k < h.hands
    · refine iff_ (by rw [decide_eq_true hk]; rfl) ?_
      rw [if_neg (by omega)] at q
      have hb := hb hk
      obtain ⟨R, eR, CR⟩ := C.get hk
      refine ⟨_, rfl, fld C.hs T.S (i := 0) (by decide +kernel) rfl ⟨_, rfl, S.sr, _, _, .ref R.a, rfl, rfl, SqL.of C.hsr, atI_nat (by rw [List.getElem?_map, eR]; rfl), R.a, R.dx, _, rfl, CR.hr, fz_no (by decide +kernel),
        W, B, k, h.desk k, R, h.hands, h.all, rfl, CR, rep_m C.ok hk, fun g gp gb G H1 n1 n2 n3 s1 tr1 TR => ?_⟩⟩
      obtain ⟨dg, hg⟩ := tr1.ob
      refine ⟨g, dg, _, rfl, hg, fz_no (by decide +kernel), _, rfl, g, gp, gb, G, (h.desk k).tree, top, rfl, tr1, TR, htop, by omega, fun p ts H2 s2 hp hp2 RR => ?_⟩
      refine ⟨p, ts, _, rfl, hp2, RR, ?_, fun r H3 s3 hr3 e3 => ?_⟩
      · rw [List.length_cons, flat3]
        omega
      · refine q.ro' C ((s1.trans s2).trans s3) ((s1.trans s2).free hr3) ?_
        rw [told_rows]
        exact e3
    · refine ift (by rw [decide_eq_false hk]; rfl) ⟨(by show 1 ≤ sizeLine; decide), fun p hp => ?_⟩
      rw [if_pos (by omega)] at q
      exact q.ro C (Same.refl _) hp
theorem scLTree : FnScope ["self", "replica"] ["self", "replica"] (defScope sLTree) := ⟨rfl, rfl, rfl, by decide +kernel, rfl, by decide +kernel, by decide +kernel⟩
theorem ok_ltree {f fB : Addr} {fd fdB : FuncData} (F : Fun K "list_tree" "Session.list_tree" sLTree f fd) (T : Txt K mg c) (GB : FnOk P w K mg base CX0 5 fB fdB ["self", "replica", "top"] (spBelow c)) (bB : Binds K fdB ["self", "replica", "top"] []) (mB : Meth K c.S "list_below" fB) : FnOk P w K mg base CX0 6 f fd ["self", "replica"] (spAsk c .tree) := by
  refine F.ok scLTree (fun vs H Q E h => ?_) (fun cdv A outer s H vs Q E hr h => ?_)
  · obtain ⟨W, A, h, S, k, rfl, _⟩ := h
    rfl
  · obtain ⟨W, B, h, S, k, rfl, C, hb, q⟩ := h
    obtain ⟨t1, e1⟩ := T.root
    refine ⟨_, pss_one (ps_ret (pe_meth (pv 0) T.S.cl mB GB hr bB .nil pass0 (pa_cons (pv 1) (pa_cons (pgi rfl e1) pa_nil)))), ?_⟩
    have e : (h.step (.tree k)).2 = if h.hands ≤ k then Sq33.says (-2) else Sq33.told (Sq28.all (h.desk k).tree 0) := by
      show (if h.hands ≤ k then _ else _ : House × Sq33.Out).2 = _
      by_cases z : h.hands ≤ k
      · rw [if_pos z, if_pos z]
      · rw [if_neg z, if_neg z]
        rfl
    rw [e] at q hb
    refine ⟨_, rfl, S.s, S.dx, _, rfl, C.hs, fz_no (by decide +kernel), _, rfl, W, B, h, S, k, 0, rfl, C, by decide, fun hk => ?_, q⟩
    rw [if_neg (by omega)] at hb
    unfold Sq33.told Sq33.ints at hb
    dsimp only at hb
    rw [List.length_map, List.flatMap_def, flat3] at hb
    omega
theorem scLBin : FnScope ["self", "replica"] ["self", "replica"] (defScope sLBin) := ⟨rfl, rfl, rfl, by decide +kernel, rfl, by decide +kernel, by decide +kernel⟩
theorem ok_lbin {f fB : Addr} {fd fdB : FuncData} (F : Fun K "list_bin" "Session.list_bin" sLBin f fd) (T : Txt K mg c) (GB : FnOk P w K mg base CX0 5 fB fdB ["self", "replica", "top"] (spBelow c)) (bB : Binds K fdB ["self", "replica", "top"] []) (mB : Meth K c.S "list_below" fB) : FnOk P w K mg base CX0 6 f fd ["self", "replica"] (spAsk c .bin) := by
  refine F.ok scLBin (fun vs H Q E h => ?_) (fun cdv A outer s H vs Q E hr h => ?_)
  · obtain ⟨W, A, h, S, k, rfl, _⟩ := h
    rfl
  · obtain ⟨W, B, h, S, k, rfl, C, hb, q⟩ := h
    obtain ⟨t1, e1⟩ := T.bin
    refine ⟨_, pss_one (ps_ret (pe_meth (pv 0) T.S.cl mB GB hr bB .nil pass0 (pa_cons (pv 1) (pa_cons (pgi rfl e1) pa_nil)))), ?_⟩
    have e : (h.step (.bin k)).2 = if h.hands ≤ k then Sq33.says (-2) else Sq33.told (Sq28.all (h.desk k).tree 1) := by
      show (if h.hands ≤ k then _ else _ : House × Sq33.Out).2 = _
      by_cases z : h.hands ≤ k
      · rw [if_pos z, if_pos z]
      · rw [if_neg z, if_neg z]
        rfl
    rw [e] at q hb
    refine ⟨_, rfl, S.s, S.dx, _, rfl, C.hs, fz_no (by decide +kernel), _, rfl, W, B, h, S, k, 1, rfl, C, by decide, fun hk => ?_, q⟩
    rw [if_neg (by omega)] at hb
    unfold Sq33.told Sq33.ints at hb
    dsimp only at hb
    rw [List.length_map, List.flatMap_def, flat3] at hb
    omega
theorem scLLog : FnScope ["self", "replica", "move"] ["self", "replica"] (defScope sLLog) := ⟨rfl, rfl, rfl, by decide +kernel, rfl, by decide +kernel, by decide +kernel⟩
theorem ok_llog {f fH fC : Addr} {fd fdH fdC : FuncData} (F : Fun K "list_log" "Session.list_log" sLLog f fd) (T : Txt K mg c) (GH : FnOk P w K mg base CX0 1 fH fdH ["self", "replica"] (spHasR c)) (bH : Binds K fdH ["self", "replica"] []) (mH : Meth K c.S "has_replica" fH)
    (GC : FnOk P w K mg base CX0 1 fC fdC ["rows"] spCount) (bC : Binds K fdC ["rows"] []) (gC : mg "counted_rows" = some (.ref fC)) (kC : PySem.W.keepIn K (.ref fC) = true) : FnOk P w K mg base CX0 2 f fd ["self", "replica"] (spAsk c .kept) := by
  refine F.ok scLLog (fun vs H Q E h => ?_) (fun cdv A outer s H vs Q E hr h => ?_)
  · obtain ⟨W, A, h, S, k, rfl, _⟩ := h
    rfl
  · obtain ⟨W, B, h, S, k, rfl, C, hb, q⟩ := h
    obtain ⟨t1, e1⟩ := T.nth
    refine ⟨_, pss_cons (ps_if (pt_not (pt_val (pe_meth (pv 0) T.S.cl mH GH hr bH .nil pass0 (pa_cons (pv 1) pa_nil)))) (pss_one (ps_ret (pe_lst (pa_cons (pgi rfl e1) pa_nil)))) pss_nil)
      (pss_one (ps_ret (pe_call GC hr rfl gC kC bC .nil pass0 (pa_cons (pe_lc (own := [("move", 2)]) (g := gName 2) (te := tTup (tCons (tFld K (tVar 2) "origin") (tCons (tFld K (tVar 2) "number") tNil))) rfl scLLog.nd (pi_list (pe_fld (pe_ix ix_list (pe_fld (pv 0) rfl) (pv 1) (fun _ _ => rfl)) rfl)) (blkOk_by (N := ["self", "replica", "move"]) (sc := defScope sLLog) (by decide +kernel))
        (fun _ _ _ _ _ => pg_name (i := 2) scLLog.nd rfl (Or.inl rfl) (hf := Or.inr rfl)) (fun _ _ _ _ _ => pts_nil) (fun _ _ _ _ _ => pe_tup (pa_cons (pe_fld (pv 2) rfl) (pa_cons (pe_fld (pv 2) rfl) pa_nil)))) pa_nil)))), ?_⟩
    refine ⟨_, rfl, S.s, S.dx, _, rfl, C.hs, fz_no (by decide +kernel), _, rfl, W, B, h, S, k, rfl, C, _, rfl, ?_⟩
    by_cases hk : k < h.hands
    · refine iff_ (by rw [decide_eq_true hk]; rfl) ?_
      have e : (h.step (.kept k)).2 = ⟨((h.desk k).kept.length : Int), Sq33.ints ((h.desk k).kept.flatMap fun d => [d.desk, d.n])⟩ := by
        show (if h.hands ≤ k then _ else _ : House × Sq33.Out).2 = _
        rw [if_neg (by omega)]
      rw [e] at q
      obtain ⟨R, eR, CR⟩ := C.get hk
      have M := rep_m C.ok hk
      refine ⟨_, rfl, fld C.hs T.S (i := 0) (by decide +kernel) rfl ⟨_, rfl, S.sr, _, _, .ref R.a, rfl, rfl, SqL.of C.hsr, atI_nat (by rw [List.getElem?_map, eR]; rfl), fld CR.hr T.R (i := 3) (by decide +kernel) rfl
        ⟨R.al, rfl, ⟨_, SqL.of CR.hl⟩, fun D hD => lc_list (K := K) (a := R.al) (xs := (h.desk k).kept.map fun d => .ref (B d))
          (fun i H1 => ∃ ts : List Addr, Same H H1 ∧ H1 D = some (.lst (ts.map V.ref)) ∧ RowsAt H1 ts (((h.desk k).kept.take i).map fun d => [d.desk, d.n])) ⟨[], same_upd hD, upd_same, RowsAt.nil _⟩ (fun i H1 _ ⟨_, s1, _⟩ => SqL.of (s1 _ _ CR.hl)) ?_ ?_⟩⟩⟩
      · rintro i v H1 hi ⟨ts, s1, h1, RR⟩
        rw [List.getElem?_map] at hi
        cases ed : (h.desk k).kept[i]? with
        | none => rw [ed] at hi; cases hi
        | some d =>
          rw [ed] at hi
          cases hi
          obtain ⟨dd, hm⟩ := (CR.mv d (List.mem_of_getElem? ed)).1.same s1
          refine ⟨rfl, ⟨_, rfl, fld hm T.M (i := 0) (by decide +kernel) rfl ⟨_, rfl, fld hm T.M (i := 1) (by decide +kernel) rfl ⟨(by show 2 ≤ sizeLine; decide), fun t ht => ⟨ts.map V.ref, ?_, ?_, ts ++ [t], Same.upd' (Same.upd' s1 (s1.free ht)) hD, ?_, ?_⟩⟩⟩⟩⟩
          · rw [upd_ne (ne_of_none h1 ht)]
            exact h1
          · rw [List.length_map, RR.1, List.length_map]
            exact Nat.lt_of_le_of_lt (Nat.le_trans (List.take_sublist _ _).length_le M.few) (by decide)
          · rw [upd_same, List.map_append]
            rfl
          · rw [take_snoc ed, List.map_append]
            have nDt : D ≠ t := ne_of_none h1 ht
            refine RowsAt.snoc (RR.keep fun b xs e => ?_) ?_
            · rw [upd_ne (ne_of e h1 (by intro z; cases z)), upd_ne (ne_of_none e ht)]
              exact e
            · rw [upd_ne nDt.symm, upd_same]
              rfl
      · rintro H1 ⟨ts, s1, h1, RR⟩
        rw [List.length_map, List.take_length] at RR
        have few := M.few
        refine ⟨D, ts, _, rfl, h1, RR, ?_, fun r H3 s3 hr3 e3 => ?_⟩
        · rw [List.length_cons, flat2]
          omega
        · refine q.ro' C (s1.trans s3) (s1.free hr3) ?_
          rw [log_rows]
          exact e3
    · refine ift (by rw [decide_eq_false hk]; rfl) ⟨(by show 1 ≤ sizeLine; decide), fun p hp => ?_⟩
      have e : (h.step (.kept k)).2 = Sq33.says (-2) := by
        show (if h.hands ≤ k then _ else _ : House × Sq33.Out).2 = _
        rw [if_pos (by omega)]
      rw [e] at q
      exact q.ro C (Same.refl _) hp
theorem scTHor : FnScope ["self", "replica", "asked"] ["self", "replica"] (defScope sTHor) := ⟨rfl, rfl, rfl, by decide +kernel, rfl, by decide +kernel, by decide +kernel⟩
theorem ok_thor {f fH fZ fO : Addr} {fd fdH fdZ fdO : FuncData} (F : Fun K "tell_horizon" "Session.tell_horizon" sTHor f fd) (T : Txt K mg c) (GH : FnOk P w K mg base CX0 1 fH fdH ["self", "replica"] (spHasR c)) (bH : Binds K fdH ["self", "replica"] []) (mH : Meth K c.S "has_replica" fH)
    (GZ : FnOk P w K mg base CX0 1 fZ fdZ ["self"] (spHor c)) (bZ : Binds K fdZ ["self"] []) (mZ : Meth K c.R "horizon" fZ) (GO : FnOk P w K mg base CX0 1 fO fdO ["self"] (spOwn c)) (bO : Binds K fdO ["self"] []) (mO : Meth K c.R "own_counts" fO) : FnOk P w K mg base CX0 2 f fd ["self", "replica"] (spAsk c .settled) := by
  refine F.ok scTHor (fun vs H Q E h => ?_) (fun cdv A outer s H vs Q E hr h => ?_)
  · obtain ⟨W, A, h, S, k, rfl, _⟩ := h
    rfl
  · obtain ⟨W, B, h, S, k, rfl, C, hb, q⟩ := h
    obtain ⟨t1, e1⟩ := T.nth
    refine ⟨_, pss_cons (ps_if (pt_not (pt_val (pe_meth (pv 0) T.S.cl mH GH hr bH .nil pass0 (pa_cons (pv 1) pa_nil)))) (pss_one (ps_ret (pe_lst (pa_cons (pgi rfl e1) pa_nil)))) pss_nil)
      (pss_cons (ps_set (i := 2) scTHor.nd rfl (Or.inl rfl) (pe_ix ix_list (pe_fld (pv 0) rfl) (pv 1) (fun _ _ => rfl)))
      (pss_one (ps_ret (pe_op op_cat (pe_lst (pa_cons (pe_meth0 (pv 2) T.R.cl mZ GZ hr bZ .nil pass0) pa_nil)) (pe_meth0 (pv 2) T.R.cl mO GO hr bO .nil pass0))))), ?_⟩
    refine ⟨_, rfl, S.s, S.dx, _, rfl, C.hs, fz_no (by decide +kernel), _, rfl, W, B, h, S, k, rfl, C, _, rfl, ?_⟩
    by_cases hk : k < h.hands
    · refine iff_ (by rw [decide_eq_true hk]; rfl) ?_
      have e : (h.step (.settled k)).2 = ⟨(h.settled k : Int), Sq33.ints (h.desk k).has⟩ := by
        show (if h.hands ≤ k then _ else _ : House × Sq33.Out).2 = _
        rw [if_neg (by omega)]
      rw [e] at q
      obtain ⟨R, eR, CR⟩ := C.get hk
      have M := rep_m C.ok hk
      refine ⟨_, rfl, fld C.hs T.S (i := 0) (by decide +kernel) rfl ⟨_, rfl, S.sr, _, _, .ref R.a, rfl, rfl, SqL.of C.hsr, atI_nat (by rw [List.getElem?_map, eR]; rfl), ?_⟩⟩
      refine ⟨_, rfl, R.a, R.dx, _, rfl, CR.hr, fz_no (by decide +kernel), W, B, k, h.desk k, R, h.hands, h.all, rfl, CR, M, fun m hm hmin => ⟨(by show 1 ≤ sizeLine; decide), fun l hl => ?_⟩⟩
      obtain ⟨s1, s2⟩ := settled_min C.ok hk
      have em : h.settled k = m := min_uniq s1 s2 hm hmin
      subst em
      have CR1 : RepD c W B (upd H l (.lst [nV (h.settled k)])) k (h.desk k) R := CR.same (fun _ _ _ => rfl) (same_upd hl)
      refine ⟨_, rfl, R.a, R.dx, _, rfl, CR1.hr, fz_no (by decide +kernel), W, B, k, h.desk k, R, h.hands, h.all, rfl, CR1, M, fun r er hrow => ?_⟩
      refine ⟨l, r, _, _, rfl, rfl, upd_same, hrow, ?_, fun p hp => ?_⟩
      · rw [List.length_map, M.D.has]
        have := M.n6
        exact Nat.le_trans (m := 7) (by show 1 + h.hands ≤ 7; omega) (by decide)
      · have eo : [nV (h.settled k)] ++ (h.desk k).has.map nV = (answerOf ⟨(h.settled k : Int), Sq33.ints (h.desk k).has⟩).map V.int := by
          unfold answerOf
          rw [List.map_cons, ints_map]
          rfl
        rw [eo]
        exact q.ro C (same_upd hl) hp
    · refine ift (by rw [decide_eq_false hk]; rfl) ⟨(by show 1 ≤ sizeLine; decide), fun p hp => ?_⟩
      have e : (h.step (.settled k)).2 = Sq33.says (-2) := by
        show (if h.hands ≤ k then _ else _ : House × Sq33.Out).2 = _
        rw [if_pos (by omega)]
      rw [e] at q
      exact q.ro C (Same.refl _) hp
theorem scCCmp : FnScope ["self", "replica"] ["self", "replica"] (defScope sCCmp) := ⟨rfl, rfl, rfl, by decide +kernel, rfl, by decide +kernel, by decide +kernel⟩
theorem ok_ccmp {f fH fM : Addr} {fd fdH fdM : FuncData} (F : Fun K "count_compactable" "Session.count_compactable" sCCmp f fd) (T : Txt K mg c) (GH : FnOk P w K mg base CX0 1 fH fdH ["self", "replica"] (spHasR c)) (bH : Binds K fdH ["self", "replica"] []) (mH : Meth K c.S "has_replica" fH)
    (GM : FnOk P w K mg base CX0 2 fM fdM ["self"] (spCmp c)) (bM : Binds K fdM ["self"] []) (mM : Meth K c.R "compactable_moves" fM) : FnOk P w K mg base CX0 3 f fd ["self", "replica"] (spAsk c .ripe) := by
  refine F.ok scCCmp (fun vs H Q E h => ?_) (fun cdv A outer s H vs Q E hr h => ?_)
  · obtain ⟨W, A, h, S, k, rfl, _⟩ := h
    rfl
  · obtain ⟨W, B, h, S, k, rfl, C, hb, q⟩ := h
    obtain ⟨t1, e1⟩ := T.nth
    refine ⟨_, pss_cons (ps_if (pt_not (pt_val (pe_meth (pv 0) T.S.cl mH GH (hr.mono (by decide)) bH .nil pass0 (pa_cons (pv 1) pa_nil)))) (pss_one (ps_ret (pe_lst (pa_cons (pgi rfl e1) pa_nil)))) pss_nil)
      (pss_one (ps_ret (pe_lst (pa_cons (pe_callB call_len_seq (by rfl) T.len PySem.boot_len (pa_cons (pe_meth0 (pe_ix ix_list (pe_fld (pv 0) rfl) (pv 1) (fun _ _ => rfl)) T.R.cl mM GM hr bM .nil pass0) pa_nil)) pa_nil)))), ?_⟩
    refine ⟨_, rfl, S.s, S.dx, _, rfl, C.hs, fz_no (by decide +kernel), _, rfl, W, B, h, S, k, rfl, C, _, rfl, ?_⟩
    by_cases hk : k < h.hands
    · refine iff_ (by rw [decide_eq_true hk]; rfl) ?_
      have e : (h.step (.ripe k)).2 = Sq33.says (h.ripe k).length := by
        show (if h.hands ≤ k then _ else _ : House × Sq33.Out).2 = _
        rw [if_neg (by omega)]
      rw [e] at q
      obtain ⟨R, eR, CR⟩ := C.get hk
      refine ⟨_, rfl, fld C.hs T.S (i := 0) (by decide +kernel) rfl ⟨_, rfl, S.sr, _, _, .ref R.a, rfl, rfl, SqL.of C.hsr, atI_nat (by rw [List.getElem?_map, eR]; rfl), R.a, R.dx, _, rfl, CR.hr, fz_no (by decide +kernel),
        W, B, k, h.desk k, R, h.hands, h.all, h.ripe k, rfl, CR, rep_m C.ok hk, ripe_is C.ok hk, fun p H1 s1 hp hp1 => ⟨p, _, rfl, .inl (SqL.of hp1), (by show 1 ≤ sizeLine; decide), fun r hr1 => ?_⟩⟩⟩
      rw [List.length_map]
      exact q.ro C s1 hr1
    · refine ift (by rw [decide_eq_false hk]; rfl) ⟨(by show 1 ≤ sizeLine; decide), fun p hp => ?_⟩
      have e : (h.step (.ripe k)).2 = Sq33.says (-2) := by
        show (if h.hands ≤ k then _ else _ : House × Sq33.Out).2 = _
        rw [if_pos (by omega)]
      rw [e] at q
      exact q.ro C (Same.refl _) hp
theorem scCompare : FnScope ["self", "replica", "other", "one", "two", "same_counts", "same_tree"] ["self", "replica", "other"] (defScope sCompare) := ⟨rfl, rfl, rfl, by decide +kernel, rfl, by decide +kernel, by decide +kernel⟩
theorem ok_compare {f fH fT fE fO : Addr} {fd fdH fdT fdE fdO : FuncData} (F : Fun K "compare_replicas" "Session.compare_replicas" sCompare f fd) (T : Txt K mg c) (GH : FnOk P w K mg base CX0 1 fH fdH ["self", "replica"] (spHasR c)) (bH : Binds K fdH ["self", "replica"] []) (mH : Meth K c.S "has_replica" fH)
    (GT : FnOk P w K mg base CX0 4 fT fdT ["self"] (spTree c)) (bT : Binds K fdT ["self"] []) (mT : Meth K c.R "tree" fT) (GE : FnOk P w K mg base CX0 1 fE fdE ["self", "other"] (spSame c)) (bE : Binds K fdE ["self", "other"] []) (mE : Meth K c.T "same_as" fE)
    (GO : FnOk P w K mg base CX0 1 fO fdO ["self"] (spOwn c)) (bO : Binds K fdO ["self"] []) (mO : Meth K c.R "own_counts" fO) : FnOk P w K mg base CX0 5 f fd ["self", "replica", "other"] (spCompare c) := by
  refine F.ok scCompare (fun vs H Q E h => ?_) (fun cdv A outer s H vs Q E hr h => ?_)
  · obtain ⟨W, A, h, S, k, j, rfl, _⟩ := h
    rfl
  · obtain ⟨W, B, h, S, k, j, rfl, C, q⟩ := h
    obtain ⟨t1, e1⟩ := T.nth
    refine ⟨_, pss_cons (ps_if (PW.pt (pw_or (pt_not (pt_val (pe_meth (pv 0) T.S.cl mH GH (hr.mono (by decide)) bH .nil pass0 (pa_cons (pv 1) pa_nil)))) (pw_or1 (pt_not (pt_val (pe_meth (pv 0) T.S.cl mH GH (hr.mono (by decide)) bH .nil pass0 (pa_cons (pv 2) pa_nil))))))) (pss_one (ps_ret (pe_lst (pa_cons (pgi rfl e1) pa_nil)))) pss_nil)
      (pss_cons (ps_set (i := 3) scCompare.nd rfl (Or.inl rfl) (pe_ix ix_list (pe_fld (pv 0) rfl) (pv 1) (fun _ _ => rfl)))
      (pss_cons (ps_set (i := 4) scCompare.nd rfl (Or.inl rfl) (pe_ix ix_list (pe_fld (pv 0) rfl) (pv 2) (fun _ _ => rfl)))
      (pss_cons (ps_set (i := 5) scCompare.nd rfl (Or.inl rfl) (pe_cmpR (op_eqD hr.units) (pe_meth0 (pv 3) T.R.cl mO GO (hr.mono (by decide)) bO .nil pass0) (pe_meth0 (pv 4) T.R.cl mO GO (hr.mono (by decide)) bO .nil pass0) (nomark _)))
      (pss_cons (ps_set (i := 6) scCompare.nd rfl (Or.inl rfl) (pe_meth (pe_meth0 (pv 3) T.R.cl mT GT hr bT .nil pass0) T.T.cl mE GE (hr.mono (by decide)) bE .nil pass0 (pa_cons (pe_meth0 (pv 4) T.R.cl mT GT hr bT .nil pass0) pa_nil)))
      (pss_one (ps_ret (pe_lst (pa_cons (pe_callTy call_int1 (by rfl) T.int (by decide +kernel) (pa_cons (pv 5) pa_nil)) (pa_cons (pe_callTy call_int1 (by rfl) T.int (by decide +kernel) (pa_cons (pv 6) pa_nil)) pa_nil))))))))), ?_⟩
    have bad : (h.hands ≤ k ∨ h.hands ≤ j) → ∀ p, H p = none → Q (.ref p) (upd H p (.lst [.int (-2)])) := fun z p hp => by
      have e : (h.step (.same k j)).2 = Sq33.says (-2) := by
        show (if h.hands ≤ k ∨ h.hands ≤ j then _ else _ : House × Sq33.Out).2 = _
        rw [if_pos z]
      rw [e] at q
      exact q.ro C (Same.refl _) hp
    refine ⟨_, rfl, S.s, S.dx, _, rfl, C.hs, fz_no (by decide +kernel), _, rfl, W, B, h, S, k, rfl, C, _, rfl, ?_⟩
    by_cases hk : k < h.hands
    · refine iff_ (by rw [decide_eq_true hk]; rfl) ?_
      refine ⟨_, rfl, S.s, S.dx, _, rfl, C.hs, fz_no (by decide +kernel), _, rfl, W, B, h, S, j, rfl, C, _, rfl, ?_⟩
      by_cases hj : j < h.hands
      · refine iff_ (by rw [decide_eq_true hj]; rfl) ?_
        have e : (h.step (.same k j)).2 = ⟨if (h.desk k).has = (h.desk j).has then 1 else 0, [if (h.desk k).tree = (h.desk j).tree then 1 else 0]⟩ := by
          show (if h.hands ≤ k ∨ h.hands ≤ j then _ else _ : House × Sq33.Out).2 = _
          rw [if_neg (by omega)]
        rw [e] at q
        obtain ⟨R, eR, CR⟩ := C.get hk
        obtain ⟨R2, eR2, CR2⟩ := C.get hj
        have M := rep_m C.ok hk
        have M2 := rep_m C.ok hj
        refine ⟨_, rfl, fld C.hs T.S (i := 0) (by decide +kernel) rfl ⟨_, rfl, S.sr, _, _, .ref R.a, rfl, rfl, SqL.of C.hsr, atI_nat (by rw [List.getElem?_map, eR]; rfl), ?_⟩⟩
        refine ⟨_, rfl, fld C.hs T.S (i := 0) (by decide +kernel) rfl ⟨_, rfl, S.sr, _, _, .ref R2.a, rfl, rfl, SqL.of C.hsr, atI_nat (by rw [List.getElem?_map, eR2]; rfl), ?_⟩⟩
        -- same_counts
        refine ⟨_, rfl, R.a, R.dx, _, rfl, CR.hr, fz_no (by decide +kernel), W, B, k, h.desk k, R, h.hands, h.all, rfl, CR, M, fun r er hrow => ?_⟩
        refine ⟨_, rfl, R2.a, R2.dx, _, rfl, CR2.hr, fz_no (by decide +kernel), W, B, j, h.desk j, R2, h.hands, h.all, rfl, CR2, M2, fun r2 er2 hrow2 => ?_⟩
        refine ⟨_, _, .lst (SqL.of hrow) (dpAll_ints K H _), .lst (SqL.of hrow2) (dpAll_ints K H _), shaped_ints _, shaped_ints _, ?_⟩
        rw [eqv_ints]
        -- same_tree
        refine ⟨_, rfl, R.a, R.dx, _, rfl, CR.hr, fz_no (by decide +kernel), W, B, k, h.desk k, R, h.hands, h.all, rfl, CR, M, fun g gp gb G H1 n1 n2 n3 s1 tr1 TR1 => ?_⟩
        have CR2' : RepD c W B H1 j (h.desk j) R2 := CR2.same (fun _ _ _ => rfl) s1
        obtain ⟨dg, hg⟩ := tr1.ob
        refine ⟨g, dg, _, rfl, hg, fz_no (by decide +kernel), _, rfl, R2.a, R2.dx, _, rfl, CR2'.hr, fz_no (by decide +kernel), W, B, j, h.desk j, R2, h.hands, h.all, rfl, CR2', M2, fun u up ub U H2 m1 m2 m3 s2 tr2 TR2 => ?_⟩
        refine ⟨g, gp, gb, u, up, ub, G, U, rfl, tr1.same s2, tr2, TR1.okT.keys, TR2.okT.keys, fun b hb => ?_⟩
        refine ⟨_, rfl, .inr ⟨_, rfl, _, rfl, .inr ⟨_, rfl, (by show 2 ≤ sizeLine; decide), fun p hp => ?_⟩⟩⟩
        have hb2 : b = decide ((h.desk k).tree = (h.desk j).tree) := by
          have := TR1.same TR2
          by_cases z : (h.desk k).tree = (h.desk j).tree
          · rw [decide_eq_true z]
            exact hb.mpr (this.mp z)
          · rw [decide_eq_false z]
            cases b with
            | false => rfl
            | true => exact (z (this.mpr (hb.mp rfl))).elim
        have eo : [V.int (if decide ((h.desk k).has = (h.desk j).has) = true then 1 else 0), V.int (if b = true then 1 else 0)] = (answerOf ⟨if (h.desk k).has = (h.desk j).has then 1 else 0, [if (h.desk k).tree = (h.desk j).tree then 1 else 0]⟩).map V.int := by
          rw [hb2]
          unfold answerOf
          simp only [decide_eq_true_eq, List.map_cons, List.map_nil]
        rw [eo]
        exact q.ro C (s1.trans s2) hp
      · refine ift (by rw [decide_eq_false hj]; rfl) ⟨(by show 1 ≤ sizeLine; decide), fun p hp => bad (.inr (by omega)) p hp⟩
    · refine ift (by rw [decide_eq_false hk]; rfl) ?_
      exact ift rfl ⟨(by show 1 ≤ sizeLine; decide), fun p hp => bad (.inl (by omega)) p hp⟩
end
end My
namespace My
open PySem hiding Place
open PySem.Spec PyProof.Rows L2
open Sq28 (Place Tree)
open Sq33 (Deed Desk House Letter Counts at_ most)
/-- a method that keeps its promise -/
structure MthOk (P : Program) (w : World) (K : PySem.W.Frag) (mg : Str → Option Value) (base : Heap) (C : Addr) (m : Str) (k : Nat) (ps : List Str) (sp : Sp) : Prop where
  ex : ∃ (f : Addr) (fd : FuncData), Meth K C m f ∧ FnOk P w K mg base CX0 k f fd ps sp ∧ Binds K fd ps []
def spCall (K : PySem.W.Frag) (c : Cs) : Sp := fun vs H Q _ => ∃ (W : Roles) (A : Deed → Addr) (h : House) (S : SA) (a : Addr) (cs : List Nat) (x : Sq33.Call), vs = [.ref S.s, .ref a] ∧ SqL K H a (cs.map nV) ∧ IsCall cs x ∧ SesC c W A H h S ∧ (h.step x).2.out.length ≤ 1000000 ∧
  Post c W H S (h.step x).1 (answerOf (h.step x).2) Q
theorem same_tree (h : House) (k : Nat) : (h.step (.tree k)).1 = h := by
  show (if h.hands ≤ k then _ else _ : House × Sq33.Out).1 = h
  split <;> rfl
theorem same_bin (h : House) (k : Nat) : (h.step (.bin k)).1 = h := by
  show (if h.hands ≤ k then _ else _ : House × Sq33.Out).1 = h
  split <;> rfl
theorem same_kept (h : House) (k : Nat) : (h.step (.kept k)).1 = h := by
  show (if h.hands ≤ k then _ else _ : House × Sq33.Out).1 = h
  split <;> rfl
theorem same_settled (h : House) (k : Nat) : (h.step (.settled k)).1 = h := by
  show (if h.hands ≤ k then _ else _ : House × Sq33.Out).1 = h
  split <;> rfl
theorem same_ripe (h : House) (k : Nat) : (h.step (.ripe k)).1 = h := by
  show (if h.hands ≤ k then _ else _ : House × Sq33.Out).1 = h
  split <;> rfl
theorem same_same (h : House) (k j : Nat) : (h.step (.same k j)).1 = h := by
  show (if h.hands ≤ k ∨ h.hands ≤ j then _ else _ : House × Sq33.Out).1 = h
  split <;> rfl
def spAns (K : PySem.W.Frag) : Sp := fun vs H Q _ => ∃ (a : Addr) (ns : List Int), vs = [.ref a] ∧ SqL K H a (ns.map V.int) ∧ PySq33.answers_asked ns = true ∧ (∀ z ∈ ns, 0 ≤ z) ∧
  ∀ (H' : Hp) (p : Addr), H' p = some (.lst ((PySq33.answers ns).map V.int)) → Q (.ref p) H'
theorem SqL.keep {K : PySem.W.Frag} {H H' : Hp} {a : Addr} {xs : List V} (h : SqL K H a xs) (k : ∀ o, H a = some o → H' a = some o) : SqL K H' a xs := by
  rcases h with (h | ⟨o, h⟩) | h
  · exact .inl (.inl (k _ h))
  · exact .inl (.inr ⟨o, k _ h⟩)
  · exact .inr h
theorem cut_mid (xs : List V) {i n : Nat} (h : i + 1 + n ≤ xs.length) : cutV xs (some (i : Int)) (some ((i + 1 + n : Nat) : Int)) = (xs.drop i).take (n + 1) := by
  unfold cutV
  have h1 : min i xs.length = i := by omega
  have h2 : min (i + 1 + n) xs.length = i + 1 + n := by omega
  rw [HT.sIx_nat, HT.sIx_nat, h1, h2]
  congr 1
  omega
section
variable {P : Program} {w : World} {K : PySem.W.Frag} {mg : Str → Option Value} {base : Heap} {c : Cs}
theorem scCall : FnScope ["session", "call", "operation"] ["session", "call"] (defScope sCall) := ⟨rfl, rfl, rfl, by decide +kernel, rfl, by decide +kernel, by decide +kernel⟩
theorem ok_call {f : Addr} {fd : FuncData} (F : Fun K "answer_call" "answer_call" sCall f fd) (T : Txt K mg c)
    (M1 : MthOk P w K mg base c.S "begin" 6 ["self", "replica_count"] (spBegin c)) (M2 : MthOk P w K mg base c.S "make_move" 6 ["self", "replica", "node", "parent", "label"] (spSMove c)) (M3 : MthOk P w K mg base c.S "send_message" 4 ["self", "sender", "receiver"] (spSend c))
    (M4 : MthOk P w K mg base c.S "deliver_message" 5 ["self", "number"] (spDeliver c)) (M5 : MthOk P w K mg base c.S "compact_log" 4 ["self", "replica"] (spSComp c)) (M6 : MthOk P w K mg base c.S "list_tree" 6 ["self", "replica"] (spAsk c .tree))
    (M7 : MthOk P w K mg base c.S "list_bin" 6 ["self", "replica"] (spAsk c .bin)) (M8 : MthOk P w K mg base c.S "list_log" 2 ["self", "replica"] (spAsk c .kept)) (M9 : MthOk P w K mg base c.S "tell_horizon" 2 ["self", "replica"] (spAsk c .settled))
    (M10 : MthOk P w K mg base c.S "count_compactable" 3 ["self", "replica"] (spAsk c .ripe)) (M11 : MthOk P w K mg base c.S "compare_replicas" 5 ["self", "replica", "other"] (spCompare c)) : FnOk P w K mg base CX0 7 f fd ["session", "call"] (spCall K c) := by
  refine F.ok scCall (fun vs H Q E h => ?_) (fun cdv A outer s H vs Q E hr h => ?_)
  · obtain ⟨W, A, h, S, a, cs, x, rfl, _⟩ := h
    rfl
  · obtain ⟨W, B, h, S, a, cs, x, rfl, hS, hc, C, hb, q⟩ := h
    obtain ⟨⟨f1, fd1, m1, G1, b1⟩⟩ := M1
    obtain ⟨⟨f2, fd2, m2, G2, b2⟩⟩ := M2
    obtain ⟨⟨f3, fd3, m3, G3, b3⟩⟩ := M3
    obtain ⟨⟨f4, fd4, m4, G4, b4⟩⟩ := M4
    obtain ⟨⟨f5, fd5, m5, G5, b5⟩⟩ := M5
    obtain ⟨⟨f6, fd6, m6, G6, b6⟩⟩ := M6
    obtain ⟨⟨f7, fd7, m7, G7, b7⟩⟩ := M7
    obtain ⟨⟨f8, fd8, m8, G8, b8⟩⟩ := M8
    obtain ⟨⟨f9, fd9, m9, G9, b9⟩⟩ := M9
    obtain ⟨⟨f10, fd10, m10, G10, b10⟩⟩ := M10
    obtain ⟨⟨f11, fd11, m11, G11, b11⟩⟩ := M11
    obtain ⟨u1, n1⟩ := T.n1
    obtain ⟨u2, n2⟩ := T.n2
    obtain ⟨u3, n3⟩ := T.n3
    obtain ⟨u4, n4⟩ := T.n4
    obtain ⟨u5, n5⟩ := T.n5
    obtain ⟨u6, n6⟩ := T.n6
    obtain ⟨u7, n7⟩ := T.n7
    obtain ⟨u8, n8⟩ := T.n8
    obtain ⟨u9, n9⟩ := T.n9
    obtain ⟨u10, n10⟩ := T.n10
    refine ⟨_, pss_cons (ps_set (i := 2) scCall.nd rfl (Or.inl rfl) (pe_ix ix_list (pv 1) pe_int (fun _ _ => rfl)))
      (pss_cons (ps_if (pt_cmpR op_eq (pv 2) (pgi rfl n1) (nomark _)) (pss_one (ps_ret (pe_meth (pv 0) T.S.cl m1 G1 hr b1 .nil pass0 (pa_cons (pe_ix ix_list (pv 1) pe_int (fun _ _ => rfl)) pa_nil)))) pss_nil)
      (pss_cons (ps_if (pt_cmpR op_eq (pv 2) (pgi rfl n2) (nomark _)) (pss_one (ps_ret (pe_meth (pv 0) T.S.cl m2 G2 hr b2 .nil pass0 (pa_cons (pe_ix ix_list (pv 1) pe_int (fun _ _ => rfl)) (pa_cons (pe_ix ix_list (pv 1) pe_int (fun _ _ => rfl)) (pa_cons (pe_ix ix_list (pv 1) pe_int (fun _ _ => rfl)) (pa_cons (pe_ix ix_list (pv 1) pe_int (fun _ _ => rfl)) pa_nil))))))) pss_nil)
      (pss_cons (ps_if (pt_cmpR op_eq (pv 2) (pgi rfl n3) (nomark _)) (pss_one (ps_ret (pe_meth (pv 0) T.S.cl m3 G3 (hr.mono (by decide)) b3 .nil pass0 (pa_cons (pe_ix ix_list (pv 1) pe_int (fun _ _ => rfl)) (pa_cons (pe_ix ix_list (pv 1) pe_int (fun _ _ => rfl)) pa_nil))))) pss_nil)
      (pss_cons (ps_if (pt_cmpR op_eq (pv 2) (pgi rfl n4) (nomark _)) (pss_one (ps_ret (pe_meth (pv 0) T.S.cl m4 G4 (hr.mono (by decide)) b4 .nil pass0 (pa_cons (pe_ix ix_list (pv 1) pe_int (fun _ _ => rfl)) pa_nil)))) pss_nil)
      (pss_cons (ps_if (pt_cmpR op_eq (pv 2) (pgi rfl n5) (nomark _)) (pss_one (ps_ret (pe_meth (pv 0) T.S.cl m5 G5 (hr.mono (by decide)) b5 .nil pass0 (pa_cons (pe_ix ix_list (pv 1) pe_int (fun _ _ => rfl)) pa_nil)))) pss_nil)
      (pss_cons (ps_if (pt_cmpR op_eq (pv 2) (pgi rfl n6) (nomark _)) (pss_one (ps_ret (pe_meth (pv 0) T.S.cl m6 G6 hr b6 .nil pass0 (pa_cons (pe_ix ix_list (pv 1) pe_int (fun _ _ => rfl)) pa_nil)))) pss_nil)
      (pss_cons (ps_if (pt_cmpR op_eq (pv 2) (pgi rfl n7) (nomark _)) (pss_one (ps_ret (pe_meth (pv 0) T.S.cl m7 G7 hr b7 .nil pass0 (pa_cons (pe_ix ix_list (pv 1) pe_int (fun _ _ => rfl)) pa_nil)))) pss_nil)
      (pss_cons (ps_if (pt_cmpR op_eq (pv 2) (pgi rfl n8) (nomark _)) (pss_one (ps_ret (pe_meth (pv 0) T.S.cl m8 G8 (hr.mono (by decide)) b8 .nil pass0 (pa_cons (pe_ix ix_list (pv 1) pe_int (fun _ _ => rfl)) pa_nil)))) pss_nil)
      (pss_cons (ps_if (pt_cmpR op_eq (pv 2) (pgi rfl n9) (nomark _)) (pss_one (ps_ret (pe_meth (pv 0) T.S.cl m9 G9 (hr.mono (by decide)) b9 .nil pass0 (pa_cons (pe_ix ix_list (pv 1) pe_int (fun _ _ => rfl)) pa_nil)))) pss_nil)
      (pss_cons (ps_if (pt_cmpR op_eq (pv 2) (pgi rfl n10) (nomark _)) (pss_one (ps_ret (pe_meth (pv 0) T.S.cl m10 G10 (hr.mono (by decide)) b10 .nil pass0 (pa_cons (pe_ix ix_list (pv 1) pe_int (fun _ _ => rfl)) pa_nil)))) pss_nil)
      (pss_one (ps_ret (pe_meth (pv 0) T.S.cl m11 G11 (hr.mono (by decide)) b11 .nil pass0 (pa_cons (pe_ix ix_list (pv 1) pe_int (fun _ _ => rfl)) (pa_cons (pe_ix ix_list (pv 1) pe_int (fun _ _ => rfl)) pa_nil))))))))))))))), ?_⟩
    cases hc with
    | c1 i =>
      refine ⟨_, rfl, a, _, _, nV 1, rfl, rfl, hS, atI_nat (j := 0) rfl, ?_⟩
      refine ⟨_, rfl, rfl, _, rfl, ift (by decide +kernel) ?_⟩
      exact ⟨_, rfl, S.s, S.dx, _, rfl, C.hs, fz_no (by decide +kernel), _, rfl, a, _, _, nV i, rfl, rfl, hS, atI_nat (j := 1) rfl, W, B, h, S, i, rfl, C, q⟩
    | c2 i x u v =>
      refine ⟨_, rfl, a, _, _, nV 2, rfl, rfl, hS, atI_nat (j := 0) rfl, ?_⟩
      refine ⟨_, rfl, rfl, _, rfl, iff_ (by decide +kernel) ?_⟩
      refine ⟨_, rfl, rfl, _, rfl, ift (by decide +kernel) ?_⟩
      exact ⟨_, rfl, S.s, S.dx, _, rfl, C.hs, fz_no (by decide +kernel), _, rfl, a, _, _, nV i, rfl, rfl, hS, atI_nat (j := 1) rfl, _, rfl, a, _, _, nV x, rfl, rfl, hS, atI_nat (j := 2) rfl, _, rfl, a, _, _, nV u, rfl, rfl, hS, atI_nat (j := 3) rfl, _, rfl, a, _, _, nV v, rfl, rfl, hS, atI_nat (j := 4) rfl,
        W, B, h, S, i, x, u, v, rfl, C, q⟩
    | c3 i j =>
      refine ⟨_, rfl, a, _, _, nV 3, rfl, rfl, hS, atI_nat (j := 0) rfl, ?_⟩
      refine ⟨_, rfl, rfl, _, rfl, iff_ (by decide +kernel) ?_⟩
      refine ⟨_, rfl, rfl, _, rfl, iff_ (by decide +kernel) ?_⟩
      refine ⟨_, rfl, rfl, _, rfl, ift (by decide +kernel) ?_⟩
      exact ⟨_, rfl, S.s, S.dx, _, rfl, C.hs, fz_no (by decide +kernel), _, rfl, a, _, _, nV i, rfl, rfl, hS, atI_nat (j := 1) rfl, _, rfl, a, _, _, nV j, rfl, rfl, hS, atI_nat (j := 2) rfl, W, B, h, S, i, j, rfl, C, q⟩
    | c4 i =>
      refine ⟨_, rfl, a, _, _, nV 4, rfl, rfl, hS, atI_nat (j := 0) rfl, ?_⟩
      refine ⟨_, rfl, rfl, _, rfl, iff_ (by decide +kernel) ?_⟩
      refine ⟨_, rfl, rfl, _, rfl, iff_ (by decide +kernel) ?_⟩
      refine ⟨_, rfl, rfl, _, rfl, iff_ (by decide +kernel) ?_⟩
      refine ⟨_, rfl, rfl, _, rfl, ift (by decide +kernel) ?_⟩
      exact ⟨_, rfl, S.s, S.dx, _, rfl, C.hs, fz_no (by decide +kernel), _, rfl, a, _, _, nV i, rfl, rfl, hS, atI_nat (j := 1) rfl, W, B, h, S, i, rfl, C, q⟩
    | c5 i =>
      refine ⟨_, rfl, a, _, _, nV 5, rfl, rfl, hS, atI_nat (j := 0) rfl, ?_⟩
      refine ⟨_, rfl, rfl, _, rfl, iff_ (by decide +kernel) ?_⟩
      refine ⟨_, rfl, rfl, _, rfl, iff_ (by decide +kernel) ?_⟩
      refine ⟨_, rfl, rfl, _, rfl, iff_ (by decide +kernel) ?_⟩
      refine ⟨_, rfl, rfl, _, rfl, iff_ (by decide +kernel) ?_⟩
      refine ⟨_, rfl, rfl, _, rfl, ift (by decide +kernel) ?_⟩
      exact ⟨_, rfl, S.s, S.dx, _, rfl, C.hs, fz_no (by decide +kernel), _, rfl, a, _, _, nV i, rfl, rfl, hS, atI_nat (j := 1) rfl, W, B, h, S, i, rfl, C, q⟩
    | c6 i =>
      rw [same_tree] at q
      refine ⟨_, rfl, a, _, _, nV 6, rfl, rfl, hS, atI_nat (j := 0) rfl, ?_⟩
      refine ⟨_, rfl, rfl, _, rfl, iff_ (by decide +kernel) ?_⟩
      refine ⟨_, rfl, rfl, _, rfl, iff_ (by decide +kernel) ?_⟩
      refine ⟨_, rfl, rfl, _, rfl, iff_ (by decide +kernel) ?_⟩
      refine ⟨_, rfl, rfl, _, rfl, iff_ (by decide +kernel) ?_⟩
      refine ⟨_, rfl, rfl, _, rfl, iff_ (by decide +kernel) ?_⟩
      refine ⟨_, rfl, rfl, _, rfl, ift (by decide +kernel) ?_⟩
      exact ⟨_, rfl, S.s, S.dx, _, rfl, C.hs, fz_no (by decide +kernel), _, rfl, a, _, _, nV i, rfl, rfl, hS, atI_nat (j := 1) rfl, W, B, h, S, i, rfl, C, hb, q⟩
    | c7 i =>
      rw [same_bin] at q
      refine ⟨_, rfl, a, _, _, nV 7, rfl, rfl, hS, atI_nat (j := 0) rfl, ?_⟩
      refine ⟨_, rfl, rfl, _, rfl, iff_ (by decide +kernel) ?_⟩
      refine ⟨_, rfl, rfl, _, rfl, iff_ (by decide +kernel) ?_⟩
      refine ⟨_, rfl, rfl, _, rfl, iff_ (by decide +kernel) ?_⟩
      refine ⟨_, rfl, rfl, _, rfl, iff_ (by decide +kernel) ?_⟩
      refine ⟨_, rfl, rfl, _, rfl, iff_ (by decide +kernel) ?_⟩
      refine ⟨_, rfl, rfl, _, rfl, iff_ (by decide +kernel) ?_⟩
      refine ⟨_, rfl, rfl, _, rfl, ift (by decide +kernel) ?_⟩
      exact ⟨_, rfl, S.s, S.dx, _, rfl, C.hs, fz_no (by decide +kernel), _, rfl, a, _, _, nV i, rfl, rfl, hS, atI_nat (j := 1) rfl, W, B, h, S, i, rfl, C, hb, q⟩
    | c8 i =>
      rw [same_kept] at q
      refine ⟨_, rfl, a, _, _, nV 8, rfl, rfl, hS, atI_nat (j := 0) rfl, ?_⟩
      refine ⟨_, rfl, rfl, _, rfl, iff_ (by decide +kernel) ?_⟩
      refine ⟨_, rfl, rfl, _, rfl, iff_ (by decide +kernel) ?_⟩
      refine ⟨_, rfl, rfl, _, rfl, iff_ (by decide +kernel) ?_⟩
      refine ⟨_, rfl, rfl, _, rfl, iff_ (by decide +kernel) ?_⟩
      refine ⟨_, rfl, rfl, _, rfl, iff_ (by decide +kernel) ?_⟩
      refine ⟨_, rfl, rfl, _, rfl, iff_ (by decide +kernel) ?_⟩
      refine ⟨_, rfl, rfl, _, rfl, iff_ (by decide +kernel) ?_⟩
      refine ⟨_, rfl, rfl, _, rfl, ift (by decide +kernel) ?_⟩
      exact ⟨_, rfl, S.s, S.dx, _, rfl, C.hs, fz_no (by decide +kernel), _, rfl, a, _, _, nV i, rfl, rfl, hS, atI_nat (j := 1) rfl, W, B, h, S, i, rfl, C, hb, q⟩
    | c9 i =>
      rw [same_settled] at q
      refine ⟨_, rfl, a, _, _, nV 9, rfl, rfl, hS, atI_nat (j := 0) rfl, ?_⟩
      refine ⟨_, rfl, rfl, _, rfl, iff_ (by decide +kernel) ?_⟩
      refine ⟨_, rfl, rfl, _, rfl, iff_ (by decide +kernel) ?_⟩
      refine ⟨_, rfl, rfl, _, rfl, iff_ (by decide +kernel) ?_⟩
      refine ⟨_, rfl, rfl, _, rfl, iff_ (by decide +kernel) ?_⟩
      refine ⟨_, rfl, rfl, _, rfl, iff_ (by decide +kernel) ?_⟩
      refine ⟨_, rfl, rfl, _, rfl, iff_ (by decide +kernel) ?_⟩
      refine ⟨_, rfl, rfl, _, rfl, iff_ (by decide +kernel) ?_⟩
      refine ⟨_, rfl, rfl, _, rfl, iff_ (by decide +kernel) ?_⟩
      refine ⟨_, rfl, rfl, _, rfl, ift (by decide +kernel) ?_⟩
      exact ⟨_, rfl, S.s, S.dx, _, rfl, C.hs, fz_no (by decide +kernel), _, rfl, a, _, _, nV i, rfl, rfl, hS, atI_nat (j := 1) rfl, W, B, h, S, i, rfl, C, hb, q⟩
    | c10 i =>
      rw [same_ripe] at q
      refine ⟨_, rfl, a, _, _, nV 10, rfl, rfl, hS, atI_nat (j := 0) rfl, ?_⟩
      refine ⟨_, rfl, rfl, _, rfl, iff_ (by decide +kernel) ?_⟩
      refine ⟨_, rfl, rfl, _, rfl, iff_ (by decide +kernel) ?_⟩
      refine ⟨_, rfl, rfl, _, rfl, iff_ (by decide +kernel) ?_⟩
      refine ⟨_, rfl, rfl, _, rfl, iff_ (by decide +kernel) ?_⟩
      refine ⟨_, rfl, rfl, _, rfl, iff_ (by decide +kernel) ?_⟩
      refine ⟨_, rfl, rfl, _, rfl, iff_ (by decide +kernel) ?_⟩
      refine ⟨_, rfl, rfl, _, rfl, iff_ (by decide +kernel) ?_⟩
      refine ⟨_, rfl, rfl, _, rfl, iff_ (by decide +kernel) ?_⟩
      refine ⟨_, rfl, rfl, _, rfl, iff_ (by decide +kernel) ?_⟩
      refine ⟨_, rfl, rfl, _, rfl, ift (by decide +kernel) ?_⟩
      exact ⟨_, rfl, S.s, S.dx, _, rfl, C.hs, fz_no (by decide +kernel), _, rfl, a, _, _, nV i, rfl, rfl, hS, atI_nat (j := 1) rfl, W, B, h, S, i, rfl, C, hb, q⟩
    | c11 i j =>
      rw [same_same] at q
      refine ⟨_, rfl, a, _, _, nV 11, rfl, rfl, hS, atI_nat (j := 0) rfl, ?_⟩
      refine ⟨_, rfl, rfl, _, rfl, iff_ (by decide +kernel) ?_⟩
      refine ⟨_, rfl, rfl, _, rfl, iff_ (by decide +kernel) ?_⟩
      refine ⟨_, rfl, rfl, _, rfl, iff_ (by decide +kernel) ?_⟩
      refine ⟨_, rfl, rfl, _, rfl, iff_ (by decide +kernel) ?_⟩
      refine ⟨_, rfl, rfl, _, rfl, iff_ (by decide +kernel) ?_⟩
      refine ⟨_, rfl, rfl, _, rfl, iff_ (by decide +kernel) ?_⟩
      refine ⟨_, rfl, rfl, _, rfl, iff_ (by decide +kernel) ?_⟩
      refine ⟨_, rfl, rfl, _, rfl, iff_ (by decide +kernel) ?_⟩
      refine ⟨_, rfl, rfl, _, rfl, iff_ (by decide +kernel) ?_⟩
      refine ⟨_, rfl, rfl, _, rfl, iff_ (by decide +kernel) ?_⟩
      exact ⟨_, rfl, S.s, S.dx, _, rfl, C.hs, fz_no (by decide +kernel), _, rfl, a, _, _, nV i, rfl, rfl, hS, atI_nat (j := 1) rfl, _, rfl, a, _, _, nV j, rfl, rfl, hS, atI_nat (j := 2) rfl, W, B, h, S, i, j, rfl, C, q⟩
theorem scAns : FnScope ["calls", "session", "told", "start", "end", "answer"] ["calls"] (defScope sAns) := ⟨rfl, rfl, rfl, by decide +kernel, rfl, by decide +kernel, by decide +kernel⟩
theorem ok_ans {f fI fC dp : Addr} {fd fdI fdC : FuncData} (F : Fun K "answers" "answers" sAns f fd) (T : Txt K mg c) (MS : Mk K c.S fI) (GI : FnOk P w K mg base CX0 6 fI fdI ["self"] (spSesI c)) (bI : Binds K fdI ["self"] [])
    (GC : FnOk P w K mg base CX0 7 fC fdC ["session", "call"] (spCall K c)) (bC : Binds K fdC ["session", "call"] []) (gC : mg "answer_call" = some (.ref fC)) (kC : PySem.W.keepIn K (.ref fC) = true)
    (gA : mg "ARGUMENT_COUNTS" = some (.ref dp)) (hK : ∀ (p : Int) (n k : Nat), PySq33.shape p = some (n, k) → KInt K dp p (nV n)) : FnOk P w K mg base CX0 8 f fd ["calls"] (spAns K) := by
  refine F.ok scAns (fun vs H Q E h => ?_) (fun cdv A outer s H vs Q E hr h => ?_)
  · obtain ⟨a, ns, rfl, _⟩ := h
    rfl
  · obtain ⟨a, ns, rfl, hS, hask, hpos, q⟩ := h
    obtain ⟨raw0, hraw, hans, houts, h250⟩ := asked_is hask
    refine ⟨_, pss_cons (ps_set (i := 1) scAns.nd rfl (Or.inl rfl) (pe_make0 MS GI hr rfl T.gS bI .nil pass0))
      (pss_cons (ps_set (i := 2) scAns.nd rfl (Or.inl rfl) (pe_lst pa_nil))
      (pss_cons (ps_set (i := 3) scAns.nd rfl (Or.inl rfl) pe_int)
      (pss_cons (ps_while PassesOwn.never (pt_cmpR op_lt (pv 3) (pe_callB call_len_seq (by rfl) T.len PySem.boot_len (pa_cons (pv 0) pa_nil)) (nomark _))
        (pss_cons (ps_set (i := 4) scAns.nd rfl (Or.inl rfl) (pe_op op_add (pe_op op_add (pv 3) pe_int) (pe_ix ix_kdictI (pe_glob (v := .ref dp) rfl gA rfl) (pe_ix ix_list (pv 0) (pv 3) (fun _ _ => rfl)) (fun _ _ => rfl))))
        (pss_cons (ps_set (i := 5) scAns.nd rfl (Or.inl rfl) (pe_call GC hr rfl gC kC bC .nil pass0 (pa_cons (pv 1) (pa_cons (pe_slice sl_list (pv 0) (po_some (pv 3)) (po_some (pv 4))) pa_nil))))
        (pss_cons (ps_expr (pe_bm PySem.F.plainAttrs_list PySem.F.slot_list_append PySem.F.type_list_append mt_append (pv 2) (pa_cons (pe_callB call_len_seq (by rfl) T.len PySem.boot_len (pa_cons (pv 5) pa_nil)) pa_nil)))
        (pss_cons (ps_expr (pe_bm PySem.F.plainAttrs_list PySem.F.slot_list_extend PySem.F.type_list_extend mt_extend (pv 2) (pa_cons (pv 5) pa_nil)))
        (pss_one (ps_set (i := 3) scAns.nd rfl (Or.inl rfl) (pv 4))))))))
      (pss_one (ps_ret (pv 2)))))), ?_⟩
    -- session = Session()
    intro x xd nx nxd nex
    refine ⟨x, xd, rfl, upd_same, fun W0 A0 H1 S0 eS0 C0 k0 => ⟨rfl, ?_⟩⟩
    subst eS0
    have s0 : ∀ b o, H b = some o → H1 b = some o ∧ W0 b = .oth := fun b o e => k0 b o (by rw [upd_ne (ne_of_none e nx), upd_ne (ne_of_none e nxd)]; exact e) (ne_of_none e nx)
    -- told = []
    refine ⟨Nat.zero_le _, fun td htd => ?_⟩
    have ans_len : (PySq33.answers ns).length ≤ 1000250 := by
      rw [hans, left_len]
      omega
    refine ⟨fun m σ H2 => ∃ (W : Roles) (B : Deed → Addr) (h : House) (S : SA) (st f : Nat) (acc : List Int) (raw : List (List (List Int))) (v4 v5 : Option V), σ = [some (.ref a), some (.ref S.s), some (.ref td), some (nV st), v4, v5] ∧ SesC c W B H2 h S ∧
        H2 td = some (.lst (acc.map V.int)) ∧ W td = .oth ∧ (∀ o, H a = some o → H2 a = some o ∧ W a = .oth) ∧ H td = none ∧ st ≤ ns.length ∧ PyFlat.calls PySq33.shape f (ns.drop st) = some raw ∧ acc ++ left h raw = PySq33.answers ns ∧
        Sq33Neutral.outs h (raw.map PySq33.whole) < 1000000 ∧ m = ns.length - st,
      ⟨_, setW W0 td .oth, A0, Sq33.new 1, S0, 0, ns.length, [], raw0, none, none, rfl, C0.same (fun b o e => sw_old e htd) (same_upd htd), upd_same, sw_same, fun o e => ⟨(same_upd htd) _ _ (s0 a o e).1, (sw_old (s0 a o e).1 htd).trans (s0 a o e).2⟩, ?_, Nat.zero_le _, hraw, ?_, houts, rfl⟩, ?_⟩
    · cases e : H td with
      | none => rfl
      | some o =>
        rw [(s0 td o e).1] at htd
        cases htd
    · rw [hans]
      rfl
    rintro m σ H2 ⟨W, B, h, S, st, f, acc, raw, v4, v5, rfl, C, htd2, wtd, ha, td0, hst, hcalls, hacc, hout, rfl⟩
    have hS2 : SqL K H2 a (ns.map V.int) := SqL.keep hS fun o e => (ha o e).1
    refine ⟨_, rfl, _, rfl, a, _, rfl, .inl hS2, _, _, rfl, rfl, _, rfl, ?_⟩
    rw [List.length_map]
    by_cases clt : st < ns.length
    · refine ift (decide_eq_true (show (st : Int) < (ns.length : Int) by omega)) ?_
      obtain ⟨p, r, edrop⟩ : ∃ p r, ns.drop st = p :: r := by
        cases e : ns.drop st with
        | nil =>
          have := congrArg List.length e
          rw [List.length_drop, List.length_nil] at this
          omega
        | cons p r => exact ⟨p, r, rfl⟩
      rw [edrop] at hcalls
      obtain ⟨cc, t, f', cs', hcall, hcs', rfl⟩ := calls_cut hcalls
      have hrpos : ∀ z ∈ r, 0 ≤ z := fun z hz => hpos z ((List.drop_sublist st ns).subset (by rw [edrop]; exact .tail _ hz))
      obtain ⟨n, cs, xc, hsh, rfl, hnr, eseg, hic, hof⟩ := seg hrpos hcall
      have hp0 : ns[st]? = some p := by
        have := congrArg (·[0]?) edrop
        rw [List.getElem?_drop] at this
        simpa using this
      have hlen : st + 1 + n ≤ ns.length := by
        have := congrArg List.length edrop
        rw [List.length_drop, List.length_cons] at this
        omega
      have edrop2 : ns.drop (st + 1 + n) = r.drop n := by
        have e1 : ns.drop (st + 1 + n) = (ns.drop st).drop (1 + n) := by rw [List.drop_drop, Nat.add_assoc]
        rw [e1, edrop, Nat.add_comm 1 n, List.drop_succ_cons]
      rw [outs_cons h cc cs' hof] at hout
      rw [left_cons h cc cs' hof] at hacc
      refine ⟨fun σ' H3 => ∃ (W : Roles) (B : Deed → Addr) (h : House) (S : SA) (st2 f : Nat) (acc : List Int) (raw : List (List (List Int))) (v4 v5 : Option V), σ' = [some (.ref a), some (.ref S.s), some (.ref td), some (nV st2), v4, v5] ∧ SesC c W B H3 h S ∧
          H3 td = some (.lst (acc.map V.int)) ∧ W td = .oth ∧ (∀ o, H a = some o → H3 a = some o ∧ W a = .oth) ∧ st < st2 ∧ st2 ≤ ns.length ∧ PyFlat.calls PySq33.shape f (ns.drop st2) = some raw ∧ acc ++ left h raw = PySq33.answers ns ∧ Sq33Neutral.outs h (raw.map PySq33.whole) < 1000000,
        fun σ' H3 ⟨W, B, h, S, st2, f, acc, raw, v4, v5, e1, e2, e3, e4, e5, e6, e7, e8, e9, e10⟩ => ⟨ns.length - st2, by omega, W, B, h, S, st2, f, acc, raw, v4, v5, e1, e2, e3, e4, e5, td0, e7, e8, e9, e10, rfl⟩, ?_⟩
      -- end = start + 1 + ARGUMENT_COUNTS[calls[start]]
      refine ⟨_, rfl, _, _, rfl, rfl, _, rfl, _, rfl, a, _, _, .int p, rfl, rfl, hS2, atI_nat (by rw [List.getElem?_map, hp0]; rfl), dp, p, nV n, rfl, rfl, hK p n 0 hsh, _, _, rfl, rfl, ?_⟩
      -- answer = answer_call(session, calls[start:end])
      refine ⟨_, rfl, _, rfl, _, rfl, (st : Int), rfl, _, rfl, ((st + 1 + n : Nat) : Int), rfl, a, _, rfl, hS2, fun sl hsl => ?_⟩
      have ecut : cutV (ns.map V.int) (some (st : Int)) (some ((st + 1 + n : Nat) : Int)) = cs.map nV := by
        rw [cut_mid _ (by rw [List.length_map]; exact hlen), ← List.map_drop, edrop, ← List.map_take, List.take_succ_cons, eseg, List.map_map]
        rfl
      rw [ecut]
      have C3 : SesC c (setW W sl .oth) B (upd H2 sl (.lst (cs.map nV))) h S := C.same (fun b o e => sw_old e hsl) (same_upd hsl)
      refine ⟨setW W sl .oth, B, h, S, sl, cs, xc, rfl, SqL.of upd_same, hic, C3, by omega, fun W' A' H4 S' pa eS C4 hoth hpa wpa hpa4 => ?_⟩
      have td3 : (upd H2 sl (.lst (cs.map nV))) td = some (.lst (acc.map V.int)) := (same_upd hsl) _ _ htd2
      obtain ⟨td4, wtd4⟩ := hoth _ _ td3 ((sw_old htd2 hsl).trans wtd)
      have ha4 : ∀ o, H a = some o → H4 a = some o ∧ W' a = .oth := fun o e => by
        obtain ⟨z1, z2⟩ := ha o e
        exact hoth _ _ ((same_upd hsl) _ _ z1) ((sw_old z1 hsl).trans z2)
      have ntp : td ≠ pa := ne_of_none td3 hpa
      have nta : ∀ o, H a = some o → a ≠ td := fun o e => ne_of_none e td0
      have al := congrArg List.length hacc
      rw [List.length_append, List.length_append, List.length_cons] at al
      -- told.append(len(answer))
      have e4out : ((answerOf (h.step xc).2).map V.int).length = ((h.step xc).2.value :: (h.step xc).2.out).length := List.length_map _
      refine ⟨_, rfl, .inl ⟨rfl, _, SqL.of td4⟩, _, rfl, pa, _, rfl, .inl (SqL.of hpa4), td, _, _, rfl, rfl, td4, ?_, ?_⟩
      · rw [List.length_map]
        exact Nat.lt_of_le_of_lt (m := 1000250) (by omega) (by decide)
      -- told.extend(answer)
      refine ⟨_, rfl, .inl ⟨rfl, _, SqL.of upd_same⟩, _, rfl, td, pa, _, _, rfl, rfl, upd_same, (by rw [upd_ne ntp.symm]; exact hpa4), ?_, ?_⟩
      · rw [e4out, List.length_append, List.length_map, List.length_singleton, List.length_cons]
        rw [List.length_cons] at al
        exact Nat.le_trans (m := 1000250) (by omega) (by decide)
      -- start = end
      refine ⟨_, rfl, W', A', (h.step xc).1, S', st + 1 + n, f', acc ++ ((((h.step xc).2.value :: (h.step xc).2.out).length : Int) :: ((h.step xc).2.value :: (h.step xc).2.out)), cs', some (nV (st + 1 + n)), some (.ref pa), ?_, ?_, ?_, wtd4, fun o e => ⟨?_, (ha4 o e).2⟩, by omega, hlen, ?_, ?_, by omega⟩
      · rw [eS]
        rfl
      · refine C4.move (fun _ _ _ => rfl) fun b o e z => ?_
        have nb : b ≠ td := fun y => z (by rw [y]; exact wtd4)
        rw [upd_ne nb, upd_ne nb]
        exact e
      · rw [upd_same, e4out, List.map_append, List.map_cons, List.append_assoc]
        rfl
      · rw [upd_ne (nta o e), upd_ne (nta o e)]
        exact (ha4 o e).1
      · rw [edrop2]
        exact hcs'
      · rw [List.append_assoc]
        exact hacc
    · refine iff_ (decide_eq_false (show ¬ (st : Int) < (ns.length : Int) by omega)) ?_
      have ed : ns.drop st = [] := List.drop_eq_nil_of_le (by omega)
      rw [ed] at hcalls
      have er := calls_nil hcalls
      subst er
      rw [left_nil, List.append_nil] at hacc
      refine ⟨_, rfl, q H2 td ?_⟩
      rw [← hacc]
      exact htd2
end
end My
namespace My
open PySem hiding Place
open PySem.Spec PyProof.Rows L2
/-! ## what the top has written -/
def HasM (K : PySem.W.Frag) (C : Addr) (m qual : Str) (st : Stmt) : Prop := ∃ (f : Addr) (fd : FuncData), Fun K m qual st f fd ∧ Meth K C m f
def HasF (K : PySem.W.Frag) (x : Str) (st : Stmt) : Prop := ∃ (f : Addr) (fd : FuncData), Fun K x x st f fd ∧ PySem.W.nsIn K mainGlobals x = some (some (.ref f)) ∧ PySem.W.keepIn K (.ref f) = true
theorem hasM {K : PySem.W.Frag} {C f : Addr} {m qual : Str} {st : Stmt} {oc kV dc pm cd ct : Value} {od an : Option Addr} {sl : Array (Option Value)} (a : PySem.W.findIn K (.ref C) m = some (some (.ref f))) (i : PySem.W.isFn K (.ref f) = true)
    (l : K.lookup f = some ⟨oc, od, .func (PySem.W.fnOf m qual (defArgs st) (defBody st) (defScope st) .none kV dc pm an cd ct), sl⟩) (c : PySem.W.codeIn K cd qual = true) (k : PySem.W.keepIn K (.ref f) = true) : HasM K C m qual st := ⟨f, _, fun_mk l c k, a, i, k⟩
theorem hasF {K : PySem.W.Frag} {f : Addr} {x : Str} {st : Stmt} {oc kV dc pm cd ct : Value} {od an : Option Addr} {sl : Array (Option Value)} (a : PySem.W.nsIn K mainGlobals x = some (some (.ref f)))
    (l : K.lookup f = some ⟨oc, od, .func (PySem.W.fnOf x x (defArgs st) (defBody st) (defScope st) .none kV dc pm an cd ct), sl⟩) (c : PySem.W.codeIn K cd x = true) (k : PySem.W.keepIn K (.ref f) = true) : HasF K x st := ⟨f, _, fun_mk l c k, a, k⟩
structure ClsK (K : PySem.W.Frag) (C : Addr) : Prop where
  pg : PySem.W.plainGet K C Str.empty = true
  hd : PySem.W.hasDictIn K C = true
  po : PySem.W.plainOver K C = true
  sa : PySem.W.findIn K (.ref C) "__setattr__" = some (some (.builtin "object.__setattr__"))
  mkc : PySem.W.makesIn K C = true
  kc : PySem.W.keepIn K (.ref C) = true
theorem ClsK.cl {K : PySem.W.Frag} {C : Addr} (h : ClsK K C) : Cls K C := ⟨h.pg, h.hd, h.po, h.sa⟩
def NoL (K : PySem.W.Frag) (C : Addr) : List Str → Prop
  | [] => True
  | f :: r => PySem.W.findIn K (.ref C) f = some none ∧ NoL K C r
theorem NoL.get {K : PySem.W.Frag} {C : Addr} : ∀ {l : List Str}, NoL K C l → ∀ f ∈ l, NoAttr K C f
  | [], _, _, h => nomatch h
  | g :: r, h, f, hf => by
    rcases List.mem_cons.mp hf with rfl | hf
    · exact h.1
    · exact NoL.get h.2 f hf
def NilL (K : PySem.W.Frag) : List Str → Prop
  | [] => True
  | x :: r => PySem.W.nsIn K mainGlobals x = some none ∧ NilL K r
theorem NilL.get {K : PySem.W.Frag} : ∀ {l : List Str}, NilL K l → ∀ x ∈ l, PySem.W.nsIn K mainGlobals x = some none
  | [], _, _, h => nomatch h
  | g :: r, h, f, hf => by
    rcases List.mem_cons.mp hf with rfl | hf
    · exact h.1
    · exact NilL.get h.2 f hf
def IntN (K : PySem.W.Frag) (x : Str) (i : Int) : Prop := ∃ t, PySem.W.nsIn K mainGlobals x = some (some (.int i t))
theorem intN {K : PySem.W.Frag} {x : Str} {i : Int} {t : Tok} (h : PySem.W.nsIn K mainGlobals x = some (some (.int i t))) : IntN K x i := ⟨t, h⟩
/-- the dict of the numbers of arguments -/
def keysB (es : Array DictEntry) : Bool := es.toList.all fun e => match e.key with
  | .int k _ => decide (e.hash = hashInt k)
  | _ => false
def valB (es : Array DictEntry) (p : Int) (n : Nat) : Bool := match findBy Value.isInt es p with
  | some (.int i _) => decide (i = (n : Int))
  | _ => false
theorem keysB_ok {es : Array DictEntry} (h : keysB es = true) : PySem.IntKeys es := fun e he => by
  unfold keysB at h
  have := List.all_eq_true.mp h e (Array.mem_toList_iff.mpr he)
  split at this
  · next k t ek => exact ⟨k, t, ek, of_decide_eq_true this⟩
  · cases this
theorem kint_ok {K : PySem.W.Frag} {dp : Addr} {es : Array DictEntry} {n : Nat} {p : Int} {v : Nat} (l : K.lookup dp = some ⟨.type "dict", none, .dict es n, #[]⟩) (hk : keysB es = true) (hv : valB es p v = true) : KInt K dp p (nV v) := by
  unfold valB at hv
  split at hv
  · next i t e =>
    have := of_decide_eq_true hv
    subst this
    exact ⟨es, n, _, l, keysB_ok hk, e, t, rfl⟩
  · cases hv
def tableB (es : Array DictEntry) : Bool := keysB es && ([(1, 1), (2, 4), (3, 2), (4, 1), (5, 1), (6, 1), (7, 1), (8, 1), (9, 1), (10, 1), (11, 2)] : List (Int × Nat)).all fun q => valB es q.1 q.2
theorem table_ok {K : PySem.W.Frag} {dp : Addr} {es : Array DictEntry} {n : Nat} (l : K.lookup dp = some ⟨.type "dict", none, .dict es n, #[]⟩) (h : tableB es = true) : ∀ (p : Int) (m k : Nat), PySq33.shape p = some (m, k) → KInt K dp p (nV m) := fun p m k hs => by
  unfold tableB at h
  rw [Bool.and_eq_true, List.all_eq_true] at h
  have g : ∀ q ∈ ([(1, 1), (2, 4), (3, 2), (4, 1), (5, 1), (6, 1), (7, 1), (8, 1), (9, 1), (10, 1), (11, 2)] : List (Int × Nat)), KInt K dp q.1 (nV q.2) := fun q hq => kint_ok l h.1 (h.2 q hq)
  rcases shape_cases hs with ⟨rfl, rfl, _⟩ | ⟨rfl, rfl, _⟩ | ⟨rfl, rfl, _⟩ | ⟨rfl, rfl, _⟩ | ⟨rfl, rfl, _⟩ | ⟨rfl, rfl, _⟩ | ⟨rfl, rfl, _⟩ | ⟨rfl, rfl, _⟩ | ⟨rfl, rfl, _⟩ | ⟨rfl, rfl, _⟩ | ⟨rfl, rfl, _⟩
  · exact g (1, 1) (by simp)
  · exact g (2, 4) (by simp)
  · exact g (3, 2) (by simp)
  · exact g (4, 1) (by simp)
  · exact g (5, 1) (by simp)
  · exact g (6, 1) (by simp)
  · exact g (7, 1) (by simp)
  · exact g (8, 1) (by simp)
  · exact g (9, 1) (by simp)
  · exact g (10, 1) (by simp)
  · exact g (11, 2) (by simp)

theorem all_mk {f5 : Addr} {oc5 kV5 dc5 pm5 cd5 ct5 : Value} {od5 an5 : Option Addr} {sl5 : Array (Option Value)} {P : Program} {w : World} {K : PySem.W.Frag} {h : Heap} {mg : Str → Option Value} {fa CM CT CG CR CS dp : Addr} {es : Array DictEntry} {en : Nat} (X : K.In h) (G : h.Ns mainGlobals mg) (hfa : mg "answers" = some (.ref fa))
    (aM : PySem.W.nsIn K mainGlobals "Move" = some (some (.ref CM)))
    (aT : PySem.W.nsIn K mainGlobals "Tree" = some (some (.ref CT)))
    (aG : PySem.W.nsIn K mainGlobals "Message" = some (some (.ref CG)))
    (aR : PySem.W.nsIn K mainGlobals "Replica" = some (some (.ref CR)))
    (aS : PySem.W.nsIn K mainGlobals "Session" = some (some (.ref CS)))
    (cM : ClsK K CM) (oM : NoL K CM mK)
    (cT : ClsK K CT) (oT : NoL K CT tK)
    (cG : ClsK K CG) (oG : NoL K CG gK)
    (cR : ClsK K CR) (oR : NoL K CR rK)
    (cS : ClsK K CS) (oS : NoL K CS sK)
    (m0 : HasM K CM "__init__" "Move.__init__" sMovI)
    (m1 : HasM K CT "__init__" "Tree.__init__" sTreI)
    (m2 : HasM K CT "twin" "Tree.twin" sTwin)
    (m3 : HasM K CT "same_as" "Tree.same_as" sSame)
    (m4 : HasM K CT "has" "Tree.has" sHas)
    (m5 : HasM K CT "is_within" "Tree.is_within" sWithin)
    (m6 : HasM K CT "apply" "Tree.apply" sApply)
    (m7 : HasM K CT "rows_below" "Tree.rows_below" sRows)
    (m8 : HasM K CG "__init__" "Message.__init__" sMsgI)
    (m9 : HasM K CR "__init__" "Replica.__init__" sRepI)
    (m10 : HasM K CR "own_counts" "Replica.own_counts" sOwn)
    (m11 : HasM K CR "horizon" "Replica.horizon" sHor)
    (m12 : HasM K CR "tree" "Replica.tree" sTree)
    (m13 : HasM K CR "make_move" "Replica.make_move" sMake)
    (m14 : HasM K CR "message_to" "Replica.message_to" sMsg)
    (m15 : HasM K CR "take_in" "Replica.take_in" sTake)
    (m16 : HasM K CR "is_confirmed" "Replica.is_confirmed" sConf)
    (m17 : HasM K CR "compactable_moves" "Replica.compactable_moves" sCmp)
    (m18 : HasM K CR "compact_log" "Replica.compact_log" sComp)
    (m19 : HasM K CS "__init__" "Session.__init__" sSesI)
    (m20 : HasM K CS "start_with" "Session.start_with" sStart)
    (m21 : HasM K CS "has_replica" "Session.has_replica" sHasR)
    (m22 : HasM K CS "begin" "Session.begin" sBegin)
    (m23 : HasM K CS "make_move" "Session.make_move" sSMove)
    (m24 : HasM K CS "send_message" "Session.send_message" sSend)
    (m25 : HasM K CS "deliver_message" "Session.deliver_message" sDeliver)
    (m26 : HasM K CS "compact_log" "Session.compact_log" sSComp)
    (m27 : HasM K CS "list_below" "Session.list_below" sBelow)
    (m28 : HasM K CS "list_tree" "Session.list_tree" sLTree)
    (m29 : HasM K CS "list_bin" "Session.list_bin" sLBin)
    (m30 : HasM K CS "list_log" "Session.list_log" sLLog)
    (m31 : HasM K CS "tell_horizon" "Session.tell_horizon" sTHor)
    (m32 : HasM K CS "count_compactable" "Session.count_compactable" sCCmp)
    (m33 : HasM K CS "compare_replicas" "Session.compare_replicas" sCompare)
    (g0 : HasF K "timestamp" sStamp)
    (g1 : HasF K "larger_counts" sLarger)
    (g2 : HasF K "move_in_range" sRange)
    (g3 : HasF K "counted_rows" sCount)
    (g4 : HasF K "answer_call" sCall)
    (A5 : PySem.W.nsIn K mainGlobals "answers" = some (some (.ref f5))) (l5 : K.lookup f5 = some ⟨oc5, od5, .func (PySem.W.fnOf "answers" "answers" (defArgs sAns) (defBody sAns) (defScope sAns) .none kV5 dc5 pm5 an5 cd5 ct5), sl5⟩) (e5 : PySem.W.codeIn K cd5 "answers" = true) (K5 : PySem.W.keepIn K (.ref f5) = true)
    (nil : NilL K ["len", "dict", "sorted", "zip", "max", "min", "range", "list", "all", "int"])
    (i0 : IntN K "ROOT" (0))
    (i1 : IntN K "BIN_trees" (1))
    (i2 : IntN K "PLACED" (1))
    (i3 : IntN K "NO_PARENT" (2))
    (i4 : IntN K "INTO_ITSELF" (3))
    (i5 : IntN K "OUT_OF_RANGE" (-1))
    (i6 : IntN K "NOT_THERE" (-2))
    (i7 : IntN K "TOO_MANY" (-5))
    (i8 : IntN K "MOST_REPLICAS" (6))
    (i9 : IntN K "LAST_NODE" (63))
    (i10 : IntN K "LARGEST_LABEL" (1000000000))
    (i11 : IntN K "MOST_MOVES" (80))
    (i12 : IntN K "MOST_MESSAGES" (200))
    (i13 : IntN K "BEGIN" (1))
    (i14 : IntN K "MOVE" (2))
    (i15 : IntN K "SEND" (3))
    (i16 : IntN K "DELIVER" (4))
    (i17 : IntN K "COMPACT" (5))
    (i18 : IntN K "TREE" (6))
    (i19 : IntN K "BIN_replicas" (7))
    (i20 : IntN K "LOG" (8))
    (i21 : IntN K "HORIZON" (9))
    (i22 : IntN K "COMPACTABLE" (10))
    (ad : PySem.W.nsIn K mainGlobals "ARGUMENT_COUNTS" = some (some (.ref dp))) (ld : K.lookup dp = some ⟨.type "dict", none, .dict es en, #[]⟩) (td : tableB es = true) :
    ∃ fd : FuncData, (∀ (s : Shared) (us : List Value), us.length = (["calls"] : List Str).length → BindsTo s fd ⟨us, []⟩ ((["calls"] : List Str).zip us)) ∧ ∀ base : Heap, K.In base → base.Ns mainGlobals mg → FnOk P w K mg base CX0 8 fa fd ["calls"] (spAns K) := by
  obtain ⟨f0, d0, F0, M0⟩ := m0
  obtain ⟨f1, d1, F1, M1⟩ := m1
  obtain ⟨f2, d2, F2, M2⟩ := m2
  obtain ⟨f3, d3, F3, M3⟩ := m3
  obtain ⟨f4, d4, F4, M4⟩ := m4
  obtain ⟨f5, d5, F5, M5⟩ := m5
  obtain ⟨f6, d6, F6, M6⟩ := m6
  obtain ⟨f7, d7, F7, M7⟩ := m7
  obtain ⟨f8, d8, F8, M8⟩ := m8
  obtain ⟨f9, d9, F9, M9⟩ := m9
  obtain ⟨f10, d10, F10, M10⟩ := m10
  obtain ⟨f11, d11, F11, M11⟩ := m11
  obtain ⟨f12, d12, F12, M12⟩ := m12
  obtain ⟨f13, d13, F13, M13⟩ := m13
  obtain ⟨f14, d14, F14, M14⟩ := m14
  obtain ⟨f15, d15, F15, M15⟩ := m15
  obtain ⟨f16, d16, F16, M16⟩ := m16
  obtain ⟨f17, d17, F17, M17⟩ := m17
  obtain ⟨f18, d18, F18, M18⟩ := m18
  obtain ⟨f19, d19, F19, M19⟩ := m19
  obtain ⟨f20, d20, F20, M20⟩ := m20
  obtain ⟨f21, d21, F21, M21⟩ := m21
  obtain ⟨f22, d22, F22, M22⟩ := m22
  obtain ⟨f23, d23, F23, M23⟩ := m23
  obtain ⟨f24, d24, F24, M24⟩ := m24
  obtain ⟨f25, d25, F25, M25⟩ := m25
  obtain ⟨f26, d26, F26, M26⟩ := m26
  obtain ⟨f27, d27, F27, M27⟩ := m27
  obtain ⟨f28, d28, F28, M28⟩ := m28
  obtain ⟨f29, d29, F29, M29⟩ := m29
  obtain ⟨f30, d30, F30, M30⟩ := m30
  obtain ⟨f31, d31, F31, M31⟩ := m31
  obtain ⟨f32, d32, F32, M32⟩ := m32
  obtain ⟨f33, d33, F33, M33⟩ := m33
  obtain ⟨p0, q0, P0, A0, K0⟩ := g0
  obtain ⟨p1, q1, P1, A1, K1⟩ := g1
  obtain ⟨p2, q2, P2, A2, K2⟩ := g2
  obtain ⟨p3, q3, P3, A3, K3⟩ := g3
  obtain ⟨p4, q4, P4, A4, K4⟩ := g4
  have P5 := fun_mk (st := sAns) l5 e5 K5
  have e := hfa.symm.trans (PySem.W.mg_of X G A5)
  cases e
  have nn : ∀ x ∈ (["len", "dict", "sorted", "zip", "max", "min", "range", "list", "all", "int"] : List Str), mg x = none := fun x hx => PySem.W.mg_none_of X G (nil.get x hx)
  have ii : ∀ {x : Str} {i : Int}, IntN K x i → ∃ t, mg x = some (.int i t) := fun ⟨t, e⟩ => ⟨t, PySem.W.mg_of X G e⟩
  have T : Txt K mg ⟨CM, CT, CG, CR, CS⟩ := ⟨⟨cM.cl, oM.get, by decide⟩, ⟨cT.cl, oT.get, by decide⟩, ⟨cG.cl, oG.get, by decide⟩, ⟨cR.cl, oR.get, by decide⟩, ⟨cS.cl, oS.get, by decide⟩, PySem.W.mg_of X G aM, PySem.W.mg_of X G aT, PySem.W.mg_of X G aG, PySem.W.mg_of X G aR, PySem.W.mg_of X G aS, nn "len" (by simp), nn "dict" (by simp), nn "sorted" (by simp), nn "zip" (by simp), nn "max" (by simp), nn "min" (by simp), nn "range" (by simp), nn "list" (by simp), nn "all" (by simp), nn "int" (by simp), ii i0, ii i1, ii i2, ii i3, ii i4, ii i5, ii i6, ii i7, ii i8, ii i9, ii i10, ii i11, ii i12, ii i13, ii i14, ii i15, ii i16, ii i17, ii i18, ii i19, ii i20, ii i21, ii i22⟩
  have b0 := F0.binds (ps := ["self", "origin", "number", "counter", "node", "parent", "label"]) fun _ _ _ _ _ _ us hl => match us, hl with | [_, _, _, _, _, _, _], _ => rfl
  have b1 := F1.binds (ps := ["self"]) fun _ _ _ _ _ _ us hl => match us, hl with | [_], _ => rfl
  have b2 := F2.binds (ps := ["self"]) fun _ _ _ _ _ _ us hl => match us, hl with | [_], _ => rfl
  have b3 := F3.binds (ps := ["self", "other"]) fun _ _ _ _ _ _ us hl => match us, hl with | [_, _], _ => rfl
  have b4 := F4.binds (ps := ["self", "node"]) fun _ _ _ _ _ _ us hl => match us, hl with | [_, _], _ => rfl
  have b5 := F5.binds (ps := ["self", "node", "top"]) fun _ _ _ _ _ _ us hl => match us, hl with | [_, _, _], _ => rfl
  have b6 := F6.binds (ps := ["self", "move"]) fun _ _ _ _ _ _ us hl => match us, hl with | [_, _], _ => rfl
  have b7 := F7.binds (ps := ["self", "top"]) fun _ _ _ _ _ _ us hl => match us, hl with | [_, _], _ => rfl
  have b8 := F8.binds (ps := ["self", "sender", "receiver", "counts", "clock", "moves"]) fun _ _ _ _ _ _ us hl => match us, hl with | [_, _, _, _, _, _], _ => rfl
  have b9 := F9.binds (ps := ["self", "place", "replica_count"]) fun _ _ _ _ _ _ us hl => match us, hl with | [_, _, _], _ => rfl
  have b10 := F10.binds (ps := ["self"]) fun _ _ _ _ _ _ us hl => match us, hl with | [_], _ => rfl
  have b11 := F11.binds (ps := ["self"]) fun _ _ _ _ _ _ us hl => match us, hl with | [_], _ => rfl
  have b12 := F12.binds (ps := ["self"]) fun _ _ _ _ _ _ us hl => match us, hl with | [_], _ => rfl
  have b13 := F13.binds (ps := ["self", "node", "parent", "label"]) fun _ _ _ _ _ _ us hl => match us, hl with | [_, _, _, _], _ => rfl
  have b14 := F14.binds (ps := ["self", "receiver"]) fun _ _ _ _ _ _ us hl => match us, hl with | [_, _], _ => rfl
  have b15 := F15.binds (ps := ["self", "message"]) fun _ _ _ _ _ _ us hl => match us, hl with | [_, _], _ => rfl
  have b16 := F16.binds (ps := ["self", "move"]) fun _ _ _ _ _ _ us hl => match us, hl with | [_, _], _ => rfl
  have b17 := F17.binds (ps := ["self"]) fun _ _ _ _ _ _ us hl => match us, hl with | [_], _ => rfl
  have b18 := F18.binds (ps := ["self"]) fun _ _ _ _ _ _ us hl => match us, hl with | [_], _ => rfl
  have b19 := F19.binds (ps := ["self"]) fun _ _ _ _ _ _ us hl => match us, hl with | [_], _ => rfl
  have b20 := F20.binds (ps := ["self", "replica_count"]) fun _ _ _ _ _ _ us hl => match us, hl with | [_, _], _ => rfl
  have b21 := F21.binds (ps := ["self", "replica"]) fun _ _ _ _ _ _ us hl => match us, hl with | [_, _], _ => rfl
  have b22 := F22.binds (ps := ["self", "replica_count"]) fun _ _ _ _ _ _ us hl => match us, hl with | [_, _], _ => rfl
  have b23 := F23.binds (ps := ["self", "replica", "node", "parent", "label"]) fun _ _ _ _ _ _ us hl => match us, hl with | [_, _, _, _, _], _ => rfl
  have b24 := F24.binds (ps := ["self", "sender", "receiver"]) fun _ _ _ _ _ _ us hl => match us, hl with | [_, _, _], _ => rfl
  have b25 := F25.binds (ps := ["self", "number"]) fun _ _ _ _ _ _ us hl => match us, hl with | [_, _], _ => rfl
  have b26 := F26.binds (ps := ["self", "replica"]) fun _ _ _ _ _ _ us hl => match us, hl with | [_, _], _ => rfl
  have b27 := F27.binds (ps := ["self", "replica", "top"]) fun _ _ _ _ _ _ us hl => match us, hl with | [_, _, _], _ => rfl
  have b28 := F28.binds (ps := ["self", "replica"]) fun _ _ _ _ _ _ us hl => match us, hl with | [_, _], _ => rfl
  have b29 := F29.binds (ps := ["self", "replica"]) fun _ _ _ _ _ _ us hl => match us, hl with | [_, _], _ => rfl
  have b30 := F30.binds (ps := ["self", "replica"]) fun _ _ _ _ _ _ us hl => match us, hl with | [_, _], _ => rfl
  have b31 := F31.binds (ps := ["self", "replica"]) fun _ _ _ _ _ _ us hl => match us, hl with | [_, _], _ => rfl
  have b32 := F32.binds (ps := ["self", "replica"]) fun _ _ _ _ _ _ us hl => match us, hl with | [_, _], _ => rfl
  have b33 := F33.binds (ps := ["self", "replica", "other"]) fun _ _ _ _ _ _ us hl => match us, hl with | [_, _, _], _ => rfl
  have r0 := P0.binds (ps := ["move"]) fun _ _ _ _ _ _ us hl => match us, hl with | [_], _ => rfl
  have r1 := P1.binds (ps := ["counts", "others"]) fun _ _ _ _ _ _ us hl => match us, hl with | [_, _], _ => rfl
  have r2 := P2.binds (ps := ["node", "parent", "label"]) fun _ _ _ _ _ _ us hl => match us, hl with | [_, _, _], _ => rfl
  have r3 := P3.binds (ps := ["rows"]) fun _ _ _ _ _ _ us hl => match us, hl with | [_], _ => rfl
  have r4 := P4.binds (ps := ["session", "call"]) fun _ _ _ _ _ _ us hl => match us, hl with | [_, _], _ => rfl
  have r5 := P5.binds (ps := ["calls"]) fun _ _ _ _ _ _ us hl => match us, hl with | [_], _ => rfl
  refine ⟨PySem.W.fnOf "answers" "answers" (defArgs sAns) (defBody sAns) (defScope sAns) .none kV5 dc5 pm5 an5 cd5 ct5, fun s us hu => match us, hu with | [_], _ => .of_eq rfl, fun base _ _ => ?_⟩
  have GMovI : FnOk P w K mg base CX0 1 f0 d0 ["self", "origin", "number", "counter", "node", "parent", "label"] (spMovI ⟨CM, CT, CG, CR, CS⟩) := ok_movI F0 T
  have GStamp : FnOk P w K mg base CX0 1 p0 q0 ["move"] (spStamp ⟨CM, CT, CG, CR, CS⟩) := ok_stamp P0 T
  have GTreI : FnOk P w K mg base CX0 1 f1 d1 ["self"] (spTreI ⟨CM, CT, CG, CR, CS⟩) := ok_treI F1 T
  have GTwin : FnOk P w K mg base CX0 3 f2 d2 ["self"] (spTwin ⟨CM, CT, CG, CR, CS⟩) := ok_twin F2 T ⟨cT.mkc, M1.at_, M1.fn, cT.kc⟩ F1 b1
  have GSame : FnOk P w K mg base CX0 1 f3 d3 ["self", "other"] (spSame ⟨CM, CT, CG, CR, CS⟩) := ok_same F3 T
  have GApply : FnOk P w K mg base CX0 2 f6 d6 ["self", "move"] (spApply ⟨CM, CT, CG, CR, CS⟩) := ok_apply F6 T F4 b4 M4 F5 b5 M5
  have GRows : FnOk P w K mg base CX0 1 f7 d7 ["self", "top"] (spRows ⟨CM, CT, CG, CR, CS⟩) := ok_rows F7 T
  have GMsgI : FnOk P w K mg base CX0 1 f8 d8 ["self", "sender", "receiver", "counts", "clock", "moves"] (spMsgI ⟨CM, CT, CG, CR, CS⟩) := ok_msgI F8 T
  have GLarger : FnOk P w K mg base CX0 1 p1 q1 ["counts", "others"] (spLarger) := ok_larger P1 T
  have GRange : FnOk P w K mg base CX0 1 p2 q2 ["node", "parent", "label"] (spRange) := ok_range P2 T
  have GCount : FnOk P w K mg base CX0 1 p3 q3 ["rows"] (spCount) := ok_count P3 T
  have GRepI : FnOk P w K mg base CX0 3 f9 d9 ["self", "place", "replica_count"] (spRepI ⟨CM, CT, CG, CR, CS⟩) := ok_repI F9 T ⟨cT.mkc, M1.at_, M1.fn, cT.kc⟩ GTreI b1
  have GOwn : FnOk P w K mg base CX0 1 f10 d10 ["self"] (spOwn ⟨CM, CT, CG, CR, CS⟩) := ok_own F10 T
  have GHor : FnOk P w K mg base CX0 1 f11 d11 ["self"] (spHor ⟨CM, CT, CG, CR, CS⟩) := ok_hor F11 T
  have GTree : FnOk P w K mg base CX0 4 f12 d12 ["self"] (spTree ⟨CM, CT, CG, CR, CS⟩) := ok_tree F12 T GTwin b2 M2 GApply b6 M6
  have GMake : FnOk P w K mg base CX0 5 f13 d13 ["self", "node", "parent", "label"] (spMake ⟨CM, CT, CG, CR, CS⟩) := ok_make F13 T GOwn b10 M10 ⟨cM.mkc, M0.at_, M0.fn, cM.kc⟩ GMovI b0 GTree b12 M12 GApply b6 M6
  have GMsg : FnOk P w K mg base CX0 3 f14 d14 ["self", "receiver"] (spMsg ⟨CM, CT, CG, CR, CS⟩) := ok_msg F14 T GOwn b10 M10 ⟨cG.mkc, M8.at_, M8.fn, cG.kc⟩ GMsgI b8
  have GTake : FnOk P w K mg base CX0 4 f15 d15 ["self", "message"] (spTake ⟨CM, CT, CG, CR, CS⟩) := ok_take F15 T GOwn b10 M10 GStamp r0 (PySem.W.mg_of X G A0) GLarger r1 (PySem.W.mg_of X G A1) K1
  have GConf : FnOk P w K mg base CX0 1 f16 d16 ["self", "move"] (spConf ⟨CM, CT, CG, CR, CS⟩) := ok_conf F16 T
  have GCmp : FnOk P w K mg base CX0 2 f17 d17 ["self"] (spCmp ⟨CM, CT, CG, CR, CS⟩) := ok_cmp F17 T GHor b11 M11 GConf b16 M16
  have GComp : FnOk P w K mg base CX0 3 f18 d18 ["self"] (spComp ⟨CM, CT, CG, CR, CS⟩) := ok_comp F18 T GCmp b17 M17 GApply b6 M6
  have GStart : FnOk P w K mg base CX0 5 f20 d20 ["self", "replica_count"] (spStart ⟨CM, CT, CG, CR, CS⟩) := ok_start F20 T ⟨cR.mkc, M9.at_, M9.fn, cR.kc⟩ GRepI b9
  have GSesI : FnOk P w K mg base CX0 6 f19 d19 ["self"] (spSesI ⟨CM, CT, CG, CR, CS⟩) := ok_sesI F19 T GStart b20 M20
  have GHasR : FnOk P w K mg base CX0 1 f21 d21 ["self", "replica"] (spHasR ⟨CM, CT, CG, CR, CS⟩) := ok_hasR F21 T
  have GBegin : FnOk P w K mg base CX0 6 f22 d22 ["self", "replica_count"] (spBegin ⟨CM, CT, CG, CR, CS⟩) := ok_begin F22 T GStart b20 M20
  have GSMove : FnOk P w K mg base CX0 6 f23 d23 ["self", "replica", "node", "parent", "label"] (spSMove ⟨CM, CT, CG, CR, CS⟩) := ok_smove F23 T GHasR b21 M21 GRange r2 (PySem.W.mg_of X G A2) K2 GMake b13 M13
  have GSend : FnOk P w K mg base CX0 4 f24 d24 ["self", "sender", "receiver"] (spSend ⟨CM, CT, CG, CR, CS⟩) := ok_send F24 T GHasR b21 M21 GMsg b14 M14
  have GDeliver : FnOk P w K mg base CX0 5 f25 d25 ["self", "number"] (spDeliver ⟨CM, CT, CG, CR, CS⟩) := ok_deliver F25 T GTake b15 M15
  have GSComp : FnOk P w K mg base CX0 4 f26 d26 ["self", "replica"] (spSComp ⟨CM, CT, CG, CR, CS⟩) := ok_scomp F26 T GHasR b21 M21 GComp b18 M18
  have GBelow : FnOk P w K mg base CX0 5 f27 d27 ["self", "replica", "top"] (spBelow ⟨CM, CT, CG, CR, CS⟩) := ok_below F27 T GHasR b21 M21 GTree b12 M12 GRows b7 M7 GCount r3 (PySem.W.mg_of X G A3) K3
  have GLTree : FnOk P w K mg base CX0 6 f28 d28 ["self", "replica"] (spAsk ⟨CM, CT, CG, CR, CS⟩ .tree) := ok_ltree F28 T GBelow b27 M27
  have GLBin : FnOk P w K mg base CX0 6 f29 d29 ["self", "replica"] (spAsk ⟨CM, CT, CG, CR, CS⟩ .bin) := ok_lbin F29 T GBelow b27 M27
  have GLLog : FnOk P w K mg base CX0 2 f30 d30 ["self", "replica"] (spAsk ⟨CM, CT, CG, CR, CS⟩ .kept) := ok_llog F30 T GHasR b21 M21 GCount r3 (PySem.W.mg_of X G A3) K3
  have GTHor : FnOk P w K mg base CX0 2 f31 d31 ["self", "replica"] (spAsk ⟨CM, CT, CG, CR, CS⟩ .settled) := ok_thor F31 T GHasR b21 M21 GHor b11 M11 GOwn b10 M10
  have GCCmp : FnOk P w K mg base CX0 3 f32 d32 ["self", "replica"] (spAsk ⟨CM, CT, CG, CR, CS⟩ .ripe) := ok_ccmp F32 T GHasR b21 M21 GCmp b17 M17
  have GCompare : FnOk P w K mg base CX0 5 f33 d33 ["self", "replica", "other"] (spCompare ⟨CM, CT, CG, CR, CS⟩) := ok_compare F33 T GHasR b21 M21 GTree b12 M12 GSame b3 M3 GOwn b10 M10
  have GCall : FnOk P w K mg base CX0 7 p4 q4 ["session", "call"] (spCall K ⟨CM, CT, CG, CR, CS⟩) := ok_call P4 T ⟨⟨f22, d22, M22, GBegin, b22⟩⟩ ⟨⟨f23, d23, M23, GSMove, b23⟩⟩ ⟨⟨f24, d24, M24, GSend, b24⟩⟩ ⟨⟨f25, d25, M25, GDeliver, b25⟩⟩ ⟨⟨f26, d26, M26, GSComp, b26⟩⟩ ⟨⟨f28, d28, M28, GLTree, b28⟩⟩ ⟨⟨f29, d29, M29, GLBin, b29⟩⟩ ⟨⟨f30, d30, M30, GLLog, b30⟩⟩ ⟨⟨f31, d31, M31, GTHor, b31⟩⟩ ⟨⟨f32, d32, M32, GCCmp, b32⟩⟩ ⟨⟨f33, d33, M33, GCompare, b33⟩⟩
  exact ok_ans P5 T ⟨cS.mkc, M19.at_, M19.fn, cS.kc⟩ GSesI b19 GCall r4 (PySem.W.mg_of X G A4) K4 (PySem.W.mg_of X G ad) (table_ok ld td)
end My
open PySem PySem.W PyProof.Rows
set_option maxRecDepth 100000 in
set_option maxHeartbeats 16000000 in
theorem PySem.Challenge.cw_binnedtrees_s01_answers_holds : PySem.Challenge.rw_binnedtrees_s01_answers.Holds := by
  w_on; k_headS; (case hw => exact ⟨[.list [.int 6, .int 0]], by decide +kernel, by decide +kernel⟩)
  k_fillS
  refine L2.walk_specK (r := PySem.Challenge.rw_binnedtrees_s01_answers) (k := 8) (CX := L2.CX0) (ps := ["calls"]) (sp := My.spAns) (by decide +kernel) rfl rfl ⟨rfl, by decide, by decide⟩ (fun w h Y => PySem.W.kIn_of Y) ?F ?S (fun _ _ _ _ z => z)
  case F =>
    intro w mg fa h Y KX G hmg
    refine' My.all_mk KX G hmg ?zzaM ?zzaT ?zzaG ?zzaR ?zzaS ?zzcM ?zzoM ?zzcT ?zzoT ?zzcG ?zzoG ?zzcR ?zzoR ?zzcS ?zzoS ?zzm0 ?zzm1 ?zzm2 ?zzm3 ?zzm4 ?zzm5 ?zzm6 ?zzm7 ?zzm8 ?zzm9 ?zzm10 ?zzm11 ?zzm12 ?zzm13 ?zzm14 ?zzm15 ?zzm16 ?zzm17 ?zzm18 ?zzm19 ?zzm20 ?zzm21 ?zzm22 ?zzm23 ?zzm24 ?zzm25 ?zzm26 ?zzm27 ?zzm28 ?zzm29 ?zzm30 ?zzm31 ?zzm32 ?zzm33 ?zzg0 ?zzg1 ?zzg2 ?zzg3 ?zzg4 ?zzA5 ?zzl5 ?zze5 ?zzK5 ?zznil ?zzi0 ?zzi1 ?zzi2 ?zzi3 ?zzi4 ?zzi5 ?zzi6 ?zzi7 ?zzi8 ?zzi9 ?zzi10 ?zzi11 ?zzi12 ?zzi13 ?zzi14 ?zzi15 ?zzi16 ?zzi17 ?zzi18 ?zzi19 ?zzi20 ?zzi21 ?zzi22 ?zzad ?zzld ?zztd
    (case zzaM => k_is)
    (case zzaT => k_is)
    (case zzaG => k_is)
    (case zzaR => k_is)
    (case zzaS => k_is)
    (case zzcM => refine' ⟨?zzcM_0, ?zzcM_1, ?zzcM_2, ?zzcM_3, ?zzcM_4, ?zzcM_5⟩; (case zzcM_0 => k_is); (case zzcM_1 => k_is); (case zzcM_2 => k_is); (case zzcM_3 => k_is); (case zzcM_4 => k_is); (case zzcM_5 => k_is))
    (case zzoM => refine' ⟨?zzoM_0, ?zzoM_1, ?zzoM_2, ?zzoM_3, ?zzoM_4, ?zzoM_5, trivial⟩; (case zzoM_0 => k_is); (case zzoM_1 => k_is); (case zzoM_2 => k_is); (case zzoM_3 => k_is); (case zzoM_4 => k_is); (case zzoM_5 => k_is))
    (case zzcT => refine' ⟨?zzcT_0, ?zzcT_1, ?zzcT_2, ?zzcT_3, ?zzcT_4, ?zzcT_5⟩; (case zzcT_0 => k_is); (case zzcT_1 => k_is); (case zzcT_2 => k_is); (case zzcT_3 => k_is); (case zzcT_4 => k_is); (case zzcT_5 => k_is))
    (case zzoT => refine' ⟨?zzoT_0, ?zzoT_1, trivial⟩; (case zzoT_0 => k_is); (case zzoT_1 => k_is))
    (case zzcG => refine' ⟨?zzcG_0, ?zzcG_1, ?zzcG_2, ?zzcG_3, ?zzcG_4, ?zzcG_5⟩; (case zzcG_0 => k_is); (case zzcG_1 => k_is); (case zzcG_2 => k_is); (case zzcG_3 => k_is); (case zzcG_4 => k_is); (case zzcG_5 => k_is))
    (case zzoG => refine' ⟨?zzoG_0, ?zzoG_1, ?zzoG_2, ?zzoG_3, ?zzoG_4, trivial⟩; (case zzoG_0 => k_is); (case zzoG_1 => k_is); (case zzoG_2 => k_is); (case zzoG_3 => k_is); (case zzoG_4 => k_is))
    (case zzcR => refine' ⟨?zzcR_0, ?zzcR_1, ?zzcR_2, ?zzcR_3, ?zzcR_4, ?zzcR_5⟩; (case zzcR_0 => k_is); (case zzcR_1 => k_is); (case zzcR_2 => k_is); (case zzcR_3 => k_is); (case zzcR_4 => k_is); (case zzcR_5 => k_is))
    (case zzoR => refine' ⟨?zzoR_0, ?zzoR_1, ?zzoR_2, ?zzoR_3, ?zzoR_4, ?zzoR_5, trivial⟩; (case zzoR_0 => k_is); (case zzoR_1 => k_is); (case zzoR_2 => k_is); (case zzoR_3 => k_is); (case zzoR_4 => k_is); (case zzoR_5 => k_is))
    (case zzcS => refine' ⟨?zzcS_0, ?zzcS_1, ?zzcS_2, ?zzcS_3, ?zzcS_4, ?zzcS_5⟩; (case zzcS_0 => k_is); (case zzcS_1 => k_is); (case zzcS_2 => k_is); (case zzcS_3 => k_is); (case zzcS_4 => k_is); (case zzcS_5 => k_is))
    (case zzoS => refine' ⟨?zzoS_0, ?zzoS_1, ?zzoS_2, trivial⟩; (case zzoS_0 => k_is); (case zzoS_1 => k_is); (case zzoS_2 => k_is))
    (case zzm0 => refine' My.hasM ?zzm0_0 ?zzm0_1 ?zzm0_2 ?zzm0_3 ?zzm0_4; (case zzm0_0 => k_is); (case zzm0_1 => k_is); (case zzm0_2 => k_is); (case zzm0_3 => k_is); (case zzm0_4 => k_is))
    (case zzm1 => refine' My.hasM ?zzm1_0 ?zzm1_1 ?zzm1_2 ?zzm1_3 ?zzm1_4; (case zzm1_0 => k_is); (case zzm1_1 => k_is); (case zzm1_2 => k_is); (case zzm1_3 => k_is); (case zzm1_4 => k_is))
    (case zzm2 => refine' My.hasM ?zzm2_0 ?zzm2_1 ?zzm2_2 ?zzm2_3 ?zzm2_4; (case zzm2_0 => k_is); (case zzm2_1 => k_is); (case zzm2_2 => k_is); (case zzm2_3 => k_is); (case zzm2_4 => k_is))
    (case zzm3 => refine' My.hasM ?zzm3_0 ?zzm3_1 ?zzm3_2 ?zzm3_3 ?zzm3_4; (case zzm3_0 => k_is); (case zzm3_1 => k_is); (case zzm3_2 => k_is); (case zzm3_3 => k_is); (case zzm3_4 => k_is))
    (case zzm4 => refine' My.hasM ?zzm4_0 ?zzm4_1 ?zzm4_2 ?zzm4_3 ?zzm4_4; (case zzm4_0 => k_is); (case zzm4_1 => k_is); (case zzm4_2 => k_is); (case zzm4_3 => k_is); (case zzm4_4 => k_is))
    (case zzm5 => refine' My.hasM ?zzm5_0 ?zzm5_1 ?zzm5_2 ?zzm5_3 ?zzm5_4; (case zzm5_0 => k_is); (case zzm5_1 => k_is); (case zzm5_2 => k_is); (case zzm5_3 => k_is); (case zzm5_4 => k_is))
    (case zzm6 => refine' My.hasM ?zzm6_0 ?zzm6_1 ?zzm6_2 ?zzm6_3 ?zzm6_4; (case zzm6_0 => k_is); (case zzm6_1 => k_is); (case zzm6_2 => k_is); (case zzm6_3 => k_is); (case zzm6_4 => k_is))
    (case zzm7 => refine' My.hasM ?zzm7_0 ?zzm7_1 ?zzm7_2 ?zzm7_3 ?zzm7_4; (case zzm7_0 => k_is); (case zzm7_1 => k_is); (case zzm7_2 => k_is); (case zzm7_3 => k_is); (case zzm7_4 => k_is))
    (case zzm8 => refine' My.hasM ?zzm8_0 ?zzm8_1 ?zzm8_2 ?zzm8_3 ?zzm8_4; (case zzm8_0 => k_is); (case zzm8_1 => k_is); (case zzm8_2 => k_is); (case zzm8_3 => k_is); (case zzm8_4 => k_is))
    (case zzm9 => refine' My.hasM ?zzm9_0 ?zzm9_1 ?zzm9_2 ?zzm9_3 ?zzm9_4; (case zzm9_0 => k_is); (case zzm9_1 => k_is); (case zzm9_2 => k_is); (case zzm9_3 => k_is); (case zzm9_4 => k_is))
    (case zzm10 => refine' My.hasM ?zzm10_0 ?zzm10_1 ?zzm10_2 ?zzm10_3 ?zzm10_4; (case zzm10_0 => k_is); (case zzm10_1 => k_is); (case zzm10_2 => k_is); (case zzm10_3 => k_is); (case zzm10_4 => k_is))
    (case zzm11 => refine' My.hasM ?zzm11_0 ?zzm11_1 ?zzm11_2 ?zzm11_3 ?zzm11_4; (case zzm11_0 => k_is); (case zzm11_1 => k_is); (case zzm11_2 => k_is); (case zzm11_3 => k_is); (case zzm11_4 => k_is))
    (case zzm12 => refine' My.hasM ?zzm12_0 ?zzm12_1 ?zzm12_2 ?zzm12_3 ?zzm12_4; (case zzm12_0 => k_is); (case zzm12_1 => k_is); (case zzm12_2 => k_is); (case zzm12_3 => k_is); (case zzm12_4 => k_is))
    (case zzm13 => refine' My.hasM ?zzm13_0 ?zzm13_1 ?zzm13_2 ?zzm13_3 ?zzm13_4; (case zzm13_0 => k_is); (case zzm13_1 => k_is); (case zzm13_2 => k_is); (case zzm13_3 => k_is); (case zzm13_4 => k_is))
    (case zzm14 => refine' My.hasM ?zzm14_0 ?zzm14_1 ?zzm14_2 ?zzm14_3 ?zzm14_4; (case zzm14_0 => k_is); (case zzm14_1 => k_is); (case zzm14_2 => k_is); (case zzm14_3 => k_is); (case zzm14_4 => k_is))
    (case zzm15 => refine' My.hasM ?zzm15_0 ?zzm15_1 ?zzm15_2 ?zzm15_3 ?zzm15_4; (case zzm15_0 => k_is); (case zzm15_1 => k_is); (case zzm15_2 => k_is); (case zzm15_3 => k_is); (case zzm15_4 => k_is))
    (case zzm16 => refine' My.hasM ?zzm16_0 ?zzm16_1 ?zzm16_2 ?zzm16_3 ?zzm16_4; (case zzm16_0 => k_is); (case zzm16_1 => k_is); (case zzm16_2 => k_is); (case zzm16_3 => k_is); (case zzm16_4 => k_is))
    (case zzm17 => refine' My.hasM ?zzm17_0 ?zzm17_1 ?zzm17_2 ?zzm17_3 ?zzm17_4; (case zzm17_0 => k_is); (case zzm17_1 => k_is); (case zzm17_2 => k_is); (case zzm17_3 => k_is); (case zzm17_4 => k_is))
    (case zzm18 => refine' My.hasM ?zzm18_0 ?zzm18_1 ?zzm18_2 ?zzm18_3 ?zzm18_4; (case zzm18_0 => k_is); (case zzm18_1 => k_is); (case zzm18_2 => k_is); (case zzm18_3 => k_is); (case zzm18_4 => k_is))
    (case zzm19 => refine' My.hasM ?zzm19_0 ?zzm19_1 ?zzm19_2 ?zzm19_3 ?zzm19_4; (case zzm19_0 => k_is); (case zzm19_1 => k_is); (case zzm19_2 => k_is); (case zzm19_3 => k_is); (case zzm19_4 => k_is))
    (case zzm20 => refine' My.hasM ?zzm20_0 ?zzm20_1 ?zzm20_2 ?zzm20_3 ?zzm20_4; (case zzm20_0 => k_is); (case zzm20_1 => k_is); (case zzm20_2 => k_is); (case zzm20_3 => k_is); (case zzm20_4 => k_is))
    (case zzm21 => refine' My.hasM ?zzm21_0 ?zzm21_1 ?zzm21_2 ?zzm21_3 ?zzm21_4; (case zzm21_0 => k_is); (case zzm21_1 => k_is); (case zzm21_2 => k_is); (case zzm21_3 => k_is); (case zzm21_4 => k_is))
    (case zzm22 => refine' My.hasM ?zzm22_0 ?zzm22_1 ?zzm22_2 ?zzm22_3 ?zzm22_4; (case zzm22_0 => k_is); (case zzm22_1 => k_is); (case zzm22_2 => k_is); (case zzm22_3 => k_is); (case zzm22_4 => k_is))
    (case zzm23 => refine' My.hasM ?zzm23_0 ?zzm23_1 ?zzm23_2 ?zzm23_3 ?zzm23_4; (case zzm23_0 => k_is); (case zzm23_1 => k_is); (case zzm23_2 => k_is); (case zzm23_3 => k_is); (case zzm23_4 => k_is))
    (case zzm24 => refine' My.hasM ?zzm24_0 ?zzm24_1 ?zzm24_2 ?zzm24_3 ?zzm24_4; (case zzm24_0 => k_is); (case zzm24_1 => k_is); (case zzm24_2 => k_is); (case zzm24_3 => k_is); (case zzm24_4 => k_is))
    (case zzm25 => refine' My.hasM ?zzm25_0 ?zzm25_1 ?zzm25_2 ?zzm25_3 ?zzm25_4; (case zzm25_0 => k_is); (case zzm25_1 => k_is); (case zzm25_2 => k_is); (case zzm25_3 => k_is); (case zzm25_4 => k_is))
    (case zzm26 => refine' My.hasM ?zzm26_0 ?zzm26_1 ?zzm26_2 ?zzm26_3 ?zzm26_4; (case zzm26_0 => k_is); (case zzm26_1 => k_is); (case zzm26_2 => k_is); (case zzm26_3 => k_is); (case zzm26_4 => k_is))
    (case zzm27 => refine' My.hasM ?zzm27_0 ?zzm27_1 ?zzm27_2 ?zzm27_3 ?zzm27_4; (case zzm27_0 => k_is); (case zzm27_1 => k_is); (case zzm27_2 => k_is); (case zzm27_3 => k_is); (case zzm27_4 => k_is))
    (case zzm28 => refine' My.hasM ?zzm28_0 ?zzm28_1 ?zzm28_2 ?zzm28_3 ?zzm28_4; (case zzm28_0 => k_is); (case zzm28_1 => k_is); (case zzm28_2 => k_is); (case zzm28_3 => k_is); (case zzm28_4 => k_is))
    (case zzm29 => refine' My.hasM ?zzm29_0 ?zzm29_1 ?zzm29_2 ?zzm29_3 ?zzm29_4; (case zzm29_0 => k_is); (case zzm29_1 => k_is); (case zzm29_2 => k_is); (case zzm29_3 => k_is); (case zzm29_4 => k_is))
    (case zzm30 => refine' My.hasM ?zzm30_0 ?zzm30_1 ?zzm30_2 ?zzm30_3 ?zzm30_4; (case zzm30_0 => k_is); (case zzm30_1 => k_is); (case zzm30_2 => k_is); (case zzm30_3 => k_is); (case zzm30_4 => k_is))
    (case zzm31 => refine' My.hasM ?zzm31_0 ?zzm31_1 ?zzm31_2 ?zzm31_3 ?zzm31_4; (case zzm31_0 => k_is); (case zzm31_1 => k_is); (case zzm31_2 => k_is); (case zzm31_3 => k_is); (case zzm31_4 => k_is))
    (case zzm32 => refine' My.hasM ?zzm32_0 ?zzm32_1 ?zzm32_2 ?zzm32_3 ?zzm32_4; (case zzm32_0 => k_is); (case zzm32_1 => k_is); (case zzm32_2 => k_is); (case zzm32_3 => k_is); (case zzm32_4 => k_is))
    (case zzm33 => refine' My.hasM ?zzm33_0 ?zzm33_1 ?zzm33_2 ?zzm33_3 ?zzm33_4; (case zzm33_0 => k_is); (case zzm33_1 => k_is); (case zzm33_2 => k_is); (case zzm33_3 => k_is); (case zzm33_4 => k_is))
    (case zzA5 => k_is)
    (case zzl5 => k_is)
    (case zze5 => k_is)
    (case zzK5 => k_is)
    (case zzg0 => refine' My.hasF ?zzg0_0 ?zzg0_1 ?zzg0_2 ?zzg0_3; (case zzg0_0 => k_is); (case zzg0_1 => k_is); (case zzg0_2 => k_is); (case zzg0_3 => k_is))
    (case zzg1 => refine' My.hasF ?zzg1_0 ?zzg1_1 ?zzg1_2 ?zzg1_3; (case zzg1_0 => k_is); (case zzg1_1 => k_is); (case zzg1_2 => k_is); (case zzg1_3 => k_is))
    (case zzg2 => refine' My.hasF ?zzg2_0 ?zzg2_1 ?zzg2_2 ?zzg2_3; (case zzg2_0 => k_is); (case zzg2_1 => k_is); (case zzg2_2 => k_is); (case zzg2_3 => k_is))
    (case zzg3 => refine' My.hasF ?zzg3_0 ?zzg3_1 ?zzg3_2 ?zzg3_3; (case zzg3_0 => k_is); (case zzg3_1 => k_is); (case zzg3_2 => k_is); (case zzg3_3 => k_is))
    (case zzg4 => refine' My.hasF ?zzg4_0 ?zzg4_1 ?zzg4_2 ?zzg4_3; (case zzg4_0 => k_is); (case zzg4_1 => k_is); (case zzg4_2 => k_is); (case zzg4_3 => k_is))
    (case zznil => refine' ⟨?zznil_0, ?zznil_1, ?zznil_2, ?zznil_3, ?zznil_4, ?zznil_5, ?zznil_6, ?zznil_7, ?zznil_8, ?zznil_9, trivial⟩; (case zznil_0 => k_is); (case zznil_1 => k_is); (case zznil_2 => k_is); (case zznil_3 => k_is); (case zznil_4 => k_is); (case zznil_5 => k_is); (case zznil_6 => k_is); (case zznil_7 => k_is); (case zznil_8 => k_is); (case zznil_9 => k_is))
    (case zzi0 => refine' My.intN ?zzi0_0; (case zzi0_0 => k_is))
    (case zzi1 => refine' My.intN ?zzi1_0; (case zzi1_0 => k_is))
    (case zzi2 => refine' My.intN ?zzi2_0; (case zzi2_0 => k_is))
    (case zzi3 => refine' My.intN ?zzi3_0; (case zzi3_0 => k_is))
    (case zzi4 => refine' My.intN ?zzi4_0; (case zzi4_0 => k_is))
    (case zzi5 => refine' My.intN ?zzi5_0; (case zzi5_0 => k_is))
    (case zzi6 => refine' My.intN ?zzi6_0; (case zzi6_0 => k_is))
    (case zzi7 => refine' My.intN ?zzi7_0; (case zzi7_0 => k_is))
    (case zzi8 => refine' My.intN ?zzi8_0; (case zzi8_0 => k_is))
    (case zzi9 => refine' My.intN ?zzi9_0; (case zzi9_0 => k_is))
    (case zzi10 => refine' My.intN ?zzi10_0; (case zzi10_0 => k_is))
    (case zzi11 => refine' My.intN ?zzi11_0; (case zzi11_0 => k_is))
    (case zzi12 => refine' My.intN ?zzi12_0; (case zzi12_0 => k_is))
    (case zzi13 => refine' My.intN ?zzi13_0; (case zzi13_0 => k_is))
    (case zzi14 => refine' My.intN ?zzi14_0; (case zzi14_0 => k_is))
    (case zzi15 => refine' My.intN ?zzi15_0; (case zzi15_0 => k_is))
    (case zzi16 => refine' My.intN ?zzi16_0; (case zzi16_0 => k_is))
    (case zzi17 => refine' My.intN ?zzi17_0; (case zzi17_0 => k_is))
    (case zzi18 => refine' My.intN ?zzi18_0; (case zzi18_0 => k_is))
    (case zzi19 => refine' My.intN ?zzi19_0; (case zzi19_0 => k_is))
    (case zzi20 => refine' My.intN ?zzi20_0; (case zzi20_0 => k_is))
    (case zzi21 => refine' My.intN ?zzi21_0; (case zzi21_0 => k_is))
    (case zzi22 => refine' My.intN ?zzi22_0; (case zzi22_0 => k_is))
    (case zzad => k_is)
    (case zzld => k_is)
    (case zztd => decide +kernel)
  case S =>
    intro K H xs a hO hwi hask hx
    cases hx with
    | cons h1 h2 =>
      cases h2
      cases h1 with
      | lst hs ha =>
        have e := L2.ints_dw a.1 _ ha
        subst e
        have q : ((Codec.inLen 0 1250 a.1 && a.1.all (Codec.inInt 0 18446744073709551615)) && true) = true := hwi
        rw [Bool.and_eq_true, Bool.and_eq_true] at q
        exact ⟨_, a.1, rfl, hs, hask, fun z hz => (Codec.inInt_iff.mp (List.all_eq_true.mp q.1.2 z hz)).1, fun H' p hp => .lst (L2.SqL.of hp) (L2.dw_ints _)⟩
