import PyProof.Rows.All
import Wide.All
import OpenK.AllK
import Wide.FinOn
import PyProof.EqAt
import PyProof.EqKinds
import PyProof.TupleCall
import Open.SpecLaws
import KE.OsGo
import PySem.Challenge.RW_slipstell_s01_answers
import HandS.ForSpec
import KE.SortData
import KE.KeyNested
import KE.KDictKeyed
import KE.KDictWalk
import HandS.ForMost
import HandS.Sort
import HandS.TupLen
import HandS.ExcInit
import HandS.ExcField
import HandS.ExcSuper
import SySlip
import HandS.Walk
import HandS.Comp
import HandS.Iter
import HandS.Text
import KE.DataMinMax
import KE.SortKeyHeap
import HandS.SortKw
import HandS.SetKeys
import HandS.TupAny
import HandS.ExcOwn
/-! ## PFeed -/
section
set_option Elab.async false
set_option linter.all false
set_option maxRecDepth 100000
set_option maxHeartbeats 2000000
namespace Slip
open PySem PySem.Spec PyProof.Rows L2
open PySem.W (Codec)
def top (i : Nat) : Stmt := PySem.Challenge.pw_slipstell_s01_answers.main.body.getD i (.Pass ⟨0, 0, 0, 0⟩)
def qj : Str → Str → Str := fun a b => a
theorem lk_here {k : Str} {v : V} {r : List (Str × V)} : List.lookup k ((k, v) :: r) = some v := by
  have e : (k == k) = true := beq_self_eq_true k
  simp only [List.lookup, e]
theorem lk_past {k g : Str} {v : V} {r : List (Str × V)} (h : (k == g) = false) : List.lookup k ((g, v) :: r) = List.lookup k r := by
  simp only [List.lookup, h]
theorem put_here {f : Str} {v x : V} {r : List (Str × V)} : putF f v ((f, x) :: r) = (f, v) :: r := if_pos rfl
theorem put_past {f g : Str} {v x : V} {r : List (Str × V)} (h : ¬ g = f) : putF f v ((g, x) :: r) = (g, x) :: putF f v r := if_neg h
theorem if_true_of {c : Bool} {A B : Prop} (hc : c = true) (h : A) : if c = true then A else B := by
  rw [if_pos hc]
  exact h
theorem if_false_of {c : Bool} {A B : Prop} (hc : c = false) (h : B) : if c = true then A else B := by
  rw [hc, if_neg Bool.false_ne_true]
  exact h

/-! Feed -/
def feF (cl : Addr) (i : Nat) : List (Str × V) := [("numbers", .ref cl), ("place", .int i)]
def FeedAt (C : Addr) (H : Hp) (a cl : Addr) (i : Nat) : Prop := ∃ dx, H a = some (.ins C dx (feF cl i))
theorem feF_numbers (cl : Addr) (i : Nat) : (feF cl i).lookup ("numbers" : Str) = some (.ref cl) := lk_here
theorem feF_place (cl : Addr) (i : Nat) : (feF cl i).lookup ("place" : Str) = some (.int i) := (lk_past (by decide +kernel)).trans lk_here
theorem feF_number (cl : Addr) (i : Nat) : (feF cl i).lookup ("number" : Str) = none := (lk_past (by decide +kernel)).trans ((lk_past (by decide +kernel)).trans rfl)
theorem feF_ended (cl : Addr) (i : Nat) : (feF cl i).lookup ("ended" : Str) = none := (lk_past (by decide +kernel)).trans ((lk_past (by decide +kernel)).trans rfl)
theorem feF_row (cl : Addr) (i : Nat) : (feF cl i).lookup ("row" : Str) = none := (lk_past (by decide +kernel)).trans ((lk_past (by decide +kernel)).trans rfl)
theorem feF_put (cl : Addr) (i j : Nat) : putF "place" (.int j) (feF cl i) = feF cl j := (put_past (by decide +kernel)).trans (congrArg _ put_here)
theorem feF_new (cl : Addr) : putF "place" (.int 0) (putF "numbers" (.ref cl) []) = feF cl 0 := (put_past (by decide +kernel)).trans rfl

structure TFeed (K : PySem.W.Frag) (mg : Str → Option Value) (C : Addr) : Prop where
  cl : Cls K C
  nN : NoAttr K C "numbers"
  nP : NoAttr K C "place"
  len : mg "len" = none

def spFInit (C : Addr) : Sp := fun vs H Q _ => ∃ (p dx cl : Addr), vs = [.ref p, .ref cl] ∧ H p = some (.ins C dx []) ∧
  ∀ H' : Hp, FeedAt C H' p cl 0 → (∀ b o, H b = some o → b ≠ p → H' b = some o) → Q .non H'
/-- over the numbers ns at cl, from the place i on -/
def spEnded (K : PySem.W.Frag) (C : Addr) : Sp := fun vs H Q _ => ∃ (a cl : Addr) (i : Nat) (ns : List V), vs = [.ref a] ∧ FeedAt C H a cl i ∧ SqL K H cl ns ∧ Q (.bl (decide ((ns.length : Int) ≤ i))) H
def spNumber (K : PySem.W.Frag) (C : Addr) : Sp := fun vs H Q _ => ∃ (a cl : Addr) (i : Nat) (ns : List V) (v : V), vs = [.ref a] ∧ FeedAt C H a cl i ∧ SqL K H cl ns ∧ ns[i]? = some v ∧
  ∀ H' : Hp, FeedAt C H' a cl (i + 1) → (∀ b o, H b = some o → b ≠ a → H' b = some o) → (∀ b, H b = none → H' b = none) → Q v H'
abbrev sFeed : Stmt := top 1
abbrev sFInit : Stmt := inClass sFeed 0
abbrev sEnded : Stmt := inClass sFeed 1
abbrev sNumber : Stmt := inClass sFeed 2
abbrev sRow : Stmt := inClass sFeed 3
section
variable {P : Program} {w : World} {K : PySem.W.Frag} {mg : Str → Option Value} {base : Heap} {C : Addr}
theorem scFInit : FnScope ["self", "numbers"] ["self", "numbers"] (defScope sFInit) := ⟨rfl, rfl, rfl, by decide +kernel, rfl, by decide +kernel, by decide +kernel⟩
theorem ok_FInit {f : Addr} {fd : FuncData} (F : Fun K "__init__" "Feed.__init__" sFInit f fd) (T : TFeed K mg C) : FnOk P w K mg base CX0 1 f fd ["self", "numbers"] (spFInit C) := by
  refine F.ok scFInit (fun vs H Q E h => ?_) (fun cdv A outer s H vs Q E hr h => ⟨_, pss_cons (ps_fld (pv 0) (pv 1) rfl) (pss_one (ps_fld (pv 0) pe_int rfl)), ?_⟩)
  · obtain ⟨p, dx, r, rfl, _⟩ := h
    rfl
  · obtain ⟨p, dx, cl, rfl, hp, k⟩ := h
    refine ⟨_, rfl, _, rfl, p, C, dx, [], rfl, hp, T.cl, T.nN, (by show 0 < 1000; decide), ?_⟩
    refine ⟨_, rfl, p, C, dx, _, rfl, upd_same, T.cl, T.nP, (by show 1 < 1000; decide), ?_⟩
    exact k _ ⟨dx, Eq.trans upd_same (congrArg (fun q => some (HO.ins C dx q)) (feF_new cl))⟩ fun b o e hb => by
      rw [upd_ne hb, upd_ne hb]
      exact e
theorem scEnded : FnScope ["self"] ["self"] (defScope sEnded) := ⟨rfl, rfl, rfl, by decide +kernel, rfl, by decide +kernel, by decide +kernel⟩
theorem ok_Ended {f : Addr} {fd : FuncData} (F : Fun K "ended" "Feed.ended" sEnded f fd) (T : TFeed K mg C) : FnOk P w K mg base CX0 1 f fd ["self"] (spEnded K C) := by
  refine F.ok scEnded (fun vs H Q E h => ?_) (fun cdv A outer s H vs Q E hr h => ⟨_, pss_one (ps_ret (pe_cmpR op_ge (pe_fld (pv 0) rfl) (pe_callB call_len_seq (by rfl) T.len PySem.boot_len (pa_cons (pe_fld (pv 0) rfl) pa_nil)) (nomark _))), ?_⟩)
  · obtain ⟨p, cl, i, ns, rfl, _⟩ := h
    rfl
  · obtain ⟨a, cl, i, ns, rfl, ⟨dx, ha⟩, hS, k⟩ := h
    refine ⟨_, rfl, a, C, dx, _, _, rfl, ha, T.cl, T.nP, feF_place _ _, ?_⟩
    refine ⟨_, rfl, a, C, dx, _, _, rfl, ha, T.cl, T.nN, feF_numbers _ _, ?_⟩
    exact ⟨_, _, rfl, .inl hS, _, _, rfl, rfl, k⟩
theorem scNumber : FnScope ["self", "taken"] ["self"] (defScope sNumber) := ⟨rfl, rfl, rfl, by decide +kernel, rfl, by decide +kernel, by decide +kernel⟩
theorem ok_Number {f : Addr} {fd : FuncData} (F : Fun K "number" "Feed.number" sNumber f fd) (T : TFeed K mg C) : FnOk P w K mg base CX0 1 f fd ["self"] (spNumber K C) := by
  refine F.ok scNumber (fun vs H Q E h => ?_) (fun cdv A outer s H vs Q E hr h => ⟨_, pss_cons (ps_set (i := 1) scNumber.nd rfl (Or.inl rfl) (pe_ix ix_list (pe_fld (pv 0) rfl) (pe_fld (pv 0) rfl) (fun _ _ => rfl)))
      (pss_cons (ps_fld (pv 0) (pe_op op_add (pe_fld (pv 0) rfl) pe_int) rfl) (pss_one (ps_ret (pv 1)))), ?_⟩)
  · obtain ⟨p, cl, i, ns, v, rfl, _⟩ := h
    rfl
  · obtain ⟨a, cl, i, ns, v, rfl, ⟨dx, ha⟩, hS, hv, k⟩ := h
    refine ⟨_, rfl, a, C, dx, _, _, rfl, ha, T.cl, T.nN, feF_numbers _ _, ?_⟩
    refine ⟨_, rfl, a, C, dx, _, _, rfl, ha, T.cl, T.nP, feF_place _ _, ?_⟩
    refine ⟨cl, ns, i, v, rfl, rfl, hS, atI_nat hv, ?_⟩
    refine ⟨_, rfl, a, C, dx, _, _, rfl, ha, T.cl, T.nP, feF_place _ _, _, _, rfl, rfl, ?_⟩
    refine ⟨_, rfl, a, C, dx, _, rfl, ha, T.cl, T.nP, (by show 2 < 1000; decide), ?_⟩
    refine ⟨_, rfl, ?_⟩
    exact k _ ⟨dx, Eq.trans upd_same (congrArg (fun q => some (HO.ins C dx q)) (feF_put cl i (i + 1)))⟩ (fun b o e hb => by
      rw [upd_ne hb]
      exact e) fun b hb => by rw [upd_ne (Ne.symm (ne_of_none ha hb))]; exact hb
end
end Slip
end
/-! ## MyA -/
section
set_option Elab.async false
set_option linter.all false
set_option maxRecDepth 100000
set_option maxHeartbeats 2000000
namespace L2
open PySem PySem.Spec PyProof.Rows
open PySem.W (alike dataLe AllAlike Sortable EachIs)
section
variable {X : Cx}
theorem each_paired {α β : Type} {R : α → β → Prop} : ∀ {xs : List β} {us : List α}, Paired (fun b a => R a b) xs us → EachIs R us xs
  | _, _, .nil => .nil
  | _, _, .cons h t => .cons h (each_paired t)
theorem paired_each {α β : Type} {R : α → β → Prop} : ∀ {us : List α} {xs : List β}, EachIs R us xs → Paired (fun b a => R a b) xs us
  | _, _, .nil => .nil
  | _, _, .cons h t => .cons h (paired_each t)
theorem dp_len {K : PySem.W.Frag} {H : Hp} : ∀ {xs : List V} {ds : List PyData}, DpAll K H xs ds → xs.length = ds.length
  | _, _, .nil => rfl
  | _, _, .cons _ t => congrArg (· + 1) (dp_len t)
theorem dp_zip {K : PySem.W.Frag} {H : Hp} : ∀ {xs : List V} {ds : List PyData} {us : List Value}, DpAll K H xs ds → Vals xs us → Paired (fun (p : V × PyData) u => RelV p.1 u ∧ Dp K H p.1 p.2) (xs.zip ds) us
  | _, _, _, .nil, .nil => .nil
  | _, _, _, .cons d t, .cons r q => .cons ⟨r, d⟩ (dp_zip t q)
theorem paired_fst {γ : Type} : ∀ {zs : List (V × γ)} {us : List Value}, Paired (fun (p : V × γ) u => RelV p.1 u) zs us → Vals (zs.map Prod.fst) us
  | _, _, .nil => .nil
  | _, _, .cons r t => .cons r (paired_fst t)
/-- sorted of a list whose items read as alike data -/
def rSortedD (K : PySem.W.Frag) : List V → Hp → VK → Prop := fun vs H Q => ∃ (a : Addr) (xs : List V) (ds : List PyData), vs = [V.ref a] ∧ SqL K H a xs ∧ DpAll K H xs ds ∧ AllAlike ds ∧ Sortable ds ∧ (∀ d ∈ ds, d.depth ≤ 8) ∧
  ∀ p, H p = none → Q (.ref p) (upd H p (.lst (((xs.zip ds).mergeSort (dataLe false Prod.snd)).map Prod.fst)))
theorem cr_sortedD (hu : X.A.units + 64 < cLine) : CallR X (.builtin "sorted") (rSortedD X.K) := by
  intro pins s σ H vs us Q I r h
  obtain ⟨a, xs, ds, rfl, hs, hd, hal, hso, hdep, q⟩ := h
  obtain ⟨its, rv, hl, hz⟩ := I.list hs
  obtain ⟨u0, rfl, hr0⟩ := vals1 r
  obtain rfl : u0 = Value.ref a := hr0
  have len := dp_len hd
  have zz := dp_zip hd rv
  have e1 : EachIs (fun u (p : V × PyData) => RelV p.1 u) its (xs.zip ds) := each_paired (Paired.mapP zz fun p u h => h.1)
  have e2 : EachIs (fun u (p : V × PyData) => ∃ as, Reads s.heap u p.2 as) its (xs.zip ds) := each_paired (Paired.mapP zz fun p u h => Dp.reads I p.2 p.1 u h.2 h.1)
  have snd : (xs.zip ds).map Prod.snd = ds := List.map_snd_zip (by omega)
  have zl : (xs.zip ds).length = xs.length := by rw [List.length_zip]; omega
  refine PySem.W.sorted_data (enc := Prod.snd) hl.isList e1 e2 (by rw [snd]; exact hal) (by rw [snd]; exact hso) (by rw [zl]; exact hz) (fun b hb => ?_) fun out ho eo => ?_
  · have : b.2 ∈ ds := by rw [← snd]; exact List.mem_map_of_mem hb
    have := hdep _ this
    omega
  · obtain ⟨n, hn⟩ := sortedAll_at s.heap its (List.toArray out)
    have vv : Vals (((xs.zip ds).mergeSort (dataLe false Prod.snd)).map Prod.fst) out := paired_fst (paired_each eo)
    have kp : ∀ b o, s.heap.get? b = some o → (sortedAll s.heap its (List.toArray out)).get? b = some o := fun b o e => sortedAll_old e
    have fresh : s.heap.objs.size ≤ s.heap.objs.size + 1 := Nat.le_succ _
    refine ⟨.ref (s.heap.objs.size + 1), upd H (s.heap.objs.size + 1) (.lst (((xs.zip ds).mergeSort (dataLe false Prod.snd)).map Prod.fst)), I.laid (t' := s.toks) kp fresh ⟨?_, out, n, vv, hn⟩, rfl, q _ (I.hok.fresh fresh)⟩
    rw [vv.length, ho, zl]
    exact hz
end
end L2
end
/-! ## MyB -/
section
set_option Elab.async false
set_option linter.all false
set_option maxRecDepth 100000
set_option maxHeartbeats 2000000
namespace L2
open PySem PySem.Spec PyProof.Rows

/-! ### dicts whose keys are tuples of any depth -/
mutual
/-- the value x stands for the key -/
inductive NKV (H : Hp) : V → NestedKey → Prop
  | num (i : Int) : NKV H (.int i) (.num i)
  | tup {a : Addr} {xs : List V} {ks : List NestedKey} : H a = some (.tup xs) → NKVs H xs ks → NKV H (.ref a) (.tup ks)
inductive NKVs (H : Hp) : List V → List NestedKey → Prop
  | nil : NKVs H [] []
  | cons {x : V} {xs : List V} {k : NestedKey} {ks : List NestedKey} : NKV H x k → NKVs H xs ks → NKVs H (x :: xs) (k :: ks)
end
mutual
theorem NKV.keep {H H' : Hp} (e : ∀ b xs, H b = some (.tup xs) → H' b = some (.tup xs)) : ∀ {x : V} {k : NestedKey}, NKV H x k → NKV H' x k
  | _, _, .num i => .num i
  | _, _, .tup h t => .tup (e _ _ h) (NKVs.keep e t)
theorem NKVs.keep {H H' : Hp} (e : ∀ b xs, H b = some (.tup xs) → H' b = some (.tup xs)) : ∀ {xs : List V} {ks : List NestedKey}, NKVs H xs ks → NKVs H' xs ks
  | _, _, .nil => .nil
  | _, _, .cons h t => .cons (NKV.keep e h) (NKVs.keep e t)
end
section
variable {X : Cx} {pins : List (Addr × Obj)} {σ : List (Option V)} {H : Hp} {s : Shared}
theorem tup_seen (I : Inv X pins σ H s) {a : Addr} {xs : List V} (h : H a = some (.tup xs)) : ∃ (its : List Value) (o : Obj) (n : Nat), Vals xs its ∧ s.heap.get? a = some o ∧ o.cls = .type "tuple" ∧ o.data = .seq its.toArray n := by
  have q := I.hok _ _ h
  obtain ⟨_, its, rv, o, e1, e2, n, e3⟩ := q
  exact ⟨its, o, n, rv, e1, e2, e3⟩
mutual
theorem NKV.is (I : Inv X pins σ H s) : ∀ (k : NestedKey) (x : V) (u : Value), NKV H x k → RelV x u → NestedIs s.heap k u
  | .num i, _, u, h, r => by
    cases h
    obtain ⟨t, rfl⟩ := r
    exact .int i t
  | .tup ks, _, u, h, r => by
    cases h with
    | tup ha hk =>
      cases r
      obtain ⟨its, o, n, rv, e1, e2, e3⟩ := tup_seen I ha
      exact .tup e1 e2 e3 (NKVs.is I ks _ _ hk rv)
  | .none, _, _, h, _ => by cases h
  | .text _, _, _, h, _ => by cases h
theorem NKVs.is (I : Inv X pins σ H s) : ∀ (ks : List NestedKey) (xs : List V) (us : List Value), NKVs H xs ks → Vals xs us → NestedAll s.heap ks us
  | [], _, _, h, r => by
    cases h
    cases r
    exact .nil
  | k :: ks, _, _, h, r => by
    cases h with
    | cons h1 h2 =>
      cases r with
      | cons r1 r2 => exact .cons (NKV.is I k _ _ h1 r1) (NKVs.is I ks _ _ h2 r2)
end
end

abbrev NEnt := NestedKey × Addr × V
def hasN (xs : List NEnt) (k : NestedKey) : Bool := xs.any fun x => decide (x.1 = k)
def getN (xs : List NEnt) (k : NestedKey) : Option V := (xs.find? fun x => decide (x.1 = k)).map fun x => x.2.2
def putN (xs : List NEnt) (k : NestedKey) (a : Addr) (v : V) : List NEnt := if hasN xs k = true then xs.map (fun x => if x.1 = k then (x.1, x.2.1, v) else x) else xs ++ [(k, a, v)]
abbrev EntR : NEnt → NestedKey × Addr × Value → Prop := fun x y => x.1 = y.1 ∧ x.2.1 = y.2.1 ∧ RelV x.2.2 y.2.2
theorem entR_at {k : NestedKey} : ∀ {xs : List NEnt} {ys : List (NestedKey × Addr × Value)}, Paired EntR xs ys → (atKey ys k).isSome = hasN xs k
  | _, _, .nil => rfl
  | x :: xs, y :: ys, .cons r t => by
    have ih := entR_at (k := k) t
    obtain ⟨e, _, _⟩ := r
    by_cases h : y.1 = k
    · simp [atKey, hasN, h, e]
    · have h' : ¬ x.1 = k := fun q => h (e ▸ q)
      simp only [atKey, hasN, List.find?_cons, List.any_cons, decide_eq_false h, decide_eq_false h', Bool.false_or] at ih ⊢
      exact ih
theorem entR_get {k : NestedKey} {v : V} : ∀ {xs : List NEnt} {ys : List (NestedKey × Addr × Value)}, Paired EntR xs ys → getN xs k = some v → ∃ p, atKey ys k = some p ∧ RelV v p.2
  | _, _, .nil, h => nomatch h
  | x :: xs, y :: ys, .cons r t, h => by
    obtain ⟨e, _, rv⟩ := r
    by_cases q : y.1 = k
    · have q' : x.1 = k := e.trans q
      simp only [getN, List.find?_cons, decide_eq_true q', Option.map_some, Option.some.injEq] at h
      subst h
      exact ⟨y.2, by simp [atKey, q], rv⟩
    · have q' : ¬ x.1 = k := fun z => q (e ▸ z)
      simp only [getN, List.find?_cons, decide_eq_false q'] at h
      obtain ⟨p, h1, h2⟩ := entR_get (k := k) (v := v) t h
      refine ⟨p, ?_, h2⟩
      simpa [atKey, List.find?_cons, decide_eq_false q] using h1
theorem entR_map {k : NestedKey} {v : V} {u : Value} (rv : RelV v u) : ∀ {xs : List NEnt} {ys : List (NestedKey × Addr × Value)}, Paired EntR xs ys → Paired EntR (xs.map fun x => if x.1 = k then (x.1, x.2.1, v) else x) (ys.map (putAt k u))
  | _, _, .nil => .nil
  | x :: xs, y :: ys, .cons r t => by
    refine .cons ?_ (entR_map rv t)
    obtain ⟨e, e2, r2⟩ := r
    by_cases q : y.1 = k
    · have q' : x.1 = k := e.trans q
      show EntR (if x.1 = k then (x.1, x.2.1, v) else x) (putAt k u y)
      rw [if_pos q', putAt, if_pos q]
      exact ⟨e, e2, rv⟩
    · have q' : ¬ x.1 = k := fun z => q (e ▸ z)
      show EntR (if x.1 = k then (x.1, x.2.1, v) else x) (putAt k u y)
      rw [if_neg q', putAt, if_neg q]
      exact ⟨e, e2, r2⟩
theorem entR_put {k : NestedKey} {a : Addr} {v : V} {u : Value} (rv : RelV v u) {xs : List NEnt} {ys : List (NestedKey × Addr × Value)} (h : Paired EntR xs ys) : Paired EntR (putN xs k a v) (storedH ys k a u) := by
  have e := entR_at (k := k) h
  unfold putN storedH
  rw [e]
  split
  · exact entR_map rv h
  · refine PairedApp h (.cons ⟨rfl, rfl, rv⟩ .nil)
where PairedApp : ∀ {xs xs' : List NEnt} {ys ys' : List (NestedKey × Addr × Value)}, Paired EntR xs ys → Paired EntR xs' ys' → Paired EntR (xs ++ xs') (ys ++ ys')
  | _, _, _, _, .nil, q => q
  | _, _, _, _, .cons r t, q => .cons r (PairedApp t q)
theorem entR_len : ∀ {xs : List NEnt} {ys : List (NestedKey × Addr × Value)}, Paired EntR xs ys → xs.length = ys.length
  | _, _, .nil => rfl
  | _, _, .cons _ t => congrArg (· + 1) (entR_len t)
theorem entR_keys : ∀ {xs : List NEnt} {ys : List (NestedKey × Addr × Value)}, Paired EntR xs ys → ∀ y ∈ ys, ∃ x ∈ xs, x.1 = y.1 ∧ x.2.1 = y.2.1
  | _, _, .nil, y, h => nomatch h
  | x :: xs, z :: ys, .cons r t, y, h => by
    rcases List.mem_cons.mp h with rfl | h
    · exact ⟨x, List.mem_cons_self .., r.1, r.2.1⟩
    · obtain ⟨x', h1, h2⟩ := entR_keys t y h
      exact ⟨x', List.mem_cons_of_mem _ h1, h2⟩

/-- at d stands a dict with the entries xs, in their order -/
def phiN (P : Program) (w : World) (d : Addr) (xs : List NEnt) : Heap → Prop := fun h => xs.length ≤ sizeLine ∧ (d == sysModules) = false ∧ ∃ ys : List (NestedKey × Addr × Value), Paired EntR xs ys ∧
  ∃ o es ep, h.get? d = some o ∧ o.ExactDict ∧ o.data = .dict es ep ∧ es.toList = ys.map (entryOfKey (nestedKind P w)) ∧ (ys.map (·.1)).Nodup
def DN (P : Program) (w : World) (d : Addr) (xs : List NEnt) : HO := .ext (phiN P w d xs)
theorem dn_ok {P : Program} {w : World} {H : Hp} {h : Heap} {d : Addr} {xs : List NEnt} (q : phiN P w d xs h) : ObjOk P w H h d (DN P w d xs) := by
  obtain ⟨z, lo, ys, r, o, es, ep, ho, rest⟩ := id q
  refine ⟨q, ⟨o, ho⟩, ?_⟩
  rintro h1 h2 ⟨z, lo, ys, r, o, es, ep, ho, rest⟩ k
  exact ⟨z, lo, ys, r, o, es, ep, k o ho, rest⟩
/-- its keys stand in H -/
def KeysIn (H : Hp) (xs : List NEnt) : Prop := ∀ x ∈ xs, NKV H (.ref x.2.1) x.1 ∧ x.1.depth ≤ 8
section
variable {X : Cx} {pins : List (Addr × Obj)} {σ : List (Option V)} {H : Hp} {s : Shared} {d : Addr} {xs : List NEnt}
theorem dn_phi (I : Inv X pins σ H s) (h : Rd H d (DN X.prog X.w d xs)) : phiN X.prog X.w d xs s.heap := by
  have q := h.ok I.hok
  exact q.1
theorem dn_of (I : Inv X pins σ H s) (h : Rd H d (DN X.prog X.w d xs)) (hk : KeysIn H xs) : ∃ ys, Paired EntR xs ys ∧ s.heap.DictOfH (nestedKind X.prog X.w) d ys ∧ (d == sysModules) = false ∧ xs.length ≤ sizeLine := by
  obtain ⟨z, lo, ys, r, o, es, ep, ho, he, hd, ht, hn⟩ := dn_phi I h
  refine ⟨ys, r, ⟨o, es, ep, ho, he, hd, ht, fun y hy => ?_, hn⟩, lo, z⟩
  obtain ⟨x, hx, e1, e2⟩ := entR_keys r y hy
  obtain ⟨k1, k2⟩ := hk x hx
  rw [← e1, ← e2]
  exact ⟨NKV.is I _ _ _ k1 rfl, k2⟩
/-- {} -/
def tDNewN (P : Program) (w : World) : TE := fun _ H Q => ∀ p, H p = none → Q (.ref p) (upd H p (DN P w p []))
theorem pe_dnewN {pos : Pos} : PE X (.Dict [] [] pos) (tDNewN X.prog X.w) := ⟨fun pins s σ H Q I h => by
  refine wpAny_Dict_empty ⟨.ref s.heap.objs.size, _, I.laid (a := s.heap.objs.size) (o := DN X.prog X.w s.heap.objs.size []) (t' := s.toks) (fun _ _ q => Heap.get?_push_of_some _ q) (Nat.le_refl _) (dn_ok ?_), rfl, h _ (I.hok.fresh (Nat.le_refl _))⟩
  refine ⟨Nat.zero_le _, ?_, [], .nil, _, #[], 0, Heap.get?_push_size _ rfl, ⟨rfl, rfl, rfl⟩, rfl, rfl, List.nodup_nil⟩
  have := I.big
  exact beq_false_of_ne (Nat.ne_of_gt this)⟩
variable (hu : X.A.units + 64 < cLine)
/-- k in d -/
def rInN (P : Program) (w : World) : R2 := fun x y H Q => ∃ (a d : Addr) (k : NestedKey) (xs : List NEnt), x = .ref a ∧ y = .ref d ∧ Rd H d (DN P w d xs) ∧ KeysIn H xs ∧ NKV H (.ref a) k ∧ k.depth ≤ 8 ∧ Q (.bl (hasN xs k)) H
theorem op_inN (hu : X.A.units + 64 < cLine) : OpR X (compareOp .In) (rInN X.prog X.w) := by
  intro pins s σ H x y v u Q I rx ry h
  obtain ⟨a, d, k, xs, rfl, rfl, hd, hk, ha, h8, q⟩ := h
  cases rx
  cases ry
  obtain ⟨ys, r, hD, lo, _⟩ := dn_of I hd hk
  refine wpAny_in_heap (knd := nestedKind X.prog X.w) (k := k) (by show X.A.in1.units + 8 < cLine; simp only [Around.in1_units]; omega) ⟨NKV.is I _ _ _ ha rfl, h8⟩ lo hD ?_
  rw [entR_at r]
  exact ⟨.bl _, H, I.tok _, rfl, q⟩
def rNotInN (P : Program) (w : World) : R2 := fun x y H Q => ∃ (a d : Addr) (k : NestedKey) (xs : List NEnt), x = .ref a ∧ y = .ref d ∧ Rd H d (DN P w d xs) ∧ KeysIn H xs ∧ NKV H (.ref a) k ∧ k.depth ≤ 8 ∧ Q (.bl (!hasN xs k)) H
theorem op_notInN (hu : X.A.units + 64 < cLine) : OpR X (compareOp .NotIn) (rNotInN X.prog X.w) := by
  intro pins s σ H x y v u Q I rx ry h
  obtain ⟨a, d, k, xs, rfl, rfl, hd, hk, ha, h8, q⟩ := h
  cases rx
  cases ry
  obtain ⟨ys, r, hD, lo, _⟩ := dn_of I hd hk
  refine notIn_keyed (knd := nestedKind X.prog X.w) (k := k) (by show X.A.in1.units + 8 < cLine; simp only [Around.in1_units]; omega) ⟨NKV.is I _ _ _ ha rfl, h8⟩ lo ⟨ys, hD, rfl⟩ ?_
  rw [valueAt_pairsH, Option.isSome_map, entR_at r]
  exact ⟨.bl _, H, I.tok _, rfl, q⟩
/-- d[k], k there -/
def rGetN (P : Program) (w : World) : R2 := fun x y H Q => ∃ (a d : Addr) (k : NestedKey) (xs : List NEnt) (v : V), x = .ref d ∧ y = .ref a ∧ Rd H d (DN P w d xs) ∧ KeysIn H xs ∧ NKV H (.ref a) k ∧ k.depth ≤ 8 ∧ getN xs k = some v ∧ Q v H
/-- d[k] = v -/
def rPutN (P : Program) (w : World) : V → V → V → Hp → (Hp → Prop) → Prop := fun o i v H Q => ∃ (a d : Addr) (k : NestedKey) (xs : List NEnt), o = .ref d ∧ i = .ref a ∧ H d = some (DN P w d xs) ∧ KeysIn H xs ∧ NKV H (.ref a) k ∧ k.depth ≤ 8 ∧ xs.length < sizeLine ∧
  Q (upd H d (DN P w d (putN xs k a v)))
theorem putN_len (xs : List NEnt) (k : NestedKey) (a : Addr) (v : V) : (putN xs k a v).length ≤ xs.length + 1 := by
  unfold putN
  split
  · rw [List.length_map]; omega
  · rw [List.length_append]; exact Nat.le_refl _
theorem set_N (hu : X.A.units + 64 < cLine) : PSet X (rPutN X.prog X.w) := by
  intro pins s σ H o i v ov iv u Q I ro ri rv h
  obtain ⟨a, d, k, xs, rfl, rfl, hd, hk, ha, h8, hz, q⟩ := h
  cases ro
  cases ri
  obtain ⟨ys, r, hD, lo, _⟩ := dn_of I (.of hd) hk
  have ly := entR_len r
  refine wpAny_setItem_heap (knd := nestedKind X.prog X.w) (k := k) (by show X.A.in1.units + 8 < cLine; simp only [Around.in1_units]; omega) ⟨NKV.is I _ _ _ ha rfl, h8⟩ hD (fun h' hm' hs => ?_) (by omega)
  obtain ⟨ob, es, ep, ho, he, hdat, ht, _, hn⟩ := hm'
  have pl := putN_len xs k a v
  exact ⟨_, I.write (t' := s.toks + (nestedKind X.prog X.w).draws k) (by rw [hd]; trivial) (.inl rfl) (fun b ob hb e => (hs.2 b hb).trans e) ⟨ob, ho⟩ (dn_ok ⟨by omega, lo, _, entR_put rv r, ob, es, ep, ho, he, hdat, ht, hn⟩), q⟩
end
end L2
end
/-! ## MyC -/
section
set_option Elab.async false
set_option linter.all false
set_option maxRecDepth 100000
set_option maxHeartbeats 2000000
namespace L2
open PySem PySem.Spec PyProof.Rows
open PySem.W (alike dataLe AllAlike Sortable EachIs)
mutual
theorem reads_lt {h : Heap} : ∀ {v : Value} {d : PyData} {as : List Addr}, Reads h v d as → ∀ a ∈ as, a < h.objs.size
  | _, _, _, .none => fun _ m => nomatch m
  | _, _, _, .bool _ => fun _ m => nomatch m
  | _, _, _, .int _ _ => fun _ m => nomatch m
  | _, _, _, .str _ _ => fun _ m => nomatch m
  | _, _, _, .list h1 _ _ h4 => fun a m => by
    rcases List.mem_cons.mp m with rfl | m
    · exact Heap.lt_size h1
    · exact readsAll_lt h4 a m
  | _, _, _, .tuple _ _ _ h4 => readsAll_lt h4
  | _, _, _, .dict h1 _ _ h4 h5 => fun a m => by
    rcases List.mem_append.mp m with m | m
    · rcases List.mem_cons.mp m with rfl | m
      · exact Heap.lt_size h1
      · exact readsAll_lt h4 a m
    · exact readsAll_lt h5 a m
theorem readsAll_lt {h : Heap} : ∀ {vs : List Value} {ds : List PyData} {as : List Addr}, ReadsAll h vs ds as → ∀ a ∈ as, a < h.objs.size
  | _, _, _, .nil => fun _ m => nomatch m
  | _, _, _, .cons h1 h2 => fun a m => (List.mem_append.mp m).elim (reads_lt h1 a) (readsAll_lt h2 a)
end
section
variable {X : Cx}
theorem ix_N (hu : X.A.units + 64 < cLine) : IxR X (rGetN X.prog X.w) := by
  intro value slice pins s σ H x y v u Q I rx ry h hs
  obtain ⟨a, d, k, xs, z, rfl, rfl, hd, hk, ha, h8, hg, q⟩ := h
  cases rx
  cases ry
  obtain ⟨ys, r, hD, lo, _⟩ := dn_of I hd hk
  obtain ⟨p, hp, rp⟩ := entR_get r hg
  refine subscriptTail_builtinR (x := p.2) hD.typeIs PySem.F.slot_dict_getitem.lookup ?_ hs
  exact wpAny_getItem_heap (knd := nestedKind X.prog X.w) (k := k) (by show X.A.in1.units + 8 < cLine; simp only [Around.in1_units]; omega) ⟨NKV.is I _ _ _ ha rfl, h8⟩ hD hp ⟨rfl, ⟨z, H, I.tok _, rp, q⟩⟩
def rLenN (P : Program) (w : World) : List V → Hp → VK → Prop := fun vs H Q => ∃ (d : Addr) (xs : List NEnt), vs = [.ref d] ∧ Rd H d (DN P w d xs) ∧ KeysIn H xs ∧ Q (.int ((xs.length : Nat) : Int)) H
theorem call_len_N : CallR X (.builtin "len") (rLenN X.prog X.w) := by
  intro pins s σ H vs us Q I r h
  obtain ⟨d, xs, rfl, hd, hk, q⟩ := h
  obtain ⟨u, rfl, hr0⟩ := vals1 r
  obtain rfl : u = Value.ref d := hr0
  obtain ⟨ys, rr, hD, lo, z⟩ := dn_of I hd hk
  have ly := entR_len rr
  refine call_len_dictH lo hD ?_ ?_
  · rw [← ly]; rw [sizeLine_eq] at z; omega
  · rw [← ly]
    exact ⟨.int ((xs.length : Nat) : Int), H, I.tok _, ⟨_, rfl⟩, q⟩
abbrev keyV (x : NEnt) : V := .ref x.2.1
theorem keys_vals : ∀ {xs : List NEnt} {ys : List (NestedKey × Addr × Value)} {us : List Value}, Paired EntR xs ys → us = ys.map (fun y => Value.ref y.2.1) → Vals (xs.map keyV) us
  | _, _, _, .nil, e => by subst e; exact .nil
  | _, _, _, .cons r t, e => by
    subst e
    refine .cons ?_ (keys_vals t rfl)
    show _ = _
    rw [r.2.1]
/-- sorted(d), its keys alike data -/
def rSortedN (P : Program) (w : World) (K : PySem.W.Frag) : List V → Hp → VK → Prop := fun vs H Q => ∃ (d : Addr) (xs : List NEnt) (ds : List PyData), vs = [V.ref d] ∧ Rd H d (DN P w d xs) ∧ DpAll K H (xs.map keyV) ds ∧ AllAlike ds ∧ Sortable ds ∧ (∀ d ∈ ds, d.depth ≤ 8) ∧
  ∀ p, H p = none → Q (.ref p) (upd H p (.lst ((((xs.map keyV).zip ds).mergeSort (dataLe false Prod.snd)).map Prod.fst)))
theorem cr_sortedN (hc : X.calm = true) (hu : X.A.units + 64 < cLine) : CallR X (.builtin "sorted") (rSortedN X.prog X.w X.K) := by
  intro pins s σ H vs us Q I r h
  obtain ⟨d, xs, ds, rfl, hd, hdp, hal, hso, hdep, q⟩ := h
  obtain ⟨u0, rfl, hr0⟩ := vals1 r
  obtain rfl : u0 = Value.ref d := hr0
  obtain ⟨z, lo, ys, rel, o, es, ep, ho, he, hdat, ht, hn⟩ := dn_phi I hd
  have ly := entR_len rel
  have les : es.size = ys.length := by rw [← Array.length_toList, ht, List.length_map]
  have raw : s.heap.DictRaw d es ep := ⟨o, ho, he, hdat⟩
  refine Calls.call_function_entry (kind_sorted) (plain_sorted) (entry_sorted) (args_sorted1 _) ?_
  unfold Builtin.«sorted»
  refine wpAny_bind (m := checkCount "sorted" 1 1 _) (wpAny_pure ?_)
  refine wpAny_bind (PySem.W.kdu_collect (A := X.A.in1) (KdlSrc.rawDict lo) (I.ok.hd hc) raw (by rw [les, ← ly]; exact z) fun g1 tk got kp hgot => ?_)
  have I1 : Inv X pins σ H { s with heap := g1, toks := tk } := I.kept kp
  have egot : got.toList = ys.map (fun y => Value.ref y.2.1) := by
    refine List.ext_getElem? fun j => ?_
    have hz : got.toList.length = ys.length := by rw [Array.length_toList, hgot.1, les]
    by_cases hj : j < ys.length
    · have e1 : got.toList[j]? = some got.toList[j] := List.getElem?_eq_getElem (by omega)
      obtain ⟨hi, e2⟩ := hgot.2 j got.toList[j] (by rw [← Array.getElem?_toList]; exact e1)
      rw [e1, e2, List.getElem?_map, List.getElem?_eq_getElem hj, Option.map_some]
      have e3 : es[j]? = some (entryOfKey (nestedKind X.prog X.w) ys[j]) := by
        rw [← Array.getElem?_toList, ht, List.getElem?_map, List.getElem?_eq_getElem hj, Option.map_some]
      rw [Array.getElem?_eq_getElem hi] at e3
      rw [Option.some.inj e3]
      rfl
    · rw [List.getElem?_eq_none (by omega), List.getElem?_eq_none (by rw [List.length_map]; omega)]
  have rv : Vals (xs.map keyV) got.toList := keys_vals rel egot
  have hsz : got.toList.length ≤ sizeLine := by rw [← rv.length, List.length_map]; exact z
  refine wpAny_bind (wpAny_newList ?_ hsz)
  have hoL : (g1.push (seqObj "list" got.toList.toArray 0)).get? g1.objs.size = some (seqObj "list" got.toList.toArray 0) := Heap.get?_push_size _ rfl
  have kp2 : ∀ b ob, g1.get? b = some ob → (g1.push (seqObj "list" got.toList.toArray 0)).get? b = some ob := fun b ob e => Heap.get?_push_of_some _ e
  have I2 : Inv X pins σ H { s with heap := g1.push (seqObj "list" got.toList.toArray 0), toks := tk } := I1.kept (t' := tk) kp2
  have len := dp_len hdp
  have zz := dp_zip hdp rv
  have snd : ((xs.map keyV).zip ds).map Prod.snd = ds := List.map_snd_zip (by omega)
  have zl : ((xs.map keyV).zip ds).length = xs.length := by rw [List.length_zip, ← len, List.length_map]; omega
  have e1 : EachIs (fun u (p : V × PyData) => RelV p.1 u) got.toList ((xs.map keyV).zip ds) := each_paired (Paired.mapP zz fun p u h => h.1)
  have e2 : EachIs (fun u (p : V × PyData) => ∃ as, Reads (g1.push (seqObj "list" got.toList.toArray 0)) u p.2 as ∧ g1.objs.size ∉ as) got.toList ((xs.map keyV).zip ds) := each_paired (Paired.mapP zz fun p u h => by
    obtain ⟨as, hr⟩ := Dp.reads I1 p.2 p.1 u h.2 h.1
    exact ⟨as, PyProof.Rows.Reads.keeps kp2 hr, fun hm => Nat.lt_irrefl _ (reads_lt hr _ hm)⟩)
  show wpAny _ _ _ _ _ { s with heap := g1.push (seqObj "list" got.toList.toArray 0), toks := tk }
  refine wpAny_bind (wpAny_holding (PySem.W.list_sort_data (s := { s with heap := g1.push (seqObj "list" got.toList.toArray 0), toks := tk }) (enc := Prod.snd) hoL e1 e2 (by rw [snd]; exact hal) (by rw [snd]; exact hso) (by rw [zl]; exact z) (fun b hb => ?_) fun out hlo eo => ?_))
  · have : b.2 ∈ ds := by rw [← snd]; exact List.mem_map_of_mem hb
    have := hdep _ this
    simp only [Around.in1_units]
    omega
  · obtain ⟨e', he'⟩ := PyProof.Rows.sortedHeap_at (vs := got.toList) (out := List.toArray out) hoL
    have vv : Vals ((((xs.map keyV).zip ds).mergeSort (dataLe false Prod.snd)).map Prod.fst) out := paired_fst (paired_each eo)
    refine wpAny_pure ⟨_, rfl, .ref g1.objs.size, upd H g1.objs.size (.lst ((((xs.map keyV).zip ds).mergeSort (dataLe false Prod.snd)).map Prod.fst)), I1.laid (t' := tk) (fun b u e => ?_) (Nat.le_refl _) ⟨?_, out, e', vv, he'⟩, rfl, q _ (I1.hok.fresh (Nat.le_refl _))⟩
    · have blt : b < g1.objs.size := Heap.lt_size e
      rw [PyProof.Rows.sortedHeap_old (Nat.ne_of_lt blt) (by rw [size_push']; exact Nat.lt_succ_of_lt blt)]
      exact kp2 _ _ e
    · rw [vv.length, hlo, zl]
      exact z
end
end L2
end
/-! ## MyX -/
section
set_option Elab.async false
set_option linter.all false
set_option maxRecDepth 100000
set_option maxHeartbeats 2000000
/-! an own error with two fields: class FaultyText(Exception): def __init__(self, line, kind): self.line = line; self.kind = kind (from skel/42) -/
namespace PySem
namespace FauX
open PySem.W PySem.Calls PyProof.Rows PySem.HandSPX
def iA (p1 p2 p3 : Pos) : Arguments := { posonlyargs := [], args := [{ arg := "self", annotation := none, pos := p1 }, { arg := "line", annotation := none, pos := p2 }, { arg := "kind", annotation := none, pos := p3 }], vararg := none, kwonlyargs := [], kw_defaults := [], kwarg := none, defaults := [] }
def iB (q1 q2 q3 q4 r1 r2 r3 r4 : Pos) : List Stmt := [.Assign [.Attribute (.Name "self" q1) "line" q2] (.Name "line" q3) q4, .Assign [.Attribute (.Name "self" r1) "kind" r2] (.Name "kind" r3) r4]
def iS : Scope := { kind := .function, names := [(PySem.Str.ofString "self", .local), (PySem.Str.ofString "line", .local), (PySem.Str.ofString "kind", .local)], isGenerator := false, isCoroutine := false, more := [] }
/-- what the written part says of FaultyText, at C, and of its __init__, at fI -/
structure FauTxt (K : Frag) (mg : Str → Option Value) (C fI : Addr) : Prop where
  gC : mg "FaultyText" = some (.ref C)
  cls : ∃ nm q N bs sn sub ab col dd k0 k1 k2 k3 k5, K.lookup C = some (excClassObj nm q C N bs ESX.exTail true sn sub ab col dd k0 k1 k2 k3 k5 "Exception.__new__")
  sa : findIn K (.ref C) "__setattr__" = some (some (.builtin "object.__setattr__"))
  ga : findIn K (.ref C) "__getattribute__" = some (some (.builtin "BaseException.__getattribute__"))
  gg : findIn K (.ref C) "__getattr__" = some none
  noL : findIn K (.ref C) "line" = some none
  noK : findIn K (.ref C) "kind" = some none
  iC : findIn K (.ref C) "__init__" = some (some (.ref fI))
  tC : typeIn K (.ref fI) = some (.type "function")
  kC : keepIn K (.ref C) = true
  exC : subIn K (.ref C) (.type "BaseException") = some true
  tyC : typeIn K (.ref C) = some (.type "type")
  hdC : hasDictIn K C = true
  te : exmOne K (.ref C) (.ref C) = some true
  fn : ∃ (oc : Value) (od : Option Addr) (doc pm : Value) (an : Option Addr) (cdv ct : Value) (osl : Array (Option Value)) (p1 p2 p3 q1 q2 q3 q4 r1 r2 r3 r4 : Pos),
    K.lookup fI = some ⟨oc, od, .func (fnOf "__init__" "FaultyText.__init__" (iA p1 p2 p3) (iB q1 q2 q3 q4 r1 r2 r3 r4) iS .none .none doc pm an cdv ct), osl⟩ ∧ codeIn K cdv "FaultyText.__init__" = true
theorem two_size (v u : Value) : [v, u].length ≤ sizeLine := by
  rw [sizeLine_eq]
  exact (by decide : 2 ≤ 16777216)
theorem ldC {M : Model} {s : Shared} {name : Str} {scope : Scope} {L a : Addr} {cd : Value} {m : Str → Option Value} {x : Str} {pos : Pos} {v : Value} {Q : Value → Shared → Prop} {A : Around} {E : Value → Shared → Prop} (hn : s.heap.Ns L m) (hv : m x = some v) (h : Q v s)
    (hk : scope.kind = .function := by rfl) (hl : (envOfC name scope L a cd).kindOf x = some .local := by rfl) (hd : (x == ("__debug__" : Str)) = false := by decide) :
    wpAny M A (eval (.Name x pos) (envOfC name scope L a cd)) Q E s := wpAny_Name (wpAny_loadName_local hk hl hn hv h) hd
/-- what __init__ leaves of a fresh exception at x -/
structure InitEnd (h h' : Heap) (x C dx t1 : Addr) (v u : Value) : Prop where
  keep : ∀ b o, b ≠ x → h.get? b = some o → h'.get? b = some o
  obj : h'.get? x = some { cls := .ref C, dict := some dx, data := .fields #[.ref t1, .none, .none, .none, .bool false, .none] }
  dbig : h.objs.size ≤ dx
  dne : dx ≠ x
  ns : h'.Ns1 dx (fun y => if y = "kind" then some u else if y = "line" then some v else none)
/-- a made one -/
structure OwnMade (h h' : Heap) (e C d : Addr) (v u : Value) : Prop where
  keep : ∀ b o, h.get? b = some o → h'.get? b = some o
  new : h.objs.size ≤ e
  obj : ∃ oe vs, h'.get? e = some oe ∧ oe.cls = .ref C ∧ oe.dict = some d ∧ oe.data = .fields vs ∧ vs[1]? = some .none
  dbig : h.objs.size ≤ d
  dne : d ≠ e
  ns : h'.Ns1 d (fun y => if y = "kind" then some u else if y = "line" then some v else none)
section
variable {prog : Program} {w : World} {A : Around} {E : Value → Shared → Prop} {R : Result → Shared → Prop} {s : Shared} {K : Frag} {mg : Str → Option Value} {C fI : Addr}
theorem fau_init (T : FauTxt K mg C fI) {x t0 : Addr} {v u : Value} (X : K.In s.heap) (hlim : s.heap.NoLimit) (hx : s.heap.get? x = some (excO C t0)) (hnx : K.lookup x = none) (hroom : A.depth < recursionLimit)
    (hq : ∀ h' tk dx, InitEnd s.heap h' x C dx t0 v u → R (.ok (.ret .none)) { s with heap := h', toks := tk }) :
    codeAny (model prog w) A (.call (.ref fI) ⟨[.ref x, v, u], []⟩) R s := by
  obtain ⟨oc, od, doc, pm, an, cdv, ct, osl, p1, p2, p3, q1, q2, q3, q4, r1, r2, r3, r4, ho, hcd⟩ := T.fn
  obtain ⟨nm, q, N, bs, sn, sub, ab, col, dd, k0, k1, k2, k3, k5, hC⟩ := T.cls
  have hcl : clsIn K C = some { name := nm, bases := bs, mro := .ref C :: ESX.exTail, ns := N, qualname := q, hasDict := true, slotNames := sn, subclasses := sub, abstract := ab, collection := col, hasDel := false } := by unfold clsIn; rw [hC] <;> rfl
  refine Att.call_fn (binds := [("self", .ref x), ("line", v), ("kind", u)]) X hlim ho hcd hroom (BindsTo.of_eq (by first | rfl | with_unfolding_all rfl)) (by first | rfl | decide | with_unfolding_all rfl) (fun s₁ IC => ?_) rfl rfl rfl
  obtain ⟨h₁, tk₁, rfl⟩ := IC.toInCall.same
  have k : ∀ b o, s.heap.get? b = some o → h₁.get? b = some o := IC.toInCall.keep
  have hn := IC.toInCall.ns
  have hxL : s.heap.objs.size ≠ x := Nat.ne_of_gt (Heap.lt_size hx)
  have X₁ : K.In h₁ := X.keeps k
  have hx₁ := k _ _ hx
  have z : s.heap.objs.size < h₁.objs.size := hn.lt
  -- self.line = line
  show wpAny _ _ (execs _ _) _ _ _
  refine wpAny_execs_cons (plainObj_wpAny_Assign_Attribute ?_)
  refine ldC (v := v) hn (by first | rfl | with_unfolding_all rfl | kernel_rfl) (ldC (v := .ref x) hn (by first | rfl | with_unfolding_all rfl | kernel_rfl) ?_)
  refine set_plain X₁ (ox := excO C t0) (od := none) ⟨hx₁, rfl, rfl, trivial⟩ T.sa ?_
  refine ESX.osa_new X₁ hx₁ hcl rfl rfl T.noL (fun h₃ tk₃ dx k₃ dn dne hx₃ hn₃ => ?_)
  -- self.kind = kind
  have hn3 : h₃.Ns s.heap.objs.size _ := hn.at fun o e => k₃ _ o hxL e
  have X₃ : K.In h₃ := fun a o e => k₃ a o (fun z => by rw [z, hnx] at e; cases e) (X₁ a o e)
  show wpAny _ _ (execs _ _) _ _ _
  refine wpAny_execs_cons (plainObj_wpAny_Assign_Attribute ?_)
  refine ldC (v := u) hn3 (by first | rfl | with_unfolding_all rfl | kernel_rfl) (ldC (v := .ref x) hn3 (by first | rfl | with_unfolding_all rfl | kernel_rfl) ?_)
  obtain ⟨oD, esD, epD, hoD, hrest⟩ := id hn₃
  have J : InstAt h₃ x { cls := .ref C, dict := some dx, data := .fields #[.ref t0, .none, .none, .none, .bool false, .none] } C (some oD) := ⟨hx₃, rfl, rfl, hoD⟩
  refine set_plain X₃ J T.sa ?_
  refine ESX.osa_old (nl := ["line"]) X₃ hx₃ hn₃ (fun y hy => ?_) (by decide) hcl rfl rfl T.noK (fun h₄ tk₄ k₄ hn₄ => ?_)
  · by_cases e : y = "line"
    · rw [e]; exact List.mem_cons_self ..
    · rw [if_neg e] at hy
      exact absurd rfl hy
  · show wpAny _ _ (execs _ _) _ _ _
    exact wpAny_execs_nil (hq h₄ tk₄ dx ⟨fun b o hb e => k₄ b o (Nat.ne_of_lt (Nat.lt_of_lt_of_le (Heap.lt_size (k b o e)) dn)) (k₃ b o hb (k b o e)), k₄ _ _ (Ne.symm dne) hx₃, Nat.le_of_lt (Nat.lt_of_lt_of_le z dn), dne, hn₄⟩)
theorem fau_made (T : FauTxt K mg C fI) {v u : Value} (X : K.In s.heap) (hlim : s.heap.NoLimit) (hroom : A.depth + 1 < recursionLimit)
    (hq : ∀ h' tk e d, OwnMade s.heap h' e C d v u → R (.ok (.ret (.ref e))) { s with heap := h', toks := tk }) :
    codeAny (model prog w) A (.call (.ref C) ⟨[v, u], []⟩) R s := by
  obtain ⟨nm, q, N, bs, sn, sub, ab, col, dd, k0, k1, k2, k3, k5, hC⟩ := T.cls
  obtain ⟨hp, g, dr, tk, os⟩ := s
  have k : ∀ b o, hp.get? b = some o → ((hp.push (kdv_tup [v, u])).push (excO C hp.objs.size)).get? b = some o := fun b o e => Heap.get?_push_of_some _ (Heap.get?_push_of_some _ e)
  have hget : ((hp.push (kdv_tup [v, u])).push (excO C hp.objs.size)).get? (hp.objs.size + 1) = some (excO C hp.objs.size) := by heap_get
  have hnx : K.lookup (hp.objs.size + 1) = none := by
    cases e : K.lookup (hp.objs.size + 1) with
    | none => rfl
    | some o =>
      have z : hp.get? (hp.objs.size + 1) = some o := X _ _ e
      exact absurd (Nat.lt_of_succ_lt (Heap.lt_size z)) (Nat.lt_irrefl _)
  refine call_own F.excBase_Exception (fun _ => rfl) (X _ _ hC) (looks_findIn X T.iC) (fun self => bind_fn X self T.tC) (two_size v u) ?_
  refine fau_init (s := ⟨(hp.push (kdv_tup [v, u])).push (excO C hp.objs.size), g, dr, tk, os⟩) T (X.keeps k) (hlim.keeps k) hget hnx ?_ fun h' tk' dx ⟨k', hx, dn, dne, hns⟩ => ?_
  · show A.depth + 1 < recursionLimit
    exact hroom
  · have old : ∀ b o, hp.get? b = some o → h'.get? b = some o := fun b o e => k' b o (Nat.ne_of_lt (Nat.lt_succ_of_lt (Heap.lt_size e))) (k b o e)
    have z : hp.objs.size + 1 + 1 ≤ dx := by
      first
        | (simpa only [Heap.size_push] using dn)
        | exact dn
        | (have q := dn; rw [Heap.size_push, Heap.size_push] at q; exact q)
    exact ⟨rfl, hq h' tk' (hp.objs.size + 1) dx ⟨old, Nat.le_succ _, ⟨_, _, hx, rfl, rfl, rfl, rfl⟩, Nat.le_trans (Nat.le_trans (Nat.le_succ _) (Nat.le_succ _)) z, dne, hns⟩⟩
end
end FauX
end PySem
namespace L2
open PySem PySem.Spec PyProof.Rows
abbrev fauF (v u : V) : List (Str × V) := [("kind", u), ("line", v)]
theorem relO_fau {v u : V} {v' u' : Value} (r : RelV v v') (ru : RelV u u') (f : Str) : RelO (List.lookup f (fauF v u)) (if f = "kind" then some u' else if f = "line" then some v' else none) := by
  by_cases hk : f = "kind"
  · subst hk
    rw [if_pos rfl]
    have q : List.lookup ("kind" : Str) (fauF v u) = some u := by simp [List.lookup]
    rw [q]
    exact ru
  · rw [if_neg hk]
    have qk : (f == ("kind" : Str)) = false := by simpa using hk
    by_cases hw : f = "line"
    · subst hw
      rw [if_pos rfl]
      have q : List.lookup ("line" : Str) (fauF v u) = some v := by
        unfold fauF
        rw [List.lookup, qk]
        simp [List.lookup]
      rw [q]
      exact r
    · rw [if_neg hw]
      have qw : (f == ("line" : Str)) = false := by simpa using hw
      have q2 : List.lookup f (fauF v u) = none := by
        unfold fauF
        rw [List.lookup, qk, List.lookup, qw]
        rfl
      rw [q2]
      trivial
section
variable {X : Cx} {C fI : Addr}
/-- FaultyText(e1, e2) -/
def tMkFau (C : Addr) (ta : TA) : St → Hp → XK → Prop := fun σ H Q => ta σ H fun vs H1 => ∃ v u, vs = [v, u] ∧ ∀ d, H1 d = none → Q (.ref C) (some d) (upd H1 d (.xd (fauF v u)))
theorem pmk_fau {a b : Expr} {ta : TA} {p pos : Pos} {k : Nat} (T : PySem.FauX.FauTxt X.K X.mg C fI) (hr : Room k X.A) (ha : PA X [a, b] ta) (hg : Gl X "FaultyText" := by rfl)
    (he : starEach (a :: [b]) X.env = (false, eval a X.env) :: starEach [b] X.env := by rfl) (hpl : (backTo pos (starEach [b] X.env)).any (·.1) = false := by rfl) :
    PMk X (.Call (.Name "FaultyText" p) [a, b] [] pos) (tMkFau C ta) := by
  intro pins s σ H Q I h
  refine wpAny_Call_Name_kw (ld_glob I hg T.gC ?_)
  refine PySem.W.callWith_K (h₀ := X.base) I.ok.mod.kin T.kC (thn (ha.run pos pins s σ H _ I h) fun us s1 hh => ?_) he hpl
  obtain ⟨vs, H1, I1, r1, v, u, ev, q1⟩ := hh
  subst ev
  refine ⟨I1.kIn, ?_⟩
  obtain ⟨v', u', rfl, rv, ru⟩ := vals2 r1
  show wpAny _ _ (call (.ref C) [v', u']) _ _ _
  have hlim := I1.nolimit
  obtain ⟨hp, g, dr, tk, os⟩ := s1
  refine wpAny_call (PySem.FauX.fau_made T I1.kIn hlim (by have := hr.dp; omega) fun h' tk' e d M => ?_)
  show MkP X pins σ Q (.ref e) ⟨h', g, dr, tk', os⟩
  obtain ⟨oe, fv, hoe, hc, hd, hdat, h1⟩ := M.obj
  have hns := M.ns
  obtain ⟨G', g1, g2⟩ := restrict h' fun b => decide (b ≠ e)
  have gk : ∀ b, b ≠ e → G'.get? b = h'.get? b := fun b hb => g1 b (decide_eq_true hb)
  have ge : G'.get? e = none := g2 e (by simp)
  have old : ∀ b o, hp.get? b = some o → G'.get? b = some o := fun b o q => (gk b (Nat.ne_of_lt (Nat.lt_of_lt_of_le (Heap.lt_size q) M.new))).trans (M.keep b o q)
  have ob : ObjOk X.prog X.w (upd H1 d (.xd (fauF v u))) G' d (.xd (fauF v u)) :=
    ⟨_, hns.at (fun o q => (gk d M.dne).trans q), fun f => relO_fau rv ru f⟩
  have J : Inv X pins σ (upd H1 d (.xd (fauF v u))) ⟨G', g, dr, tk', os⟩ := I1.laid (t' := tk') old M.dbig ob
  refine ⟨e, oe, fv, ⟨G', g, dr, tk', os⟩, _, .ref C, some d, rfl, J, fun b o q => ?_, ge, hoe, ⟨hc, hd⟩, hdat, h1, ?_, rfl, I1.bare, raises_own T.exC T.tyC, q1 d (I1.hok.fresh M.dbig)⟩
  · by_cases hb : b = e
    · have q' : G'.get? b = some o := q
      rw [hb, ge] at q'; cases q'
    · exact (gk b hb).symm.trans q
  · rw [upd_ne (Ne.symm M.dne)]
    exact I1.hok.fresh M.new
/-- raise FaultyText(e1, e2) -/
def tRaiseFau (C : Addr) (W : WX) (ta : TA) : TS := fun _ σ H => tMkFau C ta σ H fun cls d H' => W cls d σ H'
theorem ps_raiseFau {a b : Expr} {ta : TA} {W : WX} {p pos pos2 : Pos} {k : Nat} (hc : X.calm = true) (T : PySem.FauX.FauTxt X.K X.mg C fI) (hr : Room k X.A) (tk : Takes X W) (ha : PA X [a, b] ta) (hg : Gl X "FaultyText" := by rfl)
    (he : starEach (a :: [b]) X.env = (false, eval a X.env) :: starEach [b] X.env := by rfl) (hpl : (backTo pos (starEach [b] X.env)).any (·.1) = false := by rfl) :
    PS X (.Raise (some (.Call (.Name "FaultyText" p) [a, b] [] pos)) none pos2) (tRaiseFau C W ta) := ps_raise hc tk (pmk_fau T hr ha hg he hpl)
theorem fau_xf {K : PySem.W.Frag} {mg : Str → Option Value} (T : PySem.FauX.FauTxt K mg C fI) : XfC K C := ⟨T.ga, T.gg, T.exC, T.hdC⟩
end
end L2
end
/-! ## MyS -/
section
set_option Elab.async false
set_option linter.all false
set_option maxRecDepth 100000
set_option maxHeartbeats 2000000
namespace L2
open PySem PySem.Spec PyProof.Rows
section
variable {X : Cx} {tg : Expr}
/-- a list or a tuple of these -/
def Sq (K : PySem.W.Frag) (H : Hp) (a : Addr) (xs : List V) : Prop := SqL K H a xs ∨ SqT K H a xs
def iSeq (K : PySem.W.Frag) (tl : TE) : TI := fun σ H R => tl σ H fun x H1 => ∃ a, x = .ref a ∧ (((∃ xs, SqL K H1 a xs) ∧ R (Itl K a) H1) ∨ ((∃ xs, SqT K H1 a xs) ∧ R (Itt K a) H1))
theorem pi_seq {l : Expr} {tl : TE} (hl : PE X l tl) : PI X tg l (iSeq X.K tl) := by
  refine ⟨fun pins s σ H R I0 h0 => ?_⟩
  refine thn (hl.run pins s σ H _ I0 h0) fun v s1 ⟨x, H1, I1, r1, a, ex, q1⟩ => ?_
  subst ex
  cases r1
  have seen : ∀ b ∈ [s1.heap.objs.size], FpOk X pins H1 b := fun b hb => by
    rw [List.mem_singleton] at hb
    rw [hb]
    exact I1.fpOk (Nat.le_refl _) (I1.hok.fresh (Nat.le_refl _))
  rcases q1 with ⟨⟨xs, hq⟩, q⟩ | ⟨⟨xs, hq⟩, q⟩
  · obtain ⟨its, rv, p, hz⟩ := I1.list hq
    exact wpAny_pyIter_list p.isList ⟨_, [s1.heap.objs.size], _, _, H1, rfl, I1.kept (t' := s1.toks) fun b o => Heap.get?_push_of_some _, turn_list a _, ⟨_, Heap.get?_push_size _ rfl, rfl, rfl⟩, seen, q⟩
  · obtain ⟨its, rv, p, hz⟩ := I1.tuple hq
    exact wpAny_pyIter_tuple (show s1.heap.IsTuple a its.toArray from p) ⟨_, [s1.heap.objs.size], _, _, H1, rfl, I1.kept (t' := s1.toks) fun b o => Heap.get?_push_of_some _, turn_tuple a _, ⟨_, Heap.get?_push_size _ rfl, rfl, rfl⟩, seen, q⟩
/-- .. where all that was tracked in H0 stands -/
theorem for_seqS {K : PySem.W.Frag} {H0 : Hp} {j : Nat} {a : Addr} {xs : List V} {g : TG} {tb : TS} {D : Ends} {σ : St} {H : Hp} (Pv : Nat → St → Hp → Prop) (hj : σ[j]? = some (some (.ref a))) (hS : Sq K H0 a xs) (h0 : Pv 0 σ H)
    (hk : ∀ i σ H', Pv i σ H' → ∀ b o, H0 b = some o → H' b = some o)
    (hs : ∀ i x σ H, xs[i]? = some x → Pv i σ H → g x σ H fun σ2 H2 => tb { D with nx := Pv (i + 1), ct := Pv (i + 1), bk := D.nx } σ2 H2) (hd : ∀ σ H, Pv xs.length σ H → D.nx σ H) : tFor (iSeq K (tVar j)) g tb D σ H := by
  have kL : ∀ {H' : Hp}, (∀ b o, H0 b = some o → H' b = some o) → SqL K H0 a xs → SqL K H' a xs := fun e h => by
    rcases h with (h | ⟨o, h⟩) | h
    · exact .inl (.inl (e _ _ h))
    · exact .inl (.inr ⟨o, e _ _ h⟩)
    · exact .inr h
  have kT : ∀ {H' : Hp}, (∀ b o, H0 b = some o → H' b = some o) → SqT K H0 a xs → SqT K H' a xs := fun e h => by
    rcases h with (h | ⟨o, h⟩) | h
    · exact .inl (.inl (e _ _ h))
    · exact .inl (.inr ⟨o, e _ _ h⟩)
    · exact .inr h
  refine ⟨.ref a, hj, ?_⟩
  rcases hS with h | h
  · exact ⟨a, rfl, .inl ⟨⟨_, kL (hk 0 σ H h0) h⟩, for_list Pv h0 (fun i σ H' _ p => kL (hk i σ H' p) h) hs hd⟩⟩
  · exact ⟨a, rfl, .inr ⟨⟨_, kT (hk 0 σ H h0) h⟩, for_tup Pv h0 (fun i σ H' _ p => kT (hk i σ H' p) h) hs hd⟩⟩
/-- a number of the module's top -/
theorem pe_k {x : Str} {n : Int} {pos : Pos} (hg : Gl X x) (h : ∃ t, X.mg x = some (.int n t)) (hd : (x == ("__debug__" : Str)) = false := by decide) : PE X (.Name x pos) (tC (.int n)) := by
  obtain ⟨t, e⟩ := h
  exact pe_glob hg e ⟨t, rfl⟩ hd
end
theorem Same.tup {H H' : Hp} {K : PySem.W.Frag} {a : Addr} {xs : List V} (e : Same H H') (h : SqT K H a xs) : SqT K H' a xs := by
  rcases h with (h | ⟨o, h⟩) | h
  · exact .inl (.inl (e _ _ h))
  · exact .inl (.inr ⟨o, e _ _ h⟩)
  · exact .inr h
theorem Same.sq {H H' : Hp} {K : PySem.W.Frag} {a : Addr} {xs : List V} (e : Same H H') (h : Sq K H a xs) : Sq K H' a xs := h.imp e.seq e.tup
end L2
namespace L2
open PySem PySem.Spec PyProof.Rows
/-- a def of the top, kept under the name x: it keeps its promise -/
def Cal (P : Program) (w : World) (K : PySem.W.Frag) (mg : Str → Option Value) (base : Heap) (k : Nat) (x : Str) (sp : Sp) : Prop :=
  ∃ (f : Addr) (fd : FuncData) (ps : List Str), FnOk P w K mg base CX0 k f fd ps sp ∧ mg x = some (.ref f) ∧ PySem.W.keepIn K (.ref f) = true ∧ Binds K fd ps []
/-- a method of the class at C -/
def Met (P : Program) (w : World) (K : PySem.W.Frag) (mg : Str → Option Value) (base : Heap) (k : Nat) (C : Addr) (m : Str) (sp : Sp) : Prop :=
  ∃ (f : Addr) (fd : FuncData) (ps : List Str), Cls K C ∧ Meth K C m f ∧ FnOk P w K mg base CX0 k f fd ps sp ∧ Binds K fd ps []
/-- a class that makes instances -/
def Mak (P : Program) (w : World) (K : PySem.W.Frag) (mg : Str → Option Value) (base : Heap) (k : Nat) (x : Str) (C : Addr) (sp : Sp) : Prop :=
  ∃ (f : Addr) (fd : FuncData) (ps : List Str), Mk K C f ∧ FnOk P w K mg base CX0 k f fd ps sp ∧ mg x = some (.ref C) ∧ Binds K fd ps []
section
variable {X : Cx} {k j : Nat} {x m : Str} {C : Addr} {sp : Sp} {e o : Expr} {es : List Expr} {t : TA} {ta : TE} {p apos pos : Pos}
theorem pe_c (c : Cal X.prog X.w X.K X.mg X.base k x sp) (hr : Room j X.A) (hk : k ≤ j) (hg : Gl X x) (ha : PA X (e :: es) t) (hdb : (x == ("__debug__" : Str)) = false := by decide)
    (he : starEach (e :: es) X.env = (false, eval e X.env) :: starEach es X.env := by rfl) (hpl : (backTo pos (starEach es X.env)).any (·.1) = false := by rfl) : PE X (.Call (.Name x p) (e :: es) [] pos) (tCall sp [] E0 t) := by
  obtain ⟨f, fd, ps, G, hm, kp, b⟩ := c
  exact pe_call G (hr.mono hk) hg hm kp b .nil pass0 ha hdb he hpl
theorem pe_mk (c : Mak X.prog X.w X.K X.mg X.base k x C sp) (hr : Room j X.A) (hk : k + 1 ≤ j) (hg : Gl X x) (ha : PA X (e :: es) t) (hdb : (x == ("__debug__" : Str)) = false := by decide)
    (he : starEach (e :: es) X.env = (false, eval e X.env) :: starEach es X.env := by rfl) (hpl : (backTo pos (starEach es X.env)).any (·.1) = false := by rfl) : PE X (.Call (.Name x p) (e :: es) [] pos) (tMake C sp [] E0 t) := by
  obtain ⟨f, fd, ps, M, G, hm, b⟩ := c
  exact pe_make M G (hr.mono hk) hg hm b .nil pass0 ha hdb he hpl
theorem pe_mk0 (c : Mak X.prog X.w X.K X.mg X.base k x C sp) (hr : Room j X.A) (hk : k + 1 ≤ j) (hg : Gl X x) (hdb : (x == ("__debug__" : Str)) = false := by decide) : PE X (.Call (.Name x p) [] [] pos) (tMake C sp [] E0 tNil) := by
  obtain ⟨f, fd, ps, M, G, hm, b⟩ := c
  exact pe_make0 M G (hr.mono hk) hg hm b .nil pass0 hdb
theorem pe_mt {pl : Sem Bool} (c : Met X.prog X.w X.K X.mg X.base k C m sp) (hr : Room j X.A) (hk : k ≤ j) (he : PE X o ta) (ha : PA X (e :: es) t)
    (hst : starEach (e :: es) X.env = (false, eval e X.env) :: starEach es X.env := by rfl) (hpl : (backTo pos (starEach es X.env)).any (·.1) = false := by rfl)
    (ht : eval (.Call (.Attribute o m apos) (e :: es) [] pos) X.env = (do
      let u ← eval o X.env
      standAt apos.atName
      let (f, first) ← holding [u] (getMethod u m pl)
      callWith pos f first (backTo pos (starEach (e :: es) X.env)) (backToKw pos (keywordEach [] X.env))) := by rfl) : PE X (.Call (.Attribute o m apos) (e :: es) [] pos) (tMeth C m sp [] E0 ta t) := by
  obtain ⟨f, fd, ps, hc, hm, G, b⟩ := c
  exact pe_meth (pl := pl) he hc hm G (hr.mono hk) b .nil pass0 ha hst hpl ht
theorem pe_mt0 {pl : Sem Bool} (c : Met X.prog X.w X.K X.mg X.base k C m sp) (hr : Room j X.A) (hk : k ≤ j) (he : PE X o ta)
    (ht : eval (.Call (.Attribute o m apos) [] [] pos) X.env = (do
      let u ← eval o X.env
      standAt apos.atName
      let (f, first) ← holding [u] (getMethod u m pl)
      callWith pos f first (backTo pos (starEach [] X.env)) (backToKw pos (keywordEach [] X.env))) := by rfl) : PE X (.Call (.Attribute o m apos) [] [] pos) (tMeth C m sp [] E0 ta tNil) := by
  obtain ⟨f, fd, ps, hc, hm, G, b⟩ := c
  exact pe_meth0 (pl := pl) he hc hm G (hr.mono hk) b .nil pass0 ht
end
end L2
namespace Slip
open PySem PySem.Spec PyProof.Rows L2
abbrev iv (n : Nat) : V := .int (n : Int)
abbrev ivs (l : List Nat) : List V := l.map iv
theorem iv_at {l : List Nat} {i : Nat} {y : V} (h : (ivs l)[i]? = some y) : ∃ n, l[i]? = some n ∧ y = iv n := by
  rw [List.getElem?_map] at h
  cases e : l[i]? with
  | none => rw [e] at h; cases h
  | some n => rw [e] at h; exact ⟨n, rfl, (Option.some.inj h).symm⟩
theorem take_more {α : Type} {l : List α} {i : Nat} {x : α} (h : l[i]? = some x) : l.take (i + 1) = l.take i ++ [x] := by
  rw [List.take_add_one, h]
  rfl
end Slip
end
/-! ## PText -/
section
set_option Elab.async false
set_option linter.all false
set_option maxRecDepth 100000
set_option maxHeartbeats 2000000
namespace Slip
open PySem PySem.Spec PyProof.Rows L2
/-- the top's numbers, and what is still a built-in -/
structure TC (mg : Str → Option Value) : Prop where
  FIRST_LETTER : ∃ t, mg "FIRST_LETTER" = some (.int 33 t)
  LAST_LETTER : ∃ t, mg "LAST_LETTER" = some (.int 126 t)
  LINE_FEED : ∃ t, mg "LINE_FEED" = some (.int 10 t)
  BLANK : ∃ t, mg "BLANK" = some (.int 32 t)
  DIGIT_ZERO : ∃ t, mg "DIGIT_ZERO" = some (.int 48 t)
  DIGIT_NINE : ∃ t, mg "DIGIT_NINE" = some (.int 57 t)
  MOST_COST : ∃ t, mg "MOST_COST" = some (.int 65535 t)
  MOST_COST_DIGITS : ∃ t, mg "MOST_COST_DIGITS" = some (.int 5 t)
  MOST_LETTERS : ∃ t, mg "MOST_LETTERS" = some (.int 3 t)
  MOST_SLIPS : ∃ t, mg "MOST_SLIPS" = some (.int 32 t)
  NO_FAULT : ∃ t, mg "NO_FAULT" = some (.int 0 t)
  NO_SUCH_LINE : ∃ t, mg "NO_SUCH_LINE" = some (.int 1 t)
  TOO_MUCH : ∃ t, mg "TOO_MUCH" = some (.int 2 t)
  SAME_LETTERS : ∃ t, mg "SAME_LETTERS" = some (.int 3 t)
  TOLD_BEFORE : ∃ t, mg "TOLD_BEFORE" = some (.int 4 t)
  ONE_LINE_TOO_MANY : ∃ t, mg "ONE_LINE_TOO_MANY" = some (.int 5 t)
  MOST_BYTES : ∃ t, mg "MOST_BYTES" = some (.int 65536 t)
  len : mg "len" = none
  tuple : mg "tuple" = none
  enumerate : mg "enumerate" = none
  sorted : mg "sorted" = none
  list : mg "list" = none
  ord : mg "ord" = none
  str : mg "str" = none
abbrev sLetters : Stmt := top 5
abbrev sParted : Stmt := top 35
abbrev sDecimal : Stmt := top 38
abbrev sCostly : Stmt := top 39
abbrev sNumberOf : Stmt := top 40
section
variable {P : Program} {w : World} {K : PySem.W.Frag} {mg : Str → Option Value} {base : Heap}
/-! are_letters -/
def spLetters (K : PySem.W.Frag) : Sp := fun vs H Q _ => ∃ (a : Addr) (l : List Nat), vs = [.ref a] ∧ Sq K H a (ivs l) ∧ Q (.bl (SySpell.isLetters l)) H
theorem scLetters : FnScope ["row", "number"] ["row"] (defScope sLetters) := ⟨rfl, rfl, rfl, by decide +kernel, rfl, by decide +kernel, by decide +kernel⟩
theorem ok_Letters {f : Addr} {fd : FuncData} (F : Fun K "are_letters" "are_letters" sLetters f fd) (T : TC mg) : FnOk P w K mg base CX0 1 f fd ["row"] (spLetters K) := by
  refine F.ok scLetters (fun vs H Q E h => ?_) (fun cdv A outer s H vs Q E hr h => ⟨_, pss_cons (ps_for PassesOwn.never rfl (pi_seq (pv 0)) (pg_name (i := 1) scLetters.nd rfl (Or.inl rfl))
      (pss_one (ps_if (PW.pt (pw_or (pt_cmpR op_lt (pv 1) (pe_k rfl T.FIRST_LETTER) (nomark _)) (pw_or1 (pt_cmpR op_gt (pv 1) (pe_k rfl T.LAST_LETTER) (nomark _))))) (pss_one (ps_ret pe_bl)) pss_nil)))
      (pss_one (ps_ret pe_bl)), ?_⟩)
  · obtain ⟨a, l, rfl, _⟩ := h
    rfl
  · obtain ⟨a, l, rfl, hS, q⟩ := h
    refine for_seqS (a := a) (xs := ivs l) (fun i σ H' => (∃ v, σ = [some (.ref a), v]) ∧ H' = H ∧ (l.take i).all SySpell.isLetter = true) rfl hS ⟨⟨_, rfl⟩, rfl, rfl⟩ (fun i σ H' e b o h => e.2.1 ▸ h) ?_ ?_
    · rintro i y σ H' hi ⟨⟨v, rfl⟩, rfl, hall⟩
      obtain ⟨n, hn, rfl⟩ := iv_at hi
      have notr : SySpell.isLetter n = false → SySpell.isLetters l = false := fun e => by
        rw [SySpell.isLetters, List.all_eq_false]
        exact ⟨n, List.mem_of_getElem? hn, by rw [e]; exact Bool.false_ne_true⟩
      refine ⟨_, rfl, _, _, rfl, rfl, _, rfl, ite2 (fun c => iteT ?_) (fun c => ⟨_, rfl, _, _, rfl, rfl, _, rfl, ite2 (fun c' => ?_) (fun c' => ?_)⟩)⟩
      · rw [notr ?_] at q
        · exact q
        · have c := of_decide_eq_true c
          have : ¬ (0x21 ≤ n) := by omega
          simp [SySpell.isLetter, this]
      · rw [notr ?_] at q
        · exact q
        · have c := of_decide_eq_true c'
          have : ¬ (n ≤ 0x7E) := by omega
          simp [SySpell.isLetter, this]
      · refine ⟨⟨_, rfl⟩, rfl, ?_⟩
        have e1 : ¬ ((n : Int) < 33) := fun z => c (decide_eq_true z)
        have e2 : ¬ ((126 : Int) < n) := fun z => c' (decide_eq_true z)
        rw [take_more hn, List.all_append, hall]
        have a1 : 0x21 ≤ n := by omega
        have a2 : n ≤ 0x7E := by omega
        simp [SySpell.isLetter, a1, a2]
    · rintro σ H' ⟨⟨v, rfl⟩, rfl, hall⟩
      rw [List.length_map, List.take_length] at hall
      have e : SySpell.isLetters l = true := hall
      rw [e] at q
      exact q
/-! parted -/
def stepP (m : Nat) (s : List (List Nat) × List Nat) (n : Nat) : List (List Nat) × List Nat := if n = m then (s.1 ++ [s.2], []) else (s.1, s.2 ++ [n])
def partsGo (m : Nat) (l : List Nat) : List (List Nat) × List Nat := l.foldl (stepP m) ([], [])
def partsOf (l : List Nat) (m : Nat) : List (List Nat) := (partsGo m l).1 ++ [(partsGo m l).2]
theorem partsGo_more {m : Nat} {l : List Nat} {i n : Nat} (h : l[i]? = some n) : partsGo m (l.take (i + 1)) = stepP m (partsGo m (l.take i)) n := by
  unfold partsGo
  rw [take_more h, List.foldl_append]
  rfl
/-- tuples of these letters -/
abbrev Tps (H : Hp) : List V → List (List Nat) → Prop := Paired fun x l => ∃ t, x = V.ref t ∧ H t = some (.tup (ivs l))
theorem Tps.keep {H H' : Hp} (e : ∀ b xs, H b = some (.tup xs) → H' b = some (.tup xs)) {xs : List V} {ls : List (List Nat)} (h : Tps H xs ls) : Tps H' xs ls :=
  Paired.mapP h fun _ _ ⟨t, e1, e2⟩ => ⟨t, e1, e _ _ e2⟩
theorem Tps.snoc {H : Hp} : ∀ {xs : List V} {ls : List (List Nat)} {t : Addr} {l : List Nat}, Tps H xs ls → H t = some (.tup (ivs l)) → Tps H (xs ++ [.ref t]) (ls ++ [l])
  | _, _, _, _, .nil, h => .cons ⟨_, rfl, h⟩ .nil
  | _, _, _, _, .cons r q, h => .cons r (Tps.snoc q h)
theorem Tps.len {H : Hp} : ∀ {xs : List V} {ls : List (List Nat)}, Tps H xs ls → xs.length = ls.length
  | _, _, .nil => rfl
  | _, _, .cons _ q => congrArg (· + 1) (Tps.len q)
theorem partsGo_len (m : Nat) : ∀ (l : List Nat) (s : List (List Nat) × List Nat), (l.foldl (stepP m) s).1.length ≤ s.1.length + l.length ∧ (l.foldl (stepP m) s).2.length ≤ s.2.length + l.length
  | [], s => ⟨Nat.le_refl _, Nat.le_refl _⟩
  | n :: l, s => by
    have ih := partsGo_len m l (stepP m s n)
    rw [List.foldl_cons]
    by_cases c : n = m
    · have e : stepP m s n = (s.1 ++ [s.2], []) := if_pos c
      rw [e] at ih ⊢
      simp only [List.length_append, List.length_cons, List.length_nil] at ih ⊢
      omega
    · have e : stepP m s n = (s.1, s.2 ++ [n]) := if_neg c
      rw [e] at ih ⊢
      simp only [List.length_append, List.length_cons, List.length_nil] at ih ⊢
      omega
def spParted (K : PySem.W.Frag) : Sp := fun vs H Q _ => ∃ (a : Addr) (l : List Nat) (m : Nat), vs = [.ref a, iv m] ∧ Sq K H a (ivs l) ∧ l.length < sizeLine ∧
  ∀ (H' : Hp) (p : Addr) (xs : List V), Same H H' → H p = none → H' p = some (.lst xs) → Tps H' xs (partsOf l m) → Q (.ref p) H'
theorem scParted : FnScope ["row", "mark", "parts", "part", "number"] ["row", "mark"] (defScope sParted) := ⟨rfl, rfl, rfl, by decide +kernel, rfl, by decide +kernel, by decide +kernel⟩
theorem ok_Parted {f : Addr} {fd : FuncData} (F : Fun K "parted" "parted" sParted f fd) (T : TC mg) : FnOk P w K mg base CX0 1 f fd ["row", "mark"] (spParted K) := by
  refine F.ok scParted (fun vs H Q E h => ?_) (fun cdv A outer s H vs Q E hr h => ⟨_, pss_cons (ps_set (i := 2) scParted.nd rfl (Or.inl rfl) (pe_lst pa_nil)) (pss_cons (ps_set (i := 3) scParted.nd rfl (Or.inl rfl) (pe_lst pa_nil))
      (pss_cons (ps_for PassesOwn.never rfl (pi_seq (pv 0)) (pg_name (i := 4) scParted.nd rfl (Or.inl rfl))
        (pss_one (ps_if (pt_cmpR op_eq (pv 4) (pv 1) (nomark _))
          (pss_cons (ps_expr (pe_bm PySem.F.plainAttrs_list PySem.F.slot_list_append PySem.F.type_list_append mt_append (pv 2) (pa_cons (pe_callTy call_tuple_of (by rfl) T.tuple (by decide +kernel) (pa_cons (pv 3) pa_nil)) pa_nil)))
            (pss_one (ps_set (i := 3) scParted.nd rfl (Or.inl rfl) (pe_lst pa_nil))))
          (pss_one (ps_expr (pe_bm PySem.F.plainAttrs_list PySem.F.slot_list_append PySem.F.type_list_append mt_append (pv 3) (pa_cons (pv 4) pa_nil)))))))
      (pss_cons (ps_expr (pe_bm PySem.F.plainAttrs_list PySem.F.slot_list_append PySem.F.type_list_append mt_append (pv 2) (pa_cons (pe_callTy call_tuple_of (by rfl) T.tuple (by decide +kernel) (pa_cons (pv 3) pa_nil)) pa_nil)))
      (pss_one (ps_ret (pv 2)))))), ?_⟩)
  · obtain ⟨a, l, m, rfl, _⟩ := h
    rfl
  · obtain ⟨a, l, m, rfl, hS, hz, k⟩ := h
    refine ⟨Nat.zero_le _, fun p np => ⟨Nat.zero_le _, fun q nq => ?_⟩⟩
    have hpq : q ≠ p := fun e => by rw [e, upd_same] at nq; cases nq
    have nq' : H q = none := by rw [upd_ne hpq] at nq; exact nq
    -- the state behind i numbers
    have hlen : ∀ i, (partsGo m (l.take i)).1.length < sizeLine ∧ (partsGo m (l.take i)).2.length < sizeLine := fun i => by
      have := partsGo_len m (l.take i) ([], [])
      have e : (l.take i).length ≤ l.length := by rw [List.length_take]; omega
      simp only [List.length_nil, Nat.zero_add] at this
      unfold partsGo
      omega
    -- the state behind i numbers
    refine for_seqS (H0 := H) (a := a) (xs := ivs l) (fun i σ H' => ∃ (q : Addr) (xs : List V) (v : Option V), σ = [some (.ref a), some (iv m), some (.ref p), some (.ref q), v] ∧ Same H H' ∧ H q = none ∧ q ≠ p ∧
      H' p = some (.lst xs) ∧ Tps H' xs (partsGo m (l.take i)).1 ∧ H' q = some (.lst (ivs (partsGo m (l.take i)).2))) rfl hS
      ⟨q, [], none, rfl, fun b o e => by rw [upd_ne (ne_of_none e nq'), upd_ne (ne_of_none e np)]; exact e, nq', hpq, by rw [upd_ne (Ne.symm hpq), upd_same], .nil, upd_same⟩ (fun i σ H' ⟨_, _, _, _, e, _⟩ => e) ?_ ?_
    · rintro i y σ H' hi ⟨q, xs, v, rfl, sm, nq, hpq, hp, ht, hq⟩
      obtain ⟨n, hn, rfl⟩ := iv_at hi
      have step := partsGo_more (m := m) hn
      have l1 := hlen i
      have lx : xs.length < sizeLine := by rw [Tps.len ht]; exact l1.1
      refine ⟨_, rfl, _, rfl, rfl, _, rfl, ite2 (fun c => ?_) (fun c => ?_)⟩
      · have c' : n = m := by have := of_decide_eq_true c; injection this with e; omega
        rw [stepP, if_pos c'] at step
        refine ⟨_, rfl, .inl ⟨rfl, _, .inl (.inl hp)⟩, _, rfl, q, _, rfl, .inl ⟨.inl (.inl hq), fun t nt => ?_⟩⟩
        have tp : p ≠ t := ne_of_none hp nt
        refine ⟨p, xs, .ref t, rfl, rfl, by rw [upd_ne tp]; exact hp, lx, ?_⟩
        refine ⟨Nat.zero_le _, fun q2 nq2 => ?_⟩
        have q2p : q2 ≠ p := fun e => by rw [e, upd_same] at nq2; cases nq2
        have q2t : q2 ≠ t := fun e => by rw [upd_ne q2p, e, upd_same] at nq2; cases nq2
        rw [upd_ne q2p, upd_ne q2t] at nq2
        have nH : ∀ {b : Addr}, H' b = none → H b = none := fun {b} h => sm.free h
        refine ⟨q2, xs ++ [.ref t], _, rfl, fun b o e => ?_, nH nq2, q2p, ?_, ?_, ?_⟩
        · rw [upd_ne (ne_of_none e (nH nq2)), upd_ne (ne_of_none e np), upd_ne (ne_of_none e (nH nt))]
          exact sm b o e
        · rw [upd_ne (Ne.symm q2p), upd_same]
        · rw [step]
          refine Tps.snoc (ht.keep fun b xs e => ?_) ?_
          · rw [upd_ne (ne_of_none e nq2), upd_ne (ne_of e hp (by intro z; cases z)), upd_ne (ne_of_none e nt)]
            exact e
          · rw [upd_ne (Ne.symm q2t), upd_ne (Ne.symm tp), upd_same]
        · rw [step]
          exact upd_same
      · have c' : ¬ n = m := fun e => c (decide_eq_true (by rw [e]))
        rw [stepP, if_neg c'] at step
        refine ⟨_, rfl, .inl ⟨rfl, _, .inl (.inl hq)⟩, _, rfl, q, _, _, rfl, rfl, hq, by rw [List.length_map]; exact l1.2, ?_⟩
        refine ⟨q, xs, _, rfl, fun b o e => ?_, nq, hpq, ?_, ?_, ?_⟩
        · rw [upd_ne (ne_of_none e nq)]
          exact sm b o e
        · rw [upd_ne (Ne.symm hpq)]
          exact hp
        · rw [step]
          refine ht.keep fun b xs e => ?_
          rw [upd_ne (ne_of e hq (by intro z; cases z))]
          exact e
        · rw [step, upd_same]
          show _ = some (HO.lst (ivs ((partsGo m (List.take i l)).snd ++ [n])))
          rw [ivs, ivs, List.map_append]
          rfl
    · rintro σ H' ⟨q, xs, v, rfl, sm, nq, hpq, hp, ht, hq⟩
      have l1 := hlen (ivs l).length
      have lx : xs.length < sizeLine := by rw [Tps.len ht]; exact l1.1
      rw [List.length_map, List.take_length] at ht hq
      refine ⟨_, rfl, .inl ⟨rfl, _, .inl (.inl hp)⟩, _, rfl, q, _, rfl, .inl ⟨.inl (.inl hq), fun t nt => ?_⟩⟩
      have tp : p ≠ t := ne_of_none hp nt
      refine ⟨p, xs, .ref t, rfl, rfl, by rw [upd_ne tp]; exact hp, lx, ?_⟩
      refine ⟨_, rfl, ?_⟩
      refine k _ p _ (fun b o e => ?_) np upd_same ?_
      · rw [upd_ne (ne_of_none e np), upd_ne (ne_of_none e (sm.free nt))]
        exact sm b o e
      · refine Tps.snoc (ht.keep fun b xs e => ?_) ?_
        · rw [upd_ne (ne_of e hp (by intro z; cases z)), upd_ne (ne_of_none e nt)]
          exact e
        · rw [upd_ne (Ne.symm tp), upd_same]
/-! is_decimal, number_of, is_too_costly -/
def isDigit (n : Nat) : Bool := decide (48 ≤ n) && decide (n ≤ 57)
def isDec (l : List Nat) : Bool := l.all isDigit && (!l.isEmpty && decide (l.head? ≠ some 48))
def valGo (z : Int) (l : List Nat) : Int := l.foldl (fun (z : Int) (n : Nat) => z * 10 + (n : Int) - 48) z
def val (l : List Nat) : Int := valGo 0 l
def spDecimal (K : PySem.W.Frag) : Sp := fun vs H Q _ => ∃ (a : Addr) (l : List Nat), vs = [.ref a] ∧ SqT K H a (ivs l) ∧ Q (.bl (isDec l)) H
theorem scDecimal : FnScope ["row", "number"] ["row"] (defScope sDecimal) := ⟨rfl, rfl, rfl, by decide +kernel, rfl, by decide +kernel, by decide +kernel⟩
theorem ok_Decimal {f : Addr} {fd : FuncData} (F : Fun K "is_decimal" "is_decimal" sDecimal f fd) (T : TC mg) : FnOk P w K mg base CX0 1 f fd ["row"] (spDecimal K) := by
  refine F.ok scDecimal (fun vs H Q E h => ?_) (fun cdv A outer s H vs Q E hr h => ⟨_, pss_cons (ps_for PassesOwn.never rfl (pi_seq (pv 0)) (pg_name (i := 1) scDecimal.nd rfl (Or.inl rfl))
      (pss_one (ps_if (PW.pt (pw_or (pt_cmpR op_lt (pv 1) (pe_k rfl T.DIGIT_ZERO) (nomark _)) (pw_or1 (pt_cmpR op_gt (pv 1) (pe_k rfl T.DIGIT_NINE) (nomark _))))) (pss_one (ps_ret pe_bl)) pss_nil)))
      (pss_one (ps_ret (pe_and (pe_cmpR op_gt (pe_callB call_len_seq (by rfl) T.len PySem.boot_len (pa_cons (pv 0) pa_nil)) pe_int (nomark _)) (pe_one (pe_cmpR op_ne (pe_ix ix_tup (pv 0) pe_int (fun _ _ => rfl)) (pe_k rfl T.DIGIT_ZERO) (nomark _)))))), ?_⟩)
  · obtain ⟨a, l, rfl, _⟩ := h
    rfl
  · obtain ⟨a, l, rfl, hS, q⟩ := h
    refine for_seqS (H0 := H) (a := a) (xs := ivs l) (fun i σ H' => (∃ v, σ = [some (.ref a), v]) ∧ H' = H ∧ (l.take i).all isDigit = true) rfl (.inr hS) ⟨⟨_, rfl⟩, rfl, rfl⟩ (fun i σ H' e b o h => e.2.1 ▸ h) ?_ ?_
    · rintro i y σ H' hi ⟨⟨v, rfl⟩, rfl, hall⟩
      obtain ⟨n, hn, rfl⟩ := iv_at hi
      have notr : isDigit n = false → isDec l = false := fun e => by
        have : l.all isDigit = false := List.all_eq_false.mpr ⟨n, List.mem_of_getElem? hn, by rw [e]; exact Bool.false_ne_true⟩
        rw [isDec, this, Bool.false_and]
      refine ⟨_, rfl, _, _, rfl, rfl, _, rfl, ite2 (fun c => iteT ?_) (fun c => ⟨_, rfl, _, _, rfl, rfl, _, rfl, ite2 (fun c' => ?_) (fun c' => ?_)⟩)⟩
      · rw [notr ?_] at q
        · exact q
        · have c := of_decide_eq_true c
          have : ¬ (48 ≤ n) := by omega
          simp [isDigit, this]
      · rw [notr ?_] at q
        · exact q
        · have c := of_decide_eq_true c'
          have : ¬ (n ≤ 57) := by omega
          simp [isDigit, this]
      · refine ⟨⟨_, rfl⟩, rfl, ?_⟩
        have e1 : ¬ ((n : Int) < 48) := fun z => c (decide_eq_true z)
        have e2 : ¬ ((57 : Int) < n) := fun z => c' (decide_eq_true z)
        rw [take_more hn, List.all_append, hall]
        have a1 : 48 ≤ n := by omega
        have a2 : n ≤ 57 := by omega
        simp [isDigit, a1, a2]
    · rintro σ H' ⟨⟨v, rfl⟩, rfl, hall⟩
      rw [List.length_map, List.take_length] at hall
      refine ⟨_, rfl, _, _, rfl, .inr hS, _, _, rfl, rfl, _, rfl, ?_⟩
      cases l with
      | nil => exact iteF q
      | cons n l =>
        have e : decide ((0 : Int) < ((ivs (n :: l)).length : Int)) = true := decide_eq_true (by simp only [List.length_map, List.length_cons]; omega)
        rw [e]
        refine iteT ⟨_, rfl, a, ivs (n :: l), 0, iv n, rfl, rfl, hS, atI_nat rfl, rfl, ?_⟩
        have e2 : isDec (n :: l) = !decide (iv n = V.int 48) := by
          rw [isDec, hall]
          by_cases c : n = 48
          · subst c; rfl
          · have c2 : ¬ iv n = V.int 48 := fun z => c (by injection z with z; omega)
            rw [decide_eq_false c2]
            simp [c]
        rw [e2] at q
        exact q
theorem val_more {l : List Nat} {i n : Nat} (h : l[i]? = some n) : val (l.take (i + 1)) = val (l.take i) * 10 + n - 48 := by
  unfold val valGo
  rw [take_more h, List.foldl_append]
  rfl
theorem valGo_nat : ∀ (l : List Nat) (z : Nat), l.all isDigit = true → valGo z l = ((l.foldl (fun n c => 10 * n + (c - 48)) z : Nat) : Int)
  | [], _, _ => rfl
  | n :: l, z, h => by
    rw [List.all_cons, Bool.and_eq_true] at h
    have h1 := h.1
    rw [isDigit, Bool.and_eq_true, decide_eq_true_eq, decide_eq_true_eq] at h1
    have e : (z : Int) * 10 + n - 48 = ((10 * z + (n - 48) : Nat) : Int) := by omega
    show valGo ((z : Int) * 10 + n - 48) l = _
    rw [e]
    exact valGo_nat l _ h.2
/-- number_of: digits, not too many of them -/
def spNumberOf (K : PySem.W.Frag) : Sp := fun vs H Q _ => ∃ (a : Addr) (l : List Nat), vs = [.ref a] ∧ SqT K H a (ivs l) ∧ l.all isDigit = true ∧ l.length ≤ 15 ∧ Q (.int (val l)) H
theorem scNumberOf : FnScope ["digits", "number", "digit"] ["digits"] (defScope sNumberOf) := ⟨rfl, rfl, rfl, by decide +kernel, rfl, by decide +kernel, by decide +kernel⟩
theorem foldDig_bound : ∀ (l : List Nat) (z : Nat), l.all isDigit = true → l.foldl (fun n c => 10 * n + (c - 48)) z < (z + 1) * 10 ^ l.length
  | [], z, _ => by simp
  | n :: l, z, h => by
    rw [List.all_cons, Bool.and_eq_true] at h
    have h1 := h.1
    rw [isDigit, Bool.and_eq_true, decide_eq_true_eq, decide_eq_true_eq] at h1
    have ih := foldDig_bound l (10 * z + (n - 48)) h.2
    rw [List.foldl_cons]
    refine Nat.lt_of_lt_of_le ih ?_
    rw [List.length_cons, Nat.pow_succ, Nat.mul_comm (10 ^ l.length) 10, ← Nat.mul_assoc]
    exact Nat.mul_le_mul_right _ (by omega)
theorem val_bound {l : List Nat} (h : l.all isDigit = true) (hl : l.length ≤ 15) : 0 ≤ val l ∧ val l < 10 ^ 15 := by
  have e := valGo_nat l 0 h
  have b := foldDig_bound l 0 h
  have p : 10 ^ l.length ≤ 10 ^ 15 := Nat.pow_le_pow_right (by decide) hl
  unfold val
  have e' : valGo 0 l = _ := e
  rw [e']
  omega
theorem ok_NumberOf {f : Addr} {fd : FuncData} (F : Fun K "number_of" "number_of" sNumberOf f fd) (T : TC mg) : FnOk P w K mg base CX0 1 f fd ["digits"] (spNumberOf K) := by
  refine F.ok scNumberOf (fun vs H Q E h => ?_) (fun cdv A outer s H vs Q E hr h => ⟨_, pss_cons (ps_set (i := 1) scNumberOf.nd rfl (Or.inl rfl) pe_int) (pss_cons (ps_for PassesOwn.never rfl (pi_seq (pv 0)) (pg_name (i := 2) scNumberOf.nd rfl (Or.inl rfl))
      (pss_one (ps_set (i := 1) scNumberOf.nd rfl (Or.inl rfl) (pe_op op_sub (pe_op op_add (pe_op op_mul (pv 1) pe_int) (pv 2)) (pe_k rfl T.DIGIT_ZERO)))))
      (pss_one (ps_ret (pv 1)))), ?_⟩)
  · obtain ⟨a, l, rfl, _⟩ := h
    rfl
  · obtain ⟨a, l, rfl, hS, hd, hl, q⟩ := h
    refine for_seqS (H0 := H) (a := a) (xs := ivs l) (fun i σ H' => (∃ v, σ = [some (.ref a), some (.int (val (l.take i))), v]) ∧ H' = H) rfl (.inr hS) ⟨⟨_, rfl⟩, rfl⟩ (fun i σ H' e b o h => e.2 ▸ h) ?_ ?_
    · rintro i y σ H' hi ⟨⟨v, rfl⟩, rfl⟩
      obtain ⟨n, hn, rfl⟩ := iv_at hi
      have b := val_bound (l := l.take i) (List.all_eq_true.mpr fun x hx => List.all_eq_true.mp hd x (List.mem_of_mem_take hx)) (by rw [List.length_take]; omega)
      refine ⟨_, rfl, _, _, rfl, rfl, .inl ⟨by omega, by omega⟩, _, rfl, _, _, rfl, rfl, _, _, rfl, rfl, ?_⟩
      refine ⟨⟨some (iv n), ?_⟩, rfl⟩
      rw [val_more hn]
      rfl
    · rintro σ H' ⟨⟨v, rfl⟩, rfl⟩
      rw [List.length_map, List.take_length]
      exact ⟨_, rfl, q⟩
end
end Slip
end
/-! ## PLine -/
section
set_option Elab.async false
set_option linter.all false
set_option maxRecDepth 100000
set_option maxHeartbeats 2000000
namespace Slip
open PySem PySem.Spec PyProof.Rows L2
abbrev sIsLine : Stmt := top 37
abbrev sKind : Stmt := top 36
abbrev sTable : Stmt := top 34
section
variable {P : Program} {w : World} {K : PySem.W.Frag} {mg : Str → Option Value} {base : Heap}
/-! is_too_costly -/
def costly (l : List Nat) : Bool := decide (5 < l.length) || decide (65535 < val l)
def spCostly (K : PySem.W.Frag) : Sp := fun vs H Q _ => ∃ (a : Addr) (l : List Nat), vs = [.ref a] ∧ SqT K H a (ivs l) ∧ l.all isDigit = true ∧ Q (.bl (costly l)) H
theorem scCostly : FnScope ["digits"] ["digits"] (defScope sCostly) := ⟨rfl, rfl, rfl, by decide +kernel, rfl, by decide +kernel, by decide +kernel⟩
theorem ok_Costly {f : Addr} {fd : FuncData} (F : Fun K "is_too_costly" "is_too_costly" sCostly f fd) (T : TC mg) (cN : Cal P w K mg base 1 "number_of" (spNumberOf K)) : FnOk P w K mg base CX0 2 f fd ["digits"] (spCostly K) := by
  refine F.ok scCostly (fun vs H Q E h => ?_) (fun cdv A outer s H vs Q E hr h => ⟨_, pss_one (ps_ret (pe_or (pe_cmpR op_gt (pe_callB call_len_seq (by rfl) T.len PySem.boot_len (pa_cons (pv 0) pa_nil)) (pe_k rfl T.MOST_COST_DIGITS) (nomark _))
      (pe_one (pe_cmpR op_gt (pe_c cN hr (by decide) rfl (pa_cons (pv 0) pa_nil)) (pe_k rfl T.MOST_COST) (nomark _))))), ?_⟩)
  · obtain ⟨a, l, rfl, _⟩ := h
    rfl
  · obtain ⟨a, l, rfl, hS, hd, q⟩ := h
    refine ⟨_, rfl, _, _, rfl, .inr hS, _, _, rfl, rfl, _, rfl, ite2 (fun c => ?_) (fun c => ?_)⟩
    · have c := of_decide_eq_true c
      rw [List.length_map] at c
      have e : costly l = true := by unfold costly; rw [decide_eq_true (by omega), Bool.true_or]
      rw [e] at q
      exact q
    · have c' : ¬ (5 < l.length) := fun z => c (decide_eq_true (by rw [List.length_map]; omega))
      refine ⟨_, rfl, a, l, rfl, hS, hd, by omega, _, _, rfl, rfl, ?_⟩
      have e : costly l = decide (65535 < val l) := by unfold costly; rw [decide_eq_false c', Bool.false_or]
      rw [e] at q
      exact q
/-! is_line -/
def isLine : List (List Nat) → Bool
  | [c, t, m] => isDec c && (SySpell.isLetters t && SySpell.isLetters m)
  | _ => false
def spIsLine (K : PySem.W.Frag) : Sp := fun vs H Q _ => ∃ (a : Addr) (xs : List V) (ls : List (List Nat)), vs = [.ref a] ∧ SqL K H a xs ∧ Tps H xs ls ∧ Q (.bl (isLine ls)) H
theorem scIsLine : FnScope ["parts"] ["parts"] (defScope sIsLine) := ⟨rfl, rfl, rfl, by decide +kernel, rfl, by decide +kernel, by decide +kernel⟩
theorem three {H : Hp} {xs : List V} {ls : List (List Nat)} (h : Tps H xs ls) (e : xs.length = 3) : ∃ c t m x y z, ls = [c, t, m] ∧ xs = [.ref x, .ref y, .ref z] ∧ H x = some (.tup (ivs c)) ∧ H y = some (.tup (ivs t)) ∧ H z = some (.tup (ivs m)) := by
  cases h with
  | nil => cases e
  | cons h1 h =>
    cases h with
    | nil => cases e
    | cons h2 h =>
      cases h with
      | nil => cases e
      | cons h3 h =>
        cases h with
        | nil =>
          obtain ⟨x, rfl, hx⟩ := h1
          obtain ⟨y, rfl, hy⟩ := h2
          obtain ⟨z, rfl, hz⟩ := h3
          exact ⟨_, _, _, x, y, z, rfl, rfl, hx, hy, hz⟩
        | cons _ _ =>
          simp only [List.length_cons] at e
          omega
theorem isLine_no {ls : List (List Nat)} (h : ls.length ≠ 3) : isLine ls = false := by
  match ls, h with
  | [], _ => rfl
  | [_], _ => rfl
  | [_, _], _ => rfl
  | [_, _, _], h => exact absurd rfl h
  | _ :: _ :: _ :: _ :: _, _ => rfl
theorem ok_IsLine {f : Addr} {fd : FuncData} (F : Fun K "is_line" "is_line" sIsLine f fd) (T : TC mg) (cD : Cal P w K mg base 1 "is_decimal" (spDecimal K)) (cL : Cal P w K mg base 1 "are_letters" (spLetters K)) : FnOk P w K mg base CX0 2 f fd ["parts"] (spIsLine K) := by
  refine F.ok scIsLine (fun vs H Q E h => ?_) (fun cdv A outer s H vs Q E hr h => ⟨_, pss_cons (ps_if (pt_cmpR op_ne (pe_callB call_len_seq (by rfl) T.len PySem.boot_len (pa_cons (pv 0) pa_nil)) pe_int (nomark _)) (pss_one (ps_ret pe_bl)) pss_nil)
      (pss_one (ps_ret (pe_and (pe_c cD hr (by decide) rfl (pa_cons (pe_ix ix_list (pv 0) pe_int (fun _ _ => rfl)) pa_nil)) (pe_and (pe_c cL hr (by decide) rfl (pa_cons (pe_ix ix_list (pv 0) pe_int (fun _ _ => rfl)) pa_nil)) (pe_one (pe_c cL hr (by decide) rfl (pa_cons (pe_ix ix_list (pv 0) pe_int (fun _ _ => rfl)) pa_nil))))))), ?_⟩)
  · obtain ⟨a, xs, ls, rfl, _⟩ := h
    rfl
  · obtain ⟨a, xs, ls, rfl, hS, ht, q⟩ := h
    refine ⟨_, rfl, _, _, rfl, .inl hS, rfl, _, rfl, ?_⟩
    by_cases c3 : xs.length = 3
    · refine iteNS (by rw [c3]; rfl) ?_
      obtain ⟨c, t, m, x, y, z, rfl, rfl, hx, hy, hz⟩ := three ht c3
      refine ⟨_, rfl, a, _, 0, _, rfl, rfl, hS, atI_nat rfl, x, c, rfl, .inl (.inl hx), _, rfl, ?_⟩
      have e : isLine [c, t, m] = (isDec c && (SySpell.isLetters t && SySpell.isLetters m)) := rfl
      rw [e] at q
      cases h1 : isDec c with
      | false => rw [h1] at q; exact iteF q
      | true =>
        rw [h1, Bool.true_and] at q
        refine iteT ⟨_, rfl, a, _, 1, _, rfl, rfl, hS, atI_nat rfl, y, t, rfl, .inr (.inl (.inl hy)), _, rfl, ?_⟩
        cases h2 : SySpell.isLetters t with
        | false => rw [h2] at q; exact iteF q
        | true =>
          rw [h2, Bool.true_and] at q
          exact iteT ⟨_, rfl, a, _, 2, _, rfl, rfl, hS, atI_nat rfl, z, m, rfl, .inr (.inl (.inl hz)), q⟩
    · have e : isLine ls = false := isLine_no (by rw [← Tps.len ht]; exact c3)
      rw [e] at q
      have c2 : ¬ V.int (xs.length : Int) = V.int 3 := fun z => c3 (by injection z with z; omega)
      rw [decide_eq_false c2]
      exact iteT q
/-! the table -/
def numsK (l : List Nat) : List NestedKey := l.map fun (n : Nat) => .num (n : Int)
def keyOf (t m : List Nat) : NestedKey := .tup [.tup (numsK t), .tup (numsK m)]
theorem numsK_inj : ∀ {a b : List Nat}, numsK a = numsK b → a = b
  | [], [], _ => rfl
  | [], _ :: _, h => nomatch h
  | _ :: _, [], h => nomatch h
  | x :: a, y :: b, h => by
    injection h with h1 h2
    injection h1 with h1
    rw [numsK_inj h2, Int.ofNat.inj h1]
theorem keyOf_inj {t m t' m' : List Nat} : keyOf t m = keyOf t' m' ↔ t = t' ∧ m = m' := by
  constructor
  · intro h
    injection h with h
    injection h with h1 h2
    injection h1 with h1
    injection h2 with h2 _
    injection h2 with h2
    exact ⟨numsK_inj h1, numsK_inj h2⟩
  · rintro ⟨rfl, rfl⟩
    rfl
theorem numsK_is {H : Hp} : ∀ (l : List Nat), NKVs H (ivs l) (numsK l)
  | [] => .nil
  | n :: l => .cons (.num _) (numsK_is l)
theorem numsK_depth : ∀ (l : List Nat), NestedKey.depthAll (numsK l) = 0
  | [] => rfl
  | n :: l => by
    show max (NestedKey.depth (.num (n : Int))) (NestedKey.depthAll (numsK l)) = 0
    rw [numsK_depth l]
    rfl
theorem keyOf_depth (t m : List Nat) : (keyOf t m).depth ≤ 8 := by
  show max (NestedKey.depthAll (numsK t) + 1) (max (NestedKey.depthAll (numsK m) + 1) 0) + 1 ≤ 8
  rw [numsK_depth, numsK_depth]
  decide
/-- a pair of tuples of letters -/
def PairAt (H : Hp) (a : Addr) (t m : List Nat) : Prop := ∃ p q, H a = some (.tup [.ref p, .ref q]) ∧ H p = some (.tup (ivs t)) ∧ H q = some (.tup (ivs m))
theorem PairAt.key {H : Hp} {a : Addr} {t m : List Nat} (h : PairAt H a t m) : NKV H (.ref a) (keyOf t m) := by
  obtain ⟨p, q, h1, h2, h3⟩ := h
  exact .tup h1 (.cons (.tup h2 (numsK_is t)) (.cons (.tup h3 (numsK_is m)) .nil))
theorem PairAt.keep {H H' : Hp} (e : ∀ b xs, H b = some (.tup xs) → H' b = some (.tup xs)) {a : Addr} {t m : List Nat} (h : PairAt H a t m) : PairAt H' a t m := by
  obtain ⟨p, q, h1, h2, h3⟩ := h
  exact ⟨p, q, e _ _ h1, e _ _ h2, e _ _ h3⟩
structure Row where
  typed : List Nat
  meant : List Nat
  cost : Nat
abbrev EntIs (H : Hp) : NEnt → Row → Prop := fun x r => x.1 = keyOf r.typed r.meant ∧ x.2.2 = iv r.cost ∧ PairAt H x.2.1 r.typed r.meant
/-- at d stands the table -/
def TblAt (P : Program) (w : World) (H : Hp) (d : Addr) (R : List Row) : Prop := ∃ xs : List NEnt, H d = some (DN P w d xs) ∧ Paired (EntIs H) xs R
theorem ents_keys {H : Hp} : ∀ {xs : List NEnt} {R : List Row}, Paired (EntIs H) xs R → KeysIn H xs
  | _, _, .nil => fun _ h => nomatch h
  | x :: xs, _, .cons h t => fun y hy => by
    rcases List.mem_cons.mp hy with e | hy
    · subst e
      obtain ⟨h1, _, h3⟩ := h
      exact ⟨by rw [h1]; exact h3.key, by rw [h1]; exact keyOf_depth _ _⟩
    · exact ents_keys t y hy
theorem ents_len {H : Hp} : ∀ {xs : List NEnt} {R : List Row}, Paired (EntIs H) xs R → xs.length = R.length
  | _, _, .nil => rfl
  | _, _, .cons _ t => congrArg (· + 1) (ents_len t)
def told (R : List Row) (t m : List Nat) : Bool := R.any fun r => decide (r.typed = t ∧ r.meant = m)
theorem ents_has {H : Hp} {t m : List Nat} : ∀ {xs : List NEnt} {R : List Row}, Paired (EntIs H) xs R → hasN xs (keyOf t m) = told R t m
  | _, _, .nil => rfl
  | x :: xs, r :: R, .cons h tl => by
    have ih := ents_has (t := t) (m := m) tl
    rw [hasN, told] at ih ⊢
    rw [List.any_cons, List.any_cons, ih, h.1]
    congr 1
    exact decide_eq_decide.mpr keyOf_inj
/-! kind_of_fault -/
def lineKind (R : List Row) : List (List Nat) → Nat
  | [c, t, m] => if isLine [c, t, m] = false then 1 else if costly c = true ∨ 3 < t.length ∨ 3 < m.length then 2 else if t = m then 3 else if told R t m = true then 4 else if 32 ≤ R.length then 5 else 0
  | _ => 1
def spKind (P : Program) (w : World) (K : PySem.W.Frag) : Sp := fun vs H Q _ => ∃ (a d : Addr) (xs : List V) (ls : List (List Nat)) (R : List Row), vs = [.ref a, .ref d] ∧ H a = some (.lst xs) ∧ Tps H xs ls ∧ TblAt P w H d R ∧
  ∀ H', Same H H' → Q (iv (lineKind R ls)) H'
theorem scKind : FnScope ["parts", "table", "typed", "meant"] ["parts", "table"] (defScope sKind) := ⟨rfl, rfl, rfl, by decide +kernel, rfl, by decide +kernel, by decide +kernel⟩
/-- a tuple of letters as data -/
abbrev dat (l : List Nat) : PyData := .tuple (l.map fun (n : Nat) => .int (n : Int))
theorem dp_ivs {K : PySem.W.Frag} {H : Hp} : ∀ (l : List Nat), DpAll K H (ivs l) (l.map fun (n : Nat) => PyData.int (n : Int))
  | [] => .nil
  | _ :: l => .cons (.int _) (dp_ivs l)
theorem dp_dat {K : PySem.W.Frag} {H : Hp} {a : Addr} {l : List Nat} (h : H a = some (.tup (ivs l))) : Dp K H (.ref a) (dat l) := .tup (.inl (.inl h)) (dp_ivs l)
theorem eqv_dat : ∀ (l m : List Nat), PyData.eqv (dat l) (dat m) = decide (l = m) := by
  intro l m
  have h : ∀ (l m : List Nat), PyData.eqvAll (l.map fun (n : Nat) => PyData.int (n : Int)) (m.map fun (n : Nat) => PyData.int (n : Int)) = decide (l = m) := by
    intro l
    induction l with
    | nil => intro m; cases m <;> simp [PyData.eqvAll]
    | cons x l ih =>
      intro m
      cases m with
      | nil => simp [PyData.eqvAll]
      | cons y m =>
        rw [List.map_cons, List.map_cons, PyData.eqvAll, ih m]
        rw [Bool.eq_iff_iff]
        simp [PyData.eqv]
        omega
  show PyData.eqv (.tuple _) (.tuple _) = _
  rw [PyData.eqv]
  exact h l m
theorem shaped_dat (l : List Nat) : SeqAt.shaped (dat l) = true := by
  have h : ∀ (l : List Nat), PyData.canLayAll0 (l.map fun (n : Nat) => PyData.int (n : Int)) = true ∧ PyData.depthAll (l.map fun (n : Nat) => PyData.int (n : Int)) = 0 := by
    intro l
    induction l with
    | nil => exact ⟨rfl, rfl⟩
    | cons x l ih =>
      rw [List.map_cons, PyData.canLayAll0, PyData.depthAll, ih.1, ih.2]
      exact ⟨rfl, rfl⟩
  have e1 : PyData.canLay0 (dat l) = true := by
    show PyData.canLay0 (.tuple _) = true
    rw [PyData.canLay0]
    exact (h l).1
  have e2 : PyData.depth (dat l) = 1 := by
    show PyData.depth (.tuple _) = 1
    rw [PyData.depth, (h l).2]
  unfold SeqAt.shaped
  rw [e1, e2]
  decide
theorem tbl_has {P : Program} {w : World} {H : Hp} {d : Addr} {R : List Row} {xs : List NEnt} (h : H d = some (DN P w d xs) ∧ Paired (EntIs H) xs R) : KeysIn H xs ∧ xs.length = R.length := ⟨ents_keys h.2, ents_len h.2⟩
theorem ok_Kind {f : Addr} {fd : FuncData} (F : Fun K "kind_of_fault" "kind_of_fault" sKind f fd) (T : TC mg) (cI : Cal P w K mg base 2 "is_line" (spIsLine K)) (cC : Cal P w K mg base 2 "is_too_costly" (spCostly K)) :
    FnOk P w K mg base CX0 3 f fd ["parts", "table"] (spKind P w K) := by
  refine F.ok scKind (fun vs H Q E h => ?_) (fun cdv A outer s H vs Q E hr h => ⟨_, pss_cons (ps_if (pt_not (pt_val (pe_c cI hr (by decide) rfl (pa_cons (pv 0) pa_nil)))) (pss_one (ps_ret (pe_k rfl T.NO_SUCH_LINE))) pss_nil)
      (pss_cons (ps_set (i := 2) scKind.nd rfl (Or.inl rfl) (pe_ix ix_list (pv 0) pe_int (fun _ _ => rfl))) (pss_cons (ps_set (i := 3) scKind.nd rfl (Or.inl rfl) (pe_ix ix_list (pv 0) pe_int (fun _ _ => rfl)))
      (pss_cons (ps_if (PW.pt (pw_or (pt_val (pe_c cC hr (by decide) rfl (pa_cons (pe_ix ix_list (pv 0) pe_int (fun _ _ => rfl)) pa_nil)))
          (pw_or (pt_cmpR op_gt (pe_callB call_len_seq (by rfl) T.len PySem.boot_len (pa_cons (pv 2) pa_nil)) (pe_k rfl T.MOST_LETTERS) (nomark _)) (pw_or1 (pt_cmpR op_gt (pe_callB call_len_seq (by rfl) T.len PySem.boot_len (pa_cons (pv 3) pa_nil)) (pe_k rfl T.MOST_LETTERS) (nomark _)))))) (pss_one (ps_ret (pe_k rfl T.TOO_MUCH))) pss_nil)
      (pss_cons (ps_if (pt_cmpR (op_eqD hr.units) (pv 2) (pv 3) (nomark _)) (pss_one (ps_ret (pe_k rfl T.SAME_LETTERS))) pss_nil)
      (pss_cons (ps_if (pt_cmpR (op_inN hr.units) (pe_tup (pa_cons (pv 2) (pa_cons (pv 3) pa_nil))) (pv 1) (by rfl)) (pss_one (ps_ret (pe_k rfl T.TOLD_BEFORE))) pss_nil)
      (pss_cons (ps_if (pt_cmpR op_ge (pe_callB call_len_N (by rfl) T.len PySem.boot_len (pa_cons (pv 1) pa_nil)) (pe_k rfl T.MOST_SLIPS) (nomark _)) (pss_one (ps_ret (pe_k rfl T.ONE_LINE_TOO_MANY))) pss_nil)
      (pss_one (ps_ret (pe_k rfl T.NO_FAULT))))))))), ?_⟩)
  · obtain ⟨a, d, xs, ls, R, rfl, _⟩ := h
    rfl
  · obtain ⟨a, d, xs, ls, R, rfl, ha, ht, ⟨es, hd, he⟩, k⟩ := h
    refine ⟨_, rfl, a, xs, ls, rfl, .inl (.inl ha), ht, _, rfl, ?_⟩
    cases hl : isLine ls with
    | false =>
      have e : lineKind R ls = 1 := by
        match ls, hl with
        | [], _ => rfl
        | [_], _ => rfl
        | [_, _], _ => rfl
        | [c, t, m], hl => exact if_pos hl
        | _ :: _ :: _ :: _ :: _, _ => rfl
      have k' := k H (Same.refl H)
      rw [e] at k'
      exact iteT k'
    | true =>
      refine iteF ?_
      have n3 : xs.length = 3 := by
        rw [Tps.len ht]
        by_cases q : ls.length = 3
        · exact q
        · rw [isLine_no q] at hl
          cases hl
      obtain ⟨c, t, m, x, y, z, rfl, rfl, hx, hy, hz⟩ := three ht n3
      have dg : c.all isDigit = true := by
        rw [isLine, Bool.and_eq_true, isDec, Bool.and_eq_true] at hl
        exact hl.1.1
      have ek : lineKind R [c, t, m] = if costly c = true ∨ 3 < t.length ∨ 3 < m.length then 2 else if t = m then 3 else if told R t m = true then 4 else if 32 ≤ R.length then 5 else 0 := by
        show (if isLine [c, t, m] = false then 1 else _) = _
        rw [hl, if_neg (by decide)]
      rw [ek] at k
      refine ⟨_, rfl, a, _, 1, _, rfl, rfl, .inl (.inl ha), atI_nat rfl, ?_⟩
      refine ⟨_, rfl, a, _, 2, _, rfl, rfl, .inl (.inl ha), atI_nat rfl, ?_⟩
      refine ⟨_, rfl, a, _, 0, _, rfl, rfl, .inl (.inl ha), atI_nat rfl, x, c, rfl, .inl (.inl hx), dg, _, rfl, ?_⟩
      cases hc : costly c with
      | true =>
        have k' := k H (Same.refl H)
        rw [if_pos (.inl hc)] at k'
        exact iteT (iteT k')
      | false =>
        refine iteF ⟨_, rfl, y, _, rfl, .inr (.inl (.inl hy)), _, _, rfl, rfl, _, rfl, ite2 (fun c1 => ?_) (fun c1 => ⟨_, rfl, z, _, rfl, .inr (.inl (.inl hz)), _, _, rfl, rfl, _, rfl, ite2 (fun c2 => ?_) (fun c2 => ?_)⟩)⟩
        · have c1 := of_decide_eq_true c1
          rw [List.length_map] at c1
          have k' := k H (Same.refl H)
          rw [if_pos (.inr (.inl (by omega)))] at k'
          exact iteT k'
        · have c2 := of_decide_eq_true c2
          rw [List.length_map] at c2
          have k' := k H (Same.refl H)
          rw [if_pos (.inr (.inr (by omega)))] at k'
          exact k'
        · have d1 : ¬ 3 < t.length := fun q => c1 (decide_eq_true (by rw [List.length_map]; omega))
          have d2 : ¬ 3 < m.length := fun q => c2 (decide_eq_true (by rw [List.length_map]; omega))
          rw [if_neg (by rw [hc]; rintro (q | q | q) <;> first | exact d1 q | exact d2 q | cases q)] at k
          refine ⟨_, rfl, _, rfl, dat t, dat m, dp_dat hy, dp_dat hz, shaped_dat t, shaped_dat m, _, rfl, ?_⟩
          rw [eqv_dat]
          refine ite2 (fun c3 => ?_) (fun c3 => ?_)
          · have k' := k H (Same.refl H)
            rw [if_pos (of_decide_eq_true c3)] at k'
            exact k'
          · rw [if_neg (fun q => c3 (decide_eq_true q))] at k
            obtain ⟨hk, ln⟩ := tbl_has ⟨hd, he⟩
            refine ⟨_, rfl, _, rfl, (by show 2 ≤ sizeLine; decide), fun u nu => ?_⟩
            have up : ∀ {b : Addr} {o : HO}, H b = some o → upd H u (.tup [.ref y, .ref z]) b = some o := fun {b o} e => by rw [upd_ne (ne_of_none e nu)]; exact e
            have sm : Same H (upd H u (.tup [.ref y, .ref z])) := fun b o e => up e
            refine ⟨_, rfl, u, d, keyOf t m, es, rfl, rfl, .of (up hd), fun e he' => ⟨(hk e he').1.keep fun b xs q => up q, (hk e he').2⟩, PairAt.key ⟨y, z, upd_same, up hy, up hz⟩, keyOf_depth _ _, _, rfl, ?_⟩
            rw [ents_has he]
            refine ite2 (fun c4 => ?_) (fun c4 => ?_)
            · have k' := k _ sm
              rw [if_pos c4] at k'
              exact k'
            · rw [if_neg c4] at k
              refine ⟨_, rfl, d, es, rfl, .of (up hd), fun e he' => ⟨(hk e he').1.keep fun b xs q => up q, (hk e he').2⟩, _, _, rfl, rfl, _, rfl, ?_⟩
              rw [ln]
              refine ite2 (fun c5 => ?_) (fun c5 => ?_)
              · have c5 := of_decide_eq_true c5
                have k' := k _ sm
                rw [if_pos (by omega)] at k'
                exact k'
              · have k' := k _ sm
                rw [if_neg (fun q => c5 (decide_eq_true (by omega)))] at k'
                exact k'
end
end Slip
end
/-! ## PTable -/
section
set_option Elab.async false
set_option linter.all false
set_option maxRecDepth 100000
set_option maxHeartbeats 2000000
namespace Slip
open PySem PySem.Spec PyProof.Rows L2
/-! table_of -/
def readRows (R : List Row) (i : Nat) : List (List Nat) → Except (Nat × Nat) (List Row)
  | [] => .ok R
  | l :: ls => if lineKind R (partsOf l 32) = 0 then (match partsOf l 32 with
      | [c, t, m] => readRows (R ++ [⟨t, m, (val c).toNat⟩]) (i + 1) ls
      | _ => .error (i, 1)) else .error (i, lineKind R (partsOf l 32))
def tableOf (l : List Nat) : Except (Nat × Nat) (List Row) := match readRows [] 0 (partsGo 10 l).1 with
  | .error e => .error e
  | .ok R => if (partsGo 10 l).2 = [] then .ok R else .error ((partsGo 10 l).1.length, 1)
theorem Tps.unsnoc {H : Hp} {xs : List V} {ls : List (List Nat)} {l : List Nat} (h : Tps H xs (ls ++ [l])) : ∃ ys u, xs = ys ++ [V.ref u] ∧ Tps H ys ls ∧ H u = some (.tup (ivs l)) := by
  induction ls generalizing xs with
  | nil =>
    cases h with
    | cons h1 h2 =>
      cases h2
      obtain ⟨t, rfl, ht⟩ := h1
      exact ⟨[], t, rfl, .nil, ht⟩
  | cons q ls ih =>
    cases h with
    | cons h1 h2 =>
      obtain ⟨ys, u, rfl, a, b⟩ := ih h2
      exact ⟨_ :: ys, u, rfl, .cons h1 a, b⟩
theorem Tps.at {H : Hp} : ∀ {xs : List V} {ls : List (List Nat)} {i : Nat} {x : V}, Tps H xs ls → xs[i]? = some x → ∃ t l, x = .ref t ∧ ls[i]? = some l ∧ H t = some (.tup (ivs l))
  | _, _, i, _, .nil, e => by simp at e
  | _, _, 0, _, .cons ⟨t, h1, h2⟩ _, e => by
    have e' := Option.some.inj e
    subst e'
    exact ⟨t, _, h1, rfl, h2⟩
  | _, _, i + 1, _, .cons _ q, e => Tps.at (i := i) q e
theorem partsGo_mem (m : Nat) : ∀ (l : List Nat) (s : List (List Nat) × List Nat) (B : Nat), (∀ x ∈ s.1, x.length ≤ B) → s.2.length ≤ B → ∀ x ∈ (l.foldl (stepP m) s).1, x.length ≤ B + l.length
  | [], s, B, h1, _, x, hx => by have := h1 x hx; simpa using this
  | n :: l, s, B, h1, h2, x, hx => by
    have step : (∀ x ∈ (stepP m s n).1, x.length ≤ B + 1) ∧ (stepP m s n).2.length ≤ B + 1 := by
      by_cases c : n = m
      · have e : stepP m s n = (s.1 ++ [s.2], []) := if_pos c
        rw [e]
        refine ⟨fun x hx => ?_, by simp⟩
        rcases List.mem_append.mp hx with hx | hx
        · have := h1 x hx; omega
        · rw [List.mem_singleton.mp hx]; omega
      · have e : stepP m s n = (s.1, s.2 ++ [n]) := if_neg c
        rw [e]
        refine ⟨fun x hx => by have := h1 x hx; omega, by simp; omega⟩
    have := partsGo_mem m l (stepP m s n) (B + 1) step.1 step.2 x hx
    rw [List.length_cons]
    omega
theorem lineKind_zero {R : List Row} {ls : List (List Nat)} (h : lineKind R ls = 0) : ∃ c t m, ls = [c, t, m] ∧ isLine [c, t, m] = true ∧ costly c = false ∧ t.length ≤ 3 ∧ m.length ≤ 3 ∧ t ≠ m ∧ told R t m = false ∧ R.length < 32 := by
  match ls, h with
  | [c, t, m], h =>
    have h' : (if isLine [c, t, m] = false then 1 else if costly c = true ∨ 3 < t.length ∨ 3 < m.length then 2 else if t = m then 3 else if told R t m = true then 4 else if 32 ≤ R.length then 5 else 0) = 0 := h
    by_cases a : isLine [c, t, m] = false
    · rw [if_pos a] at h'; cases h'
    rw [if_neg a] at h'
    by_cases b : costly c = true ∨ 3 < t.length ∨ 3 < m.length
    · rw [if_pos b] at h'; cases h'
    rw [if_neg b] at h'
    by_cases e : t = m
    · rw [if_pos e] at h'; cases h'
    rw [if_neg e] at h'
    by_cases f : told R t m = true
    · rw [if_pos f] at h'; cases h'
    rw [if_neg f] at h'
    by_cases g : 32 ≤ R.length
    · rw [if_pos g] at h'; cases h'
    refine ⟨c, t, m, rfl, by simpa using a, ?_, ?_, ?_, e, by simpa using f, by omega⟩
    · cases q : costly c with
      | false => rfl
      | true => exact absurd (.inl q) b
    · exact Nat.le_of_not_lt fun q => b (.inr (.inl q))
    · exact Nat.le_of_not_lt fun q => b (.inr (.inr q))
  | [], h => cases h
  | [_], h => cases h
  | [_, _], h => cases h
  | _ :: _ :: _ :: _ :: _, h => cases h
theorem ents_snoc {H : Hp} {e : NEnt} {r : Row} : ∀ {xs : List NEnt} {R : List Row}, Paired (EntIs H) xs R → EntIs H e r → Paired (EntIs H) (xs ++ [e]) (R ++ [r])
  | _, _, .nil, h => .cons h .nil
  | _, _, .cons h t, q => .cons h (ents_snoc t q)
section
variable {P : Program} {w : World} {K : PySem.W.Frag} {mg : Str → Option Value} {base : Heap} {C fI : Addr}
def spTable (P : Program) (w : World) (K : PySem.W.Frag) (C : Addr) : Sp := fun vs H Q E => ∃ (a : Addr) (l : List Nat), vs = [.ref a] ∧ Sq K H a (ivs l) ∧ l.length < sizeLine ∧
  (∀ R, tableOf l = .ok R → ∀ (H' : Hp) (d : Addr), Same H H' → H d = none → TblAt P w H' d R → Q (.ref d) H') ∧
  (∀ i k, tableOf l = .error (i, k) → ∀ (H' : Hp) (d : Addr), Same H H' → H' d = none → E (.ref C) (some d) (upd H' d (.xd (fauF (iv i) (iv k)))))
theorem scTable : FnScope ["text", "lines", "remainder", "table", "place", "line", "parts", "kind"] ["text"] (defScope sTable) := ⟨rfl, rfl, rfl, by decide +kernel, rfl, by decide +kernel, by decide +kernel⟩
theorem ok_Table {f : Addr} {fd : FuncData} (F : Fun K "table_of" "table_of" sTable f fd) (T : TC mg) (TF : PySem.FauX.FauTxt K mg C fI) (cP : Cal P w K mg base 1 "parted" (spParted K)) (cK : Cal P w K mg base 3 "kind_of_fault" (spKind P w K)) (cN : Cal P w K mg base 1 "number_of" (spNumberOf K)) :
    FnOk P w K mg base (L2.CX P w) 4 f fd ["text"] (spTable P w K C) := by
  refine F.okX scTable (fun vs H Q E h => ?_) (fun cdv A outer s H vs Q E hr h => ⟨_, pss_cons (ps_set (i := 1) scTable.nd rfl (Or.inl rfl) (pe_c cP hr (by decide) rfl (pa_cons (pv 0) (pa_cons (pe_k rfl T.LINE_FEED) pa_nil))))
      (pss_cons (ps_set (i := 2) scTable.nd rfl (Or.inl rfl) (pe_bm0 PySem.F.plainAttrs_list PySem.F.slot_list_pop PySem.F.type_list_pop mt_pop (pv 1)))
      (pss_cons (ps_set (i := 3) scTable.nd rfl (Or.inl rfl) pe_dnewN)
      (pss_cons (ps_for (passes_of rfl) rfl (pi_enum (by rfl) T.enumerate (pa_cons (pv 1) pa_nil)) (pg_tup rfl (pgs_cons (pg_name (i := 4) scTable.nd rfl (Or.inl rfl)) (pgs_cons (pg_name (i := 5) scTable.nd rfl (Or.inl rfl)) pgs_nil)))
        (pss_cons (ps_set (i := 6) scTable.nd rfl (Or.inl rfl) (pe_c cP hr (by decide) rfl (pa_cons (pv 5) (pa_cons (pe_k rfl T.BLANK) pa_nil))))
        (pss_cons (ps_set (i := 7) scTable.nd rfl (Or.inl rfl) (pe_c cK hr (by decide) rfl (pa_cons (pv 6) (pa_cons (pv 3) pa_nil))))
        (pss_cons (ps_if (pt_cmpR op_ne (pv 7) (pe_k rfl T.NO_FAULT) (nomark _)) (pss_one (ps_raiseFau rfl TF hr (takes_of rfl rfl rfl rfl) (by exact (pa_cons (pv 4) (pa_cons (pv 7) pa_nil))))) pss_nil)
        (pss_one (ps_asg (pe_c cN hr (by decide) rfl (pa_cons (pe_ix ix_list (pv 6) pe_int (fun _ _ => rfl)) pa_nil)) (pg_sub (pv 3) (pe_tup (pa_cons (pe_ix ix_list (pv 6) pe_int (fun _ _ => rfl)) (pa_cons (pe_ix ix_list (pv 6) pe_int (fun _ _ => rfl)) pa_nil))) (set_N hr.units))))))))
      (pss_cons (ps_if (pt_cmpR op_gt (pe_callB call_len_seq (by rfl) T.len PySem.boot_len (pa_cons (pv 2) pa_nil)) pe_int (nomark _))
        (pss_one (ps_raiseFau rfl TF hr (takes_of rfl rfl rfl rfl) (by exact (pa_cons (pe_callB call_len_seq (by rfl) T.len PySem.boot_len (pa_cons (pv 1) pa_nil)) (pa_cons (pe_k rfl T.NO_SUCH_LINE) pa_nil))))) pss_nil)
      (pss_one (ps_ret (pv 3))))))), ?_⟩)
  · obtain ⟨a, l, rfl, _⟩ := h
    rfl
  · obtain ⟨a, l, rfl, hS, hz, kT, kF⟩ := h
    refine ⟨_, rfl, a, l, 10, rfl, hS, hz, fun H1 p xs s1 np hp ht => ?_⟩
    -- remainder = lines.pop()
    have gl := partsGo_len 10 l ([], [])
    obtain ⟨ys, u, rfl, hts, hu⟩ : ∃ ys u, xs = ys ++ [V.ref u] ∧ Tps H1 ys (partsGo 10 l).1 ∧ H1 u = some (.tup (ivs (partsGo 10 l).2)) := Tps.unsnoc ht
    refine ⟨_, rfl, .inl ⟨rfl, _, .inl (.inl hp)⟩, p, _, .ref u, rfl, rfl, hp, ?_, ?_⟩
    · rw [List.length_append, List.length_singleton, Nat.add_sub_cancel, List.getElem?_append_right (Nat.le_refl _), Nat.sub_self]
      rfl
    rw [List.dropLast_concat]
    -- table = {}
    intro d nd
    have dp : d ≠ p := fun e => by rw [e, upd_same] at nd; cases nd
    rw [upd_ne dp] at nd
    have nH : ∀ {b : Addr}, H1 b = none → H b = none := fun {b} h => s1.free h
    have up : p ≠ u := ne_of hp hu (by intro z; cases z)
    have H2p : ∀ {b : Addr} {o : HO}, H1 b = some o → b ≠ p → (upd (upd H1 p (.lst ys)) d (DN P w d [])) b = some o := fun {b o} e hb => by
      rw [upd_ne (ne_of_none e nd), upd_ne hb]; exact e
    have lyn := Tps.len hts
    refine ⟨_, rfl, p, ys, rfl, .inl (.inl (by rw [upd_ne (Ne.symm dp)]; exact upd_same)), for_it walk_enum (fun i σ H' => ∃ (R : List Row) (v4 v5 v6 v7 : Option V), σ = [some (.ref a), some (.ref p), some (.ref u), some (.ref d), v4, v5, v6, v7] ∧
      Same H H' ∧ H' p = some (.lst ys) ∧ Tps H' ys (partsGo 10 l).1 ∧ H' u = some (.tup (ivs (partsGo 10 l).2)) ∧ TblAt P w H' d R ∧ R.length ≤ 32 ∧ readRows R i ((partsGo 10 l).1.drop i) = readRows [] 0 (partsGo 10 l).1) ?_ (fun i σ H' _ ⟨_, _, _, _, _, _, _, q, _⟩ => .inl (.inl q)) ?_ ?_⟩
    · refine ⟨[], none, none, none, none, rfl, fun b o e => H2p (s1 b o e) (ne_of_none e np), by rw [upd_ne (Ne.symm dp)]; exact upd_same, hts.keep fun b xs e => H2p e (ne_of e hp (by intro z; cases z)), H2p hu (Ne.symm up), ⟨[], upd_same, .nil⟩, Nat.zero_le _, rfl⟩
    · rintro i x σ H3 H4 hi ⟨R, v4, v5, v6, v7, rfl, sm, hp3, ht3, hu3, hT3, hR, hrd⟩ ⟨t, x1, x2, rfl, nt, rfl, e1, e2⟩
      cases e1
      obtain ⟨lt, li, rfl, hli, hlt⟩ := Tps.at ht3 e2
      have nt' : H t = none := sm.free nt
      have k4 : ∀ {b : Addr} {o : HO}, H3 b = some o → upd H3 t (.tup [.int (i : Nat), .ref lt]) b = some o := fun {b o} e => by rw [upd_ne (ne_of_none e nt)]; exact e
      have hi' : i < (partsGo 10 l).1.length := (List.getElem?_eq_some_iff.mp hli).1
      have hrow : (partsGo 10 l).1.drop i = li :: (partsGo 10 l).1.drop (i + 1) := by
        rw [List.drop_eq_getElem_cons hi', (List.getElem?_eq_some_iff.mp hli).2]
      rw [hrow] at hrd
      have ll : li.length < sizeLine := by
        have := partsGo_mem 10 l ([], []) 0 (fun _ q => nomatch q) (Nat.le_refl _) li (List.mem_of_getElem? hli)
        omega
      refine ⟨t, _, rfl, .inl (.inl upd_same), rfl, _, _, rfl, _, _, rfl, rfl, ?_⟩
      -- parts = parted(line, BLANK)
      refine ⟨_, rfl, lt, li, 32, rfl, .inr (.inl (.inl (k4 hlt))), ll, fun H5 q qs s5 nq hq hqs => ?_⟩
      have k5 : ∀ {b : Addr} {o : HO}, H3 b = some o → H5 b = some o := fun {b o} e => s5 b o (k4 e)
      obtain ⟨es, hd3, he3⟩ := hT3
      have T5 : TblAt P w H5 d R := ⟨es, k5 hd3, Paired.mapP he3 fun x r ⟨a1, a2, a3⟩ => ⟨a1, a2, a3.keep fun b xs e => k5 e⟩⟩
      -- kind = kind_of_fault(parts, table)
      refine ⟨_, rfl, _, rfl, q, d, qs, partsOf li 32, R, rfl, hq, hqs, T5, fun H6 s6 => ?_⟩
      have k6 : ∀ {b : Addr} {o : HO}, H3 b = some o → H6 b = some o := fun {b o} e => s6 b o (k5 e)
      refine ⟨_, rfl, rfl, _, rfl, ?_⟩
      rw [readRows] at hrd
      by_cases hk : lineKind R (partsOf li 32) = 0
      · rw [if_pos hk] at hrd
        obtain ⟨c, tt, m, e3, hl, hc, ht3', hm3, hne, htold, hR32⟩ := lineKind_zero hk
        rw [e3] at hrd hqs
        refine iteNS (by rw [hk]; rfl) ?_
        obtain ⟨c', t', m', x, y, z, el, rfl, hx, hy, hz⟩ := three hqs (by rw [Tps.len hqs]; rfl)
        cases el
        have dg : c.all isDigit = true := by
          rw [isLine, Bool.and_eq_true, isDec, Bool.and_eq_true] at hl
          exact hl.1.1
        have c5 : c.length ≤ 5 ∧ val c ≤ 65535 := by
          unfold costly at hc
          rw [Bool.or_eq_false_iff, decide_eq_false_iff_not, decide_eq_false_iff_not] at hc
          omega
        have v0 := val_bound dg (by omega)
        have hq6 := s6 _ _ hq
        refine ⟨_, rfl, q, _, 0, _, rfl, rfl, .inl (.inl hq6), atI_nat rfl, x, c, rfl, .inl (.inl (s6 _ _ hx)), dg, by omega, ?_⟩
        refine ⟨_, rfl, _, rfl, q, _, 1, _, rfl, rfl, .inl (.inl hq6), atI_nat rfl, _, rfl, q, _, 2, _, rfl, rfl, .inl (.inl hq6), atI_nat rfl, (by show 2 ≤ sizeLine; decide), fun b nb => ?_⟩
        have k7 : ∀ {g : Addr} {o : HO}, H6 g = some o → upd H6 b (.tup [.ref y, .ref z]) g = some o := fun {g o} e => by rw [upd_ne (ne_of_none e nb)]; exact e
        have pb : PairAt (upd H6 b (.tup [.ref y, .ref z])) b tt m := ⟨y, z, upd_same, k7 (s6 _ _ hy), k7 (s6 _ _ hz)⟩
        have he7 : Paired (EntIs (upd H6 b (.tup [.ref y, .ref z]))) es R := Paired.mapP he3 fun x r ⟨a1, a2, a3⟩ => ⟨a1, a2, a3.keep fun b xs e => k7 (k6 e)⟩
        have hd7 := k7 (k6 hd3)
        have ln := ents_len he7
        refine ⟨b, d, keyOf tt m, es, rfl, rfl, hd7, ents_keys he7, pb.key, keyOf_depth _ _, Nat.lt_of_le_of_lt (by omega : es.length ≤ 32) (by decide), ?_⟩
        have ep : putN es (keyOf tt m) b (.int (val c)) = es ++ [(keyOf tt m, b, .int (val c))] := by
          unfold putN
          rw [ents_has he7, htold, if_neg Bool.false_ne_true]
        rw [ep]
        have k8 : ∀ {g : Addr} {o : HO}, H3 g = some o → g ≠ d → upd (upd H6 b (.tup [.ref y, .ref z])) d (DN P w d (es ++ [(keyOf tt m, b, .int (val c))])) g = some o := fun {g o} e hg => by
          rw [upd_ne hg]
          exact k7 (k6 e)
        have tupd : ∀ {g : Addr} {xs : List V}, upd H6 b (.tup [.ref y, .ref z]) g = some (.tup xs) → upd (upd H6 b (.tup [.ref y, .ref z])) d (DN P w d (es ++ [(keyOf tt m, b, .int (val c))])) g = some (.tup xs) := fun {g xs} e => by
          rw [upd_ne (ne_of e hd7 (by intro z; cases z))]
          exact e
        refine ⟨R ++ [⟨tt, m, (val c).toNat⟩], _, _, _, _, rfl, fun g o e => k8 (sm g o e) (ne_of_none e (nH nd)), k8 hp3 (ne_of hp3 hd3 (by intro z; cases z)), ht3.keep fun g xs e => tupd (k7 (k6 e)), tupd (k7 (k6 hu3)), ⟨_, upd_same, ?_⟩, ?_, hrd⟩
        · refine ents_snoc (Paired.mapP he7 fun x r ⟨a1, a2, a3⟩ => ⟨a1, a2, a3.keep fun b xs e => tupd e⟩) ⟨rfl, ?_, pb.keep fun b xs e => tupd e⟩
          show V.int (val c) = V.int ((val c).toNat : Int)
          rw [Int.toNat_of_nonneg v0.1]
        · rw [List.length_append]
          exact hR32
      · rw [if_neg hk] at hrd
        have e : tableOf l = .error (i, lineKind R (partsOf li 32)) := by
          unfold tableOf
          rw [← hrd]
        have c2 : ¬ iv (lineKind R (partsOf li 32)) = V.int 0 := fun z => hk (by injection z with z; omega)
        rw [decide_eq_false c2]
        exact iteT ⟨_, rfl, _, rfl, _, _, rfl, fun dd ndd => kF _ _ e H6 dd (fun b o e => k6 (sm b o e)) ndd⟩
    · rintro σ H3 ⟨R, v4, v5, v6, v7, rfl, sm, hp3, ht3, hu3, hT3, hR, hrd⟩
      rw [lyn, List.drop_length] at hrd
      have hok : readRows [] 0 (partsGo 10 l).1 = .ok R := hrd.symm
      refine ⟨_, rfl, u, _, rfl, .inr (.inl (.inl hu3)), _, _, rfl, rfl, _, rfl, ite2 (fun c => ?_) (fun c => ?_)⟩
      · have c := of_decide_eq_true c
        rw [List.length_map] at c
        have e : tableOf l = .error ((partsGo 10 l).1.length, 1) := by
          unfold tableOf
          rw [hok]
          exact if_neg (fun z => by rw [z] at c; exact absurd c (by decide))
        refine ⟨_, rfl, p, _, rfl, .inl (.inl (.inl hp3)), _, _, rfl, fun dd ndd => ?_⟩
        have := kF _ _ e H3 dd sm ndd
        rw [← lyn] at this
        exact this
      · have e : tableOf l = .ok R := by
          unfold tableOf
          rw [hok]
          refine if_pos ?_
          cases q : (partsGo 10 l).2 with
          | nil => rfl
          | cons n r =>
            rw [q] at c
            exact absurd (decide_eq_true (by rw [List.length_map, List.length_cons]; omega)) c
        exact ⟨_, rfl, kT R e H3 d sm (nH nd) hT3⟩
end
end Slip
end
/-! ## PWrite -/
section
set_option Elab.async false
set_option linter.all false
set_option maxRecDepth 100000
set_option maxHeartbeats 2000000
namespace L2
theorem Same.new {H H' : Hp} {p : PySem.Addr} {o : HO} (s : Same H H') (h : H' p = none) : Same H (upd H' p o) := fun b u e => by
  rw [upd_ne (ne_of_none (s b u e) h)]
  exact s b u e
theorem keepU {H : Hp} {b p : PySem.Addr} {o u : HO} (e : H b = some o) (h : H p = none) : upd H p u b = some o := by
  rw [upd_ne (ne_of_none e h)]
  exact e
end L2
namespace Slip
open PySem PySem.Spec PyProof.Rows L2
open PySem.W (alike alikeAll dataLe AllAlike Sortable)
abbrev sLineOf : Stmt := top 42
abbrev sTextOf : Stmt := top 41
def digitsOf (n : Nat) : List Nat := (Nat.toDigits 10 n).map Char.toNat
def lineOf (r : Row) : List Nat := digitsOf r.cost ++ [32] ++ r.typed ++ [32] ++ r.meant ++ [10]
section
variable {P : Program} {w : World} {K : PySem.W.Frag} {mg : Str → Option Value} {base : Heap}
theorem digitsOf_str (n : Nat) : (Str.ofString (toString ((n : Nat) : Int))).cps.toList = digitsOf n := PySem.W.KIN.signs_num n
def spLineOf (K : PySem.W.Frag) : Sp := fun vs H Q _ => ∃ (a b : Addr) (r : Row), vs = [.ref a, .ref b, iv r.cost] ∧ H a = some (.tup (ivs r.typed)) ∧ H b = some (.tup (ivs r.meant)) ∧ r.typed.length ≤ 100 ∧ r.meant.length ≤ 100 ∧ r.cost ≤ 65535 ∧
  ∀ (H' : Hp) (p : Addr), Same H H' → H p = none → H' p = some (.lst (ivs (lineOf r))) → Q (.ref p) H'
theorem scLineOf : FnScope ["typed", "meant", "cost", "digits", "sign"] ["typed", "meant", "cost"] (defScope sLineOf) := ⟨rfl, rfl, rfl, by decide +kernel, rfl, by decide +kernel, by decide +kernel⟩
theorem toDigits_len (b : Nat) : ∀ (f n : Nat) (acc : List Char), (Nat.toDigitsCore b f n acc).length ≤ f + acc.length
  | 0, _, acc => by simp [Nat.toDigitsCore]
  | f + 1, n, acc => by
    rw [Nat.toDigitsCore]
    split
    · simp only [List.length_cons]; omega
    · have := toDigits_len b f (n / b) (Nat.digitChar (n % b) :: acc)
      simp only [List.length_cons] at this
      omega
theorem digits_len {n : Nat} (h : n ≤ 65535) : (digitsOf n).length ≤ 65536 := by
  have := toDigits_len 10 (n + 1) n []
  unfold digitsOf Nat.toDigits
  rw [List.length_map]
  simp only [List.length_nil] at this
  omega
theorem line_sz : (100000 : Nat) ≤ sizeLine := by rw [sizeLine_eq]; decide
theorem ok_LineOf {f : Addr} {fd : FuncData} (F : Fun K "line_of" "line_of" sLineOf f fd) (T : TC mg) : FnOk P w K mg base CX0 1 f fd ["typed", "meant", "cost"] (spLineOf K) := by
  refine F.ok scLineOf (fun vs H Q E h => ?_) (fun cdv A outer s H vs Q E hr h => ⟨_, pss_cons (ps_setLc (i := 3) (own := [("sign", 4)]) (g := gName 4) (tt := tYes) rfl scLineOf.nd rfl rfl (sw_true rfl rfl rfl (by decide +kernel)) (pi_str (pe_callTy call_str_int (by rfl) T.str (by decide +kernel) (pa_cons (pv 2) pa_nil)))
        (blkOk_by (N := ["typed", "meant", "cost", "digits", "sign"]) (sc := defScope sLineOf) (by decide +kernel)) (fun _ _ _ _ _ => pg_name (i := 4) scLineOf.nd rfl (Or.inl rfl)) (fun _ _ _ _ _ => pts_nil) (fun _ _ _ _ _ => pe_callB call_ord (by rfl) T.ord (by decide +kernel) (pa_cons (pv 4) pa_nil)))
      (pss_one (ps_ret (pe_op op_cat (pe_op op_cat (pe_op op_cat (pe_op op_cat (pe_op op_cat (pv 3) (pe_lst (pa_cons (pe_k rfl T.BLANK) pa_nil))) (pe_callTy call_list_of (by rfl) T.list (by decide +kernel) (pa_cons (pv 0) pa_nil)))
        (pe_lst (pa_cons (pe_k rfl T.BLANK) pa_nil))) (pe_callTy call_list_of (by rfl) T.list (by decide +kernel) (pa_cons (pv 1) pa_nil))) (pe_lst (pa_cons (pe_k rfl T.LINE_FEED) pa_nil))))), ?_⟩)
  · obtain ⟨a, b, r, rfl, _⟩ := h
    rfl
  · obtain ⟨a, b, r, rfl, ha, hb, la, lb, hc, k⟩ := h
    have ld := digits_len hc
    have ls := line_sz
    have ed := digitsOf_str r.cost
    have lg : (r.cost : Int).natAbs.log2 < 1920 := by
      rw [Int.natAbs_natCast]
      by_cases h0 : r.cost = 0
      · rw [h0]; decide
      · exact Nat.lt_trans ((Nat.log2_lt h0).mpr (Nat.lt_of_le_of_lt hc (by decide : 65535 < 2 ^ 16))) (by decide)
    refine ⟨_, rfl, _, rfl, lg, _, rfl, fun D hD => lc_it walk_str (fun i H' => Same H H' ∧ H' D = some (.lst (ivs ((digitsOf r.cost).take i)))) ⟨Same.new (Same.refl H) hD, upd_same⟩ (fun _ _ _ _ => trivial) ?_ ?_⟩
    · rintro i x H1 H2 hi ⟨sm, hl⟩ ⟨rfl, c, hcx, rfl⟩
      have hc' : (digitsOf r.cost)[i]? = some c := by
        rw [← ed, Array.getElem?_toList]
        exact hcx
      refine ⟨rfl, ?_⟩
      dsimp only [tYes]
      refine iteT ⟨_, rfl, _, rfl, rfl, _, hl, ?_, fun b o e => ?_, ?_⟩
      · rw [List.length_map, List.length_take]
        omega
      · rw [upd_ne (ne_of_none e hD)]
        exact sm b o e
      · rw [upd_same, take_more hc', ivs, ivs, List.map_append]
        rfl
    · rintro H1 ⟨sm, hl⟩
      have sz : (Str.ofString (toString ((r.cost : Nat) : Int))).cps.size = (digitsOf r.cost).length := by rw [← ed, Array.length_toList]
      have hl' : H1 D = some (.lst (ivs (digitsOf r.cost))) := by
        rw [hl]
        have : (digitsOf r.cost).take (Str.ofString (toString ((r.cost : Nat) : Int))).cps.size = digitsOf r.cost := by rw [sz, List.take_length]
        exact congrArg (fun l => some (HO.lst (ivs l))) this
      have dD : H D = none := hD
      have z : ∀ {l m : List Nat}, l.length + m.length ≤ 100000 → (ivs l).length + (ivs m).length ≤ sizeLine := fun {l m} h => by
        rw [List.length_map, List.length_map]
        omega
      have cat : ∀ l m : List Nat, ivs l ++ ivs m = ivs (l ++ m) := fun l m => by rw [ivs, ivs, ivs, List.map_append]
      refine ⟨_, rfl, (by decide : 1 ≤ sizeLine), fun p1 n1 => ⟨D, p1, ivs (digitsOf r.cost), ivs [32], rfl, rfl, keepU hl' n1, upd_same, z (by simp only [List.length_cons, List.length_nil]; omega), fun p2 n2 => ?_⟩⟩
      rw [cat]
      have s2 := Same.new (o := .lst (ivs (digitsOf r.cost ++ [32]))) (Same.new (o := .lst (ivs [32])) sm n1) n2
      refine ⟨_, rfl, a, _, rfl, .inr (.inl (.inl (s2 _ _ ha))), fun p3 n3 => ⟨p2, p3, ivs (digitsOf r.cost ++ [32]), ivs r.typed, rfl, rfl, keepU upd_same n3, upd_same, z (by simp only [List.length_append, List.length_cons, List.length_nil]; omega), fun p4 n4 => ?_⟩⟩
      rw [cat]
      have s4 := Same.new (o := .lst (ivs (digitsOf r.cost ++ [32] ++ r.typed))) (Same.new (o := .lst (ivs r.typed)) s2 n3) n4
      refine ⟨(by decide : 1 ≤ sizeLine), fun p5 n5 => ⟨p4, p5, ivs (digitsOf r.cost ++ [32] ++ r.typed), ivs [32], rfl, rfl, keepU upd_same n5, upd_same, z (by simp only [List.length_append, List.length_cons, List.length_nil]; omega), fun p6 n6 => ?_⟩⟩
      rw [cat]
      have s6 := Same.new (o := .lst (ivs (digitsOf r.cost ++ [32] ++ r.typed ++ [32]))) (Same.new (o := .lst (ivs [32])) s4 n5) n6
      refine ⟨_, rfl, b, _, rfl, .inr (.inl (.inl (s6 _ _ hb))), fun p7 n7 => ⟨p6, p7, ivs (digitsOf r.cost ++ [32] ++ r.typed ++ [32]), ivs r.meant, rfl, rfl, keepU upd_same n7, upd_same, z (by simp only [List.length_append, List.length_cons, List.length_nil]; omega), fun p8 n8 => ?_⟩⟩
      rw [cat]
      have s8 := Same.new (o := .lst (ivs (digitsOf r.cost ++ [32] ++ r.typed ++ [32] ++ r.meant))) (Same.new (o := .lst (ivs r.meant)) s6 n7) n8
      refine ⟨(by decide : 1 ≤ sizeLine), fun p9 n9 => ⟨p8, p9, ivs (digitsOf r.cost ++ [32] ++ r.typed ++ [32] ++ r.meant), ivs [10], rfl, rfl, keepU upd_same n9, upd_same, z (by simp only [List.length_append, List.length_cons, List.length_nil]; omega), fun p n10 => ?_⟩⟩
      rw [cat]
      have s9 := Same.new (o := .lst (ivs [10])) s8 n9
      exact k _ p (Same.new s9 n10) (s9.free n10) upd_same
/-! text_of -/
def datR (r : Row) : PyData := .tuple [dat r.typed, dat r.meant]
def rowLe (r s : Row) : Bool := dataLe false datR r s
def textOf (R : List Row) : List Nat := (R.mergeSort rowLe).flatMap lineOf
def Short (R : List Row) : Prop := ∀ r ∈ R, r.typed.length ≤ 3 ∧ r.meant.length ≤ 3 ∧ r.cost ≤ 65535
def Dist (R : List Row) : Prop := R.Pairwise fun r s => ¬ (r.typed = s.typed ∧ r.meant = s.meant)
theorem ents_get {H : Hp} : ∀ {xs : List NEnt} {R : List Row}, Paired (EntIs H) xs R → Dist R → ∀ r ∈ R, getN xs (keyOf r.typed r.meant) = some (iv r.cost)
  | _, _, .nil, _, r, h => nomatch h
  | x :: xs, q :: R, .cons h t, hd, r, hr => by
    rw [Dist, List.pairwise_cons] at hd
    unfold getN
    by_cases e : x.1 = keyOf r.typed r.meant
    · rw [List.find?_cons, decide_eq_true e]
      have e2 := keyOf_inj.mp (h.1.symm.trans e)
      rcases List.mem_cons.mp hr with e3 | hr
      · subst e3
        exact congrArg some h.2.1
      · exact absurd e2 (hd.1 r hr)
    · rw [List.find?_cons, decide_eq_false e]
      rcases List.mem_cons.mp hr with e3 | hr
      · subst e3
        exact absurd h.1 e
      · exact ents_get t hd.2 r hr
theorem dp_rows {K : PySem.W.Frag} {H : Hp} : ∀ {xs : List NEnt} {R : List Row}, Paired (EntIs H) xs R → DpAll K H (xs.map keyV) (R.map datR)
  | _, _, .nil => .nil
  | _, _, .cons ⟨_, _, p, q, h1, h2, h3⟩ t => .cons (.tup (.inl (.inl h1)) (.cons (dp_dat h2) (.cons (dp_dat h3) .nil))) (dp_rows t)
theorem dat_ints (l : List Nat) : dat l = .tuple ((l.map fun (n : Nat) => (n : Int)).map .int) := by
  rw [List.map_map]
  rfl
theorem alike_dat (l m : List Nat) : alike (dat l) (dat m) = true := by
  rw [dat_ints, dat_ints]
  show alike (.tuple _) (.tuple _) = true
  rw [alike]
  exact PySem.W.alike_ints _ _
theorem alike_row (r s : Row) : alike (datR r) (datR s) = true := by
  show alike (.tuple _) (.tuple _) = true
  rw [alike, alikeAll, alike_dat, alikeAll, alike_dat, alikeAll]
  rfl
theorem depth_row (r : Row) : (datR r).depth ≤ 8 := by
  have h : ∀ l : List Nat, (dat l).depth = 1 := fun l => by
    rw [dat_ints]
    show PyData.depth (.tuple _) = 1
    rw [PyData.depth, PySem.W.depth_ints]
  show PyData.depth (.tuple _) ≤ 8
  rw [PyData.depth, PyData.depthAll, h, PyData.depthAll, h, PyData.depthAll]
  decide
/-- entries and rows together, in the rows' order -/
def sortedZ (xs : List NEnt) (R : List Row) : List (NEnt × Row) := (xs.zip R).mergeSort fun a b => rowLe a.2 b.2
theorem sortedZ_keys {xs : List NEnt} {R : List Row} : (((xs.map keyV).zip (R.map datR)).mergeSort (dataLe false Prod.snd)).map Prod.fst = (sortedZ xs R).map fun z => keyV z.1 := by
  have e : (xs.map keyV).zip (R.map datR) = (xs.zip R).map fun z => (keyV z.1, datR z.2) := by rw [List.zip_map]; rfl
  rw [e, ← PySem.W.sort_maps (r := fun a b => rowLe a.2 b.2) (s := dataLe false Prod.snd) (fun z : NEnt × Row => (keyV z.1, datR z.2)) (fun a _ b _ => rfl), List.map_map]
  rfl
theorem sortedZ_rows {xs : List NEnt} {R : List Row} (h : xs.length = R.length) : (sortedZ xs R).map Prod.snd = R.mergeSort rowLe := by
  unfold sortedZ
  rw [PySem.W.sort_maps (s := rowLe) Prod.snd (fun _ _ _ _ => rfl), List.map_snd_zip (by omega)]
theorem zip_ent {H : Hp} : ∀ {xs : List NEnt} {R : List Row}, Paired (EntIs H) xs R → ∀ z ∈ xs.zip R, EntIs H z.1 z.2 ∧ z.2 ∈ R
  | _, _, .nil, z, h => nomatch h
  | x :: xs, r :: R, .cons h t, z, hz => by
    rw [List.zip_cons_cons] at hz
    rcases List.mem_cons.mp hz with e | hz
    · subst e; exact ⟨h, List.mem_cons_self ..⟩
    · obtain ⟨a, b⟩ := zip_ent t z hz
      exact ⟨a, List.mem_cons_of_mem _ b⟩
theorem textZ_len {R : List Row} (hR : Short R) : ∀ (zs : List (NEnt × Row)), (∀ z ∈ zs, z.2 ∈ R) → (zs.flatMap fun z => lineOf z.2).length ≤ zs.length * 65600
  | [], _ => Nat.le_refl _
  | z :: zs, h => by
    have ih := textZ_len hR zs fun y hy => h y (List.mem_cons_of_mem _ hy)
    obtain ⟨h1, h2, h3⟩ := hR z.2 (h z (List.mem_cons_self ..))
    have h4 := digits_len h3
    rw [List.flatMap_cons, List.length_append, List.length_cons, Nat.add_mul, Nat.one_mul]
    have : (lineOf z.2).length ≤ 65600 := by
      unfold lineOf
      simp only [List.length_append, List.length_cons, List.length_nil]
      omega
    omega
def spTextOf (P : Program) (w : World) (K : PySem.W.Frag) : Sp := fun vs H Q _ => ∃ (d : Addr) (R : List Row), vs = [.ref d] ∧ TblAt P w H d R ∧ Short R ∧ Dist R ∧ R.length ≤ 32 ∧
  ∀ (H' : Hp) (p : Addr), Same H H' → H p = none → H' p = some (.lst (ivs (textOf R))) → Q (.ref p) H'
theorem scTextOf : FnScope ["table", "text", "pair"] ["table"] (defScope sTextOf) := ⟨rfl, rfl, rfl, by decide +kernel, rfl, by decide +kernel, by decide +kernel⟩
theorem ok_TextOf {f : Addr} {fd : FuncData} (F : Fun K "text_of" "text_of" sTextOf f fd) (T : TC mg) (cL : Cal P w K mg base 1 "line_of" (spLineOf K)) : FnOk P w K mg base CX0 2 f fd ["table"] (spTextOf P w K) := by
  refine F.ok scTextOf (fun vs H Q E h => ?_) (fun cdv A outer s H vs Q E hr h => ⟨_, pss_cons (ps_set (i := 1) scTextOf.nd rfl (Or.inl rfl) (pe_lst pa_nil))
      (pss_cons (ps_for PassesOwn.never rfl (pi_list (pe_callB (cr_sortedN rfl hr.units) (by rfl) T.sorted (by decide +kernel) (pa_cons (pv 0) pa_nil))) (pg_name (i := 2) scTextOf.nd rfl (Or.inl rfl))
        (pss_one (ps_expr (pe_bm PySem.F.plainAttrs_list PySem.F.slot_list_extend PySem.F.type_list_extend mt_extend (pv 1) (pa_cons (pe_c cL hr (by decide) rfl
          (pa_cons (pe_ix ix_tup (pv 2) pe_int (fun _ _ => rfl)) (pa_cons (pe_ix ix_tup (pv 2) pe_int (fun _ _ => rfl)) (pa_cons (pe_ix (ix_N hr.units) (pv 0) (pv 2) (fun _ _ => rfl)) pa_nil)))) pa_nil)))))
      (pss_one (ps_ret (pv 1)))), ?_⟩)
  · obtain ⟨d, R, rfl, _⟩ := h
    rfl
  · obtain ⟨d, R, rfl, ⟨xs, hd, he⟩, hsh, hdi, h32, k⟩ := h
    refine ⟨Nat.zero_le _, fun t nt => ?_⟩
    have k1 : ∀ {b : Addr} {o : HO}, H b = some o → upd H t (.lst []) b = some o := fun {b o} e => keepU e nt
    have he1 : Paired (EntIs (upd H t (.lst []))) xs R := Paired.mapP he fun x r ⟨a1, a2, a3⟩ => ⟨a1, a2, a3.keep fun b xs e => k1 e⟩
    refine ⟨_, rfl, d, xs, R.map datR, rfl, .of (k1 hd), dp_rows he1, AllAlike.of alike_row, Sortable.tuples (fun r => ⟨_, _, rfl⟩), fun y hy => ?_, fun p np => ?_⟩
    · obtain ⟨r, _, rfl⟩ := List.mem_map.mp hy
      exact depth_row r
    rw [sortedZ_keys]
    have tp : t ≠ p := fun e => by rw [← e, upd_same] at np; cases np
    have ln := ents_len he
    have lz : (sortedZ xs R).length = R.length := by
      have := congrArg List.length (sortedZ_rows ln)
      rw [List.length_map, List.length_mergeSort] at this
      exact this
    have mem : ∀ z ∈ sortedZ xs R, EntIs H z.1 z.2 ∧ z.2 ∈ R := fun z hz => zip_ent he z (List.mem_mergeSort.mp hz)
    have ls := line_sz
    have big : ∀ i, (((sortedZ xs R).take i).flatMap fun z => lineOf z.2).length ≤ 32 * 65600 := fun i => by
      have a := textZ_len hsh ((sortedZ xs R).take i) fun z hz => (mem z (List.mem_of_mem_take hz)).2
      have b : ((sortedZ xs R).take i).length ≤ 32 := by rw [List.length_take]; exact Nat.le_trans (Nat.min_le_right _ _) (by rw [lz]; exact h32)
      exact Nat.le_trans a (Nat.mul_le_mul_right _ b)
    refine ⟨p, rfl, ⟨_, .inl (.inl upd_same)⟩, for_list (xs := (sortedZ xs R).map fun z => keyV z.1) (fun i σ H' => (∃ v, σ = [some (.ref d), some (.ref t), v]) ∧ Same H H' ∧ H' p = some (.lst ((sortedZ xs R).map fun z => keyV z.1)) ∧
      H' t = some (.lst (ivs (((sortedZ xs R).take i).flatMap fun z => lineOf z.2)))) ⟨⟨_, rfl⟩, Same.new (Same.new (Same.refl H) nt) np, upd_same, keepU upd_same np⟩ (fun i σ H' _ e => .inl (.inl e.2.2.1)) ?_ ?_⟩
    · rintro i y σ H1 hi ⟨⟨v, rfl⟩, sm, hp, ht⟩
      obtain ⟨z, hz, rfl⟩ : ∃ z, (sortedZ xs R)[i]? = some z ∧ y = keyV z.1 := by
        rw [List.getElem?_map] at hi
        cases e : (sortedZ xs R)[i]? with
        | none => rw [e] at hi; cases hi
        | some z => rw [e] at hi; exact ⟨z, rfl, (Option.some.inj hi).symm⟩
      obtain ⟨⟨z1, z2, q1, q2, z3, z4, z5⟩, zR⟩ := mem z (List.mem_of_getElem? hz)
      obtain ⟨s1, s2, s3⟩ := hsh z.2 zR
      have he2 : Paired (EntIs H1) xs R := Paired.mapP he fun x r ⟨a1, a2, a3⟩ => ⟨a1, a2, a3.keep fun b xs e => sm _ _ e⟩
      have kz : NKV H1 (.ref z.1.2.1) (keyOf z.2.typed z.2.meant) := PairAt.key ⟨q1, q2, sm _ _ z3, sm _ _ z4, sm _ _ z5⟩
      refine ⟨_, rfl, .inl ⟨rfl, _, .inl (.inl ht)⟩, ?_⟩
      refine ⟨_, rfl, _, _, 0, _, rfl, rfl, .inl (.inl (sm _ _ z3)), atI_nat rfl, _, rfl, _, _, 1, _, rfl, rfl, .inl (.inl (sm _ _ z3)), atI_nat rfl, ?_⟩
      refine ⟨_, rfl, _, rfl, _, d, keyOf z.2.typed z.2.meant, xs, _, rfl, rfl, .of (sm _ _ hd), ents_keys he2, kz, keyOf_depth _ _, ents_get he2 hdi z.2 zR, ?_⟩
      refine ⟨q1, q2, z.2, rfl, sm _ _ z4, sm _ _ z5, by omega, by omega, s3, fun H2 g s4 ng hg => ?_⟩
      have tg : t ≠ g := ne_of_none ht ng
      have step : ((sortedZ xs R).take (i + 1)).flatMap (fun z => lineOf z.2) = ((sortedZ xs R).take i).flatMap (fun z => lineOf z.2) ++ lineOf z.2 := by
        rw [take_more hz, List.flatMap_append]
        simp
      refine ⟨t, g, _, _, rfl, rfl, s4 _ _ ht, hg, ?_, ?_⟩
      · have b := big (i + 1)
        rw [step, List.length_append] at b
        rw [List.length_map, List.length_map, sizeLine_eq]
        exact Nat.le_trans b (by decide)
      · refine ⟨⟨some (keyV z.1), rfl⟩, fun b o e => ?_, ?_, ?_⟩
        · rw [upd_ne (ne_of_none e nt)]
          exact s4 _ _ (sm _ _ e)
        · rw [upd_ne (Ne.symm tp)]
          exact s4 _ _ hp
        · rw [step, upd_same, ivs, ivs, ivs, List.map_append]
    · rintro σ H1 ⟨⟨v, rfl⟩, sm, hp, ht⟩
      rw [List.length_map, List.take_length] at ht
      refine ⟨_, rfl, k H1 t sm nt ?_⟩
      rw [ht, textOf, ← sortedZ_rows ln, List.flatMap_map]
end
end Slip
end
/-! ## MyD -/
section
set_option Elab.async false
set_option linter.all false
set_option maxRecDepth 100000
set_option maxHeartbeats 2000000
namespace L2
open PySem PySem.Spec PyProof.Rows
open PySem.W (alike dataLe AllAlike Sortable EachIs)
section
variable {X : Cx} {e : Expr} {td : TE} {tg : Expr}
/-- what e gives stays locked from now on -/
def tFrz (td : TE) : TE := fun σ H Q => td σ H fun x H1 => ∃ d u, x = .ref d ∧ H1 d = some u ∧ Mut (some u) ∧ ∀ od, Q x (upd H1 d (.frz od u))
theorem pe_frz (he : PE X e td) : PE X e (tFrz td) := by
  refine ⟨fun pins s σ H Q I h => ?_⟩
  refine thn (he.run pins s σ H _ I h) fun v s1 ⟨x, H1, I1, rx, d, u, ex, hd, mu, q⟩ => ?_
  obtain ⟨od, I2⟩ := I1.lock hd mu
  exact ⟨x, _, I2, rx, q od⟩
/-! for k in d, d's keys tuples of any depth -/
def ItkN (P : Program) (w : World) (d : Addr) (o : Obj) (xs : List NEnt) : It :=
  ⟨fun i H => H d = some (.frz o (DN P w d xs)) ∧ i < xs.length, fun i H x H' => H' = H ∧ ∃ e, xs[i]? = some e ∧ x = .ref e.2.1, fun i H => H d = some (.frz o (DN P w d xs)) ∧ xs.length ≤ i⟩
theorem walk_keysN {P : Program} {w : World} {d : Addr} {o : Obj} {xs : List NEnt} : Walk (ItkN P w d o xs) xs.length (fun H => H d = some (.frz o (DN P w d xs))) (fun i H x H' => H' = H ∧ ∃ e, xs[i]? = some e ∧ x = .ref e.2.1) :=
  ⟨fun _ _ hi q => ⟨q, hi⟩, fun _ q => ⟨q, Nat.le_refl _⟩, fun _ _ _ _ _ _ y => y⟩
theorem frzN {pins : List (Addr × Obj)} {σ : List (Option V)} {H : Hp} {s : Shared} {d : Addr} {o : Obj} {xs : List NEnt} (I : Inv X pins σ H s) (h : H d = some (.frz o (DN X.prog X.w d xs))) :
    (d == sysModules) = false ∧ s.heap.get? d = some o ∧ o.ExactDict ∧ ∃ (es : Array DictEntry) (ep : Nat), o.data = .dict es ep ∧ es.size = xs.length ∧
      ∀ (i : Nat) (x : NEnt), xs[i]? = some x → ∃ en : DictEntry, es[i]? = some en ∧ en.key = .ref x.2.1 := by
  obtain ⟨hd, q, _, _⟩ := I.hok d _ h
  obtain ⟨z, lo, ys, r, o', es, ep, ho, hx, hdt, ht, hn⟩ := q
  rw [hd] at ho
  cases ho
  have ly := entR_len r
  have sz : es.size = ys.length := by rw [← Array.length_toList, ht, List.length_map]
  refine ⟨lo, hd, hx, es, ep, hdt, by omega, fun i x e => ?_⟩
  have hi : i < xs.length := (List.getElem?_eq_some_iff.mp e).1
  have rel : ∀ {xs : List NEnt} {ys : List (NestedKey × Addr × Value)}, Paired EntR xs ys → ∀ (i : Nat) (x : NEnt) (y : NestedKey × Addr × Value), xs[i]? = some x → ys[i]? = some y → x.2.1 = y.2.1 := by
    intro xs ys p
    induction p with
    | nil => intro i x y h _; simp at h
    | cons r _ ih =>
      intro i x y h1 h2
      cases i with
      | zero =>
        simp only [List.getElem?_cons_zero, Option.some.injEq] at h1 h2
        subst h1 h2
        exact r.2.1
      | succ i => exact ih i x y (by simpa using h1) (by simpa using h2)
  have hy : ys[i]? = some ys[i] := List.getElem?_eq_getElem (by omega)
  have k := rel r i x _ e hy
  have e3 : es[i]? = some (entryOfKey (nestedKind X.prog X.w) ys[i]) := by
    rw [← Array.getElem?_toList, ht, List.getElem?_map, hy]
    rfl
  exact ⟨_, e3, by rw [k]; rfl⟩
theorem turn_keysN {P : Program} {w : World} {K : PySem.W.Frag} {d : Addr} {o : Obj} {es : Array DictEntry} {ep : Nat} {xs : List NEnt} (it : Addr) (hod : o.data = .dict es ep) :
    Turn P w K tg (ItkN P w d o xs) [it] it (fun i h => h.IsKeyIter it d i xs.length ep) where
  mem := List.mem_singleton.mpr rfl
  obj := fun i h st b hb => by
    obtain rfl := List.mem_singleton.mp hb
    obtain ⟨oi, z, _, dd⟩ := st
    refine ⟨oi, z, fun v q => ?_⟩
    rw [dd] at q
    cases q
  keep := fun i h h' st k => st.at fun oi z => k it (List.mem_singleton.mpr rfl) oi z
  item := by
    intro X eP ew eK hc i pins s σ H E I hf st hg
    subst eP ew eK
    obtain ⟨f0, f1, f2, f3, f4, f5⟩ := hf it (List.mem_singleton.mpr rfl)
    obtain ⟨hs, hgd, hx, es', ep', hdt, hsz, ent⟩ := frzN I hg.1
    obtain ⟨rfl, rfl⟩ := dict_ep hod hdt
    obtain ⟨en, hen, hkey⟩ := ent i _ (List.getElem?_eq_getElem hg.2)
    refine next_key_item st hgd hdt hsz hen fun h' st' sb => ?_
    have I1 : Inv X pins σ H { s with heap := h' } := I.turned (t' := s.toks) (fun b ob hb z => (sb.2 b hb).trans z) f0 f1 f3 f4 f5
    obtain ⟨oi, z, c, dd⟩ := id st'
    exact ⟨en.key, rfl, go_of (s := { s with heap := h' }) z c dd (by decide) ⟨.ref (xs[i]'hg.2).2.1, H, I1, hkey, ⟨rfl, _, List.getElem?_eq_getElem hg.2, rfl⟩, st', fun b hb => (hf b hb).1⟩⟩
  done := by
    intro X eP ew eK hc i pins s σ H E I hf st hg
    subst eP ew eK
    obtain ⟨f0, f1, f2, f3, f4, f5⟩ := hf it (List.mem_singleton.mpr rfl)
    obtain ⟨hs, hgd, hx, es', ep', hdt, hsz, ent⟩ := frzN I hg.1
    obtain ⟨rfl, rfl⟩ := dict_ep hod hdt
    exact next_key_end (I.ok.hd hc) st hgd hdt hsz hg.2 fun h' eb => ⟨rfl, I.turned (t' := s.toks) (fun b ob hb z => eb b ob hb z) f0 f1 f3 f4 f5⟩
  self := fun A i s Q E st h => wpAny_pyIter_keyiter st h
def iKeysN (P : Program) (w : World) (td : TE) : TI := fun σ H R => td σ H fun x H1 => ∃ d o xs, x = .ref d ∧ H1 d = some (.frz o (DN P w d xs)) ∧ R (ItkN P w d o xs) H1
theorem pi_keysN (he : PE X e td) : PI X tg e (iKeysN X.prog X.w td) := by
  refine ⟨fun pins s σ H R I h => ?_⟩
  refine thn (he.run pins s σ H _ I h) fun u s1 ⟨x, H1, I1, rx, d, o, xs, ex, hd, q⟩ => ?_
  subst ex
  obtain rfl : u = Value.ref d := rx
  obtain ⟨hs, hgd, hx, es, ep, hdt, hsz, _⟩ := frzN I1 hd
  refine iter_keys hs hgd hx hdt (pi_one (tk := s1.toks) I1 _ (turn_keysN _ hdt) ⟨_, Heap.get?_push_size _ rfl, rfl, ?_⟩ q)
  rw [hsz] <;> rfl
/-! d.get(k, x), d's keys tuples of any depth -/
def tDGetN (P : Program) (w : World) (td ty tx : TE) : TE := fun σ H Q => td σ H fun x H1 => ∃ d xs0, x = .ref d ∧ Rd H1 d (DN P w d xs0) ∧ ty σ H1 fun y H2 => tx σ H2 fun z H3 =>
  ∃ (a : Addr) (k : NestedKey) (xs : List NEnt), y = .ref a ∧ Rd H3 d (DN P w d xs) ∧ KeysIn H3 xs ∧ NKV H3 (.ref a) k ∧ k.depth ≤ 8 ∧ Q ((getN xs k).getD z) H3
theorem getN_none {k : NestedKey} : ∀ {xs : List NEnt} {ys : List (NestedKey × Addr × Value)}, Paired EntR xs ys → getN xs k = none → atKey ys k = none
  | _, _, .nil, _ => rfl
  | x :: xs, y :: ys, .cons r t, h => by
    obtain ⟨e, _, rv⟩ := r
    by_cases q : y.1 = k
    · have q' : x.1 = k := e.trans q
      simp [getN, List.find?_cons, q'] at h
    · have q' : ¬ x.1 = k := fun z => q (e ▸ z)
      simp only [getN, List.find?_cons, decide_eq_false q'] at h
      have := getN_none (k := k) t h
      simpa [atKey, List.find?_cons, decide_eq_false q] using this
theorem pe_dgetN {o f : Expr} {apos cpos : Pos} {ty tx : TE} (hu : X.A.units + 64 < cLine) (ho : PE X o td) (he : PE X e ty) (hf : PE X f tx) (m : M2 X o "get" apos e f cpos) : PE X (.Call (.Attribute o "get" apos) [e, f] [] cpos) (tDGetN X.prog X.w td ty tx) := by
  refine ⟨fun pins s σ H Q I h => ?_⟩
  refine wpAny_Call_method m.base m.few m.line PySem.F.plainAttrs_dict PySem.F.slot_dict_get PySem.F.type_dict_get (thn (ho.run pins s σ H _ I h) fun u s1 ⟨x, H1, I1, rx, d, xs0, ex, hd, q1⟩ => ?_)
  subst ex
  obtain rfl : u = Value.ref d := rx
  obtain ⟨z, lo, ys, r, ob, es, ep, hob, hx, _⟩ := dn_phi I1 hd
  refine ⟨⟨ob, hob, hx.1⟩, fun b q => ?_, ?_⟩
  · cases q
    exact ⟨ob, hob, hx.2.1⟩
  rw [m.trees]
  refine Calls.callWith_builtin rfl (Calls.evalArgs_plain (Calls.spliced_cons (thn (he.run pins s1 σ H1 _ I1 q1) fun iv s2 ⟨y, H2, I2, ry, q2⟩ =>
    Calls.spliced_cons (thn (hf.run pins s2 σ H2 _ I2 q2) fun fv s3 ⟨z, H3, I3, rz, a, k, xs, ey, hd3, hk, ha, h8, q3⟩ => Calls.spliced_nil ?_))))
  subst ey
  obtain rfl : iv = Value.ref a := ry
  obtain ⟨ys, r, dd, lo3, z3⟩ := dn_of I3 hd3 hk
  refine call_meetsIn PySem.F.slot_dict_get dd.typeIs PySem.F.entry_dict_get (PySem.F.args_dict_get_3 _ _ _) (meetsH_dict_get_default (nestedKind X.prog X.w) d a lo3 fv) ⟨?_, k, ys, ⟨NKV.is I3 _ _ _ ha rfl, h8⟩, dd, ⟨_, H3, I3.tok _, ?_, q3⟩⟩
  · show X.A.in1.units + 8 < cLine
    simp only [Around.in1_units]
    omega
  · cases e : getN xs k with
    | none =>
      rw [getN_none r e]
      exact rz
    | some v =>
      obtain ⟨p, hp, rp⟩ := entR_get r e
      rw [hp]
      exact rp
/-! min(xs, default=None), whole numbers -/
def rMinNone (K : PySem.W.Frag) : List V → List V → Hp → VK → Prop := fun vs zs H Q => ∃ (a : Addr) (ns : List Int), vs = [.ref a] ∧ zs = [.non] ∧ SqL K H a (ns.map V.int) ∧
  (ns = [] → Q .non H) ∧ ∀ n l, ns = n :: l → Q (.int (l.foldl min n)) H
theorem cr_minNone (hc : X.calm = true) (hu : X.A.units + 64 < cLine) : CallRK X (.builtin "min") [Str.ofString "default"] (rMinNone X.K) := by
  intro pins s σ H vs zs us ws Q I r rz h
  obtain ⟨a, ns, rfl, rfl, hs, q0, q1⟩ := h
  obtain ⟨u0, rfl, hr0⟩ := vals1 r
  obtain rfl : u0 = Value.ref a := hr0
  obtain ⟨w1, rfl, e1⟩ := vals1 rz
  obtain rfl : w1 = Value.none := e1
  obtain ⟨its, rv, hl, hz⟩ := I.list hs
  have dp : ∀ ns : List Int, DpAll X.K H (ns.map V.int) (ns.map PyData.int) := fun ns => by
    induction ns with
    | nil => exact .nil
    | cons n ns ih => exact .cons (.int n) ih
  obtain ⟨as, rd⟩ := Dp.readsAll I _ _ _ (dp ns) rv
  refine PySem.W.min_list_default (vs := its.toArray) (xs := ns.map PyData.int) (I.ok.hd hc) hl.isList rd ⟨fun x hx y hy => ?_, fun x hx => ?_⟩ ?_ (fun e0 h' tk kp => ?_) (fun y ys i v h' tk bs e0 hi hv kp => ?_)
  · obtain ⟨m, _, rfl⟩ := List.mem_map.mp hx
    obtain ⟨n, _, rfl⟩ := List.mem_map.mp hy
    rfl
  · obtain ⟨m, _, rfl⟩ := List.mem_map.mp hx
    intro z; cases z
  · have : PyData.depthAll (ns.map PyData.int) = 0 := PySem.W.depth_ints ns
    omega
  · exact ⟨.non, H, I.kept kp, rfl, q0 (List.map_eq_nil_iff.mp e0)⟩
  · cases ns with
    | nil => cases e0
    | cons n l =>
      rw [List.map_cons] at e0
      injection e0 with e1 e2
      subst e1 e2
      rw [PySem.W.minD_ints] at hv
      cases hv
      exact ⟨.int _, H, I.kept kp, ⟨_, rfl⟩, q1 n l rfl⟩
end
end L2
end
/-! ## MyE -/
section
set_option Elab.async false
set_option linter.all false
set_option maxRecDepth 100000
set_option maxHeartbeats 2000000
namespace L2
open PySem PySem.Spec PyProof.Rows
open PySem.W (alike dataLe AllAlike Sortable EachIs KeepsBut)
mutual
theorem Dp.same {K : PySem.W.Frag} {H H' : Hp} (e : Same H H') : ∀ (d : PyData) (v : V), Dp K H v d → Dp K H' v d
  | .none, _, h => by cases h; exact .non
  | .bool _, _, h => by cases h; exact .bl _
  | .int _, _, h => by cases h; exact .int _
  | .str _, _, h => by cases h; exact .str _
  | .list ds, _, h => by cases h with | lst h1 h2 => exact .lst (e.seq h1) (DpAll.same e ds _ h2)
  | .tuple ds, _, h => by cases h with | tup h1 h2 => exact .tup (e.tup h1) (DpAll.same e ds _ h2)
  | .dict _, _, h => by cases h
theorem DpAll.same {K : PySem.W.Frag} {H H' : Hp} (e : Same H H') : ∀ (ds : List PyData) (vs : List V), DpAll K H vs ds → DpAll K H' vs ds
  | [], _, h => by cases h; exact .nil
  | d :: ds, _, h => by cases h with | cons h1 h2 => exact .cons (Dp.same e d _ h1) (DpAll.same e ds _ h2)
end
theorem upd_data {h : Heap} {a : Addr} {o : Obj} (ho : h.get? a = some o) {f : Obj → Obj} (hf : (f o).data = .freed) : (h.update a f).get? a = none := by
  obtain ⟨objs, l⟩ := h
  have ho' : (Heap.mk objs l).get? a = some o := ho
  unfold Heap.get? at ho'
  unfold Heap.update Heap.get?
  simp only [Array.getElem?_modify, if_true] at *
  cases e : objs[a]? with
  | none => rfl
  | some q =>
    have : q = o := by
      rw [e] at ho'
      split at ho'
      · cases ho'
      · exact Option.some.inj ho'
    subst this
    rw [Option.map_some]
    generalize f q = u at hf
    obtain ⟨c, d, dat, sl⟩ := u
    have : dat = .freed := hf
    subst this
    rfl
/-- sorted(xs, key=f), f a def of the program -/
def rSortedF (K : PySem.W.Frag) (f : Addr) (sp : Sp) : List V → List V → Hp → VK → Prop := fun vs zs H Q => ∃ (a : Addr) (xs : List V) (ds : List PyData), vs = [.ref a] ∧ zs = [.ref f] ∧ SqL K H a xs ∧ xs.length = ds.length ∧ AllAlike ds ∧ Sortable ds ∧ (∀ d ∈ ds, d.depth ≤ 8) ∧
  (∀ (i : Nat) (x : V) (d : PyData), xs[i]? = some x → ds[i]? = some d → ∀ H1, Same H H1 → sp [x] H1 (fun y H2 => Same H1 H2 ∧ Dp K H2 y d) E0) ∧
  ∀ (H' : Hp) (p : Addr), Same H H' → H' p = none → Q (.ref p) (upd H' p (.lst (((xs.zip ds).mergeSort (dataLe false Prod.snd)).map Prod.fst)))
section
variable {X : Cx}
theorem zip_rel {H : Hp} : ∀ {xs : List V} {us : List Value} (ds : List PyData), xs.length = ds.length → Vals xs us → EachIs (fun u (p : V × PyData) => RelV p.1 u) us (xs.zip ds)
  | _, _, [], e, .nil => .nil
  | _, _, [], e, .cons _ _ => by cases e
  | _, _, d :: ds, e, .nil => by cases e
  | _, _, d :: ds, e, .cons r t => .cons r (zip_rel (H := H) ds (by simpa using e) t)
theorem each_len {α β : Type} {R : α → β → Prop} : ∀ {us : List α} {bs : List β}, EachIs R us bs → us.length = bs.length
  | _, _, .nil => rfl
  | _, _, .cons _ t => congrArg (· + 1) (each_len t)
theorem each_end {α β : Type} {R : α → β → Prop} : ∀ {us : List α} {bs : List β} {u : α} {b : β}, EachIs R us bs → R u b → EachIs R (us ++ [u]) (bs ++ [b])
  | _, _, _, _, .nil, r => .cons r .nil
  | _, _, _, _, .cons q t, r => .cons q (each_end t r)
theorem each_imp {α β : Type} {R S : α → β → Prop} (h : ∀ u b, R u b → S u b) : ∀ {us : List α} {bs : List β}, EachIs R us bs → EachIs S us bs
  | _, _, .nil => .nil
  | _, _, .cons r t => .cons (h _ _ r) (each_imp h t)
theorem cr_sortedF {j k : Nat} {f : Addr} {fd : FuncData} {ps : List Str} {sp : Sp} (F : FnOk X.prog X.w X.K X.mg X.base CX0 k f fd ps sp) (hb : Binds X.K fd ps []) (hr : Room j X.A) (hk : k + 2 ≤ j) : CallRK X (.builtin "sorted") [Str.ofString "key"] (rSortedF X.K f sp) := by
  intro pins s σ H vs zs us ws Q I r rz h
  obtain ⟨a, xs, ds, rfl, rfl, hs, hlen, hal, hso, hdep, turn, q⟩ := h
  obtain ⟨u0, rfl, hr0⟩ := vals1 r
  obtain rfl : u0 = Value.ref a := hr0
  obtain ⟨w1, rfl, e1⟩ := vals1 rz
  obtain rfl : w1 = Value.ref f := e1
  obtain ⟨its, rv, hl, hz⟩ := I.list hs
  have li := rv.length
  have room2 : Room k X.A.in1.in1 := ((hr.mono hk : Room (k + 2) X.A).in1 : Room (k + 1) X.A.in1).in1
  refine PySem.W.sorted_of_sort (vs := its) hl.isList (by omega) (ksk_s1 _ _) (fun _ => ksk_l1 _ _) fun E' => ?_
  show wpAny _ _ (Builtin.«list.sort» ⟨[.ref (s.heap.objs.size + 1)], [(Str.ofString "key", .ref f)]⟩) _ _ _
  rw [ksk_t1]
  generalize ha' : s.heap.objs.size + 1 = A'
  have ho : (PySem.W.copyHeap s.heap its).get? A' = some (seqObj "list" its.toArray 0) := by rw [← ha']; exact PySem.W.copyHeap_at _ _
  obtain ⟨ep1, ho1⟩ : ∃ n, ((PySem.W.copyHeap s.heap its).update A' (Obj.mapSeq fun _ => (#[] : Array Value))).get? A' = some (seqObj "list" #[] n) := ⟨_, get?_update_seq ho fun _ => #[]⟩
  unfold ksk_tree
  refine wpAny_bind (listItems_at (s := { s with heap := PySem.W.copyHeap s.heap its }) ho rfl ?_)
  refine wpAny_bind (listUpdate_at (s := { s with heap := PySem.W.copyHeap s.heap its }) ho rfl ?_ (by rw [List.size_toArray]; omega) (Nat.zero_le _))
  refine wpAny_bind (seqEpoch_at ho1 rfl ?_)
  refine wpAny_bind (wpAny_newTuple ?_ (by show its.length ≤ _; omega))
  refine wpAny_bind (wpAny_newList ?_ (Nat.zero_le _))
  refine wpAny_holding ?_
  have old0 : ∀ b o, s.heap.get? b = some o → (PySem.W.sortingHeap (PySem.W.copyHeap s.heap its) A' its).get? b = some o := fun b o e =>
    PySem.W.sortingHeap_old (by rw [← ha']; exact Nat.ne_of_lt (Nat.lt_succ_of_lt (Heap.lt_size e))) (PySem.W.copyHeap_old e)
  have atA : (PySem.W.sortingHeap (PySem.W.copyHeap s.heap its) A' its).get? A' = some (seqObj "list" #[] ep1) := Heap.get?_push_of_some _ (Heap.get?_push_of_some _ ho1)
  have atS : (PySem.W.sortingHeap (PySem.W.copyHeap s.heap its) A' its).get? (((PySem.W.copyHeap s.heap its).update A' (Obj.mapSeq fun _ => (#[] : Array Value))).push (seqObj "tuple" its.toArray 0)).objs.size = some (seqObj "list" #[] 0) := Heap.get?_push_size _ rfl
  have ltA : A' < ((PySem.W.copyHeap s.heap its).update A' (Obj.mapSeq fun _ => (#[] : Array Value))).objs.size := Heap.lt_size ho1
  have leS : s.heap.objs.size ≤ (((PySem.W.copyHeap s.heap its).update A' (Obj.mapSeq fun _ => (#[] : Array Value))).push (seqObj "tuple" its.toArray 0)).objs.size := by
    rw [size_push']; omega
  have neSA : (((PySem.W.copyHeap s.heap its).update A' (Obj.mapSeq fun _ => (#[] : Array Value))).push (seqObj "tuple" its.toArray 0)).objs.size ≠ A' := by
    rw [size_push']; omega
  show wpAny _ _ (ksk_rest A' (.ref f) false its.toArray ep1 (.ref (((PySem.W.copyHeap s.heap its).update A' (Obj.mapSeq fun _ => (#[] : Array Value))).push (seqObj "tuple" its.toArray 0)).objs.size)) _ _ { s with heap := PySem.W.sortingHeap (PySem.W.copyHeap s.heap its) A' its }
  generalize (((PySem.W.copyHeap s.heap its).update A' (Obj.mapSeq fun _ => (#[] : Array Value))).push (seqObj "tuple" its.toArray 0)).objs.size = S' at *
  generalize PySem.W.sortingHeap (PySem.W.copyHeap s.heap its) A' its = g0 at *
  have I0 : Inv X pins σ H { s with heap := g0 } := I.kept (t' := s.toks) old0
  have nA : H A' = none := I.hok.fresh (by omega)
  have nS : H S' = none := I.hok.fresh leS
  have fA : FpOk X pins H A' := I.fpOk (by omega) nA
  have fS : FpOk X pins H S' := I.fpOk leS nS
  clear old0 ho ho1 ltA
  unfold ksk_rest
  refine wpAny_bind (wpAny_rule ?_)
  first
    | rw [List.forIn_toArray]
    | rw [← Array.forIn_toList]
  refine wpAny_bind (ksk_fold (fun i s' => ∃ (Hj : Hp) (kA : Array Value) (n : Nat) (ys : List V), Inv X pins σ Hj s' ∧ Same H Hj ∧ Hj A' = none ∧ Hj S' = none ∧ s'.heap.get? S' = some (seqObj "list" kA n) ∧ s'.heap.get? A' = some (seqObj "list" #[] ep1) ∧
      Vals ys kA.toList ∧ DpAll X.K Hj ys (ds.take i)) its 0 _ ⟨H, #[], 0, [], I0, fun _ _ e => e, nA, nS, atS, atA, .nil, .nil⟩ ?step ?done)
  case step =>
    rintro i u s' hu ⟨Hj, kA, n, ys, Ij, sm, jA, jS, gS, gA, vy, dy⟩
    simp only [Nat.zero_add] at dy ⊢
    have hi : i < its.length := (List.getElem?_eq_some_iff.mp hu).1
    have hx : xs[i]? = some (xs[i]'(by omega)) := List.getElem?_eq_getElem (by omega)
    have hd : ds[i]? = some (ds[i]'(by omega)) := List.getElem?_eq_getElem (by omega)
    generalize xs[i]'(by omega) = x at hx
    generalize ds[i]'(by omega) = d at hd
    have rx : RelV x u := by
      obtain ⟨b, hb1, hb2⟩ := paired_get rv hx
      rw [hu] at hb1
      cases hb1
      exact hb2
    have Ip : Inv X (pins ++ [(S', seqObj "list" kA n), (A', seqObj "list" #[] ep1)]) σ Hj s' := Ij.pins_of fun p hp => by
      rcases List.mem_append.mp hp with hp | hp
      · exact Ij.pin p (List.mem_append_right _ hp)
      · rcases List.mem_cons.mp hp with rfl | hp
        · exact ⟨gS, jS, fS.2.1, fS.2.2.1, fun v z => by cases z⟩
        · obtain rfl := List.mem_singleton.mp hp
          exact ⟨gA, jA, fA.2.1, fA.2.2.1, fun v z => by cases z⟩
    have tn := turn i x d hx hd Hj sm
    have C : wpAny (model X.prog X.w) X.A.in1.in1 (call (.ref f) [u]) (EP X (pins ++ [(S', seqObj "list" kA n), (A', seqObj "list" #[] ep1)]) σ (fun y H2 => Same Hj H2 ∧ Dp X.K H2 y d)) (fun _ _ => False) s' := by
      refine wpAny_call (codeAny_mono (F.run X.A.in1.in1 X.stack s' Hj ⟨[u], []⟩ [u] [x] _ E0 room2 Ip.env0.in1.in1 (hb s' [u] Ip.kIn (F.len _ _ _ _ tn)) (.cons rx .nil) tn) fun r s'' hq => ?_)
      cases r with
      | error e => exact hq
      | ok fl =>
        cases fl with
        | ret u => exact Ip.after hq
        | next => exact hq
        | brk => exact hq
        | cont => exact hq
    refine wpAny_bind (wpAny_attempt (wpAny_mono C (fun v s'' he => ?_) fun _ _ z => z.elim))
    obtain ⟨y, H2, I2, ry, sm2, dp⟩ := he
    have pS := I2.pin (S', seqObj "list" kA n) (List.mem_append_right _ (List.mem_append_right _ (.head _)))
    have pA := I2.pin (A', seqObj "list" #[] ep1) (List.mem_append_right _ (List.mem_append_right _ (.tail _ (.head _))))
    have I2u : Inv X pins σ H2 s'' := I2.unpinned
    have sz : kA.size = i := by
      have l1 : ys.length = kA.toList.length := vy.length
      have l2 : ys.length = (ds.take i).length := dp_len dy
      have l3 : (ds.take i).length = i := by rw [List.length_take]; omega
      have l4 : kA.toList.length = kA.size := Array.length_toList
      omega
    obtain ⟨n2, hn2⟩ : ∃ n2, (s''.heap.update S' (Obj.mapSeq (·.push v))).get? S' = some (seqObj "list" (kA.push v) n2) := ⟨_, get?_update_seq pS.1 (·.push v)⟩
    have but := Heap.SameBut.update s''.heap S' (Obj.mapSeq (·.push v))
    try dsimp only
    refine wpAny_bind (listUpdate_at pS.1 rfl ?_ (by omega) (by rw [Array.size_push]; omega))
    have I3 : Inv X pins σ H2 { s'' with heap := s''.heap.update S' (Obj.mapSeq (·.push v)) } := I2u.turned (t' := s''.toks) (it := S') (fun b o hbS e => (but.2 b hbS).trans e) pS.2.1 fS.2.1 fS.2.2.2.1 fS.2.2.2.2.1 fS.2.2.2.2.2
    refine wpAny_pure ⟨rfl, H2, kA.push v, n2, ys ++ [y], I3, fun b o e => sm2 b o (sm b o e), pA.2.1, pS.2.1, hn2, (but.2 A' neSA.symm).trans pA.1, ?_, ?_⟩
    · rw [Array.toList_push]
      exact vy.append (.cons ry .nil)
    · have e1 : ds.take (i + 1) = ds.take i ++ [d] := by rw [List.take_add_one, hd]; rfl
      rw [e1]
      have ap : ∀ {ys : List V} {es : List PyData}, DpAll X.K H2 ys es → DpAll X.K H2 (ys ++ [y]) (es ++ [d]) := by
        intro ys
        induction ys with
        | nil => intro es h; cases h; exact .cons dp .nil
        | cons z ys ih => intro es h; cases h with | cons h1 h2 => exact .cons h1 (ih h2)
      exact ap (DpAll.same sm2 _ _ dy)
  case done =>
    rintro s' ⟨Hj, kA, n, ys, Ij, sm, jA, jS, gS, gA, vy, dy⟩
    have tk : ds.take (0 + its.length) = ds := List.take_of_length_le (by omega)
    rw [tk] at dy
    have l1 : ys.length = kA.toList.length := vy.length
    have l2 : ys.length = ds.length := dp_len dy
    have l4 : kA.toList.length = kA.size := Array.length_toList
    have sz : kA.size = its.length := by omega
    have rd : EachIs (fun v d => ∃ as, Reads s'.heap v d as) kA.toList ds := by
      have zz := dp_zip dy vy
      have go : ∀ {ys : List V} {us : List Value} {es : List PyData}, DpAll X.K Hj ys es → Vals ys us → EachIs (fun v d => ∃ as, Reads s'.heap v d as) us es := by
        intro ys
        induction ys with
        | nil => intro us es h1 h2; cases h1; cases h2; exact .nil
        | cons y ys ih =>
          intro us es h1 h2
          cases h1 with
          | cons a b =>
            cases h2 with
            | cons c e => exact .cons (Dp.reads Ij _ _ _ a c) (ih b e)
      exact go dy vy
    refine wpAny_bind (listItems_at gS rfl ?_)
    have goneS : (s'.heap.update S' fun _ => { cls := .none, data := .freed }).get? S' = none := upd_data gS rfl
    have elseS : ∀ b, b ≠ S' → (s'.heap.update S' fun _ => { cls := .none, data := .freed }).get? b = s'.heap.get? b := fun b hbS => Heap.get?_update_ne _ _ _ _ hbS
    generalize (s'.heap.update S' fun _ => { cls := .none, data := .freed }) = g1 at goneS elseS
    have kb : KeepsBut A' g1 s'.heap := fun b o hbA e => by
      by_cases z : b = S'
      · rw [z, goneS] at e; cases e
      · rw [elseS b z] at e; exact e
    refine PySem.W.keyH_end (κ := PySem.W.dataKind s'.heap ds) (h₁ := g1) (vs := its) kb goneS gS gA neSA (PySem.W.SortsAt.data rd hal hso fun d hd => ?_) (by rw [sz]) (by omega) fun h' t' c k' hA => ?_
    · have := hdep d hd
      have := room2.un
      omega
    have ko : PySem.W.KeyedOut false ds its (PySem.W.sortVals (PySem.W.dataKind s'.heap ds) false kA.toList its) := ⟨s'.heap, kA.toList, hal, rfl, rd⟩
    have snd : (xs.zip ds).map Prod.snd = ds := List.map_snd_zip (by omega)
    have ko' : PySem.W.KeyedOut false ((xs.zip ds).map Prod.snd) its (PySem.W.sortVals (PySem.W.dataKind s'.heap ds) false kA.toList its) := by rw [snd]; exact ko
    have eo := PySem.W.keyedOut_each Prod.snd ko' (zip_rel (H := H) ds hlen rv)
    generalize PySem.W.sortVals (PySem.W.dataKind s'.heap ds) false kA.toList its = out at *
    have vv : Vals (((xs.zip ds).mergeSort (dataLe false Prod.snd)).map Prod.fst) out := paired_fst (paired_each eo)
    have lo : out.length = xs.length := by
      have := each_len eo
      rw [this, List.length_mergeSort, List.length_zip]
      omega
    have lv := vv.length
    refine ⟨rfl, .ref A', upd Hj A' (.lst (((xs.zip ds).mergeSort (dataLe false Prod.snd)).map Prod.fst)), ?_, rfl, q Hj A' sm jA⟩
    have kept : ∀ b o, b ∉ [S', A'] → s'.heap.get? b = some o → h'.get? b = some o := fun b o hb e => by
      simp only [List.mem_cons, List.not_mem_nil, or_false, not_or] at hb
      exact k' b o hb.2 (by rw [elseS b hb.1]; exact e)
    have neA : ∀ b u, Hj b = some u → b ≠ A' := fun b u e z => by rw [z, jA] at e; cases e
    have neS : ∀ b u, Hj b = some u → b ≠ S' := fun b u e z => by rw [z, jS] at e; cases e
    refine Ij.step (g' := s'.gens) (d' := s'.drawn) (t' := t') (ch := [S', A']) (fun b hb => ?_) (fun b o _ _ hc e _ => kept b o hc e) (fun b o _ _ hc e _ => ⟨o.slots, kept b o hc e⟩) (fun b o hc e hn => ?_) (fun b o hc e => ⟨o, kept b o hc e⟩)
      (fun b x e => by rw [upd_ne (neA _ _ e)]; exact e) (fun b o u e => by rw [upd_ne (neA _ _ e)]; exact e) (fun b ps e => ⟨#[], by rw [upd_ne (neA _ _ e), e]; simp⟩) (fun m hm => ?_) (fun b u e => ?_) Ij.bare
    · rcases List.mem_cons.mp hb with rfl | hb
      · exact ⟨fS.2.2.2.1, fS.2.1, fS.2.2.2.2.1, fS.2.2.2.2.2⟩
      · obtain rfl := List.mem_singleton.mp hb
        exact ⟨fA.2.2.2.1, fA.2.1, fA.2.2.2.2.1, fA.2.2.2.2.2⟩
    · rw [upd_ne fun z => hc (by rw [z]; simp)]
      exact hn
    · obtain ⟨o, es, ep, hob, rest⟩ := hm
      exact ⟨o, es, ep, kept _ o (by simp only [List.mem_cons, List.not_mem_nil, or_false, not_or]; exact ⟨fS.2.1.symm, fA.2.1.symm⟩) hob, rest⟩
    · by_cases z : b = A'
      · subst z
        rw [upd_same] at e
        cases e
        exact ⟨by omega, out, c, vv, hA⟩
      · rw [upd_ne z] at e
        refine (Ij.hok b u e).stay (fun c v hc y => kept c v ?_ y) (fun c y => by rw [upd_ne (neA _ _ y)]; exact y) fun c x y => by rw [upd_ne (neA _ _ y)]; exact y
        simp only [List.mem_cons, List.not_mem_nil, or_false, not_or]
        rcases hc with hc | hc
        · rw [hc]; exact ⟨neS _ _ e, neA _ _ e⟩
        · exact ⟨neS _ _ hc, neA _ _ hc⟩
end
end L2
end
/-! ## MRead -/
section
set_option Elab.async false
set_option linter.all false
set_option maxRecDepth 100000
set_option maxHeartbeats 2000000
namespace Slip
open SyBase SySpell SySlip
/-! ### the text read: the mirror is the specification -/
abbrev nats (b : Bytes) : List Nat := b.map UInt8.toNat
def partsR (m : Nat) : List Nat → List (List Nat)
  | [] => [[]]
  | n :: l => if n = m then [] :: partsR m l else match partsR m l with
    | p :: r => (n :: p) :: r
    | [] => [[n]]
theorem partsR_ne (m : Nat) : ∀ l, ∃ p r, partsR m l = p :: r
  | [] => ⟨_, _, rfl⟩
  | n :: l => by
    obtain ⟨p, r, e⟩ := partsR_ne m l
    unfold partsR
    split
    · exact ⟨_, _, rfl⟩
    · rw [e]; exact ⟨_, _, rfl⟩
/-- cur put ahead of the first part -/
def aheadP (cur : List Nat) : List (List Nat) → List (List Nat)
  | p :: r => (cur ++ p) :: r
  | [] => [cur]
theorem parts_fold (m : Nat) : ∀ (l : List Nat) (s : List (List Nat) × List Nat), (l.foldl (stepP m) s).1 ++ [(l.foldl (stepP m) s).2] = s.1 ++ aheadP s.2 (partsR m l)
  | [], s => by simp [partsR, aheadP]
  | n :: l, s => by
    rw [List.foldl_cons, parts_fold m l (stepP m s n)]
    obtain ⟨p, r, e⟩ := partsR_ne m l
    by_cases c : n = m
    · have e1 : stepP m s n = (s.1 ++ [s.2], []) := if_pos c
      rw [e1, partsR, if_pos c, e]
      simp [aheadP]
    · have e1 : stepP m s n = (s.1, s.2 ++ [n]) := if_neg c
      rw [e1, partsR, if_neg c, e]
      simp [aheadP]
theorem partsOf_eq (l : List Nat) (m : Nat) : partsOf l m = partsR m l := by
  unfold partsOf partsGo
  rw [parts_fold]
  obtain ⟨p, r, e⟩ := partsR_ne m l
  rw [e]
  rfl
theorem pieces_eq : ∀ (b : Bytes), (pieces b).map nats = partsR 32 (nats b)
  | [] => rfl
  | c :: b => by
    have ih := pieces_eq b
    have hp : pieces (c :: b) = (if c = 0x20 then [] :: pieces b else match pieces b with
      | p :: r => (c :: p) :: r
      | [] => [[c]]) := rfl
    rw [hp]
    show _ = partsR 32 (c.toNat :: nats b)
    rw [partsR, ← ih]
    by_cases e : c = 0x20
    · have : c.toNat = 32 := by rw [e]; rfl
      rw [if_pos e, if_pos this]
      rfl
    · have : ¬ c.toNat = 32 := fun z => e (UInt8.toNat_inj.mp z)
      rw [if_neg e, if_neg this]
      cases pieces b with
      | nil => rfl
      | cons p r => rfl
/-! lines -/
theorem go_free {m : Nat} : ∀ {p : List Nat} {s : List (List Nat) × List Nat}, m ∉ p → p.foldl (stepP m) s = (s.1, s.2 ++ p)
  | [], s, _ => by simp
  | n :: p, s, h => by
    have e1 : stepP m s n = (s.1, s.2 ++ [n]) := if_neg fun z => h (by rw [z]; exact List.mem_cons_self ..)
    rw [List.foldl_cons, e1, go_free fun z => h (List.mem_cons_of_mem _ z)]
    simp
theorem go_done (m : Nat) : ∀ (l : List Nat) (ds : List (List Nat)) (cur : List Nat), l.foldl (stepP m) (ds, cur) = (ds ++ (l.foldl (stepP m) ([], cur)).1, (l.foldl (stepP m) ([], cur)).2)
  | [], ds, cur => by simp
  | n :: l, ds, cur => by
    rw [List.foldl_cons, List.foldl_cons]
    by_cases c : n = m
    · have e1 : stepP m (ds, cur) n = (ds ++ [cur], []) := if_pos c
      have e2 : stepP m ([], cur) n = ([] ++ [cur], []) := if_pos c
      rw [e1, e2, go_done m l (ds ++ [cur]) [], go_done m l ([] ++ [cur]) []]
      simp
    · have e1 : stepP m (ds, cur) n = (ds, cur ++ [n]) := if_neg c
      have e2 : stepP m ([], cur) n = ([], cur ++ [n]) := if_neg c
      rw [e1, e2, go_done m l ds (cur ++ [n])]
theorem go_line {m : Nat} {p r : List Nat} (h : m ∉ p) : partsGo m (p ++ m :: r) = (p :: (partsGo m r).1, (partsGo m r).2) := by
  unfold partsGo
  rw [List.foldl_append, go_free h, List.foldl_cons]
  have e1 : stepP m (([] : List (List Nat)), [] ++ p) m = ([] ++ [[] ++ p], []) := if_pos rfl
  show r.foldl (stepP m) (stepP m ([], [] ++ p) m) = _
  rw [e1, go_done]
  simp
theorem go_last {m : Nat} {p : List Nat} (h : m ∉ p) : partsGo m p = ([], p) := by
  unfold partsGo
  rw [go_free h]
  simp
/-! a line -/
theorem letters_eq (b : Bytes) : isLetters (nats b) = isLetters (b.map UInt8.toNat) := rfl
theorem numberOf_eq (b : Bytes) : numberOf b = if isDec (nats b) = true then some (val (nats b)).toNat else none := by
  have ha : (nats b).all isDigit = b.all (fun (c : UInt8) => decide (0x30 ≤ c.toNat) && decide (c.toNat ≤ 0x39)) := by
    rw [nats, List.all_map]
    rfl
  have hh : decide ((nats b).head? ≠ some 48) = decide (b.head? ≠ some 0x30) := by
    cases b with
    | nil => rfl
    | cons c b =>
      show decide (some c.toNat ≠ some 48) = decide (some c ≠ some 0x30)
      refine decide_eq_decide.mpr ⟨fun h z => h ?_, fun h z => h ?_⟩
      · rw [Option.some.inj z]; rfl
      · exact congrArg some (UInt8.toNat_inj.mp (Option.some.inj z))
  have he : (nats b).isEmpty = b.isEmpty := by cases b <;> rfl
  have hi : isDec (nats b) = true ↔ (!b.isEmpty ∧ b.head? ≠ some 0x30 ∧ b.all (fun (c : UInt8) => decide (0x30 ≤ c.toNat) && decide (c.toNat ≤ 0x39)) = true) := by
    rw [isDec, ha, hh, he, Bool.and_eq_true, Bool.and_eq_true, decide_eq_true_eq]
    constructor
    · rintro ⟨h1, h2, h3⟩; exact ⟨h2, h3, h1⟩
    · rintro ⟨h1, h2, h3⟩; exact ⟨h3, h1, h2⟩
  unfold numberOf
  by_cases c : isDec (nats b) = true
  · rw [if_pos (hi.mp c), if_pos c]
    have hd : (nats b).all isDigit = true := by rw [isDec, Bool.and_eq_true] at c; exact c.1
    have v := valGo_nat (nats b) 0 hd
    have v' : val (nats b) = _ := v
    rw [v', Int.toNat_natCast, nats, List.foldl_map]
  · rw [if_neg (fun z => c (hi.mpr z)), if_neg c]
theorem fold_low : ∀ (l : List Nat) (z : Nat), z * 10 ^ l.length ≤ l.foldl (fun n c => 10 * n + (c - 48)) z
  | [], z => by simp
  | n :: l, z => by
    have ih := fold_low l (10 * z + (n - 48))
    rw [List.foldl_cons]
    refine Nat.le_trans ?_ ih
    rw [List.length_cons, Nat.pow_succ, Nat.mul_comm (10 ^ l.length) 10, ← Nat.mul_assoc]
    exact Nat.mul_le_mul_right _ (by omega)
theorem costly_eq {c : List Nat} (h : isDec c = true) : costly c = decide (65535 < (val c).toNat) := by
  rw [isDec, Bool.and_eq_true, Bool.and_eq_true, decide_eq_true_eq] at h
  obtain ⟨hd, h1, h2⟩ := h
  have v : val c = ((c.foldl (fun n c => 10 * n + (c - 48)) 0 : Nat) : Int) := valGo_nat c 0 hd
  unfold costly
  by_cases l : 5 < c.length
  · rw [decide_eq_true l, Bool.true_or]
    refine (decide_eq_true ?_).symm
    match c, h1 with
    | n :: r, _ =>
      have hn : isDigit n = true := List.all_eq_true.mp hd n (List.mem_cons_self ..)
      rw [isDigit, Bool.and_eq_true, decide_eq_true_eq, decide_eq_true_eq] at hn
      have n48 : n ≠ 48 := fun z => h2 (by rw [z]; rfl)
      have low := fold_low r (10 * 0 + (n - 48))
      have pw : 10 ^ 5 ≤ 10 ^ r.length := Nat.pow_le_pow_right (by decide) (by simp only [List.length_cons] at l; omega)
      have m1 : 10 ^ r.length ≤ (10 * 0 + (n - 48)) * 10 ^ r.length := Nat.le_mul_of_pos_left _ (by omega)
      rw [v, Int.toNat_natCast, List.foldl_cons]
      omega
  · rw [decide_eq_false l, Bool.false_or]
    refine decide_eq_decide.mpr ?_
    rw [v]
    omega
/-! the table -/
def slip (r : Row) : Slip := ⟨r.cost, r.typed, r.meant⟩
def slipsOf (R : List Row) : Slips := R.foldl (fun S r => putSlip (slip r) S) []
theorem putSlip_mem {s x : Slip} : ∀ {S : Slips}, x ∈ putSlip s S ↔ x = s ∨ x ∈ S
  | [] => by simp [putSlip]
  | q :: S => by
    unfold putSlip
    split
    · simp
    · rw [List.mem_cons, putSlip_mem, List.mem_cons]
      constructor
      · rintro (h | h | h)
        · exact .inr (.inl h)
        · exact .inl h
        · exact .inr (.inr h)
      · rintro (h | h | h)
        · exact .inr (.inl h)
        · exact .inl h
        · exact .inr (.inr h)
theorem slipsGo_mem {x : Slip} : ∀ (R : List Row) (S : Slips), x ∈ R.foldl (fun S r => putSlip (slip r) S) S ↔ x ∈ S ∨ ∃ r ∈ R, x = slip r
  | [], S => by simp
  | r :: R, S => by
    rw [List.foldl_cons, slipsGo_mem R, putSlip_mem]
    constructor
    · rintro ((h | h) | ⟨q, hq, h⟩)
      · exact .inr ⟨r, List.mem_cons_self .., h⟩
      · exact .inl h
      · exact .inr ⟨q, List.mem_cons_of_mem _ hq, h⟩
    · rintro (h | ⟨q, hq, h⟩)
      · exact .inl (.inr h)
      · rcases List.mem_cons.mp hq with e | hq
        · subst e; exact .inl (.inl h)
        · exact .inr ⟨q, hq, h⟩
theorem slipsOf_mem {x : Slip} {R : List Row} : x ∈ slipsOf R ↔ ∃ r ∈ R, x = slip r := by
  unfold slipsOf
  rw [slipsGo_mem]
  simp
theorem putSlip_len (s : Slip) : ∀ (S : Slips), (putSlip s S).length = S.length + 1
  | [] => rfl
  | q :: S => by
    unfold putSlip
    split
    · rfl
    · rw [List.length_cons, putSlip_len s S, List.length_cons]
theorem slipsOf_len (R : List Row) : (slipsOf R).length = R.length := by
  have h : ∀ (R : List Row) (S : Slips), (R.foldl (fun S r => putSlip (slip r) S) S).length = S.length + R.length := by
    intro R
    induction R with
    | nil => intro S; rfl
    | cons r R ih =>
      intro S
      rw [List.foldl_cons, ih, putSlip_len, List.length_cons]
      omega
  have := h R []
  simp only [List.length_nil, Nat.zero_add] at this
  exact this
theorem told_eq (R : List Row) (t m : List Nat) : (slipsOf R).any (fun (q : Slip) => q.typed == t && q.meant == m) = told R t m := by
  rw [Bool.eq_iff_iff, List.any_eq_true, told, List.any_eq_true]
  constructor
  · rintro ⟨q, hq, h⟩
    obtain ⟨r, hr, rfl⟩ := slipsOf_mem.mp hq
    rw [Bool.and_eq_true, beq_iff_eq, beq_iff_eq] at h
    exact ⟨r, hr, decide_eq_true h⟩
  · rintro ⟨r, hr, h⟩
    refine ⟨slip r, slipsOf_mem.mpr ⟨r, hr, rfl⟩, ?_⟩
    rw [Bool.and_eq_true, beq_iff_eq, beq_iff_eq]
    exact of_decide_eq_true h
theorem slipsOf_snoc (R : List Row) (r : Row) : putSlip (slip r) (slipsOf R) = slipsOf (R ++ [r]) := by
  unfold slipsOf
  rw [List.foldl_append]
  rfl
def outOf (i : Nat) (l : List Nat) : Except (Nat × Nat) (List Row) → Except (Nat × Nat) Slips
  | .error e => .error e
  | .ok R => if (partsGo 10 l).2 = [] then .ok (slipsOf R) else .error (i + (partsGo 10 l).1.length, 1)
theorem readRows_line {R : List Row} {i : Nat} {l : List Nat} {ls : List (List Nat)} : readRows R i (l :: ls) = if lineKind R (partsR 32 l) = 0 then (match partsR 32 l with
      | [c, t, m] => readRows (R ++ [⟨t, m, (val c).toNat⟩]) (i + 1) ls
      | _ => .error (i, 1)) else .error (i, lineKind R (partsR 32 l)) := by
  rw [readRows, partsOf_eq]
  all_goals rfl
theorem slipOf_eq (b : Bytes) : slipOf b = match partsR 32 (nats b) with
    | [c, t, m] => if isLine [c, t, m] = true then some ⟨(val c).toNat, t, m⟩ else none
    | _ => none := by
  rw [← pieces_eq]
  unfold slipOf
  match pieces b with
  | [] => rfl
  | [_] => rfl
  | [_, _] => rfl
  | [c, t, m] =>
    show (if isLetters ((t ++ m).map UInt8.toNat) = true then (numberOf c).map fun (n : Nat) => (⟨n, t.map UInt8.toNat, m.map UInt8.toNat⟩ : Slip) else none) = if isLine [nats c, nats t, nats m] = true then some ⟨(val (nats c)).toNat, nats t, nats m⟩ else none
    have e : isLetters ((t ++ m).map UInt8.toNat) = (isLetters (nats t) && isLetters (nats m)) := by
      unfold isLetters
      rw [List.map_append, List.all_append]
    rw [e, numberOf_eq]
    show _ = if (isDec (nats c) && (isLetters (nats t) && isLetters (nats m))) = true then _ else _
    cases isDec (nats c) <;> cases (isLetters (nats t) && isLetters (nats m)) <;> rfl
  | _ :: _ :: _ :: _ :: _ => rfl
theorem takeWhile_split (b : Bytes) : 10 ∉ nats (b.takeWhile fun (c : UInt8) => c != 0x0A) := by
  intro h
  obtain ⟨c, hc, e⟩ := List.mem_map.mp h
  have h2 : ∀ (b : Bytes), ∀ c ∈ b.takeWhile (fun (c : UInt8) => c != 0x0A), (c != 0x0A) = true := by
    intro b
    induction b with
    | nil => intro c h; exact nomatch h
    | cons x b ih =>
      intro c h
      rw [List.takeWhile_cons] at h
      split at h
      · rcases List.mem_cons.mp h with e | h
        · subst e; assumption
        · exact ih c h
      · exact nomatch h
  have q := h2 b c hc
  have : c = 0x0A := UInt8.toNat_inj.mp e
  rw [this] at q
  exact absurd q (by decide)
theorem drop_first : ∀ (b : Bytes) (c : UInt8) (r : Bytes), b.drop (b.takeWhile fun (c : UInt8) => c != 0x0A).length = c :: r → c = 0x0A ∧ b = (b.takeWhile fun (c : UInt8) => c != 0x0A) ++ 0x0A :: r
  | [], c, r, h => by simp at h
  | x :: b, c, r, h => by
    by_cases q : (x != 0x0A) = true
    · rw [List.takeWhile_cons, if_pos q] at h ⊢
      rw [List.length_cons, List.drop_succ_cons] at h
      obtain ⟨e1, e2⟩ := drop_first b c r h
      refine ⟨e1, ?_⟩
      rw [List.cons_append]
      exact congrArg _ e2
    · rw [List.takeWhile_cons, if_neg q] at h ⊢
      have e : x = 0x0A := by simpa using q
      simp only [List.length_nil, List.drop_zero] at h
      cases h
      exact ⟨e, by rw [e]; rfl⟩
theorem drop_none {b : Bytes} (h : b.drop (b.takeWhile fun (c : UInt8) => c != 0x0A).length = []) : 10 ∉ nats b := by
  have e : b.takeWhile (fun (c : UInt8) => c != 0x0A) = b := by
    have h1 := List.drop_eq_nil_iff.mp h
    have h2 : b.takeWhile (fun (c : UInt8) => c != 0x0A) <+: b := List.takeWhile_prefix _
    exact h2.eq_of_length_le h1
  have := takeWhile_split b
  rw [e] at this
  exact this
theorem readFrom_eq : ∀ (n : Nat) (b : Bytes) (R : List Row), b.length ≤ n → readSlipsFrom n R.length b (slipsOf R) = outOf R.length (nats b) (readRows R R.length (partsGo 10 (nats b)).1)
  | n, [], R, _ => by
    have e : partsGo 10 (nats []) = ([], []) := rfl
    unfold readSlipsFrom
    rw [e]
    show _ = if (partsGo 10 (nats [])).2 = [] then Except.ok (slipsOf R) else Except.error (R.length + (partsGo 10 (nats [])).1.length, 1)
    rw [e, if_pos rfl]
  | 0, _ :: _, R, h => by simp at h
  | n + 1, x :: b', R, h => by
    generalize hb : x :: b' = b at h
    have hne : b ≠ [] := by rw [← hb]; exact List.cons_ne_nil _ _
    have eq : readSlipsFrom (n + 1) R.length b (slipsOf R) = match b.drop (b.takeWhile fun (c : UInt8) => c != 0x0A).length, slipOf (b.takeWhile fun (c : UInt8) => c != 0x0A) with
      | _ :: r, some x => if x.short = false then .error (R.length, 2) else if x.typed = x.meant then .error (R.length, 3) else if (slipsOf R).any (fun (q : Slip) => q.typed == x.typed && q.meant == x.meant) = true then .error (R.length, 4) else if SLIPS ≤ R.length then .error (R.length, 5) else readSlipsFrom n (R.length + 1) r (putSlip x (slipsOf R))
      | _, _ => .error (R.length, 1) := by
      subst hb
      rfl
    rw [eq]
    match hd : b.drop (b.takeWhile fun (c : UInt8) => c != 0x0A).length with
    | [] =>
      have e := go_last (drop_none hd)
      have hn : nats b ≠ [] := fun z => hne (List.map_eq_nil_iff.mp z)
      rw [e]
      show _ = if (partsGo 10 (nats b)).2 = [] then Except.ok (slipsOf R) else Except.error (R.length + (partsGo 10 (nats b)).1.length, 1)
      rw [e, if_neg hn]
      rfl
    | c :: r =>
      obtain ⟨_, split⟩ := drop_first b c r hd
      generalize hl : (b.takeWhile fun (c : UInt8) => c != 0x0A) = l at split ⊢
      have free : 10 ∉ nats l := by rw [← hl]; exact takeWhile_split b
      have en : nats b = nats l ++ 10 :: nats r := by rw [split, nats, List.map_append]; rfl
      have e := go_line (r := nats r) free
      have lr : r.length ≤ n := by
        have := congrArg List.length split
        simp only [List.length_append, List.length_cons] at this
        omega
      have ih := readFrom_eq n r (R ++ [⟨[], [], 0⟩]) lr
      rw [en, e]
      show _ = outOf _ _ (readRows R R.length (nats l :: (partsGo 10 (nats r)).1))
      rw [readRows_line, slipOf_eq]
      have out : ∀ k, outOf R.length (nats l ++ 10 :: nats r) (.error (R.length, k)) = .error (R.length, k) := fun k => rfl
      match hp : partsR 32 (nats l) with
      | [] => rfl
      | [_] => rfl
      | [_, _] => rfl
      | _ :: _ :: _ :: _ :: _ => rfl
      | [c, t, m] =>
        by_cases il : isLine [c, t, m] = true
        · have hdec : isDec c = true := by rw [isLine, Bool.and_eq_true] at il; exact il.1
          have ek : lineKind R [c, t, m] = if costly c = true ∨ 3 < t.length ∨ 3 < m.length then 2 else if t = m then 3 else if told R t m = true then 4 else if 32 ≤ R.length then 5 else 0 := by
            show (if isLine [c, t, m] = false then 1 else _) = _
            rw [il, if_neg (by decide)]
          simp only [if_pos il]
          have es : (Slip.short ⟨(val c).toNat, t, m⟩ = false) ↔ (costly c = true ∨ 3 < t.length ∨ 3 < m.length) := by
            rw [costly_eq hdec]
            unfold Slip.short DEAR WIDE
            simp only [Bool.and_eq_false_iff, decide_eq_false_iff_not, decide_eq_true_eq]
            omega
          rw [ek]
          by_cases c2 : costly c = true ∨ 3 < t.length ∨ 3 < m.length
          · simp only [if_pos c2, if_pos (es.mpr c2)]
            rfl
          · simp only [if_neg c2, if_neg (fun z => c2 (es.mp z))]
            by_cases c3 : t = m
            · simp only [if_pos c3]
              rfl
            · simp only [if_neg c3, told_eq]
              by_cases c4 : told R t m = true
              · simp only [if_pos c4]
                rfl
              · simp only [if_neg c4]
                by_cases c5 : 32 ≤ R.length
                · have c5' : SLIPS ≤ R.length := c5
                  simp only [if_pos c5, if_pos c5']
                  rfl
                · have c5' : ¬ SLIPS ≤ R.length := c5
                  simp only [if_neg c5, if_neg c5', if_true]
                  have ih := readFrom_eq n r (R ++ [⟨t, m, (val c).toNat⟩]) lr
                  rw [List.length_append, List.length_singleton] at ih
                  have es2 : putSlip ⟨(val c).toNat, t, m⟩ (slipsOf R) = slipsOf (R ++ [⟨t, m, (val c).toNat⟩]) := slipsOf_snoc R ⟨t, m, (val c).toNat⟩
                  rw [es2, ih]
                  have eo : ∀ x, outOf (R.length + 1) (nats r) x = outOf R.length (nats l ++ 10 :: nats r) x := fun x => by
                    cases x with
                    | error e => rfl
                    | ok Q =>
                      unfold outOf
                      rw [e]
                      show (if (partsGo 10 (nats r)).2 = [] then _ else _) = (if (partsGo 10 (nats r)).2 = [] then _ else _)
                      rw [List.length_cons, Nat.add_right_comm, Nat.add_assoc]
                  rw [eo]
        · have il' : isLine [c, t, m] = false := by simpa using il
          have ek : lineKind R [c, t, m] = 1 := if_pos il'
          simp only [if_neg il, ek]
          rfl
end Slip
end
/-! ## MCost -/
section
namespace SM
open SyBase SySpell SySlip

/-- cut alike, with n slips at most, for c -/
inductive Cut (S : Slips) : Nat → Text → Text → Nat → Prop
  | nil {n : Nat} : Cut S n [] [] 0
  | same {n : Nat} {x : Nat} {t m : Text} {c : Nat} : Cut S n t m c → Cut S n (x :: t) (x :: m) c
  | slip {n : Nat} {s : Slip} {t m : Text} {c : Nat} : s ∈ S → Cut S n t m c → Cut S (n + 1) (s.typed ++ t) (s.meant ++ m) (s.cost + c)

theorem Cut.more {S : Slips} {n : Nat} {t m : Text} {c : Nat} (h : Cut S n t m c) : ∀ {k : Nat}, n ≤ k → Cut S k t m c := by
  induction h with
  | nil => intro k _; exact .nil
  | same _ ih => intro k hk; exact .same (ih hk)
  | slip hs _ ih =>
    intro k hk
    match k, hk with
    | k + 1, hk => exact .slip hs (ih (by omega))

theorem cut_iff {S : Slips} {n : Nat} {t m : Text} {c : Nat} : Cut S n t m c ↔
    ((t = [] ∧ m = [] ∧ c = 0) ∨ ∃ x t' m', t = x :: t' ∧ m = x :: m' ∧ Cut S n t' m' c) ∨
    ∃ k s t' m' c', n = k + 1 ∧ s ∈ S ∧ t = s.typed ++ t' ∧ m = s.meant ++ m' ∧ c = s.cost + c' ∧ Cut S k t' m' c' := by
  constructor
  · intro h
    cases h with
    | nil => exact .inl (.inl ⟨rfl, rfl, rfl⟩)
    | same h => exact .inl (.inr ⟨_, _, _, rfl, rfl, h⟩)
    | slip hs h => exact .inr ⟨_, _, _, _, _, rfl, hs, rfl, rfl, rfl, h⟩
  · rintro ((⟨rfl, rfl, rfl⟩ | ⟨x, t', m', rfl, rfl, h⟩) | ⟨k, s, t', m', c', rfl, hs, rfl, rfl, rfl, h⟩)
    · exact .nil
    · exact .same h
    · exact .slip hs h

/-- o is the least of which P holds -/
def IsLeast (P : Nat → Prop) : Option Nat → Prop
  | none => ∀ c, ¬ P c
  | some c => P c ∧ ∀ c', P c' → c ≤ c'

theorem IsLeast.congr {P Q : Nat → Prop} (e : ∀ c, P c ↔ Q c) {o : Option Nat} (h : IsLeast P o) : IsLeast Q o := by
  cases o with
  | none => exact fun c q => h c ((e c).mpr q)
  | some c => exact ⟨(e c).mp h.1, fun c' q => h.2 c' ((e c').mpr q)⟩
theorem IsLeast.unique {P : Nat → Prop} {o o' : Option Nat} (h : IsLeast P o) (h' : IsLeast P o') : o = o' := by
  cases o with
  | none => cases o' with
    | none => rfl
    | some c => exact absurd h'.1 (h c)
  | some c => cases o' with
    | none => exact absurd h.1 (h' c)
    | some c' =>
      have a := h.2 c' h'.1
      have b := h'.2 c h.1
      rw [Nat.le_antisymm a b]
theorem IsLeast.lesser {P Q : Nat → Prop} {a b : Option Nat} (h : IsLeast P a) (h' : IsLeast Q b) : IsLeast (fun c => P c ∨ Q c) (lesser a b) := by
  cases a with
  | none => cases b with
    | none => exact fun c q => q.elim (h c) (h' c)
    | some y => exact ⟨.inr h'.1, fun c q => q.elim (fun q => absurd q (h c)) (h'.2 c)⟩
  | some x => cases b with
    | none => exact ⟨.inl h.1, fun c q => q.elim (h.2 c) (fun q => absurd q (h' c))⟩
    | some y =>
      refine ⟨?_, fun c q => ?_⟩
      · rcases Nat.le_total x y with e | e
        · rw [Nat.min_eq_left e]; exact .inl h.1
        · rw [Nat.min_eq_right e]; exact .inr h'.1
      · rcases q with q | q
        · exact Nat.le_trans (Nat.min_le_left _ _) (h.2 c q)
        · exact Nat.le_trans (Nat.min_le_right _ _) (h'.2 c q)
theorem IsLeast.plus {P : Nat → Prop} {o : Option Nat} (k : Nat) (h : IsLeast P o) : IsLeast (fun c => ∃ c', c = k + c' ∧ P c') (o.map fun c => k + c) := by
  cases o with
  | none => rintro c ⟨c', _, q⟩; exact h c' q
  | some x =>
    refine ⟨⟨x, rfl, h.1⟩, ?_⟩
    rintro c ⟨c', rfl, q⟩
    exact Nat.add_le_add_left (h.2 c' q) k
theorem IsLeast.fold {α : Type} {Q : α → Nat → Prop} {g : α → Option Nat} : ∀ (l : List α) {P : Nat → Prop} {a : Option Nat}, IsLeast P a → (∀ s ∈ l, IsLeast (Q s) (g s)) →
    IsLeast (fun c => P c ∨ ∃ s, s ∈ l ∧ Q s c) (l.foldl (fun a s => SySlip.lesser a (g s)) a)
  | [], P, a, h, _ => h.congr fun c => ⟨.inl, fun q => q.elim id fun ⟨_, q, _⟩ => nomatch q⟩
  | x :: l, P, a, h, k => by
    have ih := IsLeast.fold l (h.lesser (k x (.head _))) fun s m => k s (.tail _ m)
    refine ih.congr fun c => ⟨?_, ?_⟩
    · rintro ((q | q) | ⟨s, m, q⟩)
      · exact .inl q
      · exact .inr ⟨x, .head _, q⟩
      · exact .inr ⟨s, .tail _ m, q⟩
    · rintro (q | ⟨s, m, q⟩)
      · exact .inl (.inl q)
      · cases m with
        | head => exact .inl (.inr q)
        | tail _ m => exact .inr ⟨s, m, q⟩

theorem prefix_drop {a t : Text} (h : a.isPrefixOf t = true) : t = a ++ t.drop a.length := by
  obtain ⟨r, rfl⟩ := List.isPrefixOf_iff_prefix.mp h
  simp
theorem prefix_app (a t : Text) : a.isPrefixOf (a ++ t) = true := List.isPrefixOf_iff_prefix.mpr ⟨t, rfl⟩

def sameC (S : Slips) (f n : Nat) : Text → Text → Option Nat
  | [], [] => some 0
  | x :: r, y :: s => if x = y then costCut S f n r s else none
  | [], _ :: _ => none
  | _ :: _, [] => none
theorem costCut_zero (S : Slips) (f : Nat) (t m : Text) : costCut S (f + 1) 0 t m = sameC S f 0 t m := by
  cases t <;> cases m <;> rfl
theorem costCut_succ (S : Slips) (f k : Nat) (t m : Text) : costCut S (f + 1) (k + 1) t m =
    (S.filter fun (s : Slip) => s.typed.isPrefixOf t && s.meant.isPrefixOf m).foldl (fun (a : Option Nat) (s : Slip) => lesser a ((costCut S f k (t.drop s.typed.length) (m.drop s.meant.length)).map fun (c : Nat) => s.cost + c)) (sameC S f (k + 1) t m) := by
  cases t <;> cases m <;> rfl

theorem costCut_least (S : Slips) : ∀ (f n : Nat) (t m : Text), t.length + m.length + n < f → IsLeast (Cut S n t m) (costCut S f n t m)
  | 0, n, t, m, h => absurd h (Nat.not_lt_zero _)
  | f + 1, n, t, m, h => by
    have same : IsLeast (fun c => (t = [] ∧ m = [] ∧ c = 0) ∨ ∃ x t' m', t = x :: t' ∧ m = x :: m' ∧ Cut S n t' m' c) (sameC S f n t m) := by
      match t, m, h with
      | [], [], _ => exact ⟨.inl ⟨rfl, rfl, rfl⟩, fun c q => Nat.zero_le _⟩
      | x :: r, y :: s, h =>
        show IsLeast _ (if x = y then costCut S f n r s else none)
        by_cases e : x = y
        · subst e
          rw [if_pos rfl]
          refine (costCut_least S f n r s (by simp at h; omega)).congr fun c => ⟨fun q => .inr ⟨x, r, s, rfl, rfl, q⟩, ?_⟩
          rintro (⟨q, _⟩ | ⟨x', t', m', q1, q2, q⟩)
          · exact nomatch q
          · cases q1; cases q2; exact q
        · rw [if_neg e]
          rintro c (⟨q, _⟩ | ⟨x', t', m', q1, q2, q⟩)
          · exact nomatch q
          · cases q1; cases q2; exact e rfl
      | [], y :: s, _ =>
        rintro c (⟨_, q, _⟩ | ⟨x', t', m', q1, q2, q⟩)
        · exact nomatch q
        · exact nomatch q1
      | x :: r, [], _ =>
        rintro c (⟨q, _⟩ | ⟨x', t', m', q1, q2, q⟩)
        · exact nomatch q
        · exact nomatch q2
    match n, h, same with
    | 0, h, same =>
      rw [costCut_zero]
      refine same.congr fun c => ?_
      rw [cut_iff (n := 0)]
      refine ⟨.inl, ?_⟩
      rintro (q | ⟨k, s, t', m', c', q, _⟩)
      · exact q
      · exact nomatch q
    | k + 1, h, same =>
      rw [costCut_succ]
      refine (IsLeast.fold (Q := fun (s : Slip) c => ∃ c', c = s.cost + c' ∧ Cut S k (t.drop s.typed.length) (m.drop s.meant.length) c') _ same fun s hs => ?_).congr fun c => ?_
      · refine (costCut_least S f k _ _ ?_).plus s.cost
        simp only [List.length_drop]
        omega
      · rw [cut_iff (n := k + 1)]
        refine or_congr Iff.rfl ⟨?_, ?_⟩
        · rintro ⟨s, hs, c', rfl, q⟩
          rw [List.mem_filter, Bool.and_eq_true] at hs
          exact ⟨k, s, _, _, c', rfl, hs.1, prefix_drop hs.2.1, prefix_drop hs.2.2, rfl, q⟩
        · rintro ⟨k', s, t', m', c', e, hs, rfl, rfl, rfl, q⟩
          cases e
          refine ⟨s, ?_, c', rfl, ?_⟩
          · rw [List.mem_filter, Bool.and_eq_true]
            exact ⟨hs, prefix_app _ _, prefix_app _ _⟩
          · simpa using q

theorem costBy_least (S : Slips) (t m : Text) : IsLeast (Cut S USED t m) (costBy S t m) :=
  costCut_least S _ _ _ _ (Nat.lt_succ_self _)
end SM
end
/-! ## MOrd -/
section
namespace SM
open SyBase SySpell SySlip

theorem before_irrefl : ∀ a : Text, before a a = false
  | [] => rfl
  | x :: r => by simp [before, before_irrefl r]
theorem before_trans : ∀ {a b c : Text}, before a b = true → before b c = true → before a c = true
  | [], _, [], h, k => by
    rename_i b
    cases b <;> simp [before] at *
  | [], _, _ :: _, _, _ => by simp [before]
  | x :: r, [], _, h, _ => by simp [before] at h
  | x :: r, y :: s, [], _, k => by simp [before] at k
  | x :: r, y :: s, z :: q, h, k => by
    simp only [before, Bool.or_eq_true, Bool.and_eq_true, decide_eq_true_eq, beq_iff_eq] at *
    rcases h with h | ⟨rfl, h⟩
    · rcases k with k | ⟨rfl, k⟩
      · exact .inl (by omega)
      · exact .inl h
    · rcases k with k | ⟨rfl, k⟩
      · exact .inl k
      · exact .inr ⟨rfl, before_trans h k⟩
theorem before_total : ∀ (a b : Text), before a b = true ∨ a = b ∨ before b a = true
  | [], [] => .inr (.inl rfl)
  | [], _ :: _ => .inl rfl
  | _ :: _, [] => .inr (.inr rfl)
  | x :: r, y :: s => by
    simp only [before, Bool.or_eq_true, Bool.and_eq_true, decide_eq_true_eq, beq_iff_eq]
    rcases Nat.lt_trichotomy x y with h | rfl | h
    · exact .inl (.inl h)
    · rcases before_total r s with h | rfl | h
      · exact .inl (.inr ⟨rfl, h⟩)
      · exact .inr (.inl rfl)
      · exact .inr (.inr (.inr ⟨rfl, h⟩))
    · exact .inr (.inr (.inl h))
theorem before_app (p a b : Text) : before (p ++ a) (p ++ b) = before a b := by
  induction p with
  | nil => rfl
  | cons x p ih => simp [before, ih]

theorem comes_iff {x y : Meaning} : comes x y = true ↔ x.2 < y.2 ∨ (x.2 = y.2 ∧ before x.1 y.1 = true) := by
  simp [comes]
theorem comes_irrefl (x : Meaning) : comes x x = false := by
  simp [comes, before_irrefl]
theorem comes_trans {x y z : Meaning} (h : comes x y = true) (k : comes y z = true) : comes x z = true := by
  rw [comes_iff] at *
  rcases h with h | ⟨e, h⟩
  · rcases k with k | ⟨e', k⟩ <;> exact .inl (by omega)
  · rcases k with k | ⟨e', k⟩
    · exact .inl (by omega)
    · exact .inr ⟨e.trans e', before_trans h k⟩
theorem comes_asymm {x y : Meaning} (h : comes x y = true) : comes y x = false := by
  cases e : comes y x with
  | false => rfl
  | true =>
    have := comes_trans h e
    rw [comes_irrefl] at this
    exact nomatch this
theorem comes_total (x y : Meaning) : comes x y = true ∨ x = y ∨ comes y x = true := by
  rw [comes_iff, comes_iff]
  rcases Nat.lt_trichotomy x.2 y.2 with h | h | h
  · exact .inl (.inl h)
  · rcases before_total x.1 y.1 with k | k | k
    · exact .inl (.inr ⟨h, k⟩)
    · exact .inr (.inl (Prod.ext k h))
    · exact .inr (.inr (.inr ⟨h.symm, k⟩))
  · exact .inr (.inr (.inl h))
/-- of two with one row the cheaper comes first -/
theorem comes_cost {m : Text} {c d : Nat} : comes (m, c) (m, d) = true ↔ c < d := by
  rw [comes_iff]; simp [before_irrefl]
theorem comes_le {x : Meaning} {m : Text} {c d : Nat} (h : comes x (m, c) = true) (k : c ≤ d) : comes x (m, d) = true := by
  rcases Nat.lt_or_ge c d with e | e
  · exact comes_trans h (comes_cost.mpr e)
  · have : c = d := Nat.le_antisymm k e
    subst this; exact h
/-- put ahead, and dearer -/
def ahead (p : Text) (k : Nat) (y : Meaning) : Meaning := (p ++ y.1, k + y.2)
theorem comes_ahead (p : Text) (k : Nat) (x y : Meaning) : comes (ahead p k x) (ahead p k y) = comes x y := by
  rw [Bool.eq_iff_iff, comes_iff, comes_iff]
  simp only [ahead, before_app]
  constructor <;> rintro (h | ⟨e, h⟩)
  · exact .inl (by omega)
  · exact .inr ⟨by omega, h⟩
  · exact .inl (by omega)
  · exact .inr ⟨by omega, h⟩

/-- the first 64 of what P says, each row at its least, in order -/
structure First (P : Text → Nat → Prop) (L : List Meaning) : Prop where
  ord : L.Pairwise fun x y => comes x y = true
  once : (L.map (·.1)).Nodup
  few : L.length ≤ KEPT
  least : ∀ x ∈ L, P x.1 x.2 ∧ ∀ c, P x.1 c → x.2 ≤ c
  all : ∀ m c, P m c → (∃ x ∈ L, x.1 = m) ∨ (L.length = KEPT ∧ ∀ x ∈ L, comes x (m, c) = true)

theorem First.congr {P Q : Text → Nat → Prop} (e : ∀ m c, P m c ↔ Q m c) {L : List Meaning} (h : First P L) : First Q L where
  ord := h.ord
  once := h.once
  few := h.few
  least := fun x m => ⟨(e _ _).mp (h.least x m).1, fun c q => (h.least x m).2 c ((e _ _).mpr q)⟩
  all := fun m c q => h.all m c ((e _ _).mpr q)

/-- two lists in order with the same members -/
theorem ordered_eq : ∀ {L M : List Meaning}, L.Pairwise (fun x y => comes x y = true) → M.Pairwise (fun x y => comes x y = true) → (∀ x, x ∈ L ↔ x ∈ M) → L = M
  | [], [], _, _, _ => rfl
  | [], y :: M, _, _, h => absurd ((h y).mpr (.head _)) (by simp)
  | x :: L, [], _, _, h => absurd ((h x).mp (.head _)) (by simp)
  | x :: L, y :: M, p, q, h => by
    rw [List.pairwise_cons] at p q
    have e : x = y := by
      have a := (h x).mp (.head _)
      have b := (h y).mpr (.head _)
      cases a with
      | head => rfl
      | tail _ a =>
        cases b with
        | head => rfl
        | tail _ b =>
          have c1 := q.1 x a
          have c2 := p.1 y b
          rw [comes_asymm c1] at c2
          exact nomatch c2
    subst e
    refine congrArg _ (ordered_eq p.2 q.2 fun z => ⟨fun m => ?_, fun m => ?_⟩)
    · have := (h z).mp (.tail _ m)
      cases this with
      | head => have := p.1 _ m; rw [comes_irrefl] at this; exact nomatch this
      | tail _ m => exact m
    · have := (h z).mpr (.tail _ m)
      cases this with
      | head => have := q.1 _ m; rw [comes_irrefl] at this; exact nomatch this
      | tail _ m => exact m

theorem nodup_of_ord {L : List Meaning} (h : L.Pairwise fun x y => comes x y = true) : L.Nodup := by
  refine h.imp ?_
  rintro a b k rfl
  rw [comes_irrefl] at k
  exact nomatch k

/-- a list without doubles whose members lie in another is no longer -/
theorem length_le_of_sub {α : Type} [DecidableEq α] : ∀ {L M : List α}, L.Nodup → (∀ x ∈ L, x ∈ M) → L.length ≤ M.length
  | [], _, _, _ => Nat.zero_le _
  | x :: L, M, h, k => by
    rw [List.nodup_cons] at h
    have hx : x ∈ M := k x (.head _)
    have ih := length_le_of_sub (L := L) (M := M.erase x) h.2 fun y hy => by
      have : y ≠ x := fun e => h.1 (e ▸ hy)
      exact (List.mem_erase_of_ne this).mpr (k y (.tail _ hy))
    rw [List.length_erase_of_mem hx] at ih
    have : 0 < M.length := List.length_pos_of_mem hx
    simp only [List.length_cons]
    omega

theorem First.sub {P : Text → Nat → Prop} {L M : List Meaning} (h : First P L) (k : First P M) : ∀ x ∈ L, x ∈ M := by
  intro x hx
  obtain ⟨p, lx⟩ := h.least x hx
  rcases k.all x.1 x.2 p with ⟨y, hy, e⟩ | ⟨full, hy⟩
  · have a := (k.least y hy)
    rw [e] at a
    have : y.2 = x.2 := Nat.le_antisymm (a.2 _ p) (lx _ a.1)
    have : y = x := Prod.ext e this
    exact this ▸ hy
  · -- all of M come before x; then M lies in L, and x besides
    by_cases hM : x ∈ M
    · exact hM
    · exfalso
      have sub : ∀ y ∈ M, y ∈ L := by
        intro y hm
        have ky := k.least y hm
        rcases h.all y.1 y.2 ky.1 with ⟨z, hz, e⟩ | ⟨_, hz⟩
        · have a := h.least z hz
          rw [e] at a
          have : z.2 = y.2 := Nat.le_antisymm (a.2 _ ky.1) (ky.2 _ a.1)
          exact (Prod.ext e this : z = y) ▸ hz
        · have c1 : comes x y = true := hz x hx
          have c2 : comes y x = true := hy y hm
          rw [comes_asymm c1] at c2
          exact nomatch c2
      have nd : (x :: M).Nodup := List.nodup_cons.mpr ⟨hM, nodup_of_ord k.ord⟩
      have := length_le_of_sub nd (M := L) fun y hy => by
        cases hy with
        | head => exact hx
        | tail _ m => exact sub y m
      have := h.few
      simp only [List.length_cons] at *
      omega
/-- there is one such list -/
theorem First.unique {P : Text → Nat → Prop} {L M : List Meaning} (h : First P L) (k : First P M) : L = M :=
  ordered_eq h.ord k.ord fun x => ⟨h.sub k x, k.sub h x⟩

theorem First.ahead {P : Text → Nat → Prop} {L : List Meaning} (p : Text) (k : Nat) (h : First P L) :
    First (fun m c => ∃ m' c', m = p ++ m' ∧ c = k + c' ∧ P m' c') (L.map (ahead p k)) where
  ord := by
    rw [List.pairwise_map]
    exact h.ord.imp fun {a b} q => by rw [comes_ahead]; exact q
  once := by
    rw [List.map_map]
    have := h.once
    rw [List.Nodup, List.pairwise_map] at this ⊢
    refine this.imp fun {a b} q e => q ?_
    exact List.append_cancel_left e
  few := by rw [List.length_map]; exact h.few
  least := by
    intro x hx
    obtain ⟨y, hy, rfl⟩ := List.mem_map.mp hx
    obtain ⟨a, b⟩ := h.least y hy
    refine ⟨⟨y.1, y.2, rfl, rfl, a⟩, ?_⟩
    rintro c ⟨m', c', e, rfl, q⟩
    have e' : y.1 = m' := List.append_cancel_left e
    subst e'
    exact Nat.add_le_add_left (b c' q) k
  all := by
    rintro m c ⟨m', c', rfl, rfl, q⟩
    rcases h.all m' c' q with ⟨x, hx, e⟩ | ⟨f, hx⟩
    · exact .inl ⟨_, List.mem_map_of_mem hx, by rw [← e]; rfl⟩
    · refine .inr ⟨by rw [List.length_map]; exact f, fun x hm => ?_⟩
      obtain ⟨y, hy, rfl⟩ := List.mem_map.mp hm
      have := hx y hy
      rw [← comes_ahead p k] at this
      exact this
end SM
end
/-! ## MMerge -/
section
namespace SM
open SyBase SySpell SySlip

/-- one step of the merge, by which one is taken -/
structure Out (room : Nat) (had : List Text) (a b L : List Meaning) : Prop where
  ord : L.Pairwise fun x y => comes x y = true
  once : (L.map (·.1)).Nodup
  new : ∀ x ∈ L, x.1 ∉ had
  few : L.length ≤ room
  from_ : ∀ x ∈ L, x ∈ a ∨ x ∈ b
  least : ∀ x ∈ L, ∀ y, y ∈ a ∨ y ∈ b → y.1 = x.1 → x.2 ≤ y.2
  all : ∀ y, y ∈ a ∨ y ∈ b → y.1 ∈ had ∨ (∃ x ∈ L, x.1 = y.1 ∧ x.2 ≤ y.2) ∨ (L.length = room ∧ ∀ x ∈ L, comes x y = true)

theorem Out.swap {room : Nat} {had : List Text} {a b L : List Meaning} (h : Out room had a b L) : Out room had b a L where
  ord := h.ord
  once := h.once
  new := h.new
  few := h.few
  from_ := fun x m => (h.from_ x m).symm
  least := fun x m y k => h.least x m y k.symm
  all := fun y k => h.all y k.symm

/-- the first of a comes ahead of all; its row is had: it is dropped -/
theorem Out.drop {room : Nat} {had : List Text} {x : Meaning} {r b L : List Meaning} (hx : x.1 ∈ had) (h : Out room had r b L) : Out room had (x :: r) b L where
  ord := h.ord
  once := h.once
  new := h.new
  few := h.few
  from_ := fun z m => (h.from_ z m).imp (.tail _) id
  least := by
    rintro z m y (k | k) e
    · cases k with
      | head => exact absurd (e ▸ hx) (h.new z m)
      | tail _ k => exact h.least z m y (.inl k) e
    · exact h.least z m y (.inr k) e
  all := by
    rintro y (k | k)
    · cases k with
      | head => exact .inl hx
      | tail _ k => exact h.all y (.inl k)
    · exact h.all y (.inr k)
/-- .. it isn't: it is taken -/
theorem Out.take {room : Nat} {had : List Text} {x : Meaning} {r b L : List Meaning} (hx : x.1 ∉ had) (lo : ∀ y, y ∈ r ∨ y ∈ b → comes y x = false) (hr : 0 < room)
    (h : Out (room - 1) (x.1 :: had) r b L) : Out room had (x :: r) b (x :: L) where
  ord := by
    rw [List.pairwise_cons]
    refine ⟨fun y m => ?_, h.ord⟩
    have c := lo y (h.from_ y m)
    rcases comes_total x y with k | k | k
    · exact k
    · exact absurd (by rw [k]; exact .head _) (h.new y m)
    · rw [c] at k; exact nomatch k
  once := by
    rw [List.map_cons, List.nodup_cons]
    refine ⟨fun m => ?_, h.once⟩
    obtain ⟨y, hy, e⟩ := List.mem_map.mp m
    exact h.new y hy (by rw [e]; exact .head _)
  new := by
    intro y m k
    cases m with
    | head => exact hx k
    | tail _ m => exact h.new y m (.tail _ k)
  few := by
    have := h.few
    simp only [List.length_cons]
    omega
  from_ := by
    intro y m
    cases m with
    | head => exact .inl (.head _)
    | tail _ m => exact (h.from_ y m).imp (.tail _) id
  least := by
    intro z m y k e
    cases m with
    | head =>
      have le : comes y x = false → x.2 ≤ y.2 := by
        intro c
        rcases Nat.lt_or_ge y.2 x.2 with q | q
        · rw [comes_iff.mpr (.inl q)] at c
          exact nomatch c
        · exact q
      rcases k with k | k
      · cases k with
        | head => exact Nat.le_refl _
        | tail _ k => exact le (lo y (.inl k))
      · exact le (lo y (.inr k))
    | tail _ m =>
      rcases k with k | k
      · cases k with
        | head => exact absurd (by rw [e]; exact .head _) (h.new z m)
        | tail _ k => exact h.least z m y (.inl k) e
      · exact h.least z m y (.inr k) e
  all := by
    have one : ∀ y, y ∈ r ∨ y ∈ b → y.1 ∈ had ∨ (∃ z ∈ x :: L, z.1 = y.1 ∧ z.2 ≤ y.2) ∨ ((x :: L).length = room ∧ ∀ z ∈ x :: L, comes z y = true) := by
      intro y k
      have c := lo y k
      rcases comes_total x y with q | q | q
      · rcases h.all y k with a | ⟨z, hz, e⟩ | ⟨f, a⟩
        · rcases List.mem_cons.mp a with a | a
          · refine .inr (.inl ⟨x, .head _, a.symm, ?_⟩)
            rw [comes_iff] at q
            rcases q with q | q <;> omega
          · exact .inl a
        · exact .inr (.inl ⟨z, .tail _ hz, e⟩)
        · refine .inr (.inr ⟨by simp only [List.length_cons]; omega, fun z hz => ?_⟩)
          cases hz with
          | head => exact q
          | tail _ hz => exact a z hz
      · subst q
        exact .inr (.inl ⟨x, .head _, rfl, Nat.le_refl _⟩)
      · rw [c] at q; exact nomatch q
    rintro y (k | k)
    · cases k with
      | head => exact .inr (.inl ⟨x, .head _, rfl, Nat.le_refl _⟩)
      | tail _ k => exact one y (.inl k)
    · exact one y (.inr k)

theorem Out.none {had : List Text} (a b : List Meaning) : Out 0 had a b [] where
  ord := .nil
  once := .nil
  new := fun _ m => nomatch m
  few := Nat.le_refl _
  from_ := fun _ m => nomatch m
  least := fun _ m => nomatch m
  all := fun _ _ => .inr (.inr ⟨rfl, fun _ m => nomatch m⟩)
theorem Out.nil (room : Nat) (had : List Text) : Out room had [] [] [] where
  ord := .nil
  once := .nil
  new := fun _ m => nomatch m
  few := Nat.zero_le _
  from_ := fun _ m => nomatch m
  least := fun _ m => nomatch m
  all := by rintro y (k | k) <;> exact nomatch k

def Ordered (L : List Meaning) : Prop := L.Pairwise fun x y => comes x y = true

theorem mergeBest_step (f room : Nat) (had : List Text) (x : Meaning) (r b : List Meaning) (lo : ∀ y, y ∈ r ∨ y ∈ b → comes y x = false) (hr : 0 < room)
    (ih : ∀ room had, Out room had r b (mergeBest f room had r b)) :
    Out room had (x :: r) b (if had.contains x.1 = true then mergeBest f room had r b else x :: mergeBest f (room - 1) (x.1 :: had) r b) := by
  by_cases h : x.1 ∈ had
  · rw [if_pos (List.contains_iff_mem.mpr h)]
    exact (ih _ _).drop h
  · rw [if_neg (fun e => h (List.contains_iff_mem.mp e))]
    exact (ih _ _).take h lo hr

theorem mergeBest_out : ∀ (f room : Nat) (had : List Text) (a b : List Meaning), a.length + b.length < f → Ordered a → Ordered b → Out room had a b (mergeBest f room had a b)
  | 0, _, _, _, _, h, _, _ => absurd h (Nat.not_lt_zero _)
  | f + 1, room, had, a, b, h, ha, hb => by
    by_cases hr : room = 0
    · subst hr
      unfold mergeBest
      rw [if_pos rfl]
      exact .none a b
    have hr' : 0 < room := Nat.pos_of_ne_zero hr
    match a, b, ha, hb, h with
    | [], [], _, _, _ =>
      unfold mergeBest
      rw [if_neg hr]
      exact .nil room had
    | x :: r, [], ha, hb, h =>
      unfold mergeBest
      rw [if_neg hr]
      rw [Ordered, List.pairwise_cons] at ha
      refine mergeBest_step f room had x r [] ?_ hr' fun room had => mergeBest_out f room had r [] (by simp at h ⊢; omega) ha.2 hb
      rintro y (k | k)
      · exact comes_asymm (ha.1 y k)
      · exact nomatch k
    | [], y :: s, ha, hb, h =>
      unfold mergeBest
      rw [if_neg hr]
      rw [Ordered, List.pairwise_cons] at hb
      have q : ∀ room had, mergeBest f room had [] s = mergeBest f room had [] s := fun _ _ => rfl
      have ih : ∀ room had, Out room had s [] (mergeBest f room had [] s) := fun room had => (mergeBest_out f room had [] s (by simp at h ⊢; omega) ha hb.2).swap
      show Out room had [] (y :: s) (if had.contains y.1 = true then mergeBest f room had [] s else y :: mergeBest f (room - 1) (y.1 :: had) [] s)
      by_cases hc : y.1 ∈ had
      · rw [if_pos (List.contains_iff_mem.mpr hc)]
        exact ((ih _ _).drop hc).swap
      · rw [if_neg (fun e => hc (List.contains_iff_mem.mp e))]
        refine ((ih _ _).take hc ?_ hr').swap
        rintro z (k | k)
        · exact comes_asymm (hb.1 z k)
        · exact nomatch k
    | x :: r, y :: s, ha, hb, h =>
      unfold mergeBest
      rw [if_neg hr]
      have ha' := ha
      have hb' := hb
      rw [Ordered, List.pairwise_cons] at ha hb
      show Out room had (x :: r) (y :: s) (if comes y x = true then (if had.contains y.1 = true then mergeBest f room had (x :: r) s else y :: mergeBest f (room - 1) (y.1 :: had) (x :: r) s)
        else if had.contains x.1 = true then mergeBest f room had r (y :: s) else x :: mergeBest f (room - 1) (x.1 :: had) r (y :: s))
      by_cases c : comes y x = true
      · rw [if_pos c]
        have ih : ∀ room had, Out room had s (x :: r) (mergeBest f room had (x :: r) s) := fun room had => (mergeBest_out f room had (x :: r) s (by simp at h ⊢; omega) ha' hb.2).swap
        have lo : ∀ z, z ∈ s ∨ z ∈ x :: r → comes z y = false := by
          rintro z (k | k)
          · exact comes_asymm (hb.1 z k)
          · cases k with
            | head => exact comes_asymm c
            | tail _ k => exact comes_asymm (comes_trans c (ha.1 z k))
        by_cases hc : y.1 ∈ had
        · rw [if_pos (List.contains_iff_mem.mpr hc)]
          exact ((ih _ _).drop hc).swap
        · rw [if_neg (fun e => hc (List.contains_iff_mem.mp e))]
          exact ((ih _ _).take hc lo hr').swap
      · rw [if_neg c]
        refine mergeBest_step f room had x r (y :: s) ?_ hr' fun room had => mergeBest_out f room had r (y :: s) (by simp at h ⊢; omega) ha.2 hb'
        have c' : comes y x = false := by simpa using c
        rintro z (k | k)
        · exact comes_asymm (ha.1 z k)
        · cases k with
          | head => exact c'
          | tail _ k =>
            cases q : comes z x with
            | false => rfl
            | true => rw [comes_trans (hb.1 z k) q] at c'; exact nomatch c'

theorem merged_out {a b : List Meaning} (ha : Ordered a) (hb : Ordered b) : Out KEPT [] a b (merged a b) :=
  mergeBest_out _ _ _ _ _ (Nat.lt_succ_self _) ha hb

theorem rows_len (L : List Meaning) : (L.map (·.1)).length = L.length := List.length_map ..

/-- b holds 64 rows that all come ahead of (m, c), none of them m: so do the 64 of the merge; or m is among them, no dearer -/
theorem Out.full {a b L : List Meaning} (o : Out KEPT [] a b L) {B : List Meaning} (hB : ∀ y ∈ B, y ∈ a ∨ y ∈ b) (once : (B.map (·.1)).Nodup) (len : B.length = KEPT) {m : Text} {c : Nat}
    (hm : ∀ y ∈ B, comes y (m, c) = true) : (L.length = KEPT ∧ (∀ x ∈ L, comes x (m, c) = true)) := by
  by_cases h : ∀ y ∈ B, ∃ x ∈ L, x.1 = y.1 ∧ x.2 ≤ y.2
  · -- the rows of B lie in L: they are all of it
    have sub : ∀ r ∈ B.map (·.1), r ∈ L.map (·.1) := by
      intro r hr
      obtain ⟨y, hy, rfl⟩ := List.mem_map.mp hr
      obtain ⟨x, hx, e, _⟩ := h y hy
      exact e ▸ List.mem_map_of_mem hx
    have l1 := length_le_of_sub once sub
    rw [rows_len, rows_len] at l1
    have l2 := o.few
    refine ⟨by omega, fun x hx => ?_⟩
    by_cases q : x.1 ∈ B.map (·.1)
    · obtain ⟨y, hy, e⟩ := List.mem_map.mp q
      have le := o.least x hx y (hB y hy) e
      have c1 := hm y hy
      rcases Nat.lt_or_ge x.2 y.2 with k | k
      · exact comes_trans (y := y) (by rw [comes_iff]; exact .inl k) c1
      · have e2 : x.2 = y.2 := Nat.le_antisymm le k
        exact (Prod.ext e.symm e2 : x = y) ▸ c1
    · exfalso
      have nd : (x.1 :: B.map (·.1)).Nodup := List.nodup_cons.mpr ⟨q, once⟩
      have := length_le_of_sub nd (M := L.map (·.1)) fun r hr => by
        cases hr with
        | head => exact List.mem_map_of_mem hx
        | tail _ hr => exact sub r hr
      simp only [List.length_cons, rows_len] at this
      omega
  · obtain ⟨y, h⟩ := Classical.not_forall.mp h
    obtain ⟨hy, h⟩ := Classical.not_imp.mp h
    rcases o.all y (hB y hy) with q | q | ⟨f, q⟩
    · exact nomatch q
    · exact absurd q h
    · exact ⟨f, fun x hx => comes_trans (q x hx) (hm y hy)⟩

theorem merged_first {P Q : Text → Nat → Prop} {a b : List Meaning} (ha : First P a) (hb : First Q b) : First (fun m c => P m c ∨ Q m c) (merged a b) := by
  have o := merged_out ha.ord hb.ord
  -- what P says of a row, seen from the merge
  have cover : ∀ {P : Text → Nat → Prop} {a : List Meaning}, First P a → (∀ y ∈ a, y ∈ a ∨ y ∈ a) → ∀ {b' L}, Out KEPT [] a b' L → ∀ m c, P m c → (∃ x ∈ L, x.1 = m ∧ x.2 ≤ c) ∨ (L.length = KEPT ∧ ∀ x ∈ L, comes x (m, c) = true) := by
    intro P a ha _ b' L o m c p
    by_cases inn : ∃ x ∈ a, x.1 = m
    · obtain ⟨x, hx, e⟩ := inn
      have le := (ha.least x hx).2 c (by rw [e]; exact p)
      rcases o.all x (.inl hx) with q | ⟨z, hz, e2, l2⟩ | ⟨f, q⟩
      · exact nomatch q
      · exact .inl ⟨z, hz, e2.trans e, Nat.le_trans l2 le⟩
      · refine .inr ⟨f, fun z hz => ?_⟩
        have := q z hz
        exact comes_le (c := x.2) (by rw [← e]; exact this) le
    · rcases ha.all m c p with q | ⟨f, q⟩
      · exact absurd q inn
      · exact .inr (o.full (fun y hy => .inl hy) ha.once f q)
  have covA := cover ha (fun y hy => .inl hy) o
  have covB := cover hb (fun y hy => .inl hy) o.swap
  have lesst : ∀ x ∈ merged a b, ∀ c, ((∃ z ∈ merged a b, z.1 = x.1 ∧ z.2 ≤ c) ∨ ((merged a b).length = KEPT ∧ ∀ z ∈ merged a b, comes z (x.1, c) = true)) → x.2 ≤ c := by
    intro x hx c h
    rcases h with ⟨z, hz, e, l⟩ | ⟨_, q⟩
    · have nd := o.once
      have : z = x := by
        have nd := nd
        rw [List.Nodup, List.pairwise_map] at nd
        by_cases q : z = x
        · exact q
        · exfalso
          -- two members with one row
          have c1 := o.ord
          rcases comes_total z x with k | k | k
          · have := o.least x hx z ((o.from_ z hz)) e
            rw [comes_iff] at k
            rcases k with k | ⟨_, k⟩
            · omega
            · rw [e, before_irrefl] at k; exact nomatch k
          · exact q k
          · have := o.least z hz x ((o.from_ x hx)) e.symm
            rw [comes_iff] at k
            rcases k with k | ⟨_, k⟩
            · omega
            · rw [e, before_irrefl] at k; exact nomatch k
      exact this ▸ l
    · have := comes_cost.mp (q x hx)
      exact Nat.le_of_lt this
  refine ⟨o.ord, o.once, o.few, fun x hx => ⟨?_, ?_⟩, ?_⟩
  · exact (o.from_ x hx).imp (fun k => (ha.least x k).1) fun k => (hb.least x k).1
  · rintro c (p | p)
    · exact lesst x hx c (covA _ _ p)
    · exact lesst x hx c (covB _ _ p)
  · rintro m c (p | p)
    · exact (covA m c p).imp (fun ⟨x, hx, e, _⟩ => ⟨x, hx, e⟩) id
    · exact (covB m c p).imp (fun ⟨x, hx, e, _⟩ => ⟨x, hx, e⟩) id
end SM
end
/-! ## MBest -/
section
namespace SM
open SyBase SySpell SySlip

/-- what the n-th place of the rows of t holds -/
def rowsOf (S : Slips) (t : Text) : List (List Meaning) := ((bestTable S t).head?).getD []
def bst (S : Slips) (t : Text) (n : Nat) : List Meaning := ((rowsOf S t)[n]?).getD []

theorem bestTable_at (S : Slips) : ∀ (t : Text) (j : Nat), j ≤ t.length → ((bestTable S t)[j]?).getD [] = rowsOf S (t.drop j)
  | [], j, h => by
    have : j = 0 := Nat.le_zero.mp h
    subst this
    rfl
  | x :: r, 0, _ => by
    show ((bestTable S (x :: r))[0]?).getD [] = rowsOf S (x :: r)
    rw [rowsOf, List.head?_eq_getElem?]
  | x :: r, j + 1, h => by
    show ((bestTable S r)[j]?).getD [] = rowsOf S (r.drop j)
    exact bestTable_at S r j (by simpa using h)

theorem foldl_range_len {α : Type} (g : List α → Nat → α) : ∀ n, ((List.range n).foldl (fun l k => l ++ [g l k]) []).length = n
  | 0 => rfl
  | n + 1 => by rw [List.range_succ, List.foldl_append]; simp [foldl_range_len g n]

/-- what a table of rows, filled one behind another, holds -/
theorem foldl_range_at {α : Type} (g : List α → Nat → α) : ∀ n k, k < n → ((List.range n).foldl (fun l k => l ++ [g l k]) [])[k]? = some (g ((List.range k).foldl (fun l k => l ++ [g l k]) []) k)
  | 0, k, h => absurd h (Nat.not_lt_zero _)
  | n + 1, k, h => by
    rw [List.range_succ, List.foldl_append]
    show ((List.range n).foldl (fun l k => l ++ [g l k]) [] ++ [g ((List.range n).foldl (fun l k => l ++ [g l k]) []) n])[k]? = _
    rcases Nat.lt_or_ge k n with e | e
    · rw [List.getElem?_append_left (by rw [foldl_range_len]; exact e)]
      exact foldl_range_at g n k e
    · have : k = n := by omega
      subst this
      rw [List.getElem?_append_right (by rw [foldl_range_len]; exact Nat.le_refl _), foldl_range_len]
      simp

/-- the first part of the recursion: no slip at the head -/
def headSame (S : Slips) (t : Text) (n : Nat) : List Meaning := match t with
  | [] => [([], 0)]
  | x :: r => (bst S r n).map (ahead [x] 0)
/-- a slip at the head -/
def headSlip (S : Slips) (t : Text) (k : Nat) (s : Slip) : List Meaning := (bst S (t.drop s.typed.length) k).map (ahead s.meant s.cost)

def later : Slips → Text → List (List (List Meaning))
  | _, [] => []
  | S, _ :: r => bestTable S r
theorem rowsOf_eq (S : Slips) (t : Text) : rowsOf S t = bestRows S t (later S t) := by
  cases t <;> rfl

theorem bst_eq (S : Slips) (t : Text) (n : Nat) (h : n ≤ USED) : bst S t n = bestWith S t (later S t) ((List.range n).foldl (fun less n => less ++ [bestWith S t (later S t) less n]) []) n := by
  rw [bst, rowsOf_eq, bestRows, foldl_range_at (fun less n => bestWith S t (later S t) less n) (USED + 1) n (by omega)]
  rfl

theorem less_at (S : Slips) (t : Text) (n k : Nat) (h : n ≤ USED) (hk : k < n) : (((List.range n).foldl (fun less n => less ++ [bestWith S t (later S t) less n]) [])[k]?).getD [] = bst S t k := by
  rw [foldl_range_at (fun less n => bestWith S t (later S t) less n) n k hk, bst_eq S t k (by omega)]
  rfl

theorem ahead_one (x : Nat) (y : Meaning) : ahead [x] 0 y = (x :: y.1, y.2) := by simp [ahead]

theorem same_eq (S : Slips) (t : Text) (n : Nat) : (match t with
      | [] => [([], 0)]
      | x :: _ => ((((later S t)[0]?).getD [])[n]?).getD [] |>.map fun (y : Meaning) => (x :: y.1, y.2)) = headSame S t n := by
  cases t with
  | nil => rfl
  | cons x r =>
    show (((((bestTable S r)[0]?).getD [])[n]?).getD []).map (fun (y : Meaning) => (x :: y.1, y.2)) = (bst S r n).map (ahead [x] 0)
    rw [bestTable_at S r 0 (Nat.zero_le _)]
    have : (fun y : Meaning => (x :: y.1, y.2)) = ahead [x] 0 := by funext y; exact (ahead_one x y).symm
    rw [this]
    rfl

theorem foldl_congr {α β : Type} {f g : β → α → β} : ∀ (l : List α) (b : β), (∀ b, ∀ x ∈ l, f b x = g b x) → l.foldl f b = l.foldl g b
  | [], _, _ => rfl
  | x :: l, b, h => by
    rw [List.foldl_cons, List.foldl_cons, h b x (.head _)]
    exact foldl_congr l _ fun b y m => h b y (.tail _ m)

theorem bst_zero (S : Slips) (t : Text) : bst S t 0 = headSame S t 0 := by
  rw [bst_eq S t 0 (Nat.zero_le _), ← same_eq]
  cases t <;> rfl
theorem bst_succ (S : Slips) (t : Text) (k : Nat) (h : k + 1 ≤ USED) : bst S t (k + 1) = (S.filter fun (s : Slip) => s.typed.isPrefixOf t).foldl (fun l s => merged l (headSlip S t k s)) (headSame S t (k + 1)) := by
  rw [bst_eq S t (k + 1) h]
  have e : ∀ less, bestWith S t (later S t) less (k + 1) = (S.filter fun (s : Slip) => s.typed.isPrefixOf t).foldl (fun (l : List Meaning) (s : Slip) => merged l ((if s.typed = [] then ((less[k]?).getD []) else (((((later S t)[s.typed.length - 1]?).getD [])[k]?).getD [])).map fun (y : Meaning) => (s.meant ++ y.1, s.cost + y.2))) (match t with
      | [] => [([], 0)]
      | x :: _ => ((((later S t)[0]?).getD [])[k + 1]?).getD [] |>.map fun (y : Meaning) => (x :: y.1, y.2)) := by
    intro less
    cases t <;> rfl
  rw [e, same_eq]
  refine foldl_congr _ _ fun l s hs => ?_
  rw [List.mem_filter] at hs
  have hp := hs.2
  have two : (fun y : Meaning => (s.meant ++ y.1, s.cost + y.2)) = ahead s.meant s.cost := rfl
  rw [two, headSlip]
  by_cases c : s.typed = []
  · rw [if_pos c, less_at S t (k + 1) k h (Nat.lt_succ_self k), c]
    rfl
  · rw [if_neg c]
    have : (((((later S t)[s.typed.length - 1]?).getD [])[k]?).getD []) = bst S (t.drop s.typed.length) k := by
      obtain ⟨r, rfl⟩ := List.isPrefixOf_iff_prefix.mp hp
      match ht : s.typed, c with
      | a :: q, _ =>
        show (((((bestTable S (q ++ r))[q.length]?).getD [])[k]?).getD []) = bst S ((a :: (q ++ r)).drop (q.length + 1)) k
        rw [bestTable_at S (q ++ r) q.length (by simp)]
        rfl
    rw [this]

theorem First.fold {α : Type} {Q : α → Text → Nat → Prop} {g : α → List Meaning} : ∀ (l : List α) {P : Text → Nat → Prop} {a : List Meaning}, First P a → (∀ s ∈ l, First (Q s) (g s)) →
    First (fun m c => P m c ∨ ∃ s, s ∈ l ∧ Q s m c) (l.foldl (fun a s => merged a (g s)) a)
  | [], P, a, h, _ => h.congr fun m c => ⟨.inl, fun q => q.elim id fun ⟨_, q, _⟩ => nomatch q⟩
  | x :: l, P, a, h, k => by
    have ih := First.fold l (merged_first h (k x (.head _))) fun s m => k s (.tail _ m)
    refine ih.congr fun m c => ⟨?_, ?_⟩
    · rintro ((q | q) | ⟨s, m, q⟩)
      · exact .inl q
      · exact .inr ⟨x, .head _, q⟩
      · exact .inr ⟨s, .tail _ m, q⟩
    · rintro (q | ⟨s, m, q⟩)
      · exact .inl (.inl q)
      · cases m with
        | head => exact .inl (.inr q)
        | tail _ m => exact .inr ⟨s, m, q⟩

theorem headSame_first (S : Slips) (n : Nat) (ih : ∀ x r, t = x :: r → First (Cut S n r) (bst S r n)) : First (fun m c => (t = [] ∧ m = [] ∧ c = 0) ∨ ∃ x t' m', t = x :: t' ∧ m = x :: m' ∧ Cut S n t' m' c) (headSame S t n) := by
  cases t with
  | nil =>
    show First _ [([], 0)]
    refine ⟨by simp, by simp, by show 1 ≤ 64; decide, ?_, ?_⟩
    · intro x hx
      simp only [List.mem_singleton] at hx
      subst hx
      exact ⟨.inl ⟨rfl, rfl, rfl⟩, fun _ _ => Nat.zero_le _⟩
    · rintro m c (⟨_, rfl, rfl⟩ | ⟨x, t', m', q, _⟩)
      · exact .inl ⟨_, .head _, rfl⟩
      · exact nomatch q
  | cons x r =>
    refine ((ih x r rfl).ahead [x] 0).congr fun m c => ⟨?_, ?_⟩
    · rintro ⟨m', c', rfl, rfl, q⟩
      refine .inr ⟨x, r, m', rfl, rfl, ?_⟩
      rw [Nat.zero_add]
      exact q
    · rintro (⟨q, _⟩ | ⟨x', t', m', q1, rfl, q⟩)
      · exact nomatch q
      · cases q1
        exact ⟨m', c, rfl, (Nat.zero_add c).symm, q⟩

/-- **the specification's best rows are the first of all that may have been meant** -/
theorem bst_first (S : Slips) : ∀ (n : Nat) (t : Text), n ≤ USED → First (Cut S n t) (bst S t n)
  | 0, t, h => by
    rw [bst_zero]
    refine (headSame_first S 0 ?_).congr fun m c => ?_
    · rintro x r rfl
      exact bst_first S 0 r h
    · rw [cut_iff (n := 0)]
      refine ⟨.inl, ?_⟩
      rintro (q | ⟨k, s, t', m', c', q, _⟩)
      · exact q
      · exact nomatch q
  | k + 1, t, h => by
    rw [bst_succ S t k h]
    refine (First.fold (Q := fun (s : Slip) m c => ∃ m' c', m = s.meant ++ m' ∧ c = s.cost + c' ∧ Cut S k (t.drop s.typed.length) m' c') _ (headSame_first S (k + 1) ?_) fun s hs => ?_).congr fun m c => ?_
    · rintro x r rfl
      exact bst_first S (k + 1) r h
    · exact (bst_first S k (t.drop s.typed.length) (by omega)).ahead s.meant s.cost
    · rw [cut_iff (n := k + 1)]
      refine or_congr Iff.rfl ⟨?_, ?_⟩
      · rintro ⟨s, hs, m', c', rfl, rfl, q⟩
        rw [List.mem_filter] at hs
        exact ⟨k, s, _, m', c', rfl, hs.1, prefix_drop hs.2, rfl, rfl, q⟩
      · rintro ⟨k', s, t', m', c', e, hs, rfl, rfl, rfl, q⟩
        cases e
        refine ⟨s, ?_, m', c', rfl, rfl, ?_⟩
        · rw [List.mem_filter]
          exact ⟨hs, prefix_app _ _⟩
        · simpa using q
termination_by n t => (n, t.length)

theorem best_first (S : Slips) (t : Text) : First (Cut S USED t) (best S t) := bst_first S USED t (Nat.le_refl _)
/-- whatever list is so is the specification's -/
theorem best_unique {S : Slips} {t : Text} {L : List Meaning} (h : First (Cut S USED t) L) : L = best S t := h.unique (best_first S t)
end SM
end
/-! ## MWrit -/
section
set_option Elab.async false
set_option linter.all false
set_option maxRecDepth 100000
set_option maxHeartbeats 2000000
namespace Slip
open SyBase SySpell SySlip
open PySem PySem.W
theorem read_eq (b : Bytes) : readSlips b = match tableOf (nats b) with
    | .error e => .error e
    | .ok R => .ok (slipsOf R) := by
  have h := readFrom_eq b.length b [] (Nat.le_refl _)
  have h' : readSlips b = outOf 0 (nats b) (readRows [] 0 (partsGo 10 (nats b)).1) := h
  rw [h']
  unfold tableOf
  cases readRows [] 0 (partsGo 10 (nats b)).1 with
  | error e => rfl
  | ok R =>
    show (if (partsGo 10 (nats b)).2 = [] then Except.ok (slipsOf R) else Except.error (0 + (partsGo 10 (nats b)).1.length, 1)) = _
    by_cases c : (partsGo 10 (nats b)).2 = []
    · simp only [if_pos c]
    · simp only [if_neg c, Nat.zero_add]
/-! what a table that is read is -/
structure Good (R : List Row) : Prop where
  short : Short R
  dist : Dist R
  few : R.length ≤ 32
  letters : ∀ r ∈ R, isLetters r.typed = true ∧ isLetters r.meant = true ∧ r.typed ≠ r.meant
theorem Good.nil : Good [] := ⟨fun _ h => (nomatch h), List.Pairwise.nil, Nat.zero_le _, fun _ h => (nomatch h)⟩
theorem readRows_good : ∀ (ls : List (List Nat)) (R : List Row) (i : Nat) (Q : List Row), Good R → readRows R i ls = .ok Q → Good Q
  | [], R, i, Q, g, h => by
    injection h with h
    exact h ▸ g
  | l :: ls, R, i, Q, g, h => by
    rw [readRows_line] at h
    by_cases hk : lineKind R (partsR 32 l) = 0
    · obtain ⟨c, t, m, e3, hl, hc, h1, h2, hne, ht, h32⟩ := lineKind_zero hk
      rw [if_pos hk, e3] at h
      have hl' := hl
      rw [isLine, Bool.and_eq_true, Bool.and_eq_true] at hl'
      refine readRows_good ls _ _ Q ⟨?_, ?_, ?_, ?_⟩ h
      · intro r hr
        rcases List.mem_append.mp hr with hr | hr
        · exact g.short r hr
        · rw [List.mem_singleton.mp hr]
          refine ⟨h1, h2, ?_⟩
          have := costly_eq hl'.1
          rw [hc] at this
          have := of_decide_eq_false this.symm
          show (val c).toNat ≤ 65535
          omega
      · unfold Dist
        rw [List.pairwise_append]
        refine ⟨g.dist, List.pairwise_singleton _ _, fun r hr q hq => ?_⟩
        rw [List.mem_singleton.mp hq]
        intro e
        have : told R t m = true := List.any_eq_true.mpr ⟨r, hr, decide_eq_true e⟩
        rw [ht] at this
        cases this
      · rw [List.length_append]
        exact h32
      · intro r hr
        rcases List.mem_append.mp hr with hr | hr
        · exact g.letters r hr
        · rw [List.mem_singleton.mp hr]
          exact ⟨hl'.2.1, hl'.2.2, hne⟩
    · rw [if_neg hk] at h
      cases h
theorem tableOf_good {l : List Nat} {R : List Row} (h : tableOf l = .ok R) : Good R := by
  unfold tableOf at h
  cases e : readRows [] 0 (partsGo 10 l).1 with
  | error x => rw [e] at h; cases h
  | ok Q =>
    rw [e] at h
    by_cases c : (partsGo 10 l).2 = []
    · simp only [if_pos c] at h
      injection h with h
      exact h ▸ readRows_good _ _ _ _ Good.nil e
    · simp only [if_neg c] at h
      cases h
/-! the order in which lines are written -/
theorem lt_ints : ∀ (a b : List Nat), decide ((a.map fun (n : Nat) => (n : Int)) < (b.map fun (n : Nat) => (n : Int))) = before a b
  | [], [] => by simp [before]
  | [], _ :: _ => by simp [before]
  | _ :: _, [] => by simp [before]
  | x :: a, y :: b => by
    have ih := lt_ints a b
    rw [before, ← ih, Bool.eq_iff_iff]
    simp only [List.map_cons, decide_eq_true_eq, Bool.or_eq_true, Bool.and_eq_true, beq_iff_eq, List.cons_lt_cons_iff]
    constructor
    · rintro (h | ⟨h, h'⟩)
      · exact .inl (by omega)
      · exact .inr ⟨by omega, h'⟩
    · rintro (h | ⟨h, h'⟩)
      · exact .inl (by omega)
      · exact .inr ⟨by omega, h'⟩
theorem lt_dat (a b : List Nat) : dataLt (dat a) (dat b) = before a b := by
  rw [← lt_ints, dat_ints, dat_ints, dataLt_tuple]
  exact dataLt_ints _ _
theorem lt_row (r s : Row) : dataLt (datR r) (datR s) = (slip r).before (slip s) := by
  unfold datR
  rw [dataLt_pair (alike_dat _ _) (alike_dat _ _), eqv_dat, eqv_dat, lt_dat, lt_dat]
  unfold Slip.before slip
  by_cases h1 : r.typed = s.typed
  · rw [if_pos (decide_eq_true h1), h1, SM.before_irrefl, beq_self_eq_true, Bool.false_or, Bool.true_and]
    by_cases h2 : r.meant = s.meant
    · rw [if_pos (decide_eq_true h2), h2, SM.before_irrefl]
    · rw [if_neg (by simpa using h2)]
  · rw [if_neg (by simpa using h1), beq_eq_false_iff_ne.mpr h1, Bool.false_and, Bool.or_false]
theorem before_asymm {a b : Slip} (h : a.before b = true) (k : b.before a = true) : False := by
  unfold Slip.before at h k
  rw [Bool.or_eq_true, Bool.and_eq_true, beq_iff_eq] at h k
  have irr : ∀ {x y : Text}, before x y = true → before y x = true → False := fun {x y} p q => by
    have := SM.before_trans p q
    rw [SM.before_irrefl] at this
    cases this
  rcases h with h | ⟨e, h⟩
  · rcases k with k | ⟨e', _⟩
    · exact irr h k
    · rw [e', SM.before_irrefl] at h; cases h
  · rcases k with k | ⟨_, k⟩
    · rw [e, SM.before_irrefl] at k; cases k
    · exact irr h k
theorem before_tot (a b : Slip) : a.before b = true ∨ (a.typed = b.typed ∧ a.meant = b.meant) ∨ b.before a = true := by
  unfold Slip.before
  rw [Bool.or_eq_true, Bool.and_eq_true, beq_iff_eq, Bool.or_eq_true, Bool.and_eq_true, beq_iff_eq]
  rcases SM.before_total a.typed b.typed with h | h | h
  · exact .inl (.inl h)
  · rcases SM.before_total a.meant b.meant with k | k | k
    · exact .inl (.inr ⟨h, k⟩)
    · exact .inr (.inl ⟨h, k⟩)
    · exact .inr (.inr (.inr ⟨h.symm, k⟩))
  · exact .inr (.inr (.inl h))
theorem before_tr {a b c : Slip} (h : a.before b = true) (k : b.before c = true) : a.before c = true := by
  unfold Slip.before at *
  rw [Bool.or_eq_true, Bool.and_eq_true, beq_iff_eq] at *
  rcases h with h | ⟨e, h⟩
  · rcases k with k | ⟨e', k⟩
    · exact .inl (SM.before_trans h k)
    · exact .inl (e' ▸ h)
  · rcases k with k | ⟨e', k⟩
    · exact .inl (e ▸ k)
    · exact .inr ⟨e.trans e', SM.before_trans h k⟩
theorem sorted_one {α : Type} {lt : α → α → Prop} (asym : ∀ a b, lt a b → lt b a → False) : ∀ {L M : List α}, L.Pairwise lt → M.Pairwise lt → (∀ x, x ∈ L ↔ x ∈ M) → L = M
  | [], [], _, _, _ => rfl
  | [], y :: M, _, _, h => absurd ((h y).mpr (.head _)) (by simp)
  | x :: L, [], _, _, h => absurd ((h x).mp (.head _)) (by simp)
  | x :: L, y :: M, p, q, h => by
    rw [List.pairwise_cons] at p q
    have e : x = y := by
      rcases List.mem_cons.mp ((h x).mp (.head _)) with a | a
      · exact a
      · rcases List.mem_cons.mp ((h y).mpr (.head _)) with b | b
        · exact b.symm
        · exact (asym _ _ (q.1 x a) (p.1 y b)).elim
    subst e
    refine congrArg _ (sorted_one asym p.2 q.2 fun z => ⟨fun m => ?_, fun m => ?_⟩)
    · rcases List.mem_cons.mp ((h z).mp (.tail _ m)) with e | e
      · subst e; exact (asym _ _ (p.1 _ m) (p.1 _ m)).elim
      · exact e
    · rcases List.mem_cons.mp ((h z).mpr (.tail _ m)) with e | e
      · subst e; exact (asym _ _ (q.1 _ m) (q.1 _ m)).elim
      · exact e
theorem putSlip_sorted {s : Slip} : ∀ {S : Slips}, S.Pairwise (fun a b => a.before b = true) → (∀ q ∈ S, ¬ (q.typed = s.typed ∧ q.meant = s.meant)) → (putSlip s S).Pairwise (fun a b => a.before b = true)
  | [], _, _ => List.pairwise_singleton _ _
  | q :: S, h, k => by
    unfold putSlip
    rw [List.pairwise_cons] at h
    by_cases c : s.before q = true
    · rw [if_pos c, List.pairwise_cons]
      refine ⟨fun x hx => ?_, List.pairwise_cons.mpr h⟩
      rcases List.mem_cons.mp hx with e | hx
      · subst e; exact c
      · exact before_tr c (h.1 x hx)
    · rw [if_neg c, List.pairwise_cons]
      refine ⟨fun x hx => ?_, putSlip_sorted h.2 fun y hy => k y (.tail _ hy)⟩
      rcases putSlip_mem.mp hx with e | hx
      · subst e
        rcases before_tot q x with b | b | b
        · exact b
        · exact absurd b (k q (.head _))
        · exact absurd b c
      · exact h.1 x hx
theorem slipsOf_sorted {R : List Row} (h : Dist R) : (slipsOf R).Pairwise (fun a b => a.before b = true) := by
  have go : ∀ (R : List Row) (S : Slips), Dist R → S.Pairwise (fun a b => a.before b = true) → (∀ q ∈ S, ∀ r ∈ R, ¬ (q.typed = r.typed ∧ q.meant = r.meant)) → (R.foldl (fun S r => putSlip (slip r) S) S).Pairwise (fun a b => a.before b = true) := by
    intro R
    induction R with
    | nil => intro S _ h _; exact h
    | cons r R ih =>
      intro S hd hs hn
      rw [Dist, List.pairwise_cons] at hd
      rw [List.foldl_cons]
      refine ih _ hd.2 (putSlip_sorted hs fun q hq => hn q hq r (.head _)) fun q hq x hx => ?_
      rcases putSlip_mem.mp hq with e | hq
      · subst e; exact hd.1 x hx
      · exact hn q hq x (.tail _ hx)
  exact go R [] h .nil fun _ m => nomatch m
theorem rowLe_total : TotalLe rowLe := by
  refine ⟨fun a b c h k => ?_, fun a b => ?_⟩
  · have e : ∀ x y, rowLe x y = !((slip y).before (slip x)) := fun x y => by rw [← lt_row]; rfl
    rw [e] at *
    cases q : (slip c).before (slip a) with
    | false => rfl
    | true =>
      rw [Bool.not_eq_true'] at h k
      rcases before_tot (slip a) (slip b) with t | t | t
      · rw [before_tr q t] at k; cases k
      · have : (slip c).before (slip b) = (slip c).before (slip a) := by unfold Slip.before; rw [t.1, t.2]
        rw [this, q] at k; cases k
      · rw [t] at h; cases h
  · have e : ∀ x y, rowLe x y = !((slip y).before (slip x)) := fun x y => by rw [← lt_row]; rfl
    rw [e, e]
    cases q : (slip b).before (slip a) with
    | false => exact .inl rfl
    | true =>
      refine .inr ?_
      cases q' : (slip a).before (slip b) with
      | false => rfl
      | true => exact (before_asymm q q').elim
theorem slipsOf_eq {R : List Row} (h : Dist R) : slipsOf R = (R.mergeSort rowLe).map slip := by
  refine sorted_one (lt := fun a b => a.before b = true) (fun _ _ => before_asymm) (slipsOf_sorted h) ?_ fun x => ?_
  · rw [List.pairwise_map]
    have p1 := sort_pairwise rowLe_total R
    have p2 : (R.mergeSort rowLe).Pairwise fun r s => ¬ (r.typed = s.typed ∧ r.meant = s.meant) := by
      refine (List.mergeSort_perm R rowLe).symm.pairwise h ?_
      intro x y q e
      exact q ⟨e.1.symm, e.2.symm⟩
    refine (p1.and p2).imp ?_
    rintro r s ⟨q1, q2⟩
    have e : rowLe r s = !((slip s).before (slip r)) := by rw [← lt_row]; rfl
    rw [e, Bool.not_eq_true'] at q1
    rcases before_tot (slip r) (slip s) with t | t | t
    · exact t
    · exact absurd t q2
    · rw [t] at q1; cases q1
  · rw [slipsOf_mem, List.mem_map]
    constructor
    · rintro ⟨r, hr, rfl⟩
      exact ⟨r, List.mem_mergeSort.mpr hr, rfl⟩
    · rintro ⟨r, hr, rfl⟩
      exact ⟨r, List.mem_mergeSort.mp hr, rfl⟩
theorem line_bytes (r : Row) : slipLine (slip r) = (lineOf r).map UInt8.ofNat := by
  unfold slipLine lineOf slip digits digitsOf lettersOf
  simp only [List.map_append, List.map_map, List.map_cons, List.map_nil, List.append_assoc, List.cons_append, List.nil_append]
  rfl
theorem written_eq {R : List Row} (h : Dist R) : slipsWritten (slipsOf R) = (textOf R).map UInt8.ofNat := by
  unfold slipsWritten textOf
  rw [slipsOf_eq h, List.flatMap_map, List.map_flatMap]
  congr 1
  funext r
  exact line_bytes r
end Slip
end
/-! ## MWay -/
section
set_option Elab.async false
set_option linter.all false
set_option maxHeartbeats 1000000
namespace Slip
open PySem PySem.Spec PyProof.Rows L2
open PySem.W (alike dataLe AllAlike Sortable EachIs TotalLe sort_pairwise dataLt dataLt_tuple dataLt_cons)
open SyBase SySpell SySlip
/-! what the ways keep: a track of a cutting -/
structure Trk where
  cost : Nat
  taken : Nat
  place : Nat
  coming : List Nat
  deriving DecidableEq
structure Mv where
  cost : Nat
  slips : Nat
  letter : Nat
  after : Nat
  behind : List Nat
  deriving DecidableEq
abbrev Pos2 := Nat × List Nat
def Trk.reached (T : Trk) : Pos2 := (T.place, T.coming)
def datT (T : Trk) : PyData := .tuple [.int T.cost, .int T.taken, .int T.place, dat T.coming]
def datM (m : Mv) : PyData := .tuple [.int m.cost, .int m.slips, .int m.letter, .int m.after, dat m.behind]
def trLe : Trk → Trk → Bool := dataLe false datT
def mvLe : Mv → Mv → Bool := dataLe false datM
theorem dataLe_tot {β : Type} (k : β → PyData) : TotalLe (dataLe false k) := PySem.W.sortLe_total _ _ _
theorem lt_first {x y : Nat} {xs ys : List PyData} (h : y < x) : dataLt (.tuple (.int y :: ys)) (.tuple (.int x :: xs)) = true := by
  rw [dataLt_tuple, dataLt_cons rfl]
  have e : PyData.eqv (.int (y : Int)) (.int (x : Int)) = false := by
    simp [PyData.eqv]
    omega
  rw [e, if_neg Bool.false_ne_true]
  have : dataLt (.int (y : Int)) (.int (x : Int)) = decide ((y : Int) < x) := PySem.W.dataLt_int _ _
  rw [this]
  exact decide_eq_true (by omega)
theorem trLe_cost {a b : Trk} (h : trLe a b = true) : a.cost ≤ b.cost := by
  have e : trLe a b = !dataLt (datT b) (datT a) := rfl
  rw [e, Bool.not_eq_true'] at h
  refine Nat.le_of_not_lt fun q => ?_
  rw [datT, datT, lt_first q] at h
  cases h
theorem mvLe_cost {a b : Mv} (h : mvLe a b = true) : a.cost ≤ b.cost := by
  have e : mvLe a b = !dataLt (datM b) (datM a) := rfl
  rw [e, Bool.not_eq_true'] at h
  refine Nat.le_of_not_lt fun q => ?_
  rw [datM, datM, lt_first q] at h
  cases h
theorem trSort (L : List Trk) : (L.mergeSort trLe).Pairwise fun a b => a.cost ≤ b.cost := (sort_pairwise (dataLe_tot datT) L).imp trLe_cost
theorem mvSort (L : List Mv) : (L.mergeSort mvLe).Pairwise fun a b => a.cost ≤ b.cost := (sort_pairwise (dataLe_tot datM) L).imp mvLe_cost
/-! the ways through t -/
def fitAt (R : List Row) (t : List Nat) (p : Nat) : List Row := R.filter fun r => decide ((t.drop p).take r.typed.length = r.typed)
def dropsAt (R : List Row) (t : List Nat) (p : Nat) : List (Nat × Nat) := ((fitAt R t p).filter fun r => r.meant.isEmpty).map fun r => (r.cost, p + r.typed.length)
def mvOf (p : Nat) (r : Row) : Mv := ⟨r.cost, 1, r.meant.headD 0, p + r.typed.length, r.meant.tail⟩
def movesRaw (R : List Row) (t : List Nat) (p : Nat) : List Mv := ((fitAt R t p).filter fun r => !r.meant.isEmpty).map (mvOf p) ++ (if p < t.length then [⟨0, 0, t.getD p 0, p + 1, []⟩] else [])
def movesAt (R : List Row) (t : List Nat) (p : Nat) : List Mv := (movesRaw R t p).mergeSort mvLe
def dropped (R : List Row) (t : List Nat) (T : Trk) : List Trk := if T.coming.isEmpty then (dropsAt R t T.place).map fun x => ⟨T.cost + x.1, T.taken + 1, x.2, []⟩ else []
/-! settled -/
abbrev Lst := Pos2 → Option Nat
def putL (f : Lst) (k : Pos2) (c : Nat) : Lst := fun q => if q = k then some c else f q
abbrev Stl := List Trk × Lst × List Trk
def vain (d : Nat) (f : Lst) (T : Trk) : Bool := decide (d < T.cost) || decide ((f T.reached).getD (d + 1) ≤ T.cost)
def stepS (R : List Row) (t : List Nat) (d k : Nat) (s : Stl) (T : Trk) : Stl :=
  if vain d s.2.1 T = true then s else (s.1 ++ (if k < 3 then dropped R t T else []), putL s.2.1 T.reached T.cost, s.2.2 ++ [T])
def levelL (Ts : List Trk) (k : Nat) (ext : List Trk) : List Trk := (Ts.filter (fun T => decide (T.taken = k)) ++ ext).mergeSort trLe
def level (R : List Row) (t : List Nat) (d : Nat) (Ts : List Trk) (s : Stl) (k : Nat) : Stl := (levelL Ts k s.1).foldl (stepS R t d k) ([], s.2.1, s.2.2)
def settledS (R : List Row) (t : List Nat) (d : Nat) (Ts : List Trk) (n : Nat) : Stl := (List.range n).foldl (level R t d Ts) ([], fun _ => none, [])
def settle (R : List Row) (t : List Nat) (d : Nat) (Ts : List Trk) : List Trk := (settledS R t d Ts 4).2.2
/-! onward -/
abbrev Fnd := List (Nat × List Trk)
def hasF (F : Fnd) (x : Nat) : Bool := F.any fun p => decide (p.1 = x)
def addTo (F : Fnd) (x : Nat) (T : Trk) : Fnd := if hasF F x = true then F.map fun p => if p.1 = x then (p.1, p.2 ++ [T]) else p else F ++ [(x, [T])]
def getF (F : Fnd) (x : Nat) : List Trk := ((F.find? fun p => decide (p.1 = x)).map (·.2)).getD []
def mvTo (T : Trk) (m : Mv) : Trk := ⟨T.cost + m.cost, T.taken + m.slips, m.after, m.behind⟩
def goMoves (d : Nat) (T : Trk) : Fnd → List Mv → Fnd
  | F, [] => F
  | F, m :: ms => if d < T.cost + m.cost then F else goMoves d T (if T.taken + m.slips ≤ 3 then addTo F m.letter (mvTo T m) else F) ms
def stepO (R : List Row) (t : List Nat) (d : Nat) (F : Fnd) (T : Trk) : Fnd := match T.coming with
  | x :: r => addTo F x ⟨T.cost, T.taken, T.place, r⟩
  | [] => goMoves d T F (movesAt R t T.place)
def onward (R : List Row) (t : List Nat) (d : Nat) (K : List Trk) : Fnd := K.foldl (stepO R t d) []
def leastOf : List Nat → Option Nat
  | [] => none
  | x :: l => some (l.foldl min x)
def wholeCost (t : List Nat) (K : List Trk) : Option Nat := leastOf ((K.filter fun T => decide (T.reached = (t.length, []))).map (·.cost))
end Slip
end
/-! ## MSet -/
section
set_option Elab.async false
set_option linter.all false
set_option maxHeartbeats 1000000
namespace Slip
open PySem PySem.Spec PyProof.Rows L2
open SyBase SySpell SySlip
section
variable {R : List Row} {t : List Nat} {d : Nat} {Ts : List Trk}
/-- r may be meant yet from the track, for c at most -/
def May (R : List Row) (t : List Nat) (T : Trk) (r : List Nat) (c : Nat) : Prop := ∃ r' c', r = T.coming ++ r' ∧ T.cost + c' ≤ c ∧ SM.Cut (slipsOf R) (3 - T.taken) (t.drop T.place) r' c'
def MayL (R : List Row) (t : List Nat) (Ts : List Trk) (r : List Nat) (c : Nat) : Prop := ∃ T ∈ Ts, May R t T r c
theorem May.le {T T' : Trk} {r : List Nat} {c : Nat} (h1 : T'.reached = T.reached) (h2 : T'.cost ≤ T.cost) (h3 : T'.taken ≤ T.taken) (h : May R t T r c) : May R t T' r c := by
  obtain ⟨r', c', e, l, q⟩ := h
  have e1 : T'.place = T.place := congrArg Prod.fst h1
  have e2 : T'.coming = T.coming := congrArg Prod.snd h1
  exact ⟨r', c', by rw [e2]; exact e, by omega, by rw [e1]; exact q.more (by omega)⟩
theorem fit_split {p : Nat} {x : List Nat} (h : (t.drop p).take x.length = x) : t.drop p = x ++ t.drop (p + x.length) := by
  have e := List.take_append_drop x.length (t.drop p)
  rw [h, List.drop_drop] at e
  exact e.symm
theorem fit_after {p : Nat} {x : List Nat} (hp : p ≤ t.length) (h : (t.drop p).take x.length = x) : p + x.length ≤ t.length := by
  have e := congrArg List.length h
  rw [List.length_take, List.length_drop] at e
  omega
theorem fit_mem {p : Nat} {r : Row} : r ∈ fitAt R t p ↔ r ∈ R ∧ (t.drop p).take r.typed.length = r.typed := by
  unfold fitAt
  rw [List.mem_filter, decide_eq_true_eq]
theorem drops_mem {p : Nat} {x : Nat × Nat} : x ∈ dropsAt R t p ↔ ∃ r ∈ R, (t.drop p).take r.typed.length = r.typed ∧ r.meant = [] ∧ x = (r.cost, p + r.typed.length) := by
  unfold dropsAt
  rw [List.mem_map]
  constructor
  · rintro ⟨r, hr, rfl⟩
    rw [List.mem_filter, List.isEmpty_iff] at hr
    have := fit_mem.mp hr.1
    exact ⟨r, this.1, this.2, hr.2, rfl⟩
  · rintro ⟨r, hr, h1, h2, rfl⟩
    exact ⟨r, List.mem_filter.mpr ⟨fit_mem.mpr ⟨hr, h1⟩, by rw [h2]; rfl⟩, rfl⟩
theorem dropped_mem {T T1 : Trk} : T1 ∈ dropped R t T ↔ T.coming = [] ∧ ∃ x ∈ dropsAt R t T.place, T1 = ⟨T.cost + x.1, T.taken + 1, x.2, []⟩ := by
  unfold dropped
  by_cases c : T.coming = []
  · rw [c]
    show T1 ∈ (dropsAt R t T.place).map _ ↔ _
    rw [List.mem_map]
    constructor
    · rintro ⟨x, hx, rfl⟩; exact ⟨rfl, x, hx, rfl⟩
    · rintro ⟨_, x, hx, rfl⟩; exact ⟨x, hx, rfl⟩
  · rw [if_neg (by rw [List.isEmpty_iff]; exact c)]
    constructor
    · intro h; cases h
    · rintro ⟨h, _⟩; exact absurd h c
theorem drop_may {T T1 : Trk} {r : List Nat} {c : Nat} (h1 : T1 ∈ dropped R t T) (h3 : T.taken < 3) (h : May R t T1 r c) : May R t T r c := by
  obtain ⟨e0, x, hx, rfl⟩ := dropped_mem.mp h1
  obtain ⟨s, hs, f1, f2, rfl⟩ := drops_mem.mp hx
  obtain ⟨r', c', e, l, q⟩ := h
  have q' : SM.Cut (slipsOf R) (3 - (T.taken + 1) + 1) ((slip s).typed ++ t.drop (T.place + s.typed.length)) ((slip s).meant ++ r') ((slip s).cost + c') := .slip (slipsOf_mem.mpr ⟨s, hs, rfl⟩) q
  refine ⟨r', s.cost + c', by rw [e0]; exact e, ?_, ?_⟩
  · have : T.cost + s.cost + c' ≤ c := l
    omega
  · have e3 : 3 - (T.taken + 1) + 1 = 3 - T.taken := by omega
    rw [e3] at q'
    have e4 : (slip s).meant ++ r' = r' := by show s.meant ++ r' = r'; rw [f2]; rfl
    rw [e4] at q'
    rw [fit_split f1]
    exact q'
/-- place, and what is to come, as they may be -/
def Fair (C : List (List Nat)) (t : List Nat) (T : Trk) : Prop := T.taken ≤ 3 ∧ T.place ≤ t.length ∧ T.coming ∈ C
theorem Fair.drop {C : List (List Nat)} (hC : [] ∈ C) {T T1 : Trk} (h : Fair C t T) (h1 : T1 ∈ dropped R t T) (h3 : T.taken < 3) : Fair C t T1 := by
  obtain ⟨e0, x, hx, rfl⟩ := dropped_mem.mp h1
  obtain ⟨s, hs, f1, f2, rfl⟩ := drops_mem.mp hx
  exact ⟨h3, fit_after h.2.1 f1, hC⟩
theorem dropped_taken {T T1 : Trk} (h1 : T1 ∈ dropped R t T) : T1.taken = T.taken + 1 := by
  obtain ⟨e0, x, hx, rfl⟩ := dropped_mem.mp h1
  rfl
def Sub (R : List Row) (t : List Nat) (Ts : List Trk) (T : Trk) : Prop := ∀ r c, May R t T r c → MayL R t Ts r c
structure SInv (R : List Row) (t : List Nat) (d : Nat) (Ts : List Trk) (C : List (List Nat)) (k : Nat) (all done : List Trk) (s : Stl) : Prop where
  kd : ∀ T ∈ s.2.2, T.cost ≤ d
  tk : ∀ T ∈ s.2.2, T.taken ≤ k
  lk : ∀ q c, s.2.1 q = some c → ∃ T ∈ s.2.2, T.reached = q ∧ T.cost = c
  kl : ∀ T ∈ s.2.2, ∃ c, s.2.1 T.reached = some c ∧ c ≤ T.cost
  dn : ∀ T ∈ done, T.cost ≤ d → ∃ T' ∈ s.2.2, T'.reached = T.reached ∧ T'.cost ≤ T.cost ∧ T'.taken ≤ T.taken
  nx : ∀ T ∈ s.2.2, T.taken = k → k < 3 → ∀ T1 ∈ dropped R t T, T1 ∈ s.1
  xn : ∀ T1 ∈ s.1, ∃ T ∈ s.2.2, T1 ∈ dropped R t T ∧ T.taken = k ∧ k < 3
  old : ∀ T ∈ s.2.2, T.taken < k → ∀ T1 ∈ dropped R t T, T1 ∈ all
  sd : ∀ T ∈ s.2.2, Sub R t Ts T
  fr : ∀ T ∈ s.2.2, Fair C t T
  nd : (s.2.2.map fun T => (T.taken, T.reached)).Nodup
variable {C : List (List Nat)} {k : Nat} {all done : List Trk} {s : Stl}
theorem SInv.step {T : Trk} (h : SInv R t d Ts C k all done s) (hk : T.taken = k) (hs : Sub R t Ts T) (hf : Fair C t T) (ho : ∀ T' ∈ s.2.2, T'.taken = k → T'.cost ≤ T.cost) :
    SInv R t d Ts C k all (done ++ [T]) (stepS R t d k s T) ∧ ∀ T' ∈ (stepS R t d k s T).2.2, T'.taken = k → T'.cost ≤ T.cost := by
  unfold stepS
  by_cases v : vain d s.2.1 T = true
  · rw [if_pos v]
    refine ⟨⟨h.kd, h.tk, h.lk, h.kl, fun T' m hc => ?_, h.nx, h.xn, h.old, h.sd, h.fr, h.nd⟩, ho⟩
    rcases List.mem_append.mp m with m | m
    · exact h.dn T' m hc
    · obtain rfl := List.mem_singleton.mp m
      unfold vain at v
      rw [Bool.or_eq_true, decide_eq_true_eq, decide_eq_true_eq] at v
      rcases v with v | v
      · omega
      · cases e : s.2.1 T'.reached with
        | none => rw [e] at v; simp only [Option.getD_none] at v; omega
        | some c =>
          rw [e] at v
          simp only [Option.getD_some] at v
          obtain ⟨T0, m0, e0, c0⟩ := h.lk _ _ e
          exact ⟨T0, m0, e0, by omega, by rw [hk]; exact h.tk _ m0⟩
  · rw [if_neg v]
    unfold vain at v
    rw [Bool.or_eq_true, decide_eq_true_eq, decide_eq_true_eq, not_or] at v
    have v1 : T.cost ≤ d := by omega
    have lt : ∀ c, s.2.1 T.reached = some c → T.cost < c := fun c e => by
      have := v.2
      rw [e, Option.getD_some] at this
      omega
    have mm : ∀ {T' : Trk}, T' ∈ s.2.2 ++ [T] → T' ∈ s.2.2 ∨ T' = T := fun {T'} m => (List.mem_append.mp m).imp id List.mem_singleton.mp
    refine ⟨⟨fun T' m => ?_, fun T' m => ?_, fun q c e => ?_, fun T' m => ?_, fun T' m hc => ?_, fun T' m e1 e2 T1 m1 => ?_, fun T1 m1 => ?_, fun T' m e T1 m1 => ?_, fun T' m => ?_, fun T' m => ?_, ?_⟩, fun T' m e => ?_⟩
    · rcases mm m with m | rfl
      · exact h.kd _ m
      · exact v1
    · rcases mm m with m | rfl
      · exact h.tk _ m
      · omega
    · have e' : (if q = T.reached then some T.cost else s.2.1 q) = some c := e
      by_cases z : q = T.reached
      · rw [if_pos z] at e'
        exact ⟨T, List.mem_append_right _ (.head _), z.symm, Option.some.inj e'⟩
      · rw [if_neg z] at e'
        obtain ⟨T0, m0, a, b⟩ := h.lk _ _ e'
        exact ⟨T0, List.mem_append_left _ m0, a, b⟩
    · have pe : ∀ q, putL s.2.1 T.reached T.cost q = if q = T.reached then some T.cost else s.2.1 q := fun _ => rfl
      show ∃ c, putL s.2.1 T.reached T.cost T'.reached = some c ∧ c ≤ T'.cost
      rw [pe]
      rcases mm m with m | rfl
      · obtain ⟨c, e, l⟩ := h.kl _ m
        by_cases z : T'.reached = T.reached
        · rw [if_pos z]
          rw [z] at e
          have := lt _ e
          exact ⟨_, rfl, by omega⟩
        · rw [if_neg z]
          exact ⟨c, e, l⟩
      · rw [if_pos rfl]
        exact ⟨_, rfl, Nat.le_refl _⟩
    · rcases List.mem_append.mp m with m | m
      · obtain ⟨T0, m0, a⟩ := h.dn T' m hc
        exact ⟨T0, List.mem_append_left _ m0, a⟩
      · obtain rfl := List.mem_singleton.mp m
        exact ⟨_, List.mem_append_right _ (.head _), rfl, Nat.le_refl _, Nat.le_refl _⟩
    · rcases mm m with m | rfl
      · exact List.mem_append_left _ (h.nx _ m e1 e2 _ m1)
      · refine List.mem_append_right _ ?_
        rw [if_pos e2]
        exact m1
    · rcases List.mem_append.mp m1 with m1 | m1
      · obtain ⟨T0, m0, a⟩ := h.xn _ m1
        exact ⟨T0, List.mem_append_left _ m0, a⟩
      · by_cases c : k < 3
        · rw [if_pos c] at m1
          exact ⟨T, List.mem_append_right _ (.head _), m1, hk, c⟩
        · rw [if_neg c] at m1
          cases m1
    · rcases mm m with m | rfl
      · exact h.old _ m e _ m1
      · omega
    · rcases mm m with m | rfl
      · exact h.sd _ m
      · exact hs
    · rcases mm m with m | rfl
      · exact h.fr _ m
      · exact hf
    · rw [List.map_append, List.nodup_append]
      refine ⟨h.nd, by simp, fun x hx y hy e => ?_⟩
      rw [List.map_cons, List.map_nil, List.mem_singleton] at hy
      obtain ⟨T', m', rfl⟩ := List.mem_map.mp hx
      rw [hy] at e
      have e1 : T'.taken = T.taken := congrArg Prod.fst e
      have e2 : T'.reached = T.reached := congrArg Prod.snd e
      obtain ⟨c, a, b⟩ := h.kl _ m'
      rw [e2] at a
      have := lt _ a
      have := ho _ m' (e1.trans hk)
      omega
    · rcases mm m with m | rfl
      · exact ho _ m e
      · exact Nat.le_refl _
theorem SInv.fold : ∀ (L : List Trk) {done : List Trk} {s : Stl}, SInv R t d Ts C k all done s → (∀ T ∈ L, T.taken = k ∧ Sub R t Ts T ∧ Fair C t T) → L.Pairwise (fun a b => a.cost ≤ b.cost) → (∀ T' ∈ s.2.2, T'.taken = k → ∀ T ∈ L, T'.cost ≤ T.cost) →
    SInv R t d Ts C k all (done ++ L) (L.foldl (stepS R t d k) s)
  | [], done, s, h, _, _, _ => by rw [List.append_nil]; exact h
  | T :: L, done, s, h, hL, hp, ho => by
    rw [List.pairwise_cons] at hp
    obtain ⟨a, b, c⟩ := hL T (.head _)
    obtain ⟨h1, h2⟩ := h.step a b c fun T' m e => ho T' m e T (.head _)
    have := SInv.fold L h1 (fun T' m => hL T' (.tail _ m)) hp.2 fun T' m e T1 m1 => Nat.le_trans (h2 T' m e) (hp.1 T1 m1)
    rw [List.append_assoc] at this
    exact this
/-- one level more -/
theorem SInv.level (hC : [] ∈ C) (hT : ∀ T ∈ Ts, Fair C t T) {k' : Nat} (hk : k' = k + 1) (hk3 : k < 3) (h : SInv R t d Ts C k done done s) : SInv R t d Ts C k' (done ++ levelL Ts k' s.1) (done ++ levelL Ts k' s.1) (level R t d Ts s k') := by
  subst hk
  have hm : ∀ T, T ∈ levelL Ts (k + 1) s.1 ↔ (T ∈ Ts ∧ T.taken = k + 1) ∨ T ∈ s.1 := fun T => by
    unfold levelL
    rw [List.mem_mergeSort, List.mem_append, List.mem_filter, decide_eq_true_eq]
  refine SInv.fold _ (s := ([], s.2.1, s.2.2)) (done := done) ⟨h.kd, fun T m => Nat.le_succ_of_le (h.tk T m), h.lk, h.kl, h.dn, fun T m e => ?_, fun _ m => (nomatch m), fun T m e T1 m1 => ?_, h.sd, h.fr, h.nd⟩ (fun T m => ?_) (trSort _) fun T m e => ?_
  · have := h.tk T m; omega
  · rcases Nat.lt_or_ge T.taken k with q | q
    · exact List.mem_append_left _ (h.old T m q T1 m1)
    · have e2 : T.taken = k := by have := h.tk T m; omega
      exact List.mem_append_right _ ((hm _).mpr (.inr (h.nx T m e2 hk3 T1 m1)))
  · rcases (hm T).mp m with ⟨a, b⟩ | m
    · exact ⟨b, fun r c q => ⟨T, a, q⟩, hT T a⟩
    · obtain ⟨T0, m0, a, b, c⟩ := h.xn T m
      exact ⟨by rw [dropped_taken a, b], fun r c' q => h.sd T0 m0 r c' (drop_may a (by omega) q), (h.fr T0 m0).drop hC a (by omega)⟩
  · have := h.tk T m; omega
/-- level 0 -/
theorem SInv.zero (hT : ∀ T ∈ Ts, Fair C t T) : SInv R t d Ts C 0 (levelL Ts 0 []) (levelL Ts 0 []) (Slip.level R t d Ts ([], fun _ => none, []) 0) := by
  have hm : ∀ T, T ∈ levelL Ts 0 [] ↔ (T ∈ Ts ∧ T.taken = 0) := fun T => by
    unfold levelL
    rw [List.mem_mergeSort, List.append_nil, List.mem_filter, decide_eq_true_eq]
  have := SInv.fold (R := R) (t := t) (d := d) (Ts := Ts) (C := C) (k := 0) (all := levelL Ts 0 []) (done := []) (levelL Ts 0 []) (s := ([], fun _ => none, [])) ⟨fun _ m => (nomatch m), fun _ m => (nomatch m), fun _ _ e => (nomatch e), fun _ m => (nomatch m), fun _ m => (nomatch m), fun _ m => (nomatch m), fun _ m => (nomatch m), fun _ m => (nomatch m), fun _ m => (nomatch m), fun _ m => (nomatch m), List.nodup_nil⟩
    (fun T m => ⟨((hm T).mp m).2, fun r c q => ⟨T, ((hm T).mp m).1, q⟩, hT T ((hm T).mp m).1⟩) (trSort _) (fun _ m => (nomatch m))
  exact this
/-- what settled keeps -/
structure Stld (R : List Row) (t : List Nat) (d : Nat) (C : List (List Nat)) (Ts K : List Trk) : Prop where
  le : ∀ T ∈ K, T.cost ≤ d
  fair : ∀ T ∈ K, Fair C t T
  sub : ∀ T ∈ K, Sub R t Ts T
  have_ : ∀ T ∈ Ts, T.cost ≤ d → ∃ T' ∈ K, T'.reached = T.reached ∧ T'.cost ≤ T.cost ∧ T'.taken ≤ T.taken
  drop : ∀ T ∈ K, T.taken < 3 → ∀ T1 ∈ dropped R t T, T1.cost ≤ d → ∃ T' ∈ K, T'.reached = T1.reached ∧ T'.cost ≤ T1.cost ∧ T'.taken ≤ T1.taken
  nd : (K.map fun T => (T.taken, T.reached)).Nodup
theorem settle_is (hC : [] ∈ C) (hT : ∀ T ∈ Ts, Fair C t T) : Stld R t d C Ts (settle R t d Ts) := by
  have h0 := SInv.zero (R := R) (t := t) (d := d) (C := C) hT
  have h1 := h0.level hC hT (k' := 1) rfl (by decide)
  have h2 := h1.level hC hT (k' := 2) rfl (by decide)
  have h3 := h2.level hC hT (k' := 3) rfl (by decide)
  have e : level R t d Ts (level R t d Ts (level R t d Ts (level R t d Ts ([], fun _ => none, []) 0) 1) 2) 3 = settledS R t d Ts 4 := rfl
  rw [e] at h3
  refine ⟨h3.kd, h3.fr, h3.sd, fun T m c => h3.dn T ?_ c, fun T m l T1 m1 c => h3.dn T1 (h3.old T m l T1 m1) c, h3.nd⟩
  have hm : ∀ k ext, T.taken = k → T ∈ levelL Ts k ext := fun k ext q => by
    unfold levelL
    rw [List.mem_mergeSort, List.mem_append, List.mem_filter, decide_eq_true_eq]
    exact .inl ⟨m, q⟩
  have := (hT T m).1
  rcases (by omega : T.taken = 0 ∨ T.taken = 1 ∨ T.taken = 2 ∨ T.taken = 3) with q | q | q | q
  · exact List.mem_append_left _ (List.mem_append_left _ (List.mem_append_left _ (hm _ _ q)))
  · exact List.mem_append_left _ (List.mem_append_left _ (List.mem_append_right _ (hm _ _ q)))
  · exact List.mem_append_left _ (List.mem_append_right _ (hm _ _ q))
  · exact List.mem_append_right _ (hm _ _ q)
theorem Stld.may {K : List Trk} (h : Stld R t d C Ts K) {r : List Nat} {c : Nat} (hc : c ≤ d) : MayL R t K r c ↔ MayL R t Ts r c := by
  constructor
  · rintro ⟨T, m, q⟩
    exact h.sub T m r c q
  · rintro ⟨T, m, q⟩
    have : T.cost ≤ d := by obtain ⟨_, _, _, l, _⟩ := q; omega
    obtain ⟨T', m', a, b, e⟩ := h.have_ T m this
    exact ⟨T', m', q.le a b e⟩
/-- what may be kept at all -/
theorem Stld.len {K : List Trk} (h : Stld R t d C Ts K) : K.length ≤ 4 * ((t.length + 1) * C.length) := by
  have sub : ∀ x ∈ K.map fun T => (T.taken, T.reached), x ∈ (List.range 4).flatMap fun a => ((List.range (t.length + 1)).flatMap fun b => C.map fun c => (b, c)).map fun y => (a, y) := by
    intro x hx
    obtain ⟨T, m, rfl⟩ := List.mem_map.mp hx
    obtain ⟨f1, f2, f3⟩ := h.fair T m
    rw [List.mem_flatMap]
    refine ⟨T.taken, List.mem_range.mpr (by omega), List.mem_map.mpr ⟨T.reached, ?_, rfl⟩⟩
    rw [List.mem_flatMap]
    exact ⟨T.place, List.mem_range.mpr (by omega), List.mem_map.mpr ⟨T.coming, f3, rfl⟩⟩
  have := SM.length_le_of_sub h.nd sub
  rw [List.length_map] at this
  refine Nat.le_trans this (Nat.le_of_eq ?_)
  simp only [List.length_flatMap, List.length_map, List.map_const', List.sum_replicate_nat, List.length_range]
end
end Slip
end
/-! ## MGo -/
section
set_option Elab.async false
set_option linter.all false
set_option maxHeartbeats 1000000
namespace Slip
open PySem PySem.Spec PyProof.Rows L2
open SyBase SySpell SySlip
section
variable {R : List Row} {t : List Nat} {d : Nat} {Ts K : List Trk} {C : List (List Nat)}
/-! the letters that are found -/
theorem getF_add (F : Fnd) (x y : Nat) (T : Trk) : getF (addTo F x T) y = if y = x then getF F x ++ [T] else getF F y := by
  unfold addTo
  by_cases h : hasF F x = true
  · rw [if_pos h]
    have go : ∀ F : Fnd, hasF F x = true → getF (F.map fun p => if p.1 = x then (p.1, p.2 ++ [T]) else p) y = if y = x then getF F x ++ [T] else getF F y := by
      intro F
      induction F with
      | nil => intro h; cases h
      | cons p F ih =>
        intro h
        unfold getF at ih ⊢
        rw [List.map_cons, List.find?_cons, List.find?_cons, List.find?_cons]
        by_cases hp : p.1 = x
        · rw [if_pos hp]
          by_cases hy : y = x
          · rw [if_pos hy, hy]
            simp only [hp, decide_true, Option.map_some, Option.getD_some]
          · rw [if_neg hy]
            have : ¬ p.1 = y := fun e => hy (e.symm.trans hp)
            simp only [this, decide_false]
            congr 2
            induction F with
            | nil => rfl
            | cons q F ih2 =>
              rw [List.map_cons, List.find?_cons, List.find?_cons]
              by_cases hq : q.1 = x
              · rw [if_pos hq]
                have : ¬ q.1 = y := fun e => hy (e.symm.trans hq)
                simp only [this, decide_false]
                by_cases hF : hasF F x = true
                · exact ih2 (fun hh => ih (by simp [hasF, hq])  |> fun z => by
                    simp only [List.map_cons, List.find?_cons, if_pos hq, this, decide_false, if_neg hy] at z
                    rw [if_neg hy]; exact z) (by simp [hasF, hp])
                · clear ih ih2
                  induction F with
                  | nil => rfl
                  | cons z F ih3 =>
                    have hz : ¬ z.1 = x := fun e => hF (by simp [hasF, e])
                    rw [List.map_cons, List.find?_cons, List.find?_cons, if_neg hz]
                    by_cases zy : z.1 = y
                    · simp only [zy, decide_true]
                    · simp only [zy, decide_false]
                      exact ih3 (by simp [hasF, hp]) fun e => hF (by simp [hasF] at e ⊢; exact .inr e)
              · rw [if_neg hq]
                by_cases zy : q.1 = y
                · simp only [zy, decide_true]
                · simp only [zy, decide_false]
                  exact ih2 (fun hh => by
                    have := ih (by simp [hasF] at hh ⊢; exact .inr hh)
                    simp only [List.map_cons, List.find?_cons, if_neg hq, zy, decide_false, if_neg hy] at this
                    rw [if_neg hy]; exact this) (by simp [hasF, hp])
        · rw [if_neg hp]
          have h' : hasF F x = true := by simpa [hasF, hp] using h
          have := ih h'
          by_cases py : p.1 = y
          · have : ¬ y = x := fun e => hp (py.trans e)
            simp only [py, decide_true, if_neg this]
          · simp only [py, hp, decide_false]
            exact this
    exact go F h
  · rw [if_neg h]
    unfold getF
    rw [List.find?_append]
    have no : F.find? (fun p => decide (p.1 = x)) = none := by
      rw [List.find?_eq_none]
      intro p hp e
      exact h (List.any_eq_true.mpr ⟨p, hp, e⟩)
    by_cases hy : y = x
    · subst hy
      rw [if_pos rfl, no]
      simp
    · rw [if_neg hy]
      have : ¬ x = y := fun e => hy e.symm
      cases e : F.find? (fun p => decide (p.1 = y)) with
      | none => simp [this]
      | some p => simp
theorem hasF_keys {F : Fnd} {x : Nat} : hasF F x = true ↔ x ∈ F.map (·.1) := by
  unfold hasF
  rw [List.any_eq_true, List.mem_map]
  constructor
  · rintro ⟨p, hp, e⟩; exact ⟨p, hp, of_decide_eq_true e⟩
  · rintro ⟨p, hp, e⟩; exact ⟨p, hp, decide_eq_true e⟩
/-- each letter once, and under it something -/
structure FOk (F : Fnd) : Prop where
  nd : (F.map (·.1)).Nodup
  ne : ∀ p ∈ F, p.2 ≠ []
theorem FOk.nil : FOk [] := ⟨List.nodup_nil, fun _ h => (nomatch h)⟩
theorem FOk.add {F : Fnd} (h : FOk F) (x : Nat) (T : Trk) : FOk (addTo F x T) := by
  unfold addTo
  by_cases c : hasF F x = true
  · rw [if_pos c]
    refine ⟨?_, fun p hp => ?_⟩
    · have e : (F.map fun p => if p.1 = x then (p.1, p.2 ++ [T]) else p).map (·.1) = F.map (·.1) := by
        rw [List.map_map]
        refine List.map_congr_left fun p _ => ?_
        show (if p.1 = x then (p.1, p.2 ++ [T]) else p).1 = p.1
        split <;> rfl
      rw [e]; exact h.nd
    · obtain ⟨q, hq, rfl⟩ := List.mem_map.mp hp
      by_cases e : q.1 = x
      · rw [if_pos e]; simp
      · rw [if_neg e]; exact h.ne q hq
  · rw [if_neg c]
    refine ⟨?_, fun p hp => ?_⟩
    · rw [List.map_append, List.nodup_append]
      refine ⟨h.nd, by simp, fun a ha b hb e => c (hasF_keys.mpr ?_)⟩
      simp only [List.map_cons, List.map_nil, List.mem_singleton] at hb
      rw [← hb, ← e]; exact ha
    · rcases List.mem_append.mp hp with hp | hp
      · exact h.ne p hp
      · rw [List.mem_singleton.mp hp]; simp
theorem getF_mem {F : Fnd} (h : FOk F) {p : Nat × List Trk} (hp : p ∈ F) : getF F p.1 = p.2 := by
  unfold getF
  have : F.find? (fun q => decide (q.1 = p.1)) = some p := by
    have nd := h.nd
    clear h
    induction F with
    | nil => cases hp
    | cons q F ih =>
      rw [List.map_cons, List.nodup_cons] at nd
      rw [List.find?_cons]
      rcases List.mem_cons.mp hp with e | hp
      · subst e; simp
      · have : ¬ q.1 = p.1 := fun e => nd.1 (by rw [e]; exact List.mem_map_of_mem hp)
        simp only [this, decide_false]
        exact ih hp nd.2
  rw [this]; rfl
theorem getF_there {F : Fnd} {x : Nat} {T : Trk} (h : T ∈ getF F x) : ∃ p ∈ F, p.1 = x ∧ T ∈ p.2 := by
  unfold getF at h
  cases e : F.find? (fun p => decide (p.1 = x)) with
  | none => rw [e] at h; cases h
  | some p =>
    rw [e] at h
    have e2 := List.find?_some (p := fun p : Nat × List Trk => decide (p.1 = x)) e
    exact ⟨p, List.mem_of_find?_eq_some e, of_decide_eq_true e2, h⟩
theorem FOk.moves {T : Trk} : ∀ (ms : List Mv) {F : Fnd}, FOk F → FOk (goMoves d T F ms)
  | [], F, h => h
  | m :: ms, F, h => by
    unfold goMoves
    split
    · exact h
    · refine FOk.moves ms ?_
      split
      · exact h.add _ _
      · exact h
theorem FOk.onward : FOk (onward R t d K) := by
  have go : ∀ (K : List Trk) (F : Fnd), FOk F → FOk (K.foldl (stepO R t d) F) := by
    intro K
    induction K with
    | nil => intro F h; exact h
    | cons T K ih =>
      intro F h
      rw [List.foldl_cons]
      refine ih _ ?_
      unfold stepO
      split
      · exact h.add _ _
      · exact h.moves _
  exact go K [] FOk.nil
/-! where a track goes under a letter -/
def GoesM (d : Nat) (T : Trk) (x : Nat) (T' : Trk) (m : Mv) : Prop := T.cost + m.cost ≤ d ∧ T.taken + m.slips ≤ 3 ∧ m.letter = x ∧ T' = mvTo T m
def Goes (R : List Row) (t : List Nat) (d : Nat) (T : Trk) (x : Nat) (T' : Trk) : Prop :=
  (∃ r, T.coming = x :: r ∧ T' = ⟨T.cost, T.taken, T.place, r⟩) ∨ (T.coming = [] ∧ ∃ m ∈ movesAt R t T.place, GoesM d T x T' m)
theorem goMoves_mem {T T' : Trk} {x : Nat} : ∀ (ms : List Mv) {F : Fnd}, ms.Pairwise (fun a b => a.cost ≤ b.cost) → (T' ∈ getF (goMoves d T F ms) x ↔ T' ∈ getF F x ∨ ∃ m ∈ ms, GoesM d T x T' m)
  | [], F, _ => ⟨.inl, fun h => h.elim id fun ⟨_, m, _⟩ => nomatch m⟩
  | m :: ms, F, hp => by
    rw [List.pairwise_cons] at hp
    unfold goMoves
    by_cases c : d < T.cost + m.cost
    · rw [if_pos c]
      refine ⟨.inl, fun h => h.elim id ?_⟩
      rintro ⟨m', hm, g, _⟩
      rcases List.mem_cons.mp hm with rfl | hm
      · omega
      · have := hp.1 m' hm; omega
    · rw [if_neg c, goMoves_mem ms hp.2]
      by_cases c2 : T.taken + m.slips ≤ 3
      · rw [if_pos c2, getF_add]
        by_cases e : x = m.letter
        · rw [if_pos e, List.mem_append, List.mem_singleton, e]
          constructor
          · rintro ((h | h) | ⟨m', a, b⟩)
            · exact .inl h
            · exact .inr ⟨m, .head _, by omega, c2, rfl, h⟩
            · exact .inr ⟨m', .tail _ a, b⟩
          · rintro (h | ⟨m', a, b⟩)
            · exact .inl (.inl h)
            · rcases List.mem_cons.mp a with rfl | a
              · exact .inl (.inr b.2.2.2)
              · exact .inr ⟨m', a, b⟩
        · rw [if_neg e]
          refine or_congr Iff.rfl ⟨fun ⟨m', a, b⟩ => ⟨m', .tail _ a, b⟩, ?_⟩
          rintro ⟨m', a, b⟩
          rcases List.mem_cons.mp a with rfl | a
          · exact absurd b.2.2.1.symm e
          · exact ⟨m', a, b⟩
      · rw [if_neg c2]
        refine or_congr Iff.rfl ⟨fun ⟨m', a, b⟩ => ⟨m', .tail _ a, b⟩, ?_⟩
        rintro ⟨m', a, b⟩
        rcases List.mem_cons.mp a with rfl | a
        · exact absurd b.2.1 c2
        · exact ⟨m', a, b⟩
theorem stepO_mem {F : Fnd} {T T' : Trk} {x : Nat} : T' ∈ getF (stepO R t d F T) x ↔ T' ∈ getF F x ∨ Goes R t d T x T' := by
  unfold stepO Goes
  cases e : T.coming with
  | nil =>
    show T' ∈ getF (goMoves d T F (movesAt R t T.place)) x ↔ _
    unfold movesAt
    rw [goMoves_mem _ (mvSort _)]
    refine or_congr Iff.rfl ⟨fun h => .inr ⟨rfl, h⟩, ?_⟩
    rintro (⟨r, h, _⟩ | ⟨_, h⟩)
    · cases h
    · exact h
  | cons y r =>
    show T' ∈ getF (addTo F y _) x ↔ _
    rw [getF_add]
    by_cases c : x = y
    · rw [if_pos c, List.mem_append, List.mem_singleton, c]
      refine or_congr Iff.rfl ⟨fun h => .inl ⟨r, rfl, h⟩, ?_⟩
      rintro (⟨r', h, q⟩ | ⟨h, _⟩)
      · injection h with h1 h2
        subst h2
        exact q
      · cases h
    · rw [if_neg c]
      refine ⟨.inl, fun h => h.elim id ?_⟩
      rintro (⟨r', h, q⟩ | ⟨h, _⟩)
      · injection h with h1 h2
        exact absurd h1.symm c
      · cases h
theorem onward_mem {T' : Trk} {x : Nat} : T' ∈ getF (onward R t d K) x ↔ ∃ T ∈ K, Goes R t d T x T' := by
  have go : ∀ (K : List Trk) (F : Fnd), T' ∈ getF (K.foldl (stepO R t d) F) x ↔ T' ∈ getF F x ∨ ∃ T ∈ K, Goes R t d T x T' := by
    intro K
    induction K with
    | nil => intro F; exact ⟨.inl, fun h => h.elim id fun ⟨_, m, _⟩ => nomatch m⟩
    | cons T K ih =>
      intro F
      rw [List.foldl_cons, ih, stepO_mem, or_assoc]
      refine or_congr Iff.rfl ⟨?_, ?_⟩
      · rintro (h | ⟨T0, m, h⟩)
        · exact ⟨T, .head _, h⟩
        · exact ⟨T0, .tail _ m, h⟩
      · rintro ⟨T0, m, h⟩
        rcases List.mem_cons.mp m with rfl | m
        · exact .inl h
        · exact .inr ⟨T0, m, h⟩
  refine (go K []).trans ⟨fun h => h.elim (fun h => nomatch h) id, .inr⟩
theorem moves_mem {p : Nat} {m : Mv} : m ∈ movesAt R t p ↔ (∃ s ∈ R, (t.drop p).take s.typed.length = s.typed ∧ s.meant ≠ [] ∧ m = mvOf p s) ∨ (p < t.length ∧ m = ⟨0, 0, t.getD p 0, p + 1, []⟩) := by
  unfold movesAt movesRaw
  rw [List.mem_mergeSort, List.mem_append, List.mem_map]
  refine or_congr ⟨?_, ?_⟩ ?_
  · rintro ⟨s, hs, rfl⟩
    rw [List.mem_filter] at hs
    have := fit_mem.mp hs.1
    refine ⟨s, this.1, this.2, fun e => ?_, rfl⟩
    have := hs.2
    rw [e] at this
    cases this
  · rintro ⟨s, hs, h1, h2, rfl⟩
    refine ⟨s, List.mem_filter.mpr ⟨fit_mem.mpr ⟨hs, h1⟩, ?_⟩, rfl⟩
    cases e : s.meant with
    | nil => exact absurd e h2
    | cons _ _ => rfl
  · by_cases c : p < t.length
    · rw [if_pos c, List.mem_singleton]
      exact ⟨fun h => ⟨c, h⟩, fun h => h.2⟩
    · rw [if_neg c]
      exact ⟨fun h => (nomatch h), fun h => absurd h.1 c⟩
/-- how many are found -/
def sizeF (F : Fnd) : Nat := (F.map fun p => p.2.length).sum
theorem sizeF_add (F : Fnd) (h : FOk F) (x : Nat) (T : Trk) : sizeF (addTo F x T) = sizeF F + 1 := by
  unfold addTo
  by_cases c : hasF F x = true
  · rw [if_pos c]
    have nd := h.nd
    clear h
    induction F with
    | nil => cases c
    | cons p F ih =>
      rw [List.map_cons, List.nodup_cons] at nd
      rw [List.map_cons]
      by_cases e : p.1 = x
      · rw [if_pos e]
        have : F.map (fun p => if p.1 = x then (p.1, p.2 ++ [T]) else p) = F := by
          conv => rhs; rw [← List.map_id F]
          refine List.map_congr_left fun q hq => ?_
          have : ¬ q.1 = x := fun z => nd.1 (by rw [e, ← z]; exact List.mem_map_of_mem hq)
          rw [if_neg this]; rfl
        rw [this]
        unfold sizeF
        simp only [List.map_cons, List.sum_cons, List.length_append, List.length_singleton]
        omega
      · rw [if_neg e]
        have c' : hasF F x = true := by simpa [hasF, e] using c
        have := ih c' nd.2
        unfold sizeF at this ⊢
        simp only [List.map_cons, List.sum_cons]
        omega
  · rw [if_neg c]
    unfold sizeF
    simp [List.sum_append]
theorem sizeF_moves {T : Trk} : ∀ (ms : List Mv) {F : Fnd}, FOk F → sizeF (goMoves d T F ms) ≤ sizeF F + ms.length
  | [], F, h => Nat.le_refl _
  | m :: ms, F, h => by
    unfold goMoves
    rw [List.length_cons]
    by_cases c : d < T.cost + m.cost
    · rw [if_pos c]; omega
    · rw [if_neg c]
      by_cases c2 : T.taken + m.slips ≤ 3
      · rw [if_pos c2]
        have := sizeF_moves (T := T) ms (h.add m.letter (mvTo T m))
        rw [sizeF_add _ h] at this
        omega
      · rw [if_neg c2]
        have := sizeF_moves (T := T) ms h
        omega
theorem moves_len {p : Nat} : (movesAt R t p).length ≤ R.length + 1 := by
  unfold movesAt movesRaw fitAt
  rw [List.length_mergeSort, List.length_append, List.length_map]
  have a := List.length_filter_le (fun r : Row => !r.meant.isEmpty) (R.filter fun r => decide ((t.drop p).take r.typed.length = r.typed))
  have b := List.length_filter_le (fun r : Row => decide ((t.drop p).take r.typed.length = r.typed)) R
  have c : (if p < t.length then [(⟨0, 0, t.getD p 0, p + 1, []⟩ : Mv)] else []).length ≤ 1 := by
    split <;> simp
  omega
theorem FOk.step {F : Fnd} (h : FOk F) (T : Trk) : FOk (stepO R t d F T) := by
  unfold stepO
  split
  · exact h.add _ _
  · exact h.moves _
theorem sizeF_onward : sizeF (onward R t d K) ≤ K.length * (R.length + 1) := by
  have go : ∀ (K : List Trk) (F : Fnd), FOk F → sizeF (K.foldl (stepO R t d) F) ≤ sizeF F + K.length * (R.length + 1) := by
    intro K
    induction K with
    | nil => intro F h; simp
    | cons T K ih =>
      intro F h
      rw [List.foldl_cons]
      have a := ih _ (h.step (R := R) (t := t) (d := d) T)
      have b : sizeF (stepO R t d F T) ≤ sizeF F + (R.length + 1) := by
        unfold stepO
        split
        · rw [sizeF_add _ h]; omega
        · have := sizeF_moves (d := d) (T := T) (movesAt R t T.place) h
          have := moves_len (R := R) (t := t) (p := T.place)
          omega
      rw [List.length_cons, Nat.succ_mul]
      omega
  have := go K [] FOk.nil
  have e : sizeF [] = 0 := rfl
  rw [e, Nat.zero_add] at this
  exact this
theorem getF_le (F : Fnd) (x : Nat) : (getF F x).length ≤ sizeF F := by
  unfold getF
  cases e : F.find? (fun p => decide (p.1 = x)) with
  | none => exact Nat.zero_le _
  | some p =>
    have hm := List.mem_of_find?_eq_some e
    show p.2.length ≤ sizeF F
    unfold sizeF
    clear e
    induction F with
    | nil => cases hm
    | cons q F ih =>
      rw [List.map_cons, List.sum_cons]
      rcases List.mem_cons.mp hm with rfl | hm
      · omega
      · have := ih hm; omega
theorem keys_le {F : Fnd} (h : FOk F) : F.length ≤ sizeF F := by
  have ne := h.ne
  clear h
  unfold sizeF
  induction F with
  | nil => exact Nat.le_refl _
  | cons p F ih =>
    rw [List.map_cons, List.sum_cons, List.length_cons]
    have := ih fun q hq => ne q (.tail _ hq)
    have := List.length_pos_iff.mpr (ne p (.head _))
    omega
end
end Slip
end
/-! ## PWay -/
section
set_option Elab.async false
set_option linter.all false
set_option maxRecDepth 100000
set_option maxHeartbeats 2000000
namespace Slip
open PySem PySem.Spec PyProof.Rows L2
open PySem.W (alike dataLe AllAlike Sortable EachIs)
abbrev sWays : Stmt := top 8
abbrev sFitting : Stmt := top 9
abbrev sMovesAt : Stmt := top 10
abbrev sWInit : Stmt := inClass sWays 0
abbrev sFirst : Stmt := inClass sWays 1
abbrev sSettled : Stmt := inClass sWays 2
abbrev sDropped : Stmt := inClass sWays 3
abbrev sOnward : Stmt := inClass sWays 4
abbrev sWhole : Stmt := inClass sWays 5
/-! slices and compares of rows of numbers -/
def cutN (l : List Nat) (lo hi : Option Int) : List Nat := (l.drop (HT.sIx l.length 0 lo)).take (HT.sIx l.length l.length hi - HT.sIx l.length 0 lo)
theorem cutV_ivs (l : List Nat) (lo hi : Option Int) : cutV (ivs l) lo hi = ivs (cutN l lo hi) := by
  unfold cutV cutN ivs
  rw [List.length_map, List.map_take, List.map_drop]
theorem sl_ivs {K : PySem.W.Frag} {H : Hp} {a : Addr} {l : List Nat} {lo hi : Option Int} {Q : VK} (h : H a = some (.tup (ivs l))) (q : ∀ c H', Same H H' → H' c = some (.tup (ivs (cutN l lo hi))) → Q (.ref c) H') : rSlA K (.ref a) lo hi H Q := by
  refine ⟨a, ivs l, rfl, .inl (.inl h), fun z => ?_, fun _ p np => ?_⟩
  · refine q a H (Same.refl H) ?_
    rw [List.length_map] at z
    have e : cutN l lo hi = l := by
      unfold cutN
      rw [z.1, z.2, List.drop_zero, Nat.sub_zero, List.take_length]
    rw [e]
    exact h
  · refine q p _ (Same.new (Same.refl H) np) ?_
    rw [upd_same, cutV_ivs]
theorem cut_at {l : List Nat} {p k : Nat} (hp : p ≤ l.length) : cutN l (some ((p : Nat) : Int)) (some ((p : Int) + (k : Int))) = (l.drop p).take k := by
  have e : (p : Int) + (k : Int) = ((p + k : Nat) : Int) := by omega
  unfold cutN
  rw [e, HT.sIx_nat, HT.sIx_nat, Nat.min_eq_left hp]
  rcases Nat.lt_or_ge (p + k) l.length with q | q
  · rw [Nat.min_eq_left (by omega)]
    congr 1
    omega
  · rw [Nat.min_eq_right q, List.take_of_length_le (by rw [List.length_drop]; omega), List.take_of_length_le (by rw [List.length_drop]; omega)]
theorem cut_from {l : List Nat} {k : Nat} : cutN l (some (k : Int)) none = l.drop k := by
  unfold cutN
  rw [HT.sIx_nat, HT.sIx_none]
  rcases Nat.lt_or_ge k l.length with q | q
  · rw [Nat.min_eq_left (by omega), List.take_of_length_le (by rw [List.length_drop]; omega)]
  · rw [Nat.min_eq_right q, Nat.sub_self, List.take_zero, List.drop_eq_nil_of_le q]
/-- of each letter a fitting slip: what it costs, the place behind, the letters meant -/
def FitAt (p : Nat) (H : Hp) (v : V) (r : Row) : Prop := ∃ a b, v = .ref a ∧ H a = some (.tup [iv r.cost, iv (p + r.typed.length), .ref b]) ∧ H b = some (.tup (ivs r.meant))
/-- tuples stay -/
def TupS (H H' : Hp) : Prop := ∀ b xs, H b = some (.tup xs) → H' b = some (.tup xs)
theorem TupS.of {H H' : Hp} (e : Same H H') : TupS H H' := fun b xs h => e b _ h
theorem TupS.trans {H H1 H2 : Hp} (a : TupS H H1) (b : TupS H1 H2) : TupS H H2 := fun c xs h => b c xs (a c xs h)
theorem TupS.upd {H : Hp} {p : Addr} {o u : HO} (h : H p = some u) (hu : ∀ xs, u ≠ .tup xs) : TupS H (upd H p o) := fun b xs e => by
  rw [upd_ne (fun z => by rw [z, h] at e; exact hu xs (Option.some.inj e))]
  exact e
theorem FitAt.keep {p : Nat} {H H' : Hp} (e : TupS H H') {v : V} {r : Row} (h : FitAt p H v r) : FitAt p H' v r := by
  obtain ⟨a, b, h1, h2, h3⟩ := h
  exact ⟨a, b, h1, e _ _ h2, e _ _ h3⟩
theorem paired_snoc {α β : Type} {G : α → β → Prop} : ∀ {xs : List α} {ys : List β} {x : α} {y : β}, Paired G xs ys → G x y → Paired G (xs ++ [x]) (ys ++ [y])
  | _, _, _, _, .nil, h => .cons h .nil
  | _, _, _, _, .cons r q, h => .cons r (paired_snoc q h)
theorem filter_snoc {α : Type} {p : α → Bool} {l : List α} {i : Nat} {x : α} (h : l[i]? = some x) : (l.take (i + 1)).filter p = (l.take i).filter p ++ (if p x = true then [x] else []) := by
  rw [take_more h, List.filter_append]
  congr 1
  rw [List.filter_cons]
  split <;> rfl
section
variable {P : Program} {w : World} {K : PySem.W.Frag} {mg : Str → Option Value} {base : Heap} {C : Addr}
def spFitting (P : Program) (w : World) (K : PySem.W.Frag) : Sp := fun vs H Q _ => ∃ (d a : Addr) (R : List Row) (t : List Nat) (p : Nat), vs = [.ref d, .ref a, iv p] ∧ TblAt P w H d R ∧ Dist R ∧ R.length ≤ 32 ∧ H a = some (.tup (ivs t)) ∧ p ≤ t.length ∧
  ∀ (H' : Hp) (l : Addr) (xs : List V), Same H H' → H l = none → H' l = some (.lst xs) → Paired (FitAt p H') xs (fitAt R t p) → Q (.ref l) H'
theorem scFitting : FnScope ["table", "typed", "place", "fitting", "pair", "after"] ["table", "typed", "place"] (defScope sFitting) := ⟨rfl, rfl, rfl, by decide +kernel, rfl, by decide +kernel, by decide +kernel⟩
theorem ok_Fitting {f : Addr} {fd : FuncData} (F : Fun K "fitting_slips" "fitting_slips" sFitting f fd) (T : TC mg) : FnOk P w K mg base CX0 1 f fd ["table", "typed", "place"] (spFitting P w K) := by
  refine F.ok scFitting (fun vs H Q E h => ?_) (fun cdv A outer s H vs Q E hr h => ⟨_, pss_cons (ps_set (i := 3) scFitting.nd rfl (Or.inl rfl) (pe_lst pa_nil))
      (pss_cons (ps_lock (ps_for PassesOwn.never rfl (pi_keysN (pv 0)) (pg_name (i := 4) scFitting.nd rfl (Or.inl rfl))
        (pss_cons (ps_set (i := 5) scFitting.nd rfl (Or.inl rfl) (pe_op op_add (pv 2) (pe_callB call_len_seq (by rfl) T.len PySem.boot_len (pa_cons (pe_ix ix_tup (pv 4) pe_int (fun _ _ => rfl)) pa_nil))))
        (pss_one (ps_if (pt_cmpR (op_eqD hr.units) (pe_slice sl_tupA (pv 1) (po_some (pv 2)) (po_some (pv 5))) (pe_ix ix_tup (pv 4) pe_int (fun _ _ => rfl)) (nomark _))
          (pss_one (ps_expr (pe_bm PySem.F.plainAttrs_list PySem.F.slot_list_append PySem.F.type_list_append mt_append (pv 3) (pa_cons (pe_tup (pa_cons (pe_ix (ix_N hr.units) (pv 0) (pv 4) (fun _ _ => rfl)) (pa_cons (pv 5) (pa_cons (pe_ix ix_tup (pv 4) pe_int (fun _ _ => rfl)) pa_nil)))) pa_nil)))) pss_nil)))))
      (pss_one (ps_ret (pv 3)))), ?_⟩)
  · obtain ⟨d, a, R, t, p, rfl, _⟩ := h
    rfl
  · obtain ⟨d, a, R, t, p, rfl, ⟨es, hd, he⟩, hdist, hR, ha, hp, k⟩ := h
    refine ⟨Nat.zero_le _, fun l nl => ?_⟩
    have dl : d ≠ l := ne_of_none hd nl
    refine ⟨d, _, (upd_ne dl).trans hd, trivial, fun od => ?_⟩
    refine ⟨_, rfl, d, od, es, rfl, upd_same, for_it walk_keysN (fun i σ H' => ∃ (xs : List V) (v4 v5 : Option V), σ = [some (.ref d), some (.ref a), some (iv p), some (.ref l), v4, v5] ∧ H' d = some (.frz od (DN P w d es)) ∧
      (∀ b o, H b = some o → b ≠ d → H' b = some o) ∧ H' l = some (.lst xs) ∧ Paired (FitAt p H') xs (fitAt (R.take i) t p)) ?_ (fun i σ H' _ ⟨_, _, _, _, q, _⟩ => q) ?_ ?_⟩
    · refine ⟨[], none, none, rfl, upd_same, fun b o e hb => ?_, ?_, .nil⟩
      · rw [upd_ne hb, upd_ne (ne_of_none e nl)]; exact e
      · rw [upd_ne dl.symm]; exact upd_same
    · rintro i x σ H1 H2 hi ⟨xs, v4, v5, rfl, q1, q2, q3, q4⟩ ⟨rfl, e, he1, rfl⟩
      obtain ⟨r, hr1, e1, e2, ⟨a1, a2, z1, z2, z3⟩⟩ := paired_get he he1
      have tS : TupS H H2 := fun b ys h => q2 b _ h (fun z => by rw [z, hd] at h; cases h)
      refine ⟨_, rfl, _, rfl, _, _, 0, _, rfl, rfl, .inl (.inl (tS _ _ z1)), atI_nat rfl, _, _, rfl, .inr (.inl (.inl (tS _ _ z2))), _, _, rfl, rfl, ?_⟩
      -- typed[place:after] == pair[0]
      have hi' : i < R.length := by rw [← ents_len he]; exact hi
      have ea : H2 a = some (.tup (ivs t)) := tS _ _ ha
      have eav : (p : Int) + ((ivs r.typed).length : Int) = (p : Int) + (r.typed.length : Int) := by rw [List.length_map]
      refine ⟨_, rfl, ⟨_, rfl, _, rfl, ⟨_, rfl, _, rfl, sl_ivs ea fun c H3 s3 h3 => ?_⟩⟩⟩
      refine ⟨_, rfl, _, _, 0, _, rfl, rfl, .inl (.inl (s3 _ _ (tS _ _ z1))), atI_nat rfl, dat _, dat r.typed, dp_dat h3, dp_dat (s3 _ _ (tS _ _ z2)), shaped_dat _, shaped_dat _, ?_⟩
      rw [eqv_dat, eav, cut_at hp]
      have q3' := s3 _ _ q3
      have q1' := s3 _ _ q1
      have tS3 : TupS H H3 := tS.trans (TupS.of s3)
      have he3 : Paired (EntIs H3) es R := Paired.mapP he fun x r ⟨a1, a2, a3⟩ => ⟨a1, a2, a3.keep tS3⟩
      have lx : xs.length ≤ 32 := by
        rw [Paired.length q4]
        have l1 := List.length_filter_le (fun r : Row => decide ((t.drop p).take r.typed.length = r.typed)) (R.take i)
        rw [List.length_take] at l1
        unfold fitAt
        omega
      have more := filter_snoc (p := fun r : Row => decide ((t.drop p).take r.typed.length = r.typed)) hr1
      refine ⟨_, rfl, ite2 (fun c1 => ?_) (fun c1 => ?_)⟩
      · refine ⟨_, rfl, .inl ⟨rfl, _, .inl (.inl q3')⟩, ?_⟩
        refine ⟨_, rfl, _, rfl, e.2.1, d, keyOf r.typed r.meant, es, iv r.cost, rfl, rfl, .inr ⟨od, q1'⟩, ents_keys he3, PairAt.key ⟨a1, a2, tS3 _ _ z1, tS3 _ _ z2, tS3 _ _ z3⟩, keyOf_depth _ _, ents_get he hdist r (List.mem_of_getElem? hr1), ?_⟩
        refine ⟨_, rfl, _, rfl, _, _, 1, _, rfl, rfl, .inl (.inl (tS3 _ _ z1)), atI_nat rfl, (by show 3 ≤ sizeLine; rw [sizeLine_eq]; decide), fun g ng => ?_⟩
        have gl : l ≠ g := ne_of_none q3' ng
        have gd : d ≠ g := ne_of_none q1' ng
        refine ⟨l, xs, _, rfl, rfl, (upd_ne gl).trans q3', ?_, ?_⟩
        · rw [sizeLine_eq]; omega
        rw [if_pos c1] at more
        have tG : TupS H3 (upd (upd H3 g (.tup [iv r.cost, V.int (p + (ivs r.typed).length), V.ref a2])) l (.lst (xs ++ [V.ref g]))) := fun b ys h => by
          rw [upd_ne (fun z => by rw [z, q3'] at h; cases h), upd_ne (ne_of_none h ng)]
          exact h
        refine ⟨_, _, _, rfl, ?_, fun b o e hb => ?_, upd_same, ?_⟩
        · rw [upd_ne dl, upd_ne gd]; exact q1'
        · rw [upd_ne (ne_of_none e nl), upd_ne (ne_of_none (s3 _ _ (q2 b o e hb)) ng)]
          exact s3 _ _ (q2 b o e hb)
        · unfold fitAt
          rw [more]
          refine paired_snoc (Paired.mapP q4 fun v r h => (h.keep (TupS.of s3)).keep tG) ⟨g, a2, rfl, ?_, tG _ _ (tS3 _ _ z3)⟩
          rw [upd_ne gl.symm, upd_same, List.length_map]
          rfl
      · rw [if_neg c1, List.append_nil] at more
        refine ⟨_, _, _, rfl, q1', fun b o e hb => s3 _ _ (q2 b o e hb), q3', ?_⟩
        unfold fitAt
        rw [more]
        exact Paired.mapP q4 fun v r h => h.keep (TupS.of s3)
    · rintro σ H1 ⟨xs, v4, v5, rfl, q1, q2, q3, q4⟩
      have le : es.length = R.length := ents_len he
      rw [le, List.take_length] at q4
      have q5 := q2
      refine ⟨q1, _, rfl, k _ l xs (fun b o e => ?_) nl ?_ (Paired.mapP q4 fun v r h => h.keep (TupS.upd q1 fun _ z => by cases z))⟩
      · by_cases hb : b = d
        · subst hb
          rw [upd_same, ← hd]; exact e
        · rw [upd_ne hb]; exact q2 b o e hb
      · rw [upd_ne dl.symm]; exact q3
end
end Slip
end
/-! ## PMov -/
section
set_option Elab.async false
set_option linter.all false
set_option maxRecDepth 100000
set_option maxHeartbeats 2000000
namespace Slip
open PySem PySem.Spec PyProof.Rows L2
open PySem.W (alike dataLe AllAlike Sortable EachIs)
/-! sorting, things beside what they stand for -/
theorem paired_of_mem {α β γ : Type} {G : α → β → Prop} {f : γ → α} {g : γ → β} : ∀ {l : List γ}, (∀ z ∈ l, G (f z) (g z)) → Paired G (l.map f) (l.map g)
  | [], _ => .nil
  | z :: l, h => .cons (h z (.head _)) (paired_of_mem fun y m => h y (.tail _ m))
theorem paired_zip {α β : Type} {G : α → β → Prop} : ∀ {xs : List α} {ys : List β}, Paired G xs ys → ∀ z ∈ xs.zip ys, G z.1 z.2
  | _, _, .nil, z, h => nomatch h
  | x :: xs, y :: ys, .cons r t, z, h => by
    rw [List.zip_cons_cons] at h
    rcases List.mem_cons.mp h with e | h
    · subst e; exact r
    · exact paired_zip t z h
theorem sort_pair {α : Type} (k : α → PyData) {G : V → α → Prop} {xs : List V} {Ms : List α} (h : Paired G xs Ms) : Paired G (((xs.zip (Ms.map k)).mergeSort (dataLe false Prod.snd)).map Prod.fst) (Ms.mergeSort (dataLe false k)) := by
  have l := Paired.length h
  have e : xs.zip (Ms.map k) = (xs.zip Ms).map fun z => (z.1, k z.2) := by
    have : xs = xs.map id := (List.map_id xs).symm
    conv => lhs; rw [this]
    rw [List.zip_map]; rfl
  have e1 : ((xs.zip (Ms.map k)).mergeSort (dataLe false Prod.snd)).map Prod.fst = ((xs.zip Ms).mergeSort fun a b => dataLe false k a.2 b.2).map Prod.fst := by
    rw [e, ← PySem.W.sort_maps (r := fun a b => dataLe false k a.2 b.2) (s := dataLe false Prod.snd) (fun z : V × α => (z.1, k z.2)) (fun a _ b _ => rfl), List.map_map]
    rfl
  have e2 : Ms.mergeSort (dataLe false k) = ((xs.zip Ms).mergeSort fun a b => dataLe false k a.2 b.2).map Prod.snd := by
    rw [PySem.W.sort_maps (s := dataLe false k) Prod.snd (fun _ _ _ _ => rfl), List.map_snd_zip (by omega)]
  rw [e1, e2]
  exact paired_of_mem fun z hz => paired_zip h z (List.mem_mergeSort.mp hz)
theorem dp_all {α : Type} {K : PySem.W.Frag} {H : Hp} {G : V → α → Prop} (k : α → PyData) (f : ∀ v a, G v a → Dp K H v (k a)) : ∀ {xs : List V} {Ms : List α}, Paired G xs Ms → DpAll K H xs (Ms.map k)
  | _, _, .nil => .nil
  | _, _, .cons r t => .cons (f _ _ r) (dp_all k f t)
theorem dat_depth (l : List Nat) : (dat l).depth = 1 := by
  rw [dat_ints]
  show PyData.depth (.tuple _) = 1
  rw [PyData.depth, PySem.W.depth_ints]
theorem alike_cons {x y : PyData} {xs ys : List PyData} (h : alike x y = true) (t : alike (.tuple xs) (.tuple ys) = true) : alike (.tuple (x :: xs)) (.tuple (y :: ys)) = true := by
  rw [alike] at t ⊢
  rw [PySem.W.alikeAll, h, t]; rfl
theorem depth_cons {x : PyData} {xs : List PyData} {n : Nat} (h : x.depth ≤ n) (t : (PyData.tuple xs).depth ≤ n + 1) : (PyData.tuple (x :: xs)).depth ≤ n + 1 := by
  rw [PyData.depth] at t ⊢
  rw [PyData.depthAll]
  omega
theorem depth_nil {n : Nat} : (PyData.tuple []).depth ≤ n + 1 := by
  rw [PyData.depth, PyData.depthAll]; omega
theorem alike_nil : alike (.tuple []) (.tuple []) = true := by
  rw [alike]; rfl
theorem alikeM (a b : Mv) : alike (datM a) (datM b) = true := alike_cons rfl (alike_cons rfl (alike_cons rfl (alike_cons rfl (alike_cons (alike_dat _ _) alike_nil))))
theorem depthM (a : Mv) : (datM a).depth ≤ 8 := Nat.le_trans (depth_cons (n := 1) (Nat.zero_le _) (depth_cons (Nat.zero_le _) (depth_cons (Nat.zero_le _) (depth_cons (Nat.zero_le _) (depth_cons (Nat.le_of_eq (dat_depth _)) depth_nil))))) (by decide)
theorem alikeT (a b : Trk) : alike (datT a) (datT b) = true := alike_cons rfl (alike_cons rfl (alike_cons rfl (alike_cons (alike_dat _ _) alike_nil)))
theorem depthT (a : Trk) : (datT a).depth ≤ 8 := Nat.le_trans (depth_cons (n := 1) (Nat.zero_le _) (depth_cons (Nat.zero_le _) (depth_cons (Nat.zero_le _) (depth_cons (Nat.le_of_eq (dat_depth _)) depth_nil)))) (by decide)
theorem allAlike_of {α : Type} {k : α → PyData} (h : ∀ a b, alike (k a) (k b) = true) (Ms : List α) : AllAlike (Ms.map k) := PySem.W.AllAlike.of h
/-! a move, a track -/
def MvAt (H : Hp) (v : V) (m : Mv) : Prop := ∃ a b, v = .ref a ∧ H a = some (.tup [iv m.cost, iv m.slips, iv m.letter, iv m.after, .ref b]) ∧ H b = some (.tup (ivs m.behind))
theorem MvAt.keep {H H' : Hp} (e : TupS H H') {v : V} {m : Mv} (h : MvAt H v m) : MvAt H' v m := by
  obtain ⟨a, b, h1, h2, h3⟩ := h
  exact ⟨a, b, h1, e _ _ h2, e _ _ h3⟩
theorem MvAt.dp {K : PySem.W.Frag} {H : Hp} {v : V} {m : Mv} (h : MvAt H v m) : Dp K H v (datM m) := by
  obtain ⟨a, b, rfl, h2, h3⟩ := h
  exact .tup (.inl (.inl h2)) (.cons (.int _) (.cons (.int _) (.cons (.int _) (.cons (.int _) (.cons (dp_dat h3) .nil)))))
def TrAt (H : Hp) (v : V) (T : Trk) : Prop := ∃ a b, v = .ref a ∧ H a = some (.tup [iv T.cost, iv T.taken, iv T.place, .ref b]) ∧ H b = some (.tup (ivs T.coming))
theorem TrAt.keep {H H' : Hp} (e : TupS H H') {v : V} {T : Trk} (h : TrAt H v T) : TrAt H' v T := by
  obtain ⟨a, b, h1, h2, h3⟩ := h
  exact ⟨a, b, h1, e _ _ h2, e _ _ h3⟩
theorem TrAt.dp {K : PySem.W.Frag} {H : Hp} {v : V} {T : Trk} (h : TrAt H v T) : Dp K H v (datT T) := by
  obtain ⟨a, b, rfl, h2, h3⟩ := h
  exact .tup (.inl (.inl h2)) (.cons (.int _) (.cons (.int _) (.cons (.int _) (.cons (dp_dat h3) .nil))))
abbrev rLenQ (K : PySem.W.Frag) : List V → Hp → VK → Prop := fun xs H Q => ∃ p ys, xs = [V.ref p] ∧ (SqL K H p ys ∨ SqT K H p ys) ∧ Q (.int ys.length) H
abbrev tLenV (K : PySem.W.Frag) (i : Nat) : TE := tCB (rLenQ K) (tCons (tVar i) tNil)
section
variable {P : Program} {w : World} {K : PySem.W.Frag} {mg : Str → Option Value} {base : Heap} {C : Addr}
def spMovesAt (K : PySem.W.Frag) : Sp := fun vs H Q _ => ∃ (fl a : Addr) (xs : List V) (R : List Row) (t : List Nat) (p : Nat), vs = [.ref fl, .ref a, iv p] ∧ H fl = some (.lst xs) ∧ Paired (FitAt p H) xs (fitAt R t p) ∧ R.length ≤ 32 ∧ H a = some (.tup (ivs t)) ∧ p ≤ t.length ∧
  ∀ (H' : Hp) (l : Addr) (ys : List V), Same H H' → H l = none → H' l = some (.lst ys) → Paired (MvAt H') ys (movesAt R t p) → Q (.ref l) H'
theorem scMovesAt : FnScope ["fitting", "typed", "place", "moves", "cost", "after", "meant"] ["fitting", "typed", "place"] (defScope sMovesAt) := ⟨rfl, rfl, rfl, by decide +kernel, rfl, by decide +kernel, by decide +kernel⟩
theorem ok_MovesAt {f : Addr} {fd : FuncData} (F : Fun K "moves_at" "moves_at" sMovesAt f fd) (T : TC mg) : FnOk P w K mg base CX0 1 f fd ["fitting", "typed", "place"] (spMovesAt K) := by
  refine F.ok scMovesAt (fun vs H Q E h => ?_) (fun cdv A outer s H vs Q E hr h => ⟨_, pss_cons (ps_setLc (i := 3) (own := [("cost", 4), ("after", 5), ("meant", 6)]) (g := gTup K 3 (gCons (gName 4) (gCons (gName 5) (gCons (gName 6) gNil))))
        (tt := tTest (tOp (rI0 fun i j => .bl (decide (j < i))) (tLenV K 6) (tC (.int 0)))) (te := tTup (tCons (tVar 4) (tCons (tC (.int 1)) (tCons (tOp (rIxT K) (tVar 6) (tC (.int 0))) (tCons (tVar 5) (tCons (tSl (rSlA K) (tVar 6) (tPart (tC (.int 1))) tNoPart) tNil))))))
        rfl scMovesAt.nd rfl rfl (sw_true rfl rfl rfl (by decide +kernel)) (pi_list (pv 0)) (blkOk_by (N := ["fitting", "typed", "place", "moves", "cost", "after", "meant"]) (sc := defScope sMovesAt) (by decide +kernel))
        (fun _ _ _ _ _ => pg_tup rfl (pgs_cons (pg_name (i := 4) scMovesAt.nd rfl (Or.inl rfl)) (pgs_cons (pg_name (i := 5) scMovesAt.nd rfl (Or.inl rfl)) (pgs_cons (pg_name (i := 6) scMovesAt.nd rfl (Or.inl rfl)) pgs_nil))))
        (fun _ _ _ _ _ => pts_one (pt_cmpR op_gt (pe_callB call_len_seq (by rfl) T.len PySem.boot_len (pa_cons (pv 6) pa_nil)) pe_int (nomark _)))
        (fun _ _ _ _ _ => pe_tup (pa_cons (pv 4) (pa_cons pe_int (pa_cons (pe_ix ix_tup (pv 6) pe_int (fun _ _ => rfl)) (pa_cons (pv 5) (pa_cons (pe_slice sl_tupA (pv 6) (po_some pe_int) po_none) pa_nil)))))))
      (pss_cons (ps_if (pt_cmpR op_lt (pv 2) (pe_callB call_len_seq (by rfl) T.len PySem.boot_len (pa_cons (pv 1) pa_nil)) (nomark _))
        (pss_one (ps_expr (pe_bm PySem.F.plainAttrs_list PySem.F.slot_list_append PySem.F.type_list_append mt_append (pv 3) (pa_cons (pe_tup (pa_cons pe_int (pa_cons pe_int (pa_cons (pe_ix ix_tup (pv 1) (pv 2) (fun _ _ => rfl)) (pa_cons (pe_op op_add (pv 2) pe_int) (pa_cons (pe_tup pa_nil) pa_nil)))))) pa_nil)))) pss_nil)
      (pss_one (ps_ret (pe_callB (cr_sortedD hr.units) (by rfl) T.sorted (by decide +kernel) (pa_cons (pv 3) pa_nil))))), ?_⟩)
  · obtain ⟨fl, a, xs, R, t, p, rfl, _⟩ := h
    rfl
  · obtain ⟨fl, a, xs, R, t, p, rfl, hf, hF, hR, ha, hp, k⟩ := h
    have lF : (fitAt R t p).length ≤ 32 := Nat.le_trans (List.length_filter_le _ _) hR
    have lx : xs.length = (fitAt R t p).length := Paired.length hF
    refine ⟨_, rfl, fl, rfl, ⟨xs, .inl (.inl hf)⟩, fun D nD => lc_it walk_list (fun i H' => ∃ acc, Same H H' ∧ H' D = some (.lst acc) ∧ Paired (MvAt H') acc (((fitAt R t p).take i).filter (fun r => !r.meant.isEmpty) |>.map (mvOf p))) ⟨[], Same.new (Same.refl H) nD, upd_same, .nil⟩ (fun i H' _ ⟨_, sm, _⟩ => .inl (.inl (sm _ _ hf))) ?_ ?_⟩
    · rintro i x H1 H2 hi ⟨acc, sm, hD, hacc⟩ ⟨rfl, ex⟩
      obtain ⟨r, er, x1, x2, rfl, z1, z2⟩ := paired_get hF ex
      have s1 := sm _ _ z1
      have s2 := sm _ _ z2
      have more := filter_snoc (p := fun r : Row => !r.meant.isEmpty) er
      have lacc : acc.length ≤ 32 := by
        rw [Paired.length hacc, List.length_map]
        have l1 := List.length_filter_le (fun r : Row => !r.meant.isEmpty) ((fitAt R t p).take i)
        rw [List.length_take] at l1
        omega
      refine ⟨_, _, rfl, .inl (.inl s1), rfl, _, _, rfl, _, _, rfl, _, _, rfl, rfl, rfl, ?_⟩
      refine ⟨_, rfl, _, _, rfl, .inr (.inl (.inl s2)), _, _, rfl, rfl, _, rfl, ite2 (fun c1 => ?_) (fun c1 => ?_)⟩
      · have c1 := of_decide_eq_true c1
        cases em : r.meant with
        | nil => rw [em] at c1; exact absurd c1 (by decide)
        | cons y ys =>
          rw [em] at s2 z2
          refine ⟨_, rfl, _, rfl, x2, ivs (y :: ys), 0, iv y, rfl, rfl, .inl (.inl s2), atI_nat rfl, _, rfl, _, rfl, _, rfl, ?_⟩
          unfold tNoPart
          refine sl_ivs (K := K) (l := y :: ys) (lo := some 1) (hi := none) s2 fun c H3 s3 h3 => ?_
          have e1 : cutN (y :: ys) (some (1 : Int)) none = ys := cut_from (k := 1)
          rw [e1] at h3
          refine ⟨by show 5 ≤ sizeLine; rw [sizeLine_eq]; decide, fun g ng => ?_⟩
          have hD3 := s3 _ _ hD
          have gD : D ≠ g := ne_of_none hD3 ng
          refine ⟨acc, (upd_ne gD).trans hD3, by rw [sizeLine_eq]; omega, acc ++ [V.ref g], fun b o e => ?_, upd_same, ?_⟩
          · rw [upd_ne (ne_of_none e nD), upd_ne (ne_of_none (s3 _ _ (sm _ _ e)) ng)]
            exact s3 _ _ (sm _ _ e)
          · have tG : TupS H3 (upd (upd H3 g (.tup [iv r.cost, V.int 1, iv y, iv (p + r.typed.length), V.ref c])) D (.lst (acc ++ [V.ref g]))) := fun b zs h => by
              rw [upd_ne (fun z => by rw [z, hD3] at h; cases h), upd_ne (ne_of_none h ng)]
              exact h
            rw [more, if_pos (by rw [em]; rfl), List.map_append]
            refine paired_snoc (Paired.mapP hacc fun v m h => (h.keep (TupS.of s3)).keep tG) ⟨g, c, rfl, ?_, ?_⟩
            · rw [upd_ne gD.symm, upd_same]
              unfold mvOf
              rw [em]; rfl
            · unfold mvOf
              rw [em]
              exact tG _ _ h3
      · have e0 : r.meant = [] := by
          cases em : r.meant with
          | nil => rfl
          | cons y ys => exact absurd (decide_eq_true (by rw [em, List.length_map, List.length_cons]; omega)) c1
        refine ⟨acc, sm, hD, ?_⟩
        rw [more, if_neg (by rw [e0]; decide), List.append_nil]
        exact hacc
    · rintro H1 ⟨acc, sm, hD, hacc⟩
      rw [lx, List.take_length] at hacc
      have lacc : acc.length ≤ 32 := by
        rw [Paired.length hacc, List.length_map]
        exact Nat.le_trans (List.length_filter_le _ _) lF
      have ea := sm _ _ ha
      have fin : ∀ (H2 : Hp) (ys : List V) (Ms : List Mv), Same H H2 → H2 D = some (.lst ys) → Paired (MvAt H2) ys Ms → Ms = movesRaw R t p → tRet (tCB (rSortedD K) (tCons (tVar 3) tNil)) { nx := fun x H' => Q V.non H', rt := Q } [some (.ref fl), some (.ref a), some (iv p), some (.ref D), none, none, none] H2 := by
        intro H2 ys Ms sm2 hD2 hp2 eM
        refine ⟨_, rfl, D, ys, Ms.map datM, rfl, .inl (.inl hD2), dp_all datM (fun _ _ h => h.dp) hp2, allAlike_of alikeM _, PySem.W.Sortable.tuples fun m => ⟨_, _, rfl⟩, fun d hd => ?_, fun g ng => ?_⟩
        · obtain ⟨m, _, rfl⟩ := List.mem_map.mp hd
          exact depthM m
        · have so := sort_pair datM hp2
          refine k _ g _ (Same.new sm2 ng) (sm2.free ng) upd_same ?_
          unfold movesAt
          rw [← eM]
          exact Paired.mapP so fun v m h => h.keep fun b zs e => by rw [upd_ne (ne_of_none e ng)]; exact e
      refine ⟨_, rfl, _, rfl, _, _, rfl, .inr (.inl (.inl ea)), _, _, rfl, rfl, _, rfl, ite2 (fun c1 => ?_) (fun c1 => ?_)⟩
      · have c1 := of_decide_eq_true c1
        rw [List.length_map] at c1
        have hlt : p < t.length := by omega
        refine ⟨_, rfl, .inl ⟨rfl, _, .inl (.inl hD)⟩, ?_⟩
        refine ⟨_, rfl, _, rfl, a, ivs t, p, iv (t.getD p 0), rfl, rfl, .inl (.inl ea), atI_nat ?_, ⟨_, rfl, _, _, rfl, rfl, ?_⟩⟩
        · rw [List.getElem?_map, List.getElem?_eq_getElem hlt, List.getD_eq_getElem?_getD, List.getElem?_eq_getElem hlt]
          rfl
        refine ⟨Nat.zero_le _, fun c nc => ?_⟩
        refine ⟨by show 5 ≤ sizeLine; rw [sizeLine_eq]; decide, fun g ng => ?_⟩
        have cg : c ≠ g := fun z => by rw [← z, upd_same] at ng; cases ng
        rw [upd_ne cg.symm] at ng
        have Dc : D ≠ c := ne_of_none hD nc
        have Dg : D ≠ g := ne_of_none hD ng
        refine ⟨D, acc, _, rfl, rfl, ?_, by rw [sizeLine_eq]; omega, ?_⟩
        · rw [upd_ne Dg, upd_ne Dc]; exact hD
        have tG : TupS H1 (upd (upd (upd H1 c (.tup [])) g (.tup [V.int 0, V.int 0, iv (t.getD p 0), V.int ((p : Int) + 1), V.ref c])) D (.lst (acc ++ [V.ref g]))) := fun b zs h => by
          rw [upd_ne (fun z => by rw [z, hD] at h; cases h), upd_ne (ne_of_none h ng), upd_ne (ne_of_none h nc)]
          exact h
        refine fin _ (acc ++ [V.ref g]) (_ ++ [⟨0, 0, t.getD p 0, p + 1, []⟩]) (fun b o e => ?_) upd_same (paired_snoc (Paired.mapP hacc fun v m h => h.keep tG) ⟨g, c, rfl, ?_, ?_⟩) ?_
        · rw [upd_ne (ne_of_none e nD), upd_ne (ne_of_none (sm _ _ e) ng), upd_ne (ne_of_none (sm _ _ e) nc)]
          exact sm _ _ e
        · rw [upd_ne Dg.symm, upd_same]
          rfl
        · rw [upd_ne Dc.symm, upd_ne cg, upd_same]
          rfl
        · unfold movesRaw
          rw [if_pos hlt]
      · refine fin H1 acc _ sm hD hacc ?_
        unfold movesRaw
        rw [if_neg (fun z => c1 (decide_eq_true (by rw [List.length_map]; omega))), List.append_nil]
end
end Slip
end
/-! ## PWIn -/
section
set_option Elab.async false
set_option linter.all false
set_option maxRecDepth 100000
set_option maxHeartbeats 2000000
namespace Slip
open PySem PySem.Spec PyProof.Rows L2
open PySem.W (alike dataLe AllAlike Sortable EachIs)
/-! the object of the ways -/
def wF (n : Nat) (lm ld : Addr) : List (Str × V) := [("length", iv n), ("moves", .ref lm), ("drops", .ref ld)]
theorem wF_length (n : Nat) (lm ld : Addr) : (wF n lm ld).lookup ("length" : Str) = some (iv n) := lk_here
theorem wF_moves (n : Nat) (lm ld : Addr) : (wF n lm ld).lookup ("moves" : Str) = some (.ref lm) := (lk_past (by decide +kernel)).trans lk_here
theorem wF_drops (n : Nat) (lm ld : Addr) : (wF n lm ld).lookup ("drops" : Str) = some (.ref ld) := (lk_past (by decide +kernel)).trans ((lk_past (by decide +kernel)).trans lk_here)
theorem wF_none {m : Str} (h1 : (m == ("length" : Str)) = false) (h2 : (m == ("moves" : Str)) = false) (h3 : (m == ("drops" : Str)) = false) (n : Nat) (lm ld : Addr) : (wF n lm ld).lookup m = none := (lk_past h1).trans ((lk_past h2).trans ((lk_past h3).trans rfl))
theorem wF_put1 (n : Nat) : putF ("length" : Str) (iv n) [] = [(("length" : Str), iv n)] := rfl
theorem wF_put2 (n : Nat) (lm : Addr) : putF ("moves" : Str) (.ref lm) [(("length" : Str), iv n)] = [(("length" : Str), iv n), (("moves" : Str), .ref lm)] := (put_past (by decide +kernel)).trans rfl
theorem wF_put3 (n : Nat) (lm ld : Addr) : putF ("drops" : Str) (.ref ld) [(("length" : Str), iv n), (("moves" : Str), .ref lm)] = wF n lm ld := (put_past (by decide +kernel)).trans (congrArg _ ((put_past (by decide +kernel)).trans rfl))
def MvL (H : Hp) (v : V) (Ms : List Mv) : Prop := ∃ l xs, v = .ref l ∧ H l = some (.lst xs) ∧ Paired (MvAt H) xs Ms
def DrAt (H : Hp) (v : V) (x : Nat × Nat) : Prop := ∃ a, v = .ref a ∧ H a = some (.tup [iv x.1, iv x.2])
def DrL (H : Hp) (v : V) (Ds : List (Nat × Nat)) : Prop := ∃ l xs, v = .ref l ∧ H l = some (.lst xs) ∧ Paired (DrAt H) xs Ds
theorem MvL.keep {H H' : Hp} {v : V} {Ms : List Mv} (h : MvL H v Ms) (e : ∀ b o, H b = some o → (∃ xs, o = .lst xs ∧ v = .ref b) ∨ (∃ xs, o = .tup xs) → H' b = some o) : MvL H' v Ms := by
  obtain ⟨l, xs, rfl, h2, h3⟩ := h
  exact ⟨l, xs, rfl, e _ _ h2 (.inl ⟨_, rfl, rfl⟩), Paired.mapP h3 fun v m q => q.keep fun b ys z => e _ _ z (.inr ⟨_, rfl⟩)⟩
theorem DrL.keep {H H' : Hp} {v : V} {Ds : List (Nat × Nat)} (h : DrL H v Ds) (e : ∀ b o, H b = some o → (∃ xs, o = .lst xs ∧ v = .ref b) ∨ (∃ xs, o = .tup xs) → H' b = some o) : DrL H' v Ds := by
  obtain ⟨l, xs, rfl, h2, h3⟩ := h
  refine ⟨l, xs, rfl, e _ _ h2 (.inl ⟨_, rfl, rfl⟩), Paired.mapP h3 fun v m q => ?_⟩
  obtain ⟨a, e1, e2⟩ := q
  exact ⟨a, e1, e _ _ e2 (.inr ⟨_, rfl⟩)⟩
def WaysAt (C : Addr) (H : Hp) (a : Addr) (R : List Row) (t : List Nat) : Prop := ∃ dx lm ld ms ds, H a = some (.ins C dx (wF t.length lm ld)) ∧ H lm = some (.lst ms) ∧ H ld = some (.lst ds) ∧
  Paired (fun v p => MvL H v (movesAt R t p)) ms (List.range (t.length + 1)) ∧ Paired (fun v p => DrL H v (dropsAt R t p)) ds (List.range (t.length + 1))
theorem WaysAt.same {C : Addr} {H H' : Hp} {a : Addr} {R : List Row} {t : List Nat} (h : WaysAt C H a R t) (e : Same H H') : WaysAt C H' a R t := by
  obtain ⟨dx, lm, ld, ms, ds, h1, h2, h3, h4, h5⟩ := h
  exact ⟨dx, lm, ld, ms, ds, e _ _ h1, e _ _ h2, e _ _ h3, Paired.mapP h4 fun v p q => q.keep fun b o z _ => e _ _ z, Paired.mapP h5 fun v p q => q.keep fun b o z _ => e _ _ z⟩
structure TWays (K : PySem.W.Frag) (mg : Str → Option Value) (C : Addr) : Prop where
  cl : Cls K C
  nL : NoAttr K C "length"
  nM : NoAttr K C "moves"
  nD : NoAttr K C "drops"
  MOST_TAKEN : ∃ t, mg "MOST_TAKEN" = some (.int 3 t)
  DEAREST : ∃ t, mg "DEAREST" = some (.int 196605 t)
  range : mg "range" = none
  min : mg "min" = none
  any : mg "any" = none
  len : mg "len" = none
  sorted : mg "sorted" = none
section
variable {P : Program} {w : World} {K : PySem.W.Frag} {mg : Str → Option Value} {base : Heap} {C : Addr}
def spWInit (P : Program) (w : World) (C : Addr) : Sp := fun vs H Q _ => ∃ (p dx d a : Addr) (R : List Row) (t : List Nat), vs = [.ref p, .ref d, .ref a] ∧ H p = some (.ins C dx []) ∧ TblAt P w H d R ∧ Dist R ∧ R.length ≤ 32 ∧ H a = some (.tup (ivs t)) ∧ t.length ≤ 100 ∧
  ∀ H' : Hp, WaysAt C H' p R t → (∀ b o, H b = some o → b ≠ p → H' b = some o) → Q .non H'
theorem scWInit : FnScope ["self", "table", "typed", "place", "fitting", "cost", "after", "meant"] ["self", "table", "typed"] (defScope sWInit) := ⟨rfl, rfl, rfl, by decide +kernel, rfl, by decide +kernel, by decide +kernel⟩
theorem ok_WInit {f : Addr} {fd : FuncData} (F : Fun K "__init__" "Ways.__init__" sWInit f fd) (T : TWays K mg C) (cF : Cal P w K mg base 1 "fitting_slips" (spFitting P w K)) (cM : Cal P w K mg base 1 "moves_at" (spMovesAt K)) : FnOk P w K mg base CX0 2 f fd ["self", "table", "typed"] (spWInit P w C) := by
  refine F.ok scWInit (fun vs H Q E h => ?_) (fun cdv A outer s H vs Q E hr h => ⟨_, pss_cons (ps_fld (pv 0) (pe_callB call_len_seq (by rfl) T.len PySem.boot_len (pa_cons (pv 2) pa_nil)) rfl) (pss_cons (ps_fld (pv 0) (pe_lst pa_nil) rfl) (pss_cons (ps_fld (pv 0) (pe_lst pa_nil) rfl)
      (pss_one (ps_for PassesOwn.never rfl (pi_range1 (by rfl) T.range (pa_cons (pe_op op_add (pe_callB call_len_seq (by rfl) T.len PySem.boot_len (pa_cons (pv 2) pa_nil)) pe_int) pa_nil)) (pg_name (i := 3) scWInit.nd rfl (Or.inl rfl))
        (pss_cons (ps_set (i := 4) scWInit.nd rfl (Or.inl rfl) (pe_c cF hr (by decide) rfl (pa_cons (pv 1) (pa_cons (pv 2) (pa_cons (pv 3) pa_nil)))))
        (pss_cons (ps_expr (pe_bm PySem.F.plainAttrs_list PySem.F.slot_list_append PySem.F.type_list_append mt_append (pe_fld (pv 0) rfl) (pa_cons (pe_c cM hr (by decide) rfl (pa_cons (pv 4) (pa_cons (pv 2) (pa_cons (pv 3) pa_nil)))) pa_nil)))
        (pss_one (ps_expr (pe_bm PySem.F.plainAttrs_list PySem.F.slot_list_append PySem.F.type_list_append mt_append (pe_fld (pv 0) rfl) (pa_cons
          (pe_lc (own := [("cost", 5), ("after", 6), ("meant", 7)]) (g := gTup K 3 (gCons (gName 5) (gCons (gName 6) (gCons (gName 7) gNil)))) (tt := tTest (tOp rEq (tLenV K 7) (tC (.int 0)))) (te := tTup (tCons (tVar 5) (tCons (tVar 6) tNil)))
            rfl scWInit.nd (pi_list (pv 4)) (blkOk_by (N := ["self", "table", "typed", "place", "fitting", "cost", "after", "meant"]) (sc := defScope sWInit) (by decide +kernel))
            (fun _ _ _ _ _ => pg_tup rfl (pgs_cons (pg_name (i := 5) scWInit.nd rfl (Or.inl rfl)) (pgs_cons (pg_name (i := 6) scWInit.nd rfl (Or.inl rfl)) (pgs_cons (pg_name (i := 7) scWInit.nd rfl (Or.inl rfl)) pgs_nil))))
            (fun _ _ _ _ _ => pts_one (pt_cmpR op_eq (pe_callB call_len_seq (by rfl) T.len PySem.boot_len (pa_cons (pv 7) pa_nil)) pe_int (nomark _)))
            (fun _ _ _ _ _ => pe_tup (pa_cons (pv 5) (pa_cons (pv 6) pa_nil)))) pa_nil)))))))))), ?_⟩)
  · obtain ⟨p, dx, d, a, R, t, rfl, _⟩ := h
    rfl
  · obtain ⟨p, dx, d, a, R, t, rfl, hp, hT, hdist, hR, ha, ht, k⟩ := h
    have lt : (ivs t).length = t.length := List.length_map _
    refine ⟨_, rfl, _, _, rfl, .inr (.inl (.inl ha)), _, rfl, p, C, dx, [], rfl, hp, T.cl, T.nL, (by show 0 < 1000; decide), ?_⟩
    refine ⟨Nat.zero_le _, fun lm nm => ⟨_, rfl, p, C, dx, _, rfl, (upd_ne (ne_of_none upd_same nm)).trans upd_same, T.cl, T.nM, (by show 1 < 1000; decide), ?_⟩⟩
    have plm : p ≠ lm := ne_of_none upd_same nm
    have nlm : H lm = none := by rw [upd_ne plm.symm] at nm; exact nm
    refine ⟨Nat.zero_le _, fun ld nd => ?_⟩
    have pld : p ≠ ld := ne_of_none upd_same nd
    have lmd : lm ≠ ld := fun z => by rw [← z, upd_ne plm.symm, upd_same] at nd; cases nd
    have nld : H ld = none := by rw [upd_ne pld.symm, upd_ne lmd.symm, upd_ne pld.symm] at nd; exact nd
    refine ⟨_, rfl, p, C, dx, _, rfl, (upd_ne pld).trans upd_same, T.cl, T.nD, (by show 2 < 1000; decide), ?_⟩
    have ef : putF ("drops" : Str) (.ref ld) (putF ("moves" : Str) (.ref lm) (putF ("length" : Str) (V.int (ivs t).length) [])) = wF t.length lm ld := by
      rw [lt]
      exact (congrArg (fun q => putF ("drops" : Str) (V.ref ld) (putF ("moves" : Str) (V.ref lm) q)) (wF_put1 t.length)).trans ((congrArg (fun q => putF ("drops" : Str) (V.ref ld) q) (wF_put2 t.length lm)).trans (wF_put3 t.length lm ld))
    rw [ef]
    generalize eH3 : upd (upd (upd (upd (upd H p (HO.ins C dx (putF ("length" : Str) (V.int (ivs t).length) []))) lm (HO.lst [])) p (HO.ins C dx (putF ("moves" : Str) (V.ref lm) (putF ("length" : Str) (V.int (ivs t).length) [])))) ld (HO.lst [])) p (HO.ins C dx (wF t.length lm ld)) = H3
    have h3p : H3 p = some (.ins C dx (wF t.length lm ld)) := by rw [← eH3]; exact upd_same
    have h3m : H3 lm = some (.lst []) := by rw [← eH3, upd_ne plm.symm, upd_ne lmd, upd_ne plm.symm, upd_same]
    have h3d : H3 ld = some (.lst []) := by rw [← eH3, upd_ne pld.symm, upd_same]
    have h3o : ∀ b o, H b = some o → b ≠ p → H3 b = some o := fun b o e hb => by
      rw [← eH3, upd_ne hb, upd_ne (ne_of_none e nld), upd_ne hb, upd_ne (ne_of_none e nlm), upd_ne hb]; exact e
    clear eH3
    have eN : ((((ivs t).length : Nat) : Int) + 1).toNat = t.length + 1 := by rw [lt]; omega
    refine ⟨_, rfl, _, _, rfl, .inr (.inl (.inl (h3o _ _ ha (ne_of ha hp (by intro z; cases z))))), _, _, rfl, rfl, _, rfl, by omega, by omega, ?_⟩
    rw [eN]
    refine for_it walk_range (fun i σ H' => ∃ (ms ds : List V) (v3 v4 : Option V), σ = [some (.ref p), some (.ref d), some (.ref a), v3, v4, none, none, none] ∧ H' p = some (.ins C dx (wF t.length lm ld)) ∧ H' lm = some (.lst ms) ∧ H' ld = some (.lst ds) ∧
      (∀ b o, H b = some o → b ≠ p → H' b = some o) ∧ Paired (fun v q => MvL H' v (movesAt R t q) ∧ v ≠ .ref lm ∧ v ≠ .ref ld) ms (List.range i) ∧ Paired (fun v q => DrL H' v (dropsAt R t q) ∧ v ≠ .ref lm ∧ v ≠ .ref ld) ds (List.range i)) ⟨[], [], none, none, rfl, h3p, h3m, h3d, h3o, .nil, .nil⟩ (fun _ _ _ _ _ => trivial) ?_ ?_
    · rintro i x σ H1 H2 hi ⟨ms, ds, v3, v4, rfl, q1, q2, q3, q4, q5, q6⟩ ⟨rfl, hx⟩
      have hx : x = iv i := hx.trans (congrArg V.int (Int.zero_add _))
      subst hx
      have hi' : i ≤ t.length := by omega
      have ap := ne_of ha hp (by intro z; cases z)
      obtain ⟨es, hd, he⟩ := hT
      have dp : d ≠ p := ne_of hd hp (by intro z; cases z)
      have tS : TupS H H2 := fun b ys e => q4 b _ e (ne_of e hp (by intro z; cases z))
      have lms : ms.length = i := by rw [Paired.length q5, List.length_range]
      have lds : ds.length = i := by rw [Paired.length q6, List.length_range]
      refine ⟨_, rfl, _, rfl, _, rfl, d, a, R, t, i, rfl, ⟨es, q4 _ _ hd dp, Paired.mapP he fun x r ⟨a1, a2, a3⟩ => ⟨a1, a2, a3.keep tS⟩⟩, hdist, hR, q4 _ _ ha ap, hi', fun H4 fl xs s4 nfl hfl hF => ?_⟩
      have m4 := s4 _ _ q2
      have d4 := s4 _ _ q3
      refine ⟨_, rfl, p, C, dx, _, _, rfl, s4 _ _ q1, T.cl, T.nM, wF_moves _ _ _, .inl ⟨rfl, _, .inl (.inl m4)⟩, ?_⟩
      refine ⟨_, rfl, _, rfl, _, rfl, fl, a, xs, R, t, i, rfl, hfl, hF, hR, s4 _ _ (q4 _ _ ha ap), hi', fun H5 ml ys s5 nml hml hM => ?_⟩
      have m5 := s5 _ _ m4
      have d5 := s5 _ _ d4
      have f5 := s5 _ _ hfl
      refine ⟨lm, ms, _, rfl, rfl, m5, by rw [sizeLine_eq]; omega, ?_⟩
      generalize eH6 : upd H5 lm (HO.lst (ms ++ [V.ref ml])) = H6
      have fm : fl ≠ lm := fun z => by rw [z, q2] at nfl; cases nfl
      have mm : ml ≠ lm := fun z => by rw [z, m4] at nml; cases nml
      have m6 : H6 lm = some (.lst (ms ++ [.ref ml])) := by rw [← eH6]; exact upd_same
      have o6 : ∀ b o, H5 b = some o → b ≠ lm → H6 b = some o := fun b o e hb => by rw [← eH6, upd_ne hb]; exact e
      clear eH6
      have d6 := o6 _ _ d5 lmd.symm
      have p6 := o6 _ _ (s5 _ _ (s4 _ _ q1)) plm
      have tS6 : TupS H5 H6 := fun b zs e => o6 _ _ e (ne_of e m5 (by intro z; cases z))
      refine ⟨_, rfl, p, C, dx, _, _, rfl, p6, T.cl, T.nD, wF_drops _ _ _, .inl ⟨rfl, _, .inl (.inl d6)⟩, ?_⟩
      have f6 := o6 _ _ f5 fm
      have hF6 : Paired (FitAt i H6) xs (fitAt R t i) := Paired.mapP hF fun v r h => (h.keep (TupS.of s5)).keep tS6
      have lx : xs.length = (fitAt R t i).length := Paired.length hF
      have lF : (fitAt R t i).length ≤ 32 := Nat.le_trans (List.length_filter_le _ _) hR
      refine ⟨_, rfl, fl, rfl, ⟨xs, .inl (.inl f6)⟩, fun D nD => lc_it walk_list (fun j H' => ∃ acc, Same H6 H' ∧ H' D = some (.lst acc) ∧ Paired (DrAt H') acc ((((fitAt R t i).take j).filter fun r => r.meant.isEmpty).map fun r => (r.cost, i + r.typed.length))) ⟨[], Same.new (Same.refl H6) nD, upd_same, .nil⟩ (fun j H' _ ⟨_, sm, _⟩ => .inl (.inl (sm _ _ f6))) ?_ ?_⟩
      · rintro j x H7 H8 hj ⟨acc, sm, hD, hacc⟩ ⟨rfl, ex⟩
        obtain ⟨r, er, x1, x2, rfl, z1, z2⟩ := paired_get hF6 ex
        have s1 := sm _ _ z1
        have s2 := sm _ _ z2
        have more := filter_snoc (p := fun r : Row => r.meant.isEmpty) er
        have lacc : acc.length ≤ 32 := by
          rw [Paired.length hacc, List.length_map]
          have l1 := List.length_filter_le (fun r : Row => r.meant.isEmpty) ((fitAt R t i).take j)
          rw [List.length_take] at l1
          omega
        refine ⟨_, _, rfl, .inl (.inl s1), rfl, _, _, rfl, _, _, rfl, _, _, rfl, rfl, rfl, ?_⟩
        refine ⟨_, rfl, _, _, rfl, .inr (.inl (.inl s2)), rfl, _, rfl, ite2 (fun c1 => ?_) (fun c1 => ?_)⟩
        · have c1 := of_decide_eq_true c1
          have em : r.meant = [] := by
            injection c1 with c1
            rw [List.length_map] at c1
            exact List.eq_nil_of_length_eq_zero (by omega)
          refine ⟨_, rfl, _, rfl, by show 2 ≤ sizeLine; rw [sizeLine_eq]; decide, fun g ng => ?_⟩
          have gD : D ≠ g := ne_of_none hD ng
          refine ⟨acc, (upd_ne gD).trans hD, by rw [sizeLine_eq]; omega, acc ++ [V.ref g], fun b o e => ?_, upd_same, ?_⟩
          · rw [upd_ne (ne_of_none e nD), upd_ne (ne_of_none (sm _ _ e) ng)]
            exact sm _ _ e
          · have tG : TupS H8 (upd (upd H8 g (.tup [iv r.cost, iv (i + r.typed.length)])) D (.lst (acc ++ [V.ref g]))) := fun b zs h => by
              rw [upd_ne (fun z => by rw [z, hD] at h; cases h), upd_ne (ne_of_none h ng)]
              exact h
            rw [more, if_pos (by rw [em]; rfl), List.map_append]
            refine paired_snoc (Paired.mapP hacc fun v m ⟨a1, a2, a3⟩ => ⟨a1, a2, tG _ _ a3⟩) ⟨g, rfl, ?_⟩
            rw [upd_ne gD.symm, upd_same]
        · have e0 : ¬ r.meant = [] := fun em => c1 (decide_eq_true (by rw [em]; rfl))
          refine ⟨acc, sm, hD, ?_⟩
          rw [more, if_neg (by rw [List.isEmpty_iff]; exact e0), List.append_nil]
          exact hacc
      · rintro H7 ⟨acc, sm, hD, hacc⟩
        rw [lx, List.take_length] at hacc
        have m7 := sm _ _ m6
        have d7 := sm _ _ d6
        have dD : D ≠ ld := fun z => by rw [z, d6] at nD; cases nD
        refine ⟨ld, ds, _, rfl, rfl, d7, by rw [sizeLine_eq]; omega, ?_⟩
        have o8 : ∀ b o, H7 b = some o → b ≠ ld → upd H7 ld (HO.lst (ds ++ [V.ref D])) b = some o := fun b o e hb => by rw [upd_ne hb]; exact e
        have back : ∀ b o, H2 b = some o → b ≠ lm → b ≠ ld → upd H7 ld (HO.lst (ds ++ [V.ref D])) b = some o := fun b o e h1 h2 => o8 _ _ (sm _ _ (o6 _ _ (s5 _ _ (s4 _ _ e)) h1)) h2
        have tS8 : TupS H7 (upd H7 ld (HO.lst (ds ++ [V.ref D]))) := fun b zs e => o8 _ _ e (ne_of e d7 (by intro z; cases z))
        have er : List.range (i + 1) = List.range i ++ [i] := List.range_succ
        have md : ml ≠ ld := fun z => by rw [z, d4] at nml; cases nml
        have Dm : D ≠ lm := fun z => by rw [z, m6] at nD; cases nD
        refine ⟨_, _, _, _, rfl, back _ _ q1 plm pld, o8 _ _ m7 lmd, upd_same, fun b o e hb => back _ _ (q4 _ _ e hb) (ne_of_none e nlm) (ne_of_none e nld), ?_, ?_⟩
        · rw [er]
          refine paired_snoc (Paired.mapP q5 fun v q ⟨h1, h2, h3⟩ => ⟨h1.keep fun b o e h => ?_, h2, h3⟩) ⟨⟨ml, _, rfl, o8 _ _ (sm _ _ (o6 _ _ hml mm)) md, Paired.mapP hM fun v m h => ((h.keep tS6).keep (TupS.of sm)).keep tS8⟩, fun z => mm (by injection z), fun z => md (by injection z)⟩
          rcases h with ⟨xs, rfl, rfl⟩ | ⟨xs, rfl⟩
          · exact back _ _ e (fun z => h2 (by rw [z])) (fun z => h3 (by rw [z]))
          · exact back _ _ e (ne_of e q2 (by intro z; cases z)) (ne_of e q3 (by intro z; cases z))
        · rw [er]
          refine paired_snoc (Paired.mapP q6 fun v q ⟨h1, h2, h3⟩ => ⟨h1.keep fun b o e h => ?_, h2, h3⟩) ⟨⟨D, acc, rfl, o8 _ _ hD dD, Paired.mapP hacc fun v m ⟨a1, a2, a3⟩ => ⟨a1, a2, tS8 _ _ a3⟩⟩, fun z => Dm (by injection z), fun z => dD (by injection z)⟩
          rcases h with ⟨xs, rfl, rfl⟩ | ⟨xs, rfl⟩
          · exact back _ _ e (fun z => h2 (by rw [z])) (fun z => h3 (by rw [z]))
          · exact back _ _ e (ne_of e q2 (by intro z; cases z)) (ne_of e q3 (by intro z; cases z))
    · rintro σ H1 ⟨ms, ds, v3, v4, rfl, q1, q2, q3, q4, q5, q6⟩
      exact k H1 ⟨dx, lm, ld, ms, ds, q1, q2, q3, Paired.mapP q5 fun _ _ h => h.1, Paired.mapP q6 fun _ _ h => h.1⟩ q4
end
end Slip
end
/-! ## MLike -/
section
set_option Elab.async false
set_option linter.all false
set_option maxHeartbeats 1000000
namespace Slip
open PySem PySem.Spec PyProof.Rows L2
open SyBase SySpell SySlip
/-! what may be to come -/
def comsOf (R : List Row) : List (List Nat) := [] :: (R.map (fun r => r.meant.tail) ++ R.map (fun r => r.meant.tail.tail))
structure Cld (R : List Row) (C : List (List Nat)) : Prop where
  nil : [] ∈ C
  tail : ∀ x r, x :: r ∈ C → r ∈ C
  meant : ∀ s ∈ R, s.meant.tail ∈ C
theorem coms_cld {R : List Row} (h : Short R) : Cld R (comsOf R) := by
  refine ⟨.head _, fun x r m => ?_, fun s hs => .tail _ (List.mem_append_left _ (List.mem_map_of_mem hs))⟩
  rcases List.mem_cons.mp m with e | m
  · cases e
  · rcases List.mem_append.mp m with m | m
    · obtain ⟨s, hs, e⟩ := List.mem_map.mp m
      refine .tail _ (List.mem_append_right _ (List.mem_map.mpr ⟨s, hs, ?_⟩))
      rw [e]; rfl
    · obtain ⟨s, hs, e⟩ := List.mem_map.mp m
      have l := (h s hs).2.1
      have := congrArg List.length e
      simp only [List.length_tail, List.length_cons] at this
      have : r = [] := List.eq_nil_of_length_eq_zero (by omega)
      subst this
      exact .head _
theorem coms_len (R : List Row) : (comsOf R).length = 2 * R.length + 1 := by
  unfold comsOf
  rw [List.length_cons, List.length_append, List.length_map, List.length_map]
  omega
section
variable {R : List Row} {t : List Nat} {d : Nat} {Ts K : List Trk} {C : List (List Nat)}
theorem drop_at {p : Nat} (h : p < t.length) : t.drop p = t.getD p 0 :: t.drop (p + 1) := by
  rw [List.drop_eq_getElem_cons h, List.getD_eq_getElem?_getD, List.getElem?_eq_getElem h]
  rfl
theorem Goes.fair (hC : Cld R C) {T T' : Trk} {x : Nat} (g : Goes R t d T x T') (h : Fair C t T) : Fair C t T' := by
  rcases g with ⟨r, e, rfl⟩ | ⟨e, m, hm, h1, h2, h3, rfl⟩
  · exact ⟨h.1, h.2.1, hC.tail x r (e ▸ h.2.2)⟩
  · refine ⟨h2, ?_, ?_⟩
    · rcases moves_mem.mp hm with ⟨s, hs, f1, f2, rfl⟩ | ⟨l, rfl⟩
      · exact fit_after h.2.1 f1
      · exact l
    · rcases moves_mem.mp hm with ⟨s, hs, f1, f2, rfl⟩ | ⟨l, rfl⟩
      · exact hC.meant s hs
      · exact hC.nil
theorem Goes.cost {T T' : Trk} {x : Nat} (g : Goes R t d T x T') (h : T.cost ≤ d) : T'.cost ≤ d := by
  rcases g with ⟨r, e, rfl⟩ | ⟨e, m, hm, h1, h2, h3, rfl⟩
  · exact h
  · exact h1
theorem Goes.may {T T' : Trk} {x : Nat} {r : List Nat} {c : Nat} (g : Goes R t d T x T') (h : May R t T' r c) : May R t T (x :: r) c := by
  rcases g with ⟨r0, e, rfl⟩ | ⟨e, m, hm, h1, h2, h3, rfl⟩
  · obtain ⟨r', c', e', l, q⟩ := h
    exact ⟨r', c', by rw [e, e']; rfl, l, q⟩
  · obtain ⟨r', c', e', l, q⟩ := h
    rcases moves_mem.mp hm with ⟨s, hs, f1, f2, rfl⟩ | ⟨lt, rfl⟩
    · have q' : SM.Cut (slipsOf R) (3 - (T.taken + 1) + 1) ((slip s).typed ++ t.drop (T.place + s.typed.length)) ((slip s).meant ++ r') ((slip s).cost + c') := .slip (slipsOf_mem.mpr ⟨s, hs, rfl⟩) q
      have h2' : T.taken + 1 ≤ 3 := h2
      have e3 : 3 - (T.taken + 1) + 1 = 3 - T.taken := by omega
      rw [e3] at q'
      refine ⟨x :: r, s.cost + c', by rw [e]; rfl, ?_, ?_⟩
      · have : T.cost + s.cost + c' ≤ c := l
        omega
      · rw [fit_split f1]
        have e4 : x :: r = s.meant ++ r' := by
          rw [e', ← h3]
          show s.meant.headD 0 :: (s.meant.tail ++ r') = _
          cases z : s.meant with
          | nil => exact absurd z f2
          | cons y ys => rfl
        rw [e4]
        exact q'
    · have e4 : x :: r = T.coming ++ (t.getD T.place 0 :: r') := by
        rw [e, e', ← h3]; rfl
      refine ⟨_, c', e4, by have : T.cost + 0 + c' ≤ c := l; omega, ?_⟩
      rw [drop_at lt]
      exact .same q
/-- from a settled row of tracks each cutting goes on -/
theorem Stld.on (h : Stld R t d C Ts K) : ∀ {n : Nat} {a r : List Nat} {c' : Nat}, SM.Cut (slipsOf R) n a r c' → ∀ (T : Trk) (c : Nat), T ∈ K → T.coming = [] → n ≤ 3 - T.taken → a = t.drop T.place → T.cost + c' ≤ c → c ≤ d →
    (r = [] → ∃ T' ∈ K, T'.reached = (t.length, []) ∧ T'.cost ≤ c) ∧ ∀ x r1, r = x :: r1 → ∃ T0 ∈ K, ∃ T', Goes R t d T0 x T' ∧ May R t T' r1 c := by
  intro n a r c' q
  induction q with
  | nil =>
    intro T c m e hn ha hc hd
    refine ⟨fun _ => ⟨T, m, ?_, by omega⟩, fun x r1 e => nomatch e⟩
    have := congrArg List.length ha
    rw [List.length_drop, List.length_nil] at this
    have := (h.fair T m).2.1
    unfold Trk.reached
    rw [e]
    congr 1
    omega
  | @same n x t' m' c' q ih =>
    intro T c m e hn ha hc hd
    refine ⟨fun e => (nomatch e), fun y r1 e' => ?_⟩
    injection e' with e1 e2
    subst e1 e2
    have lt : T.place < t.length := by
      have := congrArg List.length ha
      rw [List.length_drop, List.length_cons] at this
      omega
    rw [drop_at lt] at ha
    injection ha with a1 a2
    refine ⟨T, m, _, .inr ⟨e, _, moves_mem.mpr (.inr ⟨lt, rfl⟩), ?_, ?_, a1.symm, rfl⟩, m', c', rfl, ?_, ?_⟩
    · show T.cost + 0 ≤ d; omega
    · have := (h.fair T m).1
      show T.taken + 0 ≤ 3; omega
    · show T.cost + 0 + c' ≤ c; omega
    · show SM.Cut _ (3 - (T.taken + 0)) (t.drop (T.place + 1)) m' c'
      rw [← a2]
      exact q.more (by omega)
  | @slip n s t' m' c' hs q ih =>
    intro T c m e hn ha hc hd
    obtain ⟨s, hsR, rfl⟩ := slipsOf_mem.mp hs
    have ha' : s.typed ++ t' = t.drop T.place := ha
    have hc' : T.cost + (s.cost + c') ≤ c := hc
    have fit : (t.drop T.place).take s.typed.length = s.typed := by rw [← ha', List.take_left]
    have rest : t' = t.drop (T.place + s.typed.length) := by
      rw [← List.drop_drop, ← ha', List.drop_left]
    have tk : T.taken < 3 := by omega
    by_cases c0 : s.meant = []
    · have m1 : (⟨T.cost + s.cost, T.taken + 1, T.place + s.typed.length, []⟩ : Trk) ∈ dropped R t T := dropped_mem.mpr ⟨e, _, drops_mem.mpr ⟨s, hsR, fit, c0, rfl⟩, rfl⟩
      obtain ⟨T', mT, z1, z2, z3⟩ := h.drop T m tk _ m1 (by show T.cost + s.cost ≤ d; omega)
      have p1 : T'.place = T.place + s.typed.length := congrArg Prod.fst z1
      have p2 : T'.coming = [] := congrArg Prod.snd z1
      have z2' : T'.cost ≤ T.cost + s.cost := z2
      have z3' : T'.taken ≤ T.taken + 1 := z3
      have := ih T' c mT p2 (by omega) (by rw [p1]; exact rest) (by omega) hd
      have e0 : (slip s).meant ++ m' = m' := by show s.meant ++ _ = _; rw [c0]; rfl
      rw [e0]
      exact this
    · refine ⟨fun z => ?_, fun x r1 z => ?_⟩
      · have : s.meant ++ m' = [] := z
        exact absurd (List.append_eq_nil_iff.mp this).1 c0
      · have z' : s.meant ++ m' = x :: r1 := z
        obtain ⟨ys, hy⟩ : ∃ ys, s.meant = x :: ys := by
          cases hm : s.meant with
          | nil => exact absurd hm c0
          | cons y ys => rw [hm] at z'; injection z' with z1 _; exact ⟨ys, by rw [z1]⟩
        have hr : r1 = ys ++ m' := by
          rw [hy] at z'; injection z' with _ z2; exact z2.symm
        refine ⟨T, m, _, .inr ⟨e, _, moves_mem.mpr (.inl ⟨s, hsR, fit, c0, rfl⟩), ?_, ?_, ?_, rfl⟩, m', c', ?_, ?_, ?_⟩
        · show T.cost + s.cost ≤ d; omega
        · show T.taken + 1 ≤ 3; omega
        · show s.meant.headD 0 = x; rw [hy]; rfl
        · show r1 = s.meant.tail ++ m'; rw [hy]; exact hr
        · show T.cost + s.cost + c' ≤ c; omega
        · show SM.Cut _ (3 - (T.taken + 1)) (t.drop (T.place + s.typed.length)) m' c'
          rw [← rest]
          exact q.more (by omega)
theorem Stld.whole (h : Stld R t d C Ts K) {c : Nat} (hc : c ≤ d) : MayL R t K [] c ↔ ∃ T ∈ K, T.reached = (t.length, []) ∧ T.cost ≤ c := by
  constructor
  · rintro ⟨T, m, r', c', e, l, q⟩
    have e2 := List.append_eq_nil_iff.mp e.symm
    exact (h.on q T c m e2.1 (Nat.le_refl _) rfl l hc).1 e2.2
  · rintro ⟨T, m, e, l⟩
    have p1 : T.place = t.length := congrArg Prod.fst e
    have p2 : T.coming = [] := congrArg Prod.snd e
    refine ⟨T, m, [], 0, by rw [p2]; rfl, l, ?_⟩
    rw [p1, List.drop_length]
    exact .nil
theorem Stld.go (h : Stld R t d C Ts K) {x : Nat} {r : List Nat} {c : Nat} (hc : c ≤ d) : MayL R t K (x :: r) c ↔ MayL R t (getF (onward R t d K) x) r c := by
  constructor
  · rintro ⟨T, m, r', c', e, l, q⟩
    cases z : T.coming with
    | nil =>
      rw [z] at e
      obtain ⟨T0, m0, T', g, k⟩ := (h.on q T c m z (Nat.le_refl _) rfl l hc).2 x r e.symm
      exact ⟨T', onward_mem.mpr ⟨T0, m0, g⟩, k⟩
    | cons y ys =>
      rw [z] at e
      injection e with e1 e2
      subst e1
      exact ⟨_, onward_mem.mpr ⟨T, m, .inl ⟨ys, z, rfl⟩⟩, r', c', e2, l, q⟩
  · rintro ⟨T', m', k⟩
    obtain ⟨T, m, g⟩ := onward_mem.mp m'
    exact ⟨T, m, g.may k⟩
theorem leastOf_none {l : List Nat} : leastOf l = none ↔ l = [] := by
  cases l <;> simp [leastOf]
theorem foldl_min : ∀ (l : List Nat) (x : Nat), (l.foldl min x = x ∨ l.foldl min x ∈ l) ∧ l.foldl min x ≤ x ∧ ∀ y ∈ l, l.foldl min x ≤ y
  | [], x => ⟨.inl rfl, Nat.le_refl _, fun _ m => nomatch m⟩
  | z :: l, x => by
    obtain ⟨a, b, c⟩ := foldl_min l (min x z)
    rw [List.foldl_cons]
    refine ⟨?_, Nat.le_trans b (Nat.min_le_left _ _), fun y m => ?_⟩
    · rcases a with a | a
      · rw [a]
        rcases Nat.le_total x z with q | q
        · exact .inl (Nat.min_eq_left q)
        · exact .inr (by rw [Nat.min_eq_right q]; exact .head _)
      · exact .inr (.tail _ a)
    · rcases List.mem_cons.mp m with rfl | m
      · exact Nat.le_trans b (Nat.min_le_right _ _)
      · exact c y m
theorem leastOf_some {l : List Nat} {m : Nat} (h : leastOf l = some m) : m ∈ l ∧ ∀ y ∈ l, m ≤ y := by
  cases l with
  | nil => cases h
  | cons x l =>
    obtain rfl := Option.some.inj h
    obtain ⟨a, b, c⟩ := foldl_min l x
    refine ⟨?_, fun y hy => ?_⟩
    · rcases a with a | a
      · rw [a]; exact .head _
      · exact .tail _ a
    · rcases List.mem_cons.mp hy with rfl | hy
      · exact b
      · exact c y hy
theorem whole_some {c : Nat} (h : wholeCost t K = some c) : (∃ T ∈ K, T.reached = (t.length, []) ∧ T.cost = c) ∧ ∀ T ∈ K, T.reached = (t.length, []) → c ≤ T.cost := by
  obtain ⟨a, b⟩ := leastOf_some h
  obtain ⟨T, m, e⟩ := List.mem_map.mp a
  rw [List.mem_filter, decide_eq_true_eq] at m
  exact ⟨⟨T, m.1, m.2, e⟩, fun T' m' e' => b _ (List.mem_map.mpr ⟨T', List.mem_filter.mpr ⟨m', decide_eq_true e'⟩, rfl⟩)⟩
theorem whole_none (h : wholeCost t K = none) : ∀ T ∈ K, T.reached ≠ (t.length, []) := by
  intro T m e
  have := List.map_eq_nil_iff.mp (leastOf_none.mp h)
  have h2 : T ∈ K.filter fun T => decide (T.reached = (t.length, [])) := List.mem_filter.mpr ⟨m, decide_eq_true e⟩
  rw [this] at h2
  cases h2
/-! cost -/
def firstT : List Trk := [⟨0, 0, 0, []⟩]
theorem first_may {r : List Nat} {c : Nat} : MayL R t firstT r c ↔ ∃ c', c' ≤ c ∧ SM.Cut (slipsOf R) 3 t r c' := by
  constructor
  · rintro ⟨T, m, r', c', e, l, q⟩
    obtain rfl := List.mem_singleton.mp m
    have e' : r = r' := e
    subst e'
    exact ⟨c', by have : 0 + c' ≤ c := l; omega, q⟩
  · rintro ⟨c', l, q⟩
    exact ⟨_, .head _, r, c', rfl, by show 0 + c' ≤ c; omega, q⟩
theorem first_fair (hC : Cld R C) : ∀ T ∈ firstT, Fair C t T := fun T m => by
  obtain rfl := List.mem_singleton.mp m
  exact ⟨Nat.zero_le _, Nat.zero_le _, hC.nil⟩
def DEAR3 : Nat := 196605
def costGo (R : List Row) (t : List Nat) : List Nat → List Trk → Option Nat
  | [], K => wholeCost t K
  | x :: m, K => costGo R t m (settle R t DEAR3 (getF (onward R t DEAR3 K) x))
def leastCost (R : List Row) (t m : List Nat) : Option Nat := costGo R t m (settle R t DEAR3 firstT)
theorem costGo_is (hC : Cld R C) : ∀ (m : List Nat) (Ts : List Trk), (∀ T ∈ Ts, Fair C t T) → match costGo R t m (settle R t DEAR3 Ts) with
    | some c => c ≤ DEAR3 ∧ MayL R t Ts m c ∧ ∀ c', c' ≤ DEAR3 → MayL R t Ts m c' → c ≤ c'
    | none => ∀ c', c' ≤ DEAR3 → ¬ MayL R t Ts m c'
  | [], Ts, hT => by
    have S := settle_is (R := R) (t := t) (d := DEAR3) hC.nil hT
    show match wholeCost t (settle R t DEAR3 Ts) with
      | some c => _
      | none => _
    cases e : wholeCost t (settle R t DEAR3 Ts) with
    | none =>
      intro c' hc' q
      rw [← S.may hc', S.whole hc'] at q
      obtain ⟨T, m, z, _⟩ := q
      exact whole_none e T m z
    | some c =>
      obtain ⟨⟨T, m, z1, z2⟩, z3⟩ := whole_some e
      have hc : c ≤ DEAR3 := by rw [← z2]; exact S.le T m
      refine ⟨hc, (S.may hc).mp ((S.whole hc).mpr ⟨T, m, z1, by omega⟩), fun c' hc' q => ?_⟩
      rw [← S.may hc', S.whole hc'] at q
      obtain ⟨T', m', a, b⟩ := q
      exact Nat.le_trans (z3 T' m' a) b
  | x :: m, Ts, hT => by
    have S := settle_is (R := R) (t := t) (d := DEAR3) hC.nil hT
    have F : ∀ T' ∈ getF (onward R t DEAR3 (settle R t DEAR3 Ts)) x, Fair C t T' := fun T' m' => by
      obtain ⟨T, m, g⟩ := onward_mem.mp m'
      exact g.fair hC (S.fair T m)
    have ih := costGo_is hC m _ F
    show match costGo R t m (settle R t DEAR3 (getF (onward R t DEAR3 (settle R t DEAR3 Ts)) x)) with
      | some c => _
      | none => _
    have eq : ∀ c', c' ≤ DEAR3 → (MayL R t (getF (onward R t DEAR3 (settle R t DEAR3 Ts)) x) m c' ↔ MayL R t Ts (x :: m) c') := fun c' hc' => by
      rw [← S.go hc', S.may hc']
    cases e : costGo R t m (settle R t DEAR3 (getF (onward R t DEAR3 (settle R t DEAR3 Ts)) x)) with
    | none =>
      rw [e] at ih
      exact fun c' hc' q => ih c' hc' ((eq c' hc').mpr q)
    | some c =>
      rw [e] at ih
      exact ⟨ih.1, (eq c ih.1).mp ih.2.1, fun c' hc' q => ih.2.2 c' hc' ((eq c' hc').mpr q)⟩
theorem cut_cost (h : Short R) {n : Nat} {a m : List Nat} {c : Nat} (q : SM.Cut (slipsOf R) n a m c) : c ≤ n * 65535 ∧ m.length ≤ a.length + 3 * n := by
  induction q with
  | nil => exact ⟨Nat.zero_le _, Nat.zero_le _⟩
  | same _ ih => exact ⟨ih.1, by simp only [List.length_cons]; omega⟩
  | slip hs _ ih =>
    obtain ⟨s, hsR, rfl⟩ := slipsOf_mem.mp hs
    have a := h s hsR
    refine ⟨?_, ?_⟩
    · show s.cost + _ ≤ _
      rw [Nat.succ_mul]
      omega
    · show (s.meant ++ _).length ≤ (s.typed ++ _).length + _
      rw [List.length_append, List.length_append]
      omega
theorem leastCost_eq (h : Short R) (m : List Nat) : leastCost R t m = costBy (slipsOf R) t m := by
  refine SM.IsLeast.unique (P := SM.Cut (slipsOf R) USED t m) ?_ (SM.costBy_least _ _ _)
  have := costGo_is (t := t) (coms_cld h) m firstT (first_fair (coms_cld h))
  show SM.IsLeast _ (costGo R t m (settle R t DEAR3 firstT))
  cases e : costGo R t m (settle R t DEAR3 firstT) with
  | none =>
    rw [e] at this
    intro c q
    exact this c (by have := (cut_cost h q).1; show c ≤ 196605; unfold USED at this; omega) (first_may.mpr ⟨c, Nat.le_refl _, q⟩)
  | some c =>
    rw [e] at this
    obtain ⟨h1, h2, h3⟩ := this
    have le : ∀ c', SM.Cut (slipsOf R) USED t m c' → c ≤ c' := fun c' q => h3 c' (by have := (cut_cost h q).1; show c' ≤ 196605; unfold USED at this; omega) (first_may.mpr ⟨c', Nat.le_refl _, q⟩)
    obtain ⟨c', l, q⟩ := first_may.mp h2
    have e' : c' = c := Nat.le_antisymm l (le c' q)
    exact ⟨e' ▸ q, le⟩
end
end Slip
end
/-! ## PWSm -/
section
set_option Elab.async false
set_option linter.all false
set_option maxRecDepth 100000
set_option maxHeartbeats 2000000
namespace Slip
open PySem PySem.Spec PyProof.Rows L2
open PySem.W (alike dataLe AllAlike Sortable EachIs)
section
variable {P : Program} {w : World} {K : PySem.W.Frag} {mg : Str → Option Value} {base : Heap} {C : Addr}
/-! first -/
def spFirst : Sp := fun vs H Q _ => ∃ (a : Addr), vs = [.ref a] ∧ ∀ (H' : Hp) (l : Addr) (xs : List V), Same H H' → H l = none → H' l = some (.lst xs) → Paired (TrAt H') xs firstT → Q (.ref l) H'
theorem scFirst : FnScope ["self"] ["self"] (defScope sFirst) := ⟨rfl, rfl, rfl, by decide +kernel, rfl, by decide +kernel, by decide +kernel⟩
theorem ok_First {f : Addr} {fd : FuncData} (F : Fun K "first" "Ways.first" sFirst f fd) : FnOk P w K mg base CX0 1 f fd ["self"] spFirst := by
  refine F.ok scFirst (fun vs H Q E h => ?_) (fun cdv A outer s H vs Q E hr h => ⟨_, pss_one (ps_ret (pe_lst (pa_cons (pe_tup (pa_cons pe_int (pa_cons pe_int (pa_cons pe_int (pa_cons (pe_tup pa_nil) pa_nil))))) pa_nil))), ?_⟩)
  · obtain ⟨a, rfl, _⟩ := h
    rfl
  · obtain ⟨a, rfl, k⟩ := h
    refine ⟨Nat.zero_le _, fun c nc => ⟨by show 4 ≤ sizeLine; rw [sizeLine_eq]; decide, fun g ng => ⟨by show 1 ≤ sizeLine; rw [sizeLine_eq]; decide, fun l nl => ?_⟩⟩⟩
    have cg : c ≠ g := fun z => by rw [← z, upd_same] at ng; cases ng
    have gl : g ≠ l := fun z => by rw [← z, upd_same] at nl; cases nl
    have cl : c ≠ l := fun z => by rw [← z, upd_ne cg, upd_same] at nl; cases nl
    have ng' : H g = none := by rw [upd_ne cg.symm] at ng; exact ng
    have nl' : H l = none := by rw [upd_ne gl.symm, upd_ne cl.symm] at nl; exact nl
    refine k _ l _ (fun b o e => ?_) nl' upd_same (.cons ⟨g, c, rfl, ?_, ?_⟩ .nil)
    · rw [upd_ne (ne_of_none e nl'), upd_ne (ne_of_none e ng'), upd_ne (ne_of_none e nc)]; exact e
    · rw [upd_ne gl, upd_same]; rfl
    · rw [upd_ne cl, upd_ne cg, upd_same]; rfl
/-! dropped -/
def spDropped (C : Addr) : Sp := fun vs H Q _ => ∃ (a : Addr) (v : V) (R : List Row) (t : List Nat) (T : Trk), vs = [.ref a, v] ∧ WaysAt C H a R t ∧ TrAt H v T ∧ T.place ≤ t.length ∧ R.length ≤ 32 ∧
  ∀ (H' : Hp) (l : Addr) (xs : List V), Same H H' → H l = none → H' l = some (.lst xs) → Paired (TrAt H') xs (dropped R t T) → Q (.ref l) H'
theorem scDropped : FnScope ["self", "track", "cost", "after"] ["self", "track"] (defScope sDropped) := ⟨rfl, rfl, rfl, by decide +kernel, rfl, by decide +kernel, by decide +kernel⟩
theorem ok_Dropped {f : Addr} {fd : FuncData} (F : Fun K "dropped" "Ways.dropped" sDropped f fd) (T : TWays K mg C) : FnOk P w K mg base CX0 1 f fd ["self", "track"] (spDropped C) := by
  refine F.ok scDropped (fun vs H Q E h => ?_) (fun cdv A outer s H vs Q E hr h => ⟨_, pss_cons (ps_if (pt_cmpR op_gt (pe_callB call_len_seq (by rfl) T.len PySem.boot_len (pa_cons (pe_ix ix_tup (pv 1) pe_int (fun _ _ => rfl)) pa_nil)) pe_int (nomark _)) (pss_one (ps_ret (pe_lst pa_nil))) pss_nil)
      (pss_one (ps_ret (pe_lc (own := [("cost", 2), ("after", 3)]) (g := gTup K 2 (gCons (gName 2) (gCons (gName 3) gNil))) (tt := tYes)
        (te := tTup (tCons (tOp (rI0 fun i j => .int (i + j)) (tOp (rIxT K) (tVar 1) (tC (.int 0))) (tVar 2)) (tCons (tOp (rI0 fun i j => .int (i + j)) (tOp (rIxT K) (tVar 1) (tC (.int 1))) (tC (.int 1))) (tCons (tVar 3) (tCons (tTup tNil) tNil)))))
        rfl scDropped.nd (pi_list (pe_ix ix_list (pe_fld (pv 0) rfl) (pe_ix ix_tup (pv 1) pe_int (fun _ _ => rfl)) (fun _ _ => rfl))) (blkOk_by (N := ["self", "track", "cost", "after"]) (sc := defScope sDropped) (by decide +kernel))
        (fun _ _ _ _ _ => pg_tup rfl (pgs_cons (pg_name (i := 2) scDropped.nd rfl (Or.inl rfl)) (pgs_cons (pg_name (i := 3) scDropped.nd rfl (Or.inl rfl)) pgs_nil)))
        (fun _ _ _ _ _ => pts_nil)
        (fun _ _ _ _ _ => pe_tup (pa_cons (pe_op op_add (pe_ix ix_tup (pv 1) pe_int (fun _ _ => rfl)) (pv 2)) (pa_cons (pe_op op_add (pe_ix ix_tup (pv 1) pe_int (fun _ _ => rfl)) pe_int) (pa_cons (pv 3) (pa_cons (pe_tup pa_nil) pa_nil)))))))), ?_⟩)
  · obtain ⟨a, v, R, t, T, rfl, _⟩ := h
    rfl
  · obtain ⟨a, v, R, t, T0, rfl, ⟨dx, lm, ld, ms, ds, h1, h2, h3, h4, h5⟩, ⟨ta, tb, rfl, ht, htb⟩, hpl, hR, k⟩ := h
    refine ⟨_, rfl, _, _, 3, _, rfl, rfl, .inl (.inl ht), atI_nat rfl, _, _, rfl, .inr (.inl (.inl htb)), _, _, rfl, rfl, _, rfl, ite2 (fun c1 => ?_) (fun c1 => ?_)⟩
    · have c1 := of_decide_eq_true c1
      rw [List.length_map] at c1
      refine ⟨Nat.zero_le _, fun l nl => k _ l [] (Same.new (Same.refl H) nl) nl upd_same ?_⟩
      have e : dropped R t T0 = [] := by
        unfold dropped
        rw [if_neg]
        rw [List.isEmpty_iff]
        intro z
        rw [z] at c1
        exact absurd c1 (by decide)
      rw [e]; exact .nil
    · have c0 : T0.coming = [] := by
        refine List.eq_nil_of_length_eq_zero ?_
        have : ¬ 0 < T0.coming.length := fun z => c1 (decide_eq_true (by rw [List.length_map]; omega))
        omega
      have lr : (List.range (t.length + 1))[T0.place]? = some T0.place := List.getElem?_range (by omega)
      have ld' : ds.length = t.length + 1 := by rw [Paired.length h5, List.length_range]
      have ed : ds[T0.place]? = some (ds[T0.place]'(by omega)) := List.getElem?_eq_getElem (by omega)
      generalize ds[T0.place]'(by omega) = dv at ed
      obtain ⟨q, eq, l, xs, rfl, hl, hx⟩ := paired_get h5 ed
      rw [lr] at eq
      cases eq
      have lx : xs.length = (dropsAt R t T0.place).length := Paired.length hx
      have lF : (dropsAt R t T0.place).length ≤ 32 := by
        unfold dropsAt
        rw [List.length_map]
        exact Nat.le_trans (List.length_filter_le _ _) (Nat.le_trans (List.length_filter_le _ _) hR)
      refine ⟨_, rfl, a, C, dx, _, _, rfl, h1, T.cl, T.nD, wF_drops _ _ _, _, rfl, _, _, 2, _, rfl, rfl, .inl (.inl ht), atI_nat rfl, ld, ds, T0.place, _, rfl, rfl, .inl (.inl h3), atI_nat ed, l, rfl, ⟨xs, .inl (.inl hl)⟩, fun D nD => ?_⟩
      refine lc_it walk_list (fun i H' => ∃ acc, Same H H' ∧ H' D = some (.lst acc) ∧ Paired (TrAt H') acc (((dropsAt R t T0.place).take i).map fun x => ⟨T0.cost + x.1, T0.taken + 1, x.2, []⟩)) ⟨[], Same.new (Same.refl H) nD, upd_same, .nil⟩ (fun i H' _ ⟨_, sm, _⟩ => .inl (.inl (sm _ _ hl))) ?_ ?_
      · rintro i x H1 H2 hi ⟨acc, sm, hD, hacc⟩ ⟨rfl, ex⟩
        obtain ⟨y, ey, x1, rfl, z1⟩ := paired_get hx ex
        have s1 := sm _ _ z1
        have lacc : acc.length ≤ 32 := by
          rw [Paired.length hacc, List.length_map, List.length_take]
          omega
        refine ⟨_, _, rfl, .inl (.inl s1), rfl, _, _, rfl, _, _, rfl, rfl, rfl, ?_⟩
        dsimp only [tYes]
        refine iteT ⟨_, rfl, _, _, 0, _, rfl, rfl, .inl (.inl (sm _ _ ht)), atI_nat rfl, _, rfl, _, _, rfl, rfl, _, rfl, _, _, 1, _, rfl, rfl, .inl (.inl (sm _ _ ht)), atI_nat rfl, _, _, rfl, rfl, _, rfl, Nat.zero_le _, fun c nc => ?_⟩
        refine ⟨by show 4 ≤ sizeLine; rw [sizeLine_eq]; decide, fun g ng => ?_⟩
        have cg : c ≠ g := fun z => by rw [← z, upd_same] at ng; cases ng
        rw [upd_ne cg.symm] at ng
        have Dc : D ≠ c := ne_of_none hD nc
        have Dg : D ≠ g := ne_of_none hD ng
        refine ⟨acc, ?_, by rw [sizeLine_eq]; omega, acc ++ [V.ref g], fun b o e => ?_, upd_same, ?_⟩
        · rw [upd_ne Dg, upd_ne Dc]; exact hD
        · rw [upd_ne (ne_of_none e nD), upd_ne (ne_of_none (sm _ _ e) ng), upd_ne (ne_of_none (sm _ _ e) nc)]
          exact sm _ _ e
        · have tG : TupS H2 (upd (upd (upd H2 c (.tup [])) g (.tup [V.int ((T0.cost : Int) + (y.1 : Int)), V.int ((T0.taken : Int) + 1), iv y.2, V.ref c])) D (.lst (acc ++ [V.ref g]))) := fun b zs h => by
            rw [upd_ne (fun z => by rw [z, hD] at h; cases h), upd_ne (ne_of_none h ng), upd_ne (ne_of_none h nc)]
            exact h
          rw [take_more ey, List.map_append]
          refine paired_snoc (Paired.mapP hacc fun v m h => h.keep tG) ⟨g, c, rfl, ?_, ?_⟩
          · rw [upd_ne Dg.symm, upd_same]; rfl
          · rw [upd_ne Dc.symm, upd_ne cg, upd_same]; rfl
      · rintro H1 ⟨acc, sm, hD, hacc⟩
        rw [lx, List.take_length] at hacc
        refine k H1 D acc sm nD hD ?_
        unfold dropped
        rw [if_pos (by rw [c0]; rfl)]
        exact hacc
end
end Slip
end
/-! ## PWWh -/
section
set_option Elab.async false
set_option linter.all false
set_option maxRecDepth 100000
set_option maxHeartbeats 2000000
namespace Slip
open PySem PySem.Spec PyProof.Rows L2
open PySem.W (alike dataLe AllAlike Sortable EachIs)
/-- the place, and what is to come, as data -/
def datR2 (q : Pos2) : PyData := .tuple [.int q.1, dat q.2]
theorem eqv_R2 (p q : Pos2) : PyData.eqv (datR2 p) (datR2 q) = decide (p = q) := by
  unfold datR2
  rw [PyData.eqv, PyData.eqvAll, PyData.eqvAll, PyData.eqvAll, eqv_dat]
  have e : PyData.eqv (.int (p.1 : Int)) (.int (q.1 : Int)) = decide (p.1 = q.1) := by
    rw [Bool.eq_iff_iff]
    simp [PyData.eqv]
    omega
  rw [e, Bool.eq_iff_iff]
  simp only [Bool.and_true, Bool.and_eq_true, decide_eq_true_eq, Prod.ext_iff]
theorem shaped_R2 (q : Pos2) : SeqAt.shaped (datR2 q) = true := by
  have h := shaped_dat q.2
  unfold SeqAt.shaped at h ⊢
  rw [Bool.and_eq_true] at h
  have e1 : PyData.canLay0 (datR2 q) = true := by
    unfold datR2
    rw [PyData.canLay0, PyData.canLayAll0, PyData.canLayAll0, PyData.canLayAll0, h.1]
    rfl
  have e2 : PyData.depth (datR2 q) ≤ 64 := Nat.le_trans (depth_cons (n := 1) (Nat.zero_le _) (depth_cons (Nat.le_of_eq (dat_depth _)) depth_nil)) (by decide)
  rw [e1, decide_eq_true e2]
  rfl
theorem sl_track {K : PySem.W.Frag} {H : Hp} {a : Addr} {w0 w1 w2 w3 : V} {Q : VK} (h : H a = some (.tup [w0, w1, w2, w3])) (q : ∀ c H', Same H H' → H' c = some (.tup [w2, w3]) → Q (.ref c) H') : rSlA K (.ref a) (some 2) none H Q := by
  refine ⟨a, [w0, w1, w2, w3], rfl, .inl (.inl h), fun z => ?_, fun _ p np => q p _ (Same.new (Same.refl H) np) ?_⟩
  · have z1 : HT.sIx 4 0 (some 2) = 0 := z.1
    exact absurd z1 (by decide)
  · rw [upd_same]; rfl
section
variable {P : Program} {w : World} {K : PySem.W.Frag} {mg : Str → Option Value} {base : Heap} {C : Addr}
def spWhole (C : Addr) : Sp := fun vs H Q _ => ∃ (a l : Addr) (xs : List V) (R : List Row) (t : List Nat) (Ks : List Trk), vs = [.ref a, .ref l] ∧ WaysAt C H a R t ∧ H l = some (.lst xs) ∧ Paired (TrAt H) xs Ks ∧ Ks.length < sizeLine ∧
  ∀ H' : Hp, Same H H' → Q (match wholeCost t Ks with | some c => iv c | none => .non) H'
theorem scWhole : FnScope ["self", "tracks", "track"] ["self", "tracks"] (defScope sWhole) := ⟨rfl, rfl, rfl, by decide +kernel, rfl, by decide +kernel, by decide +kernel⟩
theorem ok_Whole {f : Addr} {fd : FuncData} (F : Fun K "whole_cost" "Ways.whole_cost" sWhole f fd) (T : TWays K mg C) : FnOk P w K mg base CX0 1 f fd ["self", "tracks"] (spWhole C) := by
  refine F.ok scWhole (fun vs H Q E h => ?_) (fun cdv A outer s H vs Q E hr h => ⟨_, pss_one (ps_ret (pe_callBK (cr_minNone rfl hr.units) (by rfl) T.min (by decide +kernel) (pa_cons
      (pe_lc (own := [("track", 2)]) (g := gName 2) (tt := tTest (tOp (rEqD K) (tSl (rSlA K) (tVar 2) (tPart (tC (.int 2))) tNoPart) (tTup (tCons (tFld K (tVar 0) "length") (tCons (tTup tNil) tNil))))) (te := tOp (rIxT K) (tVar 2) (tC (.int 0)))
        rfl scWhole.nd (pi_list (pv 1)) (blkOk_by (N := ["self", "tracks", "track"]) (sc := defScope sWhole) (by decide +kernel))
        (fun _ _ _ _ _ => pg_name (i := 2) scWhole.nd rfl (Or.inl rfl))
        (fun _ _ _ _ _ => pts_one (pt_cmpR (op_eqD hr.units) (pe_slice sl_tupA (pv 2) (po_some pe_int) po_none) (pe_tup (pa_cons (pe_fld (pv 0) rfl) (pa_cons (pe_tup pa_nil) pa_nil))) (nomark _)))
        (fun _ _ _ _ _ => pe_ix ix_tup (pv 2) pe_int (fun _ _ => rfl))) pa_nil) (pk_cons pe_non pk_nil))), ?_⟩)
  · obtain ⟨a, l, xs, R, t, Ks, rfl, _⟩ := h
    rfl
  · obtain ⟨a, l, xs, R, t, Ks, rfl, ⟨dx, lm, ld, ms, ds, h1, h2, h3, h4, h5⟩, hl, hx, hz, k⟩ := h
    have lx : xs.length = Ks.length := Paired.length hx
    refine ⟨_, rfl, l, rfl, ⟨xs, .inl (.inl hl)⟩, fun D nD => lc_it walk_list (fun i H' => ∃ acc : List Nat, Same H H' ∧ H' D = some (.lst (ivs acc)) ∧ acc = ((Ks.take i).filter fun T => decide (T.reached = (t.length, []))).map (·.cost)) ⟨[], Same.new (Same.refl H) nD, upd_same, rfl⟩ (fun i H' _ ⟨_, sm, _⟩ => .inl (.inl (sm _ _ hl))) ?_ ?_⟩
    · rintro i x H1 H2 hi ⟨acc, sm, hD, hacc⟩ ⟨rfl, ex⟩
      obtain ⟨T0, eT, x1, x2, rfl, z1, z2⟩ := paired_get hx ex
      have s1 := sm _ _ z1
      have s2 := sm _ _ z2
      have more := filter_snoc (p := fun T : Trk => decide (T.reached = (t.length, []))) eT
      have lacc : acc.length < sizeLine := by
        rw [hacc, List.length_map]
        refine Nat.lt_of_le_of_lt (List.length_filter_le _ _) ?_
        rw [List.length_take]
        omega
      refine ⟨rfl, _, rfl, _, rfl, ?_⟩
      unfold tNoPart
      refine sl_track s1 fun c H3 s3 h3 => ?_
      refine ⟨_, rfl, a, C, dx, _, _, rfl, s3 _ _ (sm _ _ h1), T.cl, T.nL, wF_length _ _ _, Nat.zero_le _, fun e ne => ⟨by show 2 ≤ sizeLine; rw [sizeLine_eq]; decide, fun g ng => ?_⟩⟩
      have eg : e ≠ g := fun z => by rw [← z, upd_same] at ng; cases ng
      have ng' : H3 g = none := by rw [upd_ne eg.symm] at ng; exact ng
      have s5 : Same H3 (upd (upd H3 e (.tup [])) g (.tup [iv t.length, V.ref e])) := fun b o z => by
        rw [upd_ne (ne_of_none z ng'), upd_ne (ne_of_none z ne)]; exact z
      have h4 : upd (upd H3 e (.tup [])) g (.tup [iv t.length, V.ref e]) e = some (.tup (ivs [])) := by rw [upd_ne eg, upd_same]; rfl
      refine ⟨datR2 T0.reached, datR2 (t.length, []), .tup (.inl (.inl (s5 _ _ h3))) (.cons (.int _) (.cons (dp_dat (s5 _ _ (s3 _ _ s2))) .nil)), .tup (.inl (.inl upd_same)) (.cons (.int _) (.cons (dp_dat h4) .nil)), shaped_R2 _, shaped_R2 _, ?_⟩
      rw [eqv_R2]
      generalize upd (upd H3 e (.tup [])) g (.tup [iv t.length, V.ref e]) = H5 at s5
      have sm5 : Same H H5 := fun b o z => s5 _ _ (s3 _ _ (sm _ _ z))
      have hD5 := s5 _ _ (s3 _ _ hD)
      refine ⟨_, rfl, ite2 (fun c1 => ?_) (fun c1 => ?_)⟩
      · refine ⟨_, rfl, _, _, 0, _, rfl, rfl, .inl (.inl (s5 _ _ (s3 _ _ s1))), atI_nat rfl, _, hD5, by rw [List.length_map]; exact lacc, acc ++ [T0.cost], fun b o z => ?_, ?_, ?_⟩
        · rw [upd_ne (ne_of_none z nD)]; exact sm5 _ _ z
        · rw [upd_same, ivs, ivs, List.map_append]; rfl
        · rw [more, if_pos c1, List.map_append, ← hacc]; rfl
      · refine ⟨acc, sm5, hD5, ?_⟩
        rw [more, if_neg c1, List.append_nil]
        exact hacc
    · rintro H1 ⟨acc, sm, hD, hacc⟩
      rw [lx, List.take_length] at hacc
      have ew : wholeCost t Ks = leastOf acc := by rw [hacc]; rfl
      have ei : ivs acc = (acc.map fun (n : Nat) => (n : Int)).map V.int := by rw [List.map_map]; rfl
      have fm : ∀ (l : List Nat) (x : Nat), (l.map fun (n : Nat) => (n : Int)).foldl min (x : Int) = ((l.foldl min x : Nat) : Int) := by
        intro l
        induction l with
        | nil => intro x; rfl
        | cons y l ih =>
          intro x
          rw [List.map_cons, List.foldl_cons, List.foldl_cons, ← ih]
          congr 1
          omega
      have kk := k H1 sm
      rw [ew] at kk
      refine ⟨D, acc.map fun (n : Nat) => (n : Int), rfl, rfl, .inl (.inl (by rw [hD, ei])), fun e0 => ?_, fun n l e0 => ?_⟩
      · have : acc = [] := List.map_eq_nil_iff.mp e0
        rw [this] at kk
        exact kk
      · cases acc with
        | nil => cases e0
        | cons y ys =>
          rw [List.map_cons] at e0
          injection e0 with e1 e2
          subst e1 e2
          rw [fm]
          exact kk
end
end Slip
end
/-! ## PFnd -/
section
set_option Elab.async false
set_option linter.all false
set_option maxRecDepth 100000
set_option maxHeartbeats 2000000
namespace Slip
open PySem PySem.Spec PyProof.Rows L2
open PySem.W (alike dataLe AllAlike Sortable EachIs)
/-! a dict of lists of tracks -/
abbrev FEnt := Nat × Addr × List V
abbrev fkv (e : FEnt) : Key × V := (.inl (e.1 : Int), .ref e.2.1)
def FEs (H0 H : Hp) (es : List FEnt) (F : Fnd) : Prop := (∀ e ∈ es, H e.2.1 = some (.lst e.2.2) ∧ H0 e.2.1 = none) ∧ (es.map fun e => e.2.1).Nodup ∧ Paired (fun (e : FEnt) (p : Nat × List Trk) => e.1 = p.1 ∧ Paired (TrAt H) e.2.2 p.2) es F
def FndAt (H0 H : Hp) (d : Addr) (F : Fnd) : Prop := ∃ es : List FEnt, H d = some (.dK (es.map fkv)) ∧ FEs H0 H es F
theorem fes_val {H : Hp} {x : Nat} : ∀ {es : List FEnt} {F : Fnd}, Paired (fun (e : FEnt) (p : Nat × List Trk) => e.1 = p.1 ∧ Paired (TrAt H) e.2.2 p.2) es F →
    (hasF F x = false → valV (es.map fkv) (.inl (x : Int)) = none) ∧ (hasF F x = true → ∃ e ∈ es, e.1 = x ∧ valV (es.map fkv) (.inl (x : Int)) = some (.ref e.2.1))
  | _, _, .nil => ⟨fun _ => rfl, fun h => by cases h⟩
  | e :: es, p :: F, .cons r t => by
    have ih := fes_val (x := x) t
    by_cases c : e.1 = x
    · have cp : p.1 = x := r.1.symm.trans c
      refine ⟨fun h => ?_, fun _ => ⟨e, .head _, c, valV_pos (by show (Sum.inl (e.1 : Int) : Key) = _; rw [c])⟩⟩
      simp [hasF, cp] at h
    · have cp : ¬ p.1 = x := fun z => c (r.1.trans z)
      have nk : ¬ (fkv e).1 = .inl (x : Int) := fun z => by
        injection z with z
        exact c (by omega)
      have eh : hasF (p :: F) x = hasF F x := by simp [hasF, cp]
      rw [eh]
      refine ⟨fun h => ?_, fun h => ?_⟩
      · rw [List.map_cons, valV_neg nk]; exact ih.1 h
      · obtain ⟨e', m, a, b⟩ := ih.2 h
        exact ⟨e', .tail _ m, a, by rw [List.map_cons, valV_neg nk]; exact b⟩
theorem nodup_at {α β : Type} {f : α → β} : ∀ {l : List α}, (l.map f).Nodup → ∀ {a b : α}, a ∈ l → b ∈ l → f a = f b → a = b
  | [], _, _, _, h, _, _ => nomatch h
  | x :: l, h, a, b, ha, hb, e => by
    rw [List.map_cons, List.nodup_cons] at h
    rcases List.mem_cons.mp ha with ea | ha
    · rcases List.mem_cons.mp hb with eb | hb
      · rw [ea, eb]
      · exact absurd (by rw [← ea, e]; exact List.mem_map_of_mem hb) h.1
    · rcases List.mem_cons.mp hb with eb | hb
      · exact absurd (by rw [← eb, ← e]; exact List.mem_map_of_mem ha) h.1
      · exact nodup_at h.2 ha hb e
theorem fes_keys {H : Hp} : ∀ {es : List FEnt} {F : Fnd}, Paired (fun (e : FEnt) (p : Nat × List Trk) => e.1 = p.1 ∧ Paired (TrAt H) e.2.2 p.2) es F → es.map (·.1) = F.map (·.1)
  | _, _, .nil => rfl
  | e :: es, p :: F, .cons r t => by rw [List.map_cons, List.map_cons, r.1, fes_keys t]
/-- an item behind the list at l, of the letter x, of all entries once -/
theorem fes_put {H0 H H' : Hp} {es : List FEnt} {F : Fnd} {x : Nat} {l : Addr} {ys : List V} {v : V} {T : Trk} (h : FEs H0 H es F) (ok : FOk F) (he : (x, l, ys) ∈ es) (tS : TupS H H') (hv : TrAt H' v T)
    (h1 : H' l = some (.lst (ys ++ [v]))) (h2 : ∀ b o, H b = some o → b ≠ l → H' b = some o) : FEs H0 H' (es.map fun e => if e.1 = x then (e.1, e.2.1, e.2.2 ++ [v]) else e) (addTo F x T) := by
  obtain ⟨a, b, c⟩ := h
  have kx : ∀ e ∈ es, (e.1 = x ↔ e.2.1 = l) := fun e m => by
    constructor
    · intro z
      have nd : (es.map (·.1)).Nodup := by
        rw [fes_keys c]; exact ok.nd
      have := nodup_at nd m he z
      rw [this]
    · intro z
      have := nodup_at b m he z
      rw [this]
  have hh : hasF F x = true := by
    rw [hasF_keys]
    obtain ⟨i, hi, e⟩ := List.mem_iff_getElem.mp he
    have e' : es[i]? = some (x, l, ys) := by rw [List.getElem?_eq_getElem hi, e]
    obtain ⟨p, hp, r, _⟩ := paired_get c e'
    rw [List.mem_map]
    exact ⟨p, List.mem_of_getElem? hp, r.symm⟩
  refine ⟨fun e m => ?_, ?_, ?_⟩
  · obtain ⟨e0, m0, rfl⟩ := List.mem_map.mp m
    by_cases z : e0.1 = x
    · rw [if_pos z]
      have : e0 = (x, l, ys) := nodup_at b m0 he ((kx e0 m0).mp z)
      subst this
      exact ⟨h1, (a _ m0).2⟩
    · rw [if_neg z]
      exact ⟨h2 _ _ (a _ m0).1 fun q => z ((kx e0 m0).mpr q), (a _ m0).2⟩
  · have : (es.map fun e => if e.1 = x then (e.1, e.2.1, e.2.2 ++ [v]) else e).map (fun e => e.2.1) = es.map fun e => e.2.1 := by
      rw [List.map_map]
      refine List.map_congr_left fun e _ => ?_
      show (if e.1 = x then (e.1, e.2.1, e.2.2 ++ [v]) else e).2.1 = e.2.1
      split <;> rfl
    rw [this]; exact b
  · unfold addTo
    rw [if_pos hh]
    clear hh kx he a b ok
    induction c with
    | nil => exact .nil
    | @cons e p es F r _ ih =>
      refine .cons ?_ ih
      dsimp only
      by_cases z : e.1 = x
      · rw [if_pos z, if_pos (r.1.symm.trans z)]
        exact ⟨r.1, paired_snoc (Paired.mapP r.2 fun v m q => q.keep tS) hv⟩
      · rw [if_neg z, if_neg fun q => z (r.1.trans q)]
        exact ⟨r.1, Paired.mapP r.2 fun v m q => q.keep tS⟩
section
variable {K : PySem.W.Frag}
/-- found.setdefault(x, []).append(a track) -/
theorem fnd_step {D : Ends} {σ : L2.St} {H0 H : Hp} {d : Addr} {F : Fnd} {x : Nat} {T : Trk} {i : Nat} {ty tT : TE} (hσ : σ[i]? = some (some (.ref d))) (h : FndAt H0 H d F) (ok : FOk F) (nd : H0 d = none) (sm : Same H0 H)
    (sz : sizeF F + 1 < sizeLine) (hty : ∀ Q : VK, Q (iv x) H → ty σ H Q)
    (hT : ∀ (H1 : Hp) (Q : VK), TupS H H1 → (∀ g H2, Same H1 H2 → TrAt H2 (.ref g) T → Q (.ref g) H2) → tT σ H1 Q)
    (q : ∀ H', FndAt H0 H' d (addTo F x T) → Same H0 H' → D.nx σ H') : tDrop (tBM K "list" rAppend (tDSetd (tVar i) ty (tLst tNil)) (tCons tT tNil)) D σ H := by
  obtain ⟨es, hd, fe⟩ := h
  obtain ⟨a, b, c⟩ := id fe
  have le : es.length = F.length := Paired.length c
  have lF := keys_le ok
  obtain ⟨v1, v2⟩ := fes_val (x := x) c
  refine ⟨_, hσ, d, rfl, .inl ⟨_, .inl hd⟩, hty _ ⟨Nat.zero_le _, fun p np => ?_⟩⟩
  have dp : d ≠ p := ne_of_none hd np
  refine ⟨es.map fkv, .inl (x : Int), (upd_ne dp).trans hd, rfl, by rw [List.length_map]; omega, fun v hv => ?_, fun hv => ?_⟩
  · -- there already
    have hh : hasF F x = true := by
      cases z : hasF F x with
      | true => rfl
      | false => rw [v1 z] at hv; cases hv
    obtain ⟨e, m, ex, ev⟩ := v2 hh
    rw [ev] at hv
    obtain rfl := Option.some.inj hv
    obtain ⟨al, an⟩ := a e m
    have alp : e.2.1 ≠ p := ne_of_none al np
    have al1 : upd H p (.lst []) e.2.1 = some (.lst e.2.2) := (upd_ne alp).trans al
    refine ⟨.inl ⟨rfl, _, .inl (.inl al1)⟩, ?_⟩
    refine hT _ _ (fun b zs z => by rw [upd_ne (ne_of_none z np)]; exact z) fun g H2 s2 ht => ?_
    have al2 := s2 _ _ al1
    have lenE : e.2.2.length ≤ sizeF F := by
      obtain ⟨i, hi, e0⟩ := List.mem_iff_getElem.mp m
      have e' : es[i]? = some e := by rw [List.getElem?_eq_getElem hi, e0]
      obtain ⟨p, hp, r, r2⟩ := paired_get c e'
      rw [Paired.length r2]
      have := getF_le F p.1
      rw [getF_mem ok (List.mem_of_getElem? hp)] at this
      exact this
    refine ⟨e.2.1, e.2.2, _, rfl, rfl, al2, by omega, ?_⟩
    have keep2 : ∀ b o, H b = some o → b ≠ e.2.1 → upd H2 e.2.1 (.lst (e.2.2 ++ [V.ref g])) b = some o := fun b o z hb => by
      rw [upd_ne hb]
      exact s2 _ _ (by rw [upd_ne (ne_of_none z np)]; exact z)
    have tS : TupS H (upd H2 e.2.1 (.lst (e.2.2 ++ [V.ref g]))) := fun b zs z => keep2 _ _ z (ne_of z al (by intro y; cases y))
    have tS2 : TupS H2 (upd H2 e.2.1 (.lst (e.2.2 ++ [V.ref g]))) := TupS.upd al2 fun _ y => by cases y
    have mem : (x, e.2.1, e.2.2) ∈ es := by rw [← ex]; exact m
    refine q _ ⟨_, ?_, fes_put fe ok mem tS (ht.keep tS2) upd_same keep2⟩ fun b o z => keep2 _ _ (sm _ _ z) (ne_of_none z an)
    have ne : d ≠ e.2.1 := ne_of hd al (by intro y; cases y)
    rw [keep2 _ _ hd ne]
    congr 2
    rw [List.map_map]
    refine List.map_congr_left fun e _ => ?_
    show fkv e = fkv (if e.1 = x then (e.1, e.2.1, e.2.2 ++ [V.ref g]) else e)
    split <;> rfl
  · -- new
    have hh : hasF F x = false := by
      cases z : hasF F x with
      | false => rfl
      | true => obtain ⟨e, _, _, ev⟩ := v2 z; rw [ev] at hv; cases hv
    have hp1 : upd (upd H p (.lst [])) d (.dK (putK (es.map fkv) (.inl (x : Int)) (.ref p))) p = some (.lst []) := by rw [upd_ne dp.symm, upd_same]
    refine ⟨.inl ⟨rfl, _, .inl (.inl hp1)⟩, ?_⟩
    refine hT _ _ (fun b zs z => by rw [upd_ne (ne_of z hd (by intro y; cases y)), upd_ne (ne_of_none z np)]; exact z) fun g H2 s2 ht => ?_
    have hp2 := s2 _ _ hp1
    refine ⟨p, [], _, rfl, rfl, hp2, by show 0 < sizeLine; rw [sizeLine_eq]; decide, ?_⟩
    have hd2 : H2 d = some (.dK (putK (es.map fkv) (.inl (x : Int)) (.ref p))) := s2 _ _ upd_same
    have keep2 : ∀ b o, H b = some o → b ≠ d → upd H2 p (.lst ([] ++ [V.ref g])) b = some o := fun b o z hb => by
      rw [upd_ne (ne_of_none z np)]
      exact s2 _ _ (by rw [upd_ne hb, upd_ne (ne_of_none z np)]; exact z)
    have tS : TupS H (upd H2 p (.lst ([] ++ [V.ref g]))) := fun b zs z => keep2 _ _ z (ne_of z hd (by intro y; cases y))
    have tS2 : TupS H2 (upd H2 p (.lst ([] ++ [V.ref g]))) := TupS.upd hp2 fun _ y => by cases y
    refine q _ ⟨es ++ [(x, p, [V.ref g])], ?_, fun e m => ?_, ?_, ?_⟩ fun b o z => keep2 _ _ (sm _ _ z) (ne_of_none z nd)
    · rw [upd_ne dp, hd2, putK_new _ hv, List.map_append]
      rfl
    · rcases List.mem_append.mp m with m | m
      · obtain ⟨al, an⟩ := a e m
        exact ⟨keep2 _ _ al (ne_of al hd (by intro y; cases y)), an⟩
      · obtain rfl := List.mem_singleton.mp m
        exact ⟨upd_same, sm.free np⟩
    · rw [List.map_append, List.nodup_append]
      refine ⟨b, by simp, fun y hy z hz e => ?_⟩
      obtain ⟨e0, m0, rfl⟩ := List.mem_map.mp hy
      have hz' : z = p := by simpa using hz
      rw [hz'] at e
      exact ne_of_none (a e0 m0).1 np e
    · unfold addTo
      rw [if_neg (by rw [hh]; exact Bool.false_ne_true)]
      exact paired_snoc (Paired.mapP c fun e p r => ⟨r.1, Paired.mapP r.2 fun v m q => q.keep tS⟩) ⟨rfl, .cons (ht.keep tS2) .nil⟩
end
end Slip
end
/-! ## POnw -/
section
set_option Elab.async false
set_option linter.all false
set_option maxRecDepth 100000
set_option maxHeartbeats 2000000
namespace Slip
open PySem PySem.Spec PyProof.Rows L2
open PySem.W (alike dataLe AllAlike Sortable EachIs)
theorem goMoves_nil {d : Nat} {T : Trk} {F : Fnd} : goMoves d T F [] = F := by unfold goMoves; rfl
theorem goMoves_cons {d : Nat} {T : Trk} {F : Fnd} {m : Mv} {ms : List Mv} : goMoves d T F (m :: ms) = if d < T.cost + m.cost then F else goMoves d T (if T.taken + m.slips ≤ 3 then addTo F m.letter (mvTo T m) else F) ms := by
  conv => lhs; unfold goMoves
section
variable {P : Program} {w : World} {K : PySem.W.Frag} {mg : Str → Option Value} {base : Heap} {C : Addr}
def spOnward (C : Addr) : Sp := fun vs H Q _ => ∃ (a l : Addr) (xs : List V) (R : List Row) (t : List Nat) (Ks : List Trk) (d : Nat), vs = [.ref a, .ref l, iv d] ∧ WaysAt C H a R t ∧ H l = some (.lst xs) ∧ Paired (TrAt H) xs Ks ∧ (∀ T ∈ Ks, T.place ≤ t.length) ∧ R.length ≤ 32 ∧ Ks.length ≤ 10000 ∧
  ∀ (H' : Hp) (p : Addr), Same H H' → H p = none → FndAt H H' p (onward R t d Ks) → Q (.ref p) H'
theorem scOnward : FnScope ["self", "tracks", "dearest", "found", "cost", "taken", "place", "coming", "added", "slips", "letter", "after", "behind"] ["self", "tracks", "dearest"] (defScope sOnward) := ⟨rfl, rfl, rfl, by decide +kernel, rfl, by decide +kernel, by decide +kernel⟩
theorem ok_Onward {f : Addr} {fd : FuncData} (F : Fun K "onward" "Ways.onward" sOnward f fd) (T : TWays K mg C) : FnOk P w K mg base CX0 1 f fd ["self", "tracks", "dearest"] (spOnward C) := by
  refine F.ok scOnward (fun vs H Q E h => ?_) (fun cdv A outer s H vs Q E hr h => ⟨_, pss_cons (ps_set (i := 3) scOnward.nd rfl (Or.inl rfl) pe_dnewK)
      (pss_cons (ps_for PassesOwn.never rfl (pi_list (pv 1)) (pg_tup rfl (pgs_cons (pg_name (i := 4) scOnward.nd rfl (Or.inl rfl)) (pgs_cons (pg_name (i := 5) scOnward.nd rfl (Or.inl rfl)) (pgs_cons (pg_name (i := 6) scOnward.nd rfl (Or.inl rfl)) (pgs_cons (pg_name (i := 7) scOnward.nd rfl (Or.inl rfl)) pgs_nil)))))
        (pss_cons (ps_if (pt_cmpR op_gt (pe_callB call_len_seq (by rfl) T.len PySem.boot_len (pa_cons (pv 7) pa_nil)) pe_int (nomark _))
          (pss_cons (ps_expr (pe_bm PySem.F.plainAttrs_list PySem.F.slot_list_append PySem.F.type_list_append mt_append
              (pe_dsetd (pv 3) (pe_ix ix_tup (pv 7) pe_int (fun _ _ => rfl)) (pe_lst pa_nil) ⟨rfl, rfl, rfl, rfl⟩)
              (pa_cons (pe_tup (pa_cons (pv 4) (pa_cons (pv 5) (pa_cons (pv 6) (pa_cons (pe_slice sl_tupA (pv 7) (po_some pe_int) po_none) pa_nil))))) pa_nil)))
            (pss_one ps_continue)) pss_nil)
        (pss_one (ps_for PassesOwn.never rfl (pi_list (pe_ix ix_list (pe_fld (pv 0) rfl) (pv 6) (fun _ _ => rfl))) (pg_tup rfl (pgs_cons (pg_name (i := 8) scOnward.nd rfl (Or.inl rfl)) (pgs_cons (pg_name (i := 9) scOnward.nd rfl (Or.inl rfl)) (pgs_cons (pg_name (i := 10) scOnward.nd rfl (Or.inl rfl)) (pgs_cons (pg_name (i := 11) scOnward.nd rfl (Or.inl rfl)) (pgs_cons (pg_name (i := 12) scOnward.nd rfl (Or.inl rfl)) pgs_nil))))))
          (pss_cons (ps_if (pt_cmpR op_gt (pe_op op_add (pv 4) (pv 8)) (pv 2) (nomark _)) (pss_one ps_break) pss_nil)
          (pss_one (ps_if (pt_cmpR op_le (pe_op op_add (pv 5) (pv 9)) (pe_k rfl T.MOST_TAKEN) (nomark _))
            (pss_one (ps_expr (pe_bm PySem.F.plainAttrs_list PySem.F.slot_list_append PySem.F.type_list_append mt_append
              (pe_dsetd (pv 3) (pv 10) (pe_lst pa_nil) ⟨rfl, rfl, rfl, rfl⟩)
              (pa_cons (pe_tup (pa_cons (pe_op op_add (pv 4) (pv 8)) (pa_cons (pe_op op_add (pv 5) (pv 9)) (pa_cons (pv 11) (pa_cons (pv 12) pa_nil))))) pa_nil)))) pss_nil)))))))
      (pss_one (ps_ret (pv 3)))), ?_⟩)
  · obtain ⟨a, l, xs, R, t, Ks, d, rfl, _⟩ := h
    rfl
  · obtain ⟨a, l, xs, R, t, Ks, d, rfl, hW, hl, hx, hpl, hR, hK, k⟩ := h
    have lx : xs.length = Ks.length := Paired.length hx
    intro p np
    obtain ⟨dx, lm, ld, ms, ds, h1, h2, h3, h4, h5⟩ := hW
    have sz33 : (10000 : Nat) * 33 + 40 < sizeLine := by rw [sizeLine_eq]; decide
    refine ⟨_, rfl, l, rfl, ⟨xs, .inl (.inl ((Same.new (Same.refl H) np) _ _ hl))⟩, for_it walk_list (fun i σ H' => ∃ (v4 v5 v6 v7 v8 v9 v10 v11 v12 : Option V), σ = [some (.ref a), some (.ref l), some (iv d), some (.ref p), v4, v5, v6, v7, v8, v9, v10, v11, v12] ∧ Same H H' ∧
      FndAt H H' p ((Ks.take i).foldl (stepO R t d) []) ∧ FOk ((Ks.take i).foldl (stepO R t d) []) ∧ sizeF ((Ks.take i).foldl (stepO R t d) []) ≤ i * 33) ?_ (fun i σ H' _ ⟨_, _, _, _, _, _, _, _, _, _, sm, _⟩ => .inl (.inl (sm _ _ hl))) ?_ ?_⟩
    · exact ⟨none, none, none, none, none, none, none, none, none, rfl, Same.new (Same.refl H) np, ⟨[], upd_same, (fun _ m => nomatch m), List.nodup_nil, .nil⟩, FOk.nil, Nat.zero_le _⟩
    · rintro i x σ H1 H2 hi ⟨v4, v5, v6, v7, v8, v9, v10, v11, v12, rfl, sm, hfa, hok, hsz⟩ ⟨rfl, ex⟩
      obtain ⟨T0, eT, ta, tb, rfl, z1, z2⟩ := paired_get hx ex
      have s1 := sm _ _ z1
      have s2 := sm _ _ z2
      have er : (Ks.take (i + 1)).foldl (stepO R t d) [] = stepO R t d ((Ks.take i).foldl (stepO R t d) []) T0 := by rw [take_more eT, List.foldl_append]; rfl
      have hp0 := hpl T0 (List.mem_of_getElem? eT)
      have hi2 : i < 10000 := by omega
      rw [er]
      generalize (Ks.take i).foldl (stepO R t d) [] = Fi at hfa hok hsz
      refine ⟨_, _, rfl, .inl (.inl s1), rfl, _, _, rfl, _, _, rfl, _, _, rfl, _, _, rfl, rfl, ?_⟩
      refine ⟨_, rfl, _, _, rfl, .inr (.inl (.inl s2)), _, _, rfl, rfl, _, rfl, ite2 (fun c1 => ?_) (fun c1 => ?_)⟩
      · have c1 := of_decide_eq_true c1
        rw [List.length_map] at c1
        cases ec : T0.coming with
        | nil => rw [ec] at c1; exact absurd c1 (by decide)
        | cons y ys =>
          rw [ec] at s2
          have eS : stepO R t d Fi T0 = addTo Fi y ⟨T0.cost, T0.taken, T0.place, ys⟩ := by unfold stepO; rw [ec]
          rw [eS]
          refine fnd_step (x := y) (T := ⟨T0.cost, T0.taken, T0.place, ys⟩) rfl hfa hok np sm (by omega) (fun Q' hq => ⟨_, rfl, tb, ivs (y :: ys), 0, iv y, rfl, rfl, .inl (.inl s2), atI_nat rfl, hq⟩) (fun H5 Q' tS hq => ?_) (fun H5 hfa5 sm5 => ?_)
          · refine ⟨_, rfl, _, rfl, _, rfl, _, rfl, _, rfl, ?_⟩
            unfold tNoPart
            refine sl_ivs (K := K) (l := y :: ys) (lo := some 1) (hi := none) (tS _ _ s2) fun c H6 s6 h6 => ?_
            have e1 : cutN (y :: ys) (some (1 : Int)) none = ys := cut_from (k := 1)
            rw [e1] at h6
            refine ⟨by show 4 ≤ sizeLine; omega, fun g ng => hq g _ (Same.new s6 ng) ⟨g, c, rfl, upd_same, ?_⟩⟩
            rw [upd_ne (ne_of_none h6 ng)]; exact h6
          · refine ⟨_, _, _, _, _, _, _, _, _, rfl, sm5, hfa5, hok.add _ _, ?_⟩
            rw [sizeF_add _ hok]
            omega
      · have c0 : T0.coming = [] := by
          refine List.eq_nil_of_length_eq_zero ?_
          have : ¬ 0 < T0.coming.length := fun z => c1 (decide_eq_true (by rw [List.length_map]; omega))
          omega
        have eS : stepO R t d Fi T0 = goMoves d T0 Fi (movesAt R t T0.place) := by unfold stepO; rw [c0]
        rw [eS]
        have lr : (List.range (t.length + 1))[T0.place]? = some T0.place := List.getElem?_range (by omega)
        have lms : ms.length = t.length + 1 := by rw [Paired.length h4, List.length_range]
        have em : ms[T0.place]? = some (ms[T0.place]'(by omega)) := List.getElem?_eq_getElem (by omega)
        generalize ms[T0.place]'(by omega) = mv at em
        obtain ⟨q, eq, ml, ys, rfl, hml, hM⟩ := paired_get h4 em
        rw [lr] at eq
        cases eq
        have ly : ys.length = (movesAt R t T0.place).length := Paired.length hM
        have lM : (movesAt R t T0.place).length ≤ 33 := Nat.le_trans moves_len (by omega)
        generalize movesAt R t T0.place = Ms at hM ly lM
        refine ⟨_, rfl, a, C, dx, _, _, rfl, sm _ _ h1, T.cl, T.nM, wF_moves _ _ _, _, rfl, lm, ms, T0.place, _, rfl, rfl, .inl (.inl (sm _ _ h2)), atI_nat em, ml, rfl, ⟨ys, .inl (.inl (sm _ _ hml))⟩, ?_⟩
        refine for_it walk_list (fun j σ H' => ∃ (v8 v9 v10 v11 v12 : Option V) (Fj : Fnd), σ = [some (.ref a), some (.ref l), some (iv d), some (.ref p), some (iv T0.cost), some (iv T0.taken), some (iv T0.place), some (.ref tb), v8, v9, v10, v11, v12] ∧ Same H H' ∧
          FndAt H H' p Fj ∧ FOk Fj ∧ sizeF Fj ≤ i * 33 + j ∧ goMoves d T0 Fj (Ms.drop j) = goMoves d T0 Fi Ms) ?_ (fun j σ H' _ ⟨_, _, _, _, _, _, _, sm', _⟩ => .inl (.inl (sm' _ _ hml))) ?_ ?_
        · exact ⟨v8, v9, v10, v11, v12, Fi, rfl, sm, hfa, hok, by omega, rfl⟩
        · rintro j x σ H3 H4 hj ⟨v8, v9, v10, v11, v12, Fj, rfl, sm3, hfa3, hok3, hsz3, hgo⟩ ⟨rfl, ex3⟩
          obtain ⟨m, eM, ma, mb, rfl, y1, y2⟩ := paired_get hM ex3
          have hj' : j < Ms.length := (List.getElem?_eq_some_iff.mp eM).1
          have edr : Ms.drop j = m :: Ms.drop (j + 1) := by rw [List.drop_eq_getElem_cons hj', (List.getElem?_eq_some_iff.mp eM).2]
          rw [edr] at hgo
          rw [goMoves_cons] at hgo
          have w1 := sm3 _ _ y1
          have w2 := sm3 _ _ y2
          refine ⟨_, _, rfl, .inl (.inl w1), rfl, _, _, rfl, _, _, rfl, _, _, rfl, _, _, rfl, _, _, rfl, rfl, ?_⟩
          refine ⟨_, rfl, _, rfl, _, _, rfl, rfl, _, rfl, _, _, rfl, rfl, _, rfl, ite2 (fun c2 => ?_) (fun c2 => ?_)⟩
          · have c2 := of_decide_eq_true c2
            rw [if_pos (by omega)] at hgo
            refine ⟨_, _, _, _, _, _, _, _, _, rfl, sm3, ?_, ?_, ?_⟩
            · rw [← hgo]; exact hfa3
            · rw [← hgo]; exact hok3
            · rw [← hgo]; omega
          · have c2' : ¬ d < T0.cost + m.cost := fun z => c2 (decide_eq_true (by omega))
            rw [if_neg c2'] at hgo
            refine ⟨_, rfl, _, rfl, _, _, rfl, rfl, _, _, rfl, rfl, _, rfl, ite2 (fun c3 => ?_) (fun c3 => ?_)⟩
            · have c3 := of_decide_eq_true c3
              rw [if_pos (by omega)] at hgo
              refine fnd_step (x := m.letter) (T := mvTo T0 m) rfl hfa3 hok3 np sm3 (by omega) (fun Q' hq => ⟨_, rfl, hq⟩) (fun H5 Q' tS hq => ?_) (fun H5 hfa5 sm5 => ?_)
              · refine ⟨_, rfl, _, rfl, _, _, rfl, rfl, _, rfl, _, rfl, _, _, rfl, rfl, _, rfl, _, rfl, by show 4 ≤ sizeLine; omega, fun g ng => hq g _ (Same.new (Same.refl H5) ng) ⟨g, mb, rfl, upd_same, ?_⟩⟩
                rw [upd_ne (ne_of_none (tS _ _ w2) ng)]
                exact tS _ _ w2
              · refine ⟨_, _, _, _, _, _, rfl, sm5, hfa5, hok3.add _ _, ?_, hgo⟩
                rw [sizeF_add _ hok3]
                omega
            · rw [if_neg (fun z => c3 (decide_eq_true (by omega)))] at hgo
              exact ⟨_, _, _, _, _, _, rfl, sm3, hfa3, hok3, by omega, hgo⟩
        · rintro σ H3 ⟨v8, v9, v10, v11, v12, Fj, rfl, sm3, hfa3, hok3, hsz3, hgo⟩
          rw [ly, List.drop_length] at hgo
          rw [goMoves_nil] at hgo
          refine ⟨_, _, _, _, _, _, _, _, _, rfl, sm3, ?_, ?_, ?_⟩
          · rw [← hgo]; exact hfa3
          · rw [← hgo]; exact hok3
          · rw [← hgo]; omega
    · rintro σ H1 ⟨v4, v5, v6, v7, v8, v9, v10, v11, v12, rfl, sm, hfa, hok, hsz⟩
      rw [lx, List.take_length] at hfa
      exact ⟨_, rfl, k H1 p sm np hfa⟩
end
end Slip
end
/-! ## MSiz -/
section
set_option Elab.async false
set_option linter.all false
set_option maxHeartbeats 1000000
namespace Slip
open PySem PySem.Spec PyProof.Rows L2
open SyBase SySpell SySlip
section
variable {R : List Row} {t : List Nat} {d : Nat} {Ts : List Trk} {C : List (List Nat)}
theorem SInv.klen {k : Nat} {all done : List Trk} {s : Stl} (h : SInv R t d Ts C k all done s) : s.2.2.length ≤ 4 * ((t.length + 1) * C.length) := by
  have sub : ∀ x ∈ s.2.2.map fun T => (T.taken, T.reached), x ∈ (List.range 4).flatMap fun a => ((List.range (t.length + 1)).flatMap fun b => C.map fun c => (b, c)).map fun y => (a, y) := by
    intro x hx
    obtain ⟨T, m, rfl⟩ := List.mem_map.mp hx
    obtain ⟨f1, f2, f3⟩ := h.fr T m
    rw [List.mem_flatMap]
    refine ⟨T.taken, List.mem_range.mpr (by omega), List.mem_map.mpr ⟨T.reached, ?_, rfl⟩⟩
    rw [List.mem_flatMap]
    exact ⟨T.place, List.mem_range.mpr (by omega), List.mem_map.mpr ⟨T.coming, f3, rfl⟩⟩
  have := SM.length_le_of_sub h.nd sub
  rw [List.length_map] at this
  refine Nat.le_trans this (Nat.le_of_eq ?_)
  simp only [List.length_flatMap, List.length_map, List.map_const', List.sum_replicate_nat, List.length_range]
/-- so far within a level -/
def midS (R : List Row) (t : List Nat) (d : Nat) (Ts : List Trk) (k j : Nat) : Stl := ((levelL Ts k (settledS R t d Ts k).1).take j).foldl (stepS R t d k) ([], (settledS R t d Ts k).2.1, (settledS R t d Ts k).2.2)
theorem settledS_succ (k : Nat) : settledS R t d Ts (k + 1) = level R t d Ts (settledS R t d Ts k) k := by
  unfold settledS
  rw [List.range_succ, List.foldl_append]
  rfl
theorem mid_full (k : Nat) : midS R t d Ts k (levelL Ts k (settledS R t d Ts k).1).length = settledS R t d Ts (k + 1) := by
  rw [settledS_succ]
  unfold midS
  rw [List.take_length]
  rfl
theorem settled_inv (hC : [] ∈ C) (hT : ∀ T ∈ Ts, Fair C t T) : ∀ k, k < 4 → ∃ done, SInv R t d Ts C k done done (settledS R t d Ts (k + 1))
  | 0, _ => ⟨_, SInv.zero hT⟩
  | k + 1, hk => by
    obtain ⟨done, h⟩ := settled_inv hC hT k (by omega)
    rw [settledS_succ]
    exact ⟨_, h.level hC hT rfl (by omega)⟩
theorem mid_len (hC : [] ∈ C) (hT : ∀ T ∈ Ts, Fair C t T) {k j : Nat} (hk : k < 4) : (midS R t d Ts k j).2.2.length ≤ 4 * ((t.length + 1) * C.length) := by
  obtain ⟨done, h⟩ := settled_inv (R := R) (d := d) hC hT k hk
  have full := h.klen
  rw [← mid_full] at full
  refine Nat.le_trans ?_ full
  have mono : ∀ (L : List Trk) (s : Stl), s.2.2.length ≤ (L.foldl (stepS R t d k) s).2.2.length := by
    intro L
    induction L with
    | nil => intro s; exact Nat.le_refl _
    | cons T L ih =>
      intro s
      rw [List.foldl_cons]
      refine Nat.le_trans ?_ (ih _)
      unfold stepS
      split
      · exact Nat.le_refl _
      · show s.2.2.length ≤ (s.2.2 ++ [T]).length
        rw [List.length_append]; omega
  unfold midS
  rw [List.take_length]
  have e : levelL Ts k (settledS R t d Ts k).1 = (levelL Ts k (settledS R t d Ts k).1).take j ++ (levelL Ts k (settledS R t d Ts k).1).drop j := (List.take_append_drop ..).symm
  conv => rhs; rw [e, List.foldl_append]
  exact mono _ _
theorem dropped_len (hR : R.length ≤ 32) (T : Trk) : (dropped R t T).length ≤ 32 := by
  unfold dropped
  split
  · unfold dropsAt
    rw [List.length_map, List.length_map]
    exact Nat.le_trans (List.length_filter_le _ _) (Nat.le_trans (List.length_filter_le _ _) hR)
  · exact Nat.zero_le _
theorem fold_nx (hR : R.length ≤ 32) (k : Nat) : ∀ (L : List Trk) (s : Stl), (L.foldl (stepS R t d k) s).1.length + 32 * s.2.2.length ≤ s.1.length + 32 * (L.foldl (stepS R t d k) s).2.2.length
  | [], s => Nat.le_refl _
  | T :: L, s => by
    rw [List.foldl_cons]
    have ih := fold_nx hR k L (stepS R t d k s T)
    have st : (stepS R t d k s T).1.length + 32 * s.2.2.length ≤ s.1.length + 32 * (stepS R t d k s T).2.2.length := by
      unfold stepS
      split
      · exact Nat.le_refl _
      · have := dropped_len (t := t) hR T
        have e : (if k < 3 then dropped R t T else []).length ≤ 32 := by
          split
          · exact this
          · exact Nat.zero_le _
        simp only [List.length_append, List.length_singleton]
        omega
    omega
theorem mid_nx (hR : R.length ≤ 32) (k j : Nat) : (midS R t d Ts k j).1.length ≤ 32 * (midS R t d Ts k j).2.2.length := by
  have := fold_nx (t := t) (d := d) hR k ((levelL Ts k (settledS R t d Ts k).1).take j) ([], (settledS R t d Ts k).2.1, (settledS R t d Ts k).2.2)
  have e : ([] : List Trk).length = 0 := rfl
  unfold midS
  simp only [e] at this
  omega
theorem mid_more {k j : Nat} {T : Trk} (h : (levelL Ts k (settledS R t d Ts k).1)[j]? = some T) : midS R t d Ts k (j + 1) = stepS R t d k (midS R t d Ts k j) T := by
  unfold midS
  rw [take_more h, List.foldl_append]
  rfl
theorem mid_zero (k : Nat) : midS R t d Ts k 0 = ([], (settledS R t d Ts k).2.1, (settledS R t d Ts k).2.2) := rfl
theorem coms_b (hR : R.length ≤ 32) (ht : t.length ≤ 24) : 4 * ((t.length + 1) * (comsOf R).length) ≤ 6500 := by
  rw [coms_len]
  have : (t.length + 1) * (2 * R.length + 1) ≤ 25 * 65 := Nat.mul_le_mul (by omega) (by omega)
  omega
theorem level_fair (hC : [] ∈ C) (hT : ∀ T ∈ Ts, Fair C t T) : ∀ {k : Nat}, k < 4 → ∀ T ∈ levelL Ts k (settledS R t d Ts k).1, Fair C t T ∧ T.taken = k
  | 0, _, T, m => by
    unfold levelL at m
    rw [List.mem_mergeSort, List.mem_append, List.mem_filter, decide_eq_true_eq] at m
    rcases m with m | m
    · exact ⟨hT T m.1, m.2⟩
    · cases m
  | k + 1, hk, T, m => by
    unfold levelL at m
    rw [List.mem_mergeSort, List.mem_append, List.mem_filter, decide_eq_true_eq] at m
    rcases m with m | m
    · exact ⟨hT T m.1, m.2⟩
    · obtain ⟨done, h⟩ := settled_inv (R := R) (d := d) hC hT k (by omega)
      obtain ⟨T0, m0, a, b, c⟩ := h.xn T m
      exact ⟨(h.fr T0 m0).drop hC a (by omega), by rw [dropped_taken a, b]⟩
end
end Slip
end
/-! ## PSet -/
section
set_option Elab.async false
set_option linter.all false
set_option maxRecDepth 100000
set_option maxHeartbeats 2000000
namespace Slip
open PySem PySem.Spec PyProof.Rows L2
open PySem.W (alike dataLe AllAlike Sortable EachIs)
/-! what was reached, as a key -/
def keyR (q : Pos2) : NestedKey := .tup [.num (q.1 : Int), .tup (numsK q.2)]
theorem keyR_inj {p q : Pos2} : keyR p = keyR q ↔ p = q := by
  constructor
  · intro h
    injection h with h
    injection h with h1 h2
    injection h1 with h1
    injection h2 with h2 _
    injection h2 with h2
    exact Prod.ext (Int.ofNat.inj h1) (numsK_inj h2)
  · rintro rfl; rfl
theorem keyR_depth (q : Pos2) : (keyR q).depth ≤ 8 := by
  show max 0 (max (NestedKey.depthAll (numsK q.2) + 1) 0) + 1 ≤ 8
  rw [numsK_depth]
  decide
theorem keyR_is {H : Hp} {c b : Addr} {q : Pos2} (h1 : H c = some (.tup [iv q.1, .ref b])) (h2 : H b = some (.tup (ivs q.2))) : NKV H (.ref c) (keyR q) := .tup h1 (.cons (.num _) (.cons (.tup h2 (numsK_is q.2)) .nil))
theorem getN_has (k : NestedKey) : ∀ es : List NEnt, hasN es k = (getN es k).isSome
  | [] => rfl
  | e :: es => by
    have ih := getN_has k es
    by_cases c : e.1 = k
    · simp [hasN, getN, c]
    · simp only [hasN, getN, List.any_cons, List.find?_cons, decide_eq_false c, Bool.false_or] at ih ⊢
      exact ih
theorem getN_map (k k' : NestedKey) (v : V) : ∀ es : List NEnt, getN (es.map fun x => if x.1 = k then (x.1, x.2.1, v) else x) k' = (getN es k').map fun w => if k' = k then v else w
  | [] => rfl
  | e :: es => by
    have ih := getN_map k k' v es
    by_cases c : e.1 = k'
    · by_cases z : e.1 = k
      · have : k' = k := c.symm.trans z
        simp [getN, List.find?_cons, c, z, this]
      · have : ¬ k' = k := fun y => z (c.trans y)
        simp [getN, List.find?_cons, c, z, this]
    · simp only [getN, List.map_cons, List.find?_cons] at ih ⊢
      have e1 : decide ((if e.1 = k then (e.1, e.2.1, v) else e).1 = k') = false := by
        split <;> exact decide_eq_false c
      rw [e1, decide_eq_false c]
      exact ih
theorem getN_app (k : NestedKey) (e : NEnt) : ∀ es : List NEnt, getN es e.1 = none → getN (es ++ [e]) k = if k = e.1 then some e.2.2 else getN es k
  | [], _ => by
    by_cases c : k = e.1
    · rw [if_pos c]; simp [getN, c]
    · have c' : ¬ e.1 = k := fun z => c z.symm
      rw [if_neg c]; simp [getN, c']
  | x :: es, h => by
    by_cases c : x.1 = e.1
    · simp [getN, c] at h
    · have h' : getN es e.1 = none := by simpa only [getN, List.find?_cons, decide_eq_false c] using h
      have ih := getN_app k e es h'
      by_cases z : x.1 = k
      · have : ¬ k = e.1 := fun y => c (z.trans y)
        rw [if_neg this]
        simp [getN, z]
      · simp only [getN, List.cons_append, List.find?_cons, decide_eq_false z] at ih ⊢
        exact ih
theorem getN_put (k k' : NestedKey) (a : Addr) (v : V) (es : List NEnt) : getN (putN es k a v) k' = if k' = k then some v else getN es k' := by
  unfold putN
  have hh := getN_has k es
  by_cases c : hasN es k = true
  · rw [if_pos c, getN_map]
    by_cases z : k' = k
    · rw [if_pos z, z]
      rw [c] at hh
      cases e : getN es k with
      | none => rw [e] at hh; cases hh
      | some w => simp
    · rw [if_neg z]
      cases getN es k' with
      | none => rfl
      | some w => simp [z]
  · rw [if_neg c]
    have : getN es k = none := by
      cases e : getN es k with
      | none => rfl
      | some w => rw [e] at hh; exact absurd hh c
    exact getN_app k' (k, a, v) es this
def LeastAt (P : Program) (w : World) (H : Hp) (d : Addr) (lf : Lst) (n : Nat) : Prop := ∃ es : List NEnt, H d = some (DN P w d es) ∧ KeysIn H es ∧ es.length ≤ n ∧ ∀ q, getN es (keyR q) = (lf q).map iv
theorem keys_keep {H H' : Hp} (e : TupS H H') {es : List NEnt} (h : KeysIn H es) : KeysIn H' es := fun x m => ⟨(h x m).1.keep e, (h x m).2⟩
theorem keys_put {H : Hp} {es : List NEnt} {k : NestedKey} {a : Addr} {v : V} (h : KeysIn H es) (hk : NKV H (.ref a) k) (hd : k.depth ≤ 8) : KeysIn H (putN es k a v) := by
  unfold putN
  split
  · intro x m
    obtain ⟨y, my, rfl⟩ := List.mem_map.mp m
    have := h y my
    split
    · exact this
    · exact this
  · intro x m
    rcases List.mem_append.mp m with m | m
    · exact h x m
    · obtain rfl := List.mem_singleton.mp m
      exact ⟨hk, hd⟩
/-- the lists by how many slips were taken -/
def ByAt (H : Hp) (bs : List Addr) (L : Nat → List Trk) : Prop := ∀ k b, bs[k]? = some b → ∃ xs, H b = some (.lst xs) ∧ Paired (TrAt H) xs (L k)
theorem ByAt.put {H H' : Hp} {bs : List Addr} {L : Nat → List Trk} {k : Nat} {b : Addr} {xs zs : List V} {Zs : List Trk} (h : ByAt H bs L) (nd : bs.Nodup) (hk : bs[k]? = some b) (hb : H b = some (.lst xs))
    (o : ∀ b' u, H b' = some u → b' ≠ b → H' b' = some u) (hb' : H' b = some (.lst (xs ++ zs))) (hz : Paired (TrAt H') zs Zs) : ByAt H' bs (fun j => if j = k then L j ++ Zs else L j) := by
  have tS : TupS H H' := fun c ys e => o _ _ e (ne_of e hb (by intro y; cases y))
  have app : ∀ {xs ys : List V} {As Bs : List Trk}, Paired (TrAt H') xs As → Paired (TrAt H') ys Bs → Paired (TrAt H') (xs ++ ys) (As ++ Bs) := by
    intro xs ys As Bs h1 h2
    induction h1 with
    | nil => exact h2
    | cons r _ ih => exact .cons r ih
  intro j c hc
  obtain ⟨ys, e1, e2⟩ := h j c hc
  by_cases z : j = k
  · subst z
    rw [hk] at hc
    cases hc
    rw [hb] at e1
    cases e1
    refine ⟨_, hb', ?_⟩
    dsimp only
    rw [if_pos rfl]
    exact app (Paired.mapP e2 fun v m q => q.keep tS) hz
  · have nc : c ≠ b := fun e => z (by
      subst e
      obtain ⟨i1, f1⟩ := List.getElem?_eq_some_iff.mp hc
      obtain ⟨i2, f2⟩ := List.getElem?_eq_some_iff.mp hk
      rcases Nat.lt_trichotomy j k with q | q | q
      · exact absurd (f1.trans f2.symm) (List.pairwise_iff_getElem.mp nd j k i1 i2 q)
      · exact q
      · exact absurd (f2.trans f1.symm) (List.pairwise_iff_getElem.mp nd k j i2 i1 q))
    refine ⟨ys, o _ _ e1 nc, ?_⟩
    dsimp only
    rw [if_neg z]
    exact Paired.mapP e2 fun v m q => q.keep tS
theorem ByAt.keep {H H' : Hp} {bs : List Addr} {L : Nat → List Trk} (h : ByAt H bs L) (tS : TupS H H') (o : ∀ b ∈ bs, ∀ u, H b = some u → H' b = some u) : ByAt H' bs L := fun k b hb => by
  obtain ⟨xs, e1, e2⟩ := h k b hb
  exact ⟨xs, o b (List.mem_of_getElem? hb) _ e1, Paired.mapP e2 fun v m q => q.keep tS⟩
section
variable {P : Program} {w : World} {K : PySem.W.Frag} {mg : Str → Option Value} {base : Heap} {C : Addr}
def spSettled (C : Addr) : Sp := fun vs H Q _ => ∃ (a l : Addr) (xs : List V) (R : List Row) (t : List Nat) (Ts : List Trk) (d : Nat), vs = [.ref a, .ref l, iv d] ∧ WaysAt C H a R t ∧ H l = some (.lst xs) ∧ Paired (TrAt H) xs Ts ∧ (∀ T ∈ Ts, Fair (comsOf R) t T) ∧ Short R ∧ R.length ≤ 32 ∧ t.length ≤ 24 ∧ Ts.length ≤ 300000 ∧
  ∀ (H' : Hp) (p : Addr) (ys : List V), Same H H' → H p = none → H' p = some (.lst ys) → Paired (TrAt H') ys (settle R t d Ts) → Q (.ref p) H'
theorem scSettled : FnScope ["self", "tracks", "dearest", "taken", "by_taken", "track", "least", "kept", "cheapest_first", "cost", "reached"] ["self", "tracks", "dearest"] (defScope sSettled) := ⟨rfl, rfl, rfl, by decide +kernel, rfl, by decide +kernel, by decide +kernel⟩
theorem ok_Settled {f : Addr} {fd : FuncData} (F : Fun K "settled" "Ways.settled" sSettled f fd) (T : TWays K mg C) (cD : Met P w K mg base 1 C "dropped" (spDropped C)) : FnOk P w K mg base CX0 2 f fd ["self", "tracks", "dearest"] (spSettled C) := by
  refine F.ok scSettled (fun vs H Q E h => ?_) (fun cdv A outer s H vs Q E hr h => ⟨_, pss_cons (ps_setLc (i := 4) (own := [("taken", 3)]) (g := gName 3) (tt := tYes) (te := tLst tNil) rfl scSettled.nd rfl rfl (sw_true rfl rfl rfl (by decide +kernel))
        (pi_range1 (by rfl) T.range (pa_cons (pe_op op_add (pe_k rfl T.MOST_TAKEN) pe_int) pa_nil)) (blkOk_by (N := ["self", "tracks", "dearest", "taken", "by_taken", "track", "least", "kept", "cheapest_first", "cost", "reached"]) (sc := defScope sSettled) (by decide +kernel))
        (fun _ _ _ _ _ => pg_name (i := 3) scSettled.nd rfl (Or.inl rfl)) (fun _ _ _ _ _ => pts_nil) (fun _ _ _ _ _ => pe_lst pa_nil))
      (pss_cons (ps_for PassesOwn.never rfl (pi_list (pv 1)) (pg_name (i := 5) scSettled.nd rfl (Or.inl rfl))
        (pss_one (ps_expr (pe_bm PySem.F.plainAttrs_list PySem.F.slot_list_append PySem.F.type_list_append mt_append (pe_ix ix_list (pv 4) (pe_ix ix_tup (pv 5) pe_int (fun _ _ => rfl)) (fun _ _ => rfl)) (pa_cons (pv 5) pa_nil)))))
      (pss_cons (ps_set (i := 6) scSettled.nd rfl (Or.inl rfl) pe_dnewN)
      (pss_cons (ps_set (i := 7) scSettled.nd rfl (Or.inl rfl) (pe_lst pa_nil))
      (pss_cons (ps_for PassesOwn.never rfl (pi_range1 (by rfl) T.range (pa_cons (pe_op op_add (pe_k rfl T.MOST_TAKEN) pe_int) pa_nil)) (pg_name (i := 3) scSettled.nd rfl (Or.inl rfl))
        (pss_cons (ps_set (i := 8) scSettled.nd rfl (Or.inl rfl) (pe_callB (cr_sortedD hr.units) (by rfl) T.sorted (by decide +kernel) (pa_cons (pe_ix ix_list (pv 4) (pv 3) (fun _ _ => rfl)) pa_nil)))
        (pss_one (ps_for PassesOwn.never rfl (pi_list (pv 8)) (pg_name (i := 5) scSettled.nd rfl (Or.inl rfl))
          (pss_cons (ps_set (i := 9) scSettled.nd rfl (Or.inl rfl) (pe_ix ix_tup (pv 5) pe_int (fun _ _ => rfl)))
          (pss_cons (ps_set (i := 10) scSettled.nd rfl (Or.inl rfl) (pe_slice sl_tupA (pv 5) (po_some pe_int) po_none))
          (pss_cons (ps_if (PW.pt (pw_or (pt_cmpR op_gt (pv 9) (pv 2) (nomark _)) (pw_or1 (pt_cmpR op_le (pe_dgetN hr.units (pv 6) (pv 10) (pe_op op_add (pv 2) pe_int) ⟨rfl, rfl, rfl, rfl⟩) (pv 9) (nomark _))))) (pss_one ps_continue) pss_nil)
          (pss_cons (ps_asg (pv 9) (pg_sub (pv 6) (pv 10) (set_N hr.units)))
          (pss_cons (ps_expr (pe_bm PySem.F.plainAttrs_list PySem.F.slot_list_append PySem.F.type_list_append mt_append (pv 7) (pa_cons (pv 5) pa_nil)))
          (pss_one (ps_if (pt_cmpR op_lt (pv 3) (pe_k rfl T.MOST_TAKEN) (nomark _))
            (pss_one (ps_expr (pe_bm PySem.F.plainAttrs_list PySem.F.slot_list_extend PySem.F.type_list_extend mt_extend (pe_ix ix_list (pv 4) (pe_op op_add (pv 3) pe_int) (fun _ _ => rfl)) (pa_cons (pe_mt cD hr (by decide) (pv 0) (pa_cons (pv 5) pa_nil)) pa_nil)))) pss_nil)))))))))))
      (pss_one (ps_ret (pv 7))))))), ?_⟩)
  · obtain ⟨a, l, xs, R, t, Ts, d, rfl, _⟩ := h
    rfl
  · obtain ⟨a, l, xs, R, t, Ts, d, rfl, hW, hl, hx, hf, hS, hR, ht, hn, k⟩ := h
    have sz : (1000000 : Nat) < sizeLine := by rw [sizeLine_eq]; decide
    have lx : xs.length = Ts.length := Paired.length hx
    refine ⟨_, _, rfl, rfl, _, rfl, by decide, by decide, fun bt nbt => lc_it (n := 4) walk_range (fun i H' => ∃ bs : List Addr, Same H H' ∧ H' bt = some (.lst (bs.map .ref)) ∧ bs.length = i ∧ bs.Nodup ∧ ∀ b ∈ bs, H' b = some (.lst []) ∧ H b = none ∧ b ≠ bt) ⟨[], Same.new (Same.refl H) nbt, upd_same, rfl, List.nodup_nil, fun _ m => nomatch m⟩ (fun _ _ _ _ => trivial) ?_ ?_⟩
    · rintro i x H1 H2 hi ⟨bs, sm, hB, hbl, hnd, hbs⟩ ⟨rfl, hx⟩
      refine ⟨rfl, ?_⟩
      dsimp only [tYes]
      refine iteT ⟨Nat.zero_le _, fun p np => ?_⟩
      have pB : bt ≠ p := ne_of_none hB np
      refine ⟨_, (upd_ne pB).trans hB, by rw [List.length_map]; omega, bs ++ [p], fun b o e => ?_, ?_, by rw [List.length_append, hbl]; rfl, ?_, fun b m => ?_⟩
      · rw [upd_ne (ne_of_none e nbt), upd_ne (ne_of_none (sm _ _ e) np)]
        exact sm _ _ e
      · rw [upd_same, List.map_append]; rfl
      · rw [List.nodup_append]
        refine ⟨hnd, by simp, fun y hy z hz e => ?_⟩
        rw [List.mem_singleton] at hz
        subst hz e
        rw [(hbs _ hy).1] at np
        cases np
      · rcases List.mem_append.mp m with m | m
        · obtain ⟨e1, e2, e3⟩ := hbs b m
          refine ⟨?_, e2, e3⟩
          rw [upd_ne e3, upd_ne (ne_of_none e1 np)]
          exact e1
        · obtain rfl := List.mem_singleton.mp m
          exact ⟨by rw [upd_ne pB.symm, upd_same], sm.free np, pB.symm⟩
    rintro H1 ⟨bs, sm1, hB1, hbl, hnd, hbs⟩
    have nbs : ∀ b ∈ bs, H b = none := fun b m => (hbs b m).2.1
    have btn : ∀ b ∈ bs, b ≠ bt := fun b m => (hbs b m).2.2
    have hby1 : ByAt H1 bs (fun _ => []) := fun k b hb => ⟨[], (hbs b (List.mem_of_getElem? hb)).1, .nil⟩
    clear hbs
    have hl1 := sm1 _ _ hl
    refine ⟨_, rfl, l, rfl, ⟨xs, .inl (.inl hl1)⟩, for_it walk_list (fun i σ H' => ∃ (v5 : Option V), σ = [some (.ref a), some (.ref l), some (iv d), none, some (.ref bt), v5, none, none, none, none, none] ∧ Same H H' ∧ H' bt = some (.lst (bs.map .ref)) ∧
      ByAt H' bs (fun j => (Ts.take i).filter fun T => decide (T.taken = j))) ⟨none, rfl, sm1, hB1, hby1⟩ (fun i σ H' _ ⟨_, _, sm, _⟩ => .inl (.inl (sm _ _ hl))) ?_ ?_⟩
    · rintro i x σ H2 H3 hi ⟨v5, rfl, sm, hB, hby⟩ ⟨rfl, ex⟩
      obtain ⟨T0, eT, ta, tb, rfl, z1, z2⟩ := paired_get hx ex
      have s1 := sm _ _ z1
      have f0 := (hf T0 (List.mem_of_getElem? eT)).1
      have eb : bs[T0.taken]? = some (bs[T0.taken]'(by omega)) := List.getElem?_eq_getElem (by omega)
      generalize bs[T0.taken]'(by omega) = b at eb
      obtain ⟨ys, y1, y2⟩ := hby _ _ eb
      have mb := List.mem_of_getElem? eb
      have eb' : (bs.map V.ref)[T0.taken]? = some (.ref b) := by rw [List.getElem?_map, eb]; rfl
      have ly : ys.length ≤ 300000 := by
        rw [Paired.length y2]
        refine Nat.le_trans (List.length_filter_le _ _) ?_
        rw [List.length_take]
        omega
      refine ⟨_, rfl, _, rfl, _, _, 1, _, rfl, rfl, .inl (.inl s1), atI_nat rfl, bt, _, T0.taken, _, rfl, rfl, .inl (.inl hB), atI_nat eb', .inl ⟨rfl, _, .inl (.inl y1)⟩, _, rfl, b, ys, _, rfl, rfl, y1, by omega, ?_⟩
      have tS : TupS H3 (upd H3 b (.lst (ys ++ [V.ref ta]))) := TupS.upd y1 fun _ z => by cases z
      refine ⟨_, rfl, fun c o e => ?_, ?_, ?_⟩
      · rw [upd_ne (ne_of_none e (nbs b mb))]; exact sm _ _ e
      · rw [upd_ne (btn b mb).symm]; exact hB
      · have := hby.put hnd eb y1 (H' := upd H3 b (.lst (ys ++ [V.ref ta]))) (fun c u e hc => by rw [upd_ne hc]; exact e) upd_same (Zs := [T0]) (.cons ⟨ta, tb, rfl, tS _ _ s1, tS _ _ (sm _ _ z2)⟩ .nil)
        have ef : (fun j => if j = T0.taken then (Ts.take i).filter (fun T => decide (T.taken = j)) ++ [T0] else (Ts.take i).filter fun T => decide (T.taken = j)) = fun j => (Ts.take (i + 1)).filter fun T => decide (T.taken = j) := by
          funext j
          rw [filter_snoc (p := fun T : Trk => decide (T.taken = j)) eT]
          by_cases q : j = T0.taken
          · rw [if_pos q, if_pos (decide_eq_true q.symm)]
          · rw [if_neg q, if_neg (fun z => q (of_decide_eq_true z).symm), List.append_nil]
        rw [ef] at this
        exact this
    rintro σ H2 ⟨v5, rfl, sm2, hB2, hby2⟩
    rw [lx, List.take_length] at hby2
    intro ld nld
    refine ⟨Nat.zero_le _, fun kp nkp => ?_⟩
    have lk : ld ≠ kp := fun z => by rw [← z, upd_same] at nkp; cases nkp
    have nkp2 : H2 kp = none := by rw [upd_ne lk.symm] at nkp; exact nkp
    obtain ⟨H3, eH3⟩ : ∃ H3, upd (upd H2 ld (DN P w ld [])) kp (HO.lst []) = H3 := ⟨_, rfl⟩
    have h3l : H3 ld = some (DN P w ld []) := by rw [← eH3, upd_ne lk]; exact upd_same
    have h3k : H3 kp = some (.lst []) := by rw [← eH3]; exact upd_same
    have sm23 : Same H2 H3 := fun b o e => by rw [← eH3, upd_ne (ne_of_none e nkp2), upd_ne (ne_of_none e nld)]; exact e
    have nl0 : H ld = none := sm2.free nld
    have nk0 : H kp = none := sm2.free nkp2
    have ldb : ∀ b ∈ bs, b ≠ ld ∧ b ≠ kp := fun b m => by
      obtain ⟨i, hi, e⟩ := List.mem_iff_getElem.mp m
      obtain ⟨ys, y1, _⟩ := hby2 i b (by rw [List.getElem?_eq_getElem hi, e])
      exact ⟨ne_of_none y1 nld, ne_of_none y1 nkp2⟩
    have btl : bt ≠ ld := ne_of_none hB2 nld
    have btk : bt ≠ kp := ne_of_none hB2 nkp2
    have hB3 := sm23 _ _ hB2
    have hby3 : ByAt H3 bs (fun j => Ts.filter fun T => decide (T.taken = j)) := hby2.keep (TupS.of sm23) fun b _ u e => sm23 _ _ e
    have sm3 : Same H H3 := sm2.trans sm23
    clear sm23 hby2 nkp
    subst eH3
    refine ⟨_, _, rfl, rfl, _, rfl, by decide, by decide, for_it (n := 4) walk_range (fun k σ H' => ∃ (v3 v5 v8 v9 v10 : Option V) (L : Nat → List Trk) (ys : List V), σ = [some (.ref a), some (.ref l), some (iv d), v3, some (.ref bt), v5, some (.ref ld), some (.ref kp), v8, v9, v10] ∧ Same H H' ∧ H' bt = some (.lst (bs.map .ref)) ∧
      ByAt H' bs L ∧ (∀ j, k < j → L j = Ts.filter fun T => decide (T.taken = j)) ∧ (L k = (Ts.filter fun T => decide (T.taken = k)) ++ (settledS R t d Ts k).1) ∧ LeastAt P w H' ld (settledS R t d Ts k).2.1 (settledS R t d Ts k).2.2.length ∧
      H' kp = some (.lst ys) ∧ Paired (TrAt H') ys (settledS R t d Ts k).2.2) ?_ (fun _ _ _ _ _ => trivial) ?_ ?_⟩
    · refine ⟨none, v5, none, none, none, _, [], rfl, sm3, hB3, hby3, fun _ _ => rfl, ?_, ⟨[], h3l, fun _ m => (nomatch m), Nat.zero_le _, fun _ => rfl⟩, h3k, .nil⟩
      show _ = _ ++ []
      rw [List.append_nil]
    · rintro k x σ H4 H5 hk ⟨v3, v5, v8, v9, v10, L, ys, rfl, sm4, hB4, hby4, hL1, hL2, hlst, hkp, hys⟩ ⟨rfl, hx4⟩
      have hx4 : x = iv k := hx4.trans (congrArg V.int (Int.zero_add _))
      subst hx4
      have hC : [] ∈ comsOf R := .head _
      have eb : bs[k]? = some (bs[k]'(by omega)) := List.getElem?_eq_getElem (by omega)
      generalize bs[k]'(by omega) = b at eb
      obtain ⟨zs, y1, y2⟩ := hby4 _ _ eb
      have eb' : (bs.map V.ref)[k]? = some (.ref b) := by rw [List.getElem?_map, eb]; rfl
      have eL : (L k).mergeSort trLe = levelL Ts k (settledS R t d Ts k).1 := by rw [hL2]; rfl
      refine ⟨_, rfl, _, rfl, bt, _, k, _, rfl, rfl, .inl (.inl hB4), atI_nat eb', b, zs, (L k).map datT, rfl, .inl (.inl y1), dp_all datT (fun _ _ h => h.dp) y2, allAlike_of alikeT _, PySem.W.Sortable.tuples fun m => ⟨_, _, rfl⟩, fun q hq => ?_, fun c nc => ?_⟩
      · obtain ⟨m, _, rfl⟩ := List.mem_map.mp hq
        exact depthT m
      have so := sort_pair datT y2
      have eL' : (L k).mergeSort (dataLe false datT) = levelL Ts k (settledS R t d Ts k).1 := eL
      rw [eL'] at so
      generalize ((zs.zip ((L k).map datT)).mergeSort (dataLe false Prod.snd)).map Prod.fst = out at so
      have s6 : Same H5 (upd H5 c (.lst out)) := Same.new (Same.refl H5) nc
      have hc6 : upd H5 c (.lst out) c = some (.lst out) := upd_same
      have so6 : Paired (TrAt (upd H5 c (.lst out))) out (levelL Ts k (settledS R t d Ts k).1) := Paired.mapP so fun v m h => h.keep (TupS.of s6)
      have cb : ∀ b ∈ bs, b ≠ c := fun b m => by
        obtain ⟨i, hi, e⟩ := List.mem_iff_getElem.mp m
        obtain ⟨ys, y1, _⟩ := hby4 i b (by rw [List.getElem?_eq_getElem hi, e])
        exact ne_of_none y1 nc
      have cbt : bt ≠ c := ne_of_none hB4 nc
      have ckp : kp ≠ c := ne_of_none hkp nc
      obtain ⟨es0, hes0, _⟩ := id hlst
      have cld : ld ≠ c := ne_of_none hes0 nc
      clear hes0
      have nc0 : H c = none := sm4.free nc
      have lo : out.length = (levelL Ts k (settledS R t d Ts k).1).length := Paired.length so
      have tS56 : TupS H5 (upd H5 c (.lst out)) := TupS.of s6
      have lst6 : LeastAt P w (upd H5 c (.lst out)) ld (midS R t d Ts k 0).2.1 (midS R t d Ts k 0).2.2.length := by
        obtain ⟨es, e1, e2, e3, e4⟩ := hlst
        exact ⟨es, s6 _ _ e1, keys_keep tS56 e2, e3, e4⟩
      have B65 : ∀ j, (midS R t d Ts k j).2.2.length ≤ 6500 := fun j => Nat.le_trans (mid_len hC hf hk) (coms_b hR ht)
      have N65 : ∀ j, (midS R t d Ts k j).1.length ≤ 32 * 6500 := fun j => Nat.le_trans (mid_nx hR k j) (Nat.mul_le_mul_left _ (B65 j))
      refine ⟨_, rfl, c, rfl, ⟨out, .inl (.inl hc6)⟩, for_it walk_list (fun j σ H' => ∃ (v5 v9 v10 : Option V) (L' : Nat → List Trk) (ys' : List V), σ = [some (.ref a), some (.ref l), some (iv d), some (iv k), some (.ref bt), v5, some (.ref ld), some (.ref kp), some (.ref c), v9, v10] ∧ Same H H' ∧ H' bt = some (.lst (bs.map .ref)) ∧
        ByAt H' bs L' ∧ (∀ j', k + 1 < j' → L' j' = Ts.filter fun T => decide (T.taken = j')) ∧ (L' (k + 1) = (Ts.filter fun T => decide (T.taken = k + 1)) ++ (midS R t d Ts k j).1) ∧ LeastAt P w H' ld (midS R t d Ts k j).2.1 (midS R t d Ts k j).2.2.length ∧
        H' kp = some (.lst ys') ∧ Paired (TrAt H') ys' (midS R t d Ts k j).2.2 ∧ H' c = some (.lst out) ∧ Paired (TrAt H') out (levelL Ts k (settledS R t d Ts k).1)) ?_ (fun j σ H' _ ⟨_, _, _, _, _, _, _, _, _, _, _, _, _, _, q, _⟩ => .inl (.inl q)) ?_ ?_⟩
      · refine ⟨v5, v9, v10, L, ys, rfl, sm4.trans s6, s6 _ _ hB4, hby4.keep tS56 fun b _ u e => s6 _ _ e, fun j hj => hL1 j (by omega), ?_, lst6, s6 _ _ hkp, Paired.mapP hys fun v m h => h.keep tS56, hc6, so6⟩
        rw [mid_zero, hL1 (k + 1) (by omega), List.append_nil]
      · rintro j x σ H7 H8 hj ⟨v5, v9, v10, L', ys', rfl, sm7, hB7, hby7, hL1', hL2', hlst7, hkp7, hys7, hc7, hout7⟩ ⟨rfl, ex7⟩
        obtain ⟨T0, eT, ta, tb, rfl, z1, z2⟩ := paired_get hout7 ex7
        have em := mid_more (R := R) (t := t) (d := d) (Ts := Ts) eT
        have B65j := B65 j
        have B65j1 := B65 (j + 1)
        have N65j := N65 j
        have fT : Fair (comsOf R) t T0 := (level_fair hC hf hk T0 (List.mem_of_getElem? eT)).1
        refine ⟨_, rfl, _, _, 0, _, rfl, rfl, .inl (.inl z1), atI_nat rfl, ?_⟩
        refine ⟨_, rfl, _, rfl, ?_⟩
        unfold tNoPart
        refine sl_track z1 fun r H9 s9 hr9 => ?_
        have tb9 := s9 _ _ z2
        have kr : NKV H9 (.ref r) (keyR T0.reached) := keyR_is hr9 tb9
        obtain ⟨es, e1, e2, e3, e4⟩ := hlst7
        have e1' := s9 _ _ e1
        have e2' : KeysIn H9 es := keys_keep (TupS.of s9) e2
        have sm9 : Same H H9 := sm7.trans s9
        have hB9 := s9 _ _ hB7
        have hby9 : ByAt H9 bs L' := hby7.keep (TupS.of s9) fun b _ u e => s9 _ _ e
        have hkp9 := s9 _ _ hkp7
        have hys9 : Paired (TrAt H9) ys' (midS R t d Ts k j).2.2 := Paired.mapP hys7 fun v m h => h.keep (TupS.of s9)
        have hc9 := s9 _ _ hc7
        have hout9 : Paired (TrAt H9) out (levelL Ts k (settledS R t d Ts k).1) := Paired.mapP hout7 fun v m h => h.keep (TupS.of s9)
        have z19 := s9 _ _ z1
        have ex : (getN es (keyR T0.reached)).getD (V.int ((d : Int) + 1)) = iv (((midS R t d Ts k j).2.1 T0.reached).getD (d + 1)) := by
          rw [e4]
          cases (midS R t d Ts k j).2.1 T0.reached <;> rfl
        clear s9 hB7 hby7 hkp7 hys7 hc7 hout7 z1 z2 e1 e2 sm7 ex7
        have vv : vain d (midS R t d Ts k j).2.1 T0 = (decide (d < T0.cost) || decide (((midS R t d Ts k j).2.1 T0.reached).getD (d + 1) ≤ T0.cost)) := rfl
        have skip : vain d (midS R t d Ts k j).2.1 T0 = true → midS R t d Ts k (j + 1) = midS R t d Ts k j := fun h => by
          rw [em]; unfold stepS; rw [if_pos h]
        refine ⟨_, rfl, _, rfl, _, _, rfl, rfl, _, rfl, ite2 (fun c1 => ?_) (fun c1 => ?_)⟩
        · have c1 := of_decide_eq_true c1
          have e := skip (by rw [vv, decide_eq_true (by omega : d < T0.cost), Bool.true_or])
          refine iteT ?_
          refine ⟨_, _, _, L', ys', rfl, sm9, hB9, hby9, hL1', ?_, ?_, hkp9, ?_, hc9, hout9⟩
          · rw [e]; exact hL2'
          · rw [e]; exact ⟨es, e1', e2', e3, e4⟩
          · rw [e]; exact hys9
        have c1' : ¬ d < T0.cost := fun z => c1 (decide_eq_true (by omega))
        refine ⟨_, rfl, ld, es, rfl, .inl e1', _, rfl, _, rfl, _, _, rfl, rfl, r, keyR T0.reached, es, rfl, .inl e1', e2', kr, keyR_depth _, _, rfl, _, _, ex, rfl, _, rfl, ite2 (fun c2 => ?_) (fun c2 => ?_)⟩
        · have c2 := of_decide_eq_true c2
          have e := skip (by rw [vv, decide_eq_true (by omega : ((midS R t d Ts k j).2.1 T0.reached).getD (d + 1) ≤ T0.cost), Bool.or_true])
          refine ⟨_, _, _, L', ys', rfl, sm9, hB9, hby9, hL1', ?_, ?_, hkp9, ?_, hc9, hout9⟩
          · rw [e]; exact hL2'
          · rw [e]; exact ⟨es, e1', e2', e3, e4⟩
          · rw [e]; exact hys9
        have c2' : ¬ ((midS R t d Ts k j).2.1 T0.reached).getD (d + 1) ≤ T0.cost := fun z => c2 (decide_eq_true (by omega))
        have nv : ¬ vain d (midS R t d Ts k j).2.1 T0 = true := by
          rw [vv, decide_eq_false c1', decide_eq_false c2']; decide
        have em2 : midS R t d Ts k (j + 1) = ((midS R t d Ts k j).1 ++ (if k < 3 then dropped R t T0 else []), putL (midS R t d Ts k j).2.1 T0.reached T0.cost, (midS R t d Ts k j).2.2 ++ [T0]) := by
          rw [em]; unfold stepS; rw [if_neg nv]
        rw [em2] at B65j1
        have lys : ys'.length = (midS R t d Ts k j).2.2.length := Paired.length hys9
        refine ⟨_, rfl, _, rfl, _, rfl, r, ld, keyR T0.reached, es, rfl, rfl, e1', e2', kr, keyR_depth _, by omega, ?_⟩
        obtain ⟨H10, eH10⟩ : ∃ H10, upd H9 ld (DN P w ld (putN es (keyR T0.reached) r (iv T0.cost))) = H10 := ⟨_, rfl⟩
        have ndl : ∀ {b : Addr} {xs : List V}, H9 b = some (.lst xs) → b ≠ ld := fun {b xs} e => ne_of e e1' (by intro y; cases y)
        have o10 : ∀ b u, H9 b = some u → b ≠ ld → H10 b = some u := fun b u e hb => by rw [← eH10, upd_ne hb]; exact e
        have h10l : H10 ld = some (DN P w ld (putN es (keyR T0.reached) r (iv T0.cost))) := by rw [← eH10]; exact upd_same
        have tS10 : TupS H9 H10 := fun b ws e => o10 _ _ e (ne_of e e1' (by intro y; cases y))
        have hkp10 := o10 _ _ hkp9 lk.symm
        have key10 : KeysIn H10 (putN es (keyR T0.reached) r (iv T0.cost)) := keys_put (keys_keep tS10 e2') (kr.keep tS10) (keyR_depth _)
        have get10 : ∀ q, getN (putN es (keyR T0.reached) r (iv T0.cost)) (keyR q) = (putL (midS R t d Ts k j).2.1 T0.reached T0.cost q).map iv := fun q => by
          rw [getN_put]
          unfold putL
          by_cases z : q = T0.reached
          · rw [if_pos z, if_pos (by rw [z])]; rfl
          · rw [if_neg z, if_neg (fun y => z (keyR_inj.mp y)), e4]
        have len10 : (putN es (keyR T0.reached) r (iv T0.cost)).length ≤ ((midS R t d Ts k j).2.2 ++ [T0]).length := by
          have := putN_len es (keyR T0.reached) r (iv T0.cost)
          rw [List.length_append, List.length_singleton]
          omega
        subst eH10
        refine ⟨_, rfl, .inl ⟨rfl, _, .inl (.inl hkp10)⟩, _, rfl, kp, ys', _, rfl, rfl, hkp10, by omega, ?_⟩
        obtain ⟨H11, eH11⟩ : ∃ H11, upd (upd H9 ld (DN P w ld (putN es (keyR T0.reached) r (iv T0.cost)))) kp (.lst (ys' ++ [V.ref ta])) = H11 := ⟨_, rfl⟩
        have o11 : ∀ b u, H9 b = some u → b ≠ ld → b ≠ kp → H11 b = some u := fun b u e h1 h2 => by rw [← eH11, upd_ne h2]; exact o10 _ _ e h1
        have tS11 : TupS H9 H11 := fun b ws e => o11 _ _ e (ne_of e e1' (by intro y; cases y)) (ne_of e hkp9 (by intro y; cases y))
        have tS1011 : TupS (upd H9 ld (DN P w ld (putN es (keyR T0.reached) r (iv T0.cost)))) H11 := by
          rw [← eH11]; exact TupS.upd hkp10 fun _ y => by cases y
        have h11l : H11 ld = some (DN P w ld (putN es (keyR T0.reached) r (iv T0.cost))) := by rw [← eH11, upd_ne lk]; exact h10l
        have h11k : H11 kp = some (.lst (ys' ++ [V.ref ta])) := by rw [← eH11]; exact upd_same
        have sm11 : Same H H11 := fun b o e => o11 _ _ (sm9 _ _ e) (ne_of_none e nl0) (ne_of_none e nk0)
        have hB11 := o11 _ _ hB9 btl btk
        have hby11 : ByAt H11 bs L' := hby9.keep tS11 fun b m u e => o11 _ _ e (ldb b m).1 (ldb b m).2
        have hc11 := o11 _ _ hc9 cld.symm ckp.symm
        have hout11 : Paired (TrAt H11) out (levelL Ts k (settledS R t d Ts k).1) := Paired.mapP hout9 fun v m h => h.keep tS11
        have z11 := tS11 _ _ z19
        have tb11 := tS11 _ _ tb9
        have hys11 : Paired (TrAt H11) (ys' ++ [V.ref ta]) ((midS R t d Ts k j).2.2 ++ [T0]) := paired_snoc (Paired.mapP hys9 fun v m h => h.keep tS11) ⟨ta, tb, rfl, z11, tb11⟩
        have key11 := keys_keep tS1011 key10
        subst eH11
        refine ⟨_, rfl, _, _, rfl, rfl, _, rfl, ite2 (fun c3 => ?_) (fun c3 => ?_)⟩
        · have c3 := of_decide_eq_true c3
          have k3 : k < 3 := by omega
          have eb1 : bs[k + 1]? = some (bs[k + 1]'(by omega)) := List.getElem?_eq_getElem (by omega)
          generalize bs[k + 1]'(by omega) = b1 at eb1
          have mb1 := List.mem_of_getElem? eb1
          obtain ⟨ws, w1, w2⟩ := hby11 _ _ eb1
          have eb1' : (bs.map V.ref)[k + 1]? = some (.ref b1) := by rw [List.getElem?_map, eb1]; rfl
          obtain ⟨dx, lm, ld', ms, ds, g1, g2⟩ := id hW
          have lws : ws.length ≤ 600000 := by
            rw [Paired.length w2, hL2', List.length_append]
            have := List.length_filter_le (fun T : Trk => decide (T.taken = k + 1)) Ts
            omega
          refine ⟨_, rfl, _, rfl, _, _, rfl, rfl, bt, _, ((k + 1 : Nat) : Int), _, rfl, rfl, .inl (.inl hB11), atI_nat eb1', .inl ⟨rfl, _, .inl (.inl w1)⟩, ?_⟩
          refine ⟨_, rfl, a, dx, _, rfl, sm11 _ _ g1, wF_none (by decide +kernel) (by decide +kernel) (by decide +kernel) _ _ _, _, rfl, a, .ref ta, R, t, T0, rfl, hW.same sm11, ⟨ta, tb, rfl, z11, tb11⟩, fT.2.1, hR, fun H12 dl zs2 s12 ndl hdl hzs => ?_⟩
          have ldr : zs2.length ≤ 32 := by rw [Paired.length hzs]; exact dropped_len hR T0
          have w12 := s12 _ _ w1
          refine ⟨b1, dl, ws, zs2, rfl, rfl, w12, hdl, by omega, ?_⟩
          have nb1 : H b1 = none := nbs b1 mb1
          have o13 : ∀ b u, H12 b = some u → b ≠ b1 → upd H12 b1 (.lst (ws ++ zs2)) b = some u := fun b u e hb => by rw [upd_ne hb]; exact e
          have tS13 : TupS H12 (upd H12 b1 (.lst (ws ++ zs2))) := TupS.upd w12 fun _ y => by cases y
          have tSx := (TupS.of s12).trans tS13
          have bld := (ldb b1 mb1).1
          have bkp := (ldb b1 mb1).2
          refine ⟨_, _, _, fun j' => if j' = k + 1 then L' j' ++ dropped R t T0 else L' j', _, rfl, fun b o e => o13 _ _ (s12 _ _ (sm11 _ _ e)) (ne_of_none e nb1), o13 _ _ (s12 _ _ hB11) (btn b1 mb1).symm, ?_, fun j' hj' => ?_, ?_, ?_, o13 _ _ (s12 _ _ h11k) bkp.symm, ?_, o13 _ _ (s12 _ _ hc11) (cb b1 mb1).symm, Paired.mapP hout11 fun v m h => h.keep tSx⟩
          · exact (hby11.keep (TupS.of s12) fun b _ u e => s12 _ _ e).put hnd eb1 w12 o13 upd_same (Paired.mapP hzs fun v m h => h.keep tS13)
          · dsimp only
            rw [if_neg (by omega)]
            exact hL1' j' hj'
          · dsimp only
            rw [if_pos rfl, em2, hL2', if_pos k3, List.append_assoc]
          · rw [em2]
            exact ⟨_, o13 _ _ (s12 _ _ h11l) bld.symm, keys_keep tSx key11, len10, get10⟩
          · rw [em2]
            exact Paired.mapP hys11 fun v m h => h.keep tSx
        · have k3 : ¬ k < 3 := fun z => c3 (decide_eq_true (by omega))
          refine ⟨_, _, _, L', _, rfl, sm11, hB11, hby11, hL1', ?_, ?_, h11k, ?_, hc11, hout11⟩
          · rw [em2, if_neg k3, List.append_nil]; exact hL2'
          · rw [em2]
            exact ⟨_, h11l, key11, len10, get10⟩
          · rw [em2]; exact hys11
      · rintro σ H7 ⟨v5, v9, v10, L', ys', rfl, sm7, hB7, hby7, hL1', hL2', hlst7, hkp7, hys7, hc7, hout7⟩
        rw [lo, mid_full] at hL2' hlst7 hys7
        exact ⟨_, _, _, _, _, L', ys', rfl, sm7, hB7, hby7, hL1', hL2', hlst7, hkp7, hys7⟩
    · rintro σ H4 ⟨v3, v5, v8, v9, v10, L, ys, rfl, sm4, hB4, hby4, hL1, hL2, hlst, hkp, hys⟩
      exact ⟨_, rfl, k H4 kp ys sm4 nk0 hkp hys⟩
end
end Slip
end
/-! ## MRank -/
section
set_option Elab.async false
set_option linter.all false
set_option maxHeartbeats 1000000
namespace Slip
open PySem PySem.Spec PyProof.Rows L2
open PySem.W (alike dataLe AllAlike Sortable EachIs TotalLe sort_pairwise dataLt dataLt_pair)
open SyBase SySpell SySlip
structure Beg where
  cost : Nat
  letters : List Nat
  tracks : List Trk
  whole : Bool
  deriving DecidableEq
def datB (b : Beg) : PyData := .tuple [.int b.cost, dat b.letters]
def begLe : Beg → Beg → Bool := dataLe false datB
def Beg.mean (b : Beg) : Meaning := (b.letters, b.cost)
theorem lt_beg (a b : Beg) : dataLt (datB a) (datB b) = comes a.mean b.mean := by
  unfold datB
  rw [dataLt_pair rfl (alike_dat _ _), eqv_dat, lt_dat]
  have e : PyData.eqv (.int (a.cost : Int)) (.int (b.cost : Int)) = decide (a.cost = b.cost) := by
    rw [Bool.eq_iff_iff]
    simp [PyData.eqv]
    omega
  have e2 : dataLt (.int (a.cost : Int)) (.int (b.cost : Int)) = decide (a.cost < b.cost) := by
    rw [PySem.W.dataLt_int]
    rw [Bool.eq_iff_iff, decide_eq_true_eq, decide_eq_true_eq]
    omega
  rw [e, e2]
  unfold comes Beg.mean
  by_cases h1 : a.cost = b.cost
  · rw [if_pos (decide_eq_true h1), h1]
    simp only [Nat.lt_irrefl, decide_false, Bool.false_or, beq_self_eq_true, Bool.true_and]
    by_cases h2 : a.letters = b.letters
    · rw [if_pos (decide_eq_true h2), h2, SM.before_irrefl]
    · rw [if_neg (by simpa using h2)]
  · rw [if_neg (by simpa using h1), beq_eq_false_iff_ne.mpr h1, Bool.false_and, Bool.or_false]
theorem begLe_eq (a b : Beg) : begLe a b = !comes b.mean a.mean := by
  rw [← lt_beg]; rfl
def lengthen (R : List Row) (t : List Nat) (d : Nat) (b : Beg) : List Beg :=
  if b.whole = true then [b] else
    (match wholeCost t (settle R t d b.tracks) with
      | some c => [⟨c, b.letters, [], true⟩]
      | none => []) ++ (onward R t d (settle R t d b.tracks)).map fun p => ⟨(leastOf (p.2.map (·.cost))).getD 0, b.letters ++ [p.1], p.2, false⟩
def longer (R : List Row) (t : List Nat) (d : Nat) (F : List Beg) : List Beg := F.flatMap (lengthen R t d)
def firsts (many : Nat) (L : List Beg) : List Beg := (L.mergeSort begLe).take many
def dearer (many d : Nat) (F : List Beg) : Nat := if F.length = many then ((F.getLast?.map (·.cost)).getD d) else d
def stepB (R : List Row) (t : List Nat) (many : Nat) (s : List Beg × Nat) : List Beg × Nat := (firsts many (longer R t s.2 s.1), dearer many s.2 (firsts many (longer R t s.2 s.1)))
section
variable {R : List Row} {t : List Nat} {d : Nat} {Ts K : List Trk} {C : List (List Nat)}
/-- m may yet come of the beginning, for c at most -/
def MayB (R : List Row) (t : List Nat) (b : Beg) (m : List Nat) (c : Nat) : Prop := if b.whole = true then m = b.letters ∧ b.cost ≤ c else ∃ r, m = b.letters ++ r ∧ MayL R t b.tracks r c
/-- a beginning as it may stand behind n steps -/
structure BegOk (R : List Row) (t : List Nat) (C : List (List Nat)) (d n : Nat) (b : Beg) : Prop where
  le : b.cost ≤ d
  long : b.whole = true → b.letters.length < n
  len : b.whole = false → b.letters.length = n
  fair : b.whole = false → ∀ T ∈ b.tracks, Fair C t T
  least : b.whole = false → (∃ T ∈ b.tracks, T.cost = b.cost) ∧ ∀ T ∈ b.tracks, b.cost ≤ T.cost
theorem May.own (T : Trk) : May R t T (T.coming ++ t.drop T.place) T.cost := by
  refine ⟨_, 0, rfl, Nat.le_refl _, ?_⟩
  have go : ∀ (n : Nat) (a : List Nat), SM.Cut (slipsOf R) n a a 0 := by
    intro n a
    induction a with
    | nil => exact .nil
    | cons x a ih => exact .same ih
  exact go _ _
theorem May.cost {T : Trk} {r : List Nat} {c : Nat} (h : May R t T r c) : T.cost ≤ c := by
  obtain ⟨_, _, _, l, _⟩ := h
  omega
theorem BegOk.own {n : Nat} {b : Beg} (h : BegOk R t C d n b) : ∃ r, MayB R t b (b.letters ++ r) b.cost := by
  unfold MayB
  cases e : b.whole with
  | true => exact ⟨[], by simp⟩
  | false =>
    obtain ⟨⟨T, m, q⟩, _⟩ := h.least e
    refine ⟨T.coming ++ t.drop T.place, ?_⟩
    rw [if_neg Bool.false_ne_true]
    exact ⟨_, rfl, T, m, by rw [← q]; exact May.own T⟩
theorem BegOk.min {n : Nat} {b : Beg} (h : BegOk R t C d n b) {m : List Nat} {c : Nat} (q : MayB R t b m c) : b.cost ≤ c := by
  unfold MayB at q
  cases e : b.whole with
  | true => rw [e, if_pos rfl] at q; exact q.2
  | false =>
    rw [e, if_neg Bool.false_ne_true] at q
    obtain ⟨r, _, T, m', k⟩ := q
    exact Nat.le_trans ((h.least e).2 T m') k.cost
theorem MayB.begins {b : Beg} {m : List Nat} {c : Nat} (q : MayB R t b m c) : ∃ r, m = b.letters ++ r := by
  unfold MayB at q
  split at q
  · exact ⟨[], by rw [q.1, List.append_nil]⟩
  · obtain ⟨r, e, _⟩ := q
    exact ⟨r, e⟩
theorem before_more : ∀ {a b : List Nat} (u v : List Nat), before a b = true → (a.length < b.length → ¬ a <+: b) → before (a ++ u) (b ++ v) = true
  | [], b, u, v, h, k => by
    cases b with
    | nil => cases h
    | cons y b => exact absurd (List.nil_prefix) (k (by simp))
  | x :: a, [], u, v, h, _ => by cases h
  | x :: a, y :: b, u, v, h, k => by
    simp only [before, Bool.or_eq_true, Bool.and_eq_true, decide_eq_true_eq, beq_iff_eq, List.cons_append] at h ⊢
    rcases h with h | ⟨e, h⟩
    · exact .inl h
    · refine .inr ⟨e, before_more u v h fun l p => k (by simpa using l) ?_⟩
      rw [e]
      exact (List.prefix_cons_inj y).mpr p
theorem before_behind : ∀ {a b : List Nat} (v : List Nat), before a b = true → before a (b ++ v) = true
  | [], b, v, h => by
    cases b with
    | nil => cases h
    | cons y b => rfl
  | x :: a, [], v, h => by cases h
  | x :: a, y :: b, v, h => by
    simp only [before, Bool.or_eq_true, Bool.and_eq_true, decide_eq_true_eq, beq_iff_eq, List.cons_append] at h ⊢
    rcases h with h | ⟨e, h⟩
    · exact .inl h
    · exact .inr ⟨e, before_behind v h⟩
theorem before_prefix : ∀ {a b : List Nat}, before a b = true → a.length < b.length ∨ ¬ a <+: b
  | [], b, h => by
    cases b with
    | nil => cases h
    | cons y b => exact .inl (by simp)
  | x :: a, [], h => by cases h
  | x :: a, y :: b, h => by
    simp only [before, Bool.or_eq_true, Bool.and_eq_true, decide_eq_true_eq, beq_iff_eq] at h
    rcases h with h | ⟨e, h⟩
    · refine .inr fun p => ?_
      have := (List.cons_prefix_cons.mp p).1
      omega
    · rcases before_prefix h with l | l
      · exact .inl (by simpa using l)
      · exact .inr fun p => l (List.cons_prefix_cons.mp p).2
/-- the own row of a beginning ahead comes before every row of one behind -/
theorem rows_ord {n : Nat} {a b : Beg} (ha : BegOk R t C d n a) (hb : BegOk R t C d n b) (h : comes a.mean b.mean = true) {r m : List Nat} {c : Nat} (qa : MayB R t a (a.letters ++ r) a.cost) (qb : MayB R t b m c) : comes (a.letters ++ r, a.cost) (m, c) = true := by
  rw [SM.comes_iff] at h ⊢
  have lb := hb.min qb
  have h' : a.cost < b.cost ∨ (a.cost = b.cost ∧ before a.letters b.letters = true) := h
  show a.cost < c ∨ (a.cost = c ∧ before (a.letters ++ r) m = true)
  rcases h' with h' | ⟨e, h'⟩
  · exact .inl (by omega)
  · rcases Nat.lt_or_ge b.cost c with l | l
    · exact .inl (by omega)
    · refine .inr ⟨by omega, ?_⟩
      obtain ⟨v, rfl⟩ := qb.begins
      cases ew : a.whole with
      | true =>
        unfold MayB at qa
        rw [if_pos ew] at qa
        rw [qa.1]
        exact before_behind v h'
      | false =>
        refine before_more r v h' fun l => ?_
        have la := ha.len ew
        cases ewb : b.whole with
        | true => have := hb.long ewb; omega
        | false => have := hb.len ewb; omega
/-! the parts of a beginning -/
theorem parts_ok (hC : Cld R C) {n : Nat} {b p : Beg} (h : BegOk R t C d n b) (hp : p ∈ lengthen R t d b) : BegOk R t C d (n + 1) p ∧ (∀ m c, MayB R t p m c → MayB R t b m c) ∧ ∃ r, p.letters = b.letters ++ r := by
  unfold lengthen at hp
  cases e : b.whole with
  | true =>
    rw [if_pos e] at hp
    obtain rfl := List.mem_singleton.mp hp
    refine ⟨⟨h.le, fun _ => Nat.lt_succ_of_lt (h.long e), fun z => ?_, fun z => ?_, fun z => ?_⟩, fun _ _ q => q, [], by simp⟩
    all_goals rw [e] at z; cases z
  | false =>
    rw [if_neg (by rw [e]; exact Bool.false_ne_true)] at hp
    have S := settle_is (R := R) (t := t) (d := d) hC.nil fun T m => h.fair e T m
    rcases List.mem_append.mp hp with hp | hp
    · cases ew : wholeCost t (settle R t d b.tracks) with
      | none => rw [ew] at hp; cases hp
      | some c =>
        rw [ew] at hp
        obtain rfl := List.mem_singleton.mp hp
        obtain ⟨⟨T, m, z1, z2⟩, z3⟩ := whole_some ew
        have hc : c ≤ d := by rw [← z2]; exact S.le T m
        refine ⟨⟨hc, fun _ => by show b.letters.length < n + 1; rw [h.len e]; omega, fun z => (nomatch z), fun z => (nomatch z), fun z => (nomatch z)⟩, fun m' c' q => ?_, [], by simp⟩
        have q' : m' = b.letters ∧ c ≤ c' := q
        unfold MayB
        rw [if_neg (by rw [e]; exact Bool.false_ne_true)]
        refine ⟨[], by rw [q'.1, List.append_nil], ?_⟩
        have k := (S.may hc).mp ((S.whole hc).mpr ⟨T, m, z1, by omega⟩)
        obtain ⟨T0, m0, r', c0, a1, a2, a3⟩ := k
        exact ⟨T0, m0, r', c0, a1, by omega, a3⟩
    · obtain ⟨q, hq, rfl⟩ := List.mem_map.mp hp
      have F := FOk.onward (R := R) (t := t) (d := d) (K := settle R t d b.tracks)
      have gq := getF_mem F hq
      have from_ : ∀ T' ∈ q.2, ∃ T ∈ settle R t d b.tracks, Goes R t d T q.1 T' := fun T' m' => onward_mem.mp (by rw [gq]; exact m')
      obtain ⟨c, hc⟩ : ∃ c, leastOf (q.2.map (·.cost)) = some c := by
        cases z : leastOf (q.2.map (·.cost)) with
        | none => exact absurd (List.map_eq_nil_iff.mp (leastOf_none.mp z)) (F.ne q hq)
        | some c => exact ⟨c, rfl⟩
      obtain ⟨l1, l2⟩ := leastOf_some hc
      obtain ⟨T1, m1, z1⟩ := List.mem_map.mp l1
      have fr : ∀ T' ∈ q.2, Fair C t T' ∧ T'.cost ≤ d := fun T' m' => by
        obtain ⟨T, m, g⟩ := from_ T' m'
        exact ⟨g.fair hC (S.fair T m), g.cost (S.le T m)⟩
      refine ⟨⟨?_, fun z => (nomatch z), fun _ => ?_, fun _ T' m' => (fr T' m').1, fun _ => ⟨⟨T1, m1, ?_⟩, fun T' m' => ?_⟩⟩, fun m' c' k => ?_, [q.1], rfl⟩
      · show (leastOf (q.2.map (·.cost))).getD 0 ≤ d
        rw [hc, Option.getD_some, ← z1]
        exact (fr T1 m1).2
      · show (b.letters ++ [q.1]).length = n + 1
        rw [List.length_append, h.len e]; rfl
      · show T1.cost = (leastOf (q.2.map (·.cost))).getD 0
        rw [hc, z1]; rfl
      · show (leastOf (q.2.map (·.cost))).getD 0 ≤ T'.cost
        rw [hc, Option.getD_some]
        exact l2 _ (List.mem_map_of_mem m')
      · have k' : ∃ r, m' = (b.letters ++ [q.1]) ++ r ∧ MayL R t q.2 r c' := k
        obtain ⟨r, e1, T', m2, k2⟩ := k'
        unfold MayB
        rw [if_neg (by rw [e]; exact Bool.false_ne_true)]
        refine ⟨q.1 :: r, by rw [e1, List.append_assoc]; rfl, ?_⟩
        obtain ⟨T, m, g⟩ := from_ T' m2
        exact S.sub T m _ _ (g.may k2)
theorem parts_all (hC : Cld R C) {n : Nat} {b : Beg} (h : BegOk R t C d n b) {m : List Nat} {c : Nat} (hc : c ≤ d) (q : MayB R t b m c) : ∃ p ∈ lengthen R t d b, MayB R t p m c := by
  unfold lengthen
  cases e : b.whole with
  | true => rw [if_pos rfl]; exact ⟨b, .head _, q⟩
  | false =>
    rw [if_neg Bool.false_ne_true]
    have S := settle_is (R := R) (t := t) (d := d) hC.nil fun T m => h.fair e T m
    unfold MayB at q
    rw [if_neg (by rw [e]; exact Bool.false_ne_true)] at q
    obtain ⟨r, rfl, k⟩ := q
    rw [← S.may hc] at k
    cases r with
    | nil =>
      obtain ⟨T, mT, z1, z2⟩ := (S.whole hc).mp k
      cases ew : wholeCost t (settle R t d b.tracks) with
      | none => exact absurd z1 (whole_none ew T mT)
      | some c0 =>
        refine ⟨⟨c0, b.letters, [], true⟩, List.mem_append_left _ (.head _), ?_⟩
        show b.letters ++ [] = b.letters ∧ c0 ≤ c
        exact ⟨List.append_nil _, Nat.le_trans ((whole_some ew).2 T mT z1) z2⟩
    | cons x r =>
      have k2 := (S.go hc).mp k
      obtain ⟨T', m', k3⟩ := k2
      obtain ⟨p, hp, px, hT⟩ := getF_there m'
      refine ⟨_, List.mem_append_right _ (List.mem_map.mpr ⟨p, hp, rfl⟩), ?_⟩
      show ∃ r', b.letters ++ x :: r = (b.letters ++ [p.1]) ++ r' ∧ MayL R t p.2 r' c
      exact ⟨r, by rw [List.append_assoc, px]; rfl, T', hT, k3⟩
theorem parts_distinct {b : Beg} : ((lengthen R t d b).map (·.letters)).Nodup := by
  unfold lengthen
  split
  · simp
  · rw [List.map_append, List.map_map, List.nodup_append]
    refine ⟨?_, ?_, fun x hx y hy e => ?_⟩
    · split <;> simp
    · have e : (List.map ((fun x => x.letters) ∘ fun p : Nat × List Trk => (⟨(leastOf (p.2.map (·.cost))).getD 0, b.letters ++ [p.1], p.2, false⟩ : Beg)) (onward R t d (settle R t d b.tracks))) = ((onward R t d (settle R t d b.tracks)).map (·.1)).map fun x => b.letters ++ [x] := by
        rw [List.map_map]; rfl
      rw [e]
      have nd := (FOk.onward (R := R) (t := t) (d := d) (K := settle R t d b.tracks)).nd
      rw [List.Nodup, List.pairwise_map]
      exact nd.imp fun {a b} q z => q (by
        have := List.append_cancel_left z
        injection this)
    · have hx' : x = b.letters := by
        split at hx
        · simpa using hx
        · cases hx
      obtain ⟨p, _, rfl⟩ := List.mem_map.mp hy
      have e' : x = b.letters ++ [p.1] := e
      rw [hx'] at e'
      have := congrArg List.length e'
      rw [List.length_append, List.length_singleton] at this
      omega
end
end Slip
end
/-! ## MBeg -/
section
set_option Elab.async false
set_option linter.all false
set_option maxHeartbeats 1000000
namespace Slip
open PySem PySem.Spec PyProof.Rows L2
open PySem.W (alike dataLe AllAlike Sortable EachIs TotalLe sort_pairwise dataLt dataLt_pair)
open SyBase SySpell SySlip
section
variable {R : List Row} {t : List Nat} {d n many : Nat} {C : List (List Nat)} {F : List Beg}
def Can (R : List Row) (t : List Nat) (m : List Nat) (c : Nat) : Prop := ∃ c', c' ≤ c ∧ SM.Cut (slipsOf R) 3 t m c'
def Lost (R : List Row) (t : List Nat) (many : Nat) (F : List Beg) (m : List Nat) (c : Nat) : Prop := F.length = many ∧ ∀ b ∈ F, ∃ r, MayB R t b (b.letters ++ r) b.cost ∧ comes (b.letters ++ r, b.cost) (m, c) = true
structure BInv (R : List Row) (t : List Nat) (C : List (List Nat)) (many n : Nat) (F : List Beg) (d : Nat) : Prop where
  ok : ∀ b ∈ F, BegOk R t C d n b
  dis : (F.map (·.letters)).Nodup
  ord : F.Pairwise fun a b => comes a.mean b.mean = true
  few : F.length ≤ many
  snd : ∀ b ∈ F, ∀ m c, MayB R t b m c → Can R t m c
  dl : d ≤ DEAR3
  dd : d = DEAR3 ∨ F.length = many
  cov : ∀ m c, c ≤ DEAR3 → Can R t m c → (∃ b ∈ F, MayB R t b m c) ∨ Lost R t many F m c
theorem longer_distinct (hC : Cld R C) (hok : ∀ b ∈ F, BegOk R t C d n b) (hd : (F.map (·.letters)).Nodup) : ((longer R t d F).map (·.letters)).Nodup := by
  unfold longer
  rw [List.map_flatMap, List.Nodup, List.pairwise_flatMap]
  refine ⟨fun b _ => parts_distinct, ?_⟩
  rw [List.Nodup, List.pairwise_map] at hd
  refine List.Pairwise.imp_of_mem ?_ hd
  intro a b ha hb hab x hx y hy e
  obtain ⟨p, hp, rfl⟩ := List.mem_map.mp hx
  obtain ⟨q, hq, rfl⟩ := List.mem_map.mp hy
  have oa := hok a ha
  have ob := hok b hb
  obtain ⟨u, hu⟩ := (parts_ok hC oa hp).2.2
  obtain ⟨v, hv⟩ := (parts_ok hC ob hq).2.2
  have wa : a.whole = true → p = a := fun w => by
    unfold lengthen at hp
    rw [if_pos w] at hp
    exact List.mem_singleton.mp hp
  have wb : b.whole = true → q = b := fun w => by
    unfold lengthen at hq
    rw [if_pos w] at hq
    exact List.mem_singleton.mp hq
  have le := congrArg List.length e
  cases ea : a.whole with
  | true =>
    have := wa ea
    subst this
    cases eb : b.whole with
    | true =>
      have := wb eb
      subst this
      exact hab e
    | false =>
      have l1 := oa.long ea
      have l2 := ob.len eb
      rw [hv, List.length_append] at le
      omega
  | false =>
    have l1 := oa.len ea
    cases eb : b.whole with
    | true =>
      have := wb eb
      subst this
      have l2 := ob.long eb
      rw [hu, List.length_append] at le
      omega
    | false =>
      have l2 := ob.len eb
      rw [hu, hv] at e
      have := List.append_inj_left e (l1.trans l2.symm)
      exact hab this
theorem beg_sorted {L : List Beg} (hd : (L.map (·.letters)).Nodup) : (L.mergeSort begLe).Pairwise fun a b => comes a.mean b.mean = true := by
  have p1 := sort_pairwise (dataLe_tot datB) L
  have p2 : ((L.mergeSort begLe).map (·.letters)).Nodup := ((List.mergeSort_perm L begLe).map _).nodup_iff.mpr hd
  rw [List.Nodup, List.pairwise_map] at p2
  refine (p1.and p2).imp ?_
  rintro a b ⟨q1, q2⟩
  have e : begLe a b = true := q1
  rw [begLe_eq, Bool.not_eq_true'] at e
  rcases SM.comes_total a.mean b.mean with h | h | h
  · exact h
  · exact absurd (congrArg Prod.fst h) q2
  · rw [h] at e; cases e
/-- one in the first places has fewer than so many ahead -/
theorem rank {L X : List Beg} {b : Beg} (hp : L.Pairwise fun a b => comes a.mean b.mean = true) (hb : b ∈ L.take many) (hX : X.Nodup) (hs : ∀ x ∈ X, x ∈ L) (hl : ∀ x ∈ X, comes x.mean b.mean = true) : X.length < many := by
  obtain ⟨j, hj, e⟩ := List.mem_take_iff_getElem.mp hb
  have hj' : j < many ∧ j < L.length := by omega
  have sub : ∀ x ∈ X, x ∈ L.take j := fun x hx => by
    obtain ⟨i, hi, ex⟩ := List.mem_iff_getElem.mp (hs x hx)
    refine List.mem_take_iff_getElem.mpr ⟨i, ?_, ex⟩
    have : i < j := by
      refine Nat.lt_of_not_le fun q => ?_
      have c1 := hl x hx
      rcases Nat.lt_or_eq_of_le q with q | q
      · have := List.pairwise_iff_getElem.mp hp j i hj'.2 hi q
        rw [e, ex] at this
        rw [SM.comes_asymm this] at c1
        cases c1
      · subst q
        rw [e] at ex
        rw [ex, SM.comes_irrefl] at c1
        cases c1
    omega
  have := SM.length_le_of_sub hX sub
  rw [List.length_take] at this
  omega
/-- of each beginning whose own row is so a part has it -/
theorem pick (hC : Cld R C) {G : Meaning → Prop} : ∀ (F : List Beg), (∀ b ∈ F, BegOk R t C d n b) → (∀ b ∈ F, ∃ r, MayB R t b (b.letters ++ r) b.cost ∧ G (b.letters ++ r, b.cost)) →
    ∃ X : List Beg, X.Sublist (longer R t d F) ∧ X.length = F.length ∧ ∀ s ∈ X, ∃ r, MayB R t s (s.letters ++ r) s.cost ∧ G (s.letters ++ r, s.cost)
  | [], _, _ => ⟨[], List.Sublist.refl _, rfl, fun _ h => nomatch h⟩
  | b :: F, hok, h => by
    obtain ⟨X, x1, x2, x3⟩ := pick hC F (fun b' m' => hok b' (.tail _ m')) fun b' m' => h b' (.tail _ m')
    obtain ⟨r, q, k⟩ := h b (.head _)
    have ob := hok b (.head _)
    obtain ⟨p, hp, qp⟩ := parts_all hC ob ob.le q
    obtain ⟨op, sp, _⟩ := parts_ok hC ob hp
    have ec : p.cost = b.cost := by
      refine Nat.le_antisymm (op.min qp) ?_
      obtain ⟨r', q'⟩ := op.own
      exact ob.min (sp _ _ q')
    refine ⟨p :: X, ?_, by rw [List.length_cons, x2]; rfl, fun s hs => ?_⟩
    · show ([p] ++ X).Sublist (lengthen R t d b ++ longer R t d F)
      exact (List.singleton_sublist.mpr hp).append x1
    · rcases List.mem_cons.mp hs with rfl | hs
      · obtain ⟨r', e'⟩ := qp.begins
        rw [e', ← ec] at qp k
        exact ⟨r', qp, k⟩
      · exact x3 s hs
theorem last_le : ∀ {L : List Beg} {b : Beg}, L.Pairwise (fun a b => comes a.mean b.mean = true) → b ∈ L → ∃ x, L.getLast? = some x ∧ x ∈ L ∧ b.cost ≤ x.cost
  | [], _, _, h => nomatch h
  | [y], b, _, h => by
    obtain rfl := List.mem_singleton.mp h
    exact ⟨b, rfl, .head _, Nat.le_refl _⟩
  | y :: z :: L, b, hp, h => by
    rw [List.pairwise_cons] at hp
    rcases List.mem_cons.mp h with e | h
    · obtain ⟨x, h1, h2, h3⟩ := last_le (b := z) hp.2 (.head _)
      refine ⟨x, by rw [List.getLast?_cons_cons]; exact h1, .tail _ h2, ?_⟩
      have := SM.comes_iff.mp (hp.1 z (.head _))
      have e1 : b.cost ≤ z.cost := by
        rw [e]
        rcases this with q | q
        · exact Nat.le_of_lt q
        · exact Nat.le_of_eq q.1
      exact Nat.le_trans e1 h3
    · obtain ⟨x, h1, h2, h3⟩ := last_le hp.2 h
      exact ⟨x, by rw [List.getLast?_cons_cons]; exact h1, .tail _ h2, h3⟩
theorem BegOk.deep {d' : Nat} {b : Beg} (h : BegOk R t C d n b) (l : b.cost ≤ d') : BegOk R t C d' n b := ⟨l, h.long, h.len, h.fair, h.least⟩
theorem BInv.step (hC : Cld R C) (h : BInv R t C many n F d) : BInv R t C many (n + 1) (stepB R t many (F, d)).1 (stepB R t many (F, d)).2 := by
  have eF : (stepB R t many (F, d)).1 = ((longer R t d F).mergeSort begLe).take many := rfl
  have ed : (stepB R t many (F, d)).2 = dearer many d (stepB R t many (F, d)).1 := rfl
  have nd := longer_distinct hC h.ok h.dis
  have so := beg_sorted nd
  have memL : ∀ p, p ∈ (longer R t d F).mergeSort begLe ↔ ∃ b ∈ F, p ∈ lengthen R t d b := fun p => by
    rw [List.mem_mergeSort]; unfold longer; rw [List.mem_flatMap]
  have okL : ∀ p ∈ (longer R t d F).mergeSort begLe, BegOk R t C d (n + 1) p := fun p hp => by
    obtain ⟨b, hb, q⟩ := (memL p).mp hp
    exact (parts_ok hC (h.ok b hb) q).1
  have memS : ∀ p ∈ longer R t d F, p ∈ (longer R t d F).mergeSort begLe := fun p hp => List.mem_mergeSort.mpr hp
  have ndX : (longer R t d F).Nodup := by
    rw [List.Nodup, List.pairwise_map] at nd
    exact nd.imp fun q e => q (congrArg _ e)
  have lenL : ((longer R t d F).mergeSort begLe).length = (longer R t d F).length := List.length_mergeSort _
  have ndL : (((longer R t d F).mergeSort begLe).map (·.letters)).Nodup := ((List.mergeSort_perm _ begLe).map _).nodup_iff.mpr nd
  rw [ed, eF]
  generalize (longer R t d F).mergeSort begLe = L at *
  have sT : (L.take many).Pairwise fun a b => comes a.mean b.mean = true := so.take
  have inL : ∀ p ∈ L.take many, p ∈ L := fun p hp => List.mem_of_mem_take hp
  have leD : ∀ b ∈ L.take many, b.cost ≤ dearer many d (L.take many) ∧ dearer many d (L.take many) ≤ d := fun b hb => by
    unfold dearer
    split
    · obtain ⟨x, h1, h2, h3⟩ := last_le sT hb
      rw [h1]
      exact ⟨h3, (okL x (inL x h2)).le⟩
    · exact ⟨(okL b (inL b hb)).le, Nat.le_refl _⟩
  have dle : dearer many d (L.take many) ≤ d := by
    unfold dearer
    split
    · cases e : (L.take many).getLast? with
      | none => exact Nat.le_refl _
      | some x => exact (okL x (inL x (List.mem_of_getLast? e))).le
    · exact Nat.le_refl _
  have full : F.length = many → (L.take many).length = many := fun e => by
    obtain ⟨X, x1, x2, _⟩ := pick (G := fun _ => True) hC F h.ok fun b hb => by
      obtain ⟨r, q⟩ := (h.ok b hb).own
      exact ⟨r, q, trivial⟩
    have := x1.length_le
    rw [List.length_take]
    omega
  refine ⟨fun b hb => (okL b (inL b hb)).deep (leD b hb).1, ?_, sT, ?_, ?_, Nat.le_trans dle h.dl, ?_, ?_⟩
  · exact ndL.sublist ((List.take_sublist _ _).map _)
  · rw [List.length_take]; exact Nat.min_le_left _ _
  · intro p hp m c q
    obtain ⟨b, hb, hq⟩ := (memL p).mp (inL p hp)
    exact h.snd b hb m c ((parts_ok hC (h.ok b hb) hq).2.1 m c q)
  · by_cases e : (L.take many).length = many
    · exact .inr e
    · rcases h.dd with q | q
      · refine .inl ?_
        unfold dearer
        rw [if_neg e]; exact q
      · exact absurd (full q) e
  · intro m c hc hcan
    have lost : (F.length = many ∧ ∀ b ∈ F, ∃ r, MayB R t b (b.letters ++ r) b.cost ∧ comes (b.letters ++ r, b.cost) (m, c) = true) → Lost R t many (L.take many) m c := by
      rintro ⟨e, hall⟩
      refine ⟨full e, fun b' hb' => ?_⟩
      obtain ⟨X, x1, x2, x3⟩ := pick (G := fun x => comes x (m, c) = true) hC F h.ok hall
      have hXL : ∀ x ∈ X, x ∈ L := fun x hx => memS x (x1.subset hx)
      by_cases c1 : ∀ x ∈ X, comes x.mean b'.mean = true
      · have := rank so hb' (ndX.sublist x1) hXL c1
        omega
      · have ⟨s, hs, ns⟩ : ∃ s, s ∈ X ∧ ¬ comes s.mean b'.mean = true := by
          refine Classical.byContradiction fun q => c1 fun x hx => ?_
          refine Classical.byContradiction fun z => q ⟨x, hx, z⟩
        obtain ⟨r, q, k⟩ := x3 s hs
        have os := okL s (hXL s hs)
        have ob := okL b' (inL b' hb')
        rcases SM.comes_total s.mean b'.mean with z | z | z
        · exact absurd z ns
        · have el : s.letters = b'.letters := congrArg Prod.fst z
          have ec : s.cost = b'.cost := congrArg Prod.snd z
          have : s = b' := by
            have nd2 := ndL
            rw [List.Nodup, List.pairwise_map, List.pairwise_iff_getElem] at nd2
            obtain ⟨i, hi, e1⟩ := List.mem_iff_getElem.mp (hXL s hs)
            obtain ⟨j, hj, e2⟩ := List.mem_iff_getElem.mp (inL b' hb')
            rcases Nat.lt_trichotomy i j with l | l | l
            · exact absurd (by rw [e1, e2]; exact el) (nd2 i j hi hj l)
            · subst l; rw [← e1, ← e2]
            · exact absurd (by rw [e1, e2]; exact el.symm) (nd2 j i hj hi l)
          subst this
          exact ⟨r, q, k⟩
        · obtain ⟨r', q'⟩ := ob.own
          have := rows_ord ob os z q' q
          exact ⟨r', q', SM.comes_trans this k⟩
    rcases h.cov m c hc hcan with ⟨b, hb, q⟩ | q
    · by_cases cd : c ≤ d
      · obtain ⟨p, hp, qp⟩ := parts_all hC (h.ok b hb) cd q
        have hpL : p ∈ L := (memL p).mpr ⟨b, hb, hp⟩
        by_cases hpT : p ∈ L.take many
        · exact .inl ⟨p, hpT, qp⟩
        · refine .inr ?_
          obtain ⟨i, hi, e1⟩ := List.mem_iff_getElem.mp hpL
          have hmi : many ≤ i := Nat.le_of_not_lt fun z => hpT (List.mem_take_iff_getElem.mpr ⟨i, by omega, e1⟩)
          refine ⟨by rw [List.length_take]; omega, fun b' hb' => ?_⟩
          obtain ⟨j, hj, e2⟩ := List.mem_take_iff_getElem.mp hb'
          have := List.pairwise_iff_getElem.mp so j i (by omega) hi (by omega)
          rw [e1, e2] at this
          have ob := okL b' (inL b' hb')
          obtain ⟨r', q'⟩ := ob.own
          exact ⟨r', q', rows_ord ob (okL p hpL) this q' qp⟩
      · refine .inr (lost ?_)
        have e : F.length = many := by
          rcases h.dd with z | z
          · omega
          · exact z
        refine ⟨e, fun b' hb' => ?_⟩
        obtain ⟨r', q'⟩ := (h.ok b' hb').own
        refine ⟨r', q', SM.comes_iff.mpr (.inl ?_)⟩
        have := (h.ok b' hb').le
        show b'.cost < c
        omega
    · exact .inr (lost q)
end
end Slip
end
/-! ## MEnd -/
section
set_option Elab.async false
set_option linter.all false
set_option maxHeartbeats 1000000
namespace SM
open SyBase SySpell SySlip
/-- the first N of what P says -/
structure FirstN (N : Nat) (P : Text → Nat → Prop) (L : List Meaning) : Prop where
  ord : L.Pairwise fun x y => comes x y = true
  few : L.length ≤ N
  least : ∀ x ∈ L, P x.1 x.2 ∧ ∀ c, P x.1 c → x.2 ≤ c
  all : ∀ m c, P m c → (∃ x ∈ L, x.1 = m) ∨ (L.length = N ∧ ∀ x ∈ L, comes x (m, c) = true)
theorem FirstN.sub {N : Nat} {P : Text → Nat → Prop} {L M : List Meaning} (h : FirstN N P L) (k : FirstN N P M) : ∀ x ∈ L, x ∈ M := by
  intro x hx
  obtain ⟨p, lx⟩ := h.least x hx
  rcases k.all x.1 x.2 p with ⟨y, hy, e⟩ | ⟨full, hy⟩
  · have a := k.least y hy
    rw [e] at a
    have q : y = x := Prod.ext e (Nat.le_antisymm (a.2 _ p) (lx _ a.1))
    exact q ▸ hy
  · refine Classical.byContradiction fun hM => ?_
    have sub : ∀ y ∈ M, y ∈ L := by
      intro y hm
      have ky := k.least y hm
      rcases h.all y.1 y.2 ky.1 with ⟨z, hz, e⟩ | ⟨_, hz⟩
      · have a := h.least z hz
        rw [e] at a
        have q : z = y := Prod.ext e (Nat.le_antisymm (a.2 _ ky.1) (ky.2 _ a.1))
        exact q ▸ hz
      · have c1 : comes x y = true := hz x hx
        have c2 : comes y x = true := hy y hm
        rw [comes_asymm c1] at c2
        exact nomatch c2
    have nd : (x :: M).Nodup := List.nodup_cons.mpr ⟨hM, nodup_of_ord k.ord⟩
    have l := length_le_of_sub nd (M := L) fun y hy => by
      rcases List.mem_cons.mp hy with e | m
      · exact e ▸ hx
      · exact sub y m
    have := h.few
    rw [List.length_cons] at l
    omega
theorem FirstN.unique {N : Nat} {P : Text → Nat → Prop} {L M : List Meaning} (h : FirstN N P L) (k : FirstN N P M) : L = M :=
  ordered_eq h.ord k.ord fun x => ⟨h.sub k x, k.sub h x⟩
theorem First.take {N : Nat} {P : Text → Nat → Prop} {L : List Meaning} (h : First P L) (hN : N ≤ KEPT) : FirstN N P (L.take N) where
  ord := h.ord.take
  few := by rw [List.length_take]; exact Nat.min_le_left _ _
  least := fun x hx => h.least x (List.mem_of_mem_take hx)
  all := fun m c q => by
    rcases h.all m c q with ⟨x, hx, e⟩ | ⟨e, k⟩
    · by_cases z : x ∈ L.take N
      · exact .inl ⟨x, z, e⟩
      · obtain ⟨i, hi, e1⟩ := List.mem_iff_getElem.mp hx
        have hni : N ≤ i := Nat.le_of_not_lt fun z' => z (List.mem_take_iff_getElem.mpr ⟨i, by omega, e1⟩)
        refine .inr ⟨by rw [List.length_take]; omega, fun y hy => ?_⟩
        obtain ⟨j, hj, e2⟩ := List.mem_take_iff_getElem.mp hy
        have o := List.pairwise_iff_getElem.mp h.ord j i (by omega) hi (by omega)
        rw [e1, e2] at o
        have le := (h.least x hx).2 c (by rw [e]; exact q)
        have ex : x = (m, x.2) := Prod.ext e rfl
        rw [ex] at o
        exact comes_le o le
    · exact .inr ⟨by rw [List.length_take, e]; omega, fun x hx => k x (List.mem_of_mem_take hx)⟩
end SM
namespace Slip
open PySem PySem.Spec PyProof.Rows L2
open SyBase SySpell SySlip
section
variable {R : List Row} {t : List Nat} {d n many : Nat} {C : List (List Nat)} {F : List Beg}
def begun : List Beg := [⟨0, [], firstT, false⟩]
theorem BInv.start (hC : Cld R C) (hm : 1 ≤ many) : BInv R t C many 0 begun DEAR3 where
  ok := fun b hb => by
    obtain rfl := List.mem_singleton.mp hb
    exact ⟨Nat.zero_le _, fun z => (nomatch z), fun _ => rfl, fun _ => first_fair hC, fun _ => ⟨⟨_, .head _, rfl⟩, fun T m => Nat.zero_le _⟩⟩
  dis := by simp [begun]
  ord := List.pairwise_singleton _ _
  few := hm
  snd := fun b hb m c q => by
    obtain rfl := List.mem_singleton.mp hb
    obtain ⟨r, e, k⟩ : ∃ r, m = [] ++ r ∧ MayL R t firstT r c := q
    rw [e]
    exact first_may.mp k
  dl := Nat.le_refl _
  dd := .inl rfl
  cov := fun m c _ q => .inl ⟨_, .head _, (⟨m, rfl, first_may.mpr q⟩ : ∃ r, m = [] ++ r ∧ MayL R t firstT r c)⟩
theorem BInv.bound (hR : Short R) (h : BInv R t C many n F d) {b : Beg} (hb : b ∈ F) (hw : b.whole = false) : n ≤ t.length + 9 := by
  obtain ⟨r, q⟩ := (h.ok b hb).own
  obtain ⟨c', _, k⟩ := h.snd b hb _ _ q
  have := (cut_cost hR k).2
  rw [List.length_append, (h.ok b hb).len hw] at this
  omega
theorem BInv.done (hR : Short R) (h : BInv R t C many n F d) (hw : ∀ b ∈ F, b.whole = true) (hm : many ≤ 64) : F.map Beg.mean = (best (slipsOf R) t).take many := by
  have mw : ∀ b ∈ F, ∀ m c, MayB R t b m c ↔ m = b.letters ∧ b.cost ≤ c := fun b hb m c => by
    unfold MayB
    rw [if_pos (hw b hb)]
  have hD : ∀ {m c}, SM.Cut (slipsOf R) USED t m c → c ≤ DEAR3 := fun {m c} q => by
    have := (cut_cost hR q).1
    show c ≤ 196605
    unfold USED at this
    omega
  have lo : ∀ b ∈ F, ∀ c, SM.Cut (slipsOf R) USED t b.letters c → b.cost ≤ c := fun b hb c q => by
    rcases h.cov b.letters c (hD q) ⟨c, Nat.le_refl _, q⟩ with ⟨b', hb', k⟩ | ⟨_, k⟩
    · rw [mw b' hb'] at k
      have : b' = b := by
        have nd := h.dis
        rw [List.Nodup, List.pairwise_map, List.pairwise_iff_getElem] at nd
        obtain ⟨i, hi, e1⟩ := List.mem_iff_getElem.mp hb'
        obtain ⟨j, hj, e2⟩ := List.mem_iff_getElem.mp hb
        rcases Nat.lt_trichotomy i j with l | l | l
        · exact absurd (by rw [e1, e2]; exact k.1.symm) (nd i j hi hj l)
        · subst l; rw [← e1, ← e2]
        · exact absurd (by rw [e1, e2]; exact k.1) (nd j i hj hi l)
      exact this ▸ k.2
    · obtain ⟨r, q1, q2⟩ := k b hb
      rw [mw b hb] at q1
      rw [q1.1] at q2
      exact Nat.le_of_lt (SM.comes_cost.mp q2)
  refine SM.FirstN.unique (N := many) (P := SM.Cut (slipsOf R) USED t) ⟨?_, ?_, ?_, ?_⟩ (SM.First.take (SM.best_first _ _) hm)
  · rw [List.pairwise_map]; exact h.ord
  · rw [List.length_map]; exact h.few
  · intro x hx
    obtain ⟨b, hb, rfl⟩ := List.mem_map.mp hx
    obtain ⟨c', l, k⟩ := h.snd b hb b.letters b.cost ((mw b hb _ _).mpr ⟨rfl, Nat.le_refl _⟩)
    have e : c' = b.cost := Nat.le_antisymm l (lo b hb c' k)
    rw [e] at k
    exact ⟨k, fun c q => lo b hb c q⟩
  · intro m c q
    rcases h.cov m c (hD q) ⟨c, Nat.le_refl _, q⟩ with ⟨b, hb, k⟩ | ⟨e, k⟩
    · exact .inl ⟨_, List.mem_map_of_mem hb, ((mw b hb _ _).mp k).1.symm⟩
    · refine .inr ⟨by rw [List.length_map]; exact e, fun x hx => ?_⟩
      obtain ⟨b, hb, rfl⟩ := List.mem_map.mp hx
      obtain ⟨r, q1, q2⟩ := k b hb
      rw [mw b hb] at q1
      rw [q1.1] at q2
      exact q2
end
end Slip
end
/-! ## PBeg -/
section
set_option Elab.async false
set_option linter.all false
set_option maxRecDepth 100000
set_option maxHeartbeats 2000000
namespace Slip
open PySem PySem.Spec PyProof.Rows L2
open PySem.W (alike dataLe AllAlike Sortable EachIs)
abbrev sBeginning : Stmt := top 13
abbrev sBInit : Stmt := inClass sBeginning 0
abbrev sLeastCost : Stmt := top 14
abbrev sLikeliest : Stmt := top 15
abbrev sOrderOf : Stmt := top 16
abbrev sLengthened : Stmt := top 17
/-! a beginning -/
def bF (c : Nat) (la ta : Addr) (wh : Bool) : List (Str × V) := [("cost", iv c), ("letters", .ref la), ("tracks", .ref ta), ("whole", .bl wh)]
theorem bF_cost (c : Nat) (la ta : Addr) (wh : Bool) : (bF c la ta wh).lookup ("cost" : Str) = some (iv c) := lk_here
theorem bF_letters (c : Nat) (la ta : Addr) (wh : Bool) : (bF c la ta wh).lookup ("letters" : Str) = some (.ref la) := (lk_past (by decide +kernel)).trans lk_here
theorem bF_tracks (c : Nat) (la ta : Addr) (wh : Bool) : (bF c la ta wh).lookup ("tracks" : Str) = some (.ref ta) := (lk_past (by decide +kernel)).trans ((lk_past (by decide +kernel)).trans lk_here)
theorem bF_whole (c : Nat) (la ta : Addr) (wh : Bool) : (bF c la ta wh).lookup ("whole" : Str) = some (.bl wh) := (lk_past (by decide +kernel)).trans ((lk_past (by decide +kernel)).trans ((lk_past (by decide +kernel)).trans lk_here))
theorem bF_new (c : Nat) (la ta : Addr) (wh : Bool) : putF ("whole" : Str) (.bl wh) (putF ("tracks" : Str) (.ref ta) (putF ("letters" : Str) (.ref la) (putF ("cost" : Str) (iv c) []))) = bF c la ta wh := by
  have e1 : putF ("cost" : Str) (iv c) [] = [(("cost" : Str), iv c)] := rfl
  have e2 : putF ("letters" : Str) (V.ref la) [(("cost" : Str), iv c)] = [(("cost" : Str), iv c), (("letters" : Str), V.ref la)] := (put_past (by decide +kernel)).trans rfl
  have e3 : putF ("tracks" : Str) (V.ref ta) [(("cost" : Str), iv c), (("letters" : Str), V.ref la)] = [(("cost" : Str), iv c), (("letters" : Str), V.ref la), (("tracks" : Str), V.ref ta)] := (put_past (by decide +kernel)).trans (congrArg _ ((put_past (by decide +kernel)).trans rfl))
  have e4 : putF ("whole" : Str) (V.bl wh) [(("cost" : Str), iv c), (("letters" : Str), V.ref la), (("tracks" : Str), V.ref ta)] = bF c la ta wh := (put_past (by decide +kernel)).trans (congrArg _ ((put_past (by decide +kernel)).trans (congrArg _ ((put_past (by decide +kernel)).trans rfl))))
  rw [e1, e2, e3, e4]
def BegAt (C : Addr) (H : Hp) (v : V) (b : Beg) : Prop := ∃ a dx la ta, v = .ref a ∧ H a = some (.ins C dx (bF b.cost la ta b.whole)) ∧ H la = some (.tup (ivs b.letters)) ∧ (b.whole = false → ∃ xs, H ta = some (.lst xs) ∧ Paired (TrAt H) xs b.tracks)
theorem BegAt.same {C : Addr} {H H' : Hp} {v : V} {b : Beg} (e : Same H H') (h : BegAt C H v b) : BegAt C H' v b := by
  obtain ⟨a, dx, la, ta, h0, h1, h2, h3⟩ := h
  refine ⟨a, dx, la, ta, h0, e _ _ h1, e _ _ h2, fun z => ?_⟩
  obtain ⟨xs, h3, h4⟩ := h3 z
  exact ⟨xs, e _ _ h3, Paired.mapP h4 fun v m q => q.keep (TupS.of e)⟩
structure TBeg (K : PySem.W.Frag) (mg : Str → Option Value) (C : Addr) : Prop where
  cl : Cls K C
  nC : NoAttr K C "cost"
  nL : NoAttr K C "letters"
  nT : NoAttr K C "tracks"
  nW : NoAttr K C "whole"
section
variable {P : Program} {w : World} {K : PySem.W.Frag} {mg : Str → Option Value} {base : Heap} {C CW : Addr}
def spBInit (C : Addr) : Sp := fun vs H Q _ => ∃ (p dx : Addr) (c : Nat) (la ta : Addr) (wh : Bool), vs = [.ref p, iv c, .ref la, .ref ta, .bl wh] ∧ H p = some (.ins C dx []) ∧
  ∀ H' : Hp, H' p = some (.ins C dx (bF c la ta wh)) → (∀ b o, H b = some o → b ≠ p → H' b = some o) → Q .non H'
theorem scBInit : FnScope ["self", "cost", "letters", "tracks", "whole"] ["self", "cost", "letters", "tracks", "whole"] (defScope sBInit) := ⟨rfl, rfl, rfl, by decide +kernel, rfl, by decide +kernel, by decide +kernel⟩
theorem ok_BInit {f : Addr} {fd : FuncData} (F : Fun K "__init__" "Beginning.__init__" sBInit f fd) (T : TBeg K mg C) : FnOk P w K mg base CX0 1 f fd ["self", "cost", "letters", "tracks", "whole"] (spBInit C) := by
  refine F.ok scBInit (fun vs H Q E h => ?_) (fun cdv A outer s H vs Q E hr h => ⟨_, pss_cons (ps_fld (pv 0) (pv 1) rfl) (pss_cons (ps_fld (pv 0) (pv 2) rfl) (pss_cons (ps_fld (pv 0) (pv 3) rfl) (pss_one (ps_fld (pv 0) (pv 4) rfl)))), ?_⟩)
  · obtain ⟨p, dx, c, la, ta, wh, rfl, _⟩ := h
    rfl
  · obtain ⟨p, dx, c, la, ta, wh, rfl, hp, k⟩ := h
    refine ⟨_, rfl, _, rfl, p, C, dx, [], rfl, hp, T.cl, T.nC, (by show 0 < 1000; decide), ?_⟩
    refine ⟨_, rfl, _, rfl, p, C, dx, _, rfl, upd_same, T.cl, T.nL, (by show 1 < 1000; decide), ?_⟩
    refine ⟨_, rfl, _, rfl, p, C, dx, _, rfl, upd_same, T.cl, T.nT, (by show 2 < 1000; decide), ?_⟩
    refine ⟨_, rfl, _, rfl, p, C, dx, _, rfl, upd_same, T.cl, T.nW, (by show 3 < 1000; decide), ?_⟩
    refine k _ (Eq.trans upd_same (congrArg (fun q => some (HO.ins C dx q)) (bF_new c la ta wh))) fun b o e hb => ?_
    rw [upd_ne hb, upd_ne hb, upd_ne hb, upd_ne hb]
    exact e
/-! order_of -/
def spOrderOf (K : PySem.W.Frag) (C : Addr) : Sp := fun vs H Q _ => ∃ (v : V) (b : Beg), vs = [v] ∧ BegAt C H v b ∧ ∀ H' y, Same H H' → Dp K H' y (datB b) → Q y H'
theorem scOrderOf : FnScope ["beginning"] ["beginning"] (defScope sOrderOf) := ⟨rfl, rfl, rfl, by decide +kernel, rfl, by decide +kernel, by decide +kernel⟩
theorem ok_OrderOf {f : Addr} {fd : FuncData} (F : Fun K "order_of" "order_of" sOrderOf f fd) (T : TBeg K mg C) : FnOk P w K mg base CX0 1 f fd ["beginning"] (spOrderOf K C) := by
  refine F.ok scOrderOf (fun vs H Q E h => ?_) (fun cdv A outer s H vs Q E hr h => ⟨_, pss_one (ps_ret (pe_tup (pa_cons (pe_fld (pv 0) rfl) (pa_cons (pe_fld (pv 0) rfl) pa_nil)))), ?_⟩)
  · obtain ⟨v, b, rfl, _⟩ := h
    rfl
  · obtain ⟨v, b, rfl, ⟨a, dx, la, ta, rfl, h1, h2, h3⟩, k⟩ := h
    refine ⟨_, rfl, a, C, dx, _, _, rfl, h1, T.cl, T.nC, bF_cost _ _ _ _, _, rfl, a, C, dx, _, _, rfl, h1, T.cl, T.nL, bF_letters _ _ _ _, by show 2 ≤ sizeLine; rw [sizeLine_eq]; decide, fun g ng => ?_⟩
    have sm := Same.new (o := .tup [iv b.cost, V.ref la]) (Same.refl H) ng
    exact k _ _ sm (.tup (.inl (.inl upd_same)) (.cons (.int _) (.cons (dp_dat (sm _ _ h2)) .nil)))
theorem mk_beg {H : Hp} {c : Nat} {la ta x dx : Addr} {wh : Bool} {Q : Hp → Prop} (nx : H x = none) (ndx : H dx = none) (hne : dx ≠ x) (hq : ∀ H', Same H H' → H' x = some (.ins C dx (bF c la ta wh)) → Q H') :
    spBInit C (.ref x :: ([iv c, .ref la, .ref ta, .bl wh] ++ [])) (upd (upd H dx (.own x)) x (.ins C dx [])) (fun v H2 => v = .non ∧ Q H2) E0 :=
  ⟨x, dx, c, la, ta, wh, rfl, upd_same, fun H' h1 h2 => ⟨rfl, hq H' (fun b o e => h2 _ _ (by rw [upd_ne (ne_of_none e nx), upd_ne (ne_of_none e ndx)]; exact e) (ne_of_none e nx)) h1⟩⟩
theorem cat_ivs {H : Hp} {a b : Addr} {l m : List Nat} {Q : VK} (ha : H a = some (.tup (ivs l))) (hb : H b = some (.tup (ivs m))) (sz : l.length + m.length ≤ sizeLine) (q : ∀ c H', Same H H' → H' c = some (.tup (ivs (l ++ m))) → Q (.ref c) H') : rCatA K (.ref a) (.ref b) H Q := by
  refine ⟨a, b, ivs l, ivs m, rfl, rfl, .inl (.inl ha), .inl (.inl hb), by rw [List.length_map, List.length_map]; exact sz, fun e => ?_, fun _ e => ?_, fun _ _ p np => ?_⟩
  · have : l = [] := List.map_eq_nil_iff.mp e
    subst this
    exact q b H (Same.refl H) hb
  · have : m = [] := List.map_eq_nil_iff.mp e
    subst this
    exact q a H (Same.refl H) (by rw [List.append_nil]; exact ha)
  · refine q p _ (Same.new (Same.refl H) np) ?_
    rw [upd_same, ivs, ivs, ivs, List.map_append]
/-- a beginning whose tracks don't lie at p -/
def BegX (C p : Addr) (H : Hp) (v : V) (b : Beg) : Prop := ∃ a dx la ta, v = .ref a ∧ H a = some (.ins C dx (bF b.cost la ta b.whole)) ∧ H la = some (.tup (ivs b.letters)) ∧ (b.whole = false → ∃ xs, H ta = some (.lst xs) ∧ Paired (TrAt H) xs b.tracks ∧ ta ≠ p)
theorem BegX.at {p : Addr} {H : Hp} {v : V} {b : Beg} (h : BegX C p H v b) : BegAt C H v b := by
  obtain ⟨a, dx, la, ta, h0, h1, h2, h3⟩ := h
  refine ⟨a, dx, la, ta, h0, h1, h2, fun z => ?_⟩
  obtain ⟨xs, h3, h4, _⟩ := h3 z
  exact ⟨xs, h3, h4⟩
theorem BegX.put {p : Addr} {H H' : Hp} {v : V} {b : Beg} {ys : List V} (h : BegX C p H v b) (hp : H p = some (.lst ys)) (o : ∀ b u, H b = some u → b ≠ p → H' b = some u) : BegX C p H' v b := by
  obtain ⟨a, dx, la, ta, h0, h1, h2, h3⟩ := h
  refine ⟨a, dx, la, ta, h0, o _ _ h1 (ne_of h1 hp (by intro y; cases y)), o _ _ h2 (ne_of h2 hp (by intro y; cases y)), fun z => ?_⟩
  obtain ⟨xs, h3, h4, h5⟩ := h3 z
  exact ⟨xs, o _ _ h3 h5, Paired.mapP h4 fun v m q => q.keep fun b ws e => o _ _ e (ne_of e hp (by intro y; cases y)), h5⟩
theorem BegX.same {p : Addr} {H H' : Hp} {v : V} {b : Beg} (e : Same H H') (h : BegX C p H v b) : BegX C p H' v b := by
  obtain ⟨a, dx, la, ta, h0, h1, h2, h3⟩ := h
  refine ⟨a, dx, la, ta, h0, e _ _ h1, e _ _ h2, fun z => ?_⟩
  obtain ⟨xs, h3, h4, h5⟩ := h3 z
  exact ⟨xs, e _ _ h3, Paired.mapP h4 fun v m q => q.keep (TupS.of e), h5⟩
/-- tracks, some, lie at no list of beginnings -/
theorem BegAt.far {p : Addr} {H : Hp} {v : V} {b : Beg} {ys : List V} (h : BegAt C H v b) (hn : b.whole = false → b.tracks ≠ []) (hp : H p = some (.lst ys)) (hy : ∀ y ∈ ys, ∃ a dx f, y = .ref a ∧ H a = some (.ins C dx f)) : BegX C p H v b := by
  obtain ⟨a, dx, la, ta, h0, h1, h2, h3⟩ := h
  refine ⟨a, dx, la, ta, h0, h1, h2, fun z => ?_⟩
  obtain ⟨xs, h3, h4⟩ := h3 z
  refine ⟨xs, h3, h4, fun e => ?_⟩
  subst e
  rw [h3] at hp
  cases hp
  have ne := hn z
  generalize b.tracks = ts at h4 ne
  cases h4 with
  | nil => exact ne rfl
  | cons r _ =>
    obtain ⟨a1, b1, r0, r1, _⟩ := r
    obtain ⟨a2, dx2, f2, r2, r3⟩ := hy _ (.head _)
    rw [r0] at r2
    cases r2
    rw [r1] at r3
    cases r3
theorem least_int {l : List Nat} {m : Int} (h1 : m ∈ l.map fun (n : Nat) => (n : Int)) (h2 : ∀ y ∈ l.map fun (n : Nat) => (n : Int), m ≤ y) : m = (((leastOf l).getD 0 : Nat) : Int) := by
  obtain ⟨n, hn, rfl⟩ := List.mem_map.mp h1
  cases e : leastOf l with
  | none => rw [leastOf_none.mp e] at hn; cases hn
  | some c =>
    obtain ⟨a, b⟩ := leastOf_some e
    have := b n hn
    have := h2 _ (List.mem_map_of_mem a)
    show (n : Int) = (c : Int)
    omega
/-! lengthened -/
def spLengthened (C CW : Addr) : Sp := fun vs H Q _ => ∃ (wa : Addr) (v : V) (R : List Row) (t : List Nat) (b : Beg) (d : Nat), vs = [.ref wa, v, iv d] ∧ WaysAt CW H wa R t ∧ BegAt C H v b ∧ (b.whole = false → ∀ T ∈ b.tracks, Fair (comsOf R) t T) ∧ Short R ∧ R.length ≤ 32 ∧ t.length ≤ 24 ∧ b.tracks.length ≤ 300000 ∧ b.letters.length ≤ 1000 ∧
  ∀ (H' : Hp) (p : Addr) (xs : List V), Same H H' → H p = none → H' p = some (.lst xs) → Paired (BegAt C H') xs (lengthen R t d b) → Q (.ref p) H'
theorem scLengthened : FnScope ["ways", "beginning", "dearest", "tracks", "parts", "cost", "letter", "further", "least", "track"] ["ways", "beginning", "dearest"] (defScope sLengthened) := ⟨rfl, rfl, rfl, by decide +kernel, rfl, by decide +kernel, by decide +kernel⟩
theorem ok_Lengthened {f : Addr} {fd : FuncData} (F : Fun K "lengthened" "lengthened" sLengthened f fd) (T : TBeg K mg C) (TW : TWays K mg CW) (cS : Met P w K mg base 2 CW "settled" (spSettled CW)) (cW : Met P w K mg base 1 CW "whole_cost" (spWhole CW)) (cO : Met P w K mg base 1 CW "onward" (spOnward CW))
    (mB : Mak P w K mg base 1 "Beginning" C (spBInit C)) : FnOk P w K mg base CX0 3 f fd ["ways", "beginning", "dearest"] (spLengthened C CW) := by
  refine F.ok scLengthened (fun vs H Q E h => ?_) (fun cdv A outer s H vs Q E hr h => ⟨_, pss_cons (ps_if (pt_val (pe_fld (pv 1) rfl)) (pss_one (ps_ret (pe_lst (pa_cons (pv 1) pa_nil)))) pss_nil)
      (pss_cons (ps_set (i := 3) scLengthened.nd rfl (Or.inl rfl) (pe_mt cS hr (by decide) (pv 0) (pa_cons (pe_fld (pv 1) rfl) (pa_cons (pv 2) pa_nil))))
      (pss_cons (ps_set (i := 4) scLengthened.nd rfl (Or.inl rfl) (pe_lst pa_nil))
      (pss_cons (ps_set (i := 5) scLengthened.nd rfl (Or.inl rfl) (pe_mt cW hr (by decide) (pv 0) (pa_cons (pv 3) pa_nil)))
      (pss_cons (ps_if (pt_cmp (pc_notN (pv 5))) (pss_one (ps_expr (pe_bm PySem.F.plainAttrs_list PySem.F.slot_list_append PySem.F.type_list_append mt_append (pv 4) (pa_cons (pe_mk mB hr (by decide) rfl (pa_cons (pv 5) (pa_cons (pe_fld (pv 1) rfl) (pa_cons (pe_lst pa_nil) (pa_cons pe_bl pa_nil))))) pa_nil)))) pss_nil)
      (pss_cons (ps_for PassesOwn.never rfl (pi_items (pe_frz (pe_mt cO hr (by decide) (pv 0) (pa_cons (pv 3) (pa_cons (pv 2) pa_nil))))) (pg_tup rfl (pgs_cons (pg_name (i := 6) scLengthened.nd rfl (Or.inl rfl)) (pgs_cons (pg_name (i := 7) scLengthened.nd rfl (Or.inl rfl)) pgs_nil)))
        (pss_cons (ps_set (i := 8) scLengthened.nd rfl (Or.inl rfl) (pe_callB (cr_min rfl) (by rfl) TW.min (by decide +kernel) (pa_cons
          (pe_lc (own := [("track", 9)]) (g := gName 9) (tt := tYes) (te := tOp (rIxT K) (tVar 9) (tC (.int 0))) rfl scLengthened.nd (pi_list (pv 7)) (blkOk_by (N := ["ways", "beginning", "dearest", "tracks", "parts", "cost", "letter", "further", "least", "track"]) (sc := defScope sLengthened) (by decide +kernel))
            (fun _ _ _ _ _ => pg_name (i := 9) scLengthened.nd rfl (Or.inl rfl)) (fun _ _ _ _ _ => pts_nil) (fun _ _ _ _ _ => pe_ix ix_tup (pv 9) pe_int (fun _ _ => rfl))) pa_nil)))
        (pss_one (ps_expr (pe_bm PySem.F.plainAttrs_list PySem.F.slot_list_append PySem.F.type_list_append mt_append (pv 4) (pa_cons (pe_mk mB hr (by decide) rfl (pa_cons (pv 8) (pa_cons (pe_op op_catA (pe_fld (pv 1) rfl) (pe_tup (pa_cons (pv 6) pa_nil))) (pa_cons (pv 7) (pa_cons pe_bl pa_nil))))) pa_nil))))))
      (pss_one (ps_ret (pv 4)))))))), ?_⟩)
  · obtain ⟨wa, v, R, t, b, d, rfl, _⟩ := h
    rfl
  · obtain ⟨wa, v, R, t, b, d, rfl, hW, hB, hf, hS, hR, ht, hn, hlet, k⟩ := h
    obtain ⟨a, dx, la, ta, rfl, h1, h2, h34⟩ := hB
    obtain ⟨dxw, lm, ld, ms, ds, w1, _⟩ := id hW
    have sz : (1000000 : Nat) < sizeLine := by rw [sizeLine_eq]; decide
    refine ⟨_, rfl, a, C, dx, _, _, rfl, h1, T.cl, T.nW, bF_whole _ _ _ _, _, rfl, ?_⟩
    cases eb : b.whole with
    | true =>
      refine iteT ⟨_, rfl, by show 1 ≤ sizeLine; omega, fun p np => k _ p [.ref a] (Same.new (Same.refl H) np) np upd_same ?_⟩
      unfold lengthen
      rw [if_pos eb]
      exact .cons (BegAt.same (Same.new (Same.refl H) np) ⟨a, dx, la, ta, rfl, h1, h2, h34⟩) .nil
    | false =>
      refine iteF ?_
      obtain ⟨xs, h3, h4⟩ := h34 eb
      have hf := hf eb
      have hCl := coms_cld hS
      have St := settle_is (R := R) (t := t) (d := d) hCl.nil hf
      have lK : (settle R t d b.tracks).length ≤ 6500 := Nat.le_trans St.len (coms_b hR ht)
      have fK : ∀ T ∈ settle R t d b.tracks, T.place ≤ t.length := fun T m => (St.fair T m).2.1
      have eLen : lengthen R t d b = (match wholeCost t (settle R t d b.tracks) with | some c => [⟨c, b.letters, [], true⟩] | none => []) ++ (onward R t d (settle R t d b.tracks)).map fun p => ⟨(leastOf (p.2.map (·.cost))).getD 0, b.letters ++ [p.1], p.2, false⟩ := by
        unfold lengthen
        rw [if_neg (by rw [eb]; exact Bool.false_ne_true)]
        all_goals (cases wholeCost t (settle R t d b.tracks) <;> rfl)
      have FO := FOk.onward (R := R) (t := t) (d := d) (K := settle R t d b.tracks)
      have sF : sizeF (onward R t d (settle R t d b.tracks)) ≤ 6500 * 33 := Nat.le_trans sizeF_onward (Nat.mul_le_mul lK (by omega))
      have lF := keys_le FO
      refine ⟨_, rfl, wa, dxw, _, rfl, w1, wF_none (by decide +kernel) (by decide +kernel) (by decide +kernel) _ _ _, _, rfl, a, C, dx, _, _, rfl, h1, T.cl, T.nT, bF_tracks _ _ _ _, _, rfl, wa, ta, xs, R, t, b.tracks, d, rfl, hW, h3, h4, hf, hS, hR, ht, hn, fun H1 tp ys s1 ntp htp hys => ?_⟩
      have lys : ys.length = (settle R t d b.tracks).length := Paired.length hys
      refine ⟨Nat.zero_le _, fun pp npp => ?_⟩
      have ntp0 := ntp
      have npp0 : H pp = none := s1.free npp
      have s2 : Same H (upd H1 pp (.lst [])) := s1.trans (Same.new (Same.refl H1) npp)
      have tpp : tp ≠ pp := ne_of_none htp npp
      have htp2 : upd H1 pp (.lst []) tp = some (.lst ys) := (upd_ne tpp).trans htp
      have hys2 : Paired (TrAt (upd H1 pp (.lst []))) ys (settle R t d b.tracks) := Paired.mapP hys fun v m q => q.keep fun b ws e => by rw [upd_ne (ne_of_none e npp)]; exact e
      refine ⟨_, rfl, wa, dxw, _, rfl, s2 _ _ w1, wF_none (by decide +kernel) (by decide +kernel) (by decide +kernel) _ _ _, _, rfl, wa, tp, ys, R, t, _, rfl, hW.same s2, htp2, hys2, by omega, fun H3 s3 => ?_⟩
      have sm3 : Same H H3 := s2.trans s3
      have htp3 := s3 _ _ htp2
      have hpp3 : H3 pp = some (.lst []) := s3 _ _ upd_same
      have hys3 : Paired (TrAt H3) ys (settle R t d b.tracks) := Paired.mapP hys2 fun v m q => q.keep (TupS.of s3)
      have rest : ∀ (v5 : V) (H4 : Hp) (pxs : List V) (Bs : List Beg), Same H H4 → H4 tp = some (.lst ys) → Paired (TrAt H4) ys (settle R t d b.tracks) → H4 pp = some (.lst pxs) → Paired (BegX C pp H4) pxs Bs → Bs.length ≤ 1 → (lengthen R t d b = Bs ++ (onward R t d (settle R t d b.tracks)).map fun p => ⟨(leastOf (p.2.map (·.cost))).getD 0, b.letters ++ [p.1], p.2, false⟩) →
          tSeq (tFor (iItems (tFrz (tMeth CW "onward" (spOnward CW) [] E0 (tVar 0) (tCons (tVar 3) (tCons (tVar 2) tNil))))) (gTup K 2 (gCons (gName 6) (gCons (gName 7) gNil)))
            (tSeq (tAsg (tCB (rMin K) (tCons (tLc (iList K (tVar 7)) (gName 9) tYes (tOp (rIxT K) (tVar 9) (tC (.int 0))) [9]) tNil)) (gName 8))
              (tDrop (tBM K "list" rAppend (tVar 4) (tCons (tMake C (spBInit C) [] E0 (tCons (tVar 8) (tCons (tOp (rCatA K) (tFld K (tVar 1) "letters") (tTup (tCons (tVar 6) tNil))) (tCons (tVar 7) (tCons (tC (.bl false)) tNil))))) tNil))))) (tRet (tVar 4))
            { nx := fun x H' => Q V.non H', rt := Q } [some (.ref wa), some (.ref a), some (iv d), some (.ref tp), some (.ref pp), some v5, none, none, none, none] H4 := by
        intro v5 H4 pxs Bs sm4 htp4 hys4 hpp4 hbs hB1 eL
        refine ⟨_, rfl, wa, dxw, _, rfl, sm4 _ _ w1, wF_none (by decide +kernel) (by decide +kernel) (by decide +kernel) _ _ _, _, rfl, _, rfl, wa, tp, ys, R, t, settle R t d b.tracks, d, rfl, hW.same sm4, htp4, hys4, fK, hR, by omega, fun H5 p s5 np ⟨es, hd, fe⟩ => ?_⟩
        generalize onward R t d (settle R t d b.tracks) = G at fe eL FO sF lF
        obtain ⟨fe1, fe2, fe3⟩ := fe
        have les : es.length = G.length := Paired.length fe3
        have ppp : pp ≠ p := ne_of_none hpp4 np
        have hpp5 := s5 _ _ hpp4
        have np0 : H p = none := sm4.free np
        refine ⟨p, _, rfl, hd, trivial, fun od => ⟨p, od, es.map fkv, rfl, upd_same, for_it walk_items (fun i σ H' => ∃ (v6 v7 v8 : Option V) (qxs : List V), σ = [some (.ref wa), some (.ref a), some (iv d), some (.ref tp), some (.ref pp), some v5, v6, v7, v8, none] ∧
          (∀ b o, H5 b = some o → b ≠ p → b ≠ pp → H' b = some o) ∧ H' p = some (.frz od (.dK (es.map fkv))) ∧ H' pp = some (.lst qxs) ∧
          Paired (BegX C pp H') qxs (Bs ++ (G.take i).map fun q => ⟨(leastOf (q.2.map (·.cost))).getD 0, b.letters ++ [q.1], q.2, false⟩)) ?_ (fun i σ H' _ ⟨_, _, _, _, _, _, q, _⟩ => q) ?_ ?_⟩⟩
        · refine ⟨none, none, none, pxs, rfl, fun b o e h1 _ => by rw [upd_ne h1]; exact e, upd_same, (upd_ne ppp).trans hpp5, ?_⟩
          rw [List.take_zero, List.map_nil, List.append_nil]
          refine Paired.mapP hbs fun v bb h => ?_
          obtain ⟨a', dx', la', ta', h0, h1, h2, h3⟩ := h.same s5
          refine ⟨a', dx', la', ta', h0, ?_, ?_, fun z => ?_⟩
          · rw [upd_ne (ne_of h1 hd (by intro y; cases y))]; exact h1
          · rw [upd_ne (ne_of h2 hd (by intro y; cases y))]; exact h2
          · obtain ⟨xs', h3, h4, h5⟩ := h3 z
            refine ⟨xs', ?_, Paired.mapP h4 fun v m q => q.keep fun b ws e => ?_, h5⟩
            · rw [upd_ne (ne_of h3 hd (by intro y; cases y))]; exact h3
            · rw [upd_ne (ne_of e hd (by intro y; cases y))]; exact e
        · rintro i x σ H6 H7 hi ⟨v6, v7, v8, qxs, rfl, o6, hp6, hpp6, hq6⟩ ⟨T0, x1, x2, rfl, nT, rfl, e1, e2⟩
          rw [List.length_map] at hi
          have ee : es[i]? = some es[i] := List.getElem?_eq_getElem hi
          generalize es[i] = e at ee
          have em : (es.map fkv)[i]? = some (fkv e) := by rw [List.getElem?_map, ee]; rfl
          dsimp only at e1 e2
          rw [em] at e1 e2
          have y1 : V.int (e.1 : Int) = x1 := Option.some.inj e1
          have y2 : V.ref e.2.1 = x2 := Option.some.inj e2
          subst y1 y2
          obtain ⟨q, eG, k1, k2⟩ := paired_get fe3 ee
          obtain ⟨al, an⟩ := fe1 e (List.mem_of_getElem? ee)
          have eT : (G.take (i + 1)).map (fun q : Nat × List Trk => (⟨(leastOf (q.2.map (·.cost))).getD 0, b.letters ++ [q.1], q.2, false⟩ : Beg)) = (G.take i).map (fun q => ⟨(leastOf (q.2.map (·.cost))).getD 0, b.letters ++ [q.1], q.2, false⟩) ++ [⟨(leastOf (q.2.map (·.cost))).getD 0, b.letters ++ [q.1], q.2, false⟩] := by
            rw [take_more eG, List.map_append]; rfl
          have lq : q.2.length ≤ 6500 * 33 := by
            have h := getF_le G q.1
            rw [getF_mem FO (List.mem_of_getElem? eG)] at h
            omega
          have neq : q.2 ≠ [] := FO.ne q (List.mem_of_getElem? eG)
          have lqx : qxs.length ≤ 300000 := by
            rw [Paired.length hq6, List.length_append, List.length_map, List.length_take]
            omega
          have ep : e.2.1 ≠ p := ne_of al hd (by intro y; cases y)
          have epp : e.2.1 ≠ pp := fun z => by rw [z, hpp4] at an; cases an
          have al6 := o6 _ _ al ep epp
          have n7 : ∀ {c : Addr} {u : HO}, H6 c = some u → upd H6 T0 (.tup [V.int (e.1 : Int), V.ref e.2.1]) c = some u := fun {c u} z => by rw [upd_ne (ne_of_none z nT)]; exact z
          have tS57 : TupS H5 (upd H6 T0 (.tup [V.int (e.1 : Int), V.ref e.2.1])) := fun c ws z => n7 (o6 _ _ z (ne_of z hd (by intro y; cases y)) (ne_of z hpp5 (by intro y; cases y)))
          have hH : ∀ c u, H c = some u → upd H6 T0 (.tup [V.int (e.1 : Int), V.ref e.2.1]) c = some u := fun c u z => n7 (o6 _ _ (s5 _ _ (sm4 _ _ z)) (ne_of_none z np0) (ne_of_none z npp0))
          have al7 := n7 al6
          have hp7 := n7 hp6
          have hpp7 := n7 hpp6
          have hq7 : Paired (BegX C pp (upd H6 T0 (.tup [V.int (e.1 : Int), V.ref e.2.1]))) qxs _ := Paired.mapP hq6 fun v m h => h.same (Same.new (Same.refl H6) nT)
          have k27 : Paired (TrAt (upd H6 T0 (.tup [V.int (e.1 : Int), V.ref e.2.1]))) e.2.2 q.2 := Paired.mapP k2 fun v m h => h.keep tS57
          have o7 : ∀ c u, H5 c = some u → c ≠ p → c ≠ pp → upd H6 T0 (.tup [V.int (e.1 : Int), V.ref e.2.1]) c = some u := fun c u z h1 h2 => n7 (o6 _ _ z h1 h2)
          have hT7 : upd H6 T0 (.tup [V.int (e.1 : Int), V.ref e.2.1]) T0 = some (.tup [V.int (e.1 : Int), V.ref e.2.1]) := upd_same
          have lee : e.2.2.length = q.2.length := Paired.length k2
          refine ⟨T0, [V.int (e.1 : Int), V.ref e.2.1], rfl, .inl (.inl hT7), rfl, _, _, rfl, _, _, rfl, rfl, ?_⟩
          generalize upd H6 T0 (.tup [V.int (e.1 : Int), V.ref e.2.1]) = H7 at *
          refine ⟨_, rfl, e.2.1, rfl, ⟨e.2.2, .inl (.inl al7)⟩, fun D nD => lc_it walk_list (fun j H' => Same H7 H' ∧ H' D = some (.lst (ivs ((q.2.take j).map (·.cost))))) ⟨Same.new (Same.refl H7) nD, upd_same⟩ (fun j H' _ ⟨sm, _⟩ => .inl (.inl (sm _ _ al7))) ?_ ?_⟩
          · rintro j x H8 H9 hj ⟨sm, hD⟩ ⟨rfl, ex⟩
            obtain ⟨T1, eT1, ta', tb', rfl, z1, z2⟩ := paired_get k27 ex
            refine ⟨rfl, ?_⟩
            dsimp only [tYes]
            refine iteT ⟨_, rfl, _, _, 0, _, rfl, rfl, .inl (.inl (sm _ _ z1)), atI_nat rfl, _, hD, ?_, fun c u z => ?_, ?_⟩
            · rw [List.length_map, List.length_map, List.length_take]; omega
            · rw [upd_ne (ne_of_none z nD)]; exact sm _ _ z
            · rw [upd_same, take_more eT1, List.map_append, ivs, ivs, List.map_append]; rfl
          · rintro H8 ⟨sm8, hD⟩
            rw [lee, List.take_length] at hD
            refine ⟨D, (q.2.map (·.cost)).map fun (n : Nat) => (n : Int), rfl, .inl (.inl ?_), ?_, fun m m1 m2 => ?_⟩
            · have ev : ∀ l : List Nat, ivs l = (l.map fun (n : Nat) => (n : Int)).map V.int := fun l => by rw [List.map_map]; rfl
              rw [hD, ev]
            · rw [List.length_map, List.length_map]; exact List.length_pos_iff.mpr neq
            · have em2 := least_int m1 m2
              subst em2
              have hpp8 := sm8 _ _ hpp7
              refine ⟨_, rfl, .inl ⟨rfl, _, .inl (.inl hpp8)⟩, ?_⟩
              refine ⟨_, rfl, _, rfl, a, C, dx, _, _, rfl, sm8 _ _ (hH _ _ h1), T.cl, T.nL, bF_letters _ _ _ _, _, rfl, by show 1 ≤ sizeLine; omega, fun g ng => ?_⟩
              have s9 : Same H8 (upd H8 g (.tup [V.int (e.1 : Int)])) := Same.new (Same.refl H8) ng
              refine cat_ivs (l := b.letters) (m := [e.1]) (s9 _ _ (sm8 _ _ (hH _ _ h2))) upd_same (by rw [List.length_singleton]; omega) fun c H10 s10 hc10 => ?_
              refine ⟨_, rfl, fun x dx' nx ndx hne => ?_⟩
              refine mk_beg (c := (leastOf (q.2.map (·.cost))).getD 0) (la := c) (ta := e.2.1) (wh := false) nx ndx hne fun H11 s11 hx => ?_
              have s811 : Same H8 H11 := s9.trans (s10.trans s11)
              have hpp11 := s811 _ _ hpp8
              have s711 : Same H7 H11 := sm8.trans s811
              refine ⟨pp, qxs, _, rfl, rfl, hpp11, by omega, ?_⟩
              have o12 : ∀ c u, H11 c = some u → c ≠ pp → upd H11 pp (.lst (qxs ++ [V.ref x])) c = some u := fun c u z hb => by rw [upd_ne hb]; exact z
              have tS12 : TupS H11 (upd H11 pp (.lst (qxs ++ [V.ref x]))) := TupS.upd hpp11 fun _ y => by cases y
              refine ⟨_, _, _, qxs ++ [.ref x], rfl, fun c u z h1 h2 => o12 _ _ (s711 _ _ (o7 _ _ z h1 h2)) h2, o12 _ _ (s711 _ _ hp7) ppp.symm, upd_same, ?_⟩
              rw [eT, ← List.append_assoc]
              refine paired_snoc (Paired.mapP hq7 fun v m h => (h.same s711).put hpp11 o12) ⟨x, dx', c, e.2.1, rfl, o12 _ _ hx (ne_of hx hpp11 (by intro y; cases y)), ?_, fun _ => ⟨e.2.2, o12 _ _ (s711 _ _ al7) epp, Paired.mapP k27 fun v m h => (h.keep (TupS.of s711)).keep tS12, epp⟩⟩
              have := tS12 _ _ (s11 _ _ hc10)
              rw [← k1]
              exact this
        · rintro σ H6 ⟨v6, v7, v8, qxs, rfl, o6, hp6, hpp6, hq6⟩
          rw [List.length_map, les, List.take_length, ← eL] at hq6
          exact ⟨_, rfl, k H6 pp qxs (fun c u z => o6 _ _ (s5 _ _ (sm4 _ _ z)) (ne_of_none z np0) (ne_of_none z npp0)) npp0 hpp6 (Paired.mapP hq6 fun v m h => h.at)⟩
      cases ew : wholeCost t (settle R t d b.tracks) with
      | none =>
        refine ⟨_, rfl, _, rfl, ite2 (fun c1 => absurd c1 (by decide)) fun c1 => ?_⟩
        refine rest _ H3 [] [] sm3 htp3 hys3 hpp3 .nil (Nat.zero_le _) ?_
        rw [eLen, ew]
      | some c =>
        refine ⟨_, rfl, _, rfl, ite2 (fun c1 => ?_) fun c1 => absurd (by rfl) c1⟩
        refine ⟨_, rfl, .inl ⟨rfl, _, .inl (.inl hpp3)⟩, ?_⟩
        refine ⟨_, rfl, _, rfl, a, C, dx, _, _, rfl, sm3 _ _ h1, T.cl, T.nL, bF_letters _ _ _ _, Nat.zero_le _, fun ep nep x dx' nx ndx hne => ?_⟩
        refine mk_beg (c := c) (la := la) (ta := ep) (wh := true) nx ndx hne fun H5 s5 hx => ?_
        have s35 : Same H3 H5 := (Same.new (o := .lst []) (Same.refl H3) nep).trans s5
        have hpp5 := s35 _ _ hpp3
        refine ⟨pp, [], _, rfl, rfl, hpp5, by show 0 < sizeLine; omega, ?_⟩
        have ep5 : H5 ep = some (.lst []) := s5 _ _ upd_same
        have epp : ep ≠ pp := fun z => by rw [z, hpp3] at nep; cases nep
        have o6 : ∀ b u, H5 b = some u → b ≠ pp → upd H5 pp (.lst ([] ++ [V.ref x])) b = some u := fun b u e hb => by rw [upd_ne hb]; exact e
        have tS6 : TupS H5 (upd H5 pp (.lst ([] ++ [V.ref x]))) := TupS.upd hpp5 fun _ y => by cases y
        refine rest _ _ ([] ++ [.ref x]) [⟨c, b.letters, [], true⟩] (fun b o e => o6 _ _ (s35 _ _ (sm3 _ _ e)) (ne_of_none e npp0)) (o6 _ _ (s35 _ _ htp3) tpp) (Paired.mapP hys3 fun v m q => (q.keep (TupS.of s35)).keep tS6) upd_same
          (.cons ⟨x, dx', la, ep, rfl, o6 _ _ hx (ne_of hx hpp5 (by intro y; cases y)), tS6 _ _ (s35 _ _ (sm3 _ _ h2)), fun _ => ⟨[], o6 _ _ ep5 epp, .nil, epp⟩⟩ .nil) (Nat.le_refl _) ?_
        rw [eLen, ew]
end
end Slip
end
/-! ## PLea -/
section
set_option Elab.async false
set_option linter.all false
set_option maxRecDepth 100000
set_option maxHeartbeats 2000000
namespace Slip
open PySem PySem.Spec PyProof.Rows L2
open PySem.W (alike dataLe AllAlike Sortable EachIs)
section
variable {P : Program} {w : World} {K : PySem.W.Frag} {mg : Str → Option Value} {base : Heap} {C CW : Addr}
/-- a table as it may stand: what is asked of it here -/
structure TabOk (R : List Row) : Prop where
  dist : Dist R
  short : Short R
  few : R.length ≤ 32
/-! Ways(table, typed) -/
theorem mk_ways {H : Hp} {d a x dx : Addr} {R : List Row} {t : List Nat} {Q : Hp → Prop} (nx : H x = none) (ndx : H dx = none) (hne : dx ≠ x) (hT : TblAt P w H d R) (ok : TabOk R) (ha : H a = some (.tup (ivs t))) (ht : t.length ≤ 24) (hq : ∀ H', Same H H' → WaysAt CW H' x R t → Q H') :
    spWInit P w CW (.ref x :: ([.ref d, .ref a] ++ [])) (upd (upd H dx (.own x)) x (.ins CW dx [])) (fun v H2 => v = .non ∧ Q H2) E0 := by
  have k : ∀ {b : Addr} {o : HO}, H b = some o → upd (upd H dx (.own x)) x (.ins CW dx []) b = some o := fun {b o} e => by rw [upd_ne (ne_of_none e nx), upd_ne (ne_of_none e ndx)]; exact e
  obtain ⟨es, h1, h2⟩ := hT
  exact ⟨x, dx, d, a, R, t, rfl, upd_same, ⟨es, k h1, Paired.mapP h2 fun x r ⟨a1, a2, a3⟩ => ⟨a1, a2, a3.keep fun b xs e => k e⟩⟩, ok.dist, ok.few, k ha, by omega, fun H' h3 h4 => ⟨rfl, hq H' (fun b o e => h4 _ _ (k e) (ne_of_none e nx)) h3⟩⟩
/-! least_cost -/
def spLeast (P : Program) (w : World) (K : PySem.W.Frag) : Sp := fun vs H Q _ => ∃ (d a m : Addr) (R : List Row) (t ms : List Nat), vs = [.ref d, .ref a, .ref m] ∧ TblAt P w H d R ∧ TabOk R ∧ H a = some (.tup (ivs t)) ∧ t.length ≤ 24 ∧ Sq K H m (ivs ms) ∧
  ∀ H' : Hp, Same H H' → Q (match leastCost R t ms with | some c => iv c | none => .non) H'
theorem scLeast : FnScope ["table", "typed", "meant", "ways", "tracks", "letter", "further"] ["table", "typed", "meant"] (defScope sLeastCost) := ⟨rfl, rfl, rfl, by decide +kernel, rfl, by decide +kernel, by decide +kernel⟩
theorem ok_Least {f : Addr} {fd : FuncData} (F : Fun K "least_cost" "least_cost" sLeastCost f fd) (TW : TWays K mg CW) (mW : Mak P w K mg base 2 "Ways" CW (spWInit P w CW)) (cFi : Met P w K mg base 1 CW "first" spFirst) (cS : Met P w K mg base 2 CW "settled" (spSettled CW)) (cW : Met P w K mg base 1 CW "whole_cost" (spWhole CW))
    (cO : Met P w K mg base 1 CW "onward" (spOnward CW)) : FnOk P w K mg base CX0 4 f fd ["table", "typed", "meant"] (spLeast P w K) := by
  refine F.ok scLeast (fun vs H Q E h => ?_) (fun cdv A outer s H vs Q E hr h => ⟨_, pss_cons (ps_set (i := 3) scLeast.nd rfl (Or.inl rfl) (pe_mk mW hr (by decide) rfl (pa_cons (pv 0) (pa_cons (pv 1) pa_nil))))
      (pss_cons (ps_set (i := 4) scLeast.nd rfl (Or.inl rfl) (pe_mt cS hr (by decide) (pv 3) (pa_cons (pe_mt0 cFi hr (by decide) (pv 3)) (pa_cons (pe_k rfl TW.DEAREST) pa_nil))))
      (pss_cons (ps_for PassesOwn.never rfl (pi_seq (pv 2)) (pg_name (i := 5) scLeast.nd rfl (Or.inl rfl))
        (pss_cons (ps_set (i := 6) scLeast.nd rfl (Or.inl rfl) (pe_dget2 (Nat.lt_of_le_of_lt (Nat.add_le_add_left (by decide : 1 ≤ 64) _) hr.units) (pe_mt cO hr (by decide) (pv 3) (pa_cons (pv 4) (pa_cons (pe_k rfl TW.DEAREST) pa_nil))) (pv 5) (pe_lst pa_nil) ⟨rfl, rfl, rfl, rfl⟩))
        (pss_one (ps_set (i := 4) scLeast.nd rfl (Or.inl rfl) (pe_mt cS hr (by decide) (pv 3) (pa_cons (pv 6) (pa_cons (pe_k rfl TW.DEAREST) pa_nil)))))))
      (pss_one (ps_ret (pe_mt cW hr (by decide) (pv 3) (pa_cons (pv 4) pa_nil)))))), ?_⟩)
  · obtain ⟨d, a, m, R, t, ms, rfl, _⟩ := h
    rfl
  · obtain ⟨d, a, m, R, t, ms, rfl, hT, ok, ha, ht, hm, k⟩ := h
    have sz : (1000000 : Nat) < sizeLine := by rw [sizeLine_eq]; decide
    have hCl := coms_cld ok.short
    refine ⟨_, rfl, _, rfl, fun x dx nx ndx hne => ?_⟩
    refine mk_ways nx ndx hne hT ok ha ht fun H1 s1 hW => ?_
    obtain ⟨dxw, lm, ld, mls, dls, w1, _⟩ := id hW
    have noA : ∀ {m : Str}, (m == ("length" : Str)) = false → (m == ("moves" : Str)) = false → (m == ("drops" : Str)) = false → (wF t.length lm ld).lookup m = none := fun a b c => wF_none a b c _ _ _
    refine ⟨_, rfl, x, dxw, _, rfl, w1, noA (by decide +kernel) (by decide +kernel) (by decide +kernel), _, rfl, x, dxw, _, rfl, w1, noA (by decide +kernel) (by decide +kernel) (by decide +kernel), x, rfl, fun H2 fl fxs s2 nfl hfl hft => ?_⟩
    refine ⟨x, fl, fxs, R, t, firstT, DEAR3, rfl, hW.same s2, hfl, hft, first_fair hCl, ok.short, ok.few, ht, by show 1 ≤ 300000; decide, fun H3 tl ys s3 ntl htl hys => ?_⟩
    have s13 : Same H1 H3 := s2.trans s3
    have s03 : Same H H3 := s1.trans s13
    have St0 := settle_is (R := R) (t := t) (d := DEAR3) hCl.nil (first_fair hCl)
    refine for_seqS (H0 := H) (a := m) (xs := ivs ms) (fun i σ H' => ∃ (v5 v6 : Option V) (tl : Addr) (ys : List V) (Kc : List Trk), σ = [some (.ref d), some (.ref a), some (.ref m), some (.ref x), some (.ref tl), v5, v6] ∧ Same H1 H' ∧ H' tl = some (.lst ys) ∧ Paired (TrAt H') ys Kc ∧
      (∀ T ∈ Kc, Fair (comsOf R) t T) ∧ Kc.length ≤ 6500 ∧ costGo R t (ms.drop i) Kc = leastCost R t ms) rfl hm ?_ (fun i σ H' ⟨_, _, _, _, _, _, sm, _⟩ b o e => sm _ _ (s1 _ _ e)) ?_ ?_
    · exact ⟨none, none, tl, ys, _, rfl, s13, htl, hys, St0.fair, Nat.le_trans St0.len (coms_b ok.few ht), rfl⟩
    · rintro i x' σ H4 ex ⟨v5, v6, tl, ys, Kc, rfl, sm, htl, hys, hfa, hle, hgo⟩
      obtain ⟨y, ey, rfl⟩ := iv_at ex
      have edr : ms.drop i = y :: ms.drop (i + 1) := by
        have hi := (List.getElem?_eq_some_iff.mp ey).1
        rw [List.drop_eq_getElem_cons hi, (List.getElem?_eq_some_iff.mp ey).2]
      rw [edr] at hgo
      have hgo' : costGo R t (ms.drop (i + 1)) (settle R t DEAR3 (getF (onward R t DEAR3 Kc) y)) = leastCost R t ms := hgo
      have FO := FOk.onward (R := R) (t := t) (d := DEAR3) (K := Kc)
      have sF : sizeF (onward R t DEAR3 Kc) ≤ 6500 * 33 := Nat.le_trans sizeF_onward (Nat.mul_le_mul hle (by have := ok.few; omega))
      have lG := getF_le (onward R t DEAR3 Kc) y
      have fG : ∀ T ∈ getF (onward R t DEAR3 Kc) y, Fair (comsOf R) t T := fun T' m' => by
        obtain ⟨T, m, g⟩ := onward_mem.mp m'
        exact g.fair hCl (hfa T m)
      have St := settle_is (R := R) (t := t) (d := DEAR3) hCl.nil fG
      refine ⟨_, rfl, x, dxw, _, rfl, sm _ _ w1, noA (by decide +kernel) (by decide +kernel) (by decide +kernel), _, rfl, x, tl, ys, R, t, Kc, DEAR3, rfl, hW.same sm, htl, hys, fun T m => (hfa T m).2.1, ok.few, by omega, fun H5 p s5 np ⟨es, hd, fe⟩ => ?_⟩
      obtain ⟨fe1, fe2, fe3⟩ := fe
      obtain ⟨v1, v2⟩ := fes_val (x := y) fe3
      refine ⟨p, rfl, .inl ⟨_, .inl hd⟩, _, rfl, Nat.zero_le _, fun e ne => ?_⟩
      have hd6 : upd H5 e (.lst []) p = some (.dK (es.map fkv)) := (upd_ne (ne_of_none hd ne)).trans hd
      have s6 : Same H5 (upd H5 e (.lst [])) := Same.new (Same.refl H5) ne
      refine ⟨valV (es.map fkv) (.inl (y : Int)), .inl ⟨_, _, .inl hd6, rfl, rfl⟩, ?_⟩
      have gv : ∃ g zs, (valV (es.map fkv) (.inl (y : Int))).getD (.ref e) = .ref g ∧ upd H5 e (.lst []) g = some (.lst zs) ∧ Paired (TrAt (upd H5 e (.lst []))) zs (getF (onward R t DEAR3 Kc) y) := by
        cases hh : hasF (onward R t DEAR3 Kc) y with
        | false =>
          rw [v1 hh]
          refine ⟨e, [], rfl, upd_same, ?_⟩
          have : getF (onward R t DEAR3 Kc) y = [] := by
            cases z : getF (onward R t DEAR3 Kc) y with
            | nil => rfl
            | cons T r =>
              obtain ⟨q, hq, e1, _⟩ := getF_there (F := onward R t DEAR3 Kc) (x := y) (T := T) (by rw [z]; exact .head _)
              have : hasF (onward R t DEAR3 Kc) y = true := hasF_keys.mpr (by rw [← e1]; exact List.mem_map_of_mem hq)
              rw [hh] at this
              cases this
          rw [this]; exact .nil
        | true =>
          obtain ⟨en, mn, e1, e2⟩ := v2 hh
          rw [e2]
          obtain ⟨j, hj, ej⟩ := List.mem_iff_getElem.mp mn
          obtain ⟨q, eq, k1, k2⟩ := paired_get fe3 (show es[j]? = some en by rw [List.getElem?_eq_getElem hj, ej])
          refine ⟨en.2.1, en.2.2, rfl, s6 _ _ (fe1 en mn).1, ?_⟩
          have : getF (onward R t DEAR3 Kc) y = q.2 := by rw [← e1, k1]; exact getF_mem FO (List.mem_of_getElem? eq)
          rw [this]
          exact Paired.mapP k2 fun v m h => h.keep (TupS.of s6)
      obtain ⟨g, zs, g1, g2, g3⟩ := gv
      rw [g1]
      have sm6 : Same H1 (upd H5 e (.lst [])) := fun b o z => s6 _ _ (s5 _ _ (sm _ _ z))
      generalize upd H5 e (.lst []) = H6 at g2 g3 sm6
      refine ⟨_, rfl, x, dxw, _, rfl, sm6 _ _ w1, noA (by decide +kernel) (by decide +kernel) (by decide +kernel), _, rfl, x, g, zs, R, t, _, DEAR3, rfl, hW.same sm6, g2, g3, fG, ok.short, ok.few, ht, by omega, fun H7 tl7 ys7 s7 ntl7 htl7 hys7 => ?_⟩
      exact ⟨_, _, tl7, ys7, _, rfl, sm6.trans s7, htl7, hys7, St.fair, Nat.le_trans St.len (coms_b ok.few ht), hgo'⟩
    · rintro σ H4 ⟨v5, v6, tl, ys, Kc, rfl, sm, htl, hys, hfa, hle, hgo⟩
      rw [List.length_map, List.drop_length] at hgo
      have hgo' : wholeCost t Kc = leastCost R t ms := hgo
      refine ⟨_, rfl, x, dxw, _, rfl, sm _ _ w1, noA (by decide +kernel) (by decide +kernel) (by decide +kernel), _, rfl, x, tl, ys, R, t, Kc, rfl, hW.same sm, htl, hys, by omega, fun H5 s5 => ?_⟩
      rw [hgo']
      exact k H5 (s1.trans (sm.trans s5))
end
end Slip
end
/-! ## PLik -/
section
set_option Elab.async false
set_option linter.all false
set_option maxRecDepth 100000
set_option maxHeartbeats 2000000
namespace Slip
open PySem PySem.Spec PyProof.Rows L2
open PySem.W (alike dataLe AllAlike Sortable EachIs)
open SySlip (best Meaning)
theorem alikeB (a b : Beg) : alike (datB a) (datB b) = true := alike_cons rfl (alike_cons (alike_dat _ _) alike_nil)
theorem depthB (a : Beg) : (datB a).depth ≤ 8 := Nat.le_trans (depth_cons (n := 1) (Nat.zero_le _) (depth_cons (Nat.le_of_eq (dat_depth _)) depth_nil)) (by decide)
/-- a row told: its cost, its letters -/
def MeanAt (H : Hp) (v : V) (m : Meaning) : Prop := ∃ a b, v = .ref a ∧ H a = some (.tup [iv m.2, .ref b]) ∧ H b = some (.tup (ivs m.1))
theorem MeanAt.keep {H H' : Hp} (e : TupS H H') {v : V} {m : Meaning} (h : MeanAt H v m) : MeanAt H' v m := by
  obtain ⟨a, b, h1, h2, h3⟩ := h
  exact ⟨a, b, h1, e _ _ h2, e _ _ h3⟩
theorem part_tracks {R : List Row} {t : List Nat} {d : Nat} {b p : Beg} (hS : Short R) (hR : R.length ≤ 32) (ht : t.length ≤ 24) (hf : b.whole = false → ∀ T ∈ b.tracks, Fair (comsOf R) t T) (hb : b.tracks.length ≤ 300000) (hp : p ∈ lengthen R t d b) : p.tracks.length ≤ 300000 := by
  unfold lengthen at hp
  cases e : b.whole with
  | true =>
    rw [if_pos e] at hp
    rw [List.mem_singleton.mp hp]; exact hb
  | false =>
    rw [if_neg (by rw [e]; exact Bool.false_ne_true)] at hp
    rcases List.mem_append.mp hp with hp | hp
    · cases ew : wholeCost t (settle R t d b.tracks) with
      | none => rw [ew] at hp; cases hp
      | some c => rw [ew] at hp; rw [List.mem_singleton.mp hp]; exact Nat.zero_le _
    · obtain ⟨q, hq, rfl⟩ := List.mem_map.mp hp
      have FO := FOk.onward (R := R) (t := t) (d := d) (K := settle R t d b.tracks)
      have St := settle_is (R := R) (t := t) (d := d) (coms_cld hS).nil (hf e)
      have lK := Nat.le_trans St.len (coms_b hR ht)
      have sF : sizeF (onward R t d (settle R t d b.tracks)) ≤ 6500 * 33 := Nat.le_trans sizeF_onward (Nat.mul_le_mul lK (by omega))
      have h := getF_le (onward R t d (settle R t d b.tracks)) q.1
      rw [getF_mem FO hq] at h
      show q.2.length ≤ 300000
      omega
theorem parts_len {R : List Row} {t : List Nat} {d : Nat} {b : Beg} (hS : Short R) (hR : R.length ≤ 32) (ht : t.length ≤ 24) (hf : b.whole = false → ∀ T ∈ b.tracks, Fair (comsOf R) t T) : (lengthen R t d b).length ≤ 214501 := by
  unfold lengthen
  cases e : b.whole with
  | true => rw [if_pos rfl]; show 1 ≤ 214501; decide
  | false =>
    rw [if_neg Bool.false_ne_true]
    have FO := FOk.onward (R := R) (t := t) (d := d) (K := settle R t d b.tracks)
    have St := settle_is (R := R) (t := t) (d := d) (coms_cld hS).nil (hf e)
    have lK := Nat.le_trans St.len (coms_b hR ht)
    have sF : sizeF (onward R t d (settle R t d b.tracks)) ≤ 6500 * 33 := Nat.le_trans sizeF_onward (Nat.mul_le_mul lK (by omega))
    have lF := keys_le FO
    rw [List.length_append, List.length_map]
    cases wholeCost t (settle R t d b.tracks) with
    | none => show 0 + _ ≤ _; omega
    | some c => show 1 + _ ≤ _; omega
theorem paired_mem {α β : Type} {G G' : α → β → Prop} : ∀ {xs : List α} {ys : List β}, Paired G xs ys → (∀ x y, y ∈ ys → G x y → G' x y) → Paired G' xs ys
  | _, _, .nil, _ => .nil
  | _, _, .cons r t, h => .cons (h _ _ (.head _) r) (paired_mem t fun x y m => h x y (.tail _ m))
theorem paired_take {α β : Type} {G : α → β → Prop} : ∀ {xs : List α} {ys : List β} (n : Nat), Paired G xs ys → Paired G (xs.take n) (ys.take n)
  | _, _, 0, _ => by rw [List.take_zero, List.take_zero]; exact .nil
  | _, _, n + 1, .nil => .nil
  | _, _, n + 1, .cons r t => .cons r (paired_take n t)
theorem paired_app {α β : Type} {G : α → β → Prop} : ∀ {xs xs' : List α} {ys ys' : List β}, Paired G xs ys → Paired G xs' ys' → Paired G (xs ++ xs') (ys ++ ys')
  | _, _, _, _, .nil, h => h
  | _, _, _, _, .cons r t, h => .cons r (paired_app t h)
theorem paired_left {α β : Type} {G : α → β → Prop} : ∀ {xs : List α} {ys : List β}, Paired G xs ys → ∀ x ∈ xs, ∃ y ∈ ys, G x y
  | _, _, .nil, _, h => nomatch h
  | _, _, .cons r t, x, h => by
    rcases List.mem_cons.mp h with rfl | h
    · exact ⟨_, .head _, r⟩
    · obtain ⟨y, m, q⟩ := paired_left t x h
      exact ⟨y, .tail _ m, q⟩
theorem flat_len {R : List Row} {t : List Nat} {d B : Nat} : ∀ (F : List Beg), (∀ b ∈ F, (lengthen R t d b).length ≤ B) → (F.flatMap (lengthen R t d)).length ≤ F.length * B
  | [], _ => Nat.zero_le _
  | b :: F, h => by
    have ih := flat_len F fun b' m => h b' (.tail _ m)
    have := h b (.head _)
    rw [List.flatMap_cons, List.length_append, List.length_cons, Nat.succ_mul]
    omega
section
variable {P : Program} {w : World} {K : PySem.W.Frag} {mg : Str → Option Value} {base : Heap} {C CW : Addr}
def spLikeliest (P : Program) (w : World) : Sp := fun vs H Q _ => ∃ (d a : Addr) (R : List Row) (t : List Nat) (many : Nat), vs = [.ref d, .ref a, iv many] ∧ TblAt P w H d R ∧ TabOk R ∧ H a = some (.tup (ivs t)) ∧ t.length ≤ 24 ∧ 1 ≤ many ∧ many ≤ 64 ∧
  ∀ (H' : Hp) (p : Addr) (xs : List V), Same H H' → H p = none → H' p = some (.lst xs) → Paired (MeanAt H') xs ((best (slipsOf R) t).take many) → Q (.ref p) H'
theorem scLikeliest : FnScope ["table", "typed", "many", "ways", "found", "dearest", "beginning", "longer"] ["table", "typed", "many"] (defScope sLikeliest) := ⟨rfl, rfl, rfl, by decide +kernel, rfl, by decide +kernel, by decide +kernel⟩
theorem ok_Likeliest {f : Addr} {fd : FuncData} (F : Fun K "likeliest" "likeliest" sLikeliest f fd) (T : TBeg K mg C) (TW : TWays K mg CW) (mW : Mak P w K mg base 2 "Ways" CW (spWInit P w CW)) (mB : Mak P w K mg base 1 "Beginning" C (spBInit C)) (cFi : Met P w K mg base 1 CW "first" spFirst)
    (cL : Cal P w K mg base 3 "lengthened" (spLengthened C CW)) (cO : Cal P w K mg base 1 "order_of" (spOrderOf K C)) : FnOk P w K mg base CX0 4 f fd ["table", "typed", "many"] (spLikeliest P w) := by
  obtain ⟨fo, fdo, pso, Fo, mo, ko, bo⟩ := cO
  refine F.ok scLikeliest (fun vs H Q E h => ?_) (fun cdv A outer s H vs Q E hr h => ⟨_, pss_cons (ps_set (i := 3) scLikeliest.nd rfl (Or.inl rfl) (pe_mk mW hr (by decide) rfl (pa_cons (pv 0) (pa_cons (pv 1) pa_nil))))
      (pss_cons (ps_set (i := 4) scLikeliest.nd rfl (Or.inl rfl) (pe_lst (pa_cons (pe_mk mB hr (by decide) rfl (pa_cons pe_int (pa_cons (pe_tup pa_nil) (pa_cons (pe_mt0 cFi hr (by decide) (pv 3)) (pa_cons pe_bl pa_nil))))) pa_nil)))
      (pss_cons (ps_set (i := 5) scLikeliest.nd rfl (Or.inl rfl) (pe_k rfl TW.DEAREST))
      (pss_cons (ps_while PassesOwn.never (pt_val (pe_callB (cr_any rfl) (by rfl) TW.any (by decide +kernel) (pa_cons
          (pe_lc (own := [("beginning", 6)]) (g := gName 6) (tt := tYes) (te := tNotV (tFld K (tVar 6) "whole")) rfl scLikeliest.nd (pi_list (pv 4)) (blkOk_by (N := ["table", "typed", "many", "ways", "found", "dearest", "beginning", "longer"]) (sc := defScope sLikeliest) (by decide +kernel))
            (fun _ _ _ _ _ => pg_name (i := 6) scLikeliest.nd rfl (Or.inl rfl)) (fun _ _ _ _ _ => pts_nil) (fun _ _ _ _ _ => pe_not (pe_fld (pv 6) rfl))) pa_nil)))
        (pss_cons (ps_set (i := 7) scLikeliest.nd rfl (Or.inl rfl) (pe_lst pa_nil))
        (pss_cons (ps_for PassesOwn.never rfl (pi_list (pv 4)) (pg_name (i := 6) scLikeliest.nd rfl (Or.inl rfl))
          (pss_one (ps_expr (pe_bm PySem.F.plainAttrs_list PySem.F.slot_list_extend PySem.F.type_list_extend mt_extend (pv 7) (pa_cons (pe_c cL hr (by decide) rfl (pa_cons (pv 3) (pa_cons (pv 6) (pa_cons (pv 5) pa_nil)))) pa_nil)))))
        (pss_cons (ps_set (i := 4) scLikeliest.nd rfl (Or.inl rfl) (pe_slice sl_list (pe_callBK (cr_sortedF Fo bo hr (by decide)) (by rfl) TW.sorted (by decide +kernel) (pa_cons (pv 7) pa_nil) (pk_cons (pe_glob (v := .ref fo) rfl mo rfl) pk_nil)) po_none (po_some (pv 2))))
        (pss_one (ps_if (pt_cmpR op_eq (pe_callB call_len_seq (by rfl) TW.len PySem.boot_len (pa_cons (pv 4) pa_nil)) (pv 2) (nomark _))
          (pss_one (ps_set (i := 5) scLikeliest.nd rfl (Or.inl rfl) (pe_fld (pe_ix ix_list (pv 4) (pe_un un_neg pe_int) (fun _ _ => rfl)) rfl))) pss_nil))))))
      (pss_one (ps_ret (pe_lc (own := [("beginning", 6)]) (g := gName 6) (tt := tYes) (te := tTup (tCons (tFld K (tVar 6) "cost") (tCons (tFld K (tVar 6) "letters") tNil))) rfl scLikeliest.nd (pi_list (pv 4)) (blkOk_by (N := ["table", "typed", "many", "ways", "found", "dearest", "beginning", "longer"]) (sc := defScope sLikeliest) (by decide +kernel))
            (fun _ _ _ _ _ => pg_name (i := 6) scLikeliest.nd rfl (Or.inl rfl)) (fun _ _ _ _ _ => pts_nil) (fun _ _ _ _ _ => pe_tup (pa_cons (pe_fld (pv 6) rfl) (pa_cons (pe_fld (pv 6) rfl) pa_nil))))))))), ?_⟩)
  · obtain ⟨d, a, R, t, many, rfl, _⟩ := h
    rfl
  · obtain ⟨d, a, R, t, many, rfl, hT, ok, ha, ht, hm1, hm2, k⟩ := h
    have sz : 64 * 214501 < sizeLine := by rw [sizeLine_eq]; decide
    have hCl := coms_cld ok.short
    refine ⟨_, rfl, _, rfl, fun x dx nx ndx hne => ?_⟩
    refine mk_ways nx ndx hne hT ok ha ht fun H1 s1 hW => ?_
    obtain ⟨dxw, lm, ld, mls, dls, w1, _⟩ := id hW
    have noA : ∀ {m : Str}, (m == ("length" : Str)) = false → (m == ("moves" : Str)) = false → (m == ("drops" : Str)) = false → (wF t.length lm ld).lookup m = none := fun a b c => wF_none a b c _ _ _
    refine ⟨Nat.zero_le _, fun e ne => ?_⟩
    have se : Same H1 (upd H1 e (.tup [])) := Same.new (Same.refl H1) ne
    refine ⟨_, rfl, x, dxw, _, rfl, se _ _ w1, noA (by decide +kernel) (by decide +kernel) (by decide +kernel), x, rfl, fun H2 fl fxs s2 nfl hfl hft => ?_⟩
    intro b0 db nb ndb hnb
    refine mk_beg (c := 0) (la := e) (ta := fl) (wh := false) nb ndb hnb fun H3 s3 hb => ?_
    refine ⟨by show 1 ≤ sizeLine; omega, fun fd0 nfd => ?_⟩
    have sm0 : Same H1 (upd H3 fd0 (.lst [V.ref b0])) := fun c o z => by
      rw [upd_ne (ne_of_none (s3 _ _ (s2 _ _ (se _ _ z))) nfd)]
      exact s3 _ _ (s2 _ _ (se _ _ z))
    have k3 : ∀ {c : Addr} {o : HO}, H3 c = some o → upd H3 fd0 (.lst [V.ref b0]) c = some o := fun {c o} z => by rw [upd_ne (ne_of_none z nfd)]; exact z
    have hb0 : BegAt C (upd H3 fd0 (.lst [V.ref b0])) (.ref b0) ⟨0, [], firstT, false⟩ :=
      ⟨b0, db, e, fl, rfl, k3 hb, k3 (s3 _ _ (s2 _ _ upd_same)), fun _ => ⟨fxs, k3 (s3 _ _ hfl), Paired.mapP hft fun v m q => (q.keep (TupS.of s3)).keep fun c ws z => k3 z⟩⟩
    refine ⟨fun m σ H' => ∃ (n : Nat) (G : List Beg) (dd : Nat) (v6 v7 : Option V) (fl : Addr) (xs : List V), σ = [some (.ref d), some (.ref a), some (iv many), some (.ref x), some (.ref fl), some (iv dd), v6, v7] ∧ Same H1 H' ∧ H' fl = some (.lst xs) ∧ Paired (BegAt C H') xs G ∧
      BInv R t (comsOf R) many n G dd ∧ (∀ b ∈ G, b.tracks.length ≤ 300000) ∧ m = t.length + 10 - n, ⟨_, 0, begun, DEAR3, none, none, fd0, [.ref b0], rfl, sm0, upd_same, .cons hb0 .nil, BInv.start hCl hm1, fun b m => ?_, rfl⟩, ?_⟩
    · obtain rfl := List.mem_singleton.mp m
      exact Nat.le_trans (Nat.le_refl 1) (by decide)
    clear sm0 hb0 k3 hb nfd s3 nb ndb hnb hft hfl nfl s2 se ne
    rintro m σ H4 ⟨n, G, dd, v6, v7, fl, xs, rfl, sm, hfl, hG, hI, htr, rfl⟩
    have lG : xs.length = G.length := Paired.length hG
    have lG2 : G.length ≤ 64 := Nat.le_trans hI.few hm2
    refine ⟨_, rfl, fl, rfl, ⟨xs, .inl (.inl hfl)⟩, fun D nD => lc_it walk_list (fun i H' => Same H4 H' ∧ H' D = some (.lst (((G.take i).map fun b => !b.whole).map V.bl))) ⟨Same.new (Same.refl H4) nD, upd_same⟩ (fun i H' _ ⟨s, _⟩ => .inl (.inl (s _ _ hfl))) ?_ ?_⟩
    · rintro i v H5 H6 hi ⟨s5, hD⟩ ⟨rfl, ex⟩
      obtain ⟨b, eb, a', dx', la, ta, rfl, h1, h2, h3⟩ := paired_get hG ex
      refine ⟨rfl, ?_⟩
      dsimp only [tYes]
      refine iteT ⟨_, rfl, a', C, dx', _, _, rfl, s5 _ _ h1, T.cl, T.nW, bF_whole _ _ _ _, _, rfl, _, hD, ?_, fun c o z => ?_, ?_⟩
      · rw [List.length_map, List.length_map, List.length_take]; omega
      · rw [upd_ne (ne_of_none z nD)]; exact s5 _ _ z
      · rw [upd_same, take_more eb, List.map_append, List.map_append]; rfl
    rintro H5 ⟨s5, hD⟩
    rw [lG, List.take_length] at hD
    have sm5 : Same H1 H5 := sm.trans s5
    have hfl5 := s5 _ _ hfl
    have hG5 : Paired (BegAt C H5) xs G := Paired.mapP hG fun v b h => h.same s5
    refine ⟨D, G.map fun b => !b.whole, rfl, .inl (.inl hD), _, rfl, ite2 (fun c1 => ?_) (fun c1 => ?_)⟩
    · obtain ⟨bw, hbw, ebw⟩ : ∃ b ∈ G, b.whole = false := by
        obtain ⟨q, hq, e⟩ := List.any_eq_true.mp c1
        obtain ⟨b, hb, rfl⟩ := List.mem_map.mp hq
        exact ⟨b, hb, by simpa using e⟩
      have hn9 := hI.bound ok.short hbw ebw
      refine ⟨fun σ' H' => ∃ m', m' < t.length + 10 - n ∧ ∃ (n : Nat) (G : List Beg) (dd : Nat) (v6 v7 : Option V) (fl : Addr) (xs : List V), σ' = [some (.ref d), some (.ref a), some (iv many), some (.ref x), some (.ref fl), some (iv dd), v6, v7] ∧ Same H1 H' ∧ H' fl = some (.lst xs) ∧ Paired (BegAt C H') xs G ∧
        BInv R t (comsOf R) many n G dd ∧ (∀ b ∈ G, b.tracks.length ≤ 300000) ∧ m' = t.length + 10 - n, fun σ' H' h => h, ?_⟩
      have hst := hI.step hCl
      have hlet : ∀ b ∈ G, b.letters.length ≤ 1000 := fun b hb => by
        have := hI.ok b hb
        cases e : b.whole with
        | true => have := this.long e; omega
        | false => have := this.len e; omega
      refine ⟨Nat.zero_le _, fun lp nlp => ?_⟩
      have nlp1 : H1 lp = none := sm5.free nlp
      have s6 : Same H5 (upd H5 lp (.lst [])) := Same.new (Same.refl H5) nlp
      refine ⟨_, rfl, fl, rfl, ⟨xs, .inl (.inl (s6 _ _ hfl5))⟩, for_it walk_list (fun i σ H' => ∃ (v6 : Option V) (ys : List V), σ = [some (.ref d), some (.ref a), some (iv many), some (.ref x), some (.ref fl), some (iv dd), v6, some (.ref lp)] ∧ Same H5 H' ∧ H' lp = some (.lst ys) ∧
        Paired (BegX C lp H') ys ((G.take i).flatMap (lengthen R t dd))) ⟨v6, [], rfl, s6, upd_same, .nil⟩ (fun i σ H' _ ⟨_, _, _, s, _⟩ => .inl (.inl (s _ _ hfl5))) ?_ ?_⟩
      · rintro i v σ H6 H7 hi ⟨v6, ys, rfl, s7, hlp, hys⟩ ⟨rfl, ex⟩
        obtain ⟨b, eb, hB⟩ := paired_get hG5 ex
        have mb := List.mem_of_getElem? eb
        have okb := hI.ok b mb
        have sm7 : Same H1 H7 := sm5.trans s7
        refine ⟨_, rfl, .inl ⟨rfl, _, .inl (.inl hlp)⟩, _, rfl, _, rfl, _, rfl, x, v, R, t, b, dd, rfl, hW.same sm7, hB.same s7, okb.fair, ok.short, ok.few, ht, htr b mb, hlet b mb, fun H8 p zs s8 np hp hzs => ?_⟩
        have hlp8 := s8 _ _ hlp
        have ly : ys.length ≤ i * 214501 := by
          rw [Paired.length hys]
          refine Nat.le_trans (flat_len _ fun b hb => parts_len ok.short ok.few ht fun e => (hI.ok b (List.mem_of_mem_take hb)).fair e) ?_
          rw [List.length_take]
          exact Nat.mul_le_mul_right _ (Nat.min_le_left _ _)
        have lz : zs.length ≤ 214501 := by rw [Paired.length hzs]; exact parts_len ok.short ok.few ht okb.fair
        have hi64 : i < 64 := by omega
        have lyz : ys.length + zs.length ≤ sizeLine := by
          have : i * 214501 + 214501 ≤ 64 * 214501 := by omega
          omega
        refine ⟨lp, p, ys, zs, rfl, rfl, hlp8, hp, lyz, ?_⟩
        have hys8 : Paired (BegX C lp H8) ys _ := Paired.mapP hys fun v b h => h.same s8
        have hzx : Paired (BegX C lp H8) zs (lengthen R t dd b) := paired_mem hzs fun v q mq h => h.far (fun e => by
          obtain ⟨⟨T1, m1, _⟩, _⟩ := (parts_ok hCl okb mq).1.least e
          exact List.ne_nil_of_mem m1) hlp8 fun y my => by
            obtain ⟨q', _, a', dx', la, ta, e0, e1, _⟩ := paired_left hys8 y my
            exact ⟨a', dx', _, e0, e1⟩
        have o9 : ∀ c u, H8 c = some u → c ≠ lp → upd H8 lp (.lst (ys ++ zs)) c = some u := fun c u z hc => by rw [upd_ne hc]; exact z
        refine ⟨_, _, rfl, fun c u z => o9 _ _ (s8 _ _ (s7 _ _ z)) (ne_of_none z nlp), upd_same, ?_⟩
        rw [take_more eb, List.flatMap_append, List.flatMap_singleton]
        exact paired_app (Paired.mapP hys8 fun v b h => h.put hlp8 o9) (Paired.mapP hzx fun v b h => h.put hlp8 o9)
      · rintro σ H6 ⟨v6, ys, rfl, s7, hlp, hys⟩
        rw [lG, List.take_length] at hys
        have hL : Paired (BegAt C H6) ys (longer R t dd G) := Paired.mapP hys fun v b h => h.at
        have lys : ys.length = (longer R t dd G).length := Paired.length hL
        refine ⟨_, rfl, lp, ys, (longer R t dd G).map datB, rfl, rfl, .inl (.inl hlp), by rw [List.length_map]; exact lys, allAlike_of alikeB _, PySem.W.Sortable.tuples fun m => ⟨_, _, rfl⟩, fun q hq => ?_, fun i v q hv hq H8 s8 => ?_, fun H8 p s8 np => ?_⟩
        · obtain ⟨b, _, rfl⟩ := List.mem_map.mp hq
          exact depthB b
        · obtain ⟨b, eb, hB⟩ := paired_get hL hv
          rw [List.getElem?_map, eb] at hq
          cases hq
          exact ⟨v, b, rfl, hB.same s8, fun H' y s dp => ⟨s, dp⟩⟩
        have so := sort_pair datB hL
        generalize ((ys.zip ((longer R t dd G).map datB)).mergeSort (dataLe false Prod.snd)).map Prod.fst = out at so ⊢
        unfold tNoPart
        refine ⟨_, rfl, _, rfl, p, out, rfl, .inl (.inl upd_same), fun g ng => ?_⟩
        have ecut : cutV out none (some (many : Int)) = out.take many := by
          unfold cutV
          rw [HT.sIx_none, HT.sIx_nat, List.drop_zero, Nat.sub_zero]
          rcases Nat.lt_or_ge many out.length with q | q
          · rw [Nat.min_eq_left (by omega)]
          · rw [Nat.min_eq_right q, List.take_length, List.take_of_length_le q]
        rw [ecut]
        have s9 : Same H6 (upd (upd H8 p (.lst out)) g (.lst (out.take many))) := Same.new (Same.new s8 np) ng
        have hF : Paired (BegAt C (upd (upd H8 p (.lst out)) g (.lst (out.take many)))) (out.take many) (firsts many (longer R t dd G)) := Paired.mapP (paired_take many so) fun v b h => h.same s9
        have hg : upd (upd H8 p (.lst out)) g (.lst (out.take many)) g = some (.lst (out.take many)) := upd_same
        have sm9 : Same H1 (upd (upd H8 p (.lst out)) g (.lst (out.take many))) := fun c u z => s9 _ _ (s7 _ _ (sm5 _ _ z))
        generalize upd (upd H8 p (.lst out)) g (.lst (out.take many)) = H9 at hF hg sm9 ⊢
        have lF : (out.take many).length = (firsts many (longer R t dd G)).length := Paired.length hF
        have e1 : (stepB R t many (G, dd)).1 = firsts many (longer R t dd G) := rfl
        have e2 : (stepB R t many (G, dd)).2 = dearer many dd (firsts many (longer R t dd G)) := rfl
        rw [e1, e2] at hst
        have tr9 : ∀ b ∈ firsts many (longer R t dd G), b.tracks.length ≤ 300000 := fun b hb => by
          unfold firsts at hb
          have hb := List.mem_mergeSort.mp (List.mem_of_mem_take hb)
          unfold longer at hb
          obtain ⟨b0, m0, h0⟩ := List.mem_flatMap.mp hb
          exact part_tracks ok.short ok.few ht (hI.ok b0 m0).fair (htr b0 m0) h0
        generalize firsts many (longer R t dd G) = G' at hF lF hst tr9
        refine ⟨_, rfl, _, _, rfl, .inl (.inl (.inl hg)), _, rfl, rfl, _, rfl, ite2 (fun c2 => ?_) (fun c2 => ?_)⟩
        · have c2 := of_decide_eq_true c2
          have c3 : G'.length = many := by
            injection c2 with c2
            omega
          have edd : dearer many dd G' = (G'.getLast?.map (·.cost)).getD dd := by unfold dearer; rw [if_pos c3]
          have nG : G' ≠ [] := fun z => by rw [z] at c3; have : (0 : Nat) = many := c3; omega
          have nO : out.take many ≠ [] := fun z => nG (List.eq_nil_of_length_eq_zero (by rw [← lF, z]; rfl))
          have eo : out.take many = (out.take many).dropLast ++ [(out.take many).getLast nO] := (List.dropLast_concat_getLast nO).symm
          have hlast : BegAt C H9 ((out.take many).getLast nO) (G'.getLast nG) := by
            have ex : (out.take many)[(out.take many).length - 1]? = some ((out.take many).getLast nO) := by rw [← List.getLast?_eq_getElem?, List.getLast?_eq_getLast nO]
            obtain ⟨b, eb, hB⟩ := paired_get hF ex
            rw [lF, ← List.getLast?_eq_getElem?, List.getLast?_eq_getLast nG] at eb
            cases eb
            exact hB
          obtain ⟨a', dx', la, ta, e0, h1, h2, h3⟩ := hlast
          refine ⟨_, rfl, _, rfl, g, out.take many, -1, .ref a', rfl, rfl, .inl (.inl hg), ?_, a', C, dx', _, _, rfl, h1, T.cl, T.nC, bF_cost _ _ _ _, ?_⟩
          · rw [eo, e0]; exact atI_last _ _
          · have : dearer many dd G' = (G'.getLast nG).cost := by rw [edd, List.getLast?_eq_getLast nG]; rfl
            rw [this] at hst
            exact ⟨_, by omega, n + 1, G', _, _, _, g, out.take many, rfl, sm9, hg, hF, hst, tr9, rfl⟩
        · have c3 : ¬ G'.length = many := fun z => c2 (decide_eq_true (by rw [lF, z]))
          have edd : dearer many dd G' = dd := by unfold dearer; rw [if_neg c3]
          rw [edd] at hst
          exact ⟨_, by omega, n + 1, G', dd, _, _, g, out.take many, rfl, sm9, hg, hF, hst, tr9, rfl⟩
    · have all : ∀ b ∈ G, b.whole = true := fun b hb => by
        cases e : b.whole with
        | true => rfl
        | false => exact absurd (List.any_eq_true.mpr ⟨true, List.mem_map.mpr ⟨b, hb, by rw [e]; rfl⟩, rfl⟩) c1
      have fin := hI.done ok.short all hm2
      refine ⟨_, rfl, fl, rfl, ⟨xs, .inl (.inl hfl5)⟩, fun D2 nD2 => lc_it walk_list (fun i H' => ∃ acc, Same H5 H' ∧ H' D2 = some (.lst acc) ∧ Paired (MeanAt H') acc ((G.take i).map Beg.mean)) ⟨[], Same.new (Same.refl H5) nD2, upd_same, .nil⟩ (fun i H' _ ⟨_, s, _⟩ => .inl (.inl (s _ _ hfl5))) ?_ ?_⟩
      · rintro i v H6 H7 hi ⟨acc, s7, hD7, hacc⟩ ⟨rfl, ex⟩
        obtain ⟨b, eb, a', dx', la, ta, rfl, h1, h2, h3⟩ := paired_get hG5 ex
        have lacc : acc.length ≤ 64 := by rw [Paired.length hacc, List.length_map, List.length_take]; omega
        refine ⟨rfl, ?_⟩
        dsimp only [tYes]
        refine iteT ⟨_, rfl, a', C, dx', _, _, rfl, s7 _ _ h1, T.cl, T.nC, bF_cost _ _ _ _, _, rfl, a', C, dx', _, _, rfl, s7 _ _ h1, T.cl, T.nL, bF_letters _ _ _ _, by show 2 ≤ sizeLine; omega, fun g ng => ?_⟩
        have gD : D2 ≠ g := ne_of_none hD7 ng
        refine ⟨acc, (upd_ne gD).trans hD7, by omega, acc ++ [V.ref g], fun c o z => ?_, upd_same, ?_⟩
        · rw [upd_ne (ne_of_none z nD2), upd_ne (ne_of_none (s7 _ _ z) ng)]
          exact s7 _ _ z
        · have tG : TupS H7 (upd (upd H7 g (.tup [iv b.cost, V.ref la])) D2 (.lst (acc ++ [V.ref g]))) := fun c ws z => by
            rw [upd_ne (fun y => by rw [y, hD7] at z; cases z), upd_ne (ne_of_none z ng)]
            exact z
          rw [take_more eb, List.map_append]
          refine paired_snoc (Paired.mapP hacc fun v m h => h.keep tG) ⟨g, la, rfl, ?_, tG _ _ (s7 _ _ h2)⟩
          rw [upd_ne gD.symm, upd_same]
          rfl
      · rintro H6 ⟨acc, s7, hD7, hacc⟩
        rw [lG, List.take_length, fin] at hacc
        exact k H6 D2 acc (s1.trans (sm5.trans s7)) ((s1.trans sm5).free nD2) hD7 hacc
end
end Slip
end
/-! ## MyF -/
section
set_option Elab.async false
set_option linter.all false
set_option maxRecDepth 100000
set_option maxHeartbeats 2000000
namespace L2
open PySem PySem.Spec PyProof.Rows
/-- xs.extend(a tuple) -/
def rExtT (K : PySem.W.Frag) : V → List V → Hp → VK → Prop := fun x vs H Q => ∃ l b xs zs, x = .ref l ∧ vs = [.ref b] ∧ H l = some (.lst xs) ∧ SqT K H b zs ∧ xs.length + zs.length ≤ sizeLine ∧ Q .non (upd H l (.lst (xs ++ zs)))
section
variable {X : Cx}
theorem mt_extT : MtM X "list.extend" (rExtT X.K) := by
  intro pins s σ H x vs v us Q I rx rv h
  obtain ⟨l, b, xs, zs, rfl, rfl, hH, hB, hz, q⟩ := h
  cases rx
  obtain ⟨u, rfl, ru⟩ := rv.one
  cases ru
  obtain ⟨z, its, n, r, hl, e⟩ := I.lstM hH
  obtain ⟨its2, r2, ⟨o, ho, hc, n2, hd⟩, hl2⟩ := I.tuple hB
  have l1 := r.length
  have l2 := r2.length
  have hsz : its.toArray.size + its2.toArray.size ≤ sizeLine := by rw [List.size_toArray, List.size_toArray]; omega
  have hlong : ¬ (!its.toArray.isEmpty && Builtin.List.listTooLong (its.toArray.size + its2.toArray.size)) = true := by
    rw [notLongL hsz, Bool.and_false]
    exact Bool.false_ne_true
  have goal2 : EP X pins σ Q .none { s with heap := s.heap.update l (Obj.mapSeq fun x => x ++ its2.toArray) } := by
    refine ⟨.non, _, I.lset (its' := its ++ its2) (t' := s.toks) hH e (by simp) (r.append r2) ?_, rfl, q⟩
    rw [List.length_append]
    omega
  refine wpAny_call_entry F.slot_list_extend ⟨_, e, rfl⟩ F.entry_list_extend ?_ (F.args_list_extend_2 _ _)
  show wpAny _ _ (Builtin.List.listExtendWith (.ref l) (.ref b) .none) _ _ s
  unfold Builtin.List.listExtendWith
  refine wpAny_bind (wpAny_typeOf ⟨o, ho, hc⟩ ?_)
  have isT : (Builtin.List.listSameRef (.ref l) (.ref b) || Value.type "tuple" == Value.type "list" || Value.type "tuple" == Value.type "tuple") = true := by
    rw [Bool.or_eq_true]
    exact .inr (beq_self_eq_true _)
  rw [if_pos isT]
  refine wpAny_bind ?_
  refine listItems_at ho hd ?_
  refine wpAny_bind ?_
  refine listItems_at e rfl ?_
  rw [if_neg hlong]
  refine wpAny_bind (listUpdate_at e rfl ?_ (by omega) (by rw [Array.size_append]; omega))
  exact wpAny_pure ⟨_, rfl, goal2⟩
end
end L2
end
/-! ## PKeA -/
section
set_option Elab.async false
set_option linter.all false
set_option maxRecDepth 100000
set_option maxHeartbeats 2000000
namespace Slip
open PySem PySem.Spec PyProof.Rows L2
open PySem.W (alike dataLe AllAlike Sortable EachIs)
open SySlip (best Meaning)
abbrev sKeeper : Stmt := top 52
abbrev sKInit : Stmt := inClass sKeeper 0
abbrev sKBegin : Stmt := inClass sKeeper 1
abbrev sKRead : Stmt := inClass sKeeper 2
abbrev sKWrite : Stmt := inClass sKeeper 3
abbrev sKCost : Stmt := inClass sKeeper 4
abbrev sKNth : Stmt := inClass sKeeper 5
abbrev sKAll : Stmt := inClass sKeeper 6
/-! Feed.row -/
section
variable {P : Program} {w : World} {K : PySem.W.Frag} {mg : Str → Option Value} {base : Heap} {C : Addr}
def spRow (K : PySem.W.Frag) (C : Addr) : Sp := fun vs H Q _ => ∃ (a cl : Addr) (i n : Nat) (ns : List V), vs = [.ref a] ∧ FeedAt C H a cl i ∧ SqL K H cl ns ∧ ns[i]? = some (iv n) ∧ i + 1 + n ≤ ns.length ∧
  ∀ (H' : Hp) (l : Addr), FeedAt C H' a cl (i + 1 + n) → (∀ b o, H b = some o → b ≠ a → H' b = some o) → H l = none → H' l = some (.lst ((ns.drop (i + 1)).take n)) → Q (.ref l) H'
theorem scRow : FnScope ["self", "many", "start"] ["self"] (defScope sRow) := ⟨rfl, rfl, rfl, by decide +kernel, rfl, by decide +kernel, by decide +kernel⟩
theorem ok_Row {f : Addr} {fd : FuncData} (F : Fun K "row" "Feed.row" sRow f fd) (T : TFeed K mg C) (cN : Met P w K mg base 1 C "number" (spNumber K C)) : FnOk P w K mg base CX0 2 f fd ["self"] (spRow K C) := by
  refine F.ok scRow (fun vs H Q E h => ?_) (fun cdv A outer s H vs Q E hr h => ⟨_, pss_cons (ps_set (i := 1) scRow.nd rfl (Or.inl rfl) (pe_mt0 cN hr (by decide) (pv 0)))
      (pss_cons (ps_set (i := 2) scRow.nd rfl (Or.inl rfl) (pe_fld (pv 0) rfl))
      (pss_cons (ps_fld (pv 0) (pe_op op_add (pv 2) (pv 1)) rfl)
      (pss_one (ps_ret (pe_slice sl_list (pe_fld (pv 0) rfl) (po_some (pv 2)) (po_some (pe_fld (pv 0) rfl))))))), ?_⟩)
  · obtain ⟨a, cl, i, n, ns, rfl, _⟩ := h
    rfl
  · obtain ⟨a, cl, i, n, ns, rfl, ⟨dx, ha⟩, hS, hn, hl, k⟩ := h
    refine ⟨_, rfl, a, dx, _, rfl, ha, feF_number _ _, a, cl, i, ns, iv n, rfl, ⟨dx, ha⟩, hS, hn, fun H1 ⟨dx1, ha1⟩ h1 h1n => ?_⟩
    have hS1 : SqL K H1 cl ns := by
      rcases hS with (h | ⟨o, h⟩) | h
      · exact .inl (.inl (h1 _ _ h (ne_of h ha (by intro z; cases z))))
      · exact .inl (.inr ⟨o, h1 _ _ h (ne_of h ha (by intro z; cases z))⟩)
      · exact .inr h
    refine ⟨_, rfl, a, C, dx1, _, _, rfl, ha1, T.cl, T.nP, feF_place _ _, ?_⟩
    refine ⟨_, rfl, _, rfl, _, _, rfl, rfl, _, rfl, a, C, dx1, _, rfl, ha1, T.cl, T.nP, (by show 2 < 1000; decide), ?_⟩
    have e2 : upd H1 a (.ins C dx1 (putF ("place" : Str) (.int (((i + 1 : Nat) : Int) + (n : Int))) (feF cl (i + 1)))) a = some (.ins C dx1 (feF cl (i + 1 + n))) := by
      rw [upd_same]
      exact congrArg (fun q => some (HO.ins C dx1 q)) (feF_put cl (i + 1) (i + 1 + n))
    have h2 : ∀ b o, H1 b = some o → b ≠ a → upd H1 a (.ins C dx1 (putF ("place" : Str) (.int (((i + 1 : Nat) : Int) + (n : Int))) (feF cl (i + 1)))) b = some o := fun b o e hb => by rw [upd_ne hb]; exact e
    have n2 : ∀ b, upd H1 a (.ins C dx1 (putF ("place" : Str) (.int (((i + 1 : Nat) : Int) + (n : Int))) (feF cl (i + 1)))) b = none → H1 b = none := fun b e => by
      by_cases z : b = a
      · rw [z, upd_same] at e; cases e
      · rw [upd_ne z] at e; exact e
    have hS2 : SqL K (upd H1 a (.ins C dx1 (putF ("place" : Str) (.int (((i + 1 : Nat) : Int) + (n : Int))) (feF cl (i + 1))))) cl ns := by
      rcases hS1 with (h | ⟨o, h⟩) | h
      · exact .inl (.inl (h2 _ _ h (ne_of h ha1 (by intro z; cases z))))
      · exact .inl (.inr ⟨o, h2 _ _ h (ne_of h ha1 (by intro z; cases z))⟩)
      · exact .inr h
    refine ⟨_, rfl, a, C, dx1, _, _, rfl, e2, T.cl, T.nN, feF_numbers _ _, ⟨_, rfl, _, rfl, ⟨_, rfl, a, C, dx1, _, _, rfl, e2, T.cl, T.nP, feF_place _ _, _, rfl, cl, ns, rfl, hS2, fun l nl => ?_⟩⟩⟩
    have ec : cutV ns (some (((i + 1 : Nat) : Int))) (some ((i + 1 + n : Nat) : Int)) = (ns.drop (i + 1)).take n := by
      unfold cutV
      rw [HT.sIx_nat, HT.sIx_nat, Nat.min_eq_left hl, Nat.min_eq_left (by omega : i + 1 ≤ ns.length)]
      congr 1
      omega
    refine k _ l ⟨dx1, ?_⟩ (fun b o e hb => ?_) ?_ ?_
    · rw [upd_ne (ne_of_none e2 nl)]; exact e2
    · rw [upd_ne (ne_of_none (h2 _ _ (h1 _ _ e hb) hb) nl)]
      exact h2 _ _ (h1 _ _ e hb) hb
    · have := n2 l nl
      cases z : H l with
      | none => rfl
      | some o =>
        by_cases y : l = a
        · rw [y, ha1] at this; cases this
        · rw [h1 _ _ z y] at this; cases this
    · rw [upd_same]
      exact congrArg (fun q => some (HO.lst q)) ec
end
end Slip
end
/-! ## PKeB -/
section
set_option Elab.async false
set_option linter.all false
set_option maxRecDepth 100000
set_option maxHeartbeats 2000000
namespace Slip
open PySem PySem.Spec PyProof.Rows L2
open PySem.W (alike dataLe AllAlike Sortable EachIs)
open SySlip (best Meaning)
def kF (d : Addr) : List (Str × V) := [("table", .ref d)]
theorem kF_table (d : Addr) : (kF d).lookup ("table" : Str) = some (.ref d) := lk_here
theorem kF_none {m : Str} (h : (m == ("table" : Str)) = false) (d : Addr) : (kF d).lookup m = none := (lk_past h).trans rfl
theorem kF_put (d e : Addr) : putF ("table" : Str) (.ref e) (kF d) = kF e := put_here
theorem kF_new (e : Addr) : putF ("table" : Str) (.ref e) [] = kF e := rfl
def KeepAt (P : Program) (w : World) (C : Addr) (H : Hp) (a : Addr) (R : List Row) : Prop := ∃ dx d, H a = some (.ins C dx (kF d)) ∧ TblAt P w H d R ∧ Good R
theorem TblAt.same {P : Program} {w : World} {H H' : Hp} {d : Addr} {R : List Row} (e : Same H H') (h : TblAt P w H d R) : TblAt P w H' d R := by
  obtain ⟨es, h1, h2⟩ := h
  exact ⟨es, e _ _ h1, Paired.mapP h2 fun x r ⟨a1, a2, a3⟩ => ⟨a1, a2, a3.keep fun b xs z => e _ _ z⟩⟩
theorem KeepAt.same {P : Program} {w : World} {C : Addr} {H H' : Hp} {a : Addr} {R : List Row} (e : Same H H') (h : KeepAt P w C H a R) : KeepAt P w C H' a R := by
  obtain ⟨dx, d, h1, h2, h3⟩ := h
  exact ⟨dx, d, e _ _ h1, h2.same e, h3⟩
theorem Good.tab {R : List Row} (h : Good R) : TabOk R := ⟨h.dist, h.short, h.few⟩
structure TKeep (K : PySem.W.Frag) (mg : Str → Option Value) (C : Addr) : Prop where
  cl : Cls K C
  nT : NoAttr K C "table"
  MOST_TYPED : ∃ t, mg "MOST_TYPED" = some (.int 24 t)
  MOST_MEANT : ∃ t, mg "MOST_MEANT" = some (.int 33 t)
  MOST_ROWS : ∃ t, mg "MOST_ROWS" = some (.int 64 t)
  TOO_GREAT : ∃ t, mg "TOO_GREAT" = some (.int (-1) t)
  FAULT : ∃ t, mg "FAULT" = some (.int (-2) t)
  NO_LETTERS : ∃ t, mg "NO_LETTERS" = some (.int (-3) t)
  NONE_SUCH : ∃ t, mg "NONE_SUCH" = some (.int (-5) t)
/-- what is told: a new list; the object is as it is to be -/
def Told (P : Program) (w : World) (C : Addr) (H : Hp) (a : Addr) (R : List Row) (ans : List Int) (Q : VK) : Prop := ∀ (H' : Hp) (l : Addr), KeepAt P w C H' a R → (∀ b o, H b = some o → b ≠ a → H' b = some o) → H l = none → H' l = some (.lst (ans.map V.int)) → Q (.ref l) H'
theorem Told.same {P : Program} {w : World} {C : Addr} {H H' : Hp} {a l : Addr} {R : List Row} {ans : List Int} {Q : VK} (h : Told P w C H a R ans Q) (hk : KeepAt P w C H a R) (e : Same H H') (nl : H' l = none) : Q (.ref l) (upd H' l (.lst (ans.map V.int))) :=
  h _ l (hk.same (Same.new e nl)) (fun b o z _ => (Same.new e nl) _ _ z) (e.free nl) upd_same
theorem lineOf_len {r : Row} (h1 : r.typed.length ≤ 3) (h2 : r.meant.length ≤ 3) (h3 : r.cost ≤ 65535) : (lineOf r).length ≤ 65600 := by
  have h4 := digits_len h3
  unfold lineOf
  simp only [List.length_append, List.length_cons, List.length_nil]
  omega
theorem textOf_len {R : List Row} (hS : Short R) (hR : R.length ≤ 32) : (textOf R).length ≤ 32 * 65600 := by
  have go : ∀ L : List Row, (∀ r ∈ L, r ∈ R) → (L.flatMap lineOf).length ≤ L.length * 65600 := by
    intro L
    induction L with
    | nil => intro _; exact Nat.le_refl _
    | cons r L ih =>
      intro h
      have a := ih fun x m => h x (.tail _ m)
      obtain ⟨s1, s2, s3⟩ := hS r (h r (.head _))
      have b := lineOf_len s1 s2 s3
      rw [List.flatMap_cons, List.length_append, List.length_cons, Nat.succ_mul]
      omega
  have := go (R.mergeSort rowLe) fun r m => List.mem_mergeSort.mp m
  rw [List.length_mergeSort] at this
  unfold textOf
  exact Nat.le_trans this (Nat.mul_le_mul_right _ hR)
section
variable {P : Program} {w : World} {K : PySem.W.Frag} {mg : Str → Option Value} {base : Heap} {C CF fI : Addr}
/-! Keeper() -/
def spKInit (P : Program) (w : World) (C : Addr) : Sp := fun vs H Q _ => ∃ (p dx : Addr), vs = [.ref p] ∧ H p = some (.ins C dx []) ∧ ∀ H' : Hp, KeepAt P w C H' p [] → (∀ b o, H b = some o → b ≠ p → H' b = some o) → Q .non H'
theorem scKInit : FnScope ["self"] ["self"] (defScope sKInit) := ⟨rfl, rfl, rfl, by decide +kernel, rfl, by decide +kernel, by decide +kernel⟩
theorem ok_KInit {f : Addr} {fd : FuncData} (F : Fun K "__init__" "Keeper.__init__" sKInit f fd) (T : TKeep K mg C) : FnOk P w K mg base CX0 1 f fd ["self"] (spKInit P w C) := by
  refine F.ok scKInit (fun vs H Q E h => ?_) (fun cdv A outer s H vs Q E hr h => ⟨_, pss_one (ps_fld (pv 0) pe_dnewN rfl), ?_⟩)
  · obtain ⟨p, dx, rfl, _⟩ := h
    rfl
  · obtain ⟨p, dx, rfl, hp, k⟩ := h
    intro d nd
    have dp : p ≠ d := ne_of_none hp nd
    refine ⟨_, rfl, p, C, dx, [], rfl, (upd_ne dp).trans hp, T.cl, T.nT, (by show 0 < 1000; decide), ?_⟩
    refine k _ ⟨dx, d, Eq.trans upd_same (congrArg (fun q => some (HO.ins C dx q)) (kF_new d)), ⟨[], ?_, .nil⟩, Good.nil⟩ fun b o e hb => ?_
    · exact (upd_ne dp.symm).trans upd_same
    · rw [upd_ne hb, upd_ne (ne_of_none e nd)]; exact e
/-! begin -/
def spKBegin (P : Program) (w : World) (C : Addr) : Sp := fun vs H Q _ => ∃ (a : Addr) (R : List Row), vs = [.ref a] ∧ KeepAt P w C H a R ∧ Told P w C H a [] [0] Q
theorem scKBegin : FnScope ["self"] ["self"] (defScope sKBegin) := ⟨rfl, rfl, rfl, by decide +kernel, rfl, by decide +kernel, by decide +kernel⟩
theorem ok_KBegin {f : Addr} {fd : FuncData} (F : Fun K "begin" "Keeper.begin" sKBegin f fd) (T : TKeep K mg C) : FnOk P w K mg base CX0 1 f fd ["self"] (spKBegin P w C) := by
  refine F.ok scKBegin (fun vs H Q E h => ?_) (fun cdv A outer s H vs Q E hr h => ⟨_, pss_cons (ps_fld (pv 0) pe_dnewN rfl) (pss_one (ps_ret (pe_lst (pa_cons pe_int pa_nil)))), ?_⟩)
  · obtain ⟨a, R, rfl, _⟩ := h
    rfl
  · obtain ⟨a, R, rfl, ⟨dx, d0, ha, hT, hG⟩, k⟩ := h
    intro d nd
    have da : a ≠ d := ne_of_none ha nd
    refine ⟨_, rfl, a, C, dx, _, rfl, (upd_ne da).trans ha, T.cl, T.nT, (by show 1 < 1000; decide), ?_⟩
    refine ⟨by show 1 ≤ sizeLine; rw [sizeLine_eq]; decide, fun l nl => ?_⟩
    have h1 : upd (upd H d (DN P w d [])) a (.ins C dx (putF ("table" : Str) (.ref d) (kF d0))) a = some (.ins C dx (kF d)) := Eq.trans upd_same (congrArg (fun q => some (HO.ins C dx q)) (kF_put d0 d))
    have la : a ≠ l := ne_of_none upd_same nl
    have nl1 : upd H d (DN P w d []) l = none := by
      have z := nl
      rw [upd_ne la.symm] at z
      exact z
    have ld : d ≠ l := ne_of_none upd_same nl1
    have nl0 : H l = none := by rw [upd_ne ld.symm] at nl1; exact nl1
    refine k _ l ⟨dx, d, ?_, ⟨[], ?_, .nil⟩, Good.nil⟩ (fun b o e hb => ?_) nl0 upd_same
    · rw [upd_ne la]; exact h1
    · rw [upd_ne ld, upd_ne da.symm]; exact upd_same
    · rw [upd_ne (ne_of_none e nl0), upd_ne hb, upd_ne (ne_of_none e nd)]; exact e
/-! write -/
def writeA (R : List Row) : List Int := ((textOf R).length : Int) :: (textOf R).map fun (n : Nat) => (n : Int)
def spKWrite (P : Program) (w : World) (C : Addr) : Sp := fun vs H Q _ => ∃ (a : Addr) (R : List Row), vs = [.ref a] ∧ KeepAt P w C H a R ∧ Told P w C H a R (writeA R) Q
theorem scKWrite : FnScope ["self", "text"] ["self"] (defScope sKWrite) := ⟨rfl, rfl, rfl, by decide +kernel, rfl, by decide +kernel, by decide +kernel⟩
theorem iv_int (l : List Nat) : ivs l = (l.map fun (n : Nat) => (n : Int)).map V.int := by rw [List.map_map]; rfl
theorem ok_KWrite {f : Addr} {fd : FuncData} (F : Fun K "write" "Keeper.write" sKWrite f fd) (T : TKeep K mg C) (TC : TC mg) (cT : Cal P w K mg base 2 "text_of" (spTextOf P w K)) : FnOk P w K mg base CX0 3 f fd ["self"] (spKWrite P w C) := by
  refine F.ok scKWrite (fun vs H Q E h => ?_) (fun cdv A outer s H vs Q E hr h => ⟨_, pss_cons (ps_set (i := 1) scKWrite.nd rfl (Or.inl rfl) (pe_c cT hr (by decide) rfl (pa_cons (pe_fld (pv 0) rfl) pa_nil)))
      (pss_one (ps_ret (pe_op op_cat (pe_lst (pa_cons (pe_callB call_len_seq (by rfl) TC.len PySem.boot_len (pa_cons (pv 1) pa_nil)) pa_nil)) (pv 1)))), ?_⟩)
  · obtain ⟨a, R, rfl, _⟩ := h
    rfl
  · obtain ⟨a, R, rfl, hk, k⟩ := h
    obtain ⟨dx, d, ha, hT, hG⟩ := id hk
    have lt := textOf_len hG.short hG.few
    have sz : 32 * 65600 + 1 ≤ sizeLine := by rw [sizeLine_eq]; decide
    refine ⟨_, rfl, a, C, dx, _, _, rfl, ha, T.cl, T.nT, kF_table _, d, R, rfl, hT, hG.short, hG.dist, hG.few, fun H1 p s1 np hp => ?_⟩
    refine ⟨_, rfl, p, _, rfl, .inl (.inl (.inl hp)), by show 1 ≤ sizeLine; omega, fun q nq => ⟨_, rfl, q, p, _, _, rfl, rfl, upd_same, (upd_ne (ne_of_none hp nq)).trans hp, by rw [List.length_map, List.length_singleton]; omega, fun l nl => ?_⟩⟩
    have e : [V.int ((ivs (textOf R)).length : Int)] ++ ivs (textOf R) = (writeA R).map V.int := by
      rw [List.length_map, iv_int]; rfl
    rw [e]
    exact k.same hk (Same.new s1 nq) nl
end
end Slip
end
/-! ## PKeC -/
section
set_option Elab.async false
set_option linter.all false
set_option maxRecDepth 100000
set_option maxHeartbeats 2000000
namespace Slip
open PySem PySem.Spec PyProof.Rows L2
open PySem.W (alike dataLe AllAlike Sortable EachIs)
open SySlip (best Meaning)
/-- what read tells, and the rows then -/
def readA (R : List Row) (l : List Nat) : List Row × List Int := match tableOf l with
  | .ok R' => (R', [(R'.length : Int)])
  | .error (i, k) => (R, [-2, (i : Int), (k : Int)])
def costA (R : List Row) (l m : List Nat) : List Int := if 24 < l.length ∨ 33 < m.length then [-1] else if SySpell.isLetters l = false ∨ SySpell.isLetters m = false then [-3] else match leastCost R l m with
  | some c => [(c : Int)]
  | none => [-5]
section
variable {P : Program} {w : World} {K : PySem.W.Frag} {mg : Str → Option Value} {base : Heap} {C CF fI : Addr}
def spKRead (P : Program) (w : World) (C : Addr) : Sp := fun vs H Q _ => ∃ (a t : Addr) (R : List Row) (l : List Nat), vs = [.ref a, .ref t] ∧ KeepAt P w C H a R ∧ H t = some (.lst (ivs l)) ∧ l.length ≤ 61000 ∧ Told P w C H a (readA R l).1 (readA R l).2 Q
theorem scKRead : FnScope ["self", "text", "table", "fault"] ["self", "text"] (defScope sKRead) := ⟨rfl, rfl, rfl, by decide +kernel, rfl, by decide +kernel, by decide +kernel⟩
theorem ok_KRead {f ft : Addr} {fd fdT : FuncData} (F : Fun K "read" "Keeper.read" sKRead f fd) (T : TKeep K mg C) (TC : TC mg) (TF : PySem.FauX.FauTxt K mg CF fI) (GT : FnOk P w K mg base (L2.CX P w) 4 ft fdT ["text"] (spTable P w K CF)) (gT : mg "table_of" = some (.ref ft)) (kT : PySem.W.keepIn K (.ref ft) = true) (bT : Binds K fdT ["text"] []) :
    FnOk P w K mg base CX0 5 f fd ["self", "text"] (spKRead P w C) := by
  refine F.ok scKRead (fun vs H Q E h => ?_) (fun cdv A outer s H vs Q E hr h => ⟨_, pss_cons (ps_if (pt_cmpR op_gt (pe_callB call_len_seq (by rfl) TC.len PySem.boot_len (pa_cons (pv 1) pa_nil)) (pe_k rfl TC.MOST_BYTES) (nomark _)) (pss_one (ps_ret (pe_lst (pa_cons (pe_k rfl T.TOO_GREAT) pa_nil)))) pss_nil)
      (pss_cons (ps_try_as (i := 3) (tb := fun W => tAsg (tCallS (spTable P w K CF) (WE W) (tCons (tVar 1) tNil)) (gName 2)) (ts := fun a cls d => tRet (tLst (tCons (tC (.int (-2))) (tCons (tXf a cls d CF "line" (tVar 3)) (tCons (tXf a cls d CF "kind" (tVar 3)) tNil))))) (Wout := fun _ _ _ _ => False)
          rfl rfl scKRead.nd rfl rfl ⟨rfl, by decide, Or.inl TF.gC⟩ takes0
          (fun W pn xe tk _ => pss_one (ps_set (i := 2) scKRead.nd rfl (Or.inl rfl) (by exact (pe_callS GT hr rfl gT kT bT (fun σ => passAt tk σ) (by exact (pa_cons (pv 1) pa_nil))))))
          (fun a oe cls d pn hz hf => pss_one (ps_ret (by exact (pe_lst (pa_cons (pe_k rfl T.FAULT) (pa_cons (pe_xf (fau_xf TF) TF.noL hz hf (pv 3)) (pa_cons (pe_xf (fau_xf TF) TF.noK hz hf (pv 3)) pa_nil))))))))
      (pss_cons (ps_fld (pv 0) (pv 2) rfl)
      (pss_one (ps_ret (pe_lst (pa_cons (pe_callB call_len_N (by rfl) TC.len PySem.boot_len (pa_cons (pv 2) pa_nil)) pa_nil)))))), ?_⟩)
  · obtain ⟨a, t, R, l, rfl, _⟩ := h
    rfl
  · obtain ⟨a, t, R, l, rfl, hk, ht, hl, k⟩ := h
    have sz : 61000 < sizeLine := by rw [sizeLine_eq]; decide
    refine ⟨_, rfl, _, _, rfl, .inl (.inl (.inl ht)), _, _, rfl, rfl, _, rfl, ite2 (fun c1 => ?_) (fun c1 => ?_)⟩
    · have c1 := of_decide_eq_true c1
      rw [List.length_map] at c1
      omega
    obtain ⟨dx, d0, ha, hT0, hG0⟩ := id hk
    · refine ⟨_, rfl, t, l, rfl, .inl (.inl (.inl ht)), by omega, fun R' e H1 d s1 nd hT => ?_, fun i k' e H1 d s1 nd => ⟨true, TF.te, fun _ a0 na => ?_, fun q => Bool.noConfusion q⟩⟩
      · have ek : readA R l = (R', [(R'.length : Int)]) := by unfold readA; rw [e]
        rw [ek] at k
        have hG := tableOf_good e
        have ha1 := s1 _ _ ha
        have da : a ≠ d := ne_of_none ha nd
        refine ⟨_, rfl, _, rfl, a, C, dx, _, rfl, ha1, T.cl, T.nT, (by show 1 < 1000; decide), ?_⟩
        have h2a : upd H1 a (.ins C dx (putF ("table" : Str) (.ref d) (kF d0))) a = some (.ins C dx (kF d)) := Eq.trans upd_same (congrArg (fun q => some (HO.ins C dx q)) (kF_put d0 d))
        have h2 : ∀ b o, H1 b = some o → b ≠ a → upd H1 a (.ins C dx (putF ("table" : Str) (.ref d) (kF d0))) b = some o := fun b o e hb => by rw [upd_ne hb]; exact e
        have n2 : ∀ b, upd H1 a (.ins C dx (putF ("table" : Str) (.ref d) (kF d0))) b = none → H1 b = none := fun b e => by
          by_cases z : b = a
          · rw [z, upd_same] at e; cases e
          · rw [upd_ne z] at e; exact e
        generalize upd H1 a (.ins C dx (putF ("table" : Str) (.ref d) (kF d0))) = H2 at h2a h2 n2
        obtain ⟨es, hd, hp⟩ := hT
        have hp2 : Paired (EntIs H2) es R' := Paired.mapP hp fun x r ⟨a1, a2, a3⟩ => ⟨a1, a2, a3.keep fun b xs z => h2 _ _ z (ne_of z ha1 (by intro y; cases y))⟩
        refine ⟨_, rfl, d, es, rfl, .inl (h2 _ _ hd da.symm), ents_keys hp2, by show 1 ≤ sizeLine; omega, fun p np => ?_⟩
        have nH : H p = none := s1.free (n2 _ np)
        have sp : Same H2 (upd H2 p (.lst [V.int es.length])) := Same.new (Same.refl _) np
        have lE : es.length = R'.length := Paired.length hp
        refine k _ p ⟨dx, d, sp _ _ h2a, TblAt.same sp ⟨es, h2 _ _ hd da.symm, hp2⟩, hG⟩ (fun b o e hb => sp _ _ (h2 _ _ (s1 _ _ e) hb)) nH ?_
        rw [upd_same, lE]; rfl
      · have ek : readA R l = (R, [-2, (i : Int), (k' : Int)]) := by unfold readA; rw [e]
        rw [ek] at k
        have sX : Same H1 (upd H1 d (.xd (fauF (iv i) (iv k')))) := Same.new (Same.refl _) nd
        refine ⟨_, rfl, rfl, rfl, d, _, _, rfl, upd_same, rfl, _, rfl, rfl, rfl, d, _, _, rfl, upd_same, rfl, by show 3 ≤ sizeLine; omega, fun p np => ?_⟩
        exact k.same hk (s1.trans sX) np
end
end Slip
end
/-! ## PKeD -/
section
set_option Elab.async false
set_option linter.all false
set_option maxRecDepth 100000
set_option maxHeartbeats 2000000
namespace Slip
open PySem PySem.Spec PyProof.Rows L2
open PySem.W (alike dataLe AllAlike Sortable EachIs)
open SySlip (best Meaning)
section
variable {P : Program} {w : World} {K : PySem.W.Frag} {mg : Str → Option Value} {base : Heap} {C CF fI : Addr}
def spKCost (P : Program) (w : World) (C : Addr) : Sp := fun vs H Q _ => ∃ (a t u : Addr) (R : List Row) (l m : List Nat), vs = [.ref a, .ref t, .ref u] ∧ KeepAt P w C H a R ∧ H t = some (.lst (ivs l)) ∧ H u = some (.lst (ivs m)) ∧ Told P w C H a R (costA R l m) Q
theorem scKCost : FnScope ["self", "typed", "meant", "cost"] ["self", "typed", "meant"] (defScope sKCost) := ⟨rfl, rfl, rfl, by decide +kernel, rfl, by decide +kernel, by decide +kernel⟩
theorem ivs_gt {n : Nat} {l : List Nat} : decide ((n : Int) < ((ivs l).length : Int)) = true ↔ n < l.length := by
  rw [decide_eq_true_eq, List.length_map]; omega
theorem one_len (n : Int) : ([V.int n]).length ≤ sizeLine := by show 1 ≤ sizeLine; rw [sizeLine_eq]; decide
theorem ok_KCost {f : Addr} {fd : FuncData} (F : Fun K "cost_of" "Keeper.cost_of" sKCost f fd) (T : TKeep K mg C) (TC : TC mg) (cL : Cal P w K mg base 1 "are_letters" (spLetters K)) (cC : Cal P w K mg base 4 "least_cost" (spLeast P w K)) :
    FnOk P w K mg base CX0 5 f fd ["self", "typed", "meant"] (spKCost P w C) := by
  refine F.ok scKCost (fun vs H Q E h => ?_) (fun cdv A outer s H vs Q E hr h => ⟨_, pss_cons (ps_if (PW.pt (pw_or (pt_cmpR op_gt (pe_callB call_len_seq (by rfl) TC.len PySem.boot_len (pa_cons (pv 1) pa_nil)) (pe_k rfl T.MOST_TYPED) (nomark _)) (pw_or1 (pt_cmpR op_gt (pe_callB call_len_seq (by rfl) TC.len PySem.boot_len (pa_cons (pv 2) pa_nil)) (pe_k rfl T.MOST_MEANT) (nomark _))))) (pss_one (ps_ret (pe_lst (pa_cons (pe_k rfl T.TOO_GREAT) pa_nil)))) pss_nil)
      (pss_cons (ps_if (PW.pt (pw_or (pt_not (pt_val (pe_c cL hr (by decide) rfl (pa_cons (pv 1) pa_nil)))) (pw_or1 (pt_not (pt_val (pe_c cL hr (by decide) rfl (pa_cons (pv 2) pa_nil))))))) (pss_one (ps_ret (pe_lst (pa_cons (pe_k rfl T.NO_LETTERS) pa_nil)))) pss_nil)
      (pss_cons (ps_set (i := 3) scKCost.nd rfl (Or.inl rfl) (pe_c cC hr (by decide) rfl (pa_cons (pe_fld (pv 0) rfl) (pa_cons (pe_callTy call_tuple_of (by rfl) TC.tuple (by decide +kernel) (pa_cons (pv 1) pa_nil)) (pa_cons (pv 2) pa_nil)))))
      (pss_cons (ps_if (pt_cmp (pc_isN (pv 3))) (pss_one (ps_ret (pe_lst (pa_cons (pe_k rfl T.NONE_SUCH) pa_nil)))) pss_nil)
      (pss_one (ps_ret (pe_lst (pa_cons (pv 3) pa_nil))))))), ?_⟩)
  · obtain ⟨a, t, u, R, l, m, rfl, _⟩ := h
    rfl
  · obtain ⟨a, t, u, R, l, m, rfl, hk, ht, hu, k⟩ := h
    obtain ⟨dx, d0, ha, hT0, hG0⟩ := id hk
    unfold costA at k
    refine ⟨_, rfl, _, _, rfl, .inl (.inl (.inl ht)), _, _, rfl, rfl, _, rfl, ?_⟩
    refine ite2 (fun c1 => iteT ?_) (fun c1 => ⟨_, rfl, _, _, rfl, .inl (.inl (.inl hu)), _, _, rfl, rfl, _, rfl, ite2 (fun c2 => ?_) (fun c2 => ?_)⟩)
    · rw [if_pos (.inl ((ivs_gt (n := 24)).mp c1))] at k
      exact ⟨one_len _, fun p np => k.same hk (Same.refl H) np⟩
    · rw [if_pos (.inr ((ivs_gt (n := 33)).mp c2))] at k
      exact ⟨one_len _, fun p np => k.same hk (Same.refl H) np⟩
    have c1 : ¬ 24 < l.length := fun z => c1 (ivs_gt.mpr z)
    have c2 : ¬ 33 < m.length := fun z => c2 (ivs_gt.mpr z)
    rw [if_neg (fun z => z.elim c1 c2)] at k
    refine ⟨_, rfl, t, l, rfl, .inl (.inl (.inl ht)), _, rfl, ?_⟩
    cases e1 : SySpell.isLetters l with
    | false =>
      rw [if_pos (.inl e1)] at k
      exact iteT (iteT ⟨one_len _, fun p np => k.same hk (Same.refl H) np⟩)
    | true =>
    refine iteF ⟨_, rfl, u, m, rfl, .inl (.inl (.inl hu)), _, rfl, ?_⟩
    cases e2 : SySpell.isLetters m with
    | false =>
      rw [if_pos (.inr e2)] at k
      exact iteT ⟨one_len _, fun p np => k.same hk (Same.refl H) np⟩
    | true =>
    rw [if_neg (by rw [e1, e2]; decide)] at k
    refine iteF ⟨_, rfl, a, C, dx, _, _, rfl, ha, T.cl, T.nT, kF_table _, _, rfl, t, _, rfl, .inl ⟨.inl (.inl ht), fun q nq => ?_⟩⟩
    have sq : Same H (upd H q (.tup (ivs l))) := Same.new (Same.refl H) nq
    refine ⟨_, rfl, d0, q, u, R, l, m, rfl, hT0.same sq, hG0.tab, upd_same, by omega, .inl (.inl (.inl (sq _ _ hu))), fun H1 s1 => ?_⟩
    have s2 : Same H H1 := sq.trans s1
    refine ⟨_, rfl, ?_⟩
    cases e3 : leastCost R l m with
    | none =>
      rw [e3] at k
      refine ⟨_, rfl, iteT ⟨one_len _, fun p np => k.same hk s2 np⟩⟩
    | some c =>
      rw [e3] at k
      refine ⟨_, rfl, iteF ⟨_, rfl, one_len _, fun p np => k.same hk s2 np⟩⟩
end
end Slip
end
/-! ## PKeE -/
section
set_option Elab.async false
set_option linter.all false
set_option maxRecDepth 100000
set_option maxHeartbeats 2000000
namespace Slip
open PySem PySem.Spec PyProof.Rows L2
open PySem.W (alike dataLe AllAlike Sortable EachIs)
open SySlip (best Meaning)
def intsN (l : List Nat) : List Int := l.map fun (n : Nat) => (n : Int)
def nthA (R : List Row) (l : List Nat) (i : Nat) : List Int := if 24 < l.length ∨ 64 ≤ i then [-1] else if SySpell.isLetters l = false then [-3] else match (best (slipsOf R) l)[i]? with
  | some x => (x.1.length : Int) :: (x.2 : Int) :: intsN x.1
  | none => [-5]
def rowA (x : Meaning) : List Int := (x.2 : Int) :: (x.1.length : Int) :: intsN x.1
def allA (R : List Row) (l : List Nat) : List Int := if 24 < l.length then [-1] else if SySpell.isLetters l = false then [-3] else ((best (slipsOf R) l).length : Int) :: (best (slipsOf R) l).flatMap rowA
theorem best_len {R : List Row} (h : Short R) {l : List Nat} {x : Meaning} (m : x ∈ best (slipsOf R) l) : x.1.length ≤ l.length + 9 :=
  (cut_cost h ((SM.best_first (slipsOf R) l).least x m).1).2
theorem best_few (R : List Row) (l : List Nat) : (best (slipsOf R) l).length ≤ 64 := (SM.best_first (slipsOf R) l).few
section
variable {P : Program} {w : World} {K : PySem.W.Frag} {mg : Str → Option Value} {base : Heap} {C CF fI : Addr}
def spKNth (P : Program) (w : World) (C : Addr) : Sp := fun vs H Q _ => ∃ (a t : Addr) (i : Nat) (R : List Row) (l : List Nat), vs = [.ref a, .ref t, iv i] ∧ KeepAt P w C H a R ∧ H t = some (.lst (ivs l)) ∧ Told P w C H a R (nthA R l i) Q
theorem scKNth : FnScope ["self", "typed", "number", "rows", "cost", "letters"] ["self", "typed", "number"] (defScope sKNth) := ⟨rfl, rfl, rfl, by decide +kernel, rfl, by decide +kernel, by decide +kernel⟩
theorem ok_KNth {f : Addr} {fd : FuncData} (F : Fun K "nth_row" "Keeper.nth_row" sKNth f fd) (T : TKeep K mg C) (TC : TC mg) (cL : Cal P w K mg base 1 "are_letters" (spLetters K)) (cB : Cal P w K mg base 4 "likeliest" (spLikeliest P w)) :
    FnOk P w K mg base CX0 5 f fd ["self", "typed", "number"] (spKNth P w C) := by
  refine F.ok scKNth (fun vs H Q E h => ?_) (fun cdv A outer s H vs Q E hr h => ⟨_, pss_cons (ps_if (PW.pt (pw_or (pt_cmpR op_gt (pe_callB call_len_seq (by rfl) TC.len PySem.boot_len (pa_cons (pv 1) pa_nil)) (pe_k rfl T.MOST_TYPED) (nomark _)) (pw_or1 (pt_cmpR op_ge (pv 2) (pe_k rfl T.MOST_ROWS) (nomark _))))) (pss_one (ps_ret (pe_lst (pa_cons (pe_k rfl T.TOO_GREAT) pa_nil)))) pss_nil)
      (pss_cons (ps_if (pt_not (pt_val (pe_c cL hr (by decide) rfl (pa_cons (pv 1) pa_nil)))) (pss_one (ps_ret (pe_lst (pa_cons (pe_k rfl T.NO_LETTERS) pa_nil)))) pss_nil)
      (pss_cons (ps_set (i := 3) scKNth.nd rfl (Or.inl rfl) (pe_c cB hr (by decide) rfl (pa_cons (pe_fld (pv 0) rfl) (pa_cons (pe_callTy call_tuple_of (by rfl) TC.tuple (by decide +kernel) (pa_cons (pv 1) pa_nil)) (pa_cons (pe_op op_add (pv 2) pe_int) pa_nil)))))
      (pss_cons (ps_if (pt_cmpR op_ge (pv 2) (pe_callB call_len_seq (by rfl) TC.len PySem.boot_len (pa_cons (pv 3) pa_nil)) (nomark _)) (pss_one (ps_ret (pe_lst (pa_cons (pe_k rfl T.NONE_SUCH) pa_nil)))) pss_nil)
      (pss_cons (ps_set (i := 4) scKNth.nd rfl (Or.inl rfl) (pe_ix ix_tup (pe_ix ix_list (pv 3) (pv 2) (fun _ _ => rfl)) pe_int (fun _ _ => rfl)))
      (pss_cons (ps_set (i := 5) scKNth.nd rfl (Or.inl rfl) (pe_callTy call_list_of (by rfl) TC.list (by decide +kernel) (pa_cons (pe_ix ix_tup (pe_ix ix_list (pv 3) (pv 2) (fun _ _ => rfl)) pe_int (fun _ _ => rfl)) pa_nil)))
      (pss_one (ps_ret (pe_op op_cat (pe_lst (pa_cons (pe_callB call_len_seq (by rfl) TC.len PySem.boot_len (pa_cons (pv 5) pa_nil)) (pa_cons (pv 4) pa_nil))) (pv 5))))))))), ?_⟩)
  · obtain ⟨a, t, i, R, l, rfl, _⟩ := h
    rfl
  · obtain ⟨a, t, i, R, l, rfl, hk, ht, k⟩ := h
    obtain ⟨dx, d0, ha, hT0, hG0⟩ := id hk
    have sz : 1000 < sizeLine := by rw [sizeLine_eq]; decide
    unfold nthA at k
    refine ⟨_, rfl, _, _, rfl, .inl (.inl (.inl ht)), _, _, rfl, rfl, _, rfl, ?_⟩
    refine ite2 (fun c1 => iteT ?_) (fun c1 => ⟨_, rfl, _, _, rfl, rfl, _, rfl, ite2 (fun c2 => ?_) (fun c2 => ?_)⟩)
    · rw [if_pos (.inl ((ivs_gt (n := 24)).mp c1))] at k
      exact ⟨one_len _, fun p np => k.same hk (Same.refl H) np⟩
    · rw [if_pos (.inr (by have := of_decide_eq_true c2; omega))] at k
      exact ⟨one_len _, fun p np => k.same hk (Same.refl H) np⟩
    have c1 : ¬ 24 < l.length := fun z => c1 (ivs_gt.mpr z)
    have c2 : ¬ 64 ≤ i := fun z => c2 (decide_eq_true (by omega))
    rw [if_neg (fun z => z.elim c1 c2)] at k
    refine ⟨_, rfl, t, l, rfl, .inl (.inl (.inl ht)), _, rfl, ?_⟩
    cases e1 : SySpell.isLetters l with
    | false =>
      rw [if_pos e1] at k
      exact iteT ⟨one_len _, fun p np => k.same hk (Same.refl H) np⟩
    | true =>
    rw [if_neg (by rw [e1]; decide)] at k
    refine iteF ⟨_, rfl, a, C, dx, _, _, rfl, ha, T.cl, T.nT, kF_table _, _, rfl, t, _, rfl, .inl ⟨.inl (.inl ht), fun q nq => ?_⟩⟩
    have sq : Same H (upd H q (.tup (ivs l))) := Same.new (Same.refl H) nq
    refine ⟨_, rfl, _, _, rfl, rfl, ?_⟩
    refine ⟨d0, q, R, l, i + 1, rfl, hT0.same sq, hG0.tab, upd_same, by omega, by omega, by omega, fun H1 p xs s1 np hp hm => ?_⟩
    have s2 : Same H H1 := sq.trans s1
    have lX : xs.length = (List.take (i + 1) (best (slipsOf R) l)).length := Paired.length hm
    rw [List.length_take] at lX
    refine ⟨_, rfl, _, rfl, p, xs, rfl, .inl (.inl (.inl hp)), _, _, rfl, rfl, _, rfl, ite2 (fun c3 => ?_) (fun c3 => ?_)⟩
    · have c3 := of_decide_eq_true c3
      have e : (best (slipsOf R) l)[i]? = none := List.getElem?_eq_none (by omega)
      rw [e] at k
      exact ⟨one_len _, fun p np => k.same hk s2 np⟩
    · have c3 : i < (best (slipsOf R) l).length := by
        have : ¬ (xs.length : Int) ≤ (i : Int) := fun z => c3 (decide_eq_true z)
        omega
      obtain ⟨x, ex⟩ : ∃ x, (best (slipsOf R) l)[i]? = some x := ⟨_, List.getElem?_eq_getElem c3⟩
      rw [ex] at k
      have ex2 : (List.take (i + 1) (best (slipsOf R) l))[i]? = some x := by rw [List.getElem?_take_of_lt (by omega)]; exact ex
      have li : i < xs.length := by omega
      have ev : xs[i]? = some xs[i] := List.getElem?_eq_getElem li
      obtain ⟨x', ex', y, z, ey, hy, hz⟩ := paired_get hm ev
      obtain rfl : x = x' := by rw [ex2] at ex'; injection ex'
      rw [ey] at ev
      have lx := best_len hG0.short (List.mem_of_getElem? ex)
      refine ⟨_, rfl, _, rfl, p, xs, i, _, rfl, rfl, .inl (.inl hp), atI_nat ev, y, [iv x.2, .ref z], 0, iv x.2, rfl, rfl, .inl (.inl hy), atI_nat rfl, ?_⟩
      refine ⟨_, rfl, _, rfl, p, xs, i, _, rfl, rfl, .inl (.inl hp), atI_nat ev, y, [iv x.2, .ref z], 1, .ref z, rfl, rfl, .inl (.inl hy), atI_nat rfl, z, _, rfl, .inr (.inl (.inl hz)), fun b nb => ?_⟩
      have sb : Same H1 (upd H1 b (.lst (ivs x.1))) := Same.new (Same.refl H1) nb
      refine ⟨_, rfl, b, _, rfl, .inl (.inl (.inl upd_same)), _, rfl, by show 2 ≤ sizeLine; omega, fun c nc => ⟨_, rfl, c, b, _, _, rfl, rfl, upd_same, (upd_ne (ne_of_none upd_same nc)).trans upd_same, by rw [List.length_map]; show 2 + _ ≤ _; omega, fun r nr => ?_⟩⟩
      have e : [V.int ((ivs x.1).length : Int), iv x.2] ++ ivs x.1 = ((x.1.length : Int) :: (x.2 : Int) :: intsN x.1).map V.int := by
        rw [List.length_map, iv_int]; rfl
      rw [e]
      exact k.same hk ((s2.trans sb).trans (Same.new (Same.refl _) nc)) nr
end
end Slip
end
/-! ## PKeF -/
section
set_option Elab.async false
set_option linter.all false
set_option maxRecDepth 100000
set_option maxHeartbeats 2000000
namespace Slip
open PySem PySem.Spec PyProof.Rows L2
open PySem.W (alike dataLe AllAlike Sortable EachIs)
open SySlip (best Meaning)
theorem rows_len {l : List Nat} : ∀ (B : List Meaning), (∀ x ∈ B, x.1.length ≤ l.length + 9) → (B.flatMap rowA).length ≤ B.length * (l.length + 11)
  | [], _ => Nat.zero_le _
  | x :: B, h => by
    have ih := rows_len B fun y m => h y (.tail _ m)
    have := h x (.head _)
    rw [List.flatMap_cons, List.length_append, List.length_cons, Nat.succ_mul]
    have : (rowA x).length = x.1.length + 2 := by unfold rowA intsN; simp
    omega
section
variable {P : Program} {w : World} {K : PySem.W.Frag} {mg : Str → Option Value} {base : Heap} {C CF fI : Addr}
def spKAll (P : Program) (w : World) (C : Addr) : Sp := fun vs H Q _ => ∃ (a t : Addr) (R : List Row) (l : List Nat), vs = [.ref a, .ref t] ∧ KeepAt P w C H a R ∧ H t = some (.lst (ivs l)) ∧ Told P w C H a R (allA R l) Q
theorem scKAll : FnScope ["self", "typed", "rows", "told", "cost", "letters"] ["self", "typed"] (defScope sKAll) := ⟨rfl, rfl, rfl, by decide +kernel, rfl, by decide +kernel, by decide +kernel⟩
theorem ok_KAll {f : Addr} {fd : FuncData} (F : Fun K "first_rows" "Keeper.first_rows" sKAll f fd) (T : TKeep K mg C) (TC : TC mg) (cL : Cal P w K mg base 1 "are_letters" (spLetters K)) (cB : Cal P w K mg base 4 "likeliest" (spLikeliest P w)) :
    FnOk P w K mg base CX0 5 f fd ["self", "typed"] (spKAll P w C) := by
  refine F.ok scKAll (fun vs H Q E h => ?_) (fun cdv A outer s H vs Q E hr h => ⟨_, pss_cons (ps_if (pt_cmpR op_gt (pe_callB call_len_seq (by rfl) TC.len PySem.boot_len (pa_cons (pv 1) pa_nil)) (pe_k rfl T.MOST_TYPED) (nomark _)) (pss_one (ps_ret (pe_lst (pa_cons (pe_k rfl T.TOO_GREAT) pa_nil)))) pss_nil)
      (pss_cons (ps_if (pt_not (pt_val (pe_c cL hr (by decide) rfl (pa_cons (pv 1) pa_nil)))) (pss_one (ps_ret (pe_lst (pa_cons (pe_k rfl T.NO_LETTERS) pa_nil)))) pss_nil)
      (pss_cons (ps_set (i := 2) scKAll.nd rfl (Or.inl rfl) (pe_c cB hr (by decide) rfl (pa_cons (pe_fld (pv 0) rfl) (pa_cons (pe_callTy call_tuple_of (by rfl) TC.tuple (by decide +kernel) (pa_cons (pv 1) pa_nil)) (pa_cons (pe_k rfl T.MOST_ROWS) pa_nil)))))
      (pss_cons (ps_set (i := 3) scKAll.nd rfl (Or.inl rfl) (pe_lst (pa_cons (pe_callB call_len_seq (by rfl) TC.len PySem.boot_len (pa_cons (pv 2) pa_nil)) pa_nil)))
      (pss_cons (ps_for PassesOwn.never rfl (pi_list (pv 2)) (pg_tup rfl (pgs_cons (pg_name (i := 4) scKAll.nd rfl (Or.inl rfl)) (pgs_cons (pg_name (i := 5) scKAll.nd rfl (Or.inl rfl)) pgs_nil)))
        (pss_cons (ps_expr (pe_bm PySem.F.plainAttrs_list PySem.F.slot_list_extend PySem.F.type_list_extend mt_extend (pv 3) (pa_cons (pe_lst (pa_cons (pv 4) (pa_cons (pe_callB call_len_seq (by rfl) TC.len PySem.boot_len (pa_cons (pv 5) pa_nil)) pa_nil))) pa_nil)))
        (pss_one (ps_expr (pe_bm PySem.F.plainAttrs_list PySem.F.slot_list_extend PySem.F.type_list_extend mt_extT (pv 3) (pa_cons (pv 5) pa_nil))))))
      (pss_one (ps_ret (pv 3))))))), ?_⟩)
  · obtain ⟨a, t, R, l, rfl, _⟩ := h
    rfl
  · obtain ⟨a, t, R, l, rfl, hk, ht, k⟩ := h
    obtain ⟨dx, d0, ha, hT0, hG0⟩ := id hk
    have sz : 10000 < sizeLine := by rw [sizeLine_eq]; decide
    unfold allA at k
    refine ⟨_, rfl, _, _, rfl, .inl (.inl (.inl ht)), _, _, rfl, rfl, _, rfl, ?_⟩
    refine ite2 (fun c1 => ?_) (fun c1 => ?_)
    · rw [if_pos ((ivs_gt (n := 24)).mp c1)] at k
      exact ⟨one_len _, fun p np => k.same hk (Same.refl H) np⟩
    have c1 : ¬ 24 < l.length := fun z => c1 (ivs_gt.mpr z)
    rw [if_neg c1] at k
    refine ⟨_, rfl, t, l, rfl, .inl (.inl (.inl ht)), _, rfl, ?_⟩
    cases e1 : SySpell.isLetters l with
    | false =>
      rw [if_pos e1] at k
      exact iteT ⟨one_len _, fun p np => k.same hk (Same.refl H) np⟩
    | true =>
    rw [if_neg (by rw [e1]; decide)] at k
    refine iteF ⟨_, rfl, a, C, dx, _, _, rfl, ha, T.cl, T.nT, kF_table _, _, rfl, t, _, rfl, .inl ⟨.inl (.inl ht), fun q nq => ?_⟩⟩
    have sq : Same H (upd H q (.tup (ivs l))) := Same.new (Same.refl H) nq
    refine ⟨d0, q, R, l, 64, rfl, hT0.same sq, hG0.tab, upd_same, by omega, by omega, by omega, fun H1 p xs s1 np hp hm => ?_⟩
    have s2 : Same H H1 := sq.trans s1
    rw [List.take_of_length_le (best_few R l)] at hm
    have lX : xs.length = (best (slipsOf R) l).length := Paired.length hm
    have lB := best_few R l
    have hB : ∀ x ∈ best (slipsOf R) l, x.1.length ≤ l.length + 9 := fun x m => best_len hG0.short m
    generalize best (slipsOf R) l = B at *
    refine ⟨_, rfl, _, _, rfl, .inl (.inl (.inl hp)), one_len _, fun d nd => ?_⟩
    have sd : Same H1 (upd H1 d (.lst [.int xs.length])) := Same.new (Same.refl H1) nd
    refine ⟨_, rfl, p, rfl, ⟨xs, .inl (.inl (sd _ _ hp))⟩, for_it walk_list (fun i σ H' => ∃ (v4 v5 : Option V), σ = [some (.ref a), some (.ref t), some (.ref p), some (.ref d), v4, v5] ∧ Same H1 H' ∧ H' d = some (.lst (((B.length : Int) :: (B.take i).flatMap rowA).map V.int))) ?_ (fun i σ H' _ ⟨_, _, _, sm, _⟩ => .inl (.inl (sm _ _ hp))) ?_ ?_⟩
    · exact ⟨none, none, rfl, sd, by rw [upd_same, lX]; rfl⟩
    · rintro i x σ H3 H4 hi ⟨v4, v5, rfl, sm, hd⟩ ⟨rfl, ex⟩
      obtain ⟨m, em, y, z, rfl, hy, hz⟩ := paired_get hm ex
      have s1 := sm _ _ hy
      have s3 := sm _ _ hz
      have hxl := hB m (List.mem_of_getElem? em)
      have hi2 : i < B.length := by omega
      have lT : ((B.take i).flatMap rowA).length ≤ 64 * (l.length + 11) := Nat.le_trans (rows_len _ fun x m => hB x (List.mem_of_mem_take m)) (Nat.mul_le_mul_right _ (by rw [List.length_take]; omega))
      refine ⟨_, _, rfl, .inl (.inl s1), rfl, _, _, rfl, _, _, rfl, rfl, ?_⟩
      refine ⟨_, rfl, .inl ⟨rfl, _, .inl (.inl hd)⟩, _, rfl, _, rfl, _, _, rfl, .inr (.inl (.inl s3)), by show 2 ≤ sizeLine; omega, fun b nb => ?_⟩
      have db : d ≠ b := ne_of_none hd nb
      refine ⟨d, b, _, _, rfl, rfl, (upd_ne db).trans hd, upd_same, by rw [List.length_map, List.length_cons]; show _ + 2 ≤ _; omega, ?_⟩
      have e4 : ∀ c o, H1 c = some o → upd (upd H4 b (.lst [iv m.2, .int (ivs m.1).length])) d (.lst (List.map V.int ((B.length : Int) :: (B.take i).flatMap rowA) ++ [iv m.2, .int (ivs m.1).length])) c = some o := fun c o e => by
        rw [upd_ne (ne_of_none e nd), upd_ne (ne_of_none (sm _ _ e) nb)]
        exact sm _ _ e
      refine ⟨_, rfl, .inl ⟨rfl, _, .inl (.inl upd_same)⟩, _, rfl, d, z, _, ivs m.1, rfl, rfl, upd_same, .inl (.inl (e4 _ _ hz)), by rw [List.length_append, List.length_map, List.length_cons, List.length_map]; show (_ + 1) + 2 + _ ≤ _; omega, ?_⟩
      refine ⟨_, _, rfl, fun c o e => ?_, ?_⟩
      · rw [upd_ne (ne_of_none e nd)]; exact e4 _ _ e
      · rw [upd_same, take_more em, List.flatMap_append, ← List.cons_append, List.map_append, List.flatMap_singleton, List.append_assoc, show [iv m.2, V.int (ivs m.1).length] ++ ivs m.1 = (rowA m).map V.int by rw [List.length_map, iv_int]; rfl]
    · rintro σ H3 ⟨v4, v5, rfl, sm, hd⟩
      rw [lX, List.take_length] at hd
      refine ⟨_, rfl, ?_⟩
      exact k H3 d (hk.same (s2.trans sm)) (fun b o e _ => sm _ _ (s2 _ _ e)) (s2.free nd) hd
end
end Slip
end
/-! ## PDsk -/
section
set_option Elab.async false
set_option linter.all false
set_option maxRecDepth 100000
set_option maxHeartbeats 2000000
namespace Slip
open PySem PySem.Spec PyProof.Rows L2
open PySem.W (alike dataLe AllAlike Sortable EachIs)
open SySlip (best Meaning)
/-- a call, as it is asked -/
inductive Ask where
  | begin_
  | read (l : List Nat)
  | write
  | cost (l m : List Nat)
  | nth (l : List Nat) (i : Nat)
  | all (l : List Nat)
def rowE (l : List Nat) : List Int := (l.length : Int) :: intsN l
def Ask.enc : Ask → List Int
  | .begin_ => [1]
  | .read l => 2 :: rowE l
  | .write => [3]
  | .cost l m => 4 :: (rowE l ++ rowE m)
  | .nth l i => 5 :: (i : Int) :: rowE l
  | .all l => 6 :: rowE l
def Ask.next (R : List Row) : Ask → List Row × List Int
  | .begin_ => ([], [0])
  | .read l => readA R l
  | .write => (R, writeA R)
  | .cost l m => (R, costA R l m)
  | .nth l i => (R, nthA R l i)
  | .all l => (R, allA R l)
theorem rowE_len (l : List Nat) : (rowE l).length = l.length + 1 := by unfold rowE intsN; simp
theorem drop_num {ns : List Int} {i : Nat} {x : Int} {r : List Int} (h : ns.drop i = x :: r) : (ns.map V.int)[i]? = some (.int x) ∧ ns.drop (i + 1) = r := by
  have h0 : i < ns.length := by
    have := congrArg List.length h
    rw [List.length_drop, List.length_cons] at this
    omega
  rw [List.drop_eq_getElem_cons h0] at h
  injection h with h1 h2
  refine ⟨?_, h2⟩
  rw [List.getElem?_map, List.getElem?_eq_getElem h0, h1]; rfl
theorem drop_row {ns : List Int} {i : Nat} {l : List Nat} {r : List Int} (h : ns.drop i = rowE l ++ r) : (ns.map V.int)[i]? = some (iv l.length) ∧ i + 1 + l.length ≤ (ns.map V.int).length ∧ ((ns.map V.int).drop (i + 1)).take l.length = ivs l ∧ ns.drop (i + 1 + l.length) = r := by
  have h' : ns.drop i = (l.length : Int) :: (intsN l ++ r) := h
  obtain ⟨h1, h2⟩ := drop_num h'
  have lI : (intsN l).length = l.length := List.length_map ..
  have hl : ns.length = i + 1 + (l.length + r.length) ∨ ns.length < i + 1 := by
    have := congrArg List.length h2
    rw [List.length_drop, List.length_append, lI] at this
    omega
  have h0 : i < (ns.map V.int).length := (List.getElem?_eq_some_iff.mp h1).1
  rw [List.length_map] at h0
  refine ⟨h1, by rw [List.length_map]; omega, ?_, ?_⟩
  · rw [← List.map_drop, h2, List.map_append]
    have : (List.map V.int (intsN l)).length = l.length := by rw [List.length_map, lI]
    rw [List.take_left' this, iv_int]; rfl
  · rw [← List.drop_drop, h2, List.drop_left' lI]
section
variable {P : Program} {w : World} {K : PySem.W.Frag} {mg : Str → Option Value} {base : Heap} {C CF CK fI : Addr}
/-- all but the object at a -/
def But (a : Addr) (H H' : Hp) : Prop := ∀ b o, H b = some o → b ≠ a → H' b = some o
theorem But.seq {a cl : Addr} {H H' : Hp} {ns : List V} {D dx : Addr} {F : List (Str × V)} (k : But a H H') (ha : H a = some (.ins D dx F)) (h : SqL K H cl ns) : SqL K H' cl ns := by
  rcases h with (h | ⟨o, h⟩) | h
  · exact .inl (.inl (k _ _ h (ne_of h ha (by intro z; cases z))))
  · exact .inl (.inr ⟨o, k _ _ h (ne_of h ha (by intro z; cases z))⟩)
  · exact .inr h
theorem But.feed {a fe cl : Addr} {i : Nat} {H H' : Hp} (k : But a H H') (ne : a ≠ fe) (h : FeedAt C H fe cl i) : FeedAt C H' fe cl i := by
  obtain ⟨dx, h⟩ := h
  exact ⟨dx, k _ _ h ne.symm⟩
theorem But.keep {a fe : Addr} {H H' : Hp} {R : List Row} {D dx : Addr} {F : List (Str × V)} (k : But fe H H') (ne : a ≠ fe) (hf : H fe = some (.ins D dx F)) (h : KeepAt P w C H a R) : KeepAt P w C H' a R := by
  obtain ⟨dx', d, h1, ⟨es, h2, h3⟩, h4⟩ := h
  exact ⟨dx', d, k _ _ h1 ne, ⟨es, k _ _ h2 (ne_of h2 hf (by intro z; unfold DN at z; cases z)), Paired.mapP h3 fun x r ⟨a1, a2, a3⟩ => ⟨a1, a2, a3.keep fun b xs e => k _ _ e (ne_of e hf (by intro z; cases z))⟩⟩, h4⟩
end
end Slip
end
/-! ## PDeA -/
section
set_option Elab.async false
set_option linter.all false
set_option maxRecDepth 100000
set_option maxHeartbeats 4000000
namespace Slip
open PySem PySem.Spec PyProof.Rows L2
open PySem.W (alike dataLe AllAlike Sortable EachIs)
open SySlip (best Meaning)
abbrev sAnswers : Stmt := top 61
abbrev sAnswerOf : Stmt := top 62
structure TDesk (mg : Str → Option Value) : Prop where
  BEGIN : ∃ t, mg "BEGIN" = some (.int 1 t)
  READ : ∃ t, mg "READ" = some (.int 2 t)
  WRITE : ∃ t, mg "WRITE" = some (.int 3 t)
  COST : ∃ t, mg "COST" = some (.int 4 t)
  NTH : ∃ t, mg "NTH" = some (.int 5 t)
  ALL : ∃ t, mg "ALL" = some (.int 6 t)
theorem ps_dead {X : Cx} {st : Stmt} : PS X st (fun _ _ => fun _ => False) := ⟨fun _ _ _ _ _ _ h => h.elim⟩
theorem no_but {H H' : Hp} {C fe cl b : Addr} {i : Nat} (k : But fe H H') (hf : FeedAt C H' fe cl i) (h : H' b = none) : H b = none := by
  obtain ⟨dx, hf⟩ := hf
  cases z : H b with
  | none => rfl
  | some o =>
    by_cases y : b = fe
    · rw [y, hf] at h; cases h
    · rw [k _ _ z y] at h; cases h
section
variable {P : Program} {w : World} {K : PySem.W.Frag} {mg : Str → Option Value} {base : Heap} {CF CK : Addr}
def spAnswerOf (P : Program) (w : World) (K : PySem.W.Frag) (CF CK : Addr) : Sp := fun vs H Q _ => ∃ (a fe cl : Addr) (i : Nat) (ns : List Int) (c : Ask) (rest : List Int) (R : List Row), vs = [.ref a, .ref fe] ∧ KeepAt P w CK H a R ∧ FeedAt CF H fe cl i ∧ a ≠ fe ∧ SqL K H cl (ns.map V.int) ∧ ns.length ≤ 61000 ∧ ns.drop i = c.enc ++ rest ∧
  ∀ (H' : Hp) (l : Addr), KeepAt P w CK H' a (c.next R).1 → FeedAt CF H' fe cl (i + c.enc.length) → (∀ b o, H b = some o → b ≠ a → b ≠ fe → H' b = some o) → H l = none → H' l = some (.lst ((c.next R).2.map V.int)) → Q (.ref l) H'
theorem scAnswerOf : FnScope ["keeper", "feed", "call", "typed", "number"] ["keeper", "feed"] (defScope sAnswerOf) := ⟨rfl, rfl, rfl, by decide +kernel, rfl, by decide +kernel, by decide +kernel⟩
theorem ok_AnswerOf {f : Addr} {fd : FuncData} (F : Fun K "answer_of" "answer_of" sAnswerOf f fd) (T : TDesk mg) (mN : Met P w K mg base 1 CF "number" (spNumber K CF)) (mR : Met P w K mg base 2 CF "row" (spRow K CF))
    (m1 : Met P w K mg base 1 CK "begin" (spKBegin P w CK)) (m2 : Met P w K mg base 5 CK "read" (spKRead P w CK)) (m3 : Met P w K mg base 3 CK "write" (spKWrite P w CK)) (m4 : Met P w K mg base 5 CK "cost_of" (spKCost P w CK)) (m5 : Met P w K mg base 5 CK "nth_row" (spKNth P w CK)) (m6 : Met P w K mg base 5 CK "first_rows" (spKAll P w CK)) :
    FnOk P w K mg base CX0 6 f fd ["keeper", "feed"] (spAnswerOf P w K CF CK) := by
  refine F.ok scAnswerOf (fun vs H Q E h => ?_) (fun cdv A outer s H vs Q E hr h => ⟨_, pss_cons (ps_set (i := 2) scAnswerOf.nd rfl (Or.inl rfl) (pe_mt0 mN hr (by decide) (pv 1)))
      (pss_cons (ps_if (pt_cmpR op_eq (pv 2) (pe_k rfl T.BEGIN) (nomark _)) (pss_one (ps_ret (pe_mt0 m1 hr (by decide) (pv 0)))) pss_nil)
      (pss_cons (ps_if (pt_cmpR op_eq (pv 2) (pe_k rfl T.READ) (nomark _)) (pss_one (ps_ret (pe_mt m2 hr (by decide) (pv 0) (pa_cons (pe_mt0 mR hr (by decide) (pv 1)) pa_nil)))) pss_nil)
      (pss_cons (ps_if (pt_cmpR op_eq (pv 2) (pe_k rfl T.WRITE) (nomark _)) (pss_one (ps_ret (pe_mt0 m3 hr (by decide) (pv 0)))) pss_nil)
      (pss_cons (ps_if (pt_cmpR op_eq (pv 2) (pe_k rfl T.COST) (nomark _)) (pss_cons (ps_set (i := 3) scAnswerOf.nd rfl (Or.inl rfl) (pe_mt0 mR hr (by decide) (pv 1))) (pss_one (ps_ret (pe_mt m4 hr (by decide) (pv 0) (pa_cons (pv 3) (pa_cons (pe_mt0 mR hr (by decide) (pv 1)) pa_nil)))))) pss_nil)
      (pss_cons (ps_if (pt_cmpR op_eq (pv 2) (pe_k rfl T.NTH) (nomark _)) (pss_cons (ps_set (i := 4) scAnswerOf.nd rfl (Or.inl rfl) (pe_mt0 mN hr (by decide) (pv 1))) (pss_one (ps_ret (pe_mt m5 hr (by decide) (pv 0) (pa_cons (pe_mt0 mR hr (by decide) (pv 1)) (pa_cons (pv 4) pa_nil)))))) pss_nil)
      (pss_cons (ps_if (pt_cmpR op_eq (pv 2) (pe_k rfl T.ALL) (nomark _)) (pss_one (ps_ret (pe_mt m6 hr (by decide) (pv 0) (pa_cons (pe_mt0 mR hr (by decide) (pv 1)) pa_nil)))) pss_nil)
      (pss_one ps_dead))))))), ?_⟩)
  · obtain ⟨a, fe, cl, i, ns, c, rest, R, rfl, _⟩ := h
    rfl
  · obtain ⟨a, fe, cl, i, ns, c, rest, R, rfl, hk, hf, ne, hS, hl, hd, k⟩ := h
    obtain ⟨dxf, hf0⟩ := id hf
    obtain ⟨x, r, ec⟩ : ∃ x r, c.enc ++ rest = x :: r := by cases c <;> exact ⟨_, _, rfl⟩
    rw [ec] at hd
    obtain ⟨d1, d2⟩ := drop_num hd
    refine ⟨_, rfl, fe, dxf, _, rfl, hf0, feF_number _ _, fe, cl, i, _, _, rfl, hf, hS, d1, fun H1 hf1 b1 fr1 => ?_⟩
    have hk1 := But.keep b1 ne hf0 hk
    have hS1 := But.seq b1 hf0 hS
    obtain ⟨dxf1, hf1'⟩ := id hf1
    obtain ⟨dxk, dk, hk1', _⟩ := id hk1
    have nof : ∀ {b : Addr}, H1 b = none → H b = none := fun {b} e => by
      cases z : H b with
      | none => rfl
      | some o =>
        by_cases y : b = fe
        · rw [y, hf1'] at e; cases e
        · rw [b1 _ _ z y] at e; cases e
    cases c with
    | begin_ =>
      injection ec with e1 e2
      subst e1
      refine ⟨_, rfl, rfl, _, rfl, iteT ⟨_, rfl, a, dxk, _, rfl, hk1', kF_none (by decide +kernel) _, a, R, rfl, hk1, fun H2 l hk2 b2 nl hl2 => ?_⟩⟩
      exact k H2 l hk2 (But.feed b2 ne hf1) (fun b o e n1 n2 => b2 _ _ (b1 _ _ e n2) n1) (nof nl) hl2
    | read l =>
      injection ec with e1 e2
      subst e1 e2
      obtain ⟨r1, r2, r3, r4⟩ := drop_row (l := l) (r := rest) d2
      refine ⟨_, rfl, rfl, _, rfl, iteF ⟨_, rfl, rfl, _, rfl, iteT ⟨_, rfl, a, dxk, _, rfl, hk1', kF_none (by decide +kernel) _, _, rfl, fe, dxf1, _, rfl, hf1', feF_row _ _, fe, cl, i + 1, l.length, _, rfl, hf1, hS1, r1, r2, fun H2 lp hf2 b2 nl2 hl2 => ?_⟩⟩⟩
      rw [r3] at hl2
      have hk2 := But.keep b2 ne hf1' hk1
      have ll : l.length ≤ 61000 := by rw [List.length_map] at r2; omega
      refine ⟨a, lp, R, l, rfl, hk2, hl2, ll, fun H3 q hk3 b3 nq hq => ?_⟩
      have hf3 := But.feed b3 ne hf2
      have ei : i + 1 + 1 + l.length = i + (Ask.read l).enc.length := by show _ = i + ((rowE l).length + 1); rw [rowE_len]; omega
      rw [ei] at hf3
      exact k H3 q hk3 hf3 (fun b o e n1 n2 => b3 _ _ (b2 _ _ (b1 _ _ e n2) n2) n1) (nof (no_but b2 hf2 nq)) hq
    | write =>
      injection ec with e1 e2
      subst e1
      refine ⟨_, rfl, rfl, _, rfl, iteF ⟨_, rfl, rfl, _, rfl, iteF ⟨_, rfl, rfl, _, rfl, iteT ⟨_, rfl, a, dxk, _, rfl, hk1', kF_none (by decide +kernel) _, a, R, rfl, hk1, fun H2 l hk2 b2 nl hl2 => ?_⟩⟩⟩⟩
      exact k H2 l hk2 (But.feed b2 ne hf1) (fun b o e n1 n2 => b2 _ _ (b1 _ _ e n2) n1) (nof nl) hl2
    | cost l m =>
      injection ec with e1 e2
      subst e1 e2
      replace d2 : ns.drop (i + 1) = rowE l ++ (rowE m ++ rest) := by rw [← List.append_assoc]; exact d2
      obtain ⟨r1, r2, r3, r4⟩ := drop_row (l := l) (r := rowE m ++ rest) d2
      obtain ⟨q1, q2, q3, q4⟩ := drop_row (l := m) (r := rest) r4
      refine ⟨_, rfl, rfl, _, rfl, iteF ⟨_, rfl, rfl, _, rfl, iteF ⟨_, rfl, rfl, _, rfl, iteF ⟨_, rfl, rfl, _, rfl, iteT ⟨_, rfl, fe, dxf1, _, rfl, hf1', feF_row _ _, fe, cl, i + 1, l.length, _, rfl, hf1, hS1, r1, r2, fun H2 lp hf2 b2 nl2 hl2 => ?_⟩⟩⟩⟩⟩
      rw [r3] at hl2
      have hk2 := But.keep b2 ne hf1' hk1
      have hS2 := But.seq b2 hf1' hS1
      obtain ⟨dxf2, hf2'⟩ := id hf2
      obtain ⟨dxk2, dk2, hk2', _⟩ := id hk2
      refine ⟨_, rfl, a, dxk2, _, rfl, hk2', kF_none (by decide +kernel) _, _, rfl, _, rfl, fe, dxf2, _, rfl, hf2', feF_row _ _, fe, cl, i + 1 + 1 + l.length, m.length, _, rfl, hf2, hS2, q1, q2, fun H3 lq hf3 b3 nl3 hl3 => ?_⟩
      rw [q3] at hl3
      have hk3 := But.keep b3 ne hf2' hk2
      have hl3' := b3 _ _ hl2 (ne_of hl2 hf2' (by intro z; cases z))
      refine ⟨a, lp, lq, R, l, m, rfl, hk3, hl3', hl3, fun H4 q hk4 b4 nq hq => ?_⟩
      have hf4 := But.feed b4 ne hf3
      have ei : i + 1 + 1 + l.length + 1 + m.length = i + (Ask.cost l m).enc.length := by show _ = i + ((rowE l ++ rowE m).length + 1); rw [List.length_append, rowE_len, rowE_len]; omega
      rw [ei] at hf4
      exact k H4 q hk4 hf4 (fun b o e n1 n2 => b4 _ _ (b3 _ _ (b2 _ _ (b1 _ _ e n2) n2) n2) n1) (nof (no_but b2 hf2 (no_but b3 hf3 nq))) hq
    | nth l n =>
      injection ec with e1 e2
      subst e1 e2
      obtain ⟨p1, p2⟩ := drop_num (x := (n : Int)) (r := rowE l ++ rest) d2
      obtain ⟨r1, r2, r3, r4⟩ := drop_row (l := l) (r := rest) p2
      refine ⟨_, rfl, rfl, _, rfl, iteF ⟨_, rfl, rfl, _, rfl, iteF ⟨_, rfl, rfl, _, rfl, iteF ⟨_, rfl, rfl, _, rfl, iteF ⟨_, rfl, rfl, _, rfl, iteT ⟨_, rfl, fe, dxf1, _, rfl, hf1', feF_number _ _, fe, cl, i + 1, _, _, rfl, hf1, hS1, p1, fun H2 hf2 b2 fr2 => ?_⟩⟩⟩⟩⟩⟩
      have hk2 := But.keep b2 ne hf1' hk1
      have hS2 := But.seq b2 hf1' hS1
      obtain ⟨dxf2, hf2'⟩ := id hf2
      obtain ⟨dxk2, dk2, hk2', _⟩ := id hk2
      refine ⟨_, rfl, a, dxk2, _, rfl, hk2', kF_none (by decide +kernel) _, _, rfl, fe, dxf2, _, rfl, hf2', feF_row _ _, fe, cl, i + 1 + 1, l.length, _, rfl, hf2, hS2, r1, r2, fun H3 lp hf3 b3 nl3 hl3 => ?_⟩
      rw [r3] at hl3
      have hk3 := But.keep b3 ne hf2' hk2
      refine ⟨_, rfl, a, lp, n, R, l, rfl, hk3, hl3, fun H4 q hk4 b4 nq hq => ?_⟩
      have hf4 := But.feed b4 ne hf3
      have ei : i + 1 + 1 + 1 + l.length = i + (Ask.nth l n).enc.length := by show _ = i + ((rowE l).length + 1 + 1); rw [rowE_len]; omega
      rw [ei] at hf4
      exact k H4 q hk4 hf4 (fun b o e n1 n2 => b4 _ _ (b3 _ _ (b2 _ _ (b1 _ _ e n2) n2) n2) n1) (nof (no_but b2 hf2 (no_but b3 hf3 nq))) hq
    | all l =>
      injection ec with e1 e2
      subst e1 e2
      obtain ⟨r1, r2, r3, r4⟩ := drop_row (l := l) (r := rest) d2
      refine ⟨_, rfl, rfl, _, rfl, iteF ⟨_, rfl, rfl, _, rfl, iteF ⟨_, rfl, rfl, _, rfl, iteF ⟨_, rfl, rfl, _, rfl, iteF ⟨_, rfl, rfl, _, rfl, iteF ⟨_, rfl, rfl, _, rfl, iteT ⟨_, rfl, a, dxk, _, rfl, hk1', kF_none (by decide +kernel) _, _, rfl, fe, dxf1, _, rfl, hf1', feF_row _ _, fe, cl, i + 1, l.length, _, rfl, hf1, hS1, r1, r2, fun H2 lp hf2 b2 nl2 hl2 => ?_⟩⟩⟩⟩⟩⟩⟩
      rw [r3] at hl2
      have hk2 := But.keep b2 ne hf1' hk1
      refine ⟨a, lp, R, l, rfl, hk2, hl2, fun H3 q hk3 b3 nq hq => ?_⟩
      have hf3 := But.feed b3 ne hf2
      have ei : i + 1 + 1 + l.length = i + (Ask.all l).enc.length := by show _ = i + ((rowE l).length + 1); rw [rowE_len]; omega
      rw [ei] at hf3
      exact k H3 q hk3 hf3 (fun b o e n1 n2 => b3 _ _ (b2 _ _ (b1 _ _ e n2) n2) n1) (nof (no_but b2 hf2 nq)) hq
end
end Slip
end
/-! ## PDeB -/
section
set_option Elab.async false
set_option linter.all false
set_option maxRecDepth 100000
set_option maxHeartbeats 4000000
namespace Slip
open PySem PySem.Spec PyProof.Rows L2
open PySem.W (alike dataLe AllAlike Sortable EachIs)
open SySlip (best Meaning)
/-- what a list of calls is told -/
def playA (R : List Row) : List Ask → List Int
  | [] => []
  | c :: cs => ((c.next R).2.length : Int) :: ((c.next R).2 ++ playA (c.next R).1 cs)
theorem enc_pos (c : Ask) : 1 ≤ c.enc.length := by cases c <;> exact Nat.succ_le_succ (Nat.zero_le _)
theorem SqL.but2 {K : PySem.W.Frag} {a fe cl : Addr} {H H' : Hp} {ns : List V} {D D' dx dx' : Addr} {F F' : List (Str × V)} (k : ∀ b o, H b = some o → b ≠ a → b ≠ fe → H' b = some o) (ha : H a = some (.ins D dx F)) (hf : H fe = some (.ins D' dx' F')) (h : SqL K H cl ns) : SqL K H' cl ns := by
  rcases h with (h | ⟨o, h⟩) | h
  · exact .inl (.inl (k _ _ h (ne_of h ha (by intro z; cases z)) (ne_of h hf (by intro z; cases z))))
  · exact .inl (.inr ⟨o, k _ _ h (ne_of h ha (by intro z; cases z)) (ne_of h hf (by intro z; cases z))⟩)
  · exact .inr h
def DeskInv (P : Program) (w : World) (CK CF a fe cl d : Addr) (H2 : Hp) (ns all : List Int) (m : Nat) (σ : L2.St) (H' : Hp) : Prop := ∃ (v4 : Option V) (j : Nat) (R : List Row) (rs : List Ask) (pre : List Int), σ = [some (.ref cl), some (.ref a), some (.ref fe), some (.ref d), v4] ∧ KeepAt P w CK H' a R ∧ FeedAt CF H' fe cl j ∧ (∀ b o, H2 b = some o → b ≠ a → b ≠ fe → H' b = some o) ∧
      ns.drop j = rs.flatMap Ask.enc ∧ H' d = some (.lst (pre.map V.int)) ∧ pre ++ playA R rs = all ∧ m = rs.length
theorem KeepAt.list {P : Program} {w : World} {C : Addr} {H : Hp} {a d : Addr} {R : List Row} {xs ys : List V} (hd : H d = some (.lst xs)) (h : KeepAt P w C H a R) : KeepAt P w C (upd H d (.lst ys)) a R := by
  have k : ∀ b o, H b = some o → (∀ zs, o ≠ .lst zs) → upd H d (.lst ys) b = some o := fun b o e n => by
    rw [upd_ne (ne_of e hd (n xs))]; exact e
  obtain ⟨dx', t, h1, ⟨es, h2, h3⟩, h4⟩ := h
  exact ⟨dx', t, k _ _ h1 (fun _ z => by cases z), ⟨es, k _ _ h2 (fun _ z => by unfold DN at z; cases z), Paired.mapP h3 fun x r ⟨a1, a2, a3⟩ => ⟨a1, a2, a3.keep fun b xs e => k _ _ e (fun _ z => by cases z)⟩⟩, h4⟩
theorem FeedAt.list {C : Addr} {H : Hp} {fe cl d : Addr} {i : Nat} {xs ys : List V} (hd : H d = some (.lst xs)) (h : FeedAt C H fe cl i) : FeedAt C (upd H d (.lst ys)) fe cl i := by
  obtain ⟨dx, h⟩ := h
  exact ⟨dx, (upd_ne (ne_of h hd (by intro z; cases z))).trans h⟩
section
variable {P : Program} {w : World} {K : PySem.W.Frag} {mg : Str → Option Value} {base : Heap} {CF CK : Addr}
def spAnswers (K : PySem.W.Frag) : Sp := fun vs H Q _ => ∃ (cl : Addr) (cs : List Ask), vs = [.ref cl] ∧ SqL K H cl ((cs.flatMap Ask.enc).map V.int) ∧ (cs.flatMap Ask.enc).length ≤ 61000 ∧ (playA [] cs).length ≤ 10000000 ∧
  ∀ (H' : Hp) (p : Addr), H' p = some (.lst ((playA [] cs).map V.int)) → Q (.ref p) H'
theorem scAnswers : FnScope ["calls", "keeper", "feed", "told", "answer"] ["calls"] (defScope sAnswers) := ⟨rfl, rfl, rfl, by decide +kernel, rfl, by decide +kernel, by decide +kernel⟩
theorem ok_Answers {f : Addr} {fd : FuncData} (F : Fun K "answers" "answers" sAnswers f fd) (TC : TC mg) (mK : Mak P w K mg base 1 "Keeper" CK (spKInit P w CK)) (mF : Mak P w K mg base 1 "Feed" CF (spFInit CF)) (mE : Met P w K mg base 1 CF "ended" (spEnded K CF)) (cA : Cal P w K mg base 6 "answer_of" (spAnswerOf P w K CF CK)) :
    FnOk P w K mg base CX0 7 f fd ["calls"] (spAnswers K) := by
  refine F.ok scAnswers (fun vs H Q E h => ?_) (fun cdv A outer s H vs Q E hr h => ⟨_, pss_cons (ps_set (i := 1) scAnswers.nd rfl (Or.inl rfl) (pe_mk0 mK hr (by decide) rfl))
      (pss_cons (ps_set (i := 2) scAnswers.nd rfl (Or.inl rfl) (pe_mk mF hr (by decide) rfl (pa_cons (pv 0) pa_nil)))
      (pss_cons (ps_set (i := 3) scAnswers.nd rfl (Or.inl rfl) (pe_lst pa_nil))
      (pss_cons (ps_while PassesOwn.never (pt_not (pt_val (pe_mt0 mE hr (by decide) (pv 2))))
        (pss_cons (ps_set (i := 4) scAnswers.nd rfl (Or.inl rfl) (pe_c cA hr (by decide) rfl (pa_cons (pv 1) (pa_cons (pv 2) pa_nil))))
        (pss_cons (ps_expr (pe_bm PySem.F.plainAttrs_list PySem.F.slot_list_append PySem.F.type_list_append mt_append (pv 3) (pa_cons (pe_callB call_len_seq (by rfl) TC.len PySem.boot_len (pa_cons (pv 4) pa_nil)) pa_nil)))
        (pss_one (ps_expr (pe_bm PySem.F.plainAttrs_list PySem.F.slot_list_extend PySem.F.type_list_extend mt_extend (pv 3) (pa_cons (pv 4) pa_nil)))))))
      (pss_one (ps_ret (pv 3)))))), ?_⟩)
  · obtain ⟨cl, cs, rfl, _⟩ := h
    rfl
  · obtain ⟨cl, cs, rfl, hS, hl, hz, k⟩ := h
    have sz : 10000000 < sizeLine := by rw [sizeLine_eq]; decide
    intro a dxk na ndxk hne
    refine ⟨a, dxk, rfl, upd_same, fun H1 hk1 b1 => ⟨rfl, ?_⟩⟩
    have s1 : Same H H1 := fun b o e => b1 _ _ (by rw [upd_ne (ne_of_none e na), upd_ne (ne_of_none e ndxk)]; exact e) (ne_of_none e na)
    refine ⟨_, rfl, fun fe dxf nf ndxf hnf => ?_⟩
    refine ⟨fe, dxf, cl, rfl, upd_same, fun H2 hf2 b2 => ⟨rfl, ?_⟩⟩
    have s2 : Same H1 H2 := fun b o e => b2 _ _ (by rw [upd_ne (ne_of_none e nf), upd_ne (ne_of_none e ndxf)]; exact e) (ne_of_none e nf)
    have ne : a ≠ fe := by obtain ⟨_, _, h, _⟩ := hk1; exact ne_of_none h nf
    refine ⟨Nat.zero_le _, fun d nd => ?_⟩
    have s3 : Same H2 (upd H2 d (.lst [])) := Same.new (Same.refl H2) nd
    have hk2 := hk1.same s2
    have hS2 := (s1.trans s2).seq hS
    obtain ⟨dk2, dd2, ha2, _⟩ := id hk2
    obtain ⟨df2, hfe2⟩ := id hf2
    generalize hN : cs.flatMap Ask.enc = ns at *
    refine ⟨DeskInv P w CK CF a fe cl d H2 ns (playA [] cs), ⟨cs.length, none, 0, [], cs, [], rfl, hk2.same s3, ⟨df2, s3 _ _ hfe2⟩, fun b o e _ _ => s3 _ _ e, hN.symm, upd_same, rfl, rfl⟩, ?_⟩
    clear s3 hk2
    rintro m σ H3 ⟨v4, j, R, rs, pre, rfl, hk3, hf3, kp, hd, hp, hpl, rfl⟩
    have hS3 := SqL.but2 kp ha2 hfe2 hS2
    obtain ⟨df3, hfe3⟩ := id hf3
    refine ⟨_, rfl, fe, df3, _, rfl, hfe3, feF_ended _ _, fe, cl, j, _, rfl, hf3, hS3, _, rfl, ?_⟩
    cases rs with
    | nil =>
      have lj : ns.length ≤ j := by
        have := congrArg List.length hd
        rw [List.length_drop] at this
        exact Nat.sub_eq_zero_iff_le.mp this
      have e1 : decide (((ns.map V.int).length : Int) ≤ (j : Int)) = true := decide_eq_true (by rw [List.length_map]; omega)
      rw [e1]
      refine iteF ⟨_, rfl, ?_⟩
      have e2 : pre = playA [] cs := by rw [← hpl]; exact (List.append_nil _).symm
      rw [e2] at hp
      exact k _ _ hp
    | cons c rs =>
      have hd' : ns.drop j = c.enc ++ rs.flatMap Ask.enc := hd
      have lj : ¬ ns.length ≤ j := fun z => by
        rw [List.drop_of_length_le z] at hd'
        have := congrArg List.length hd'
        rw [List.length_append] at this
        have := enc_pos c
        simp only [List.length_nil] at *
        omega
      have e1 : decide (((ns.map V.int).length : Int) ≤ (j : Int)) = false := decide_eq_false (by rw [List.length_map]; omega)
      rw [e1]
      refine iteT ⟨fun σ' H' => DeskInv P w CK CF a fe cl d H2 ns (playA [] cs) rs.length σ' H', fun σ' H' q => ⟨rs.length, Nat.lt_succ_self _, q⟩, ?_⟩
      refine ⟨_, rfl, _, rfl, a, fe, cl, j, ns, c, _, R, rfl, hk3, hf3, ne, hS3, hl, hd', fun H4 l hk4 hf4 b4 nl hl4 => ?_⟩
      obtain ⟨dk3, dd3, ha3, _⟩ := id hk3
      have hp4 := b4 _ _ hp (ne_of hp ha3 (by intro z; cases z)) (ne_of hp hfe3 (by intro z; cases z))
      have ld : l ≠ d := (ne_of_none hp nl).symm
      have hpl' : pre ++ (((c.next R).2.length : Int) :: ((c.next R).2 ++ playA (c.next R).1 rs)) = playA [] cs := hpl
      have lz : pre.length + (c.next R).2.length + 1 ≤ 10000000 := by
        have := congrArg List.length hpl'
        simp only [List.length_append, List.length_cons] at this
        omega
      have kp4 : ∀ b o, H2 b = some o → b ≠ a → b ≠ fe → H4 b = some o := fun b o e n1 n2 => b4 _ _ (kp _ _ e n1 n2) n1 n2
      have drp : ns.drop (j + c.enc.length) = rs.flatMap Ask.enc := by rw [← List.drop_drop, hd', List.drop_left' rfl]
      generalize (c.next R).1 = R', (c.next R).2 = ans at *
      refine ⟨_, rfl, .inl ⟨rfl, _, .inl (.inl hp4)⟩, _, rfl, l, _, rfl, .inl (.inl (.inl hl4)), d, _, _, rfl, rfl, hp4, by rw [List.length_map]; omega, ?_⟩
      have hk5 := KeepAt.list (ys := pre.map V.int ++ [.int (ans.map V.int).length]) hp4 hk4
      have hf5 := FeedAt.list (ys := pre.map V.int ++ [.int (ans.map V.int).length]) hp4 hf4
      have hl5 : upd H4 d (.lst (pre.map V.int ++ [.int (ans.map V.int).length])) l = some (.lst (ans.map V.int)) := (upd_ne ld).trans hl4
      have kp5 : ∀ b o, H2 b = some o → b ≠ a → b ≠ fe → upd H4 d (.lst (pre.map V.int ++ [.int (ans.map V.int).length])) b = some o := fun b o e n1 n2 => by rw [upd_ne (ne_of_none e nd)]; exact kp4 _ _ e n1 n2
      have hp5 : upd H4 d (.lst (pre.map V.int ++ [.int (ans.map V.int).length])) d = _ := upd_same
      generalize upd H4 d (.lst (pre.map V.int ++ [.int (ans.map V.int).length])) = H5 at *
      refine ⟨_, rfl, .inl ⟨rfl, _, .inl (.inl hp5)⟩, _, rfl, d, l, _, _, rfl, rfl, hp5, hl5, by rw [List.length_append, List.length_map, List.length_map]; show _ + 1 + _ ≤ _; omega, ?_⟩
      refine ⟨_, _, R', rs, pre ++ (ans.length : Int) :: ans, rfl, KeepAt.list hp5 hk5, FeedAt.list hp5 hf5, fun b o e n1 n2 => ?_, drp, ?_, ?_, rfl⟩
      · rw [upd_ne (ne_of_none e nd)]; exact kp5 _ _ e n1 n2
      · rw [upd_same, List.map_append, List.append_assoc, List.length_map]; rfl
      · rw [List.append_assoc]; exact hpl'
end
end Slip
end
/-! ## PSpc -/
section
set_option Elab.async false
set_option linter.all false
set_option maxRecDepth 100000
set_option maxHeartbeats 2000000
namespace Slip
open PySem PySem.Spec PyProof.Rows L2
open SyBase SySpell SySlip
/-! a call, as the specification has it -/
def Ask.raw : Ask → List (List Int)
  | .begin_ => [[1]]
  | .read l => [[2], intsN l]
  | .write => [[3]]
  | .cost l m => [[4], intsN l, intsN m]
  | .nth l i => [[5, (i : Int)], intsN l]
  | .all l => [[6], intsN l]
def Ask.Ok : Ask → Prop
  | .read l => (∀ n ∈ l, n ≤ 255) ∧ l.length ≤ 60000
  | _ => True
theorem nats_of : ∀ {z : List Int}, (∀ n ∈ z, 0 ≤ n) → ∃ l : List Nat, z = intsN l
  | [], _ => ⟨[], rfl⟩
  | n :: z, h => by
    obtain ⟨l, rfl⟩ := nats_of fun m k => h m (.tail _ k)
    exact ⟨n.toNat :: l, by show _ = ((n.toNat : Nat) : Int) :: intsN l; rw [Int.toNat_of_nonneg (h n (.head _))]⟩
theorem row_split {r z t : List Int} (h : PyFlat.row r = some (z, t)) : r = (z.length : Int) :: (z ++ t) := by
  cases r with
  | nil => cases h
  | cons n r =>
    simp only [PyFlat.row] at h
    by_cases c : 0 ≤ n ∧ n.toNat ≤ r.length
    · rw [if_pos c] at h
      injection h with h
      injection h with h1 h2
      subst h1 h2
      rw [List.take_append_drop, List.length_take, Nat.min_eq_left c.2, Int.toNat_of_nonneg c.1]
    · rw [if_neg c] at h; cases h
theorem within_nat {z : List Int} (h : z.all (PyInside.within 0 255) = true) : ∃ l : List Nat, z = intsN l ∧ ∀ n ∈ l, n ≤ 255 := by
  have a : ∀ n ∈ z, 0 ≤ n ∧ n ≤ 255 := fun n m => by
    have := List.all_eq_true.mp h n m
    unfold PyInside.within at this
    rw [Bool.and_eq_true, decide_eq_true_eq, decide_eq_true_eq] at this
    exact this
  obtain ⟨l, rfl⟩ := nats_of fun n m => (a n m).1
  exact ⟨l, rfl, fun n m => by have := (a (n : Int) (List.mem_map.mpr ⟨n, m, rfl⟩)).2; omega⟩
theorem intsN_len (l : List Nat) : (intsN l).length = l.length := List.length_map ..
/-- one call -/
theorem ask_of {l t : List Int} {c : List (List Int)} (h : PyFlat.call PyWqaibj.shape l = some (c, t)) (hb : PyInside.call PyWqaibj.bound c = true) : ∃ a : Ask, a.Ok ∧ c = a.raw ∧ l = a.enc ++ t := by
  cases l with
  | nil => cases h
  | cons p r =>
    simp only [PyFlat.call, PyWqaibj.shape] at h
    by_cases p1 : p = 1
    · subst p1
      simp [PyFlat.rows] at h
      obtain ⟨rfl, rfl⟩ := h
      exact ⟨.begin_, trivial, rfl, rfl⟩
    by_cases p2 : p = 2
    · subst p2
      cases e : PyFlat.row r with
      | none => simp [PyFlat.rows, e] at h
      | some q =>
        obtain ⟨z, s⟩ := q
        simp [PyFlat.rows, e] at h
        obtain ⟨rfl, rfl⟩ := h
        have hz : z.all (PyInside.within 0 255) = true ∧ z.length ≤ 60000 := by
          have hb' : (PyInside.each [] [] && (decide (0 ≤ z.length) && decide (z.length ≤ 60000) && z.all (PyInside.within 0 255) && PyInside.lists [] [])) = true := hb
          simp only [Bool.and_eq_true] at hb'
          exact ⟨hb'.2.1.2, of_decide_eq_true hb'.2.1.1.2⟩
        obtain ⟨l, rfl, hl⟩ := within_nat hz.1
        refine ⟨.read l, ⟨hl, by have := hz.2; rwa [intsN_len] at this⟩, rfl, ?_⟩
        rw [row_split e, intsN_len]; rfl
    by_cases p3 : p = 3
    · subst p3
      simp [PyFlat.rows] at h
      obtain ⟨rfl, rfl⟩ := h
      exact ⟨.write, trivial, rfl, rfl⟩
    by_cases p4 : p = 4
    · subst p4
      cases e : PyFlat.row r with
      | none => simp [PyFlat.rows, e] at h
      | some q =>
        obtain ⟨z, s⟩ := q
        cases e2 : PyFlat.row s with
        | none => simp [PyFlat.rows, e, e2] at h
        | some q2 =>
          obtain ⟨z2, s2⟩ := q2
          simp [PyFlat.rows, e, e2] at h
          obtain ⟨rfl, rfl⟩ := h
          have hz : z.all (PyInside.within 0 255) = true ∧ z2.all (PyInside.within 0 255) = true := by
            have hb' : (PyInside.each [] [] && (decide (0 ≤ z.length) && decide (z.length ≤ 100) && z.all (PyInside.within 0 255) && (decide (0 ≤ z2.length) && decide (z2.length ≤ 100) && z2.all (PyInside.within 0 255) && PyInside.lists [] []))) = true := hb
            simp only [Bool.and_eq_true] at hb'
            exact ⟨hb'.2.1.2, hb'.2.2.1.2⟩
          obtain ⟨l, rfl, hl⟩ := within_nat hz.1
          obtain ⟨m, rfl, hm⟩ := within_nat hz.2
          refine ⟨.cost l m, trivial, rfl, ?_⟩
          rw [row_split e, row_split e2, intsN_len, intsN_len]
          show _ = 4 :: ((rowE l ++ rowE m) ++ s2)
          rw [List.append_assoc]; rfl
    by_cases p5 : p = 5
    · subst p5
      cases r with
      | nil => simp at h
      | cons n r =>
      cases e : PyFlat.row r with
      | none => simp [PyFlat.rows, e] at h
      | some q =>
        obtain ⟨z, s⟩ := q
        simp [PyFlat.rows, e] at h
        obtain ⟨rfl, rfl⟩ := h
        have hz : z.all (PyInside.within 0 255) = true ∧ 0 ≤ n := by
          have hb' : ((PyInside.within 0 60000 n && PyInside.each [] []) && (decide (0 ≤ z.length) && decide (z.length ≤ 100) && z.all (PyInside.within 0 255) && PyInside.lists [] [])) = true := hb
          simp only [Bool.and_eq_true] at hb'
          refine ⟨hb'.2.1.2, ?_⟩
          have := hb'.1.1
          unfold PyInside.within at this
          rw [Bool.and_eq_true, decide_eq_true_eq] at this
          exact this.1
        obtain ⟨l, rfl, hl⟩ := within_nat hz.1
        obtain ⟨i, rfl⟩ : ∃ i : Nat, n = (i : Int) := ⟨n.toNat, (Int.toNat_of_nonneg hz.2).symm⟩
        refine ⟨.nth l i, trivial, rfl, ?_⟩
        rw [row_split e, intsN_len]; rfl
    by_cases p6 : p = 6
    · subst p6
      cases e : PyFlat.row r with
      | none => simp [PyFlat.rows, e] at h
      | some q =>
        obtain ⟨z, s⟩ := q
        simp [PyFlat.rows, e] at h
        obtain ⟨rfl, rfl⟩ := h
        have hz : z.all (PyInside.within 0 255) = true := by
          have hb' : (PyInside.each [] [] && (decide (0 ≤ z.length) && decide (z.length ≤ 100) && z.all (PyInside.within 0 255) && PyInside.lists [] [])) = true := hb
          simp only [Bool.and_eq_true] at hb'
          exact hb'.2.1.2
        obtain ⟨l, rfl, hl⟩ := within_nat hz
        refine ⟨.all l, trivial, rfl, ?_⟩
        rw [row_split e, intsN_len]; rfl
    simp [p1, p2, p3, p4, p5, p6] at h
/-! a call's answer -/
theorem nats_back (l : List Nat) : SyRows.nats? (intsN l) = some l := by
  unfold SyRows.nats?
  rw [if_pos (List.all_eq_true.mpr fun n m => by obtain ⟨k, _, rfl⟩ := List.mem_map.mp m; exact decide_eq_true (Int.natCast_nonneg k))]
  unfold intsN
  rw [List.map_map]
  congr 1
  exact List.map_id _
theorem nat_back (i : Nat) : SyRows.nat? (i : Int) = some i := by
  unfold SyRows.nat?
  rw [if_pos (Int.natCast_nonneg i)]; rfl
theorem text_back {l : List Nat} (h : ∀ n ∈ l, n ≤ 255) : SyRows.text? (intsN l) = some (l.map UInt8.ofNat) := by
  unfold SyRows.text? NeutralIO.bytes
  rw [if_pos (List.all_eq_true.mpr fun n m => by
    obtain ⟨k, hk, rfl⟩ := List.mem_map.mp m
    rw [Bool.and_eq_true, decide_eq_true_eq, decide_eq_true_eq]
    have := h k hk
    omega)]
  unfold intsN
  rw [List.map_map]
  rfl
theorem nats_ofNat {l : List Nat} (h : ∀ n ∈ l, n ≤ 255) : nats (l.map UInt8.ofNat) = l := by
  show (l.map UInt8.ofNat).map UInt8.toNat = l
  rw [List.map_map]
  conv => rhs; rw [← List.map_id l]
  refine List.map_congr_left fun n m => ?_
  have := h n m
  show (UInt8.ofNat n).toNat = n
  rw [UInt8.toNat_ofNat']
  exact Nat.mod_eq_of_lt (by omega)
theorem digits_byte {n c : Nat} (h : c ∈ digitsOf n) : c ≤ 255 := by
  obtain ⟨ch, m, rfl⟩ := List.mem_map.mp h
  have := Nat.isDigit_of_mem_toDigits (by decide) (by decide) m
  rw [Char.isDigit, Bool.and_eq_true, decide_eq_true_eq, decide_eq_true_eq] at this
  have h2 : ch.val.toNat ≤ 57 := this.2
  exact Nat.le_trans h2 (by decide)
theorem letters_byte {l : List Nat} (h : isLetters l = true) : ∀ n ∈ l, n ≤ 255 := fun n m => by
  have := List.all_eq_true.mp h n m
  unfold isLetter at this
  rw [Bool.and_eq_true, decide_eq_true_eq, decide_eq_true_eq] at this
  omega
theorem text_byte {R : List Row} (g : Good R) : ∀ n ∈ textOf R, n ≤ 255 := fun n m => by
  obtain ⟨r, hr, hn⟩ := List.mem_flatMap.mp m
  have hr := List.mem_mergeSort.mp hr
  obtain ⟨h1, h2, _⟩ := g.letters r hr
  unfold lineOf at hn
  simp only [List.mem_append, List.mem_singleton] at hn
  rcases hn with ((((hn | hn) | hn) | hn) | hn) | hn
  · exact digits_byte hn
  · omega
  · exact letters_byte h1 n hn
  · omega
  · exact letters_byte h2 n hn
  · omega
theorem step_eq {R : List Row} (g : Good R) {a : Ask} (ok : a.Ok) : Neutral.step (slipsOf R) (PyWqaibj.whole a.raw) = (slipsOf (a.next R).1, (a.next R).2) ∧ Good (a.next R).1 := by
  cases a with
  | begin_ => exact ⟨rfl, Good.nil⟩
  | read l =>
    have e0 : PyWqaibj.whole (Ask.read l).raw = [[2], intsN l] := rfl
    have e1 : Neutral.callOf [[2], intsN l] = some (.read (l.map UInt8.ofNat)) := by
      show (do return SlipSpec.Call.read (← SyRows.text? (intsN l)) : Option SlipSpec.Call) = _
      rw [text_back ok.1]; rfl
    rw [e0]
    unfold Neutral.step
    rw [e1]
    have e2 : ¬ SlipSpec.BYTES < (l.map UInt8.ofNat).length := by rw [List.length_map]; have := ok.2; unfold SlipSpec.BYTES; omega
    have e3 := read_eq (l.map UInt8.ofNat)
    rw [nats_ofNat ok.1] at e3
    show ((SlipSpec.step (slipsOf R) (.read (l.map UInt8.ofNat))).1, Neutral.told (.read (l.map UInt8.ofNat)) (SlipSpec.step (slipsOf R) (.read (l.map UInt8.ofNat))).2) = _ ∧ _
    have e4 : SlipSpec.step (slipsOf R) (.read (l.map UInt8.ofNat)) = (match readSlips (l.map UInt8.ofNat) with
      | .error (i, k) => (slipsOf R, SyAns.tells (-2) (SyAns.ints [i, k]))
      | .ok U => (U, SyAns.says (U.length : Int))) := if_neg e2
    rw [e4, e3]
    show _ = (slipsOf (readA R l).1, (readA R l).2) ∧ Good (readA R l).1
    unfold readA
    cases e : tableOf l with
    | error q => obtain ⟨i, k⟩ := q; exact ⟨rfl, g⟩
    | ok R' =>
      refine ⟨?_, tableOf_good e⟩
      show (slipsOf R', [((slipsOf R').length : Int)]) = (slipsOf R', [(R'.length : Int)])
      rw [slipsOf_len]
  | write =>
    refine ⟨?_, g⟩
    show (slipsOf R, ((slipsWritten (slipsOf R)).length : Int) :: ([] ++ SyRows.bytesTold (slipsWritten (slipsOf R)))) = (slipsOf R, writeA R)
    rw [written_eq g.dist, List.length_map]
    have e : SyRows.bytesTold ((textOf R).map UInt8.ofNat) = (textOf R).map fun (n : Nat) => (n : Int) := by
      have e2 : SyRows.bytesTold ((textOf R).map UInt8.ofNat) = (nats ((textOf R).map UInt8.ofNat)).map fun (n : Nat) => (n : Int) := by
        unfold SyRows.bytesTold
        rw [List.map_map (f := UInt8.toNat)]; rfl
      rw [e2, nats_ofNat (text_byte g)]
    rw [e]
    rfl
  | cost l m =>
    refine ⟨?_, g⟩
    have e0 : PyWqaibj.whole (Ask.cost l m).raw = [[4], intsN l, intsN m] := rfl
    have e1 : Neutral.callOf [[4], intsN l, intsN m] = some (.cost l m) := by
      show (do return SlipSpec.Call.cost (← SyRows.nats? (intsN l)) (← SyRows.nats? (intsN m)) : Option SlipSpec.Call) = _
      rw [nats_back, nats_back]; rfl
    rw [e0]
    unfold Neutral.step
    rw [e1]
    show (slipsOf R, Neutral.told (.cost l m) (SlipSpec.asks (slipsOf R) (.cost l m))) = (slipsOf R, costA R l m)
    congr 1
    show Neutral.told (.cost l m) (if 24 < l.length ∨ 33 < m.length then SyAns.says (-1) else if isLetters l = false ∨ isLetters m = false then SyAns.says (-3) else match costBy (slipsOf R) l m with
      | some c => SyAns.says (c : Int)
      | none => SyAns.says (-5)) = _
    unfold costA
    rw [leastCost_eq g.short]
    split
    · rfl
    · split
      · rfl
      · cases costBy (slipsOf R) l m <;> rfl
  | nth l i =>
    refine ⟨?_, g⟩
    have e0 : PyWqaibj.whole (Ask.nth l i).raw = [[5, (i : Int)], intsN l] := rfl
    have e1 : Neutral.callOf [[5, (i : Int)], intsN l] = some (.nth l i) := by
      show (do return SlipSpec.Call.nth (← SyRows.nats? (intsN l)) (← SyRows.nat? (i : Int)) : Option SlipSpec.Call) = _
      rw [nats_back, nat_back]; rfl
    rw [e0]
    unfold Neutral.step
    rw [e1]
    show (slipsOf R, Neutral.told (.nth l i) (SlipSpec.asks (slipsOf R) (.nth l i))) = (slipsOf R, nthA R l i)
    congr 1
    show Neutral.told (.nth l i) (if 24 < l.length ∨ 64 ≤ i then SyAns.says (-1) else if isLetters l = false then SyAns.says (-3) else match (best (slipsOf R) l)[i]? with
      | some x => SyAns.shows x.1 [(x.2 : Int)]
      | none => SyAns.says (-5)) = _
    unfold nthA
    split
    · rfl
    · split
      · rfl
      · cases (best (slipsOf R) l)[i]? <;> rfl
  | all l =>
    refine ⟨?_, g⟩
    have e0 : PyWqaibj.whole (Ask.all l).raw = [[6], intsN l] := rfl
    have e1 : Neutral.callOf [[6], intsN l] = some (.all l) := by
      show (do return SlipSpec.Call.all (← SyRows.nats? (intsN l)) : Option SlipSpec.Call) = _
      rw [nats_back]; rfl
    rw [e0]
    unfold Neutral.step
    rw [e1]
    show (slipsOf R, Neutral.told (.all l) (SlipSpec.asks (slipsOf R) (.all l))) = (slipsOf R, allA R l)
    congr 1
    show Neutral.told (.all l) (if 24 < l.length then SyAns.says (-1) else if isLetters l = false then SyAns.says (-3) else ⟨((best (slipsOf R) l).length : Int), [], SyAns.ints ((best (slipsOf R) l).flatMap fun (x : Meaning) => x.2 :: (x.1.length :: x.1)), []⟩) = _
    unfold allA
    split
    · rfl
    · split
      · rfl
      · show _ :: ([] ++ SyAns.ints _) = _
        unfold SyAns.ints
        rw [List.nil_append, List.map_flatMap]
        rfl
/-! the list of calls -/
theorem calls_of : ∀ (f : Nat) (l : List Int) (raw : List (List (List Int))), PyFlat.calls PyWqaibj.shape f l = some raw → PyInside.calls PyWqaibj.bound raw = true → ∃ cs : List Ask, (∀ c ∈ cs, c.Ok) ∧ raw = cs.map Ask.raw ∧ l = cs.flatMap Ask.enc
  | f, [], raw, h, hb => by
    have : raw = [] := by cases f <;> (simp only [PyFlat.calls] at h; injection h with h; exact h.symm)
    subst this
    exact ⟨[], fun _ m => (nomatch m), rfl, rfl⟩
  | 0, p :: r, raw, h, hb => by simp [PyFlat.calls] at h
  | f + 1, p :: r, raw, h, hb => by
    simp only [PyFlat.calls] at h
    cases e : PyFlat.call PyWqaibj.shape (p :: r) with
    | none => rw [e] at h; cases h
    | some q =>
      obtain ⟨c, t⟩ := q
      rw [e] at h
      simp only at h
      cases e2 : PyFlat.calls PyWqaibj.shape f t with
      | none => rw [e2] at h; cases h
      | some cs =>
        rw [e2] at h
        simp only at h
        injection h with h
        subst h
        unfold PyInside.calls at hb
        rw [List.all_cons, Bool.and_eq_true] at hb
        obtain ⟨a, ha, rfl, e3⟩ := ask_of e hb.1
        obtain ⟨as, has, rfl, e4⟩ := calls_of f t cs e2 hb.2
        refine ⟨a :: as, fun c m => ?_, rfl, ?_⟩
        · rcases List.mem_cons.mp m with rfl | m
          · exact ha
          · exact has c m
        · rw [e3, e4]; rfl
theorem play_eq : ∀ (cs : List Ask) {R : List Row}, Good R → (∀ c ∈ cs, c.Ok) → PyFlat.told (PyFlat.played Neutral.step (slipsOf R) ((cs.map Ask.raw).map PyWqaibj.whole)) = playA R cs
  | [], _, _, _ => rfl
  | c :: cs, R, g, h => by
    obtain ⟨e, g2⟩ := step_eq g (h c (.head _))
    have ih := play_eq cs g2 fun b m => h b (.tail _ m)
    have e' : PyFlat.told (PyFlat.played Neutral.step (slipsOf R) (((c :: cs).map Ask.raw).map PyWqaibj.whole)) = ((Neutral.step (slipsOf R) (PyWqaibj.whole c.raw)).2.length : Int) :: ((Neutral.step (slipsOf R) (PyWqaibj.whole c.raw)).2 ++ PyFlat.told (PyFlat.played Neutral.step (Neutral.step (slipsOf R) (PyWqaibj.whole c.raw)).1 ((cs.map Ask.raw).map PyWqaibj.whole))) := by
      show (PyFlat.played _ _ (PyWqaibj.whole c.raw :: _)).flatMap _ = _
      rw [PyFlat.played, List.flatMap_cons]
      rfl
    rw [e', e]
    simp only
    rw [ih]
    rfl
theorem due_of {ns : List Int} (h : PyWqaibj.answers_asked ns = true) : ∃ cs : List Ask, ns = cs.flatMap Ask.enc ∧ PyWqaibj.answers ns = playA [] cs ∧ (playA [] cs).length ≤ 10000000 := by
  unfold PyWqaibj.answers_asked at h
  cases e : PyFlat.calls PyWqaibj.shape ns.length ns with
  | none => rw [e] at h; cases h
  | some raw =>
    rw [e] at h
    simp only [Bool.and_eq_true] at h
    obtain ⟨⟨⟨h1, h2⟩, h3⟩, h4⟩ := h
    obtain ⟨cs, hok, rfl, e2⟩ := calls_of _ _ _ e h2
    have e3 : PyWqaibj.answers ns = playA [] cs := by
      unfold PyWqaibj.answers PyWqaibj.calls
      rw [e]
      exact play_eq cs Good.nil hok
    refine ⟨cs, e2, e3, ?_⟩
    rw [e3] at h4
    exact of_decide_eq_true h4
end Slip
end
/-! ## PTop -/
set_option Elab.async false
set_option linter.all false
set_option maxRecDepth 100000
set_option maxHeartbeats 8000000
namespace Slip
open PySem PySem.Spec PyProof.Rows L2
open PySem.W (Codec)
/-- an error of the class at S is what «except S» names -/
theorem exm_self {K : PySem.W.Frag} {S : Addr} (h1 : PySem.W.subIn K (.ref S) (.type "BaseException") = some true) (h2 : PySem.W.isClsIn K S = true) (h3 : PySem.W.typeIn K (.ref S) = some (.type "type")) (h4 : PySem.W.subIn K (.ref S) (.ref S) = some true) :
    PySem.W.exmOne K (.ref S) (.ref S) = some true := by
  have e1 : (PySem.W.subIn K (.ref S) (.type "BaseException") == some true) = true := by rw [h1] <;> rfl
  have e2 : ((PySem.W.clsIn K S).isSome && PySem.W.typeIn K (.ref S) == some (.type "type")) = true := by
    have h2' : (PySem.W.clsIn K S).isSome = true := h2
    rw [h2', h3] <;> rfl
  show (if (PySem.W.subIn K (.ref S) (.type "BaseException") == some true) = true then (if ((PySem.W.clsIn K S).isSome && PySem.W.typeIn K (.ref S) == some (.type "type")) = true then PySem.W.subIn K (.ref S) (.ref S) else none) else none) = some true
  rw [if_pos e1, if_pos e2]
  exact h4
/-- where the defs and classes stand -/
structure Adr where
  a_are_letters : Addr
  d_are_letters : FuncData
  a_fitting_slips : Addr
  d_fitting_slips : FuncData
  a_moves_at : Addr
  d_moves_at : FuncData
  a_least_cost : Addr
  d_least_cost : FuncData
  a_likeliest : Addr
  d_likeliest : FuncData
  a_order_of : Addr
  d_order_of : FuncData
  a_lengthened : Addr
  d_lengthened : FuncData
  a_table_of : Addr
  d_table_of : FuncData
  a_parted : Addr
  d_parted : FuncData
  a_kind_of_fault : Addr
  d_kind_of_fault : FuncData
  a_is_line : Addr
  d_is_line : FuncData
  a_is_decimal : Addr
  d_is_decimal : FuncData
  a_is_too_costly : Addr
  d_is_too_costly : FuncData
  a_number_of : Addr
  d_number_of : FuncData
  a_text_of : Addr
  d_text_of : FuncData
  a_line_of : Addr
  d_line_of : FuncData
  a_answers : Addr
  d_answers : FuncData
  a_answer_of : Addr
  d_answer_of : FuncData
  a_Feed_init : Addr
  d_Feed_init : FuncData
  a_Feed_ended : Addr
  d_Feed_ended : FuncData
  a_Feed_number : Addr
  d_Feed_number : FuncData
  a_Feed_row : Addr
  d_Feed_row : FuncData
  a_Ways_init : Addr
  d_Ways_init : FuncData
  a_Ways_first : Addr
  d_Ways_first : FuncData
  a_Ways_settled : Addr
  d_Ways_settled : FuncData
  a_Ways_dropped : Addr
  d_Ways_dropped : FuncData
  a_Ways_onward : Addr
  d_Ways_onward : FuncData
  a_Ways_whole_cost : Addr
  d_Ways_whole_cost : FuncData
  a_Beginning_init : Addr
  d_Beginning_init : FuncData
  a_Keeper_init : Addr
  d_Keeper_init : FuncData
  a_Keeper_begin : Addr
  d_Keeper_begin : FuncData
  a_Keeper_read : Addr
  d_Keeper_read : FuncData
  a_Keeper_write : Addr
  d_Keeper_write : FuncData
  a_Keeper_cost_of : Addr
  d_Keeper_cost_of : FuncData
  a_Keeper_nth_row : Addr
  d_Keeper_nth_row : FuncData
  a_Keeper_first_rows : Addr
  d_Keeper_first_rows : FuncData
  C_Feed : Addr
  C_Ways : Addr
  C_Beginning : Addr
  C_Keeper : Addr
  C_FaultyText : Addr
  I_FaultyText : Addr
abbrev s_are_letters : Stmt := top 5
abbrev s_fitting_slips : Stmt := top 9
abbrev s_moves_at : Stmt := top 10
abbrev s_least_cost : Stmt := top 14
abbrev s_likeliest : Stmt := top 15
abbrev s_order_of : Stmt := top 16
abbrev s_lengthened : Stmt := top 17
abbrev s_table_of : Stmt := top 34
abbrev s_parted : Stmt := top 35
abbrev s_kind_of_fault : Stmt := top 36
abbrev s_is_line : Stmt := top 37
abbrev s_is_decimal : Stmt := top 38
abbrev s_is_too_costly : Stmt := top 39
abbrev s_number_of : Stmt := top 40
abbrev s_text_of : Stmt := top 41
abbrev s_line_of : Stmt := top 42
abbrev s_answers : Stmt := top 61
abbrev s_answer_of : Stmt := top 62
abbrev s_Feed_init : Stmt := inClass (top 1) 0
abbrev s_Feed_ended : Stmt := inClass (top 1) 1
abbrev s_Feed_number : Stmt := inClass (top 1) 2
abbrev s_Feed_row : Stmt := inClass (top 1) 3
abbrev s_Ways_init : Stmt := inClass (top 8) 0
abbrev s_Ways_first : Stmt := inClass (top 8) 1
abbrev s_Ways_settled : Stmt := inClass (top 8) 2
abbrev s_Ways_dropped : Stmt := inClass (top 8) 3
abbrev s_Ways_onward : Stmt := inClass (top 8) 4
abbrev s_Ways_whole_cost : Stmt := inClass (top 8) 5
abbrev s_Beginning_init : Stmt := inClass (top 13) 0
abbrev s_Keeper_init : Stmt := inClass (top 52) 0
abbrev s_Keeper_begin : Stmt := inClass (top 52) 1
abbrev s_Keeper_read : Stmt := inClass (top 52) 2
abbrev s_Keeper_write : Stmt := inClass (top 52) 3
abbrev s_Keeper_cost_of : Stmt := inClass (top 52) 4
abbrev s_Keeper_nth_row : Stmt := inClass (top 52) 5
abbrev s_Keeper_first_rows : Stmt := inClass (top 52) 6
abbrev s_FaultyText : Stmt := inClass (top 33) 0
/-- what the top has written -/
structure Top (K : PySem.W.Frag) (mg : Str → Option Value) (A : Adr) : Prop where
  FIRST_LETTER : ∃ t, mg "FIRST_LETTER" = some (.int 33 t)
  LAST_LETTER : ∃ t, mg "LAST_LETTER" = some (.int 126 t)
  MOST_TAKEN : ∃ t, mg "MOST_TAKEN" = some (.int 3 t)
  DEAREST : ∃ t, mg "DEAREST" = some (.int 196605 t)
  LINE_FEED : ∃ t, mg "LINE_FEED" = some (.int 10 t)
  BLANK : ∃ t, mg "BLANK" = some (.int 32 t)
  DIGIT_ZERO : ∃ t, mg "DIGIT_ZERO" = some (.int 48 t)
  DIGIT_NINE : ∃ t, mg "DIGIT_NINE" = some (.int 57 t)
  MOST_COST : ∃ t, mg "MOST_COST" = some (.int 65535 t)
  MOST_COST_DIGITS : ∃ t, mg "MOST_COST_DIGITS" = some (.int 5 t)
  MOST_LETTERS : ∃ t, mg "MOST_LETTERS" = some (.int 3 t)
  MOST_SLIPS : ∃ t, mg "MOST_SLIPS" = some (.int 32 t)
  NO_FAULT : ∃ t, mg "NO_FAULT" = some (.int 0 t)
  NO_SUCH_LINE : ∃ t, mg "NO_SUCH_LINE" = some (.int 1 t)
  TOO_MUCH : ∃ t, mg "TOO_MUCH" = some (.int 2 t)
  SAME_LETTERS : ∃ t, mg "SAME_LETTERS" = some (.int 3 t)
  TOLD_BEFORE : ∃ t, mg "TOLD_BEFORE" = some (.int 4 t)
  ONE_LINE_TOO_MANY : ∃ t, mg "ONE_LINE_TOO_MANY" = some (.int 5 t)
  MOST_BYTES : ∃ t, mg "MOST_BYTES" = some (.int 65536 t)
  MOST_TYPED : ∃ t, mg "MOST_TYPED" = some (.int 24 t)
  MOST_MEANT : ∃ t, mg "MOST_MEANT" = some (.int 33 t)
  MOST_ROWS : ∃ t, mg "MOST_ROWS" = some (.int 64 t)
  TOO_GREAT : ∃ t, mg "TOO_GREAT" = some (.int (-1) t)
  FAULT : ∃ t, mg "FAULT" = some (.int (-2) t)
  NO_LETTERS : ∃ t, mg "NO_LETTERS" = some (.int (-3) t)
  NONE_SUCH : ∃ t, mg "NONE_SUCH" = some (.int (-5) t)
  BEGIN : ∃ t, mg "BEGIN" = some (.int 1 t)
  READ : ∃ t, mg "READ" = some (.int 2 t)
  WRITE : ∃ t, mg "WRITE" = some (.int 3 t)
  COST : ∃ t, mg "COST" = some (.int 4 t)
  NTH : ∃ t, mg "NTH" = some (.int 5 t)
  ALL : ∃ t, mg "ALL" = some (.int 6 t)
  b_any : mg "any" = none
  b_enumerate : mg "enumerate" = none
  b_len : mg "len" = none
  b_list : mg "list" = none
  b_min : mg "min" = none
  b_ord : mg "ord" = none
  b_range : mg "range" = none
  b_sorted : mg "sorted" = none
  b_str : mg "str" = none
  b_tuple : mg "tuple" = none
  f_are_letters : Fun K "are_letters" "are_letters" s_are_letters A.a_are_letters A.d_are_letters
  g_are_letters : mg "are_letters" = some (.ref A.a_are_letters)
  f_fitting_slips : Fun K "fitting_slips" "fitting_slips" s_fitting_slips A.a_fitting_slips A.d_fitting_slips
  g_fitting_slips : mg "fitting_slips" = some (.ref A.a_fitting_slips)
  f_moves_at : Fun K "moves_at" "moves_at" s_moves_at A.a_moves_at A.d_moves_at
  g_moves_at : mg "moves_at" = some (.ref A.a_moves_at)
  f_least_cost : Fun K "least_cost" "least_cost" s_least_cost A.a_least_cost A.d_least_cost
  g_least_cost : mg "least_cost" = some (.ref A.a_least_cost)
  f_likeliest : Fun K "likeliest" "likeliest" s_likeliest A.a_likeliest A.d_likeliest
  g_likeliest : mg "likeliest" = some (.ref A.a_likeliest)
  f_order_of : Fun K "order_of" "order_of" s_order_of A.a_order_of A.d_order_of
  g_order_of : mg "order_of" = some (.ref A.a_order_of)
  f_lengthened : Fun K "lengthened" "lengthened" s_lengthened A.a_lengthened A.d_lengthened
  g_lengthened : mg "lengthened" = some (.ref A.a_lengthened)
  f_table_of : Fun K "table_of" "table_of" s_table_of A.a_table_of A.d_table_of
  g_table_of : mg "table_of" = some (.ref A.a_table_of)
  f_parted : Fun K "parted" "parted" s_parted A.a_parted A.d_parted
  g_parted : mg "parted" = some (.ref A.a_parted)
  f_kind_of_fault : Fun K "kind_of_fault" "kind_of_fault" s_kind_of_fault A.a_kind_of_fault A.d_kind_of_fault
  g_kind_of_fault : mg "kind_of_fault" = some (.ref A.a_kind_of_fault)
  f_is_line : Fun K "is_line" "is_line" s_is_line A.a_is_line A.d_is_line
  g_is_line : mg "is_line" = some (.ref A.a_is_line)
  f_is_decimal : Fun K "is_decimal" "is_decimal" s_is_decimal A.a_is_decimal A.d_is_decimal
  g_is_decimal : mg "is_decimal" = some (.ref A.a_is_decimal)
  f_is_too_costly : Fun K "is_too_costly" "is_too_costly" s_is_too_costly A.a_is_too_costly A.d_is_too_costly
  g_is_too_costly : mg "is_too_costly" = some (.ref A.a_is_too_costly)
  f_number_of : Fun K "number_of" "number_of" s_number_of A.a_number_of A.d_number_of
  g_number_of : mg "number_of" = some (.ref A.a_number_of)
  f_text_of : Fun K "text_of" "text_of" s_text_of A.a_text_of A.d_text_of
  g_text_of : mg "text_of" = some (.ref A.a_text_of)
  f_line_of : Fun K "line_of" "line_of" s_line_of A.a_line_of A.d_line_of
  g_line_of : mg "line_of" = some (.ref A.a_line_of)
  f_answers : Fun K "answers" "answers" s_answers A.a_answers A.d_answers
  g_answers : mg "answers" = some (.ref A.a_answers)
  f_answer_of : Fun K "answer_of" "answer_of" s_answer_of A.a_answer_of A.d_answer_of
  g_answer_of : mg "answer_of" = some (.ref A.a_answer_of)
  f_Feed_init : Fun K "__init__" "Feed.__init__" s_Feed_init A.a_Feed_init A.d_Feed_init
  k_Feed_init : Mk K A.C_Feed A.a_Feed_init
  f_Feed_ended : Fun K "ended" "Feed.ended" s_Feed_ended A.a_Feed_ended A.d_Feed_ended
  m_Feed_ended : Meth K A.C_Feed "ended" A.a_Feed_ended
  f_Feed_number : Fun K "number" "Feed.number" s_Feed_number A.a_Feed_number A.d_Feed_number
  m_Feed_number : Meth K A.C_Feed "number" A.a_Feed_number
  f_Feed_row : Fun K "row" "Feed.row" s_Feed_row A.a_Feed_row A.d_Feed_row
  m_Feed_row : Meth K A.C_Feed "row" A.a_Feed_row
  f_Ways_init : Fun K "__init__" "Ways.__init__" s_Ways_init A.a_Ways_init A.d_Ways_init
  k_Ways_init : Mk K A.C_Ways A.a_Ways_init
  f_Ways_first : Fun K "first" "Ways.first" s_Ways_first A.a_Ways_first A.d_Ways_first
  m_Ways_first : Meth K A.C_Ways "first" A.a_Ways_first
  f_Ways_settled : Fun K "settled" "Ways.settled" s_Ways_settled A.a_Ways_settled A.d_Ways_settled
  m_Ways_settled : Meth K A.C_Ways "settled" A.a_Ways_settled
  f_Ways_dropped : Fun K "dropped" "Ways.dropped" s_Ways_dropped A.a_Ways_dropped A.d_Ways_dropped
  m_Ways_dropped : Meth K A.C_Ways "dropped" A.a_Ways_dropped
  f_Ways_onward : Fun K "onward" "Ways.onward" s_Ways_onward A.a_Ways_onward A.d_Ways_onward
  m_Ways_onward : Meth K A.C_Ways "onward" A.a_Ways_onward
  f_Ways_whole_cost : Fun K "whole_cost" "Ways.whole_cost" s_Ways_whole_cost A.a_Ways_whole_cost A.d_Ways_whole_cost
  m_Ways_whole_cost : Meth K A.C_Ways "whole_cost" A.a_Ways_whole_cost
  f_Beginning_init : Fun K "__init__" "Beginning.__init__" s_Beginning_init A.a_Beginning_init A.d_Beginning_init
  k_Beginning_init : Mk K A.C_Beginning A.a_Beginning_init
  f_Keeper_init : Fun K "__init__" "Keeper.__init__" s_Keeper_init A.a_Keeper_init A.d_Keeper_init
  k_Keeper_init : Mk K A.C_Keeper A.a_Keeper_init
  f_Keeper_begin : Fun K "begin" "Keeper.begin" s_Keeper_begin A.a_Keeper_begin A.d_Keeper_begin
  m_Keeper_begin : Meth K A.C_Keeper "begin" A.a_Keeper_begin
  f_Keeper_read : Fun K "read" "Keeper.read" s_Keeper_read A.a_Keeper_read A.d_Keeper_read
  m_Keeper_read : Meth K A.C_Keeper "read" A.a_Keeper_read
  f_Keeper_write : Fun K "write" "Keeper.write" s_Keeper_write A.a_Keeper_write A.d_Keeper_write
  m_Keeper_write : Meth K A.C_Keeper "write" A.a_Keeper_write
  f_Keeper_cost_of : Fun K "cost_of" "Keeper.cost_of" s_Keeper_cost_of A.a_Keeper_cost_of A.d_Keeper_cost_of
  m_Keeper_cost_of : Meth K A.C_Keeper "cost_of" A.a_Keeper_cost_of
  f_Keeper_nth_row : Fun K "nth_row" "Keeper.nth_row" s_Keeper_nth_row A.a_Keeper_nth_row A.d_Keeper_nth_row
  m_Keeper_nth_row : Meth K A.C_Keeper "nth_row" A.a_Keeper_nth_row
  f_Keeper_first_rows : Fun K "first_rows" "Keeper.first_rows" s_Keeper_first_rows A.a_Keeper_first_rows A.d_Keeper_first_rows
  m_Keeper_first_rows : Meth K A.C_Keeper "first_rows" A.a_Keeper_first_rows
  c_Feed : Cls K A.C_Feed
  g_Feed : mg "Feed" = some (.ref A.C_Feed)
  n_Feed_numbers : NoAttr K A.C_Feed "numbers"
  n_Feed_place : NoAttr K A.C_Feed "place"
  c_Ways : Cls K A.C_Ways
  g_Ways : mg "Ways" = some (.ref A.C_Ways)
  n_Ways_length : NoAttr K A.C_Ways "length"
  n_Ways_moves : NoAttr K A.C_Ways "moves"
  n_Ways_drops : NoAttr K A.C_Ways "drops"
  c_Beginning : Cls K A.C_Beginning
  g_Beginning : mg "Beginning" = some (.ref A.C_Beginning)
  n_Beginning_cost : NoAttr K A.C_Beginning "cost"
  n_Beginning_letters : NoAttr K A.C_Beginning "letters"
  n_Beginning_tracks : NoAttr K A.C_Beginning "tracks"
  n_Beginning_whole : NoAttr K A.C_Beginning "whole"
  c_Keeper : Cls K A.C_Keeper
  g_Keeper : mg "Keeper" = some (.ref A.C_Keeper)
  n_Keeper_table : NoAttr K A.C_Keeper "table"
  e_answers : ∀ (s : Shared) (us : List Value), us.length = (["calls"] : List Str).length → BindsTo s A.d_answers ⟨us, []⟩ ((["calls"] : List Str).zip us)
  t_FaultyText : PySem.FauX.FauTxt K mg A.C_FaultyText A.I_FaultyText
theorem all_mk {K : PySem.W.Frag} {h : Heap} {mg : Str → Option Value} (X : K.In h) (G : h.Ns mainGlobals mg)
    {t_FIRST_LETTER : Tok}
    {t_LAST_LETTER : Tok}
    {t_MOST_TAKEN : Tok}
    {t_DEAREST : Tok}
    {t_LINE_FEED : Tok}
    {t_BLANK : Tok}
    {t_DIGIT_ZERO : Tok}
    {t_DIGIT_NINE : Tok}
    {t_MOST_COST : Tok}
    {t_MOST_COST_DIGITS : Tok}
    {t_MOST_LETTERS : Tok}
    {t_MOST_SLIPS : Tok}
    {t_NO_FAULT : Tok}
    {t_NO_SUCH_LINE : Tok}
    {t_TOO_MUCH : Tok}
    {t_SAME_LETTERS : Tok}
    {t_TOLD_BEFORE : Tok}
    {t_ONE_LINE_TOO_MANY : Tok}
    {t_MOST_BYTES : Tok}
    {t_MOST_TYPED : Tok}
    {t_MOST_MEANT : Tok}
    {t_MOST_ROWS : Tok}
    {t_TOO_GREAT : Tok}
    {t_FAULT : Tok}
    {t_NO_LETTERS : Tok}
    {t_NONE_SUCH : Tok}
    {t_BEGIN : Tok}
    {t_READ : Tok}
    {t_WRITE : Tok}
    {t_COST : Tok}
    {t_NTH : Tok}
    {t_ALL : Tok}
    {CFeed : Addr}
    {CWays : Addr}
    {CBeginning : Addr}
    {CKeeper : Addr}
    {x_are_letters : Addr} {od_are_letters an_are_letters : Option Addr} {sl_are_letters : Array (Option Value)} {oc_are_letters kV_are_letters dc_are_letters pm_are_letters cd_are_letters ct_are_letters : Value}
    {x_fitting_slips : Addr} {od_fitting_slips an_fitting_slips : Option Addr} {sl_fitting_slips : Array (Option Value)} {oc_fitting_slips kV_fitting_slips dc_fitting_slips pm_fitting_slips cd_fitting_slips ct_fitting_slips : Value}
    {x_moves_at : Addr} {od_moves_at an_moves_at : Option Addr} {sl_moves_at : Array (Option Value)} {oc_moves_at kV_moves_at dc_moves_at pm_moves_at cd_moves_at ct_moves_at : Value}
    {x_least_cost : Addr} {od_least_cost an_least_cost : Option Addr} {sl_least_cost : Array (Option Value)} {oc_least_cost kV_least_cost dc_least_cost pm_least_cost cd_least_cost ct_least_cost : Value}
    {x_likeliest : Addr} {od_likeliest an_likeliest : Option Addr} {sl_likeliest : Array (Option Value)} {oc_likeliest kV_likeliest dc_likeliest pm_likeliest cd_likeliest ct_likeliest : Value}
    {x_order_of : Addr} {od_order_of an_order_of : Option Addr} {sl_order_of : Array (Option Value)} {oc_order_of kV_order_of dc_order_of pm_order_of cd_order_of ct_order_of : Value}
    {x_lengthened : Addr} {od_lengthened an_lengthened : Option Addr} {sl_lengthened : Array (Option Value)} {oc_lengthened kV_lengthened dc_lengthened pm_lengthened cd_lengthened ct_lengthened : Value}
    {x_table_of : Addr} {od_table_of an_table_of : Option Addr} {sl_table_of : Array (Option Value)} {oc_table_of kV_table_of dc_table_of pm_table_of cd_table_of ct_table_of : Value}
    {x_parted : Addr} {od_parted an_parted : Option Addr} {sl_parted : Array (Option Value)} {oc_parted kV_parted dc_parted pm_parted cd_parted ct_parted : Value}
    {x_kind_of_fault : Addr} {od_kind_of_fault an_kind_of_fault : Option Addr} {sl_kind_of_fault : Array (Option Value)} {oc_kind_of_fault kV_kind_of_fault dc_kind_of_fault pm_kind_of_fault cd_kind_of_fault ct_kind_of_fault : Value}
    {x_is_line : Addr} {od_is_line an_is_line : Option Addr} {sl_is_line : Array (Option Value)} {oc_is_line kV_is_line dc_is_line pm_is_line cd_is_line ct_is_line : Value}
    {x_is_decimal : Addr} {od_is_decimal an_is_decimal : Option Addr} {sl_is_decimal : Array (Option Value)} {oc_is_decimal kV_is_decimal dc_is_decimal pm_is_decimal cd_is_decimal ct_is_decimal : Value}
    {x_is_too_costly : Addr} {od_is_too_costly an_is_too_costly : Option Addr} {sl_is_too_costly : Array (Option Value)} {oc_is_too_costly kV_is_too_costly dc_is_too_costly pm_is_too_costly cd_is_too_costly ct_is_too_costly : Value}
    {x_number_of : Addr} {od_number_of an_number_of : Option Addr} {sl_number_of : Array (Option Value)} {oc_number_of kV_number_of dc_number_of pm_number_of cd_number_of ct_number_of : Value}
    {x_text_of : Addr} {od_text_of an_text_of : Option Addr} {sl_text_of : Array (Option Value)} {oc_text_of kV_text_of dc_text_of pm_text_of cd_text_of ct_text_of : Value}
    {x_line_of : Addr} {od_line_of an_line_of : Option Addr} {sl_line_of : Array (Option Value)} {oc_line_of kV_line_of dc_line_of pm_line_of cd_line_of ct_line_of : Value}
    {x_answers : Addr} {od_answers an_answers : Option Addr} {sl_answers : Array (Option Value)} {oc_answers kV_answers dc_answers pm_answers cd_answers ct_answers : Value}
    {x_answer_of : Addr} {od_answer_of an_answer_of : Option Addr} {sl_answer_of : Array (Option Value)} {oc_answer_of kV_answer_of dc_answer_of pm_answer_of cd_answer_of ct_answer_of : Value}
    {x_Feed_init : Addr} {od_Feed_init an_Feed_init : Option Addr} {sl_Feed_init : Array (Option Value)} {oc_Feed_init kV_Feed_init dc_Feed_init pm_Feed_init cd_Feed_init ct_Feed_init : Value}
    {x_Feed_ended : Addr} {od_Feed_ended an_Feed_ended : Option Addr} {sl_Feed_ended : Array (Option Value)} {oc_Feed_ended kV_Feed_ended dc_Feed_ended pm_Feed_ended cd_Feed_ended ct_Feed_ended : Value}
    {x_Feed_number : Addr} {od_Feed_number an_Feed_number : Option Addr} {sl_Feed_number : Array (Option Value)} {oc_Feed_number kV_Feed_number dc_Feed_number pm_Feed_number cd_Feed_number ct_Feed_number : Value}
    {x_Feed_row : Addr} {od_Feed_row an_Feed_row : Option Addr} {sl_Feed_row : Array (Option Value)} {oc_Feed_row kV_Feed_row dc_Feed_row pm_Feed_row cd_Feed_row ct_Feed_row : Value}
    {x_Ways_init : Addr} {od_Ways_init an_Ways_init : Option Addr} {sl_Ways_init : Array (Option Value)} {oc_Ways_init kV_Ways_init dc_Ways_init pm_Ways_init cd_Ways_init ct_Ways_init : Value}
    {x_Ways_first : Addr} {od_Ways_first an_Ways_first : Option Addr} {sl_Ways_first : Array (Option Value)} {oc_Ways_first kV_Ways_first dc_Ways_first pm_Ways_first cd_Ways_first ct_Ways_first : Value}
    {x_Ways_settled : Addr} {od_Ways_settled an_Ways_settled : Option Addr} {sl_Ways_settled : Array (Option Value)} {oc_Ways_settled kV_Ways_settled dc_Ways_settled pm_Ways_settled cd_Ways_settled ct_Ways_settled : Value}
    {x_Ways_dropped : Addr} {od_Ways_dropped an_Ways_dropped : Option Addr} {sl_Ways_dropped : Array (Option Value)} {oc_Ways_dropped kV_Ways_dropped dc_Ways_dropped pm_Ways_dropped cd_Ways_dropped ct_Ways_dropped : Value}
    {x_Ways_onward : Addr} {od_Ways_onward an_Ways_onward : Option Addr} {sl_Ways_onward : Array (Option Value)} {oc_Ways_onward kV_Ways_onward dc_Ways_onward pm_Ways_onward cd_Ways_onward ct_Ways_onward : Value}
    {x_Ways_whole_cost : Addr} {od_Ways_whole_cost an_Ways_whole_cost : Option Addr} {sl_Ways_whole_cost : Array (Option Value)} {oc_Ways_whole_cost kV_Ways_whole_cost dc_Ways_whole_cost pm_Ways_whole_cost cd_Ways_whole_cost ct_Ways_whole_cost : Value}
    {x_Beginning_init : Addr} {od_Beginning_init an_Beginning_init : Option Addr} {sl_Beginning_init : Array (Option Value)} {oc_Beginning_init kV_Beginning_init dc_Beginning_init pm_Beginning_init cd_Beginning_init ct_Beginning_init : Value}
    {x_Keeper_init : Addr} {od_Keeper_init an_Keeper_init : Option Addr} {sl_Keeper_init : Array (Option Value)} {oc_Keeper_init kV_Keeper_init dc_Keeper_init pm_Keeper_init cd_Keeper_init ct_Keeper_init : Value}
    {x_Keeper_begin : Addr} {od_Keeper_begin an_Keeper_begin : Option Addr} {sl_Keeper_begin : Array (Option Value)} {oc_Keeper_begin kV_Keeper_begin dc_Keeper_begin pm_Keeper_begin cd_Keeper_begin ct_Keeper_begin : Value}
    {x_Keeper_read : Addr} {od_Keeper_read an_Keeper_read : Option Addr} {sl_Keeper_read : Array (Option Value)} {oc_Keeper_read kV_Keeper_read dc_Keeper_read pm_Keeper_read cd_Keeper_read ct_Keeper_read : Value}
    {x_Keeper_write : Addr} {od_Keeper_write an_Keeper_write : Option Addr} {sl_Keeper_write : Array (Option Value)} {oc_Keeper_write kV_Keeper_write dc_Keeper_write pm_Keeper_write cd_Keeper_write ct_Keeper_write : Value}
    {x_Keeper_cost_of : Addr} {od_Keeper_cost_of an_Keeper_cost_of : Option Addr} {sl_Keeper_cost_of : Array (Option Value)} {oc_Keeper_cost_of kV_Keeper_cost_of dc_Keeper_cost_of pm_Keeper_cost_of cd_Keeper_cost_of ct_Keeper_cost_of : Value}
    {x_Keeper_nth_row : Addr} {od_Keeper_nth_row an_Keeper_nth_row : Option Addr} {sl_Keeper_nth_row : Array (Option Value)} {oc_Keeper_nth_row kV_Keeper_nth_row dc_Keeper_nth_row pm_Keeper_nth_row cd_Keeper_nth_row ct_Keeper_nth_row : Value}
    {x_Keeper_first_rows : Addr} {od_Keeper_first_rows an_Keeper_first_rows : Option Addr} {sl_Keeper_first_rows : Array (Option Value)} {oc_Keeper_first_rows kV_Keeper_first_rows dc_Keeper_first_rows pm_Keeper_first_rows cd_Keeper_first_rows ct_Keeper_first_rows : Value}
    {CFaultyText IFaultyText : Addr} {nmCFaultyText qCFaultyText : Str} {NCFaultyText : Addr} {bsCFaultyText : List Value} {snCFaultyText : List Str} {subCFaultyText : List Value} {abCFaultyText : Bool} {colCFaultyText : Option Bool} {ddCFaultyText : Option Addr} {m0CFaultyText m1CFaultyText m2CFaultyText m3CFaultyText m5CFaultyText : Option Value}
    {odCFaultyText anCFaultyText : Option Addr} {slCFaultyText : Array (Option Value)} {ocCFaultyText dcCFaultyText pmCFaultyText cdCFaultyText ctCFaultyText : Value}
    (h_FIRST_LETTER : PySem.W.nsIn K mainGlobals "FIRST_LETTER" = some (some (.int 33 t_FIRST_LETTER)))
    (h_LAST_LETTER : PySem.W.nsIn K mainGlobals "LAST_LETTER" = some (some (.int 126 t_LAST_LETTER)))
    (h_MOST_TAKEN : PySem.W.nsIn K mainGlobals "MOST_TAKEN" = some (some (.int 3 t_MOST_TAKEN)))
    (h_DEAREST : PySem.W.nsIn K mainGlobals "DEAREST" = some (some (.int 196605 t_DEAREST)))
    (h_LINE_FEED : PySem.W.nsIn K mainGlobals "LINE_FEED" = some (some (.int 10 t_LINE_FEED)))
    (h_BLANK : PySem.W.nsIn K mainGlobals "BLANK" = some (some (.int 32 t_BLANK)))
    (h_DIGIT_ZERO : PySem.W.nsIn K mainGlobals "DIGIT_ZERO" = some (some (.int 48 t_DIGIT_ZERO)))
    (h_DIGIT_NINE : PySem.W.nsIn K mainGlobals "DIGIT_NINE" = some (some (.int 57 t_DIGIT_NINE)))
    (h_MOST_COST : PySem.W.nsIn K mainGlobals "MOST_COST" = some (some (.int 65535 t_MOST_COST)))
    (h_MOST_COST_DIGITS : PySem.W.nsIn K mainGlobals "MOST_COST_DIGITS" = some (some (.int 5 t_MOST_COST_DIGITS)))
    (h_MOST_LETTERS : PySem.W.nsIn K mainGlobals "MOST_LETTERS" = some (some (.int 3 t_MOST_LETTERS)))
    (h_MOST_SLIPS : PySem.W.nsIn K mainGlobals "MOST_SLIPS" = some (some (.int 32 t_MOST_SLIPS)))
    (h_NO_FAULT : PySem.W.nsIn K mainGlobals "NO_FAULT" = some (some (.int 0 t_NO_FAULT)))
    (h_NO_SUCH_LINE : PySem.W.nsIn K mainGlobals "NO_SUCH_LINE" = some (some (.int 1 t_NO_SUCH_LINE)))
    (h_TOO_MUCH : PySem.W.nsIn K mainGlobals "TOO_MUCH" = some (some (.int 2 t_TOO_MUCH)))
    (h_SAME_LETTERS : PySem.W.nsIn K mainGlobals "SAME_LETTERS" = some (some (.int 3 t_SAME_LETTERS)))
    (h_TOLD_BEFORE : PySem.W.nsIn K mainGlobals "TOLD_BEFORE" = some (some (.int 4 t_TOLD_BEFORE)))
    (h_ONE_LINE_TOO_MANY : PySem.W.nsIn K mainGlobals "ONE_LINE_TOO_MANY" = some (some (.int 5 t_ONE_LINE_TOO_MANY)))
    (h_MOST_BYTES : PySem.W.nsIn K mainGlobals "MOST_BYTES" = some (some (.int 65536 t_MOST_BYTES)))
    (h_MOST_TYPED : PySem.W.nsIn K mainGlobals "MOST_TYPED" = some (some (.int 24 t_MOST_TYPED)))
    (h_MOST_MEANT : PySem.W.nsIn K mainGlobals "MOST_MEANT" = some (some (.int 33 t_MOST_MEANT)))
    (h_MOST_ROWS : PySem.W.nsIn K mainGlobals "MOST_ROWS" = some (some (.int 64 t_MOST_ROWS)))
    (h_TOO_GREAT : PySem.W.nsIn K mainGlobals "TOO_GREAT" = some (some (.int (-1) t_TOO_GREAT)))
    (h_FAULT : PySem.W.nsIn K mainGlobals "FAULT" = some (some (.int (-2) t_FAULT)))
    (h_NO_LETTERS : PySem.W.nsIn K mainGlobals "NO_LETTERS" = some (some (.int (-3) t_NO_LETTERS)))
    (h_NONE_SUCH : PySem.W.nsIn K mainGlobals "NONE_SUCH" = some (some (.int (-5) t_NONE_SUCH)))
    (h_BEGIN : PySem.W.nsIn K mainGlobals "BEGIN" = some (some (.int 1 t_BEGIN)))
    (h_READ : PySem.W.nsIn K mainGlobals "READ" = some (some (.int 2 t_READ)))
    (h_WRITE : PySem.W.nsIn K mainGlobals "WRITE" = some (some (.int 3 t_WRITE)))
    (h_COST : PySem.W.nsIn K mainGlobals "COST" = some (some (.int 4 t_COST)))
    (h_NTH : PySem.W.nsIn K mainGlobals "NTH" = some (some (.int 5 t_NTH)))
    (h_ALL : PySem.W.nsIn K mainGlobals "ALL" = some (some (.int 6 t_ALL)))
    (h_any : PySem.W.nsIn K mainGlobals "any" = some none)
    (h_enumerate : PySem.W.nsIn K mainGlobals "enumerate" = some none)
    (h_len : PySem.W.nsIn K mainGlobals "len" = some none)
    (h_list : PySem.W.nsIn K mainGlobals "list" = some none)
    (h_min : PySem.W.nsIn K mainGlobals "min" = some none)
    (h_ord : PySem.W.nsIn K mainGlobals "ord" = some none)
    (h_range : PySem.W.nsIn K mainGlobals "range" = some none)
    (h_sorted : PySem.W.nsIn K mainGlobals "sorted" = some none)
    (h_str : PySem.W.nsIn K mainGlobals "str" = some none)
    (h_tuple : PySem.W.nsIn K mainGlobals "tuple" = some none)
    (aCFeed : PySem.W.nsIn K mainGlobals "Feed" = some (some (.ref CFeed)))
    (pgCFeed : PySem.W.plainGet K CFeed Str.empty = true)
    (hdCFeed : PySem.W.hasDictIn K CFeed = true)
    (poCFeed : PySem.W.plainOver K CFeed = true)
    (saCFeed : PySem.W.findIn K (.ref CFeed) "__setattr__" = some (some (.builtin "object.__setattr__")))
    (mkCFeed : PySem.W.makesIn K CFeed = true)
    (kcCFeed : PySem.W.keepIn K (.ref CFeed) = true)
    (n_Feed_numbers : PySem.W.findIn K (.ref CFeed) "numbers" = some none)
    (n_Feed_place : PySem.W.findIn K (.ref CFeed) "place" = some none)
    (aCWays : PySem.W.nsIn K mainGlobals "Ways" = some (some (.ref CWays)))
    (pgCWays : PySem.W.plainGet K CWays Str.empty = true)
    (hdCWays : PySem.W.hasDictIn K CWays = true)
    (poCWays : PySem.W.plainOver K CWays = true)
    (saCWays : PySem.W.findIn K (.ref CWays) "__setattr__" = some (some (.builtin "object.__setattr__")))
    (mkCWays : PySem.W.makesIn K CWays = true)
    (kcCWays : PySem.W.keepIn K (.ref CWays) = true)
    (n_Ways_length : PySem.W.findIn K (.ref CWays) "length" = some none)
    (n_Ways_moves : PySem.W.findIn K (.ref CWays) "moves" = some none)
    (n_Ways_drops : PySem.W.findIn K (.ref CWays) "drops" = some none)
    (aCBeginning : PySem.W.nsIn K mainGlobals "Beginning" = some (some (.ref CBeginning)))
    (pgCBeginning : PySem.W.plainGet K CBeginning Str.empty = true)
    (hdCBeginning : PySem.W.hasDictIn K CBeginning = true)
    (poCBeginning : PySem.W.plainOver K CBeginning = true)
    (saCBeginning : PySem.W.findIn K (.ref CBeginning) "__setattr__" = some (some (.builtin "object.__setattr__")))
    (mkCBeginning : PySem.W.makesIn K CBeginning = true)
    (kcCBeginning : PySem.W.keepIn K (.ref CBeginning) = true)
    (n_Beginning_cost : PySem.W.findIn K (.ref CBeginning) "cost" = some none)
    (n_Beginning_letters : PySem.W.findIn K (.ref CBeginning) "letters" = some none)
    (n_Beginning_tracks : PySem.W.findIn K (.ref CBeginning) "tracks" = some none)
    (n_Beginning_whole : PySem.W.findIn K (.ref CBeginning) "whole" = some none)
    (aCKeeper : PySem.W.nsIn K mainGlobals "Keeper" = some (some (.ref CKeeper)))
    (pgCKeeper : PySem.W.plainGet K CKeeper Str.empty = true)
    (hdCKeeper : PySem.W.hasDictIn K CKeeper = true)
    (poCKeeper : PySem.W.plainOver K CKeeper = true)
    (saCKeeper : PySem.W.findIn K (.ref CKeeper) "__setattr__" = some (some (.builtin "object.__setattr__")))
    (mkCKeeper : PySem.W.makesIn K CKeeper = true)
    (kcCKeeper : PySem.W.keepIn K (.ref CKeeper) = true)
    (n_Keeper_table : PySem.W.findIn K (.ref CKeeper) "table" = some none)
    (a_are_letters : PySem.W.nsIn K mainGlobals "are_letters" = some (some (.ref x_are_letters)))
    (l_are_letters : K.lookup x_are_letters = some ⟨oc_are_letters, od_are_letters, .func (PySem.W.fnOf "are_letters" "are_letters" (defArgs s_are_letters) (defBody s_are_letters) (defScope s_are_letters) .none kV_are_letters dc_are_letters pm_are_letters an_are_letters cd_are_letters ct_are_letters), sl_are_letters⟩)
    (c_are_letters : PySem.W.codeIn K cd_are_letters "are_letters" = true)
    (k_are_letters : PySem.W.keepIn K (.ref x_are_letters) = true)
    (a_fitting_slips : PySem.W.nsIn K mainGlobals "fitting_slips" = some (some (.ref x_fitting_slips)))
    (l_fitting_slips : K.lookup x_fitting_slips = some ⟨oc_fitting_slips, od_fitting_slips, .func (PySem.W.fnOf "fitting_slips" "fitting_slips" (defArgs s_fitting_slips) (defBody s_fitting_slips) (defScope s_fitting_slips) .none kV_fitting_slips dc_fitting_slips pm_fitting_slips an_fitting_slips cd_fitting_slips ct_fitting_slips), sl_fitting_slips⟩)
    (c_fitting_slips : PySem.W.codeIn K cd_fitting_slips "fitting_slips" = true)
    (k_fitting_slips : PySem.W.keepIn K (.ref x_fitting_slips) = true)
    (a_moves_at : PySem.W.nsIn K mainGlobals "moves_at" = some (some (.ref x_moves_at)))
    (l_moves_at : K.lookup x_moves_at = some ⟨oc_moves_at, od_moves_at, .func (PySem.W.fnOf "moves_at" "moves_at" (defArgs s_moves_at) (defBody s_moves_at) (defScope s_moves_at) .none kV_moves_at dc_moves_at pm_moves_at an_moves_at cd_moves_at ct_moves_at), sl_moves_at⟩)
    (c_moves_at : PySem.W.codeIn K cd_moves_at "moves_at" = true)
    (k_moves_at : PySem.W.keepIn K (.ref x_moves_at) = true)
    (a_least_cost : PySem.W.nsIn K mainGlobals "least_cost" = some (some (.ref x_least_cost)))
    (l_least_cost : K.lookup x_least_cost = some ⟨oc_least_cost, od_least_cost, .func (PySem.W.fnOf "least_cost" "least_cost" (defArgs s_least_cost) (defBody s_least_cost) (defScope s_least_cost) .none kV_least_cost dc_least_cost pm_least_cost an_least_cost cd_least_cost ct_least_cost), sl_least_cost⟩)
    (c_least_cost : PySem.W.codeIn K cd_least_cost "least_cost" = true)
    (k_least_cost : PySem.W.keepIn K (.ref x_least_cost) = true)
    (a_likeliest : PySem.W.nsIn K mainGlobals "likeliest" = some (some (.ref x_likeliest)))
    (l_likeliest : K.lookup x_likeliest = some ⟨oc_likeliest, od_likeliest, .func (PySem.W.fnOf "likeliest" "likeliest" (defArgs s_likeliest) (defBody s_likeliest) (defScope s_likeliest) .none kV_likeliest dc_likeliest pm_likeliest an_likeliest cd_likeliest ct_likeliest), sl_likeliest⟩)
    (c_likeliest : PySem.W.codeIn K cd_likeliest "likeliest" = true)
    (k_likeliest : PySem.W.keepIn K (.ref x_likeliest) = true)
    (a_order_of : PySem.W.nsIn K mainGlobals "order_of" = some (some (.ref x_order_of)))
    (l_order_of : K.lookup x_order_of = some ⟨oc_order_of, od_order_of, .func (PySem.W.fnOf "order_of" "order_of" (defArgs s_order_of) (defBody s_order_of) (defScope s_order_of) .none kV_order_of dc_order_of pm_order_of an_order_of cd_order_of ct_order_of), sl_order_of⟩)
    (c_order_of : PySem.W.codeIn K cd_order_of "order_of" = true)
    (k_order_of : PySem.W.keepIn K (.ref x_order_of) = true)
    (a_lengthened : PySem.W.nsIn K mainGlobals "lengthened" = some (some (.ref x_lengthened)))
    (l_lengthened : K.lookup x_lengthened = some ⟨oc_lengthened, od_lengthened, .func (PySem.W.fnOf "lengthened" "lengthened" (defArgs s_lengthened) (defBody s_lengthened) (defScope s_lengthened) .none kV_lengthened dc_lengthened pm_lengthened an_lengthened cd_lengthened ct_lengthened), sl_lengthened⟩)
    (c_lengthened : PySem.W.codeIn K cd_lengthened "lengthened" = true)
    (k_lengthened : PySem.W.keepIn K (.ref x_lengthened) = true)
    (a_table_of : PySem.W.nsIn K mainGlobals "table_of" = some (some (.ref x_table_of)))
    (l_table_of : K.lookup x_table_of = some ⟨oc_table_of, od_table_of, .func (PySem.W.fnOf "table_of" "table_of" (defArgs s_table_of) (defBody s_table_of) (defScope s_table_of) .none kV_table_of dc_table_of pm_table_of an_table_of cd_table_of ct_table_of), sl_table_of⟩)
    (c_table_of : PySem.W.codeIn K cd_table_of "table_of" = true)
    (k_table_of : PySem.W.keepIn K (.ref x_table_of) = true)
    (a_parted : PySem.W.nsIn K mainGlobals "parted" = some (some (.ref x_parted)))
    (l_parted : K.lookup x_parted = some ⟨oc_parted, od_parted, .func (PySem.W.fnOf "parted" "parted" (defArgs s_parted) (defBody s_parted) (defScope s_parted) .none kV_parted dc_parted pm_parted an_parted cd_parted ct_parted), sl_parted⟩)
    (c_parted : PySem.W.codeIn K cd_parted "parted" = true)
    (k_parted : PySem.W.keepIn K (.ref x_parted) = true)
    (a_kind_of_fault : PySem.W.nsIn K mainGlobals "kind_of_fault" = some (some (.ref x_kind_of_fault)))
    (l_kind_of_fault : K.lookup x_kind_of_fault = some ⟨oc_kind_of_fault, od_kind_of_fault, .func (PySem.W.fnOf "kind_of_fault" "kind_of_fault" (defArgs s_kind_of_fault) (defBody s_kind_of_fault) (defScope s_kind_of_fault) .none kV_kind_of_fault dc_kind_of_fault pm_kind_of_fault an_kind_of_fault cd_kind_of_fault ct_kind_of_fault), sl_kind_of_fault⟩)
    (c_kind_of_fault : PySem.W.codeIn K cd_kind_of_fault "kind_of_fault" = true)
    (k_kind_of_fault : PySem.W.keepIn K (.ref x_kind_of_fault) = true)
    (a_is_line : PySem.W.nsIn K mainGlobals "is_line" = some (some (.ref x_is_line)))
    (l_is_line : K.lookup x_is_line = some ⟨oc_is_line, od_is_line, .func (PySem.W.fnOf "is_line" "is_line" (defArgs s_is_line) (defBody s_is_line) (defScope s_is_line) .none kV_is_line dc_is_line pm_is_line an_is_line cd_is_line ct_is_line), sl_is_line⟩)
    (c_is_line : PySem.W.codeIn K cd_is_line "is_line" = true)
    (k_is_line : PySem.W.keepIn K (.ref x_is_line) = true)
    (a_is_decimal : PySem.W.nsIn K mainGlobals "is_decimal" = some (some (.ref x_is_decimal)))
    (l_is_decimal : K.lookup x_is_decimal = some ⟨oc_is_decimal, od_is_decimal, .func (PySem.W.fnOf "is_decimal" "is_decimal" (defArgs s_is_decimal) (defBody s_is_decimal) (defScope s_is_decimal) .none kV_is_decimal dc_is_decimal pm_is_decimal an_is_decimal cd_is_decimal ct_is_decimal), sl_is_decimal⟩)
    (c_is_decimal : PySem.W.codeIn K cd_is_decimal "is_decimal" = true)
    (k_is_decimal : PySem.W.keepIn K (.ref x_is_decimal) = true)
    (a_is_too_costly : PySem.W.nsIn K mainGlobals "is_too_costly" = some (some (.ref x_is_too_costly)))
    (l_is_too_costly : K.lookup x_is_too_costly = some ⟨oc_is_too_costly, od_is_too_costly, .func (PySem.W.fnOf "is_too_costly" "is_too_costly" (defArgs s_is_too_costly) (defBody s_is_too_costly) (defScope s_is_too_costly) .none kV_is_too_costly dc_is_too_costly pm_is_too_costly an_is_too_costly cd_is_too_costly ct_is_too_costly), sl_is_too_costly⟩)
    (c_is_too_costly : PySem.W.codeIn K cd_is_too_costly "is_too_costly" = true)
    (k_is_too_costly : PySem.W.keepIn K (.ref x_is_too_costly) = true)
    (a_number_of : PySem.W.nsIn K mainGlobals "number_of" = some (some (.ref x_number_of)))
    (l_number_of : K.lookup x_number_of = some ⟨oc_number_of, od_number_of, .func (PySem.W.fnOf "number_of" "number_of" (defArgs s_number_of) (defBody s_number_of) (defScope s_number_of) .none kV_number_of dc_number_of pm_number_of an_number_of cd_number_of ct_number_of), sl_number_of⟩)
    (c_number_of : PySem.W.codeIn K cd_number_of "number_of" = true)
    (k_number_of : PySem.W.keepIn K (.ref x_number_of) = true)
    (a_text_of : PySem.W.nsIn K mainGlobals "text_of" = some (some (.ref x_text_of)))
    (l_text_of : K.lookup x_text_of = some ⟨oc_text_of, od_text_of, .func (PySem.W.fnOf "text_of" "text_of" (defArgs s_text_of) (defBody s_text_of) (defScope s_text_of) .none kV_text_of dc_text_of pm_text_of an_text_of cd_text_of ct_text_of), sl_text_of⟩)
    (c_text_of : PySem.W.codeIn K cd_text_of "text_of" = true)
    (k_text_of : PySem.W.keepIn K (.ref x_text_of) = true)
    (a_line_of : PySem.W.nsIn K mainGlobals "line_of" = some (some (.ref x_line_of)))
    (l_line_of : K.lookup x_line_of = some ⟨oc_line_of, od_line_of, .func (PySem.W.fnOf "line_of" "line_of" (defArgs s_line_of) (defBody s_line_of) (defScope s_line_of) .none kV_line_of dc_line_of pm_line_of an_line_of cd_line_of ct_line_of), sl_line_of⟩)
    (c_line_of : PySem.W.codeIn K cd_line_of "line_of" = true)
    (k_line_of : PySem.W.keepIn K (.ref x_line_of) = true)
    (a_answers : PySem.W.nsIn K mainGlobals "answers" = some (some (.ref x_answers)))
    (l_answers : K.lookup x_answers = some ⟨oc_answers, od_answers, .func (PySem.W.fnOf "answers" "answers" (defArgs s_answers) (defBody s_answers) (defScope s_answers) .none kV_answers dc_answers pm_answers an_answers cd_answers ct_answers), sl_answers⟩)
    (c_answers : PySem.W.codeIn K cd_answers "answers" = true)
    (k_answers : PySem.W.keepIn K (.ref x_answers) = true)
    (a_answer_of : PySem.W.nsIn K mainGlobals "answer_of" = some (some (.ref x_answer_of)))
    (l_answer_of : K.lookup x_answer_of = some ⟨oc_answer_of, od_answer_of, .func (PySem.W.fnOf "answer_of" "answer_of" (defArgs s_answer_of) (defBody s_answer_of) (defScope s_answer_of) .none kV_answer_of dc_answer_of pm_answer_of an_answer_of cd_answer_of ct_answer_of), sl_answer_of⟩)
    (c_answer_of : PySem.W.codeIn K cd_answer_of "answer_of" = true)
    (k_answer_of : PySem.W.keepIn K (.ref x_answer_of) = true)
    (a_Feed_init : PySem.W.findIn K (.ref CFeed) "__init__" = some (some (.ref x_Feed_init)))
    (i_Feed_init : PySem.W.isFn K (.ref x_Feed_init) = true)
    (l_Feed_init : K.lookup x_Feed_init = some ⟨oc_Feed_init, od_Feed_init, .func (PySem.W.fnOf "__init__" "Feed.__init__" (defArgs s_Feed_init) (defBody s_Feed_init) (defScope s_Feed_init) .none kV_Feed_init dc_Feed_init pm_Feed_init an_Feed_init cd_Feed_init ct_Feed_init), sl_Feed_init⟩)
    (c_Feed_init : PySem.W.codeIn K cd_Feed_init "Feed.__init__" = true)
    (k_Feed_init : PySem.W.keepIn K (.ref x_Feed_init) = true)
    (a_Feed_ended : PySem.W.findIn K (.ref CFeed) "ended" = some (some (.ref x_Feed_ended)))
    (i_Feed_ended : PySem.W.isFn K (.ref x_Feed_ended) = true)
    (l_Feed_ended : K.lookup x_Feed_ended = some ⟨oc_Feed_ended, od_Feed_ended, .func (PySem.W.fnOf "ended" "Feed.ended" (defArgs s_Feed_ended) (defBody s_Feed_ended) (defScope s_Feed_ended) .none kV_Feed_ended dc_Feed_ended pm_Feed_ended an_Feed_ended cd_Feed_ended ct_Feed_ended), sl_Feed_ended⟩)
    (c_Feed_ended : PySem.W.codeIn K cd_Feed_ended "Feed.ended" = true)
    (k_Feed_ended : PySem.W.keepIn K (.ref x_Feed_ended) = true)
    (a_Feed_number : PySem.W.findIn K (.ref CFeed) "number" = some (some (.ref x_Feed_number)))
    (i_Feed_number : PySem.W.isFn K (.ref x_Feed_number) = true)
    (l_Feed_number : K.lookup x_Feed_number = some ⟨oc_Feed_number, od_Feed_number, .func (PySem.W.fnOf "number" "Feed.number" (defArgs s_Feed_number) (defBody s_Feed_number) (defScope s_Feed_number) .none kV_Feed_number dc_Feed_number pm_Feed_number an_Feed_number cd_Feed_number ct_Feed_number), sl_Feed_number⟩)
    (c_Feed_number : PySem.W.codeIn K cd_Feed_number "Feed.number" = true)
    (k_Feed_number : PySem.W.keepIn K (.ref x_Feed_number) = true)
    (a_Feed_row : PySem.W.findIn K (.ref CFeed) "row" = some (some (.ref x_Feed_row)))
    (i_Feed_row : PySem.W.isFn K (.ref x_Feed_row) = true)
    (l_Feed_row : K.lookup x_Feed_row = some ⟨oc_Feed_row, od_Feed_row, .func (PySem.W.fnOf "row" "Feed.row" (defArgs s_Feed_row) (defBody s_Feed_row) (defScope s_Feed_row) .none kV_Feed_row dc_Feed_row pm_Feed_row an_Feed_row cd_Feed_row ct_Feed_row), sl_Feed_row⟩)
    (c_Feed_row : PySem.W.codeIn K cd_Feed_row "Feed.row" = true)
    (k_Feed_row : PySem.W.keepIn K (.ref x_Feed_row) = true)
    (a_Ways_init : PySem.W.findIn K (.ref CWays) "__init__" = some (some (.ref x_Ways_init)))
    (i_Ways_init : PySem.W.isFn K (.ref x_Ways_init) = true)
    (l_Ways_init : K.lookup x_Ways_init = some ⟨oc_Ways_init, od_Ways_init, .func (PySem.W.fnOf "__init__" "Ways.__init__" (defArgs s_Ways_init) (defBody s_Ways_init) (defScope s_Ways_init) .none kV_Ways_init dc_Ways_init pm_Ways_init an_Ways_init cd_Ways_init ct_Ways_init), sl_Ways_init⟩)
    (c_Ways_init : PySem.W.codeIn K cd_Ways_init "Ways.__init__" = true)
    (k_Ways_init : PySem.W.keepIn K (.ref x_Ways_init) = true)
    (a_Ways_first : PySem.W.findIn K (.ref CWays) "first" = some (some (.ref x_Ways_first)))
    (i_Ways_first : PySem.W.isFn K (.ref x_Ways_first) = true)
    (l_Ways_first : K.lookup x_Ways_first = some ⟨oc_Ways_first, od_Ways_first, .func (PySem.W.fnOf "first" "Ways.first" (defArgs s_Ways_first) (defBody s_Ways_first) (defScope s_Ways_first) .none kV_Ways_first dc_Ways_first pm_Ways_first an_Ways_first cd_Ways_first ct_Ways_first), sl_Ways_first⟩)
    (c_Ways_first : PySem.W.codeIn K cd_Ways_first "Ways.first" = true)
    (k_Ways_first : PySem.W.keepIn K (.ref x_Ways_first) = true)
    (a_Ways_settled : PySem.W.findIn K (.ref CWays) "settled" = some (some (.ref x_Ways_settled)))
    (i_Ways_settled : PySem.W.isFn K (.ref x_Ways_settled) = true)
    (l_Ways_settled : K.lookup x_Ways_settled = some ⟨oc_Ways_settled, od_Ways_settled, .func (PySem.W.fnOf "settled" "Ways.settled" (defArgs s_Ways_settled) (defBody s_Ways_settled) (defScope s_Ways_settled) .none kV_Ways_settled dc_Ways_settled pm_Ways_settled an_Ways_settled cd_Ways_settled ct_Ways_settled), sl_Ways_settled⟩)
    (c_Ways_settled : PySem.W.codeIn K cd_Ways_settled "Ways.settled" = true)
    (k_Ways_settled : PySem.W.keepIn K (.ref x_Ways_settled) = true)
    (a_Ways_dropped : PySem.W.findIn K (.ref CWays) "dropped" = some (some (.ref x_Ways_dropped)))
    (i_Ways_dropped : PySem.W.isFn K (.ref x_Ways_dropped) = true)
    (l_Ways_dropped : K.lookup x_Ways_dropped = some ⟨oc_Ways_dropped, od_Ways_dropped, .func (PySem.W.fnOf "dropped" "Ways.dropped" (defArgs s_Ways_dropped) (defBody s_Ways_dropped) (defScope s_Ways_dropped) .none kV_Ways_dropped dc_Ways_dropped pm_Ways_dropped an_Ways_dropped cd_Ways_dropped ct_Ways_dropped), sl_Ways_dropped⟩)
    (c_Ways_dropped : PySem.W.codeIn K cd_Ways_dropped "Ways.dropped" = true)
    (k_Ways_dropped : PySem.W.keepIn K (.ref x_Ways_dropped) = true)
    (a_Ways_onward : PySem.W.findIn K (.ref CWays) "onward" = some (some (.ref x_Ways_onward)))
    (i_Ways_onward : PySem.W.isFn K (.ref x_Ways_onward) = true)
    (l_Ways_onward : K.lookup x_Ways_onward = some ⟨oc_Ways_onward, od_Ways_onward, .func (PySem.W.fnOf "onward" "Ways.onward" (defArgs s_Ways_onward) (defBody s_Ways_onward) (defScope s_Ways_onward) .none kV_Ways_onward dc_Ways_onward pm_Ways_onward an_Ways_onward cd_Ways_onward ct_Ways_onward), sl_Ways_onward⟩)
    (c_Ways_onward : PySem.W.codeIn K cd_Ways_onward "Ways.onward" = true)
    (k_Ways_onward : PySem.W.keepIn K (.ref x_Ways_onward) = true)
    (a_Ways_whole_cost : PySem.W.findIn K (.ref CWays) "whole_cost" = some (some (.ref x_Ways_whole_cost)))
    (i_Ways_whole_cost : PySem.W.isFn K (.ref x_Ways_whole_cost) = true)
    (l_Ways_whole_cost : K.lookup x_Ways_whole_cost = some ⟨oc_Ways_whole_cost, od_Ways_whole_cost, .func (PySem.W.fnOf "whole_cost" "Ways.whole_cost" (defArgs s_Ways_whole_cost) (defBody s_Ways_whole_cost) (defScope s_Ways_whole_cost) .none kV_Ways_whole_cost dc_Ways_whole_cost pm_Ways_whole_cost an_Ways_whole_cost cd_Ways_whole_cost ct_Ways_whole_cost), sl_Ways_whole_cost⟩)
    (c_Ways_whole_cost : PySem.W.codeIn K cd_Ways_whole_cost "Ways.whole_cost" = true)
    (k_Ways_whole_cost : PySem.W.keepIn K (.ref x_Ways_whole_cost) = true)
    (a_Beginning_init : PySem.W.findIn K (.ref CBeginning) "__init__" = some (some (.ref x_Beginning_init)))
    (i_Beginning_init : PySem.W.isFn K (.ref x_Beginning_init) = true)
    (l_Beginning_init : K.lookup x_Beginning_init = some ⟨oc_Beginning_init, od_Beginning_init, .func (PySem.W.fnOf "__init__" "Beginning.__init__" (defArgs s_Beginning_init) (defBody s_Beginning_init) (defScope s_Beginning_init) .none kV_Beginning_init dc_Beginning_init pm_Beginning_init an_Beginning_init cd_Beginning_init ct_Beginning_init), sl_Beginning_init⟩)
    (c_Beginning_init : PySem.W.codeIn K cd_Beginning_init "Beginning.__init__" = true)
    (k_Beginning_init : PySem.W.keepIn K (.ref x_Beginning_init) = true)
    (a_Keeper_init : PySem.W.findIn K (.ref CKeeper) "__init__" = some (some (.ref x_Keeper_init)))
    (i_Keeper_init : PySem.W.isFn K (.ref x_Keeper_init) = true)
    (l_Keeper_init : K.lookup x_Keeper_init = some ⟨oc_Keeper_init, od_Keeper_init, .func (PySem.W.fnOf "__init__" "Keeper.__init__" (defArgs s_Keeper_init) (defBody s_Keeper_init) (defScope s_Keeper_init) .none kV_Keeper_init dc_Keeper_init pm_Keeper_init an_Keeper_init cd_Keeper_init ct_Keeper_init), sl_Keeper_init⟩)
    (c_Keeper_init : PySem.W.codeIn K cd_Keeper_init "Keeper.__init__" = true)
    (k_Keeper_init : PySem.W.keepIn K (.ref x_Keeper_init) = true)
    (a_Keeper_begin : PySem.W.findIn K (.ref CKeeper) "begin" = some (some (.ref x_Keeper_begin)))
    (i_Keeper_begin : PySem.W.isFn K (.ref x_Keeper_begin) = true)
    (l_Keeper_begin : K.lookup x_Keeper_begin = some ⟨oc_Keeper_begin, od_Keeper_begin, .func (PySem.W.fnOf "begin" "Keeper.begin" (defArgs s_Keeper_begin) (defBody s_Keeper_begin) (defScope s_Keeper_begin) .none kV_Keeper_begin dc_Keeper_begin pm_Keeper_begin an_Keeper_begin cd_Keeper_begin ct_Keeper_begin), sl_Keeper_begin⟩)
    (c_Keeper_begin : PySem.W.codeIn K cd_Keeper_begin "Keeper.begin" = true)
    (k_Keeper_begin : PySem.W.keepIn K (.ref x_Keeper_begin) = true)
    (a_Keeper_read : PySem.W.findIn K (.ref CKeeper) "read" = some (some (.ref x_Keeper_read)))
    (i_Keeper_read : PySem.W.isFn K (.ref x_Keeper_read) = true)
    (l_Keeper_read : K.lookup x_Keeper_read = some ⟨oc_Keeper_read, od_Keeper_read, .func (PySem.W.fnOf "read" "Keeper.read" (defArgs s_Keeper_read) (defBody s_Keeper_read) (defScope s_Keeper_read) .none kV_Keeper_read dc_Keeper_read pm_Keeper_read an_Keeper_read cd_Keeper_read ct_Keeper_read), sl_Keeper_read⟩)
    (c_Keeper_read : PySem.W.codeIn K cd_Keeper_read "Keeper.read" = true)
    (k_Keeper_read : PySem.W.keepIn K (.ref x_Keeper_read) = true)
    (a_Keeper_write : PySem.W.findIn K (.ref CKeeper) "write" = some (some (.ref x_Keeper_write)))
    (i_Keeper_write : PySem.W.isFn K (.ref x_Keeper_write) = true)
    (l_Keeper_write : K.lookup x_Keeper_write = some ⟨oc_Keeper_write, od_Keeper_write, .func (PySem.W.fnOf "write" "Keeper.write" (defArgs s_Keeper_write) (defBody s_Keeper_write) (defScope s_Keeper_write) .none kV_Keeper_write dc_Keeper_write pm_Keeper_write an_Keeper_write cd_Keeper_write ct_Keeper_write), sl_Keeper_write⟩)
    (c_Keeper_write : PySem.W.codeIn K cd_Keeper_write "Keeper.write" = true)
    (k_Keeper_write : PySem.W.keepIn K (.ref x_Keeper_write) = true)
    (a_Keeper_cost_of : PySem.W.findIn K (.ref CKeeper) "cost_of" = some (some (.ref x_Keeper_cost_of)))
    (i_Keeper_cost_of : PySem.W.isFn K (.ref x_Keeper_cost_of) = true)
    (l_Keeper_cost_of : K.lookup x_Keeper_cost_of = some ⟨oc_Keeper_cost_of, od_Keeper_cost_of, .func (PySem.W.fnOf "cost_of" "Keeper.cost_of" (defArgs s_Keeper_cost_of) (defBody s_Keeper_cost_of) (defScope s_Keeper_cost_of) .none kV_Keeper_cost_of dc_Keeper_cost_of pm_Keeper_cost_of an_Keeper_cost_of cd_Keeper_cost_of ct_Keeper_cost_of), sl_Keeper_cost_of⟩)
    (c_Keeper_cost_of : PySem.W.codeIn K cd_Keeper_cost_of "Keeper.cost_of" = true)
    (k_Keeper_cost_of : PySem.W.keepIn K (.ref x_Keeper_cost_of) = true)
    (a_Keeper_nth_row : PySem.W.findIn K (.ref CKeeper) "nth_row" = some (some (.ref x_Keeper_nth_row)))
    (i_Keeper_nth_row : PySem.W.isFn K (.ref x_Keeper_nth_row) = true)
    (l_Keeper_nth_row : K.lookup x_Keeper_nth_row = some ⟨oc_Keeper_nth_row, od_Keeper_nth_row, .func (PySem.W.fnOf "nth_row" "Keeper.nth_row" (defArgs s_Keeper_nth_row) (defBody s_Keeper_nth_row) (defScope s_Keeper_nth_row) .none kV_Keeper_nth_row dc_Keeper_nth_row pm_Keeper_nth_row an_Keeper_nth_row cd_Keeper_nth_row ct_Keeper_nth_row), sl_Keeper_nth_row⟩)
    (c_Keeper_nth_row : PySem.W.codeIn K cd_Keeper_nth_row "Keeper.nth_row" = true)
    (k_Keeper_nth_row : PySem.W.keepIn K (.ref x_Keeper_nth_row) = true)
    (a_Keeper_first_rows : PySem.W.findIn K (.ref CKeeper) "first_rows" = some (some (.ref x_Keeper_first_rows)))
    (i_Keeper_first_rows : PySem.W.isFn K (.ref x_Keeper_first_rows) = true)
    (l_Keeper_first_rows : K.lookup x_Keeper_first_rows = some ⟨oc_Keeper_first_rows, od_Keeper_first_rows, .func (PySem.W.fnOf "first_rows" "Keeper.first_rows" (defArgs s_Keeper_first_rows) (defBody s_Keeper_first_rows) (defScope s_Keeper_first_rows) .none kV_Keeper_first_rows dc_Keeper_first_rows pm_Keeper_first_rows an_Keeper_first_rows cd_Keeper_first_rows ct_Keeper_first_rows), sl_Keeper_first_rows⟩)
    (c_Keeper_first_rows : PySem.W.codeIn K cd_Keeper_first_rows "Keeper.first_rows" = true)
    (k_Keeper_first_rows : PySem.W.keepIn K (.ref x_Keeper_first_rows) = true)
    (aCFaultyText : PySem.W.nsIn K mainGlobals "FaultyText" = some (some (.ref CFaultyText)))
    (xCFaultyText : K.lookup CFaultyText = some (excClassObj nmCFaultyText qCFaultyText CFaultyText NCFaultyText bsCFaultyText PySem.ESX.exTail true snCFaultyText subCFaultyText abCFaultyText colCFaultyText ddCFaultyText m0CFaultyText m1CFaultyText m2CFaultyText m3CFaultyText m5CFaultyText "Exception.__new__"))
    (saCFaultyText : PySem.W.findIn K (.ref CFaultyText) "__setattr__" = some (some (.builtin "object.__setattr__")))
    (gaCFaultyText : PySem.W.findIn K (.ref CFaultyText) "__getattribute__" = some (some (.builtin "BaseException.__getattribute__")))
    (ggCFaultyText : PySem.W.findIn K (.ref CFaultyText) "__getattr__" = some none)
    (n_FaultyText_line : PySem.W.findIn K (.ref CFaultyText) "line" = some none)
    (n_FaultyText_kind : PySem.W.findIn K (.ref CFaultyText) "kind" = some none)
    (iCFaultyText : PySem.W.findIn K (.ref CFaultyText) "__init__" = some (some (.ref IFaultyText)))
    (tyIFaultyText : PySem.W.typeIn K (.ref IFaultyText) = some (.type "function"))
    (lIFaultyText : K.lookup IFaultyText = some ⟨ocCFaultyText, odCFaultyText, .func (PySem.W.fnOf "__init__" "FaultyText.__init__" (defArgs s_FaultyText) (defBody s_FaultyText) (defScope s_FaultyText) .none .none dcCFaultyText pmCFaultyText anCFaultyText cdCFaultyText ctCFaultyText), slCFaultyText⟩)
    (cdIFaultyText : PySem.W.codeIn K cdCFaultyText "FaultyText.__init__" = true)
    (kpCFaultyText : PySem.W.keepIn K (.ref CFaultyText) = true)
    (exCFaultyText : PySem.W.subIn K (.ref CFaultyText) (.type "BaseException") = some true)
    (tpCFaultyText : PySem.W.typeIn K (.ref CFaultyText) = some (.type "type"))
    (hdCFaultyText : PySem.W.hasDictIn K CFaultyText = true)
    (icCFaultyText : PySem.W.isClsIn K CFaultyText = true)
    (ssCFaultyText : PySem.W.subIn K (.ref CFaultyText) (.ref CFaultyText) = some true)
    : ∃ A : Adr, Top K mg A := by
  have F_are_letters := fun_mk (st := s_are_letters) l_are_letters c_are_letters k_are_letters
  have F_fitting_slips := fun_mk (st := s_fitting_slips) l_fitting_slips c_fitting_slips k_fitting_slips
  have F_moves_at := fun_mk (st := s_moves_at) l_moves_at c_moves_at k_moves_at
  have F_least_cost := fun_mk (st := s_least_cost) l_least_cost c_least_cost k_least_cost
  have F_likeliest := fun_mk (st := s_likeliest) l_likeliest c_likeliest k_likeliest
  have F_order_of := fun_mk (st := s_order_of) l_order_of c_order_of k_order_of
  have F_lengthened := fun_mk (st := s_lengthened) l_lengthened c_lengthened k_lengthened
  have F_table_of := fun_mk (st := s_table_of) l_table_of c_table_of k_table_of
  have F_parted := fun_mk (st := s_parted) l_parted c_parted k_parted
  have F_kind_of_fault := fun_mk (st := s_kind_of_fault) l_kind_of_fault c_kind_of_fault k_kind_of_fault
  have F_is_line := fun_mk (st := s_is_line) l_is_line c_is_line k_is_line
  have F_is_decimal := fun_mk (st := s_is_decimal) l_is_decimal c_is_decimal k_is_decimal
  have F_is_too_costly := fun_mk (st := s_is_too_costly) l_is_too_costly c_is_too_costly k_is_too_costly
  have F_number_of := fun_mk (st := s_number_of) l_number_of c_number_of k_number_of
  have F_text_of := fun_mk (st := s_text_of) l_text_of c_text_of k_text_of
  have F_line_of := fun_mk (st := s_line_of) l_line_of c_line_of k_line_of
  have F_answers := fun_mk (st := s_answers) l_answers c_answers k_answers
  have F_answer_of := fun_mk (st := s_answer_of) l_answer_of c_answer_of k_answer_of
  have F_Feed_init := fun_mk (st := s_Feed_init) l_Feed_init c_Feed_init k_Feed_init
  have F_Feed_ended := fun_mk (st := s_Feed_ended) l_Feed_ended c_Feed_ended k_Feed_ended
  have F_Feed_number := fun_mk (st := s_Feed_number) l_Feed_number c_Feed_number k_Feed_number
  have F_Feed_row := fun_mk (st := s_Feed_row) l_Feed_row c_Feed_row k_Feed_row
  have F_Ways_init := fun_mk (st := s_Ways_init) l_Ways_init c_Ways_init k_Ways_init
  have F_Ways_first := fun_mk (st := s_Ways_first) l_Ways_first c_Ways_first k_Ways_first
  have F_Ways_settled := fun_mk (st := s_Ways_settled) l_Ways_settled c_Ways_settled k_Ways_settled
  have F_Ways_dropped := fun_mk (st := s_Ways_dropped) l_Ways_dropped c_Ways_dropped k_Ways_dropped
  have F_Ways_onward := fun_mk (st := s_Ways_onward) l_Ways_onward c_Ways_onward k_Ways_onward
  have F_Ways_whole_cost := fun_mk (st := s_Ways_whole_cost) l_Ways_whole_cost c_Ways_whole_cost k_Ways_whole_cost
  have F_Beginning_init := fun_mk (st := s_Beginning_init) l_Beginning_init c_Beginning_init k_Beginning_init
  have F_Keeper_init := fun_mk (st := s_Keeper_init) l_Keeper_init c_Keeper_init k_Keeper_init
  have F_Keeper_begin := fun_mk (st := s_Keeper_begin) l_Keeper_begin c_Keeper_begin k_Keeper_begin
  have F_Keeper_read := fun_mk (st := s_Keeper_read) l_Keeper_read c_Keeper_read k_Keeper_read
  have F_Keeper_write := fun_mk (st := s_Keeper_write) l_Keeper_write c_Keeper_write k_Keeper_write
  have F_Keeper_cost_of := fun_mk (st := s_Keeper_cost_of) l_Keeper_cost_of c_Keeper_cost_of k_Keeper_cost_of
  have F_Keeper_nth_row := fun_mk (st := s_Keeper_nth_row) l_Keeper_nth_row c_Keeper_nth_row k_Keeper_nth_row
  have F_Keeper_first_rows := fun_mk (st := s_Keeper_first_rows) l_Keeper_first_rows c_Keeper_first_rows k_Keeper_first_rows
  refine ⟨{
    a_are_letters := x_are_letters, d_are_letters := _,
    a_fitting_slips := x_fitting_slips, d_fitting_slips := _,
    a_moves_at := x_moves_at, d_moves_at := _,
    a_least_cost := x_least_cost, d_least_cost := _,
    a_likeliest := x_likeliest, d_likeliest := _,
    a_order_of := x_order_of, d_order_of := _,
    a_lengthened := x_lengthened, d_lengthened := _,
    a_table_of := x_table_of, d_table_of := _,
    a_parted := x_parted, d_parted := _,
    a_kind_of_fault := x_kind_of_fault, d_kind_of_fault := _,
    a_is_line := x_is_line, d_is_line := _,
    a_is_decimal := x_is_decimal, d_is_decimal := _,
    a_is_too_costly := x_is_too_costly, d_is_too_costly := _,
    a_number_of := x_number_of, d_number_of := _,
    a_text_of := x_text_of, d_text_of := _,
    a_line_of := x_line_of, d_line_of := _,
    a_answers := x_answers, d_answers := _,
    a_answer_of := x_answer_of, d_answer_of := _,
    a_Feed_init := x_Feed_init, d_Feed_init := _,
    a_Feed_ended := x_Feed_ended, d_Feed_ended := _,
    a_Feed_number := x_Feed_number, d_Feed_number := _,
    a_Feed_row := x_Feed_row, d_Feed_row := _,
    a_Ways_init := x_Ways_init, d_Ways_init := _,
    a_Ways_first := x_Ways_first, d_Ways_first := _,
    a_Ways_settled := x_Ways_settled, d_Ways_settled := _,
    a_Ways_dropped := x_Ways_dropped, d_Ways_dropped := _,
    a_Ways_onward := x_Ways_onward, d_Ways_onward := _,
    a_Ways_whole_cost := x_Ways_whole_cost, d_Ways_whole_cost := _,
    a_Beginning_init := x_Beginning_init, d_Beginning_init := _,
    a_Keeper_init := x_Keeper_init, d_Keeper_init := _,
    a_Keeper_begin := x_Keeper_begin, d_Keeper_begin := _,
    a_Keeper_read := x_Keeper_read, d_Keeper_read := _,
    a_Keeper_write := x_Keeper_write, d_Keeper_write := _,
    a_Keeper_cost_of := x_Keeper_cost_of, d_Keeper_cost_of := _,
    a_Keeper_nth_row := x_Keeper_nth_row, d_Keeper_nth_row := _,
    a_Keeper_first_rows := x_Keeper_first_rows, d_Keeper_first_rows := _,
    C_Feed := CFeed,
    C_Ways := CWays,
    C_Beginning := CBeginning,
    C_Keeper := CKeeper,
    C_FaultyText := CFaultyText, I_FaultyText := IFaultyText }, {
    FIRST_LETTER := ⟨_, PySem.W.mg_of X G h_FIRST_LETTER⟩,
    LAST_LETTER := ⟨_, PySem.W.mg_of X G h_LAST_LETTER⟩,
    MOST_TAKEN := ⟨_, PySem.W.mg_of X G h_MOST_TAKEN⟩,
    DEAREST := ⟨_, PySem.W.mg_of X G h_DEAREST⟩,
    LINE_FEED := ⟨_, PySem.W.mg_of X G h_LINE_FEED⟩,
    BLANK := ⟨_, PySem.W.mg_of X G h_BLANK⟩,
    DIGIT_ZERO := ⟨_, PySem.W.mg_of X G h_DIGIT_ZERO⟩,
    DIGIT_NINE := ⟨_, PySem.W.mg_of X G h_DIGIT_NINE⟩,
    MOST_COST := ⟨_, PySem.W.mg_of X G h_MOST_COST⟩,
    MOST_COST_DIGITS := ⟨_, PySem.W.mg_of X G h_MOST_COST_DIGITS⟩,
    MOST_LETTERS := ⟨_, PySem.W.mg_of X G h_MOST_LETTERS⟩,
    MOST_SLIPS := ⟨_, PySem.W.mg_of X G h_MOST_SLIPS⟩,
    NO_FAULT := ⟨_, PySem.W.mg_of X G h_NO_FAULT⟩,
    NO_SUCH_LINE := ⟨_, PySem.W.mg_of X G h_NO_SUCH_LINE⟩,
    TOO_MUCH := ⟨_, PySem.W.mg_of X G h_TOO_MUCH⟩,
    SAME_LETTERS := ⟨_, PySem.W.mg_of X G h_SAME_LETTERS⟩,
    TOLD_BEFORE := ⟨_, PySem.W.mg_of X G h_TOLD_BEFORE⟩,
    ONE_LINE_TOO_MANY := ⟨_, PySem.W.mg_of X G h_ONE_LINE_TOO_MANY⟩,
    MOST_BYTES := ⟨_, PySem.W.mg_of X G h_MOST_BYTES⟩,
    MOST_TYPED := ⟨_, PySem.W.mg_of X G h_MOST_TYPED⟩,
    MOST_MEANT := ⟨_, PySem.W.mg_of X G h_MOST_MEANT⟩,
    MOST_ROWS := ⟨_, PySem.W.mg_of X G h_MOST_ROWS⟩,
    TOO_GREAT := ⟨_, PySem.W.mg_of X G h_TOO_GREAT⟩,
    FAULT := ⟨_, PySem.W.mg_of X G h_FAULT⟩,
    NO_LETTERS := ⟨_, PySem.W.mg_of X G h_NO_LETTERS⟩,
    NONE_SUCH := ⟨_, PySem.W.mg_of X G h_NONE_SUCH⟩,
    BEGIN := ⟨_, PySem.W.mg_of X G h_BEGIN⟩,
    READ := ⟨_, PySem.W.mg_of X G h_READ⟩,
    WRITE := ⟨_, PySem.W.mg_of X G h_WRITE⟩,
    COST := ⟨_, PySem.W.mg_of X G h_COST⟩,
    NTH := ⟨_, PySem.W.mg_of X G h_NTH⟩,
    ALL := ⟨_, PySem.W.mg_of X G h_ALL⟩,
    b_any := PySem.W.mg_none_of X G h_any,
    b_enumerate := PySem.W.mg_none_of X G h_enumerate,
    b_len := PySem.W.mg_none_of X G h_len,
    b_list := PySem.W.mg_none_of X G h_list,
    b_min := PySem.W.mg_none_of X G h_min,
    b_ord := PySem.W.mg_none_of X G h_ord,
    b_range := PySem.W.mg_none_of X G h_range,
    b_sorted := PySem.W.mg_none_of X G h_sorted,
    b_str := PySem.W.mg_none_of X G h_str,
    b_tuple := PySem.W.mg_none_of X G h_tuple,
    f_are_letters := F_are_letters,
    g_are_letters := PySem.W.mg_of X G a_are_letters,
    f_fitting_slips := F_fitting_slips,
    g_fitting_slips := PySem.W.mg_of X G a_fitting_slips,
    f_moves_at := F_moves_at,
    g_moves_at := PySem.W.mg_of X G a_moves_at,
    f_least_cost := F_least_cost,
    g_least_cost := PySem.W.mg_of X G a_least_cost,
    f_likeliest := F_likeliest,
    g_likeliest := PySem.W.mg_of X G a_likeliest,
    f_order_of := F_order_of,
    g_order_of := PySem.W.mg_of X G a_order_of,
    f_lengthened := F_lengthened,
    g_lengthened := PySem.W.mg_of X G a_lengthened,
    f_table_of := F_table_of,
    g_table_of := PySem.W.mg_of X G a_table_of,
    f_parted := F_parted,
    g_parted := PySem.W.mg_of X G a_parted,
    f_kind_of_fault := F_kind_of_fault,
    g_kind_of_fault := PySem.W.mg_of X G a_kind_of_fault,
    f_is_line := F_is_line,
    g_is_line := PySem.W.mg_of X G a_is_line,
    f_is_decimal := F_is_decimal,
    g_is_decimal := PySem.W.mg_of X G a_is_decimal,
    f_is_too_costly := F_is_too_costly,
    g_is_too_costly := PySem.W.mg_of X G a_is_too_costly,
    f_number_of := F_number_of,
    g_number_of := PySem.W.mg_of X G a_number_of,
    f_text_of := F_text_of,
    g_text_of := PySem.W.mg_of X G a_text_of,
    f_line_of := F_line_of,
    g_line_of := PySem.W.mg_of X G a_line_of,
    f_answers := F_answers,
    g_answers := PySem.W.mg_of X G a_answers,
    f_answer_of := F_answer_of,
    g_answer_of := PySem.W.mg_of X G a_answer_of,
    f_Feed_init := F_Feed_init,
    k_Feed_init := ⟨mkCFeed, a_Feed_init, i_Feed_init, kcCFeed⟩,
    f_Feed_ended := F_Feed_ended,
    m_Feed_ended := ⟨a_Feed_ended, i_Feed_ended, k_Feed_ended⟩,
    f_Feed_number := F_Feed_number,
    m_Feed_number := ⟨a_Feed_number, i_Feed_number, k_Feed_number⟩,
    f_Feed_row := F_Feed_row,
    m_Feed_row := ⟨a_Feed_row, i_Feed_row, k_Feed_row⟩,
    f_Ways_init := F_Ways_init,
    k_Ways_init := ⟨mkCWays, a_Ways_init, i_Ways_init, kcCWays⟩,
    f_Ways_first := F_Ways_first,
    m_Ways_first := ⟨a_Ways_first, i_Ways_first, k_Ways_first⟩,
    f_Ways_settled := F_Ways_settled,
    m_Ways_settled := ⟨a_Ways_settled, i_Ways_settled, k_Ways_settled⟩,
    f_Ways_dropped := F_Ways_dropped,
    m_Ways_dropped := ⟨a_Ways_dropped, i_Ways_dropped, k_Ways_dropped⟩,
    f_Ways_onward := F_Ways_onward,
    m_Ways_onward := ⟨a_Ways_onward, i_Ways_onward, k_Ways_onward⟩,
    f_Ways_whole_cost := F_Ways_whole_cost,
    m_Ways_whole_cost := ⟨a_Ways_whole_cost, i_Ways_whole_cost, k_Ways_whole_cost⟩,
    f_Beginning_init := F_Beginning_init,
    k_Beginning_init := ⟨mkCBeginning, a_Beginning_init, i_Beginning_init, kcCBeginning⟩,
    f_Keeper_init := F_Keeper_init,
    k_Keeper_init := ⟨mkCKeeper, a_Keeper_init, i_Keeper_init, kcCKeeper⟩,
    f_Keeper_begin := F_Keeper_begin,
    m_Keeper_begin := ⟨a_Keeper_begin, i_Keeper_begin, k_Keeper_begin⟩,
    f_Keeper_read := F_Keeper_read,
    m_Keeper_read := ⟨a_Keeper_read, i_Keeper_read, k_Keeper_read⟩,
    f_Keeper_write := F_Keeper_write,
    m_Keeper_write := ⟨a_Keeper_write, i_Keeper_write, k_Keeper_write⟩,
    f_Keeper_cost_of := F_Keeper_cost_of,
    m_Keeper_cost_of := ⟨a_Keeper_cost_of, i_Keeper_cost_of, k_Keeper_cost_of⟩,
    f_Keeper_nth_row := F_Keeper_nth_row,
    m_Keeper_nth_row := ⟨a_Keeper_nth_row, i_Keeper_nth_row, k_Keeper_nth_row⟩,
    f_Keeper_first_rows := F_Keeper_first_rows,
    m_Keeper_first_rows := ⟨a_Keeper_first_rows, i_Keeper_first_rows, k_Keeper_first_rows⟩,
    c_Feed := ⟨pgCFeed, hdCFeed, poCFeed, saCFeed⟩, g_Feed := PySem.W.mg_of X G aCFeed,
    n_Feed_numbers := n_Feed_numbers,
    n_Feed_place := n_Feed_place,
    c_Ways := ⟨pgCWays, hdCWays, poCWays, saCWays⟩, g_Ways := PySem.W.mg_of X G aCWays,
    n_Ways_length := n_Ways_length,
    n_Ways_moves := n_Ways_moves,
    n_Ways_drops := n_Ways_drops,
    c_Beginning := ⟨pgCBeginning, hdCBeginning, poCBeginning, saCBeginning⟩, g_Beginning := PySem.W.mg_of X G aCBeginning,
    n_Beginning_cost := n_Beginning_cost,
    n_Beginning_letters := n_Beginning_letters,
    n_Beginning_tracks := n_Beginning_tracks,
    n_Beginning_whole := n_Beginning_whole,
    c_Keeper := ⟨pgCKeeper, hdCKeeper, poCKeeper, saCKeeper⟩, g_Keeper := PySem.W.mg_of X G aCKeeper,
    n_Keeper_table := n_Keeper_table,
    e_answers := fun s us hu => match us, hu with | [_], _ => .of_eq rfl,
    t_FaultyText := { gC := PySem.W.mg_of X G aCFaultyText, cls := ⟨_, _, _, _, _, _, _, _, _, _, _, _, _, _, xCFaultyText⟩, sa := saCFaultyText, ga := gaCFaultyText, gg := ggCFaultyText, noL := n_FaultyText_line, noK := n_FaultyText_kind, iC := iCFaultyText, tC := tyIFaultyText, kC := kpCFaultyText, exC := exCFaultyText, tyC := tpCFaultyText, hdC := hdCFaultyText, te := exm_self exCFaultyText icCFaultyText tpCFaultyText ssCFaultyText, fn := ⟨_, _, _, _, _, _, _, _, _, _, _, _, _, _, _, _, _, _, _, lIFaultyText, cdIFaultyText⟩ } }⟩

def spAns (K : PySem.W.Frag) : Sp := fun vs H Q _ => ∃ (a : Addr) (ns : List Int), vs = [.ref a] ∧ SqL K H a (ns.map V.int) ∧ PyWqaibj.answers_asked ns = true ∧ ns.length ≤ 61000 ∧ (∀ n ∈ ns, 0 ≤ n ∧ n ≤ 60000) ∧
  ∀ (H' : Hp) (p : Addr), H' p = some (.lst ((PyWqaibj.answers ns).map V.int)) → Q (.ref p) H'
theorem fin {P : Program} {w : World} {K : PySem.W.Frag} {mg : Str → Option Value} {fa : Addr} (hfa : mg "answers" = some (.ref fa)) (top : ∃ A, Top K mg A) :
    ∃ fd : FuncData, (∀ (s : Shared) (us : List Value), us.length = (["calls"] : List Str).length → BindsTo s fd ⟨us, []⟩ ((["calls"] : List Str).zip us)) ∧ ∀ base : Heap, K.In base → base.Ns mainGlobals mg → FnOk P w K mg base CX0 9 fa fd ["calls"] (spAns K) := by
  obtain ⟨A, T⟩ := top
  have e := hfa.symm.trans T.g_answers
  cases e
  refine ⟨A.d_answers, T.e_answers, fun base _ _ => ?_⟩
  have tc : TC mg := ⟨T.FIRST_LETTER, T.LAST_LETTER, T.LINE_FEED, T.BLANK, T.DIGIT_ZERO, T.DIGIT_NINE, T.MOST_COST, T.MOST_COST_DIGITS, T.MOST_LETTERS, T.MOST_SLIPS, T.NO_FAULT, T.NO_SUCH_LINE, T.TOO_MUCH, T.SAME_LETTERS, T.TOLD_BEFORE, T.ONE_LINE_TOO_MANY, T.MOST_BYTES, T.b_len, T.b_tuple, T.b_enumerate, T.b_sorted, T.b_list, T.b_ord, T.b_str⟩
  have tf : TFeed K mg A.C_Feed := ⟨T.c_Feed, T.n_Feed_numbers, T.n_Feed_place, T.b_len⟩
  have tw : TWays K mg A.C_Ways := ⟨T.c_Ways, T.n_Ways_length, T.n_Ways_moves, T.n_Ways_drops, T.MOST_TAKEN, T.DEAREST, T.b_range, T.b_min, T.b_any, T.b_len, T.b_sorted⟩
  have tb : TBeg K mg A.C_Beginning := ⟨T.c_Beginning, T.n_Beginning_cost, T.n_Beginning_letters, T.n_Beginning_tracks, T.n_Beginning_whole⟩
  have tk : TKeep K mg A.C_Keeper := ⟨T.c_Keeper, T.n_Keeper_table, T.MOST_TYPED, T.MOST_MEANT, T.MOST_ROWS, T.TOO_GREAT, T.FAULT, T.NO_LETTERS, T.NONE_SUCH⟩
  have td : TDesk mg := ⟨T.BEGIN, T.READ, T.WRITE, T.COST, T.NTH, T.ALL⟩
  have c_Feed_init : Mak P w K mg base 1 "Feed" A.C_Feed (spFInit A.C_Feed) := ⟨_, _, _, T.k_Feed_init, ok_FInit T.f_Feed_init tf, T.g_Feed, T.f_Feed_init.binds (fun _ _ _ _ _ _ us hu => match us, hu with | [_, _], _ => rfl)⟩
  have c_Feed_ended : Met P w K mg base 1 A.C_Feed "ended" (spEnded K A.C_Feed) := ⟨_, _, _, T.c_Feed, T.m_Feed_ended, ok_Ended T.f_Feed_ended tf, T.f_Feed_ended.binds (fun _ _ _ _ _ _ us hu => match us, hu with | [_], _ => rfl)⟩
  have c_Feed_number : Met P w K mg base 1 A.C_Feed "number" (spNumber K A.C_Feed) := ⟨_, _, _, T.c_Feed, T.m_Feed_number, ok_Number T.f_Feed_number tf, T.f_Feed_number.binds (fun _ _ _ _ _ _ us hu => match us, hu with | [_], _ => rfl)⟩
  have c_Feed_row : Met P w K mg base 2 A.C_Feed "row" (spRow K A.C_Feed) := ⟨_, _, _, T.c_Feed, T.m_Feed_row, ok_Row T.f_Feed_row tf c_Feed_number, T.f_Feed_row.binds (fun _ _ _ _ _ _ us hu => match us, hu with | [_], _ => rfl)⟩
  have c_are_letters : Cal P w K mg base 1 "are_letters" (spLetters K) := ⟨_, _, _, ok_Letters T.f_are_letters tc, T.g_are_letters, T.f_are_letters.kp, T.f_are_letters.binds (fun _ _ _ _ _ _ us hu => match us, hu with | [_], _ => rfl)⟩
  have c_parted : Cal P w K mg base 1 "parted" (spParted K) := ⟨_, _, _, ok_Parted T.f_parted tc, T.g_parted, T.f_parted.kp, T.f_parted.binds (fun _ _ _ _ _ _ us hu => match us, hu with | [_, _], _ => rfl)⟩
  have c_is_decimal : Cal P w K mg base 1 "is_decimal" (spDecimal K) := ⟨_, _, _, ok_Decimal T.f_is_decimal tc, T.g_is_decimal, T.f_is_decimal.kp, T.f_is_decimal.binds (fun _ _ _ _ _ _ us hu => match us, hu with | [_], _ => rfl)⟩
  have c_number_of : Cal P w K mg base 1 "number_of" (spNumberOf K) := ⟨_, _, _, ok_NumberOf T.f_number_of tc, T.g_number_of, T.f_number_of.kp, T.f_number_of.binds (fun _ _ _ _ _ _ us hu => match us, hu with | [_], _ => rfl)⟩
  have c_is_too_costly : Cal P w K mg base 2 "is_too_costly" (spCostly K) := ⟨_, _, _, ok_Costly T.f_is_too_costly tc c_number_of, T.g_is_too_costly, T.f_is_too_costly.kp, T.f_is_too_costly.binds (fun _ _ _ _ _ _ us hu => match us, hu with | [_], _ => rfl)⟩
  have c_is_line : Cal P w K mg base 2 "is_line" (spIsLine K) := ⟨_, _, _, ok_IsLine T.f_is_line tc c_is_decimal c_are_letters, T.g_is_line, T.f_is_line.kp, T.f_is_line.binds (fun _ _ _ _ _ _ us hu => match us, hu with | [_], _ => rfl)⟩
  have c_kind_of_fault : Cal P w K mg base 3 "kind_of_fault" (spKind P w K) := ⟨_, _, _, ok_Kind T.f_kind_of_fault tc c_is_line c_is_too_costly, T.g_kind_of_fault, T.f_kind_of_fault.kp, T.f_kind_of_fault.binds (fun _ _ _ _ _ _ us hu => match us, hu with | [_, _], _ => rfl)⟩
  have c_line_of : Cal P w K mg base 1 "line_of" (spLineOf K) := ⟨_, _, _, ok_LineOf T.f_line_of tc, T.g_line_of, T.f_line_of.kp, T.f_line_of.binds (fun _ _ _ _ _ _ us hu => match us, hu with | [_, _, _], _ => rfl)⟩
  have c_text_of : Cal P w K mg base 2 "text_of" (spTextOf P w K) := ⟨_, _, _, ok_TextOf T.f_text_of tc c_line_of, T.g_text_of, T.f_text_of.kp, T.f_text_of.binds (fun _ _ _ _ _ _ us hu => match us, hu with | [_], _ => rfl)⟩
  have o_table := ok_Table (P := P) (w := w) (base := base) T.f_table_of tc T.t_FaultyText c_parted c_kind_of_fault c_number_of
  have b_table : Binds K A.d_table_of ["text"] [] := T.f_table_of.binds (fun _ _ _ _ _ _ us hu => match us, hu with | [_], _ => rfl)
  have c_fitting_slips : Cal P w K mg base 1 "fitting_slips" (spFitting P w K) := ⟨_, _, _, ok_Fitting T.f_fitting_slips tc, T.g_fitting_slips, T.f_fitting_slips.kp, T.f_fitting_slips.binds (fun _ _ _ _ _ _ us hu => match us, hu with | [_, _, _], _ => rfl)⟩
  have c_moves_at : Cal P w K mg base 1 "moves_at" (spMovesAt K) := ⟨_, _, _, ok_MovesAt T.f_moves_at tc, T.g_moves_at, T.f_moves_at.kp, T.f_moves_at.binds (fun _ _ _ _ _ _ us hu => match us, hu with | [_, _, _], _ => rfl)⟩
  have c_Ways_init : Mak P w K mg base 2 "Ways" A.C_Ways (spWInit P w A.C_Ways) := ⟨_, _, _, T.k_Ways_init, ok_WInit T.f_Ways_init tw c_fitting_slips c_moves_at, T.g_Ways, T.f_Ways_init.binds (fun _ _ _ _ _ _ us hu => match us, hu with | [_, _, _], _ => rfl)⟩
  have c_Ways_first : Met P w K mg base 1 A.C_Ways "first" (spFirst) := ⟨_, _, _, T.c_Ways, T.m_Ways_first, ok_First T.f_Ways_first, T.f_Ways_first.binds (fun _ _ _ _ _ _ us hu => match us, hu with | [_], _ => rfl)⟩
  have c_Ways_dropped : Met P w K mg base 1 A.C_Ways "dropped" (spDropped A.C_Ways) := ⟨_, _, _, T.c_Ways, T.m_Ways_dropped, ok_Dropped T.f_Ways_dropped tw, T.f_Ways_dropped.binds (fun _ _ _ _ _ _ us hu => match us, hu with | [_, _], _ => rfl)⟩
  have c_Ways_whole_cost : Met P w K mg base 1 A.C_Ways "whole_cost" (spWhole A.C_Ways) := ⟨_, _, _, T.c_Ways, T.m_Ways_whole_cost, ok_Whole T.f_Ways_whole_cost tw, T.f_Ways_whole_cost.binds (fun _ _ _ _ _ _ us hu => match us, hu with | [_, _], _ => rfl)⟩
  have c_Ways_onward : Met P w K mg base 1 A.C_Ways "onward" (spOnward A.C_Ways) := ⟨_, _, _, T.c_Ways, T.m_Ways_onward, ok_Onward T.f_Ways_onward tw, T.f_Ways_onward.binds (fun _ _ _ _ _ _ us hu => match us, hu with | [_, _, _], _ => rfl)⟩
  have c_Ways_settled : Met P w K mg base 2 A.C_Ways "settled" (spSettled A.C_Ways) := ⟨_, _, _, T.c_Ways, T.m_Ways_settled, ok_Settled T.f_Ways_settled tw c_Ways_dropped, T.f_Ways_settled.binds (fun _ _ _ _ _ _ us hu => match us, hu with | [_, _, _], _ => rfl)⟩
  have c_Beginning_init : Mak P w K mg base 1 "Beginning" A.C_Beginning (spBInit A.C_Beginning) := ⟨_, _, _, T.k_Beginning_init, ok_BInit T.f_Beginning_init tb, T.g_Beginning, T.f_Beginning_init.binds (fun _ _ _ _ _ _ us hu => match us, hu with | [_, _, _, _, _], _ => rfl)⟩
  have c_order_of : Cal P w K mg base 1 "order_of" (spOrderOf K A.C_Beginning) := ⟨_, _, _, ok_OrderOf T.f_order_of tb, T.g_order_of, T.f_order_of.kp, T.f_order_of.binds (fun _ _ _ _ _ _ us hu => match us, hu with | [_], _ => rfl)⟩
  have c_lengthened : Cal P w K mg base 3 "lengthened" (spLengthened A.C_Beginning A.C_Ways) := ⟨_, _, _, ok_Lengthened T.f_lengthened tb tw c_Ways_settled c_Ways_whole_cost c_Ways_onward c_Beginning_init, T.g_lengthened, T.f_lengthened.kp, T.f_lengthened.binds (fun _ _ _ _ _ _ us hu => match us, hu with | [_, _, _], _ => rfl)⟩
  have c_least_cost : Cal P w K mg base 4 "least_cost" (spLeast P w K) := ⟨_, _, _, ok_Least T.f_least_cost tw c_Ways_init c_Ways_first c_Ways_settled c_Ways_whole_cost c_Ways_onward, T.g_least_cost, T.f_least_cost.kp, T.f_least_cost.binds (fun _ _ _ _ _ _ us hu => match us, hu with | [_, _, _], _ => rfl)⟩
  have c_likeliest : Cal P w K mg base 4 "likeliest" (spLikeliest P w) := ⟨_, _, _, ok_Likeliest T.f_likeliest tb tw c_Ways_init c_Beginning_init c_Ways_first c_lengthened c_order_of, T.g_likeliest, T.f_likeliest.kp, T.f_likeliest.binds (fun _ _ _ _ _ _ us hu => match us, hu with | [_, _, _], _ => rfl)⟩
  have c_Keeper_init : Mak P w K mg base 1 "Keeper" A.C_Keeper (spKInit P w A.C_Keeper) := ⟨_, _, _, T.k_Keeper_init, ok_KInit T.f_Keeper_init tk, T.g_Keeper, T.f_Keeper_init.binds (fun _ _ _ _ _ _ us hu => match us, hu with | [_], _ => rfl)⟩
  have c_Keeper_begin : Met P w K mg base 1 A.C_Keeper "begin" (spKBegin P w A.C_Keeper) := ⟨_, _, _, T.c_Keeper, T.m_Keeper_begin, ok_KBegin T.f_Keeper_begin tk, T.f_Keeper_begin.binds (fun _ _ _ _ _ _ us hu => match us, hu with | [_], _ => rfl)⟩
  have c_Keeper_read : Met P w K mg base 5 A.C_Keeper "read" (spKRead P w A.C_Keeper) := ⟨_, _, _, T.c_Keeper, T.m_Keeper_read, ok_KRead T.f_Keeper_read tk tc T.t_FaultyText o_table T.g_table_of T.f_table_of.kp b_table, T.f_Keeper_read.binds (fun _ _ _ _ _ _ us hu => match us, hu with | [_, _], _ => rfl)⟩
  have c_Keeper_write : Met P w K mg base 3 A.C_Keeper "write" (spKWrite P w A.C_Keeper) := ⟨_, _, _, T.c_Keeper, T.m_Keeper_write, ok_KWrite T.f_Keeper_write tk tc c_text_of, T.f_Keeper_write.binds (fun _ _ _ _ _ _ us hu => match us, hu with | [_], _ => rfl)⟩
  have c_Keeper_cost_of : Met P w K mg base 5 A.C_Keeper "cost_of" (spKCost P w A.C_Keeper) := ⟨_, _, _, T.c_Keeper, T.m_Keeper_cost_of, ok_KCost T.f_Keeper_cost_of tk tc c_are_letters c_least_cost, T.f_Keeper_cost_of.binds (fun _ _ _ _ _ _ us hu => match us, hu with | [_, _, _], _ => rfl)⟩
  have c_Keeper_nth_row : Met P w K mg base 5 A.C_Keeper "nth_row" (spKNth P w A.C_Keeper) := ⟨_, _, _, T.c_Keeper, T.m_Keeper_nth_row, ok_KNth T.f_Keeper_nth_row tk tc c_are_letters c_likeliest, T.f_Keeper_nth_row.binds (fun _ _ _ _ _ _ us hu => match us, hu with | [_, _, _], _ => rfl)⟩
  have c_Keeper_first_rows : Met P w K mg base 5 A.C_Keeper "first_rows" (spKAll P w A.C_Keeper) := ⟨_, _, _, T.c_Keeper, T.m_Keeper_first_rows, ok_KAll T.f_Keeper_first_rows tk tc c_are_letters c_likeliest, T.f_Keeper_first_rows.binds (fun _ _ _ _ _ _ us hu => match us, hu with | [_, _], _ => rfl)⟩
  have c_answer_of : Cal P w K mg base 6 "answer_of" (spAnswerOf P w K A.C_Feed A.C_Keeper) := ⟨_, _, _, ok_AnswerOf T.f_answer_of td c_Feed_number c_Feed_row c_Keeper_begin c_Keeper_read c_Keeper_write c_Keeper_cost_of c_Keeper_nth_row c_Keeper_first_rows, T.g_answer_of, T.f_answer_of.kp, T.f_answer_of.binds (fun _ _ _ _ _ _ us hu => match us, hu with | [_, _], _ => rfl)⟩
  have o := ok_Answers T.f_answers tc c_Keeper_init c_Feed_init c_Feed_ended c_answer_of
  refine (o.imp fun vs H Q E h => ?_).mono (by decide)
  obtain ⟨a, ns, rfl, hS, hask, hl, hb, k⟩ := h
  obtain ⟨cs, e1, e2, e3⟩ := due_of hask
  subst e1
  exact ⟨a, cs, rfl, hS, hl, e3, fun H' p hp => k H' p (by rw [e2]; exact hp)⟩
end Slip
open PySem PySem.W PyProof.Rows
theorem PySem.Challenge.cw_slipstell_s01_answers_holds : PySem.Challenge.rw_slipstell_s01_answers.Holds := by
  w_on; k_headS; (case hw => exact ⟨[.list []], by decide +kernel, by decide +kernel⟩)
  k_fillS
  refine L2.walk_specK (r := PySem.Challenge.rw_slipstell_s01_answers) (k := 9) (CX := L2.CX0) (ps := ["calls"]) (sp := Slip.spAns) (by decide +kernel) rfl rfl ⟨rfl, by decide, by decide⟩ (fun w h Y => PySem.W.kIn_of Y) ?F ?S (fun _ _ _ _ z => z)
  case F =>
    intro w mg fa h Y KX G hmg
    refine' Slip.fin hmg (Slip.all_mk KX G ?h_FIRST_LETTER ?h_LAST_LETTER ?h_MOST_TAKEN ?h_DEAREST ?h_LINE_FEED ?h_BLANK ?h_DIGIT_ZERO ?h_DIGIT_NINE ?h_MOST_COST ?h_MOST_COST_DIGITS ?h_MOST_LETTERS ?h_MOST_SLIPS ?h_NO_FAULT ?h_NO_SUCH_LINE ?h_TOO_MUCH ?h_SAME_LETTERS ?h_TOLD_BEFORE ?h_ONE_LINE_TOO_MANY ?h_MOST_BYTES ?h_MOST_TYPED ?h_MOST_MEANT ?h_MOST_ROWS ?h_TOO_GREAT ?h_FAULT ?h_NO_LETTERS ?h_NONE_SUCH ?h_BEGIN ?h_READ ?h_WRITE ?h_COST ?h_NTH ?h_ALL ?h_any ?h_enumerate ?h_len ?h_list ?h_min ?h_ord ?h_range ?h_sorted ?h_str ?h_tuple ?aCFeed ?pgCFeed ?hdCFeed ?poCFeed ?saCFeed ?mkCFeed ?kcCFeed ?n_Feed_numbers ?n_Feed_place ?aCWays ?pgCWays ?hdCWays ?poCWays ?saCWays ?mkCWays ?kcCWays ?n_Ways_length ?n_Ways_moves ?n_Ways_drops ?aCBeginning ?pgCBeginning ?hdCBeginning ?poCBeginning ?saCBeginning ?mkCBeginning ?kcCBeginning ?n_Beginning_cost ?n_Beginning_letters ?n_Beginning_tracks ?n_Beginning_whole ?aCKeeper ?pgCKeeper ?hdCKeeper ?poCKeeper ?saCKeeper ?mkCKeeper ?kcCKeeper ?n_Keeper_table ?a_are_letters ?l_are_letters ?c_are_letters ?k_are_letters ?a_fitting_slips ?l_fitting_slips ?c_fitting_slips ?k_fitting_slips ?a_moves_at ?l_moves_at ?c_moves_at ?k_moves_at ?a_least_cost ?l_least_cost ?c_least_cost ?k_least_cost ?a_likeliest ?l_likeliest ?c_likeliest ?k_likeliest ?a_order_of ?l_order_of ?c_order_of ?k_order_of ?a_lengthened ?l_lengthened ?c_lengthened ?k_lengthened ?a_table_of ?l_table_of ?c_table_of ?k_table_of ?a_parted ?l_parted ?c_parted ?k_parted ?a_kind_of_fault ?l_kind_of_fault ?c_kind_of_fault ?k_kind_of_fault ?a_is_line ?l_is_line ?c_is_line ?k_is_line ?a_is_decimal ?l_is_decimal ?c_is_decimal ?k_is_decimal ?a_is_too_costly ?l_is_too_costly ?c_is_too_costly ?k_is_too_costly ?a_number_of ?l_number_of ?c_number_of ?k_number_of ?a_text_of ?l_text_of ?c_text_of ?k_text_of ?a_line_of ?l_line_of ?c_line_of ?k_line_of ?a_answers ?l_answers ?c_answers ?k_answers ?a_answer_of ?l_answer_of ?c_answer_of ?k_answer_of ?a_Feed_init ?i_Feed_init ?l_Feed_init ?c_Feed_init ?k_Feed_init ?a_Feed_ended ?i_Feed_ended ?l_Feed_ended ?c_Feed_ended ?k_Feed_ended ?a_Feed_number ?i_Feed_number ?l_Feed_number ?c_Feed_number ?k_Feed_number ?a_Feed_row ?i_Feed_row ?l_Feed_row ?c_Feed_row ?k_Feed_row ?a_Ways_init ?i_Ways_init ?l_Ways_init ?c_Ways_init ?k_Ways_init ?a_Ways_first ?i_Ways_first ?l_Ways_first ?c_Ways_first ?k_Ways_first ?a_Ways_settled ?i_Ways_settled ?l_Ways_settled ?c_Ways_settled ?k_Ways_settled ?a_Ways_dropped ?i_Ways_dropped ?l_Ways_dropped ?c_Ways_dropped ?k_Ways_dropped ?a_Ways_onward ?i_Ways_onward ?l_Ways_onward ?c_Ways_onward ?k_Ways_onward ?a_Ways_whole_cost ?i_Ways_whole_cost ?l_Ways_whole_cost ?c_Ways_whole_cost ?k_Ways_whole_cost ?a_Beginning_init ?i_Beginning_init ?l_Beginning_init ?c_Beginning_init ?k_Beginning_init ?a_Keeper_init ?i_Keeper_init ?l_Keeper_init ?c_Keeper_init ?k_Keeper_init ?a_Keeper_begin ?i_Keeper_begin ?l_Keeper_begin ?c_Keeper_begin ?k_Keeper_begin ?a_Keeper_read ?i_Keeper_read ?l_Keeper_read ?c_Keeper_read ?k_Keeper_read ?a_Keeper_write ?i_Keeper_write ?l_Keeper_write ?c_Keeper_write ?k_Keeper_write ?a_Keeper_cost_of ?i_Keeper_cost_of ?l_Keeper_cost_of ?c_Keeper_cost_of ?k_Keeper_cost_of ?a_Keeper_nth_row ?i_Keeper_nth_row ?l_Keeper_nth_row ?c_Keeper_nth_row ?k_Keeper_nth_row ?a_Keeper_first_rows ?i_Keeper_first_rows ?l_Keeper_first_rows ?c_Keeper_first_rows ?k_Keeper_first_rows ?aCFaultyText ?xCFaultyText ?saCFaultyText ?gaCFaultyText ?ggCFaultyText ?n_FaultyText_line ?n_FaultyText_kind ?iCFaultyText ?tyIFaultyText ?lIFaultyText ?cdIFaultyText ?kpCFaultyText ?exCFaultyText ?tpCFaultyText ?hdCFaultyText ?icCFaultyText ?ssCFaultyText)
    (case h_FIRST_LETTER => k_is)
    (case h_LAST_LETTER => k_is)
    (case h_MOST_TAKEN => k_is)
    (case h_DEAREST => k_is)
    (case h_LINE_FEED => k_is)
    (case h_BLANK => k_is)
    (case h_DIGIT_ZERO => k_is)
    (case h_DIGIT_NINE => k_is)
    (case h_MOST_COST => k_is)
    (case h_MOST_COST_DIGITS => k_is)
    (case h_MOST_LETTERS => k_is)
    (case h_MOST_SLIPS => k_is)
    (case h_NO_FAULT => k_is)
    (case h_NO_SUCH_LINE => k_is)
    (case h_TOO_MUCH => k_is)
    (case h_SAME_LETTERS => k_is)
    (case h_TOLD_BEFORE => k_is)
    (case h_ONE_LINE_TOO_MANY => k_is)
    (case h_MOST_BYTES => k_is)
    (case h_MOST_TYPED => k_is)
    (case h_MOST_MEANT => k_is)
    (case h_MOST_ROWS => k_is)
    (case h_TOO_GREAT => k_is)
    (case h_FAULT => k_is)
    (case h_NO_LETTERS => k_is)
    (case h_NONE_SUCH => k_is)
    (case h_BEGIN => k_is)
    (case h_READ => k_is)
    (case h_WRITE => k_is)
    (case h_COST => k_is)
    (case h_NTH => k_is)
    (case h_ALL => k_is)
    (case h_any => k_is)
    (case h_enumerate => k_is)
    (case h_len => k_is)
    (case h_list => k_is)
    (case h_min => k_is)
    (case h_ord => k_is)
    (case h_range => k_is)
    (case h_sorted => k_is)
    (case h_str => k_is)
    (case h_tuple => k_is)
    (case aCFeed => k_is)
    (case pgCFeed => k_is)
    (case hdCFeed => k_is)
    (case poCFeed => k_is)
    (case saCFeed => k_is)
    (case mkCFeed => k_is)
    (case kcCFeed => k_is)
    (case n_Feed_numbers => k_is)
    (case n_Feed_place => k_is)
    (case aCWays => k_is)
    (case pgCWays => k_is)
    (case hdCWays => k_is)
    (case poCWays => k_is)
    (case saCWays => k_is)
    (case mkCWays => k_is)
    (case kcCWays => k_is)
    (case n_Ways_length => k_is)
    (case n_Ways_moves => k_is)
    (case n_Ways_drops => k_is)
    (case aCBeginning => k_is)
    (case pgCBeginning => k_is)
    (case hdCBeginning => k_is)
    (case poCBeginning => k_is)
    (case saCBeginning => k_is)
    (case mkCBeginning => k_is)
    (case kcCBeginning => k_is)
    (case n_Beginning_cost => k_is)
    (case n_Beginning_letters => k_is)
    (case n_Beginning_tracks => k_is)
    (case n_Beginning_whole => k_is)
    (case aCKeeper => k_is)
    (case pgCKeeper => k_is)
    (case hdCKeeper => k_is)
    (case poCKeeper => k_is)
    (case saCKeeper => k_is)
    (case mkCKeeper => k_is)
    (case kcCKeeper => k_is)
    (case n_Keeper_table => k_is)
    (case a_are_letters => k_is)
    (case l_are_letters => k_is)
    (case c_are_letters => k_is)
    (case k_are_letters => k_is)
    (case a_fitting_slips => k_is)
    (case l_fitting_slips => k_is)
    (case c_fitting_slips => k_is)
    (case k_fitting_slips => k_is)
    (case a_moves_at => k_is)
    (case l_moves_at => k_is)
    (case c_moves_at => k_is)
    (case k_moves_at => k_is)
    (case a_least_cost => k_is)
    (case l_least_cost => k_is)
    (case c_least_cost => k_is)
    (case k_least_cost => k_is)
    (case a_likeliest => k_is)
    (case l_likeliest => k_is)
    (case c_likeliest => k_is)
    (case k_likeliest => k_is)
    (case a_order_of => k_is)
    (case l_order_of => k_is)
    (case c_order_of => k_is)
    (case k_order_of => k_is)
    (case a_lengthened => k_is)
    (case l_lengthened => k_is)
    (case c_lengthened => k_is)
    (case k_lengthened => k_is)
    (case a_table_of => k_is)
    (case l_table_of => k_is)
    (case c_table_of => k_is)
    (case k_table_of => k_is)
    (case a_parted => k_is)
    (case l_parted => k_is)
    (case c_parted => k_is)
    (case k_parted => k_is)
    (case a_kind_of_fault => k_is)
    (case l_kind_of_fault => k_is)
    (case c_kind_of_fault => k_is)
    (case k_kind_of_fault => k_is)
    (case a_is_line => k_is)
    (case l_is_line => k_is)
    (case c_is_line => k_is)
    (case k_is_line => k_is)
    (case a_is_decimal => k_is)
    (case l_is_decimal => k_is)
    (case c_is_decimal => k_is)
    (case k_is_decimal => k_is)
    (case a_is_too_costly => k_is)
    (case l_is_too_costly => k_is)
    (case c_is_too_costly => k_is)
    (case k_is_too_costly => k_is)
    (case a_number_of => k_is)
    (case l_number_of => k_is)
    (case c_number_of => k_is)
    (case k_number_of => k_is)
    (case a_text_of => k_is)
    (case l_text_of => k_is)
    (case c_text_of => k_is)
    (case k_text_of => k_is)
    (case a_line_of => k_is)
    (case l_line_of => k_is)
    (case c_line_of => k_is)
    (case k_line_of => k_is)
    (case a_answers => k_is)
    (case l_answers => k_is)
    (case c_answers => k_is)
    (case k_answers => k_is)
    (case a_answer_of => k_is)
    (case l_answer_of => k_is)
    (case c_answer_of => k_is)
    (case k_answer_of => k_is)
    (case a_Feed_init => k_is)
    (case i_Feed_init => k_is)
    (case l_Feed_init => k_is)
    (case c_Feed_init => k_is)
    (case k_Feed_init => k_is)
    (case a_Feed_ended => k_is)
    (case i_Feed_ended => k_is)
    (case l_Feed_ended => k_is)
    (case c_Feed_ended => k_is)
    (case k_Feed_ended => k_is)
    (case a_Feed_number => k_is)
    (case i_Feed_number => k_is)
    (case l_Feed_number => k_is)
    (case c_Feed_number => k_is)
    (case k_Feed_number => k_is)
    (case a_Feed_row => k_is)
    (case i_Feed_row => k_is)
    (case l_Feed_row => k_is)
    (case c_Feed_row => k_is)
    (case k_Feed_row => k_is)
    (case a_Ways_init => k_is)
    (case i_Ways_init => k_is)
    (case l_Ways_init => k_is)
    (case c_Ways_init => k_is)
    (case k_Ways_init => k_is)
    (case a_Ways_first => k_is)
    (case i_Ways_first => k_is)
    (case l_Ways_first => k_is)
    (case c_Ways_first => k_is)
    (case k_Ways_first => k_is)
    (case a_Ways_settled => k_is)
    (case i_Ways_settled => k_is)
    (case l_Ways_settled => k_is)
    (case c_Ways_settled => k_is)
    (case k_Ways_settled => k_is)
    (case a_Ways_dropped => k_is)
    (case i_Ways_dropped => k_is)
    (case l_Ways_dropped => k_is)
    (case c_Ways_dropped => k_is)
    (case k_Ways_dropped => k_is)
    (case a_Ways_onward => k_is)
    (case i_Ways_onward => k_is)
    (case l_Ways_onward => k_is)
    (case c_Ways_onward => k_is)
    (case k_Ways_onward => k_is)
    (case a_Ways_whole_cost => k_is)
    (case i_Ways_whole_cost => k_is)
    (case l_Ways_whole_cost => k_is)
    (case c_Ways_whole_cost => k_is)
    (case k_Ways_whole_cost => k_is)
    (case a_Beginning_init => k_is)
    (case i_Beginning_init => k_is)
    (case l_Beginning_init => k_is)
    (case c_Beginning_init => k_is)
    (case k_Beginning_init => k_is)
    (case a_Keeper_init => k_is)
    (case i_Keeper_init => k_is)
    (case l_Keeper_init => k_is)
    (case c_Keeper_init => k_is)
    (case k_Keeper_init => k_is)
    (case a_Keeper_begin => k_is)
    (case i_Keeper_begin => k_is)
    (case l_Keeper_begin => k_is)
    (case c_Keeper_begin => k_is)
    (case k_Keeper_begin => k_is)
    (case a_Keeper_read => k_is)
    (case i_Keeper_read => k_is)
    (case l_Keeper_read => k_is)
    (case c_Keeper_read => k_is)
    (case k_Keeper_read => k_is)
    (case a_Keeper_write => k_is)
    (case i_Keeper_write => k_is)
    (case l_Keeper_write => k_is)
    (case c_Keeper_write => k_is)
    (case k_Keeper_write => k_is)
    (case a_Keeper_cost_of => k_is)
    (case i_Keeper_cost_of => k_is)
    (case l_Keeper_cost_of => k_is)
    (case c_Keeper_cost_of => k_is)
    (case k_Keeper_cost_of => k_is)
    (case a_Keeper_nth_row => k_is)
    (case i_Keeper_nth_row => k_is)
    (case l_Keeper_nth_row => k_is)
    (case c_Keeper_nth_row => k_is)
    (case k_Keeper_nth_row => k_is)
    (case a_Keeper_first_rows => k_is)
    (case i_Keeper_first_rows => k_is)
    (case l_Keeper_first_rows => k_is)
    (case c_Keeper_first_rows => k_is)
    (case k_Keeper_first_rows => k_is)
    (case aCFaultyText => k_is)
    (case xCFaultyText => k_is)
    (case saCFaultyText => k_is)
    (case gaCFaultyText => k_is)
    (case ggCFaultyText => k_is)
    (case n_FaultyText_line => k_is)
    (case n_FaultyText_kind => k_is)
    (case iCFaultyText => k_is)
    (case tyIFaultyText => k_is)
    (case lIFaultyText => k_is)
    (case cdIFaultyText => k_is)
    (case kpCFaultyText => k_is)
    (case exCFaultyText => k_is)
    (case tpCFaultyText => k_is)
    (case hdCFaultyText => k_is)
    (case icCFaultyText => k_is)
    (case ssCFaultyText => first | rfl | k_is)
  case S =>
    intro K H xs a hO hwi hask hx
    cases hx with
    | cons h1 h2 =>
      cases h2
      cases h1 with
      | lst hs ha =>
        have e := L2.ints_dw a.1 _ ha
        subst e
        have q : ((Codec.inLen 0 61000 a.1 && a.1.all (Codec.inInt 0 60000)) && true) = true := hwi
        rw [Bool.and_eq_true, Bool.and_eq_true] at q
        refine ⟨_, a.1, rfl, hs, hask, (Codec.inNat_iff.mp q.1.1).2, fun n hn => ?_, fun H' p hp => .lst (L2.SqL.of hp) (L2.dw_ints _)⟩
        have := List.all_eq_true.mp q.1.2 n hn
        exact Codec.inInt_iff.mp this
