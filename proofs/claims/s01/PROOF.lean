import PyProof.Rows.All
import PyHs06
import Wide.All
import OpenK.AllK
import Wide.FinOn
import PyProof.EqAt
import PyProof.EqKinds
import PyProof.TupleCall
import KE.KLam
import KE.SortKeyHeap
import KE.OsGo
import HandS.ForSpec
import HandS.Lambda
import HandS.SortKw
import HandS.EndTab
import Open.SpecLaws
import HandS.ForMost
import HandS.Flow
import PySem.Challenge.RW_joinedstreams_s01_answers
import PyProof.AutoSeq1
set_option Elab.async false
section
namespace JS
open Hs06
/-! ## versions: what holds at a moment -/
/-- the numbers go up along the list -/
def Up (l : List Row) : Prop := l.Pairwise fun a b => a.id < b.id

theorem newer_iff {x y : Row} : newer x y = true ↔ y.t < x.t ∨ (x.t = y.t ∧ y.id < x.id) := by
  simp [newer]
theorem newer_no {x y : Row} : newer x y = false ↔ ¬ (y.t < x.t ∨ (x.t = y.t ∧ y.id < x.id)) := by
  rw [← newer_iff]; simp
theorem newest_none : ∀ {l : List Row}, newest l = none → l = []
  | [], _ => rfl
  | x :: r, h => by
    simp only [newest] at h
    split at h <;> cases h
theorem newest_some : ∀ {l : List Row} {y : Row}, newest l = some y → y ∈ l ∧ ∀ x ∈ l, newer x y = false
  | [], y, h => by cases h
  | x :: r, y, h => by
    simp only [newest] at h
    cases e : newest r with
    | none =>
      rw [e] at h
      cases h
      have : r = [] := newest_none e
      subst this
      refine ⟨.head _, fun z hz => ?_⟩
      rcases List.mem_cons.mp hz with q | q
      · subst q; rw [newer_no]; omega
      · cases q
    | some z =>
      rw [e] at h
      have h : (if newer x z = true then x else z) = y := Option.some.inj h
      obtain ⟨h1, h2⟩ := newest_some e
      by_cases c : newer x z = true
      · rw [if_pos c] at h
        subst h
        refine ⟨.head _, fun u hu => ?_⟩
        rcases List.mem_cons.mp hu with q | q
        · subst q; rw [newer_no]; omega
        · have := h2 u q
          rw [newer_no] at this ⊢
          rw [newer_iff] at c
          omega
      · rw [if_neg c] at h
        subst h
        refine ⟨.tail _ h1, fun u hu => ?_⟩
        rcases List.mem_cons.mp hu with q | q
        · subst q; exact Bool.eq_false_iff.mpr c
        · exact h2 u q
theorem up_inj : ∀ {l : List Row}, Up l → ∀ {x y : Row}, x ∈ l → y ∈ l → x.id = y.id → x = y
  | [], _, _, _, h, _, _ => by cases h
  | a :: r, u, x, y, hx, hy, e => by
    obtain ⟨h1, h2⟩ := List.pairwise_cons.mp u
    rcases List.mem_cons.mp hx with p | p <;> rcases List.mem_cons.mp hy with q | q
    · rw [p, q]
    · subst p; have := h1 y q; omega
    · subst q; have := h1 x p; omega
    · exact up_inj h2 p q e
/-- of a list whose numbers go up: the newest is the one that none is newer than -/
theorem newest_eq {l : List Row} (u : Up l) {y : Row} : newest l = some y ↔ y ∈ l ∧ ∀ x ∈ l, newer x y = false := by
  refine ⟨newest_some, fun ⟨h1, h2⟩ => ?_⟩
  cases e : newest l with
  | none => rw [newest_none e] at h1; cases h1
  | some z =>
    obtain ⟨z1, z2⟩ := newest_some e
    have a := h2 z z1
    have b := z2 y h1
    rw [newer_no] at a b
    have : z.id = y.id := by omega
    rw [up_inj u z1 h1 this]
theorem up_filter {l : List Row} (u : Up l) (p : Row → Bool) : Up (l.filter p) := List.Pairwise.filter p u
theorem asOf_eq {l : List Row} (u : Up l) {key t : Nat} {y : Row} :
    asOf l key t = some y ↔ y ∈ l ∧ y.key = key ∧ y.t ≤ t ∧ ∀ x ∈ l, x.key = key → x.t ≤ t → newer x y = false := by
  unfold asOf
  rw [newest_eq (up_filter u _)]
  simp only [List.mem_filter, Bool.and_eq_true, beq_iff_eq, decide_eq_true_eq]
  constructor
  · rintro ⟨⟨h1, h2, h3⟩, h4⟩
    exact ⟨h1, h2, h3, fun x a b c => h4 x ⟨a, b, c⟩⟩
  · rintro ⟨h1, h2, h3, h4⟩
    exact ⟨⟨h1, h2, h3⟩, fun x ⟨a, b, c⟩ => h4 x a b c⟩
theorem lt_foldl_min : ∀ (l : List Nat) (a b : Nat), a < l.foldl min b ↔ a < b ∧ ∀ y ∈ l, a < y
  | [], a, b => by simp
  | x :: r, a, b => by
    rw [List.foldl_cons, lt_foldl_min r, Nat.lt_min]
    simp only [List.mem_cons, forall_eq_or_imp]
    exact ⟨fun ⟨⟨h1, h2⟩, h3⟩ => ⟨h1, h2, h3⟩, fun ⟨h1, h2, h3⟩ => ⟨⟨h1, h2⟩, h3⟩⟩
theorem lt_next {l : List Row} {r : Row} {t : Nat} : t < nextTime l r ↔ t < top + 1 ∧ ∀ x ∈ l, x.key = r.key → newer x r = true → t < x.t := by
  unfold nextTime
  rw [lt_foldl_min]
  simp only [List.mem_map, List.mem_filter, Bool.and_eq_true, beq_iff_eq]
  constructor
  · rintro ⟨h1, h2⟩
    exact ⟨h1, fun x a b c => h2 x.t ⟨x, ⟨a, b, c⟩, rfl⟩⟩
  · rintro ⟨h1, h2⟩
    refine ⟨h1, ?_⟩
    rintro y ⟨x, ⟨a, b, c⟩, rfl⟩
    exact h2 x a b c
/-- it holds at t just if t lies from its own time on and ahead of the next one's -/
theorem asOf_next {l : List Row} (u : Up l) {key t : Nat} {y : Row} (ht : t ≤ top) :
    asOf l key t = some y ↔ y ∈ l ∧ y.key = key ∧ y.t ≤ t ∧ t < nextTime l y := by
  rw [asOf_eq u, lt_next]
  constructor
  · rintro ⟨h1, h2, h3, h4⟩
    refine ⟨h1, h2, h3, by omega, fun x a b c => ?_⟩
    rcases Nat.lt_or_ge t x.t with q | q
    · exact q
    · have := h4 x a (b.trans h2) q
      rw [this] at c; cases c
  · rintro ⟨h1, h2, h3, h4, h5⟩
    refine ⟨h1, h2, h3, fun x a b c => ?_⟩
    cases e : newer x y with
    | false => rfl
    | true => have := h5 x a (b.trans h2.symm) e; omega
theorem asOf_isSome {l : List Row} {key t : Nat} {v : Row} (h : v ∈ l) (hk : v.key = key) (ht : v.t ≤ t) : ∃ y, asOf l key t = some y := by
  cases e : asOf l key t with
  | some y => exact ⟨y, rfl⟩
  | none =>
    unfold asOf at e
    have := newest_none e
    have m : v ∈ l.filter fun r => r.key == key && decide (r.t ≤ t) := by
      simp only [List.mem_filter, Bool.and_eq_true, beq_iff_eq, decide_eq_true_eq]
      exact ⟨h, hk, ht⟩
    rw [this] at m; cases m
theorem asOf_mem {l : List Row} {key t : Nat} {y : Row} (h : asOf l key t = some y) : y ∈ l := by
  unfold asOf at h
  exact (List.mem_filter.mp (newest_some h).1).1

/-! ### the program's walk to the version that holds -/
def holdStep (key t : Nat) (n : Option Row) (v : Row) : Option Row :=
  if v.key = key ∧ v.t ≤ t then (match n with
    | none => some v
    | some y => if y.t ≤ v.t then some v else some y) else n
def holding (l : List Row) (key t : Nat) : Option Row := l.foldl (holdStep key t) none
def lastStep (n : Option Row) (v : Row) : Option Row := match n with
    | none => some v
    | some y => if y.t ≤ v.t then some v else some y
theorem hold_filter (key t : Nat) : ∀ (l : List Row) (n : Option Row), l.foldl (holdStep key t) n = (l.filter fun r => r.key == key && decide (r.t ≤ t)).foldl lastStep n
  | [], n => rfl
  | v :: r, n => by
    rw [List.foldl_cons, hold_filter key t r, List.filter_cons]
    by_cases c : v.key = key ∧ v.t ≤ t
    · have c' : (v.key == key && decide (v.t ≤ t)) = true := by simp [c]
      rw [if_pos c', List.foldl_cons]
      unfold holdStep
      rw [if_pos c]
      rfl
    · have c' : ¬ (v.key == key && decide (v.t ≤ t)) = true := by simp only [Bool.and_eq_true, beq_iff_eq, decide_eq_true_eq]; exact c
      rw [if_neg c']
      unfold holdStep
      rw [if_neg c]
theorem last_newest : ∀ (l : List Row) (a : Row), (∀ x ∈ l, a.id < x.id) → Up l → l.foldl lastStep (some a) = some (match newest l with
    | none => a
    | some y => if newer a y = true then a else y)
  | [], a, _, _ => rfl
  | v :: r, a, ha, u => by
    obtain ⟨u1, u2⟩ := List.pairwise_cons.mp u
    have av := ha v (.head _)
    rw [List.foldl_cons]
    show r.foldl lastStep (if a.t ≤ v.t then some v else some a) = _
    have hv := last_newest r v u1 u2
    have hA := last_newest r a (fun x hx => ha x (.tail _ hx)) u2
    simp only [newest]
    cases e : newest r with
    | none =>
      rw [e] at hv hA
      by_cases c : a.t ≤ v.t
      · rw [if_pos c, hv]
        have : newer a v = false := by rw [newer_no]; omega
        simp [this]
      · rw [if_neg c, hA]
        have : newer a v = true := by rw [newer_iff]; omega
        simp [this]
    | some y =>
      rw [e] at hv hA
      have ym := (newest_some e).1
      have vy := u1 y ym
      by_cases c : a.t ≤ v.t
      · rw [if_pos c, hv]
        cases d : newer v y with
        | true =>
          have : newer a v = false := by rw [newer_no]; omega
          simp [d, this]
        | false =>
          have : newer a y = false := by rw [newer_no] at d ⊢; omega
          simp [d, this]
      · rw [if_neg c, hA]
        cases d : newer v y with
        | true =>
          have d' := newer_iff.mp d
          have h1 : newer a v = true := by rw [newer_iff]; omega
          have h2 : newer a y = true := by rw [newer_iff]; omega
          simp [d, h1, h2]
        | false =>
          simp [d]
theorem holding_is {l : List Row} (u : Up l) (key t : Nat) : holding l key t = asOf l key t := by
  unfold holding asOf
  rw [hold_filter]
  have u' := up_filter u fun r => r.key == key && decide (r.t ≤ t)
  generalize (l.filter fun r => r.key == key && decide (r.t ≤ t)) = m at u'
  cases m with
  | nil => rfl
  | cons a r =>
    obtain ⟨u1, u2⟩ := List.pairwise_cons.mp u'
    show r.foldl lastStep (some a) = _
    rw [last_newest r a u1 u2]
    simp only [newest]
    cases newest r <;> rfl

/-! ### which versions the program keeps -/
def isIt (o : Option Row) (n : Nat) : Bool := match o with
  | some y => y.id == n
  | none => false
/-- the number n is noted: by a row that waits, or by a version at the first time that could still come -/
def noted (lefts rights : List Row) (mL n : Nat) : Bool :=
  (lefts.any fun x => isIt (holding rights x.key x.t) n) || rights.any fun v => decide (max v.t mL ≤ 1000000) && isIt (holding rights v.key (max v.t mL)) n
theorem isIt_iff {l : List Row} (u : Up l) {key t : Nat} {r : Row} (hr : r ∈ l) : isIt (asOf l key t) r.id = true ↔ asOf l key t = some r := by
  unfold isIt
  cases e : asOf l key t with
  | none => simp
  | some y =>
    simp only [beq_iff_eq, Option.some.injEq]
    exact ⟨fun h => up_inj u (asOf_mem e) hr h, fun h => by rw [h]⟩
theorem noted_is {s : St} (u : Up s.rights) (hl : ∀ x ∈ s.lefts, x.t ≤ top) {r : Row} (hr : r ∈ s.rights) :
    noted s.lefts s.rights s.markL r.id = versionWanted s r := by
  rw [Bool.eq_iff_iff]
  unfold noted versionWanted
  simp only [Bool.or_eq_true, List.any_eq_true, Bool.and_eq_true, decide_eq_true_eq, beq_iff_eq, holding_is u]
  constructor
  · rintro (⟨x, hx, h⟩ | ⟨v, hv, h1, h2⟩)
    · rw [isIt_iff u hr, asOf_next u (hl x hx)] at h
      exact .inr ⟨x, hx, h.2.1.symm, h.2.2.1, h.2.2.2⟩
    · rw [isIt_iff u hr, asOf_next u h1] at h2
      refine .inl ?_
      obtain ⟨_, _, h3, h4⟩ := h2
      omega
  · rintro (h | ⟨x, hx, h1, h2, h3⟩)
    · have ht := (lt_next.mp h).1
      refine .inr ⟨r, hr, ?_, ?_⟩
      · show _ ≤ top
        omega
      · rw [isIt_iff u hr, asOf_next u (by omega)]
        exact ⟨hr, rfl, by omega, h⟩
    · refine .inl ⟨x, hx, ?_⟩
      rw [isIt_iff u hr, asOf_next u (hl x hx)]
      exact ⟨hr, h1.symm, h2, h3⟩
theorem pruned_is {s : St} (u : Up s.rights) (hl : ∀ x ∈ s.lefts, x.t ≤ top) : (pruned s).rights = s.rights.filter fun r => noted s.lefts s.rights s.markL r.id := by
  unfold pruned
  exact (List.filter_congr fun r hr => noted_is u hl hr).symm
end JS
end
section
set_option linter.all false
set_option maxRecDepth 100000
set_option maxHeartbeats 4000000
namespace JS
open PySem PySem.Spec PyProof.Rows L2 LamX
abbrev lamArgs (p : Pos) : Arguments := { posonlyargs := [], args := [{ arg := "row", annotation := none, pos := p }], vararg := none, kwonlyargs := [], kw_defaults := [], kwarg := none, defaults := [] }
abbrev lamBody (p1 p2 p3 p4 p5 : Pos) : Expr := .Tuple [.Attribute (.Name "row" p1) "time" p2, .Attribute (.Name "row" p3) "number" p4] 0 p5
abbrev lamSc : Scope := { kind := .function, names := [(PySem.Str.ofString "row", .local)], isGenerator := false, isCoroutine := false, more := [] }
section
variable {prog : Program} {w : World} {A : Around} {s : Shared} {K : PySem.W.Frag} {f c' a dx C : Addr} {q : Str} {p0 p1 p2 p3 p4 p5 : Pos} {pm ctv : Value} {mA : Str → Option Value} {i j : Int} {t1 t2 : Tok}
theorem lam_call (hroom : A.depth < recursionLimit) (lim : s.heap.NoLimit) (KX : K.In s.heap) (cl : Cls K C) (na : NoAttr K C "time") (nb : NoAttr K C "number")
    (hf : s.heap.get? f = some (PySem.W.kla_obj "<lambda>" q (lamArgs p0) (lamBody p1 p2 p3 p4 p5) lamSc [] pm c' ctv)) (hc : s.heap.CodeRec (.ref c') q)
    (O : ObjM s.heap a dx C mA) (h1 : mA "time" = some (.int i t1)) (h2 : mA "number" = some (.int j t2)) :
    wpAny (model prog w) A (call (.ref f) [.ref a]) (PySem.W.KeyPure (.tuple [.int i, .int j]) s) (fun _ _ => False) s := by
  refine wpAny_call (codeAny_mono (R := fun r s' => ∃ v, r = .ok (.ret v) ∧ PySem.W.KeyPure (.tuple [.int i, .int j]) s v s') (PySem.W.kla_callFunE hroom hf rfl rfl rfl rfl hc ?_) fun r s' h => ?_)
  · have hb : bindArgs (PySem.W.kla_fn "<lambda>" q (lamArgs p0) (lamBody p1 p2 p3 p4 p5) lamSc [] pm (.ref c') ctv) ⟨[.ref a], []⟩ = pure [((PySem.Str.ofString "row" : Str), Value.ref a)] := by
      first | rfl | with_unfolding_all rfl
    rw [hb]
    refine wpAny_pure (wpAny_newFunctionEnv (fun y hy => ?_) (fun y hy => ?_) (fun h₁ hns hsb => ?_) rfl)
    · have hy : y ∈ [(PySem.Str.ofString "row", NameKind.local)] := hy
      rw [List.mem_singleton] at hy
      subst hy
      exact fun z => nomatch z
    · rw [List.mem_singleton] at hy
      subst hy
      rfl
    · have k : ∀ b o, s.heap.get? b = some o → h₁.get? b = some o := fun b o e => hsb.extBut b o (Nat.ne_of_lt (Heap.lt_size e)) (Heap.get?_push_of_some _ e)
      refine ⟨lim.keeps k, ?_⟩
      refine PySem.W.kla_codeExpr ?_
      have O1 : ObjM h₁ a dx C mA := ⟨k _ _ O.obj, let ⟨o, es, ep, e, r⟩ := O.ns; ⟨o, es, ep, k _ _ e, r⟩, O.ne⟩
      have KX1 : K.In h₁ := KX.keeps k
      refine wpAny_Tuple_spliced ?_
      refine Calls.spliced_cons ?_
      refine attr_of (by rfl) (wpAny_Name (wpAny_loadName_local rfl rfl hns (v := Value.ref a) rfl ?_) (by decide))
      refine get_map (s := { s with heap := h₁, toks := s.toks + [((PySem.Str.ofString "row" : Str), Value.ref a)].length }) KX1 O1 (cl.get _) cl.hd na h1 rfl ?_
      refine Calls.spliced_cons ?_
      refine attr_of (by rfl) (wpAny_Name (wpAny_loadName_local rfl rfl hns (v := Value.ref a) rfl ?_) (by decide))
      refine get_map (s := { s with heap := h₁, toks := s.toks + [((PySem.Str.ofString "row" : Str), Value.ref a)].length + 1 }) KX1 O1 (cl.get _) cl.hd nb h2 rfl ?_
      refine Calls.spliced_nil ⟨by rw [sizeLine_eq]; exact (by decide : 2 ≤ 16777216), _, rfl, _, _, rfl, fun b o e => Heap.get?_push_of_some _ (k b o e), ?_⟩
      exact Reads.tuple (as := []) (Heap.get?_push_size _ rfl) rfl rfl (ReadsAll.cons (Reads.int _ _) (ReadsAll.cons (Reads.int _ _) ReadsAll.nil))
  · obtain ⟨v, rfl, h⟩ := h
    exact h
end
/-- in order by the two numbers -/
abbrev lexLe (k : Addr → Int × Int) : Addr → Addr → Bool := fun p q => decide ((k p).1 < (k q).1 ∨ ((k p).1 = (k q).1 ∧ (k p).2 ≤ (k q).2))
/-- sorted(xs, key=lambda row: (row.time, row.number)) -/
def tSortLam (K : PySem.W.Frag) (T : List (Addr × Str)) (C : Addr) (ta : TA) : TE := fun σ H Q => ta σ H fun vs H1 => Tabs T H1 ∧ ∃ (l : Addr) (as : List Addr) (k : Addr → Int × Int),
  vs = [.ref l] ∧ SqL K H1 l (as.map V.ref) ∧ (∀ x ∈ as, ∃ dx fs, H1 x = some (.ins C dx fs) ∧ List.lookup ("time" : Str) fs = some (V.int (k x).1) ∧ List.lookup ("number" : Str) fs = some (V.int (k x).2)) ∧
  ∀ H2 p, ExtN H1 H2 → Tabs T H2 → H2 p = none → Q (.ref p) (upd H2 p (.lst ((as.mergeSort (lexLe k)).map V.ref)))
theorem refs_of {as : List Addr} {us : List Value} (r : Vals (as.map V.ref) us) : us = as.map Value.ref := by
  induction as generalizing us with
  | nil => cases r; rfl
  | cons a r' ih =>
    cases r with
    | cons h1 h2 =>
      have e := ih h2
      rw [e]
      have : _ = Value.ref a := h1
      rw [this]
      rfl
theorem vals_refs : ∀ as : List Addr, Vals (as.map V.ref) (as.map Value.ref)
  | [] => .nil
  | _ :: r => .cons rfl (vals_refs r)
theorem eachIs_refs : ∀ as : List Addr, PySem.W.EachIs (fun (v : Value) (b : Addr) => v = .ref b) (as.map Value.ref) as
  | [] => .nil
  | _ :: r => .cons rfl (eachIs_refs r)
theorem of_eachIs : ∀ {out : List Value} {as : List Addr}, PySem.W.EachIs (fun (v : Value) (b : Addr) => v = .ref b) out as → out = as.map Value.ref
  | _, _, .nil => rfl
  | _, _, .cons h t => by
    rw [of_eachIs t, h]
    rfl
theorem sqL_extN {K : PySem.W.Frag} {H H' : Hp} {l : Addr} {xs : List V} (h : SqL K H l xs) (eN : ExtN H H') : SqL K H' l xs := by
  rcases h with (h | ⟨o, h⟩) | h
  · exact .inl (.inl (eN _ _ h fun ps z => by cases z))
  · exact .inl (.inr ⟨o, eN _ _ h fun ps z => by cases z⟩)
  · exact .inr h
section
variable {X : Cx} {T : List (Addr × Str)} {c P C : Addr} {e : Expr} {t : TA} {k : Nat} {p pos kpos lpos p0 p1 p2 p3 p4 p5 : Pos}
theorem pe_sortLam (hm : X.mg "sorted" = none) (TB : TabB X.base X.mg c P) (hcode : X.env.code = .ref c) (hT : (P, X.env.qual ++ "<lambda>") ∈ T) (hu : ∀ p ∈ T, p.1 = P → p.2 = X.env.qual ++ "<lambda>") (hr : Room k X.A)
    (cl : Cls X.K C) (na : NoAttr X.K C "time") (nb : NoAttr X.K C "number") (ha : PA X [e] t) (hg : Gl X "sorted" := by rfl)
    (he : backTo pos (starEach (e :: []) X.env) = (false, eval e X.env) :: backTo pos (starEach [] X.env) := by rfl) (hpl : (backTo pos (starEach (e :: []) X.env)).any (·.1) = false := by rfl) :
    PE X (.Call (.Name "sorted" p) [e] [⟨some "key", .Lambda (lamArgs p0) (lamBody p1 p2 p3 p4 p5) lamSc lpos, kpos⟩] pos) (tSortLam X.K T C t) := by
  refine ⟨fun pins s σ H Q I h => ?_⟩
  refine wpAny_Call_Name_kw (ld_blt (u := .builtin "sorted") I hg hm (by first | rfl | decide +kernel) ?_ (by decide) (by decide))
  refine PyProof.Rows.callWith_kw (thn (ha.run pos pins s σ H _ I h) fun us s1 ⟨vs, H1, I1, r1, hTs, q1⟩ => ?_) he hpl rfl rfl
  show wpAny _ _ (evalAll ((do let v ← eval (.Lambda (lamArgs p0) (lamBody p1 p2 p3 p4 p5) lamSc lpos) X.env; standAt pos; pure v) :: [])) _ _ s1
  refine wpAny_evalAll_cons (wpAny_bind (lam_make2 I1 TB hcode hT hu hTs rfl (fun y hy => ?_) fun f c' pm ctv H2 s2 I2 eN T2 hf hfn hfr hco => wpAny_bind (wpAny_standAt (wpAny_pure (wpAny_evalAll_nil ?_)))))
  · have hy : y ∈ [(PySem.Str.ofString "row", NameKind.local)] := hy
    rw [List.mem_singleton] at hy
    subst hy
    exact fun z => nomatch z
  · obtain ⟨l, as, kk, rfl, hs, hx, q⟩ := q1
    obtain ⟨its, rv, hl, hz⟩ := I2.list (sqL_extN hs eN)
    obtain rfl := Vals.ref1 r1
    have hits := refs_of rv
    subst hits
    rw [List.length_map] at hz
    have nT : ∀ x ∈ as, ∃ dx fs, H2 x = some (.ins C dx fs) ∧ List.lookup ("time" : Str) fs = some (V.int (kk x).1) ∧ List.lookup ("number" : Str) fs = some (V.int (kk x).2) := fun x hx' => by
      obtain ⟨dx, fs, e1, e2⟩ := hx x hx'
      exact ⟨dx, fs, eN _ _ e1 (fun ps z => by cases z), e2⟩
    obtain ⟨⟨oc, vs, tq, ho1, ho2, ho3⟩, _, _⟩ := I2.hok _ _ hco
    have hal : PySem.W.AllAlike (as.map fun b => PyData.tuple [.int (kk b).1, .int (kk b).2]) := PySem.W.AllAlike.of fun b b' => rfl
    have hsk : PySem.W.Sortable (as.map fun b => PyData.tuple [.int (kk b).1, .int (kk b).2]) := PySem.W.Sortable.tuples fun b => ⟨_, _, rfl⟩
    show wpAny _ _ (call (.builtin "sorted") [.ref l] [(PySem.Str.ofString "key", .ref f)]) _ _ s2
    refine PySem.W.sorted_key_data (b := false) (R := fun (v : Value) (b : Addr) => v = .ref b) (bs := as) (vs := as.map Value.ref) (f := .ref f) (fun b => PyData.tuple [.int (kk b).1, .int (kk b).2]) hl.isList (eachIs_refs as) hal hsk hz (fun x _ => ?_) (PyProof.Rows.ksk_s1 _ _) (fun _ => PyProof.Rows.ksk_l1 _ _) (fun x => PyProof.Rows.ksk_t1 f x)
      (fun v x hv hx' h tk kp => ?_) fun out cc h' tk kp hn1 hn2 hlen ho => ?_
    · have := hr.un
      show X.A.units + 2 + 1 < cLine
      omega
    · subst hv
      obtain ⟨dx, fs, e1, e2, e3⟩ := nT x hx'
      obtain ⟨mA, O, r, _, _, _⟩ := ins_get I2.hok e1
      obtain ⟨u1, m1, t1, rfl⟩ := RelO.some_of (v := V.int (kk x).1) (o := mA "time") (by rw [← e2]; exact r _)
      obtain ⟨u2, m2, t2, rfl⟩ := RelO.some_of (v := V.int (kk x).2) (o := mA "number") (by rw [← e3]; exact r _)
      have lim : h.NoLimit := I2.nolimit.keeps kp
      have KX : X.K.In h := I2.kIn.keeps kp
      have O1 : ObjM h x dx C mA := ⟨kp _ _ O.obj, let ⟨o, es, ep, e, r⟩ := O.ns; ⟨o, es, ep, kp _ _ e, r⟩, O.ne⟩
      exact lam_call (s := { s2 with heap := h, toks := tk }) (by have := hr.dp; show X.A.depth < _; omega) lim KX cl na nb (kp _ _ hf) ⟨c', oc, vs, tq, rfl, kp _ _ ho1, ho2, ho3⟩ O1 m1 m2
    · have ho' := of_eachIs ho
      subst ho'
      rw [PySem.W.dataLe_ii] at *
      exact ⟨.ref _, upd H2 (s2.heap.objs.size + 1) (.lst ((as.mergeSort (lexLe kk)).map V.ref)), I2.laid (t' := tk) kp (Nat.le_succ _) ⟨by rw [List.length_map, List.length_mergeSort]; exact hz, _, cc, vals_refs _, hn2⟩, rfl, q H2 _ eN T2 (I2.hok.fresh (Nat.le_succ _))⟩
end
end JS
end
section
set_option linter.all false
set_option maxRecDepth 100000
set_option maxHeartbeats 4000000
namespace JS
open PySem PySem.Spec PyProof.Rows L2 LamX
open PySem.W (WData Codec OpenSpec Well WellAll ReadsW ReadsAllW)
/-! ## the end of a Spec row one of whose defs makes a lambda: its code object's table P is tracked -/
theorem sqL_more {K : PySem.W.Frag} {H H' : Hp} {a : Addr} {xs : List V} (h : SqL K H a xs) (k : ∀ b o, H b = some o → H' b = some o) : SqL K H' a xs := by
  rcases h with (h | ⟨o, h⟩) | h
  · exact .inl (.inl (k _ _ h))
  · exact .inl (.inr ⟨o, k _ _ h⟩)
  · exact .inr h
theorem sqT_more {K : PySem.W.Frag} {H H' : Hp} {a : Addr} {xs : List V} (h : SqT K H a xs) (k : ∀ b o, H b = some o → H' b = some o) : SqT K H' a xs := by
  rcases h with (h | ⟨o, h⟩) | h
  · exact .inl (.inl (k _ _ h))
  · exact .inl (.inr ⟨o, k _ _ h⟩)
  · exact .inr h
mutual
theorem dw_more {K : PySem.W.Frag} {H H' : Hp} (k : ∀ b o, H b = some o → H' b = some o) : ∀ (d : WData) (v : V), Dw K H v d → Dw K H' v d
  | .none, _, x => by cases x; exact .non
  | .bool b, _, x => by cases x; exact .bl b
  | .int i, _, x => by cases x; exact .int i
  | .str s, _, x => by cases x; exact .str s
  | .bytes b, _, x => by cases x; exact .byt _
  | .list ds, _, x => by
    cases x with
    | lst hs ha => exact .lst (sqL_more hs k) (dwAll_more k ds _ ha)
  | .tuple ds, _, x => by
    cases x with
    | tup hs ha => exact .tup (sqT_more hs k) (dwAll_more k ds _ ha)
  | .float _, _, x => by cases x
  | .dict _, _, x => by cases x
  | .bytearray _, _, x => by cases x
  | .set _, _, x => by cases x
  | .frozenset _, _, x => by cases x
  | .obj _ _, _, x => by cases x
theorem dwAll_more {K : PySem.W.Frag} {H H' : Hp} (k : ∀ b o, H b = some o → H' b = some o) : ∀ (ds : List WData) (vs : List V), DwAll K H vs ds → DwAll K H' vs ds
  | [], _, x => by cases x; exact .nil
  | d :: ds, _, x => by
    cases x with
    | cons h1 h2 => exact .cons (dw_more k d _ h1) (dwAll_more k ds _ h2)
end
theorem spec_callT {prog : Program} {w : World} {K : PySem.W.Frag} {mg mb : Str → Option Value} {CX : CXT} {k : Nat} {fa c P : Addr} {fd : FuncData} {ps : List Str} {sp : Sp} {s₁ : Shared} {vals : List Value} {ds : List WData} {R : PySem.W.WRecords} {cl : Str → Option Addr} {d0 : WData}
    (KX : K.In s₁.heap) (hns : s₁.heap.Ns mainGlobals mg) (hb : s₁.heap.Ns builtinsNs mb) (hbb : ∀ x : Str, x ≠ "__name__" → mb x = bootBuiltins x) (hlim : s₁.heap.NoLimit) (hg : s₁.gens = #[])
    (hP : s₁.heap.get? P = some { cls := .none, data := .fields #[] }) (nP : K.lookup P = none) (Cd : PySem.W.CodeHd s₁.heap c P)
    (hbm : ∃ (bm : Addr) (ob : Obj), mg "__builtins__" = some (.ref bm) ∧ bm ≠ builtinsNs ∧ s₁.heap.get? bm = some ob ∧ ob.cls = .type "module" ∧ ob.dict = some builtinsNs ∧ ob.data = .plain)
    (hwl : WellAll w.params s₁.heap vals ds) (hpl : plWs ds = true) (hwt : ∀ d ∈ ds, d.weight ≤ 1048576) (hr : Room k callerA)
    (F : ∀ base : Heap, K.In base → base.Ns mainGlobals mg → TabB base mg c P → FnOk prog w K mg base CX k fa fd ps sp) (hbind : ∀ (s : Shared) (us : List Value), us.length = ps.length → BindsTo s fd ⟨us, []⟩ (ps.zip us)) (hlen : ds.length = ps.length)
    (hsp : ∀ (H : Hp) (xs : List V), H P = some (.tbl #[]) → DwAll K H xs ds → sp xs H (fun v H' => Dw K H' v d0) fun _ _ _ => False)
    (hCX : ∀ H e s', CX [] H s₁ (fun _ _ _ => False) e s' → False) :
    codeAny (model prog w) callerA (.call (.ref fa) ⟨vals, []⟩) (fun r s' => ∃ u as, r = .ok (.ret u) ∧ ReadsW R cl s'.heap u d0 as ∧ OldK s₁.heap s'.heap ∧ s'.os = s₁.os ∧ AllBare s'.gens) s₁ := by
  obtain ⟨A, ho, ar⟩ := area_all ds vals hwl hpl hwt
  have hO0 : OnlyF (argH K s₁.heap A) := argH_only ar
  have hok0 : HOk prog w (argH K s₁.heap A) s₁.heap := argH_ok ar
  have hS0 := dw_all KX ar ds vals hwl hpl ho
  have hV := vals_toV ho
  have hK0 : ∀ b u, argH K s₁.heap A b = some u → K.lookup b = none := fun b u q => (argH_is ar q).1
  have seq0 : ∀ b u, argH K s₁.heap A b = some u → ∃ o vs n, s₁.heap.get? b = some o ∧ o.data = .seq vs n := fun b u q => by
    obtain ⟨_, vs, _, _, ⟨e2, _⟩ | ⟨e2, _⟩⟩ := argH_is ar q
    · exact ⟨_, _, _, e2, rfl⟩
    · exact ⟨_, _, _, e2, rfl⟩
  have hP0 : argH K s₁.heap A P = none := by
    cases q : argH K s₁.heap A P with
    | none => rfl
    | some u =>
      obtain ⟨o, vs, n, e1, e2⟩ := seq0 P u q
      rw [hP] at e1
      cases e1
      cases e2
  generalize argH K s₁.heap A = H0 at hO0 hok0 hS0 hK0 seq0 hP0
  have atP : upd H0 P (.tbl #[]) P = some (.tbl #[]) := upd_same
  have up : ∀ b o, H0 b = some o → upd H0 P (.tbl #[]) b = some o := fun b o e => by
    rw [upd_ne (ne_of_none e hP0)]
    exact e
  have hS : DwAll K (upd H0 P (.tbl #[])) (vals.map toV) ds := dwAll_more up ds _ hS0
  have hO : ∀ b, upd H0 P (.tbl #[]) b = none ∨ b = P ∨ ∃ o u, upd H0 P (.tbl #[]) b = some (.frz o u) := fun b => by
    by_cases hb : b = P
    · exact .inr (.inl hb)
    · rw [upd_ne hb]
      rcases hO0 b with z | ⟨o, u, z⟩
      · exact .inl z
      · exact .inr (.inr ⟨o, u, z⟩)
  have hok : HOk prog w (upd H0 P (.tbl #[])) s₁.heap := fun b u e => by
    by_cases hb : b = P
    · subst hb
      rw [upd_same] at e
      cases e
      exact hP
    · rw [upd_ne hb] at e
      refine (hok0 b u e).stay (fun _ _ _ z => z) (fun d q => up _ _ q) fun d xs q => up _ _ q
  have hK : ∀ b u, upd H0 P (.tbl #[]) b = some u → K.lookup b = none := fun b u q => by
    by_cases hb : b = P
    · rw [hb]
      exact nP
    · rw [upd_ne hb] at q
      exact hK0 b u q
  have noD : ∀ {b : Addr} {o : Obj}, s₁.heap.get? b = some o → (∀ vs n, o.data ≠ .seq vs n) → o.data ≠ .fields #[] → upd H0 P (.tbl #[]) b = none := fun {b o} e h1 h2 => by
    by_cases hb : b = P
    · rw [hb, hP] at e
      cases e
      exact (h2 rfl).elim
    · rw [upd_ne hb]
      cases q : H0 b with
      | none => rfl
      | some u =>
        obtain ⟨o', vs, n, e1, e2⟩ := seq0 b u q
        rw [e] at e1
        cases e1
        exact (h1 _ _ e2).elim
  generalize upd H0 P (.tbl #[]) = H at hO hok hS hK noD atP
  have noA : ∀ {b : Addr} {o : Obj} {es : Array DictEntry} {ep : Nat}, s₁.heap.get? b = some o → o.data = .dict es ep → H b = none := fun {b o es ep} e d =>
    noD e (fun vs n z => by rw [d] at z; cases z) fun z => by rw [d] at z; cases z
  have base_of : ∀ {b : Addr} {o : Obj}, s₁.heap.get? b = some o → H b = none → (hidT s₁.heap H).get? b = some o := fun e n => hidT_get e n
  have nsK : ∀ {b : Addr} {m : Str → Option Value}, s₁.heap.Ns b m → (hidT s₁.heap H).Ns b m := fun {b m} ⟨o, es, ep, e, d, r⟩ => ⟨o, es, ep, base_of e (noA e d), d, r⟩
  have nK : ∀ b o, K.lookup b = some o → H b = none := fun b o e => by
    cases q : H b with
    | none => rfl
    | some u =>
      rw [hK b u q] at e
      cases e
  have hKb : K.In (hidT s₁.heap H) := fun b o e => base_of (KX b o e) (nK b o e)
  have hM : L2.Mod K mg (hidT s₁.heap H) := ⟨hKb, nsK hns, ⟨mb, nsK hb, hbb⟩, let ⟨mc, h1, h2⟩ := hlim; ⟨mc, nsK h1, h2⟩⟩
  have TB : TabB (hidT s₁.heap H) mg c P := by
    refine ⟨?_, ?_, fun z => ?_⟩
    · obtain ⟨o, us, file, tf, flags, tg, inF, text, tt, e1, r1, r2, r3, r⟩ := Cd
      refine ⟨o, us, file, tf, flags, tg, inF, text, tt, base_of e1 (noD e1 (fun vs n z => ?_) fun z => ?_), r1, r2, r3, r⟩
      · rw [r2] at z
        cases z
      · rw [r2] at z
        cases z
        simp at r3
    · obtain ⟨bm, ob, b1, b2, b3, b4, b5, b6⟩ := hbm
      have nG : bm ≠ mainGlobals := fun q => by
        obtain ⟨o, es, ep, e, hd, _⟩ := hns
        rw [q, e] at b3
        cases b3
        rw [hd] at b6
        cases b6
      have nPb : bm ≠ P := fun q => by
        rw [q, hP] at b3
        cases b3
        cases b6
      refine ⟨bm, ob, b1, b2, nG, nPb, base_of b3 (noD b3 (fun vs n z => ?_) fun z => ?_), b4, b5, b6⟩
      · rw [b6] at z
        cases z
      · rw [b6] at z
        cases z
    · obtain ⟨o, es, ep, e, hd, _⟩ := hns
      rw [z, hP] at e
      cases e
      cases hd
  have e0 : Env0 prog w K mg (hidT s₁.heap H) callerA [] s₁ H := ⟨rfl, hM, fun b o e => of_hidT e, Nat.le_of_eq (hidT_size _ _), trivial, fun b hb => absurd (show b ∈ ([] : List Addr) from hb) (by simp), hok, .of_eq hg⟩
  have hl : vals.length = ps.length := by rw [wellAll_len hwl]; exact hlen
  refine codeAny_mono ((F _ hKb (nsK hns) TB).run callerA [] s₁ H ⟨vals, []⟩ vals (vals.map toV) _ _ hr e0 (hbind s₁ vals hl) hV (hsp H _ atP hS)) fun r s' x => ?_
  cases r with
  | error e => exact (hCX H e s' x).elim
  | ok fl =>
    cases fl with
    | next => exact False.elim x
    | brk => exact False.elim x
    | cont => exact False.elim x
    | ret u =>
      obtain ⟨v, H', os, bare, un, hok', r', q⟩ := x
      have key : ∀ b o, b ≠ P → s₁.heap.get? b = some o → s'.heap.get? b = some o := fun b o nb e => by
        cases q2 : H b with
        | none => exact un.keep b o e q2 (by intro z; exact absurd (show b ∈ ([] : List Addr) from z) (by simp)) (by simp)
        | some u2 =>
          rcases hO b with z | z | ⟨ob, u3, z⟩
          · rw [q2] at z
            cases z
          · exact absurd z nb
          · have z2 := un.frzs b ob _ z
            obtain ⟨e1, _⟩ := hok b _ z
            obtain ⟨e2, _⟩ := hok' b _ z2
            rw [e] at e1
            cases e1
            exact e2
      obtain ⟨more, z⟩ := un.tbls P #[] atP
      have hPm : s'.heap.get? P = some { cls := .none, data := .fields (#[] ++ more) } := hok' P _ z
      have KX' : K.In s'.heap := fun b o e => key b o (fun z => by rw [z, nP] at e; cases e) (KX b o e)
      obtain ⟨as, hrd⟩ := Dw.reads (R := R) (cl := cl) hok' KX' d0 v u q r'
      refine ⟨u, as, rfl, hrd, ⟨fun b o e => ?_, fun b o e => ?_⟩, os, bare⟩
      · by_cases hb : b = P
        · rw [hb] at e ⊢
          rw [hP] at e
          cases e
          exact .inr (.inl ⟨(Cd.tab hP).isCodeTable, rfl, #[], more, rfl, by rw [hPm, Array.empty_append]⟩)
        · exact .inl (key b o hb e)
      · by_cases hb : b = P
        · rw [hb]
          exact ⟨_, hPm⟩
        · exact ⟨o, key b o hb e⟩
/-- the goal of k_headS where the def of the name x makes a lambda -/
theorem walk_specT {r : OpenSpec} {k : Nat} {q : Program} {loose : List Str} {XP : (Str → Option Value) → Heap → Prop} {YP : World → Heap → Prop} {d dT : DefRec} {K : Params → PySem.W.Frag} {CX : CXT} {ps : List Str} {sp : PySem.W.Frag → Addr → Sp} (x : Str)
    (hwell : r.wellSaid = true) (hdf : d.params.defaults = []) (hlen : r.args.length = ps.length) (hr : Room k callerA) (hrec : (recsOf q).find? (fun e => e.name == x) = some dT)
    (hY : ∀ (w : World) (h : Heap), YP w h → (K w.params).In h)
    (F : ∀ (w : World) (mg : Str → Option Value) (fa : Addr) (h : Heap), YP w h → (K w.params).In h → h.Ns mainGlobals mg → mg d.name = some (.ref fa) →
      ∃ (c P : Addr) (fd : FuncData), PySem.W.tabIn (K w.params) x = some (c, P) ∧ (K w.params).lookup P = none ∧ (∀ (s : Shared) (us : List Value), us.length = ps.length → BindsTo s fd ⟨us, []⟩ (ps.zip us)) ∧
        ∀ base : Heap, (K w.params).In base → base.Ns mainGlobals mg → TabB base mg c P → FnOk r.prog w (K w.params) mg base CX k fa fd ps (sp (K w.params) P))
    (hsp : ∀ (K : PySem.W.Frag) (P : Addr) (H : Hp) (xs : List V) (a : Codec.denoteAll r.args), H P = some (.tbl #[]) → Codec.withinAll r.args a = true → Codec.app r.args r.asked a = true → DwAll K H xs (Codec.encAll r.args a) →
      sp K P xs H (fun v H' => Dw K H' v (r.ret.enc (Codec.app r.args r.f a))) fun _ _ _ => False)
    (hCX : ∀ (H : Hp) (s : Shared) (e : Value) (s' : Shared), CX [] H s (fun _ _ _ => False) e s' → False) :
    PySem.W.WalkOS q loose XP YP r d [] (fun f vs => PySem.call f vs) := by
  intro w s₀ s₁ mg mb G Y fa o pm cd doc dV kV ho hd hcd hD hmg hg args vals as hpre hlay hrd hwl hlo
  obtain ⟨a, e1, e2⟩ := PySem.W.os_pre_some hpre
  obtain ⟨e3, hwi⟩ := Codec.encAll_of_decAll r.args args a e1
  subst e3
  have KX := hY w _ Y
  obtain ⟨c, P, fd, ht, nP, hb, hF⟩ := F w mg fa _ Y KX G.T.g hmg
  obtain ⟨Cd, hP⟩ := PySem.W.tab_of G.T KX hrec ht
  refine PySem.W.enter_call (codeAny_mono (spec_callT (R := []) (cl := classAt s₀.heap) (d0 := r.ret.enc (Codec.app r.args r.f a)) KX G.T.g G.T.b G.T.builtins G.T.nolimit hg hP nP Cd G.T.bmain hwl (pl_encAll _ _) (layable_weight hlay) hr hF hb (by rw [encAll_len]; exact hlen)
    (fun H xs hO hS => hsp (K w.params) P H xs a hO hwi e2 hS) fun H e s' => hCX H s₁ e s') fun r' s' hq => ?_)
  obtain ⟨u, as', rfl, h1, h2, h3, h4⟩ := hq
  exact ⟨.inl ⟨u, _, as', rfl, fun _ => rfl, h1, (OpenSpec.post_iff hwell hwi _ _).mpr rfl, fun z => Bool.noConfusion (show false = true from z)⟩, h2, h3, h4⟩
end JS
end
section
set_option linter.all false
set_option maxRecDepth 100000
set_option maxHeartbeats 4000000
namespace JS
open PySem PySem.Spec PyProof.Rows L2 LamX
abbrev R6 := Hs06.Row
/-! ## the mirror: rows with their addresses -/
abbrev PR := Addr × R6
structure Sd where
  at_ : Addr
  kl : Addr
  isL : Bool
  reach : Nat
  once : Bool
  fin : Bool
  mark : Nat
  taken : Nat
  aside : Nat
  kept : List PR
structure Jn where
  at_ : Addr
  mom : Bool
  l : Sd
  r : Sd
/-! ## the heap -/
def rF (r : R6) : List (Str × V) := [("number", .int r.id), ("key", .int r.key), ("time", .int r.t), ("met", .bl r.met)]
def sF (s : Sd) : List (Str × V) := [("is_left", .bl s.isL), ("reach", .int s.reach), ("tells_at_once", .bl s.once), ("tells_at_end", .bl s.fin), ("mark", .int s.mark), ("taken", .int s.taken), ("put_aside", .int s.aside), ("kept", .ref s.kl)]
def jF (j : Jn) : List (Str × V) := [("by_moment", .bl j.mom), ("left", .ref j.l.at_), ("right", .ref j.r.at_)]
theorem rF_number (r : R6) : (rF r).lookup ("number" : Str) = some (.int r.id) := by kernel_rfl
theorem rF_key (r : R6) : (rF r).lookup ("key" : Str) = some (.int r.key) := by kernel_rfl
theorem rF_time (r : R6) : (rF r).lookup ("time" : Str) = some (.int r.t) := by kernel_rfl
theorem rF_met (r : R6) : (rF r).lookup ("met" : Str) = some (.bl r.met) := by kernel_rfl
theorem rF_put (r : R6) (b : Bool) : putF "met" (.bl b) (rF r) = rF { r with met := b } := by kernel_rfl
theorem rF_new (n k t : Nat) : putF "met" (.bl false) (putF "time" (.int t) (putF "key" (.int k) (putF "number" (.int n) []))) = rF ⟨n, k, t, false⟩ := by kernel_rfl
theorem sF_is_left (s : Sd) : (sF s).lookup ("is_left" : Str) = some (.bl s.isL) := by kernel_rfl
theorem sF_reach (s : Sd) : (sF s).lookup ("reach" : Str) = some (.int s.reach) := by kernel_rfl
theorem sF_once (s : Sd) : (sF s).lookup ("tells_at_once" : Str) = some (.bl s.once) := by kernel_rfl
theorem sF_fin (s : Sd) : (sF s).lookup ("tells_at_end" : Str) = some (.bl s.fin) := by kernel_rfl
theorem sF_mark (s : Sd) : (sF s).lookup ("mark" : Str) = some (.int s.mark) := by kernel_rfl
theorem sF_taken (s : Sd) : (sF s).lookup ("taken" : Str) = some (.int s.taken) := by kernel_rfl
theorem sF_aside (s : Sd) : (sF s).lookup ("put_aside" : Str) = some (.int s.aside) := by kernel_rfl
theorem sF_kept (s : Sd) : (sF s).lookup ("kept" : Str) = some (.ref s.kl) := by kernel_rfl
theorem sF_take (s : Sd) : (sF s).lookup ("take" : Str) = none := by kernel_rfl
theorem sF_alone (s : Sd) : (sF s).lookup ("alone" : Str) = none := by kernel_rfl
theorem sF_pair (s : Sd) : (sF s).lookup ("pair" : Str) = none := by kernel_rfl
theorem sF_put_mark (s : Sd) (m : Nat) : putF "mark" (.int m) (sF s) = sF { s with mark := m } := by kernel_rfl
theorem sF_put_taken (s : Sd) (m : Nat) : putF "taken" (.int m) (sF s) = sF { s with taken := m } := by kernel_rfl
theorem sF_put_aside (s : Sd) (m : Nat) : putF "put_aside" (.int m) (sF s) = sF { s with aside := m } := by kernel_rfl
theorem sF_put_kept (s : Sd) (k : Addr) : putF "kept" (.ref k) (sF s) = sF { s with kl := k } := by kernel_rfl
theorem jF_mom (j : Jn) : (jF j).lookup ("by_moment" : Str) = some (.bl j.mom) := by kernel_rfl
theorem jF_left (j : Jn) : (jF j).lookup ("left" : Str) = some (.ref j.l.at_) := by kernel_rfl
theorem jF_right (j : Jn) : (jF j).lookup ("right" : Str) = some (.ref j.r.at_) := by kernel_rfl
theorem jF_other (j : Jn) : (jF j).lookup ("other" : Str) = none := by kernel_rfl
end JS
end
section
set_option linter.all false
set_option maxRecDepth 100000
set_option maxHeartbeats 4000000
namespace JS
open PySem PySem.Spec PyProof.Rows L2 LamX
def top (i : Nat) : Stmt := PySem.Challenge.pw_joinedstreams_s01_answers.main.body.getD i (.Pass ⟨0, 0, 0, 0⟩)
abbrev zRowI : Stmt := inClass (top 3) 0
abbrev zSideI : Stmt := inClass (top 4) 0
abbrev zTake : Stmt := inClass (top 4) 1
abbrev zAlone : Stmt := inClass (top 4) 2
abbrev zPair : Stmt := inClass (top 4) 3
abbrev zJoinI : Stmt := inClass (top 5) 0
abbrev zOther : Stmt := inClass (top 5) 1
abbrev zComes : Stmt := top 6
abbrev zUp : Stmt := top 7
abbrev zMeet : Stmt := top 8
abbrev zRows : Stmt := top 9
abbrev zWanted : Stmt := top 10
abbrev zDropU : Stmt := top 11
abbrev zAsk : Stmt := top 12
abbrev zTell : Stmt := top 13
abbrev zMoment : Stmt := top 14
abbrev zHold : Stmt := top 15
abbrev zDropV : Stmt := top 16
abbrev zAns : Stmt := top 28
abbrev zBeg : Stmt := top 29
abbrev zCall : Stmt := top 30
abbrev zRowA : Stmt := top 31
abbrev zMarkA : Stmt := top 32
abbrev zKept : Stmt := top 33
abbrev zCounts : Stmt := top 34
abbrev zAt : Stmt := top 35
abbrev zCount : Stmt := top 36
/-- what the top has written -/
structure Txt (K : PySem.W.Frag) (mg : Str → Option Value) (CR CS CJ : Addr) : Prop where
  cR : Cls K CR
  cS : Cls K CS
  cJ : Cls K CJ
  Rn : NoAttr K CR "number"
  Rk : NoAttr K CR "key"
  Rt : NoAttr K CR "time"
  Rm : NoAttr K CR "met"
  Sl : NoAttr K CS "is_left"
  Sr : NoAttr K CS "reach"
  So : NoAttr K CS "tells_at_once"
  Se : NoAttr K CS "tells_at_end"
  Sm : NoAttr K CS "mark"
  St : NoAttr K CS "taken"
  Sa : NoAttr K CS "put_aside"
  Sk : NoAttr K CS "kept"
  Jm : NoAttr K CJ "by_moment"
  Jl : NoAttr K CJ "left"
  Jr : NoAttr K CJ "right"
  gR : mg "Row" = some (.ref CR)
  gS : mg "Side" = some (.ref CS)
  gJ : mg "Join" = some (.ref CJ)
  gLast : ∃ t, mg "LAST_TIME" = some (.int 1000000 t)
  gAs : ∃ t, mg "AS_OF_SORT" = some (.int 3 t)
  gBegin : ∃ t, mg "BEGIN" = some (.int 0 t)
  gLeft : ∃ t, mg "LEFT" = some (.int 1 t)
  gRight : ∃ t, mg "RIGHT" = some (.int 2 t)
  gLeftM : ∃ t, mg "LEFT_MARK" = some (.int 3 t)
  gRightM : ∃ t, mg "RIGHT_MARK" = some (.int 4 t)
  gLefts : ∃ t, mg "LEFTS" = some (.int 5 t)
  gRights : ∃ t, mg "RIGHTS" = some (.int 6 t)
  gCounts : ∃ t, mg "COUNTS" = some (.int 7 t)
  gFar : ∃ t, mg "FARTHEST" = some (.int 100000 t)
  bLen : mg "len" = none
  bMax : mg "max" = none
  bSorted : mg "sorted" = none
def RowAt (CR : Addr) (H : Hp) (a : Addr) (r : R6) : Prop := ∃ dx, H a = some (.ins CR dx (rF r))
def SideO (CS : Addr) (H : Hp) (s : Sd) : Prop := ∃ dx, H s.at_ = some (.ins CS dx (sF s))
def JoinO (CJ : Addr) (H : Hp) (j : Jn) : Prop := ∃ dx, H j.at_ = some (.ins CJ dx (jF j))
theorem put_lt {f : Str} {v : V} {fs : List (Str × V)} {m : Nat} (h : fs.length < m) : (putF f v fs).length < m + 1 := by
  have := length_putF f v fs
  omega
section
variable {P : Program} {w : World} {K : PySem.W.Frag} {mg : Str → Option Value} {base : Heap} {CR CS CJ : Addr}
/-! ### Row.__init__ -/
def spRowI (CR : Addr) : Sp := fun vs H Q _ => ∃ (p dx : Addr) (n k t : Nat), vs = [.ref p, .int n, .int k, .int t] ∧ H p = some (.ins CR dx []) ∧
  Q .non (upd H p (.ins CR dx (rF ⟨n, k, t, false⟩)))
theorem scRowI : FnScope ["self", "number", "key", "time"] ["self", "number", "key", "time"] (defScope zRowI) := ⟨rfl, rfl, rfl, by decide +kernel, rfl, by decide +kernel, by decide +kernel⟩
theorem ok_rowI {f : Addr} {fd : FuncData} (F : Fun K "__init__" "Row.__init__" zRowI f fd) (T : Txt K mg CR CS CJ) : FnOk P w K mg base CX0 1 f fd ["self", "number", "key", "time"] (spRowI CR) := by
  refine F.ok scRowI (fun vs H Q E h => ?_) (fun cdv A outer s H vs Q E hr h => ⟨_, pss_cons (ps_fld (pv 0) (pv 1) rfl) (pss_cons (ps_fld (pv 0) (pv 2) rfl) (pss_cons (ps_fld (pv 0) (pv 3) rfl) (pss_one (ps_fld (pv 0) pe_bl rfl)))), ?_⟩)
  · obtain ⟨p, dx, n, k, t, rfl, _⟩ := h
    rfl
  · obtain ⟨p, dx, n, k, t, rfl, hp, q⟩ := h
    refine ⟨_, rfl, _, rfl, p, CR, dx, _, rfl, hp, T.cR, T.Rn, by decide, ?_⟩
    refine ⟨_, rfl, _, rfl, p, CR, dx, _, rfl, upd_same, T.cR, T.Rk, put_lt (by decide), ?_⟩
    refine ⟨_, rfl, _, rfl, p, CR, dx, _, rfl, upd_same, T.cR, T.Rt, put_lt (put_lt (by decide)), ?_⟩
    refine ⟨_, rfl, p, CR, dx, _, rfl, upd_same, T.cR, T.Rm, put_lt (put_lt (put_lt (by decide))), ?_⟩
    rw [upd_upd, upd_upd, upd_upd, rF_new]
    exact q
/-! ### Side.__init__ -/
def spSideI (CS : Addr) : Sp := fun vs H Q _ => ∃ (p dx : Addr) (l ta : Bool) (reach e : Nat), vs = [.ref p, .bl l, .int reach, .bl ta, .int e] ∧ H p = some (.ins CS dx []) ∧
  ∀ (k : Addr) (H' : Hp), H k = none → k ≠ p → H' p = some (.ins CS dx (sF ⟨p, k, l, reach, ta && decide (e = 1), ta && decide (e = 0), 0, 0, 0, []⟩)) → H' k = some (.lst []) → (∀ b o, H b = some o → b ≠ p → H' b = some o) → Q .non H'
theorem scSideI : FnScope ["self", "is_left", "reach", "tells_alone", "eager"] ["self", "is_left", "reach", "tells_alone", "eager"] (defScope zSideI) := ⟨rfl, rfl, rfl, by decide +kernel, rfl, by decide +kernel, by decide +kernel⟩
theorem and_cont {σ : L2.St} {H : Hp} {tb : TE} {Q : VK} {c d : Bool} (hb : ∀ Q', Q' (.bl d) H → tb σ H Q') (q : Q (.bl (c && d)) H) : if c = true then tb σ H Q else Q (.bl false) H := by
  cases c with
  | true => rw [if_pos rfl]; exact hb Q q
  | false => rw [if_neg Bool.false_ne_true]; exact q
theorem or_cont {σ : L2.St} {H : Hp} {tb : TE} {Q : VK} {c d : Bool} (hb : ∀ Q', Q' (.bl d) H → tb σ H Q') (q : Q (.bl (c || d)) H) : if c = true then Q (.bl true) H else tb σ H Q := by
  cases c with
  | true => rw [if_pos rfl]; exact q
  | false => rw [if_neg Bool.false_ne_true]; exact hb Q q
theorem natEq (a b : Nat) : decide ((a : Int) = (b : Int)) = decide (a = b) := by
  rw [decide_eq_decide]
  omega
theorem ok_sideI {f : Addr} {fd : FuncData} (F : Fun K "__init__" "Side.__init__" zSideI f fd) (T : Txt K mg CR CS CJ) : FnOk P w K mg base CX0 1 f fd ["self", "is_left", "reach", "tells_alone", "eager"] (spSideI CS) := by
  refine F.ok scSideI (fun vs H Q E h => ?_) (fun cdv A outer s H vs Q E hr h => ⟨_, pss_cons (ps_fld (pv 0) (pv 1) rfl) (pss_cons (ps_fld (pv 0) (pv 2) rfl)
    (pss_cons (ps_fld (pv 0) (pe_and (pv 3) (pe_one (pe_cmp (pc_eqI (pv 4) pe_int) rfl))) rfl) (pss_cons (ps_fld (pv 0) (pe_and (pv 3) (pe_one (pe_cmp (pc_eqI (pv 4) pe_int) rfl))) rfl)
    (pss_cons (ps_fld (pv 0) pe_int rfl) (pss_cons (ps_fld (pv 0) pe_int rfl) (pss_cons (ps_fld (pv 0) pe_int rfl) (pss_one (ps_fld (pv 0) (pe_lst pa_nil) rfl)))))))), ?_⟩)
  · obtain ⟨p, dx, l, ta, reach, e, rfl, _⟩ := h
    rfl
  · obtain ⟨p, dx, l, ta, reach, e, rfl, hp, q⟩ := h
    refine ⟨_, rfl, _, rfl, p, CS, dx, _, rfl, hp, T.cS, T.Sl, by decide, ?_⟩
    refine ⟨_, rfl, _, rfl, p, CS, dx, _, rfl, upd_same, T.cS, T.Sr, put_lt (by decide), ?_⟩
    refine ⟨_, rfl, ta, rfl, ?_⟩
    refine and_cont (tb := tEqI (tVar 4) (tC (V.int 1))) (d := decide (e = 1)) (fun Q' h' => ⟨_, rfl, _, _, rfl, rfl, by show Q' (V.bl (decide ((e : Int) = ((1 : Nat) : Int)))) _; rw [natEq]; exact h'⟩) ?_
    refine ⟨_, rfl, p, CS, dx, _, rfl, upd_same, T.cS, T.So, put_lt (put_lt (by decide)), ?_⟩
    refine ⟨_, rfl, ta, rfl, ?_⟩
    refine and_cont (tb := tEqI (tVar 4) (tC (V.int 0))) (d := decide (e = 0)) (fun Q' h' => ⟨_, rfl, _, _, rfl, rfl, by show Q' (V.bl (decide ((e : Int) = ((0 : Nat) : Int)))) _; rw [natEq]; exact h'⟩) ?_
    refine ⟨_, rfl, p, CS, dx, _, rfl, upd_same, T.cS, T.Se, put_lt (put_lt (put_lt (by decide))), ?_⟩
    refine ⟨_, rfl, p, CS, dx, _, rfl, upd_same, T.cS, T.Sm, put_lt (put_lt (put_lt (put_lt (by decide)))), ?_⟩
    refine ⟨_, rfl, p, CS, dx, _, rfl, upd_same, T.cS, T.St, put_lt (put_lt (put_lt (put_lt (put_lt (by decide))))), ?_⟩
    refine ⟨_, rfl, p, CS, dx, _, rfl, upd_same, T.cS, T.Sa, put_lt (put_lt (put_lt (put_lt (put_lt (put_lt (by decide)))))), ?_⟩
    rw [upd_upd, upd_upd, upd_upd, upd_upd, upd_upd, upd_upd]
    refine ⟨Nat.zero_le _, fun k hk => ?_⟩
    have hkp : k ≠ p := fun z => by
      rw [z, upd_same] at hk
      cases hk
    rw [upd_ne hkp] at hk
    refine ⟨_, rfl, p, CS, dx, _, rfl, (upd_ne (Ne.symm hkp)).trans upd_same, T.cS, T.Sk, put_lt (put_lt (put_lt (put_lt (put_lt (put_lt (put_lt (by decide))))))), ?_⟩
    refine q k _ hk hkp ?_ ((upd_ne hkp).trans upd_same) fun b o e hb => ?_
    · rw [upd_same]
      refine congrArg (fun z => some (HO.ins CS dx z)) ?_
      kernel_rfl
    · rw [upd_ne hb, upd_ne (ne_of_none e hk), upd_ne hb]
      exact e
/-! ### Side.take -/
def spTake (CR CS : Addr) : Sp := fun vs H Q _ => ∃ (s : Sd) (k t : Nat), vs = [.ref s.at_, .int k, .int t] ∧ SideO CS H s ∧
  ∀ (x : Addr) (H' : Hp), H x = none → RowAt CR H' x ⟨s.taken + 1, k, t, false⟩ → SideO CS H' { s with taken := s.taken + 1 } → (∀ b o, H b = some o → b ≠ s.at_ → H' b = some o) → Q (.ref x) H'
theorem scTake : FnScope ["self", "key", "time"] ["self", "key", "time"] (defScope zTake) := ⟨rfl, rfl, rfl, by decide +kernel, rfl, by decide +kernel, by decide +kernel⟩
theorem ok_take {f fR : Addr} {fd fdR : FuncData} (F : Fun K "take" "Side.take" zTake f fd) (T : Txt K mg CR CS CJ) (M : Mk K CR fR) (FR : Fun K "__init__" "Row.__init__" zRowI fR fdR) (bR : Binds K fdR ["self", "number", "key", "time"] []) :
    FnOk P w K mg base CX0 3 f fd ["self", "key", "time"] (spTake CR CS) := by
  have GR : FnOk P w K mg base CX0 1 fR fdR ["self", "number", "key", "time"] (spRowI CR) := ok_rowI FR T
  refine F.ok scTake (fun vs H Q E h => ?_) (fun cdv A outer s H vs Q E hr h => ⟨_, pss_cons (ps_fldaug (pv 0) pe_int in_add)
    (pss_one (ps_ret (pe_make M GR hr rfl T.gR bR .nil pass0 (pa_cons (pe_fld (pv 0) rfl) (pa_cons (pv 1) (pa_cons (pv 2) pa_nil)))))), ?_⟩)
  · obtain ⟨s, k, t, rfl, _⟩ := h
    rfl
  · obtain ⟨s, k, t, rfl, ⟨ds, hs⟩, q⟩ := h
    refine ⟨_, rfl, s.at_, CS, ds, _, _, rfl, hs, T.cS, T.St, sF_taken s, _, _, rfl, rfl, _, _, hs, (by show 8 < 1000; decide), ?_⟩
    have e1 : putF "taken" (.int ((s.taken : Int) + 1)) (sF s) = sF { s with taken := s.taken + 1 } := sF_put_taken s (s.taken + 1)
    rw [e1]
    refine ⟨_, rfl, s.at_, CS, ds, _, _, rfl, upd_same, T.cS, T.St, sF_taken _, _, rfl, _, rfl, ?_⟩
    intro x dx nx nd ne
    have nxs : x ≠ s.at_ := fun z => by rw [z, upd_same] at nx; cases nx
    have nds : dx ≠ s.at_ := fun z => by rw [z, upd_same] at nd; cases nd
    rw [upd_ne nxs] at nx
    rw [upd_ne nds] at nd
    refine ⟨x, dx, s.taken + 1, k, t, rfl, upd_same, rfl, ?_⟩
    rw [upd_upd]
    refine q x _ nx ⟨dx, upd_same⟩ ⟨ds, ?_⟩ fun b o e hb => ?_
    · rw [upd_ne (Ne.symm nxs), upd_ne (Ne.symm nds), upd_same]
    · rw [upd_ne (ne_of_none e nx), upd_ne (ne_of_none e nd), upd_ne hb]
      exact e
end
end JS
end
section
set_option linter.all false
set_option maxRecDepth 100000
set_option maxHeartbeats 4000000
namespace JS
open PySem PySem.Spec PyProof.Rows L2 LamX
abbrev Chg := Hs06.Change
def aloneC (s : Sd) (b : Bool) (r : R6) : Chg := if s.isL = true then (b, r.id, 0) else (b, 0, r.id)
def pairC (s : Sd) (r p : R6) : Chg := if s.isL = true then (true, r.id, p.id) else (true, p.id, r.id)
def meetsB (s : Sd) (r : R6) (o : Sd) (p : R6) : Bool := if r.key = p.key then decide (r.t ≤ p.t + o.reach) && decide (p.t ≤ r.t + s.reach) else false
def wantedB (s : Sd) (r : R6) (m : Nat) : Bool := decide (m ≤ r.t + s.reach) && decide (m ≤ 1000000)
def chV (c : Chg) : List V := [.int ((if c.1 = true then 1 else 0 : Nat) : Int), .int c.2.1, .int c.2.2]
theorem iteT_of {c : Bool} {A B : Prop} (e : c = true) (h : A) : if c = true then A else B := by
  rw [if_pos e]
  exact h
theorem iteF_of {c : Bool} {A B : Prop} (e : c = false) (h : B) : if c = true then A else B := by
  rw [e, if_neg Bool.false_ne_true]
  exact h
theorem small3 : 3 ≤ sizeLine := by rw [sizeLine_eq]; decide
theorem natLe (a b : Nat) : decide ((a : Int) ≤ (b : Int)) = decide (a ≤ b) := by
  rw [decide_eq_decide]
  omega
theorem natLt (a b : Nat) : decide ((a : Int) < (b : Int)) = decide (a < b) := by
  rw [decide_eq_decide]
  omega
section
variable {P : Program} {w : World} {K : PySem.W.Frag} {mg : Str → Option Value} {base : Heap} {CR CS CJ : Addr}
/-! ### Side.alone, Side.pair -/
def spAlone (CR CS : Addr) : Sp := fun vs H Q _ => ∃ (s : Sd) (b : Bool) (a : Addr) (r : R6), vs = [.ref s.at_, .int ((if b = true then 1 else 0 : Nat) : Int), .ref a] ∧ SideO CS H s ∧ RowAt CR H a r ∧
  ∀ p, H p = none → Q (.ref p) (upd H p (.tup (chV (aloneC s b r))))
theorem scAlone : FnScope ["self", "told", "row"] ["self", "told", "row"] (defScope zAlone) := ⟨rfl, rfl, rfl, by decide +kernel, rfl, by decide +kernel, by decide +kernel⟩
theorem ok_alone {f : Addr} {fd : FuncData} (F : Fun K "alone" "Side.alone" zAlone f fd) (T : Txt K mg CR CS CJ) : FnOk P w K mg base CX0 1 f fd ["self", "told", "row"] (spAlone CR CS) := by
  refine F.ok scAlone (fun vs H Q E h => ?_) (fun cdv A outer s H vs Q E hr h => ⟨_, pss_cons (ps_if (pt_val (pe_fld (pv 0) rfl)) (pss_one (ps_ret (pe_tup (pa_cons (pv 1) (pa_cons (pe_fld (pv 2) rfl) (pa_cons pe_int pa_nil)))))) pss_nil)
    (pss_one (ps_ret (pe_tup (pa_cons (pv 1) (pa_cons pe_int (pa_cons (pe_fld (pv 2) rfl) pa_nil)))))), ?_⟩)
  · obtain ⟨s, b, a, r, rfl, _⟩ := h
    rfl
  · obtain ⟨s, b, a, r, rfl, ⟨ds, hs⟩, ⟨da, ha⟩, q⟩ := h
    refine ⟨_, rfl, s.at_, CS, ds, _, _, rfl, hs, T.cS, T.Sl, sF_is_left s, s.isL, rfl, ?_⟩
    cases e : s.isL with
    | true =>
      refine iteT ?_
      refine ⟨_, rfl, _, rfl, a, CR, da, _, _, rfl, ha, T.cR, T.Rn, rF_number r, small3, fun p hp => ?_⟩
      have z := q p hp
      unfold aloneC at z
      rw [if_pos e] at z
      exact z
    | false =>
      refine iteF ?_
      refine ⟨_, rfl, _, rfl, a, CR, da, _, _, rfl, ha, T.cR, T.Rn, rF_number r, small3, fun p hp => ?_⟩
      have z := q p hp
      unfold aloneC at z
      rw [if_neg (by rw [e]; exact Bool.false_ne_true)] at z
      exact z
def spPair (CR CS : Addr) : Sp := fun vs H Q _ => ∃ (s : Sd) (a b : Addr) (r p : R6), vs = [.ref s.at_, .ref a, .ref b] ∧ SideO CS H s ∧ RowAt CR H a r ∧ RowAt CR H b p ∧
  ∀ t, H t = none → Q (.ref t) (upd H t (.tup (chV (pairC s r p))))
theorem scPair : FnScope ["self", "row", "partner"] ["self", "row", "partner"] (defScope zPair) := ⟨rfl, rfl, rfl, by decide +kernel, rfl, by decide +kernel, by decide +kernel⟩
theorem ok_pair {f : Addr} {fd : FuncData} (F : Fun K "pair" "Side.pair" zPair f fd) (T : Txt K mg CR CS CJ) : FnOk P w K mg base CX0 1 f fd ["self", "row", "partner"] (spPair CR CS) := by
  refine F.ok scPair (fun vs H Q E h => ?_) (fun cdv A outer s H vs Q E hr h => ⟨_, pss_cons (ps_if (pt_val (pe_fld (pv 0) rfl)) (pss_one (ps_ret (pe_tup (pa_cons pe_int (pa_cons (pe_fld (pv 1) rfl) (pa_cons (pe_fld (pv 2) rfl) pa_nil)))))) pss_nil)
    (pss_one (ps_ret (pe_tup (pa_cons pe_int (pa_cons (pe_fld (pv 2) rfl) (pa_cons (pe_fld (pv 1) rfl) pa_nil)))))), ?_⟩)
  · obtain ⟨s, a, b, r, p, rfl, _⟩ := h
    rfl
  · obtain ⟨s, a, b, r, p, rfl, ⟨ds, hs⟩, ⟨da, ha⟩, ⟨db, hb⟩, q⟩ := h
    refine ⟨_, rfl, s.at_, CS, ds, _, _, rfl, hs, T.cS, T.Sl, sF_is_left s, s.isL, rfl, ?_⟩
    cases e : s.isL with
    | true =>
      refine iteT ?_
      refine ⟨_, rfl, a, CR, da, _, _, rfl, ha, T.cR, T.Rn, rF_number r, _, rfl, b, CR, db, _, _, rfl, hb, T.cR, T.Rn, rF_number p, small3, fun t ht => ?_⟩
      have z := q t ht
      unfold pairC at z
      rw [if_pos e] at z
      exact z
    | false =>
      refine iteF ?_
      refine ⟨_, rfl, b, CR, db, _, _, rfl, hb, T.cR, T.Rn, rF_number p, _, rfl, a, CR, da, _, _, rfl, ha, T.cR, T.Rn, rF_number r, small3, fun t ht => ?_⟩
      have z := q t ht
      unfold pairC at z
      rw [if_neg (by rw [e]; exact Bool.false_ne_true)] at z
      exact z
/-! ### Join.other -/
def spOther (CS CJ : Addr) : Sp := fun vs H Q _ => ∃ (j : Jn) (s : Sd), vs = [.ref j.at_, .ref s.at_] ∧ JoinO CJ H j ∧ SideO CS H s ∧ Q (.ref (if s.isL = true then j.r.at_ else j.l.at_)) H
theorem scOther : FnScope ["self", "side"] ["self", "side"] (defScope zOther) := ⟨rfl, rfl, rfl, by decide +kernel, rfl, by decide +kernel, by decide +kernel⟩
theorem ok_other {f : Addr} {fd : FuncData} (F : Fun K "other" "Join.other" zOther f fd) (T : Txt K mg CR CS CJ) : FnOk P w K mg base CX0 1 f fd ["self", "side"] (spOther CS CJ) := by
  refine F.ok scOther (fun vs H Q E h => ?_) (fun cdv A outer s H vs Q E hr h => ⟨_, pss_cons (ps_if (pt_val (pe_fld (pv 1) rfl)) (pss_one (ps_ret (pe_fld (pv 0) rfl))) pss_nil) (pss_one (ps_ret (pe_fld (pv 0) rfl))), ?_⟩)
  · obtain ⟨j, s, rfl, _⟩ := h
    rfl
  · obtain ⟨j, s, rfl, ⟨dj, hj⟩, ⟨ds, hs⟩, q⟩ := h
    refine ⟨_, rfl, s.at_, CS, ds, _, _, rfl, hs, T.cS, T.Sl, sF_is_left s, s.isL, rfl, ?_⟩
    cases e : s.isL with
    | true =>
      rw [if_pos e] at q
      exact iteT ⟨_, rfl, j.at_, CJ, dj, _, _, rfl, hj, T.cJ, T.Jr, jF_right j, q⟩
    | false =>
      rw [if_neg (by rw [e]; exact Bool.false_ne_true)] at q
      exact iteF ⟨_, rfl, j.at_, CJ, dj, _, _, rfl, hj, T.cJ, T.Jl, jF_left j, q⟩
/-! ### rows_meet, is_wanted -/
def spRows (CR CS : Addr) : Sp := fun vs H Q _ => ∃ (s o : Sd) (a b : Addr) (r p : R6), vs = [.ref s.at_, .ref a, .ref o.at_, .ref b] ∧ SideO CS H s ∧ SideO CS H o ∧ RowAt CR H a r ∧ RowAt CR H b p ∧ Q (.bl (meetsB s r o p)) H
theorem scRows : FnScope ["side", "row", "other", "partner"] ["side", "row", "other", "partner"] (defScope zRows) := ⟨rfl, rfl, rfl, by decide +kernel, rfl, by decide +kernel, by decide +kernel⟩
theorem ok_rows {f : Addr} {fd : FuncData} (F : Fun K "rows_meet" "rows_meet" zRows f fd) (T : Txt K mg CR CS CJ) : FnOk P w K mg base CX0 1 f fd ["side", "row", "other", "partner"] (spRows CR CS) := by
  refine F.ok scRows (fun vs H Q E h => ?_) (fun cdv A outer s H vs Q E hr h => ⟨_, pss_cons (ps_if (pt_cmpR op_ne (pe_fld (pv 1) rfl) (pe_fld (pv 3) rfl) (nomark _)) (pss_one (ps_ret pe_bl)) pss_nil)
    (pss_one (ps_ret (pe_and (pe_cmp (pc_le (pe_fld (pv 1) rfl) (pe_add (pe_fld (pv 3) rfl) (pe_fld (pv 2) rfl))) rfl) (pe_one (pe_cmp (pc_le (pe_fld (pv 3) rfl) (pe_add (pe_fld (pv 1) rfl) (pe_fld (pv 0) rfl))) rfl))))), ?_⟩)
  · obtain ⟨s, o, a, b, r, p, rfl, _⟩ := h
    rfl
  · obtain ⟨s, o, a, b, r, p, rfl, ⟨ds, hs⟩, ⟨dp, ho⟩, ⟨da, ha⟩, ⟨db, hb⟩, q⟩ := h
    refine ⟨_, rfl, a, CR, da, _, _, rfl, ha, T.cR, T.Rk, rF_key r, _, rfl, b, CR, db, _, _, rfl, hb, T.cR, T.Rk, rF_key p, rfl, _, rfl, ?_⟩
    unfold meetsB at q
    by_cases c : r.key = p.key
    · rw [if_pos c] at q
      refine iteF_of (by rw [c]; simp) ?_
      refine ⟨_, rfl, a, CR, da, _, _, rfl, ha, T.cR, T.Rt, rF_time r, _, rfl, b, CR, db, _, _, rfl, hb, T.cR, T.Rt, rF_time p, _, rfl, o.at_, CS, dp, _, _, rfl, ho, T.cS, T.Sr, sF_reach o, _, _, rfl, rfl, _, _, rfl, rfl, _, rfl, ?_⟩
      refine and_cont (d := decide (p.t ≤ r.t + s.reach)) (fun Q' h' => ?_) ?_
      · refine ⟨_, rfl, b, CR, db, _, _, rfl, hb, T.cR, T.Rt, rF_time p, _, rfl, a, CR, da, _, _, rfl, ha, T.cR, T.Rt, rF_time r, _, rfl, s.at_, CS, ds, _, _, rfl, hs, T.cS, T.Sr, sF_reach s, _, _, rfl, rfl, _, _, rfl, rfl, ?_⟩
        show Q' (V.bl (decide ((p.t : Int) ≤ ((r.t + s.reach : Nat) : Int)))) H
        rw [natLe]
        exact h'
      · show Q (V.bl (decide ((r.t : Int) ≤ ((p.t + o.reach : Nat) : Int)) && _)) H
        rw [natLe]
        exact q
    · rw [if_neg c] at q
      exact iteT_of (by rw [decide_eq_false (fun z => c (by injection z with z; omega))]; rfl) q
def spWanted (CR CS : Addr) : Sp := fun vs H Q _ => ∃ (s : Sd) (a : Addr) (r : R6) (m : Nat), vs = [.ref s.at_, .ref a, .int m] ∧ SideO CS H s ∧ RowAt CR H a r ∧ Q (.bl (wantedB s r m)) H
theorem scWanted : FnScope ["side", "row", "other_mark"] ["side", "row", "other_mark"] (defScope zWanted) := ⟨rfl, rfl, rfl, by decide +kernel, rfl, by decide +kernel, by decide +kernel⟩
theorem ok_wanted {f : Addr} {fd : FuncData} (F : Fun K "is_wanted" "is_wanted" zWanted f fd) (T : Txt K mg CR CS CJ) : FnOk P w K mg base CX0 1 f fd ["side", "row", "other_mark"] (spWanted CR CS) := by
  obtain ⟨tL, gL⟩ := T.gLast
  refine F.ok scWanted (fun vs H Q E h => ?_) (fun cdv A outer s H vs Q E hr h => ⟨_, pss_one (ps_ret (pe_and (pe_cmp (pc_le (pv 2) (pe_add (pe_fld (pv 1) rfl) (pe_fld (pv 0) rfl))) rfl) (pe_one (pe_cmp (pc_le (pv 2) (pe_glob (v := .int 1000000) rfl gL ⟨_, rfl⟩)) rfl)))), ?_⟩)
  · obtain ⟨s, a, r, m, rfl, _⟩ := h
    rfl
  · obtain ⟨s, a, r, m, rfl, ⟨ds, hs⟩, ⟨da, ha⟩, q⟩ := h
    refine ⟨_, rfl, _, rfl, a, CR, da, _, _, rfl, ha, T.cR, T.Rt, rF_time r, _, rfl, s.at_, CS, ds, _, _, rfl, hs, T.cS, T.Sr, sF_reach s, _, _, rfl, rfl, _, _, rfl, rfl, _, rfl, ?_⟩
    refine and_cont (d := decide (m ≤ 1000000)) (fun Q' h' => ?_) ?_
    · refine ⟨_, rfl, _, _, rfl, rfl, ?_⟩
      show Q' (V.bl (decide ((m : Int) ≤ ((1000000 : Nat) : Int)))) H
      rw [natLe]
      exact h'
    · show Q (V.bl (decide ((m : Int) ≤ ((r.t + s.reach : Nat) : Int)) && _)) H
      rw [natLe]
      exact q
end
end JS
end
section
set_option linter.all false
set_option maxRecDepth 100000
set_option maxHeartbeats 4000000
namespace JS
open PySem PySem.Spec PyProof.Rows L2 LamX
def refsOf {α : Type} (l : List (Addr × α)) : List V := l.map fun p => V.ref p.1
theorem refsOf_snoc {α : Type} (l : List (Addr × α)) (p : Addr × α) : refsOf (l ++ [p]) = refsOf l ++ [.ref p.1] := by simp [refsOf]
theorem refsOf_len {α : Type} (l : List (Addr × α)) : (refsOf l).length = l.length := by simp [refsOf]
theorem refsOf_at {α : Type} {l : List (Addr × α)} {i : Nat} {y : V} (h : (refsOf l)[i]? = some y) : ∃ p, l[i]? = some p ∧ y = .ref p.1 := by
  unfold refsOf at h
  rw [List.getElem?_map] at h
  cases e : l[i]? with
  | none => rw [e] at h; cases h
  | some p => rw [e] at h; exact ⟨p, rfl, (Option.some.inj h).symm⟩
theorem take_more {α : Type} {l : List α} {i : Nat} {x : α} (h : l[i]? = some x) : l.take (i + 1) = l.take i ++ [x] := by
  rw [List.take_add_one, h]
  rfl
theorem mem_at {α : Type} {l : List α} {i : Nat} {x : α} (h : l[i]? = some x) : x ∈ l := List.mem_of_getElem? h
def RowsAt (CR : Addr) (H : Hp) (l : List PR) : Prop := ∀ p ∈ l, RowAt CR H p.1 p.2
/-- a side, its list, its rows -/
structure SideAt (CR CS : Addr) (H : Hp) (s : Sd) : Prop where
  o : SideO CS H s
  k : H s.kl = some (.lst (refsOf s.kept))
  r : RowsAt CR H s.kept
/-- a list of changes -/
def ChL (H : Hp) (l : Addr) (cs : List Chg) : Prop := ∃ ps : List (Addr × Chg), ps.map Prod.snd = cs ∧ H l = some (.lst (refsOf ps)) ∧ ∀ p ∈ ps, H p.1 = some (.tup (chV p.2))
theorem RowAt.same {CR : Addr} {H H' : Hp} {a : Addr} {r : R6} (h : RowAt CR H a r) (k : ∀ o, H a = some o → H' a = some o) : RowAt CR H' a r := let ⟨dx, e⟩ := h; ⟨dx, k _ e⟩
theorem RowsAt.same {CR : Addr} {H H' : Hp} {l : List PR} (h : RowsAt CR H l) (k : Same H H') : RowsAt CR H' l := fun p hp => (h p hp).same (k _)
theorem SideO.same {CS : Addr} {H H' : Hp} {s : Sd} (h : SideO CS H s) (k : Same H H') : SideO CS H' s := let ⟨dx, e⟩ := h; ⟨dx, k _ _ e⟩
theorem SideAt.same {CR CS : Addr} {H H' : Hp} {s : Sd} (h : SideAt CR CS H s) (k : Same H H') : SideAt CR CS H' s := ⟨h.o.same k, k _ _ h.k, h.r.same k⟩
theorem ChL.same {H H' : Hp} {l : Addr} {cs : List Chg} (h : ChL H l cs) (k : Same H H') : ChL H' l cs := let ⟨ps, e1, e2, e3⟩ := h; ⟨ps, e1, k _ _ e2, fun p hp => k _ _ (e3 p hp)⟩
theorem Same.upd {H : Hp} {p : Addr} {o : HO} (h : H p = none) : Same H (upd H p o) := fun b u e => by
  rw [upd_ne (ne_of_none e h)]
  exact e
theorem ChL.nil {H : Hp} {l : Addr} (h : H l = some (.lst [])) : ChL H l [] := ⟨[], rfl, h, fun p hp => by cases hp⟩
/-- one more change, told by the tuple at t -/
theorem ChL.push {H : Hp} {l t : Addr} {cs : List Chg} {c : Chg} (h : ChL H l cs) (ht : H t = some (.tup (chV c))) : ∃ xs, H l = some (.lst xs) ∧ xs.length = cs.length ∧ ChL (L2.upd H l (.lst (xs ++ [.ref t]))) l (cs ++ [c]) := by
  obtain ⟨ps, e1, e2, e3⟩ := h
  refine ⟨_, e2, by rw [refsOf_len, ← e1, List.length_map], ps ++ [(t, c)], by rw [List.map_append, e1]; rfl, ?_, fun p hp => ?_⟩
  · rw [upd_same, refsOf_snoc]
  · have q : H p.1 = some (.tup (chV p.2)) := by
      rcases List.mem_append.mp hp with z | z
      · exact e3 p z
      · rw [List.mem_singleton] at z
        subst z
        exact ht
    rw [upd_ne (ne_of q e2 (by intro z; cases z))]
    exact q
/-- a store elsewhere (no tuple stands there) -/
theorem ChL.upd {H : Hp} {l a : Addr} {cs : List Chg} {o : HO} (h : ChL H l cs) (hl : a ≠ l) (ha : ∀ xs, H a ≠ some (.tup xs)) : ChL (L2.upd H a o) l cs := by
  obtain ⟨ps, e1, e2, e3⟩ := h
  refine ⟨ps, e1, by rw [upd_ne (Ne.symm hl)]; exact e2, fun p hp => ?_⟩
  rw [upd_ne (fun z => ha _ (by rw [← z]; exact e3 p hp))]
  exact e3 p hp
theorem side_row {a b c d : Addr} {s : Sd} {r : R6} (h : HO.ins a b (sF s) = HO.ins c d (rF r)) : False := by
  injection h with _ _ h
  have := congrArg List.length h
  exact absurd this (by show ¬ 8 = 4; decide)
theorem join_side {a b c d : Addr} {j : Jn} {s : Sd} (h : HO.ins a b (jF j) = HO.ins c d (sF s)) : False := by
  injection h with _ _ h
  have := congrArg List.length h
  exact absurd this (by show ¬ 3 = 8; decide)
theorem join_row {a b c d : Addr} {j : Jn} {r : R6} (h : HO.ins a b (jF j) = HO.ins c d (rF r)) : False := by
  injection h with _ _ h
  have := congrArg List.length h
  exact absurd this (by show ¬ 3 = 4; decide)
theorem and_test {σ : L2.St} {H : Hp} {u : TT} {Q : Bool → Hp → Prop} {c d : Bool} (hb : ∀ Q' : Bool → Hp → Prop, Q' d H → u σ H Q') (q : Q (c && d) H) : if c = true then u σ H Q else Q false H := by
  cases c with
  | true => rw [if_pos rfl]; exact hb Q q
  | false => rw [if_neg Bool.false_ne_true]; exact q
theorem or_test {σ : L2.St} {H : Hp} {u : TT} {Q : Bool → Hp → Prop} {c d : Bool} (hb : ∀ Q' : Bool → Hp → Prop, Q' d H → u σ H Q') (q : Q (c || d) H) : if c = true then Q true H else u σ H Q := by
  cases c with
  | true => rw [if_pos rfl]; exact q
  | false => rw [if_neg Bool.false_ne_true]; exact hb Q q
theorem small_of {n : Nat} (h : n ≤ 100000) : n < sizeLine := by rw [sizeLine_eq]; omega
section
variable {P : Program} {w : World} {K : PySem.W.Frag} {mg : Str → Option Value} {base : Heap} {CR CS CJ : Addr}
/-! ### drop_unwanted -/
def dropCh (s : Sd) (m : Nat) (l : List PR) : List Chg := (l.filter fun p => !wantedB s p.2 m && (s.fin && !p.2.met)).map fun p => aloneC s true p.2
def spDropU (CR CS : Addr) : Sp := fun vs H Q _ => ∃ (s : Sd) (m : Nat), vs = [.ref s.at_, .int m] ∧ SideAt CR CS H s ∧ s.kept.length ≤ 1000 ∧
  ∀ (H' : Hp) (k l : Addr), H k = none → H l = none → k ≠ l → ChL H' l (dropCh s m s.kept) → SideAt CR CS H' { s with kl := k, kept := s.kept.filter fun p => wantedB s p.2 m } → (∀ b o, H b = some o → b ≠ s.at_ → H' b = some o) → Q (.ref l) H'
theorem scDropU : FnScope ["side", "other_mark", "changes", "kept", "row"] ["side", "other_mark"] (defScope zDropU) := ⟨rfl, rfl, rfl, by decide +kernel, rfl, by decide +kernel, by decide +kernel⟩
theorem dropCh_snoc (s : Sd) (m : Nat) (l : List PR) (p : PR) : dropCh s m (l ++ [p]) = dropCh s m l ++ (if (!wantedB s p.2 m && (s.fin && !p.2.met)) = true then [aloneC s true p.2] else []) := by
  unfold dropCh
  rw [List.filter_append, List.map_append, List.filter_cons]
  split <;> rfl
theorem dropCh_len (s : Sd) (m : Nat) (l : List PR) : (dropCh s m l).length ≤ l.length := by
  unfold dropCh
  rw [List.length_map]
  exact List.length_filter_le _ _
theorem ok_dropU {f fA fW : Addr} {fd fdA fdW : FuncData} (F : Fun K "drop_unwanted" "drop_unwanted" zDropU f fd) (T : Txt K mg CR CS CJ)
    (FA : Fun K "alone" "Side.alone" zAlone fA fdA) (bA : Binds K fdA ["self", "told", "row"] []) (mA : Meth K CS "alone" fA)
    (FW : Fun K "is_wanted" "is_wanted" zWanted fW fdW) (bW : Binds K fdW ["side", "row", "other_mark"] []) (gW : mg "is_wanted" = some (.ref fW)) : FnOk P w K mg base CX0 2 f fd ["side", "other_mark"] (spDropU CR CS) := by
  have GA : FnOk P w K mg base CX0 1 fA fdA ["self", "told", "row"] (spAlone CR CS) := ok_alone FA T
  have GW : FnOk P w K mg base CX0 1 fW fdW ["side", "row", "other_mark"] (spWanted CR CS) := ok_wanted FW T
  refine F.ok scDropU (fun vs H Q E h => ?_) (fun cdv A outer s H vs Q E hr h => ⟨_, pss_cons (ps_set (i := 2) scDropU.nd rfl (Or.inl rfl) (pe_lst pa_nil)) (pss_cons (ps_set (i := 3) scDropU.nd rfl (Or.inl rfl) (pe_lst pa_nil))
    (pss_cons (ps_for PassesOwn.never rfl (pi_list (pe_fld (pv 0) rfl)) (pg_name (i := 4) scDropU.nd rfl (Or.inl rfl))
      (pss_one (ps_if (pt_val (pe_call GW hr rfl gW FW.kp bW .nil pass0 (pa_cons (pv 0) (pa_cons (pv 4) (pa_cons (pv 1) pa_nil)))))
        (pss_one (ps_expr (pe_bm PySem.F.plainAttrs_list PySem.F.slot_list_append PySem.F.type_list_append mt_append (pv 3) (pa_cons (pv 4) pa_nil))))
        (pss_one (ps_if (PW.pt (pw_and (pt_val (pe_fld (pv 0) rfl)) (pw_and1 (pt_not (pt_val (pe_fld (pv 4) rfl))))))
          (pss_one (ps_expr (pe_bm PySem.F.plainAttrs_list PySem.F.slot_list_append PySem.F.type_list_append mt_append (pv 2) (pa_cons (pe_meth (pv 0) T.cS mA GA hr bA .nil pass0 (pa_cons pe_int (pa_cons (pv 4) pa_nil))) pa_nil))))
          pss_nil)))))
    (pss_cons (ps_fld (pv 0) (pv 3) rfl) (pss_one (ps_ret (pv 2)))))), ?_⟩)
  · obtain ⟨s, m, rfl, _⟩ := h
    rfl
  · obtain ⟨s, m, rfl, hS, hlen, q⟩ := h
    obtain ⟨ds, hs⟩ := hS.o
    refine ⟨Nat.zero_le _, fun l hl => ?_⟩
    refine ⟨Nat.zero_le _, fun k hk => ?_⟩
    have nkl : k ≠ l := fun z => by rw [z, upd_same] at hk; cases hk
    have hk0 : H k = none := by rw [upd_ne nkl] at hk; exact hk
    have s0 : Same H (upd (upd H l (.lst [])) k (.lst [])) := Same.trans (Same.upd hl) (Same.upd hk)
    refine ⟨_, rfl, s.at_, CS, ds, _, _, rfl, s0 _ _ hs, T.cS, T.Sk, sF_kept s, s.kl, rfl, ⟨_, SqL.of (s0 _ _ hS.k)⟩, for_list (K := K) (a := s.kl) (xs := refsOf s.kept)
      (fun i σ H' => ∃ v : Option V, σ = [some (.ref s.at_), some (.int m), some (.ref l), some (.ref k), v] ∧ Same H H' ∧ ChL H' l (dropCh s m (s.kept.take i)) ∧ H' k = some (.lst (refsOf ((s.kept.take i).filter fun p => wantedB s p.2 m))))
      ⟨none, rfl, s0, ChL.nil ((upd_ne (Ne.symm nkl)).trans upd_same), upd_same⟩ (fun i σ H' _ ⟨_, _, s1, _⟩ => SqL.of (s1 _ _ hS.k)) ?_ ?_⟩
    · rintro i y σ H' hi ⟨v, rfl, s1, c1, k1⟩
      obtain ⟨p, hp, rfl⟩ := refsOf_at hi
      obtain ⟨da, ha⟩ := hS.r p (mem_at hp)
      rw [take_more hp, dropCh_snoc, List.filter_append]
      have il : i < s.kept.length := (List.getElem?_eq_some_iff.mp hp).1
      refine ⟨_, rfl, _, rfl, _, rfl, s, p.1, p.2, m, rfl, ⟨ds, s1 _ _ hs⟩, ⟨da, s1 _ _ ha⟩, wantedB s p.2 m, rfl, ?_⟩
      cases e : wantedB s p.2 m with
      | true =>
        refine iteT ?_
        refine ⟨_, rfl, .inl ⟨rfl, _, SqL.of k1⟩, _, rfl, k, _, _, rfl, rfl, k1, ?_, ?_⟩
        · rw [refsOf_len]
          refine small_of (Nat.le_trans (List.length_filter_le _ _) ?_)
          rw [List.length_take]
          omega
        · refine ⟨some (.ref p.1), rfl, fun b o q => ?_, ?_, ?_⟩
          · rw [upd_ne (ne_of_none q hk0)]
            exact s1 b o q
          · simp only [Bool.not_true, Bool.false_and, Bool.false_eq_true, if_false, List.append_nil]
            exact c1.upd nkl fun xs z => by rw [k1] at z; cases z
          · rw [upd_same, List.filter_cons, if_pos e, refsOf, refsOf, List.map_append]
            rfl
      | false =>
        refine iteF ?_
        refine ⟨_, rfl, s.at_, CS, ds, _, _, rfl, s1 _ _ hs, T.cS, T.Se, sF_fin s, s.fin, rfl, ?_⟩
        refine and_test (d := !p.2.met) (fun Q' h' => ⟨_, rfl, p.1, CR, da, _, _, rfl, s1 _ _ ha, T.cR, T.Rm, rF_met p.2, p.2.met, rfl, h'⟩) ?_
        have fin2 : ((s.kept.take i).filter fun p => wantedB s p.2 m) ++ [p].filter (fun p => wantedB s p.2 m) = (s.kept.take i).filter fun p => wantedB s p.2 m := by
          rw [List.filter_cons, if_neg (by rw [e]; exact Bool.false_ne_true)]
          exact List.append_nil _
        rw [fin2]
        cases e2 : (s.fin && !p.2.met) with
        | true =>
          refine iteT ?_
          refine ⟨_, rfl, .inl ⟨rfl, _, SqL.of c1.choose_spec.2.1⟩, _, rfl, s.at_, ds, _, rfl, s1 _ _ hs, sF_alone s, _, rfl, s, true, p.1, p.2, rfl, ⟨ds, s1 _ _ hs⟩, ⟨da, s1 _ _ ha⟩, fun t ht => ?_⟩
          obtain ⟨xs, e3, e4, e5⟩ := ChL.push (c1.same (Same.upd ht)) upd_same
          have cl := dropCh_len s m (s.kept.take i)
          rw [List.length_take] at cl
          refine ⟨l, xs, _, rfl, rfl, e3, small_of (by omega), some (.ref p.1), rfl, fun b o q => ?_, ?_, ?_⟩
          · rw [upd_ne (ne_of_none q hl), upd_ne (ne_of_none (s1 b o q) ht)]
            exact s1 b o q
          · exact e5
          · rw [upd_ne nkl, upd_ne (ne_of_none k1 ht)]
            exact k1
        | false =>
          refine iteF ?_
          refine ⟨some (.ref p.1), rfl, s1, ?_, k1⟩
          simpa using c1
    · rintro σ H' ⟨v, rfl, s1, c1, k1⟩
      rw [refsOf_len, List.take_length] at c1 k1
      refine ⟨_, rfl, _, rfl, s.at_, CS, ds, _, rfl, s1 _ _ hs, T.cS, T.Sk, (by show 8 < 1000; decide), ?_⟩
      have hs1 := s1 _ _ hs
      refine ⟨_, rfl, q _ k l hk0 hl nkl (c1.upd (ne_of hs1 c1.choose_spec.2.1 (by intro z; cases z)) (fun xs z => by rw [hs1] at z; cases z)) ⟨⟨ds, ?_⟩, ?_, fun p hp => ?_⟩ fun b o e hb => ?_⟩
      · rw [upd_same, sF_put_kept]
        rfl
      · rw [upd_ne (Ne.symm (ne_of hs1 k1 (by intro z; cases z)))]
        exact k1
      · obtain ⟨da, ha⟩ := hS.r p (List.mem_filter.mp hp).1
        refine ⟨da, ?_⟩
        rw [upd_ne (fun z => ?_)]
        · exact s1 _ _ ha
        · rw [z, hs] at ha
          exact side_row (Option.some.inj ha)
      · rw [upd_ne hb]
        exact s1 b o e
end
end JS
end
section
set_option linter.all false
set_option maxRecDepth 100000
set_option maxHeartbeats 4000000
namespace JS
open PySem PySem.Spec PyProof.Rows L2 LamX
/-- an if without an else, what follows once for both ways -/
theorem ifS_join {t : TS} {D : Ends} {σ : L2.St} {H : Hp} {c : Bool} (Good : Hp → Prop) (hA : c = true → ∀ D' : Ends, (∀ H2, Good H2 → D'.nx σ H2) → t D' σ H) (hB : c = false → Good H) (hN : ∀ H2, Good H2 → D.nx σ H2) :
    if c = true then t D σ H else tNext D σ H := by
  cases e : c with
  | true => rw [if_pos rfl]; exact hA e D hN
  | false => rw [if_neg Bool.false_ne_true]; exact hN H (hB e)
def touchP (s : Sd) (r : R6) (o : Sd) (p : PR) : PR := if meetsB s r o p.2 = true then (p.1, { p.2 with met := true }) else p
theorem touchP_fst (s : Sd) (r : R6) (o : Sd) (p : PR) : (touchP s r o p).1 = p.1 := by
  unfold touchP
  split <;> rfl
def meetOne (s : Sd) (r : R6) (o : Sd) (p : PR) : List Chg := if meetsB s r o p.2 = true then (if (o.once && !p.2.met) = true then [aloneC o false p.2] else []) ++ [pairC s r p.2] else []
theorem meetOne_len (s : Sd) (r : R6) (o : Sd) (p : PR) : (meetOne s r o p).length ≤ 2 := by
  unfold meetOne
  split
  · split
    · exact Nat.le_refl _
    · exact Nat.le_succ _
  · exact Nat.zero_le _
theorem meet_len (s : Sd) (r : R6) (o : Sd) : ∀ l : List PR, (l.flatMap (meetOne s r o)).length ≤ 2 * l.length
  | [] => Nat.le_refl _
  | p :: l => by
    have h1 := meetOne_len s r o p
    have h2 := meet_len s r o l
    rw [List.flatMap_cons, List.length_append, List.length_cons]
    omega
def metAny (s : Sd) (r : R6) (o : Sd) (l : List PR) : Bool := l.any fun p => meetsB s r o p.2
def meetCh (s : Sd) (r : R6) (o : Sd) : List Chg := o.kept.flatMap (meetOne s r o) ++ (if ((s.once || (s.fin && !wantedB s r o.mark)) && !metAny s r o o.kept) = true then [aloneC s true r] else [])
def meetRow (s : Sd) (r : R6) (o : Sd) : R6 := { r with met := metAny s r o o.kept }
def meetS (s : Sd) (a : Addr) (r : R6) (o : Sd) : Sd := { s with kept := if wantedB s r o.mark = true then s.kept ++ [(a, meetRow s r o)] else s.kept }
def meetO (s : Sd) (r : R6) (o : Sd) : Sd := { o with kept := o.kept.map (touchP s r o) }
theorem nodup_at {l : List PR} (nd : (l.map Prod.fst).Nodup) {i : Nat} {p : PR} (h : l[i]? = some p) : (∀ q ∈ l.take i, q.1 ≠ p.1) ∧ l.drop i = p :: l.drop (i + 1) ∧ ∀ q ∈ l.drop (i + 1), q.1 ≠ p.1 := by
  obtain ⟨h1, h2⟩ := List.getElem?_eq_some_iff.mp h
  have hd : l.drop i = p :: l.drop (i + 1) := by rw [List.drop_eq_getElem_cons h1, h2]
  have e : l = l.take i ++ p :: l.drop (i + 1) := by rw [← hd, List.take_append_drop]
  rw [e, List.map_append, List.map_cons, List.nodup_append, List.nodup_cons] at nd
  obtain ⟨n1, ⟨n2, n3⟩, n4⟩ := nd
  refine ⟨fun q hq z => ?_, hd, fun q hq z => ?_⟩
  · exact n4 q.1 (List.mem_map_of_mem hq) p.1 (by simp) z
  · exact n2 (by rw [← z]; exact List.mem_map_of_mem hq)
section
variable {P : Program} {w : World} {K : PySem.W.Frag} {mg : Str → Option Value} {base : Heap} {CR CS CJ : Addr}
structure MeetPre (CR CS : Addr) (H : Hp) (s o : Sd) (a : Addr) (r : R6) : Prop where
  hs : SideAt CR CS H s
  ho : SideAt CR CS H o
  hr : RowAt CR H a r
  met : r.met = false
  so : s.at_ ≠ o.at_
  kk : s.kl ≠ o.kl
  nd : ((s.kept ++ o.kept).map Prod.fst).Nodup
  na : ∀ p ∈ s.kept ++ o.kept, p.1 ≠ a
  ls : s.kept.length ≤ 1000
  lo : o.kept.length ≤ 1000
def spMeet (CR CS : Addr) : Sp := fun vs H Q _ => ∃ (s o : Sd) (a : Addr) (r : R6), vs = [.ref s.at_, .ref o.at_, .ref a] ∧ MeetPre CR CS H s o a r ∧
  ∀ (H' : Hp) (l : Addr), H l = none → ChL H' l (meetCh s r o) → SideAt CR CS H' (meetS s a r o) → SideAt CR CS H' (meetO s r o) → (∀ b c, H b = some c → b ≠ s.kl → b ≠ a → (∀ p ∈ o.kept, b ≠ p.1) → H' b = some c) → Q (.ref l) H'
theorem scMeet : FnScope ["side", "other", "row", "changes", "partner", "wanted", "due"] ["side", "other", "row"] (defScope zMeet) := ⟨rfl, rfl, rfl, by decide +kernel, rfl, by decide +kernel, by decide +kernel⟩
theorem ok_meet {f fA fP fW fR : Addr} {fd fdA fdP fdW fdR : FuncData} (F : Fun K "meet_kept_rows" "meet_kept_rows" zMeet f fd) (T : Txt K mg CR CS CJ)
    (FA : Fun K "alone" "Side.alone" zAlone fA fdA) (bA : Binds K fdA ["self", "told", "row"] []) (mA : Meth K CS "alone" fA)
    (FP : Fun K "pair" "Side.pair" zPair fP fdP) (bP : Binds K fdP ["self", "row", "partner"] []) (mP : Meth K CS "pair" fP)
    (FW : Fun K "is_wanted" "is_wanted" zWanted fW fdW) (bW : Binds K fdW ["side", "row", "other_mark"] []) (gW : mg "is_wanted" = some (.ref fW))
    (FR : Fun K "rows_meet" "rows_meet" zRows fR fdR) (bR : Binds K fdR ["side", "row", "other", "partner"] []) (gR : mg "rows_meet" = some (.ref fR)) :
    FnOk P w K mg base CX0 2 f fd ["side", "other", "row"] (spMeet CR CS) := by
  have GA : FnOk P w K mg base CX0 1 fA fdA ["self", "told", "row"] (spAlone CR CS) := ok_alone FA T
  have GP : FnOk P w K mg base CX0 1 fP fdP ["self", "row", "partner"] (spPair CR CS) := ok_pair FP T
  have GW : FnOk P w K mg base CX0 1 fW fdW ["side", "row", "other_mark"] (spWanted CR CS) := ok_wanted FW T
  have GR : FnOk P w K mg base CX0 1 fR fdR ["side", "row", "other", "partner"] (spRows CR CS) := ok_rows FR T
  refine F.ok scMeet (fun vs H Q E h => ?_) (fun cdv A outer s H vs Q E hr h => ⟨_, pss_cons (ps_set (i := 3) scMeet.nd rfl (Or.inl rfl) (pe_lst pa_nil))
    (pss_cons (ps_for PassesOwn.never rfl (pi_list (pe_fld (pv 1) rfl)) (pg_name (i := 4) scMeet.nd rfl (Or.inl rfl))
      (pss_one (ps_if (pt_val (pe_call GR hr rfl gR FR.kp bR .nil pass0 (pa_cons (pv 0) (pa_cons (pv 2) (pa_cons (pv 1) (pa_cons (pv 4) pa_nil))))))
        (pss_cons (ps_if (PW.pt (pw_and (pt_val (pe_fld (pv 1) rfl)) (pw_and1 (pt_not (pt_val (pe_fld (pv 4) rfl))))))
            (pss_one (ps_expr (pe_bm PySem.F.plainAttrs_list PySem.F.slot_list_append PySem.F.type_list_append mt_append (pv 3) (pa_cons (pe_meth (pv 1) T.cS mA GA hr bA .nil pass0 (pa_cons pe_int (pa_cons (pv 4) pa_nil))) pa_nil))))
            pss_nil)
          (pss_cons (ps_expr (pe_bm PySem.F.plainAttrs_list PySem.F.slot_list_append PySem.F.type_list_append mt_append (pv 3) (pa_cons (pe_meth (pv 0) T.cS mP GP hr bP .nil pass0 (pa_cons (pv 2) (pa_cons (pv 4) pa_nil))) pa_nil)))
          (pss_cons (ps_fld (pv 4) pe_bl rfl) (pss_one (ps_fld (pv 2) pe_bl rfl)))))
        pss_nil)))
    (pss_cons (ps_set (i := 5) scMeet.nd rfl (Or.inl rfl) (pe_call GW hr rfl gW FW.kp bW .nil pass0 (pa_cons (pv 0) (pa_cons (pv 2) (pa_cons (pe_fld (pv 1) rfl) pa_nil)))))
    (pss_cons (ps_if (pt_val (pv 5)) (pss_one (ps_expr (pe_bm PySem.F.plainAttrs_list PySem.F.slot_list_append PySem.F.type_list_append mt_append (pe_fld (pv 0) rfl) (pa_cons (pv 2) pa_nil)))) pss_nil)
    (pss_cons (ps_set (i := 6) scMeet.nd rfl (Or.inl rfl) (pe_or (pe_fld (pv 0) rfl) (pe_one (pe_and (pe_fld (pv 0) rfl) (pe_one (pe_not (pv 5)))))))
    (pss_cons (ps_if (PW.pt (pw_and (pt_val (pv 6)) (pw_and1 (pt_not (pt_val (pe_fld (pv 2) rfl))))))
        (pss_one (ps_expr (pe_bm PySem.F.plainAttrs_list PySem.F.slot_list_append PySem.F.type_list_append mt_append (pv 3) (pa_cons (pe_meth (pv 0) T.cS mA GA hr bA .nil pass0 (pa_cons pe_int (pa_cons (pv 2) pa_nil))) pa_nil))))
        pss_nil)
    (pss_one (ps_ret (pv 3)))))))), ?_⟩)
  · obtain ⟨s, o, a, r, rfl, _⟩ := h
    rfl
  · obtain ⟨s, o, a, r, rfl, M, q⟩ := h
    obtain ⟨ds, hs⟩ := M.hs.o
    obtain ⟨dp, ho⟩ := M.ho.o
    obtain ⟨da, ha⟩ := M.hr
    have ndO : (o.kept.map Prod.fst).Nodup := by
      have := M.nd
      rw [List.map_append, List.nodup_append] at this
      exact this.2.1
    have naO : ∀ p ∈ o.kept, p.1 ≠ a := fun p hp => M.na p (List.mem_append_right _ hp)
    refine ⟨Nat.zero_le _, fun l hl => ?_⟩
    have s0 : Same H (upd H l (.lst [])) := Same.upd hl
    -- what stands through the loop: all but the partners and the row
    refine ⟨_, rfl, o.at_, CS, dp, _, _, rfl, s0 _ _ ho, T.cS, T.Sk, sF_kept o, o.kl, rfl, ⟨_, SqL.of (s0 _ _ M.ho.k)⟩, for_list (K := K) (a := o.kl) (xs := refsOf o.kept)
      (fun i σ H' => ∃ v : Option V, σ = [some (.ref s.at_), some (.ref o.at_), some (.ref a), some (.ref l), v, none, none] ∧ (∀ b c, H b = some c → b ≠ a → (∀ p ∈ o.kept, b ≠ p.1) → H' b = some c) ∧
        ChL H' l ((o.kept.take i).flatMap (meetOne s r o)) ∧ RowAt CR H' a { r with met := metAny s r o (o.kept.take i) } ∧ RowsAt CR H' ((o.kept.take i).map (touchP s r o) ++ o.kept.drop i))
      ⟨none, rfl, fun b c e _ _ => s0 _ _ e, ChL.nil upd_same, ⟨da, ?_⟩, fun p hp => ?_⟩ (fun i σ H' _ ⟨_, _, s1, _⟩ => SqL.of (s1 _ _ M.ho.k (ne_of M.ho.k ha (by intro z; cases z)) (fun p hp => ?_))) ?_ ?_⟩
    · have e : ({ r with met := metAny s r o (o.kept.take 0) } : R6) = r := by
        show ({ r with met := false } : R6) = r
        rw [← M.met]
      rw [e]
      exact s0 _ _ ha
    · exact (M.ho.r p hp).same (s0 _)
    · obtain ⟨dq, hq⟩ := M.ho.r p hp
      exact ne_of M.ho.k hq (by intro z; cases z)
    · rintro i y σ H' hi ⟨v, rfl, s1, c1, ⟨da1, ha1⟩, k1⟩
      obtain ⟨p, hp, rfl⟩ := refsOf_at hi
      obtain ⟨nT, hdr, nD⟩ := nodup_at ndO hp
      have pm := mem_at hp
      obtain ⟨dq, hq⟩ := k1 p (List.mem_append_right _ (by rw [hdr]; exact .head _))
      have il : i < o.kept.length := (List.getElem?_eq_some_iff.mp hp).1
      have hs1 : H' s.at_ = some (.ins CS ds (sF s)) := s1 _ _ hs (fun z => by rw [z, ha] at hs; exact side_row (Option.some.inj hs).symm) fun x hx z => by
        obtain ⟨dx, e⟩ := M.ho.r x hx
        rw [z, e] at hs
        exact side_row (Option.some.inj hs).symm
      have ho1 : H' o.at_ = some (.ins CS dp (sF o)) := s1 _ _ ho (fun z => by rw [z, ha] at ho; exact side_row (Option.some.inj ho).symm) fun x hx z => by
        obtain ⟨dx, e⟩ := M.ho.r x hx
        rw [z, e] at ho
        exact side_row (Option.some.inj ho).symm
      have lc := c1.choose_spec.2.1
      have any1 : metAny s r o (o.kept.take (i + 1)) = (metAny s r o (o.kept.take i) || meetsB s r o p.2) := by
        unfold metAny
        rw [take_more hp, List.any_append]
        simp
      have fm1 : (o.kept.take (i + 1)).flatMap (meetOne s r o) = (o.kept.take i).flatMap (meetOne s r o) ++ meetOne s r o p := by
        rw [take_more hp, List.flatMap_append]
        simp
      have tk1 : (o.kept.take (i + 1)).map (touchP s r o) ++ o.kept.drop (i + 1) = (o.kept.take i).map (touchP s r o) ++ touchP s r o p :: o.kept.drop (i + 1) := by
        rw [take_more hp, List.map_append]
        simp
      rw [any1, fm1, tk1]
      have lens : ((o.kept.take i).flatMap (meetOne s r o)).length ≤ 2 * i := Nat.le_trans (meet_len s r o _) (by rw [List.length_take]; omega)
      refine ⟨_, rfl, _, rfl, _, rfl, _, rfl, s, o, a, p.1, { r with met := metAny s r o (o.kept.take i) }, p.2, rfl, ⟨ds, hs1⟩, ⟨dp, ho1⟩, ⟨da1, ha1⟩, ⟨dq, hq⟩, meetsB s r o p.2, rfl, ?_⟩
      cases e : meetsB s r o p.2 with
      | true =>
        have m1 : meetOne s r o p = (if (o.once && !p.2.met) = true then [aloneC o false p.2] else []) ++ [pairC s r p.2] := by
          unfold meetOne
          rw [if_pos e]
        have t1 : touchP s r o p = (p.1, { p.2 with met := true }) := by
          unfold touchP
          rw [if_pos e]
        rw [m1, t1]
        refine iteT ?_
        refine ⟨_, rfl, o.at_, CS, dp, _, _, rfl, ho1, T.cS, T.So, sF_once o, o.once, rfl, ?_⟩
        refine and_test (d := !p.2.met) (fun Q' h' => ⟨_, rfl, p.1, CR, dq, _, _, rfl, hq, T.cR, T.Rm, rF_met p.2, p.2.met, rfl, h'⟩) ?_
        refine ifS_join (fun H2 => (∀ b c, H' b = some c → b ≠ l → H2 b = some c) ∧ ChL H2 l ((o.kept.take i).flatMap (meetOne s r o) ++ (if (o.once && !p.2.met) = true then [aloneC o false p.2] else []))) (fun e2 D' hN => ?_) (fun e2 => ?_) fun H2 ⟨s2, c2⟩ => ?_
        · refine ⟨_, rfl, .inl ⟨rfl, _, SqL.of lc⟩, _, rfl, o.at_, dp, _, rfl, ho1, sF_alone o, _, rfl, o, false, p.1, p.2, rfl, ⟨dp, ho1⟩, ⟨dq, hq⟩, fun t ht => ?_⟩
          obtain ⟨xs, e3, e4, e5⟩ := ChL.push (c1.same (Same.upd ht)) upd_same
          have lo := M.lo
          refine ⟨l, xs, _, rfl, rfl, e3, small_of (by omega), hN _ ⟨fun b c e6 hb => ?_, ?_⟩⟩
          · rw [upd_ne hb, upd_ne (ne_of_none e6 ht)]
            exact e6
          · rw [if_pos e2]
            exact e5
        · refine ⟨fun b c e6 _ => e6, ?_⟩
          rw [if_neg (by rw [e2]; exact Bool.false_ne_true), List.append_nil]
          exact c1
        · have hs2 := s2 _ _ hs1 (ne_of hs1 lc (by intro z; cases z))
          have hq2 := s2 _ _ hq (ne_of hq lc (by intro z; cases z))
          have ha2 := s2 _ _ ha1 (ne_of ha1 lc (by intro z; cases z))
          refine ⟨_, rfl, .inl ⟨rfl, _, SqL.of c2.choose_spec.2.1⟩, _, rfl, s.at_, ds, _, rfl, hs2, sF_pair s, _, rfl, _, rfl, s, a, p.1, { r with met := metAny s r o (o.kept.take i) }, p.2, rfl, ⟨ds, hs2⟩, ⟨da1, ha2⟩, ⟨dq, hq2⟩, fun t ht => ?_⟩
          obtain ⟨xs, e3, e4, e5⟩ := ChL.push (c := pairC s { r with met := metAny s r o (o.kept.take i) } p.2) (c2.same (Same.upd ht)) upd_same
          have lo := M.lo
          refine ⟨l, xs, _, rfl, rfl, e3, ?_, ?_⟩
          · refine small_of ?_
            rw [e4, List.length_append]
            split
            · show _ + 1 ≤ _
              omega
            · show _ + 0 ≤ _
              omega
          · have st : ∀ b c, H' b = some c → b ≠ l → upd (upd H2 t (.tup (chV (pairC s { r with met := metAny s r o (o.kept.take i) } p.2)))) l (.lst (xs ++ [.ref t])) b = some c := fun b c e6 hb => by
              rw [upd_ne hb, upd_ne (ne_of_none (s2 b c e6 hb) ht)]
              exact s2 b c e6 hb
            have hq3 := st _ _ hq (ne_of hq lc (by intro z; cases z))
            have ha3 := st _ _ ha1 (ne_of ha1 lc (by intro z; cases z))
            generalize upd (upd H2 t (.tup (chV (pairC s { r with met := metAny s r o (o.kept.take i) } p.2)))) l (.lst (xs ++ [.ref t])) = H3 at st hq3 ha3 e5 ⊢
            have npa := naO p pm
            refine ⟨_, rfl, p.1, CR, dq, _, rfl, hq3, T.cR, T.Rm, (by show 4 < 1000; decide), ?_⟩
            refine ⟨_, rfl, a, CR, da1, _, rfl, (upd_ne (Ne.symm npa)).trans ha3, T.cR, T.Rm, (by show 4 < 1000; decide), ?_⟩
            rw [rF_put, rF_put]
            refine ⟨some (.ref p.1), rfl, fun b c e6 hb hb2 => ?_, ?_, ⟨da1, ?_⟩, ?_⟩
            · rw [upd_ne hb, upd_ne (hb2 p pm)]
              exact st b c (s1 b c e6 hb hb2) (ne_of_none e6 hl)
            · rw [← List.append_assoc]
              refine ChL.upd (ChL.upd e5 (ne_of hq3 e5.choose_spec.2.1 (by intro z; cases z)) (fun xs z => by rw [hq3] at z; cases z)) ?_ ?_
              · exact ne_of ha3 e5.choose_spec.2.1 (by intro z; cases z)
              · intro xs z
                rw [upd_ne (Ne.symm npa), ha3] at z
                cases z
            · rw [upd_same, Bool.or_true]
            · have el : ∀ x ∈ o.kept.take i ++ o.kept.drop (i + 1), x.1 ≠ p.1 ∧ x.1 ≠ a := fun x hx => by
                rcases List.mem_append.mp hx with z | z
                · exact ⟨nT x z, naO x (List.mem_of_mem_take z)⟩
                · exact ⟨nD x z, naO x (List.mem_of_mem_drop z)⟩
              have el2 : ∀ x : PR, x ∈ (o.kept.take i).map (touchP s r o) ++ o.kept.drop i → x.1 ≠ p.1 → x.1 ≠ a → RowAt CR (upd (upd H3 p.1 (.ins CR dq (rF { p.2 with met := true }))) a (.ins CR da1 (rF { r with met := true }))) x.1 x.2 := fun x hx h1 h2 => by
                obtain ⟨dx, hx2⟩ := k1 x hx
                refine ⟨dx, ?_⟩
                rw [upd_ne h2, upd_ne h1]
                exact st _ _ hx2 (ne_of hx2 lc (by intro z; cases z))
              intro x hx
              rcases List.mem_append.mp hx with z | z
              · obtain ⟨x0, z0, z1⟩ := List.mem_map.mp z
                have f0 := touchP_fst s r o x0
                obtain ⟨g1, g2⟩ := el x0 (List.mem_append_left _ z0)
                rw [z1] at f0
                exact el2 x (List.mem_append_left _ z) (by rw [f0]; exact g1) (by rw [f0]; exact g2)
              · rcases List.mem_cons.mp z with z | z
                · subst z
                  refine ⟨dq, ?_⟩
                  rw [upd_ne npa, upd_same]
                · obtain ⟨g1, g2⟩ := el x (List.mem_append_right _ z)
                  exact el2 x (List.mem_append_right _ (by rw [hdr]; exact .tail _ z)) g1 g2
      | false =>
        have m1 : meetOne s r o p = [] := by
          unfold meetOne
          rw [if_neg (by rw [e]; exact Bool.false_ne_true)]
        have t1 : touchP s r o p = p := by
          unfold touchP
          rw [if_neg (by rw [e]; exact Bool.false_ne_true)]
        rw [m1, t1, List.append_nil, Bool.or_false, ← hdr]
        refine iteF ?_
        exact ⟨some (.ref p.1), rfl, s1, c1, ⟨da1, ha1⟩, k1⟩
    · rintro σ H' ⟨v, rfl, s1, c1, ⟨da1, ha1⟩, k1⟩
      rw [refsOf_len, List.take_length] at c1 ha1 k1
      rw [List.drop_length, List.append_nil] at k1
      have nkS : ∀ x : PR, x ∈ o.kept → s.kl ≠ x.1 := fun x hx => by
        obtain ⟨dx, e⟩ := M.ho.r x hx
        exact ne_of M.hs.k e (by intro z; cases z)
      have hs1 : H' s.at_ = some (.ins CS ds (sF s)) := s1 _ _ hs (fun z => by rw [z, ha] at hs; exact side_row (Option.some.inj hs).symm) fun x hx z => by
        obtain ⟨dx, e⟩ := M.ho.r x hx
        rw [z, e] at hs
        exact side_row (Option.some.inj hs).symm
      have ho1 : H' o.at_ = some (.ins CS dp (sF o)) := s1 _ _ ho (fun z => by rw [z, ha] at ho; exact side_row (Option.some.inj ho).symm) fun x hx z => by
        obtain ⟨dx, e⟩ := M.ho.r x hx
        rw [z, e] at ho
        exact side_row (Option.some.inj ho).symm
      have kS : H' s.kl = some (.lst (refsOf s.kept)) := s1 _ _ M.hs.k (ne_of M.hs.k ha (by intro z; cases z)) nkS
      have kO : H' o.kl = some (.lst (refsOf o.kept)) := s1 _ _ M.ho.k (ne_of M.ho.k ha (by intro z; cases z)) fun x hx => by
        obtain ⟨dx, e⟩ := M.ho.r x hx
        exact ne_of M.ho.k e (by intro z; cases z)
      have lc := c1.choose_spec.2.1
      have nls : l ≠ s.kl := fun z => by rw [z, M.hs.k] at hl; cases hl
      have nlo : l ≠ o.kl := fun z => by rw [z, M.ho.k] at hl; cases hl
      refine ⟨_, rfl, _, rfl, _, rfl, o.at_, CS, dp, _, _, rfl, ho1, T.cS, T.Sm, sF_mark o, s, a, { r with met := metAny s r o o.kept }, o.mark, rfl, ⟨ds, hs1⟩, ⟨da1, ha1⟩, ?_⟩
      refine ⟨_, rfl, wantedB s r o.mark, rfl, ?_⟩
      refine ifS_join (fun H2 => (∀ b c, H' b = some c → b ≠ s.kl → H2 b = some c) ∧ H2 s.kl = some (.lst (refsOf (meetS s a r o).kept))) (fun e2 D' hN => ?_) (fun e2 => ?_) fun H2 ⟨s2, k2⟩ => ?_
      · refine ⟨_, rfl, s.at_, CS, ds, _, _, rfl, hs1, T.cS, T.Sk, sF_kept s, .inl ⟨rfl, _, SqL.of kS⟩, _, rfl, s.kl, _, _, rfl, rfl, kS, ?_, hN _ ⟨fun b c e6 hb => ?_, ?_⟩⟩
        · rw [refsOf_len]
          have := M.ls
          exact small_of (by omega)
        · rw [upd_ne hb]
          exact e6
        · rw [upd_same]
          show _ = some (HO.lst (refsOf (if wantedB s r o.mark = true then _ else _)))
          rw [if_pos e2, refsOf_snoc]
      · refine ⟨fun b c e6 _ => e6, ?_⟩
        show _ = some (HO.lst (refsOf (if wantedB s r o.mark = true then _ else _)))
        rw [if_neg (by rw [e2]; exact Bool.false_ne_true)]
        exact kS
      · have hs2 := s2 _ _ hs1 (ne_of hs1 kS (by intro z; cases z))
        have ha2 := s2 _ _ ha1 (ne_of ha1 kS (by intro z; cases z))
        have c2 : ChL H2 l (o.kept.flatMap (meetOne s r o)) := by
          obtain ⟨ps, e1, e2, e3⟩ := c1
          exact ⟨ps, e1, s2 _ _ e2 nls, fun p hp => s2 _ _ (e3 p hp) (ne_of (e3 p hp) kS (by intro z; cases z))⟩
        refine ⟨_, rfl, s.at_, CS, ds, _, _, rfl, hs2, T.cS, T.So, sF_once s, s.once, rfl, ?_⟩
        refine or_cont (d := s.fin && !wantedB s r o.mark) (fun Q' h' => ⟨_, rfl, s.at_, CS, ds, _, _, rfl, hs2, T.cS, T.Se, sF_fin s, s.fin, rfl, and_cont (d := !wantedB s r o.mark) (fun Q2 h2 => ⟨_, rfl, wantedB s r o.mark, rfl, h2⟩) h'⟩) ?_
        refine ⟨_, rfl, (s.once || (s.fin && !wantedB s r o.mark)), rfl, ?_⟩
        refine and_test (d := !metAny s r o o.kept) (fun Q' h' => ⟨_, rfl, a, CR, da1, _, _, rfl, ha2, T.cR, T.Rm, rF_met _, metAny s r o o.kept, rfl, h'⟩) ?_
        refine ifS_join (fun H3 => (∀ b c, H2 b = some c → b ≠ l → H3 b = some c) ∧ ChL H3 l (meetCh s r o)) (fun e2 D' hN => ?_) (fun e2 => ?_) fun H3 ⟨s3, c3⟩ => ?_
        · refine ⟨_, rfl, .inl ⟨rfl, _, SqL.of c2.choose_spec.2.1⟩, _, rfl, s.at_, ds, _, rfl, hs2, sF_alone s, _, rfl, s, true, a, { r with met := metAny s r o o.kept }, rfl, ⟨ds, hs2⟩, ⟨da1, ha2⟩, fun t ht => ?_⟩
          obtain ⟨xs, e3, e4, e5⟩ := ChL.push (c := aloneC s true r) (c2.same (Same.upd ht)) upd_same
          have lens := meet_len s r o o.kept
          have lo := M.lo
          refine ⟨l, xs, _, rfl, rfl, e3, small_of (by omega), hN _ ⟨fun b c e6 hb => ?_, ?_⟩⟩
          · rw [upd_ne hb, upd_ne (ne_of_none e6 ht)]
            exact e6
          · unfold meetCh
            rw [if_pos e2]
            exact e5
        · refine ⟨fun b c e6 _ => e6, ?_⟩
          unfold meetCh
          rw [if_neg (by rw [e2]; exact Bool.false_ne_true), List.append_nil]
          exact c2
        · have up : ∀ b c, H' b = some c → b ≠ s.kl → b ≠ l → H3 b = some c := fun b c e6 h1 h2 => s3 b c (s2 b c e6 h1) h2
          have rowsUp : ∀ x : PR, RowAt CR H' x.1 x.2 → RowAt CR H3 x.1 x.2 := fun x ⟨dx, e⟩ => ⟨dx, up _ _ e (ne_of e kS (by intro z; cases z)) (ne_of e lc (by intro z; cases z))⟩
          refine ⟨_, rfl, q H3 l hl c3 ⟨⟨ds, s3 _ _ hs2 (ne_of hs1 lc (by intro z; cases z))⟩, s3 _ _ k2 (Ne.symm nls), ?_⟩ ⟨⟨dp, up _ _ ho1 (ne_of ho1 kS (by intro z; cases z)) (ne_of ho1 lc (by intro z; cases z))⟩, ?_, fun x hx => rowsUp x (k1 x hx)⟩ fun b c e6 h1 h2 h3 => ?_⟩
          · have old : RowsAt CR H3 s.kept := fun x hx => by
              obtain ⟨dx, e⟩ := M.hs.r x hx
              refine rowsUp x ⟨dx, s1 _ _ e (M.na x (List.mem_append_left _ hx)) fun y hy z => ?_⟩
              have nd := M.nd
              rw [List.map_append, List.nodup_append] at nd
              exact nd.2.2 x.1 (List.mem_map_of_mem hx) y.1 (List.mem_map_of_mem hy) z
            show RowsAt CR H3 (if wantedB s r o.mark = true then _ else _)
            split
            · intro x hx
              rcases List.mem_append.mp hx with z | z
              · exact old x z
              · rw [List.mem_singleton] at z
                subst z
                exact rowsUp (a, _) ⟨da1, ha1⟩
            · exact old
          · show H3 o.kl = some (.lst (refsOf (o.kept.map (touchP s r o))))
            have e : refsOf (o.kept.map (touchP s r o)) = refsOf o.kept := by
              unfold refsOf
              rw [List.map_map]
              exact List.map_congr_left fun p _ => congrArg V.ref (touchP_fst s r o p)
            rw [e]
            exact up _ _ kO (Ne.symm M.kk) (Ne.symm nlo)
          · exact up b c (s1 b c e6 h2 h3) h1 (ne_of_none e6 hl)
end
end JS
end
section
set_option linter.all false
set_option maxRecDepth 100000
set_option maxHeartbeats 4000000
namespace JS
open PySem PySem.Spec PyProof.Rows L2 LamX
def holdStepP (key t : Nat) (n : Option PR) (v : PR) : Option PR :=
  if v.2.key = key ∧ v.2.t ≤ t then (match n with
    | none => some v
    | some y => if y.2.t ≤ v.2.t then some v else some y) else n
def holdP (l : List PR) (key t : Nat) : Option PR := l.foldl (holdStepP key t) none
def optV : Option PR → V
  | none => .non
  | some p => .ref p.1
theorem holdStepP_mem {key t : Nat} {n : Option PR} {v y : PR} (h : holdStepP key t n v = some y) : n = some y ∨ v = y := by
  unfold holdStepP at h
  split at h
  · cases n with
    | none => exact .inr (Option.some.inj h)
    | some z =>
      have h : (if z.2.t ≤ v.2.t then some v else some z) = some y := h
      split at h
      · exact .inr (Option.some.inj h)
      · exact .inl h
  · exact .inl h
theorem holdP_from : ∀ (l : List PR) (key t : Nat) (n : Option PR) (y : PR), l.foldl (holdStepP key t) n = some y → n = some y ∨ y ∈ l
  | [], _, _, _, _, h => .inl h
  | v :: r, key, t, n, y, h => by
    rcases holdP_from r key t _ y h with z | z
    · rcases holdStepP_mem z with z | z
      · exact .inl z
      · exact .inr (by rw [z]; exact .head _)
    · exact .inr (.tail _ z)
theorem holdP_mem {l : List PR} {key t : Nat} {y : PR} (h : holdP l key t = some y) : y ∈ l := by
  rcases holdP_from l key t none y h with z | z
  · cases z
  · exact z
theorem holdP_snoc (l : List PR) (v : PR) (key t : Nat) : holdP (l ++ [v]) key t = holdStepP key t (holdP l key t) v := by
  unfold holdP
  rw [List.foldl_append]
  rfl
section
variable {P : Program} {w : World} {K : PySem.W.Frag} {mg : Str → Option Value} {base : Heap} {CR CS CJ : Addr}
def spHold (CR : Addr) : Sp := fun vs H Q _ => ∃ (l : Addr) (vl : List PR) (key t : Nat), vs = [.ref l, .int key, .int t] ∧ H l = some (.lst (refsOf vl)) ∧ RowsAt CR H vl ∧ Q (optV (holdP vl key t)) H
theorem scHold : FnScope ["versions", "key", "time", "newest", "version"] ["versions", "key", "time"] (defScope zHold) := ⟨rfl, rfl, rfl, by decide +kernel, rfl, by decide +kernel, by decide +kernel⟩
theorem ok_hold {f : Addr} {fd : FuncData} (F : Fun K "holding_version" "holding_version" zHold f fd) (T : Txt K mg CR CS CJ) : FnOk P w K mg base CX0 1 f fd ["versions", "key", "time"] (spHold CR) := by
  refine F.ok scHold (fun vs H Q E h => ?_) (fun cdv A outer s H vs Q E hr h => ⟨_, pss_cons (ps_set (i := 3) scHold.nd rfl (Or.inl rfl) pe_non)
    (pss_cons (ps_for PassesOwn.never rfl (pi_list (pv 0)) (pg_name (i := 4) scHold.nd rfl (Or.inl rfl))
      (pss_one (ps_if (PW.pt (pw_and (pt_cmpR op_eq (pe_fld (pv 4) rfl) (pv 1) (nomark _)) (pw_and1 (pt_cmpR op_le (pe_fld (pv 4) rfl) (pv 2) (nomark _)))))
        (pss_one (ps_if (PW.pt (pw_or (pt_cmpR op_isN (pv 3) pe_non (nomark _)) (pw_or1 (pt_cmpR op_ge (pe_fld (pv 4) rfl) (pe_fld (pv 3) rfl) (nomark _)))))
          (pss_one (ps_set (i := 3) scHold.nd rfl (Or.inl rfl) (pv 4))) pss_nil))
        pss_nil)))
    (pss_one (ps_ret (pv 3)))), ?_⟩)
  · obtain ⟨l, vl, key, t, rfl, _⟩ := h
    rfl
  · obtain ⟨l, vl, key, t, rfl, hl, hv, q⟩ := h
    refine ⟨_, rfl, l, rfl, ⟨_, SqL.of hl⟩, for_list (K := K) (a := l) (xs := refsOf vl)
      (fun i σ H' => H' = H ∧ ∃ v : Option V, σ = [some (.ref l), some (.int key), some (.int t), some (optV (holdP (vl.take i) key t)), v])
      ⟨rfl, none, rfl⟩ (fun i σ H' _ ⟨e, _⟩ => by rw [e]; exact SqL.of hl) ?_ ?_⟩
    · rintro i y σ H' hi ⟨rfl, v, rfl⟩
      obtain ⟨p, hp, rfl⟩ := refsOf_at hi
      obtain ⟨da, ha⟩ := hv p (mem_at hp)
      rw [take_more hp, holdP_snoc]
      generalize hn : holdP (vl.take i) key t = n
      have nm : ∀ y, n = some y → RowAt CR H' y.1 y.2 := fun y e => hv y (List.mem_of_mem_take (holdP_mem (hn.trans e)))
      refine ⟨_, rfl, p.1, CR, da, _, _, rfl, ha, T.cR, T.Rk, rF_key p.2, _, rfl, rfl, _, rfl, ?_⟩
      refine and_test (d := decide (p.2.t ≤ t)) (fun Q' h' => ⟨_, rfl, p.1, CR, da, _, _, rfl, ha, T.cR, T.Rt, rF_time p.2, _, rfl, _, _, rfl, rfl, _, rfl, ?_⟩) ?_
      · rw [natLe]
        exact h'
      · by_cases c : p.2.key = key ∧ p.2.t ≤ t
        · obtain ⟨ck, ct⟩ := c
          refine iteT_of (by rw [ck, decide_eq_true ct]; simp) ?_
          cases n with
          | none =>
            have e : holdStepP key t none p = some p := by
              unfold holdStepP
              rw [if_pos ⟨ck, ct⟩]
            rw [e]
            refine ⟨_, rfl, rfl, _, rfl, iteT_of (by rfl) (iteT_of rfl ⟨_, rfl, rfl, some (.ref p.1), rfl⟩)⟩
          | some y =>
            obtain ⟨dy, hy⟩ := nm y rfl
            refine ⟨_, rfl, rfl, _, rfl, iteF_of (by rfl) ?_⟩
            refine ⟨_, rfl, p.1, CR, da, _, _, rfl, ha, T.cR, T.Rt, rF_time p.2, _, rfl, y.1, CR, dy, _, _, rfl, hy, T.cR, T.Rt, rF_time y.2, _, _, rfl, rfl, _, rfl, ?_⟩
            rw [natLe]
            by_cases c : y.2.t ≤ p.2.t
            · have e : holdStepP key t (some y) p = some p := by
                unfold holdStepP
                rw [if_pos ⟨ck, ct⟩]
                exact if_pos c
              rw [e, decide_eq_true c]
              exact iteT ⟨_, rfl, rfl, some (.ref p.1), rfl⟩
            · have e : holdStepP key t (some y) p = some y := by
                unfold holdStepP
                rw [if_pos ⟨ck, ct⟩]
                exact if_neg c
              rw [e, decide_eq_false c]
              exact iteF ⟨rfl, some (.ref p.1), rfl⟩
        · refine iteF_of ?_ ⟨rfl, some (.ref p.1), ?_⟩
          · rw [Bool.and_eq_false_iff]
            by_cases ck : p.2.key = key
            · exact .inr (decide_eq_false fun ct => c ⟨ck, ct⟩)
            · exact .inl (decide_eq_false fun z => ck (by injection z with z; omega))
          · unfold holdStepP
            rw [if_neg c]
            rfl
    · rintro σ H' ⟨rfl, v, rfl⟩
      rw [refsOf_len, List.take_length]
      exact ⟨_, rfl, q⟩
end
end JS
end
section
set_option linter.all false
set_option maxRecDepth 100000
set_option maxHeartbeats 4000000
namespace JS
open PySem PySem.Spec PyProof.Rows L2 LamX
/-- the join, its two sides, their lists and rows -/
structure JAt (CR CS CJ : Addr) (H : Hp) (j : Jn) : Prop where
  ho : JoinO CJ H j
  hl : SideAt CR CS H j.l
  hr : SideAt CR CS H j.r
  isl : j.l.isL = true
  isr : j.r.isL = false
  kk : j.l.kl ≠ j.r.kl
  nd : ((j.l.kept ++ j.r.kept).map Prod.fst).Nodup
theorem JAt.same {CR CS CJ : Addr} {H H' : Hp} {j : Jn} (h : JAt CR CS CJ H j) (k : Same H H') : JAt CR CS CJ H' j :=
  ⟨let ⟨dx, e⟩ := h.ho; ⟨dx, k _ _ e⟩, h.hl.same k, h.hr.same k, h.isl, h.isr, h.kk, h.nd⟩
theorem JAt.so {CR CS CJ : Addr} {H : Hp} {j : Jn} (h : JAt CR CS CJ H j) : j.l.at_ ≠ j.r.at_ := fun z => by
  obtain ⟨d1, e1⟩ := h.hl.o
  obtain ⟨d2, e2⟩ := h.hr.o
  rw [z, e2] at e1
  have e := Option.some.inj e1
  injection e with _ _ e
  injection e with e _
  injection e with _ e
  injection e with e
  rw [h.isl, h.isr] at e
  cases e
def momentC (j : Jn) (r : R6) : Chg := match holdP j.r.kept r.key r.t with
  | none => aloneC j.l true r
  | some y => pairC j.l r y.2
theorem ChL.one {H : Hp} {l t : Addr} {c : Chg} (ht : H t = some (.tup (chV c))) (hl : H l = none) : ChL (L2.upd H l (.lst [.ref t])) l [c] := by
  refine ⟨[(t, c)], rfl, upd_same, fun p hp => ?_⟩
  rw [List.mem_singleton] at hp
  subst hp
  rw [upd_ne (ne_of_none ht hl)]
  exact ht
section
variable {P : Program} {w : World} {K : PySem.W.Frag} {mg : Str → Option Value} {base : Heap} {CR CS CJ : Addr}
/-- what the text has of the small defs (filled by the end) -/
structure Dfs (K : PySem.W.Frag) (mg : Str → Option Value) (CS : Addr) (fA fP fW fR fH : Addr) (fdA fdP fdW fdR fdH : FuncData) : Prop where
  FA : Fun K "alone" "Side.alone" zAlone fA fdA
  bA : Binds K fdA ["self", "told", "row"] []
  mA : Meth K CS "alone" fA
  FP : Fun K "pair" "Side.pair" zPair fP fdP
  bP : Binds K fdP ["self", "row", "partner"] []
  mP : Meth K CS "pair" fP
  FW : Fun K "is_wanted" "is_wanted" zWanted fW fdW
  bW : Binds K fdW ["side", "row", "other_mark"] []
  gW : mg "is_wanted" = some (.ref fW)
  FR : Fun K "rows_meet" "rows_meet" zRows fR fdR
  bR : Binds K fdR ["side", "row", "other", "partner"] []
  gR : mg "rows_meet" = some (.ref fR)
  FH : Fun K "holding_version" "holding_version" zHold fH fdH
  bH : Binds K fdH ["versions", "key", "time"] []
  gH : mg "holding_version" = some (.ref fH)
variable {fA fP fW fR fH : Addr} {fdA fdP fdW fdR fdH : FuncData}
/-! ### moment_change -/
structure MPre (CR CS CJ : Addr) (H : Hp) (j : Jn) : Prop where
  ho : JoinO CJ H j
  hl : SideO CS H j.l
  hr : SideAt CR CS H j.r
theorem JAt.mpre {H : Hp} {j : Jn} (h : JAt CR CS CJ H j) : MPre CR CS CJ H j := ⟨h.ho, h.hl.o, h.hr⟩
def spMoment (CR CS CJ : Addr) : Sp := fun vs H Q _ => ∃ (j : Jn) (a : Addr) (r : R6), vs = [.ref j.at_, .ref a] ∧ MPre CR CS CJ H j ∧ RowAt CR H a r ∧ ∀ t, H t = none → Q (.ref t) (upd H t (.tup (chV (momentC j r))))
theorem scMoment : FnScope ["join", "row", "version"] ["join", "row"] (defScope zMoment) := ⟨rfl, rfl, rfl, by decide +kernel, rfl, by decide +kernel, by decide +kernel⟩
theorem ok_moment {f : Addr} {fd : FuncData} (F : Fun K "moment_change" "moment_change" zMoment f fd) (T : Txt K mg CR CS CJ) (D : Dfs K mg CS fA fP fW fR fH fdA fdP fdW fdR fdH) : FnOk P w K mg base CX0 2 f fd ["join", "row"] (spMoment CR CS CJ) := by
  have GA : FnOk P w K mg base CX0 1 fA fdA ["self", "told", "row"] (spAlone CR CS) := ok_alone D.FA T
  have GP : FnOk P w K mg base CX0 1 fP fdP ["self", "row", "partner"] (spPair CR CS) := ok_pair D.FP T
  have GH : FnOk P w K mg base CX0 1 fH fdH ["versions", "key", "time"] (spHold CR) := ok_hold D.FH T
  refine F.ok scMoment (fun vs H Q E h => ?_) (fun cdv A outer s H vs Q E hr h => ⟨_, pss_cons (ps_set (i := 2) scMoment.nd rfl (Or.inl rfl) (pe_call GH hr rfl D.gH D.FH.kp D.bH .nil pass0 (pa_cons (pe_fld (pe_fld (pv 0) rfl) rfl) (pa_cons (pe_fld (pv 1) rfl) (pa_cons (pe_fld (pv 1) rfl) pa_nil)))))
    (pss_cons (ps_if (pt_cmpR op_isN (pv 2) pe_non (nomark _)) (pss_one (ps_ret (pe_meth (pe_fld (pv 0) rfl) T.cS D.mA GA hr D.bA .nil pass0 (pa_cons pe_int (pa_cons (pv 1) pa_nil))))) pss_nil)
    (pss_one (ps_ret (pe_meth (pe_fld (pv 0) rfl) T.cS D.mP GP hr D.bP .nil pass0 (pa_cons (pv 1) (pa_cons (pv 2) pa_nil)))))), ?_⟩)
  · obtain ⟨j, a, r, rfl, _⟩ := h
    rfl
  · obtain ⟨j, a, r, rfl, ⟨⟨dj, hj⟩, ⟨dl, hl⟩, hS⟩, ⟨da, ha⟩, q⟩ := h
    obtain ⟨ds, hs⟩ := hS.o
    refine ⟨_, rfl, j.at_, CJ, dj, _, _, rfl, hj, T.cJ, T.Jr, jF_right j, j.r.at_, CS, ds, _, _, rfl, hs, T.cS, T.Sk, sF_kept j.r, _, rfl, a, CR, da, _, _, rfl, ha, T.cR, T.Rk, rF_key r, _, rfl, a, CR, da, _, _, rfl, ha, T.cR, T.Rt, rF_time r,
      j.r.kl, j.r.kept, r.key, r.t, rfl, hS.k, hS.r, ?_⟩
    unfold momentC at q
    cases e : holdP j.r.kept r.key r.t with
    | none =>
      rw [e] at q
      refine ⟨_, rfl, rfl, _, rfl, iteT_of rfl ?_⟩
      exact ⟨_, rfl, j.at_, CJ, dj, _, _, rfl, hj, T.cJ, T.Jl, jF_left j, j.l.at_, dl, _, rfl, hl, sF_alone j.l, _, rfl, j.l, true, a, r, rfl, ⟨dl, hl⟩, ⟨da, ha⟩, q⟩
    | some y =>
      rw [e] at q
      obtain ⟨dy, hy⟩ := hS.r y (holdP_mem e)
      refine ⟨_, rfl, rfl, _, rfl, iteF_of rfl ?_⟩
      exact ⟨_, rfl, j.at_, CJ, dj, _, _, rfl, hj, T.cJ, T.Jl, jF_left j, j.l.at_, dl, _, rfl, hl, sF_pair j.l, _, rfl, _, rfl, j.l, a, y.1, r, y.2, rfl, ⟨dl, hl⟩, ⟨da, ha⟩, ⟨dy, hy⟩, q⟩
/-! ### ask_or_wait -/
def spAsk (CR CS CJ : Addr) : Sp := fun vs H Q _ => ∃ (j : Jn) (a : Addr) (r : R6), vs = [.ref j.at_, .ref a] ∧ JAt CR CS CJ H j ∧ RowAt CR H a r ∧ j.l.kept.length ≤ 1000 ∧
  (r.t < j.r.mark → ∀ (H' : Hp) (l : Addr), H l = none → ChL H' l [momentC j r] → Same H H' → Q (.ref l) H') ∧
  (¬ r.t < j.r.mark → ∀ (H' : Hp) (l : Addr), H l = none → ChL H' l [] → H' j.l.kl = some (.lst (refsOf (j.l.kept ++ [(a, r)]))) → (∀ b c, H b = some c → b ≠ j.l.kl → H' b = some c) → Q (.ref l) H')
theorem scAsk : FnScope ["join", "row"] ["join", "row"] (defScope zAsk) := ⟨rfl, rfl, rfl, by decide +kernel, rfl, by decide +kernel, by decide +kernel⟩
theorem ok_ask {f fM : Addr} {fd fdM : FuncData} (F : Fun K "ask_or_wait" "ask_or_wait" zAsk f fd) (T : Txt K mg CR CS CJ) (D : Dfs K mg CS fA fP fW fR fH fdA fdP fdW fdR fdH)
    (FM : Fun K "moment_change" "moment_change" zMoment fM fdM) (bM : Binds K fdM ["join", "row"] []) (gM : mg "moment_change" = some (.ref fM)) : FnOk P w K mg base CX0 3 f fd ["join", "row"] (spAsk CR CS CJ) := by
  have GM : FnOk P w K mg base CX0 2 fM fdM ["join", "row"] (spMoment CR CS CJ) := ok_moment FM T D
  refine F.ok scAsk (fun vs H Q E h => ?_) (fun cdv A outer s H vs Q E hr h => ⟨_, pss_cons (ps_if (pt_cmpR op_gt (pe_fld (pe_fld (pv 0) rfl) rfl) (pe_fld (pv 1) rfl) (nomark _)) (pss_one (ps_ret (pe_lst (pa_cons (pe_call GM hr rfl gM FM.kp bM .nil pass0 (pa_cons (pv 0) (pa_cons (pv 1) pa_nil))) pa_nil)))) pss_nil)
    (pss_cons (ps_expr (pe_bm PySem.F.plainAttrs_list PySem.F.slot_list_append PySem.F.type_list_append mt_append (pe_fld (pe_fld (pv 0) rfl) rfl) (pa_cons (pv 1) pa_nil)))
    (pss_one (ps_ret (pe_lst pa_nil)))), ?_⟩)
  · obtain ⟨j, a, r, rfl, _⟩ := h
    rfl
  · obtain ⟨j, a, r, rfl, J, ⟨da, ha⟩, len, q1, q2⟩ := h
    obtain ⟨dj, hj⟩ := J.ho
    obtain ⟨dl, hl⟩ := J.hl.o
    obtain ⟨ds, hs⟩ := J.hr.o
    refine ⟨_, rfl, j.at_, CJ, dj, _, _, rfl, hj, T.cJ, T.Jr, jF_right j, j.r.at_, CS, ds, _, _, rfl, hs, T.cS, T.Sm, sF_mark j.r, _, rfl, a, CR, da, _, _, rfl, ha, T.cR, T.Rt, rF_time r, _, _, rfl, rfl, _, rfl, ?_⟩
    rw [natLt]
    by_cases c : r.t < j.r.mark
    · refine iteT_of (decide_eq_true c) ?_
      refine ⟨_, rfl, _, rfl, j, a, r, rfl, J.mpre, ⟨da, ha⟩, fun t ht => ⟨by show 1 ≤ sizeLine; rw [sizeLine_eq]; decide, fun l hl => ?_⟩⟩
      have ntl : l ≠ t := fun z => by rw [z, upd_same] at hl; cases hl
      have hl0 : H l = none := by rw [upd_ne ntl] at hl; exact hl
      exact q1 c _ l hl0 (ChL.one upd_same hl) (Same.trans (Same.upd ht) (Same.upd hl))
    · refine iteF_of (decide_eq_false c) ?_
      refine ⟨_, rfl, j.at_, CJ, dj, _, _, rfl, hj, T.cJ, T.Jl, jF_left j, j.l.at_, CS, dl, _, _, rfl, hl, T.cS, T.Sk, sF_kept j.l, .inl ⟨rfl, _, SqL.of J.hl.k⟩, _, rfl, j.l.kl, _, _, rfl, rfl, J.hl.k, ?_, Nat.zero_le _, fun l hl => ?_⟩
      · rw [refsOf_len]
        exact small_of (by omega)
      · have nlk : l ≠ j.l.kl := fun z => by rw [z, upd_same] at hl; cases hl
        have hl0 : H l = none := by rw [upd_ne nlk] at hl; exact hl
        refine q2 c _ l hl0 (ChL.nil upd_same) ?_ fun b c e hb => ?_
        · rw [upd_ne (Ne.symm nlk), upd_same, refsOf_snoc]
        · rw [upd_ne (ne_of_none e hl0), upd_ne hb]
          exact e
end
end JS
end
section
set_option linter.all false
set_option maxRecDepth 100000
set_option maxHeartbeats 4000000
namespace JS
open PySem PySem.Spec PyProof.Rows L2 LamX
def isItP (o : Option PR) (n : Nat) : Bool := match o with
  | some y => y.2.id == n
  | none => false
def byLeft (vl : List PR) (x : PR) (n : Nat) : Bool := isItP (holdP vl x.2.key x.2.t) n
def byRight (vl : List PR) (m : Nat) (v : PR) (n : Nat) : Bool := decide (max v.2.t m ≤ 1000000) && isItP (holdP vl v.2.key (max v.2.t m)) n
def notedP (j : Jn) (n : Nat) : Bool := (j.l.kept.any fun x => byLeft j.r.kept x n) || j.r.kept.any fun v => byRight j.r.kept j.l.mark v n
def keptV (j : Jn) : List PR := j.r.kept.filter fun p => notedP j p.2.id
theorem putK_len (kvs : List (Key × V)) (k : Key) (v : V) : (putK kvs k v).length ≤ kvs.length + 1 := by
  unfold putK
  split
  · rw [List.length_map]
    exact Nat.le_succ _
  · simp
theorem isSome_put (kvs : List (Key × V)) (m n : Nat) (v : V) : (valV (putK kvs (Sum.inl (m : Int)) v) (Sum.inl (n : Int))).isSome = ((valV kvs (Sum.inl (n : Int))).isSome || m == n) := by
  rw [valV_put]
  by_cases h : n = m
  · subst h
    rw [if_pos rfl]
    simp
  · rw [if_neg (fun z => h (by injection z with z; omega))]
    have : (m == n) = false := by simp; omega
    rw [this, Bool.or_false]
theorem holdStep_some {key t : Nat} {v : PR} (n : Option PR) (hk : v.2.key = key) (ht : v.2.t ≤ t) : ∃ y, holdStepP key t n v = some y := by
  unfold holdStepP
  rw [if_pos ⟨hk, ht⟩]
  cases n with
  | none => exact ⟨_, rfl⟩
  | some y =>
    show ∃ z, (if y.2.t ≤ v.2.t then some v else some y) = some z
    split
    · exact ⟨_, rfl⟩
    · exact ⟨_, rfl⟩
theorem holdStep_keep {key t : Nat} {v y : PR} : ∃ z, holdStepP key t (some y) v = some z := by
  unfold holdStepP
  split
  · show ∃ z, (if y.2.t ≤ v.2.t then some v else some y) = some z
    split
    · exact ⟨_, rfl⟩
    · exact ⟨_, rfl⟩
  · exact ⟨_, rfl⟩
theorem hold_keep {key t : Nat} : ∀ (l : List PR) (y : PR), ∃ z, l.foldl (holdStepP key t) (some y) = some z
  | [], y => ⟨y, rfl⟩
  | v :: r, y => by
    obtain ⟨z, e⟩ := holdStep_keep (key := key) (t := t) (v := v) (y := y)
    rw [List.foldl_cons, e]
    exact hold_keep r z
theorem hold_some {l : List PR} {key t : Nat} {v : PR} (hv : v ∈ l) (hk : v.2.key = key) (ht : v.2.t ≤ t) : ∃ y, holdP l key t = some y := by
  obtain ⟨a, b, rfl⟩ := List.append_of_mem hv
  unfold holdP
  rw [List.foldl_append, List.foldl_cons]
  obtain ⟨z, e⟩ := holdStep_some (List.foldl (holdStepP key t) none a) hk ht
  rw [e]
  exact hold_keep b z
section
variable {P : Program} {w : World} {K : PySem.W.Frag} {mg : Str → Option Value} {base : Heap} {CR CS CJ : Addr}
variable {fA fP fW fR fH : Addr} {fdA fdP fdW fdR fdH : FuncData}
def spDropV (CR CS CJ : Addr) : Sp := fun vs H Q _ => ∃ (j : Jn), vs = [.ref j.at_] ∧ JAt CR CS CJ H j ∧ j.l.kept.length ≤ 1000 ∧ j.r.kept.length ≤ 1000 ∧
  ∀ (H' : Hp) (k : Addr), H k = none → SideAt CR CS H' { j.r with kl := k, kept := keptV j } → (∀ b c, H b = some c → b ≠ j.r.at_ → H' b = some c) → Q .non H'
theorem scDropV : FnScope ["join", "versions", "needed", "row", "version", "first", "newest"] ["join"] (defScope zDropV) := ⟨rfl, rfl, rfl, by decide +kernel, rfl, by decide +kernel, by decide +kernel⟩
theorem ok_dropV {f : Addr} {fd : FuncData} (F : Fun K "drop_versions" "drop_versions" zDropV f fd) (T : Txt K mg CR CS CJ) (D : Dfs K mg CS fA fP fW fR fH fdA fdP fdW fdR fdH) : FnOk P w K mg base CX0 2 f fd ["join"] (spDropV CR CS CJ) := by
  have GH : FnOk P w K mg base CX0 1 fH fdH ["versions", "key", "time"] (spHold CR) := ok_hold D.FH T
  obtain ⟨tL, gL⟩ := T.gLast
  refine F.ok scDropV (fun vs H Q E h => ?_) (fun cdv A outer s H vs Q E hr h => ⟨_, pss_cons (ps_set (i := 1) scDropV.nd rfl (Or.inl rfl) (pe_fld (pe_fld (pv 0) rfl) rfl))
    (pss_cons (ps_set (i := 2) scDropV.nd rfl (Or.inr rfl) pe_dnewK)
    (pss_cons (ps_for PassesOwn.never rfl (pi_list (pe_fld (pe_fld (pv 0) rfl) rfl)) (pg_name (i := 3) scDropV.nd rfl (Or.inl rfl))
      (pss_cons (ps_set (i := 4) scDropV.nd rfl (Or.inl rfl) (pe_call GH hr rfl D.gH D.FH.kp D.bH .nil pass0 (pa_cons (pv 1) (pa_cons (pe_fld (pv 3) rfl) (pa_cons (pe_fld (pv 3) rfl) pa_nil)))))
        (pss_one (ps_if (pt_cmpR op_notN (pv 4) pe_non (nomark _)) (pss_one (ps_dput (hu_of hr) (pv 2) (pe_fld (pv 4) rfl) pe_bl rfl)) pss_nil))))
    (pss_cons (ps_for PassesOwn.never rfl (pi_list (pv 1)) (pg_name (i := 4) scDropV.nd rfl (Or.inl rfl))
      (pss_cons (ps_set (i := 5) scDropV.nd rfl (Or.inl rfl) (pe_callB (call_max2 rfl) (by rfl) T.bMax (by decide +kernel) (pa_cons (pe_fld (pv 4) rfl) (pa_cons (pe_fld (pe_fld (pv 0) rfl) rfl) pa_nil))))
        (pss_one (ps_if (pt_cmpR op_le (pv 5) (pe_glob (v := .int 1000000) rfl gL ⟨_, rfl⟩) (nomark _))
          (pss_cons (ps_set (i := 6) scDropV.nd rfl (Or.inl rfl) (pe_call GH hr rfl D.gH D.FH.kp D.bH .nil pass0 (pa_cons (pv 1) (pa_cons (pe_fld (pv 4) rfl) (pa_cons (pv 5) pa_nil)))))
            (pss_one (ps_dput (hu_of hr) (pv 2) (pe_fld (pv 6) rfl) pe_bl rfl)))
          pss_nil))))
    (pss_one (ps_fld (pe_fld (pv 0) rfl) (pe_lc (own := [("version", 4)]) (g := gName 4) (tt := tB (tDIn (tFld K (tVar 4) "number") (tVar 2))) (te := tVar 4) rfl scDropV.nd (pi_list (pv 1)) (blkOk_by (own := [("version", 4)]) (N := ["join", "versions", "needed", "row", "version", "first", "newest"]) (sc := defScope zDropV) (by decide +kernel))
      (fun _ _ _ _ _ => pg_name (i := 4) scDropV.nd rfl (Or.inl rfl)) (fun _ _ _ _ _ => by
        refine pts_one (pt_cmp (pc_din (hu_of hr) ?_ ?_) rfl)
        · exact pe_fld (pv 4) rfl
        · exact pv 2) (fun _ _ _ _ _ => by exact (pv 4))) rfl))))), ?_⟩)
  · obtain ⟨j, rfl, _⟩ := h
    rfl
  · obtain ⟨j, rfl, J, ll, lr, q⟩ := h
    obtain ⟨dj, hj⟩ := J.ho
    obtain ⟨dl, hl⟩ := J.hl.o
    obtain ⟨ds, hs⟩ := J.hr.o
    refine ⟨_, rfl, j.at_, CJ, dj, _, _, rfl, hj, T.cJ, T.Jr, jF_right j, j.r.at_, CS, ds, _, _, rfl, hs, T.cS, T.Sk, sF_kept j.r, ?_⟩
    intro d hd
    have s0 : Same H (upd H d (.dK [])) := Same.upd hd
    refine ⟨_, rfl, j.at_, CJ, dj, _, _, rfl, s0 _ _ hj, T.cJ, T.Jl, jF_left j, j.l.at_, CS, dl, _, _, rfl, s0 _ _ hl, T.cS, T.Sk, sF_kept j.l, j.l.kl, rfl, ⟨_, SqL.of (s0 _ _ J.hl.k)⟩, for_list (K := K) (a := j.l.kl) (xs := refsOf j.l.kept)
      (fun i σ H' => ∃ (v3 v4 : Option V) (kvs : List (Key × V)), σ = [some (.ref j.at_), some (.ref j.r.kl), some (.ref d), v3, v4, none, none] ∧ Same H H' ∧ H' d = some (.dK kvs) ∧ kvs.length ≤ i ∧ ∀ n : Nat, (valV kvs (Sum.inl (n : Int))).isSome = (j.l.kept.take i).any fun x => byLeft j.r.kept x n)
      ⟨none, none, [], rfl, s0, upd_same, Nat.le_refl _, fun n => rfl⟩ (fun i σ H' _ ⟨_, _, _, _, s1, _⟩ => SqL.of (s1 _ _ J.hl.k)) ?_ ?_⟩
    · rintro i y σ H' hi ⟨v3, v4, kvs, rfl, s1, hd1, len1, is1⟩
      obtain ⟨x, hx, rfl⟩ := refsOf_at hi
      have il : i < j.l.kept.length := (List.getElem?_eq_some_iff.mp hx).1
      obtain ⟨dx, ex⟩ := (J.hl.r.same s1) x (mem_at hx)
      refine ⟨_, rfl, _, rfl, x.1, CR, dx, _, _, rfl, ex, T.cR, T.Rk, rF_key x.2, _, rfl, x.1, CR, dx, _, _, rfl, ex, T.cR, T.Rt, rF_time x.2, j.r.kl, j.r.kept, x.2.key, x.2.t, rfl, s1 _ _ J.hr.k, J.hr.r.same s1, ?_⟩
      cases e : holdP j.r.kept x.2.key x.2.t with
      | none =>
        refine ⟨_, rfl, rfl, _, rfl, iteF_of rfl ⟨_, _, kvs, rfl, s1, hd1, Nat.le_succ_of_le len1, fun n => ?_⟩⟩
        rw [is1 n, take_more hx, List.any_append]
        unfold byLeft
        simp [e, isItP]
      | some z =>
        obtain ⟨dz, ez⟩ := (J.hr.r.same s1) z (holdP_mem e)
        refine ⟨_, rfl, rfl, _, rfl, iteT_of rfl ?_⟩
        refine ⟨_, rfl, _, rfl, z.1, CR, dz, _, _, rfl, ez, T.cR, T.Rn, rF_number z.2, d, _, rfl, DPut.k (k := Sum.inl (z.2.id : Int)) hd1 (small_of (by omega)), _, _, _, rfl, fun b o q => ?_, upd_same, ?_, fun n => ?_⟩
        · rw [upd_ne (ne_of_none q hd)]
          exact s1 b o q
        · have := putK_len kvs (Sum.inl (z.2.id : Int)) (.bl true)
          omega
        · rw [isSome_put, is1 n, take_more hx, List.any_append]
          unfold byLeft
          simp [e, isItP]
    · rintro σ H1 ⟨v3, v4, kvs1, rfl, s1, hd1, len1, is1⟩
      rw [refsOf_len] at len1 is1
      rw [List.take_length] at is1
      refine ⟨_, rfl, j.r.kl, rfl, ⟨_, SqL.of (s1 _ _ J.hr.k)⟩, for_list (K := K) (a := j.r.kl) (xs := refsOf j.r.kept)
        (fun i σ H' => ∃ (v3 v4 v5 v6 : Option V) (kvs : List (Key × V)), σ = [some (.ref j.at_), some (.ref j.r.kl), some (.ref d), v3, v4, v5, v6] ∧ Same H H' ∧ H' d = some (.dK kvs) ∧ kvs.length ≤ j.l.kept.length + i ∧
          ∀ n : Nat, (valV kvs (Sum.inl (n : Int))).isSome = ((j.l.kept.any fun x => byLeft j.r.kept x n) || (j.r.kept.take i).any fun v => byRight j.r.kept j.l.mark v n))
        ⟨_, _, _, _, kvs1, rfl, s1, hd1, len1, fun n => by rw [is1 n]; simp⟩ (fun i σ H' _ ⟨_, _, _, _, _, _, s2, _⟩ => SqL.of (s2 _ _ J.hr.k)) ?_ ?_⟩
      · rintro i y σ H' hi ⟨u3, u4, u5, u6, kvs, rfl, s2, hd2, len2, is2⟩
        obtain ⟨x, hx, rfl⟩ := refsOf_at hi
        have il : i < j.r.kept.length := (List.getElem?_eq_some_iff.mp hx).1
        obtain ⟨dx, ex⟩ := (J.hr.r.same s2) x (mem_at hx)
        refine ⟨_, rfl, x.1, CR, dx, _, _, rfl, ex, T.cR, T.Rt, rF_time x.2, _, rfl, j.at_, CJ, dj, _, _, rfl, s2 _ _ hj, T.cJ, T.Jl, jF_left j, j.l.at_, CS, dl, _, _, rfl, s2 _ _ hl, T.cS, T.Sm, sF_mark j.l, _, _, rfl, ?_⟩
        have emax : (if (j.l.mark : Int) > (x.2.t : Int) then (j.l.mark : Int) else (x.2.t : Int)) = ((max x.2.t j.l.mark : Nat) : Int) := by split <;> omega
        rw [emax]
        refine ⟨_, rfl, _, _, rfl, rfl, _, rfl, ?_⟩
        by_cases c : max x.2.t j.l.mark ≤ 1000000
        · refine iteT_of (decide_eq_true (by omega)) ?_
          refine ⟨_, rfl, _, rfl, x.1, CR, dx, _, _, rfl, ex, T.cR, T.Rk, rF_key x.2, _, rfl, j.r.kl, j.r.kept, x.2.key, max x.2.t j.l.mark, rfl, s2 _ _ J.hr.k, J.hr.r.same s2, ?_⟩
          obtain ⟨z, e⟩ := hold_some (t := max x.2.t j.l.mark) (mem_at hx) rfl (Nat.le_max_left _ _)
          obtain ⟨dz, ez⟩ := (J.hr.r.same s2) z (holdP_mem e)
          rw [e]
          refine ⟨_, rfl, _, rfl, z.1, CR, dz, _, _, rfl, ez, T.cR, T.Rn, rF_number z.2, d, _, rfl, DPut.k (k := Sum.inl (z.2.id : Int)) hd2 (small_of (by omega)), _, _, _, _, _, rfl, fun b o q => ?_, upd_same, ?_, fun n => ?_⟩
          · rw [upd_ne (ne_of_none q hd)]
            exact s2 b o q
          · have := putK_len kvs (Sum.inl (z.2.id : Int)) (.bl true)
            omega
          · rw [isSome_put, is2 n, take_more hx, List.any_append, ← Bool.or_assoc]
            congr 1
            unfold byRight
            simp [e, isItP, decide_eq_true c]
        · refine iteF_of (decide_eq_false (by omega)) ⟨_, _, _, _, kvs, rfl, s2, hd2, by omega, fun n => ?_⟩
          rw [is2 n, take_more hx, List.any_append, ← Bool.or_assoc]
          unfold byRight
          simp [decide_eq_false c]
      · rintro σ H2 ⟨u3, u4, u5, u6, kvs, rfl, s2, hd2, len2, is2⟩
        rw [refsOf_len, List.take_length] at is2
        refine ⟨_, rfl, j.r.kl, rfl, ⟨_, SqL.of (s2 _ _ J.hr.k)⟩, fun D' hD => lc_list (K := K) (a := j.r.kl) (xs := refsOf j.r.kept)
          (fun i H' => Same H2 H' ∧ H' D' = some (.lst (refsOf ((j.r.kept.take i).filter fun p => notedP j p.2.id))))
          ⟨Same.upd hD, upd_same⟩ (fun i H' _ ⟨s3, _⟩ => SqL.of (s3 _ _ (s2 _ _ J.hr.k))) ?_ ?_⟩
        · rintro i y H' hi ⟨s3, k3⟩
          obtain ⟨x, hx, rfl⟩ := refsOf_at hi
          have il : i < j.r.kept.length := (List.getElem?_eq_some_iff.mp hx).1
          obtain ⟨dx, ex⟩ := ((J.hr.r.same s2).same s3) x (mem_at hx)
          refine ⟨rfl, _, rfl, x.1, CR, dx, _, _, rfl, ex, T.cR, T.Rn, rF_number x.2, _, rfl, d, _, rfl, DGet.k (k := Sum.inl (x.2.id : Int)) (s3 _ _ hd2), _, rfl, ?_⟩
          have en : (valV kvs (Sum.inl (x.2.id : Int))).isSome = notedP j x.2.id := is2 x.2.id
          rw [en, take_more hx, List.filter_append, List.filter_cons]
          cases e : notedP j x.2.id with
          | true =>
            refine iteT ⟨_, rfl, _, k3, ?_, fun b o q => ?_, ?_⟩
            · rw [refsOf_len]
              refine small_of (Nat.le_trans (List.length_filter_le _ _) ?_)
              rw [List.length_take]
              omega
            · rw [upd_ne (ne_of_none q hD)]
              exact s3 b o q
            · rw [upd_same, if_pos rfl, refsOf, refsOf, List.map_append]
              rfl
          | false =>
            refine iteF ⟨s3, ?_⟩
            rw [if_neg Bool.false_ne_true]
            simpa using k3
        · rintro H' ⟨s3, k3⟩
          rw [refsOf_len, List.take_length] at k3
          have st : Same H H' := Same.trans s2 s3
          have hD0 : H D' = none := Same.free s2 hD
          have hs1 := st _ _ hs
          refine ⟨_, rfl, j.at_, CJ, dj, _, _, rfl, st _ _ hj, T.cJ, T.Jr, jF_right j, j.r.at_, CS, ds, _, rfl, hs1, T.cS, T.Sk, (by show 8 < 1000; decide), ?_⟩
          refine q _ D' hD0 ⟨⟨ds, ?_⟩, ?_, fun p hp => ?_⟩ fun b o e hb => ?_
          · rw [upd_same, sF_put_kept]
            rfl
          · rw [upd_ne (Ne.symm (ne_of hs1 k3 (by intro z; cases z)))]
            exact k3
          · obtain ⟨da, ha⟩ := J.hr.r p (List.mem_filter.mp hp).1
            refine ⟨da, ?_⟩
            rw [upd_ne (fun z => ?_)]
            · exact st _ _ ha
            · rw [z, hs] at ha
              exact side_row (Option.some.inj ha)
          · rw [upd_ne hb]
            exact st b o e
end
end JS
end
section
set_option linter.all false
set_option maxRecDepth 100000
set_option maxHeartbeats 4000000
namespace JS
open PySem PySem.Spec PyProof.Rows L2 LamX
/-- in order by time, by number -/
def leP (p q : PR) : Bool := decide (p.2.t < q.2.t ∨ (p.2.t = q.2.t ∧ p.2.id ≤ q.2.id))
def dueP (j : Jn) : List PR := (j.l.kept.filter fun p => decide (p.2.t < j.r.mark)).mergeSort leP
def tellCh (j : Jn) : List Chg := (dueP j).map fun p => momentC j p.2
def waitL (j : Jn) : List PR := j.l.kept.filter fun p => decide (j.r.mark ≤ p.2.t)
def lamQ : Str := ("tell_waiting" : Str) ++ ".<locals>." ++ "<lambda>"
abbrev tabT (Pt : Addr) : List (Addr × Str) := [(Pt, lamQ)]
/-- the two numbers of the row at an address -/
def keyOf (l : List PR) (a : Addr) : Int × Int := match l.find? fun p => p.1 == a with
  | some p => ((p.2.t : Int), (p.2.id : Int))
  | none => (0, 0)
theorem keyOf_mem {l : List PR} (nd : (l.map Prod.fst).Nodup) {p : PR} (hp : p ∈ l) : keyOf l p.1 = ((p.2.t : Int), (p.2.id : Int)) := by
  induction l with
  | nil => cases hp
  | cons x r ih =>
    rw [List.map_cons, List.nodup_cons] at nd
    unfold keyOf
    rw [List.find?_cons]
    rcases List.mem_cons.mp hp with z | z
    · subst z
      simp
    · have ne : (x.1 == p.1) = false := by
        simp only [beq_eq_false_iff_ne]
        intro z2
        exact nd.1 (by rw [z2]; exact List.mem_map_of_mem z)
      rw [ne]
      exact ih nd.2 z
/-- the tables stand where no table and no code object is written -/
theorem tabs_soft {T : List (Addr × Str)} {H H' : Hp} (t : Tabs T H) (k : ∀ b o, H b = some o → ((∃ ps, o = .tbl ps) ∨ ∃ φ, o = .ext φ) → H' b = some o) : Tabs T H' := fun p hp => by
  obtain ⟨ps, h1, h2, h3⟩ := t p hp
  refine ⟨ps, k _ _ h1 (.inl ⟨_, rfl⟩), h2, fun pos cv hc => ?_⟩
  obtain ⟨c, e1, e2⟩ := h3 pos cv hc
  exact ⟨c, e1, k _ _ e2 (.inr ⟨_, rfl⟩)⟩
theorem tabs_upd {T : List (Addr × Str)} {H : Hp} {a : Addr} {o : HO} (t : Tabs T H) (h : (∃ C dx fs, H a = some (.ins C dx fs)) ∨ (∃ xs, H a = some (.lst xs)) ∨ H a = none) : Tabs T (L2.upd H a o) := tabs_soft t fun b u e s => by
  rw [upd_ne (fun z => ?_)]
  · exact e
  · rw [z] at e
    rcases h with ⟨C, dx, fs, h⟩ | ⟨xs, h⟩ | h <;> rw [h] at e
    · cases e
      rcases s with ⟨_, s⟩ | ⟨_, s⟩ <;> cases s
    · cases e
      rcases s with ⟨_, s⟩ | ⟨_, s⟩ <;> cases s
    · cases e
theorem ChL.map {H : Hp} {l : Addr} {cs : List Chg} (h : ChL H l cs) {xs : List V} (e : H l = some (.lst xs)) : xs.length = cs.length := by
  obtain ⟨ps, e1, e2, _⟩ := h
  rw [e2] at e
  cases e
  rw [refsOf_len, ← e1, List.length_map]
section
variable {P : Program} {w : World} {K : PySem.W.Frag} {mg : Str → Option Value} {base : Heap} {CR CS CJ : Addr}
variable {fA fP fW fR fH : Addr} {fdA fdP fdW fdR fdH : FuncData}
/-- a def whose code object is told -/
theorem ok_code {x qual : Str} {st : Stmt} {f c : Addr} {oc kV doc pm ct : Value} {od an : Option Addr} {osl : Array (Option Value)} {N ps : List Str} {k : Nat} {sp : Sp}
    (lk : K.lookup f = some ⟨oc, od, .func (PySem.W.fnOf x qual (defArgs st) (defBody st) (defScope st) .none kV doc pm an (.ref c) ct), osl⟩) (hcd : PySem.W.codeIn K (.ref c) qual = true) (S : FnScope N ps (defScope st)) (len : ∀ vs H Q E, sp vs H Q E → vs.length = ps.length)
    (hbody : ∀ (A : Around) (outer : List Env) (s : Shared) (H : Hp) (vs : List V) (Q : VK) (E : XK), Room k (A.deeper (envOfC qual (defScope st) s.heap.objs.size f (.ref c))) → sp vs H Q E →
      ∃ t, PSs (cxOf CX0 P w K mg base N qual (defScope st) f (.ref c) A outer s H E).nox (defBody st) t ∧ t { nx := fun _ H' => Q .non H', rt := Q } (start N vs) H) :
    FnOk P w K mg base CX0 (k + 1) f (PySem.W.fnOf x qual (defArgs st) (defBody st) (defScope st) .none kV doc pm an (.ref c) ct) ps sp := by
  refine fn_of lk hcd S len fun A outer s H vs Q E hr hsp => ?_
  obtain ⟨t, h, q⟩ := hbody A outer s H vs Q E hr hsp
  exact ⟨t, h.nox, q⟩
def spTell (CR CS CJ Pt : Addr) : Sp := fun vs H Q _ => ∃ (j : Jn), vs = [.ref j.at_] ∧ JAt CR CS CJ H j ∧ Tabs (tabT Pt) H ∧ j.l.kept.length ≤ 1000 ∧
  ∀ (H' : Hp) (k l : Addr), H k = none → ChL H' l (tellCh j) → SideAt CR CS H' { j.l with kl := k, kept := waitL j } → Tabs (tabT Pt) H' → (∀ b c, H b = some c → b ≠ j.l.at_ → (∀ ps, c ≠ .tbl ps) → H' b = some c) → Q (.ref l) H'
abbrev nTell : List Str := ["join", "mark", "due", "row"]
theorem scTell : FnScope nTell ["join"] (defScope zTell) := ⟨rfl, rfl, rfl, by decide +kernel, rfl, by decide +kernel, by decide +kernel⟩
theorem ok_tell {f fM c Pt : Addr} {fdM : FuncData} {oc kV doc pm ct : Value} {od an : Option Addr} {osl : Array (Option Value)} (T : Txt K mg CR CS CJ) (D : Dfs K mg CS fA fP fW fR fH fdA fdP fdW fdR fdH)
    (lk : K.lookup f = some ⟨oc, od, .func (PySem.W.fnOf "tell_waiting" "tell_waiting" (defArgs zTell) (defBody zTell) (defScope zTell) .none kV doc pm an (.ref c) ct), osl⟩) (hcd : PySem.W.codeIn K (.ref c) "tell_waiting" = true) (TB : TabB base mg c Pt)
    (FM : Fun K "moment_change" "moment_change" zMoment fM fdM) (bM : Binds K fdM ["join", "row"] []) (gM : mg "moment_change" = some (.ref fM)) :
    FnOk P w K mg base CX0 3 f (PySem.W.fnOf "tell_waiting" "tell_waiting" (defArgs zTell) (defBody zTell) (defScope zTell) .none kV doc pm an (.ref c) ct) ["join"] (spTell CR CS CJ Pt) := by
  have GM : FnOk P w K mg base CX0 2 fM fdM ["join", "row"] (spMoment CR CS CJ) := ok_moment FM T D
  refine ok_code lk hcd scTell (fun vs H Q E h => ?_) (fun A outer s H vs Q E hr h => ⟨_, pss_cons (ps_set (i := 1) scTell.nd rfl (Or.inr rfl) (pe_fld (pe_fld (pv 0) rfl) rfl))
    (pss_cons (ps_setLc (i := 2) (own := [("row", 3)]) (g := gName 3) (tt := tTest (tOp (rI0 fun i j => .bl (decide (i < j))) (tFld K (tVar 3) "time") (tVar 1))) (te := tVar 3) rfl scTell.nd rfl rfl (sw_true rfl rfl rfl (by decide +kernel)) (pi_list (pe_fld (pe_fld (pv 0) rfl) rfl))
        (blkOk_by (own := [("row", 3)]) (N := nTell) (sc := defScope zTell) (by decide +kernel)) (fun _ _ _ _ _ => pg_name (i := 3) scTell.nd rfl (Or.inl rfl)) (fun _ _ _ _ _ => by exact (pts_one (pt_cmpR op_lt (pe_fld (pv 3) rfl) (pv 1) (nomark _)))) (fun _ _ _ _ _ => by exact (pv 3)))
    (pss_cons (ps_fld (pe_fld (pv 0) rfl) (pe_lc (own := [("row", 3)]) (g := gName 3) (tt := tTest (tOp (rI0 fun i j => .bl (decide (j ≤ i))) (tFld K (tVar 3) "time") (tVar 1))) (te := tVar 3) rfl scTell.nd (pi_list (pe_fld (pe_fld (pv 0) rfl) rfl))
        (blkOk_by (own := [("row", 3)]) (N := nTell) (sc := defScope zTell) (by decide +kernel)) (fun _ _ _ _ _ => pg_name (i := 3) scTell.nd rfl (Or.inl rfl)) (fun _ _ _ _ _ => by exact (pts_one (pt_cmpR op_ge (pe_fld (pv 3) rfl) (pv 1) (nomark _)))) (fun _ _ _ _ _ => by exact (pv 3))) rfl)
    (pss_cons (ps_set (i := 2) scTell.nd rfl (Or.inl rfl) (pe_sortLam (T := tabT Pt) T.bSorted TB rfl (by exact .head _) (fun p hp _ => by rw [List.mem_singleton] at hp; rw [hp]; rfl) hr T.cR T.Rt T.Rn (pa_cons (pv 2) pa_nil)))
    (pss_one (ps_ret (pe_lc (own := [("row", 3)]) (g := gName 3) (tt := tYes) (te := tCall (spMoment CR CS CJ) [] E0 (tCons (tVar 0) (tCons (tVar 3) tNil))) rfl scTell.nd (pi_list (pv 2))
        (blkOk_by (own := [("row", 3)]) (N := nTell) (sc := defScope zTell) (by decide +kernel)) (fun _ _ _ _ _ => pg_name (i := 3) scTell.nd rfl (Or.inl rfl)) (fun _ _ _ _ _ => pts_nil)
        (fun _ _ _ _ _ => by exact (pe_call GM hr rfl gM FM.kp bM .nil pass0 (pa_cons (pv 0) (pa_cons (pv 3) pa_nil)))))))))), ?_⟩)
  · obtain ⟨j, rfl, _⟩ := h
    rfl
  · obtain ⟨j, rfl, J, hT, ll, q⟩ := h
    obtain ⟨dj, hj⟩ := J.ho
    obtain ⟨dl, hl⟩ := J.hl.o
    obtain ⟨ds, hs⟩ := J.hr.o
    have ndL : (j.l.kept.map Prod.fst).Nodup := by
      have := J.nd
      rw [List.map_append, List.nodup_append] at this
      exact this.1
    refine ⟨_, rfl, j.at_, CJ, dj, _, _, rfl, hj, T.cJ, T.Jr, jF_right j, j.r.at_, CS, ds, _, _, rfl, hs, T.cS, T.Sm, sF_mark j.r, ?_⟩
    -- due
    refine ⟨_, rfl, j.at_, CJ, dj, _, _, rfl, hj, T.cJ, T.Jl, jF_left j, j.l.at_, CS, dl, _, _, rfl, hl, T.cS, T.Sk, sF_kept j.l, j.l.kl, rfl, ⟨_, SqL.of J.hl.k⟩, fun D1 hD1 => lc_list (K := K) (a := j.l.kl) (xs := refsOf j.l.kept)
      (fun i H' => Same H H' ∧ H' D1 = some (.lst (refsOf ((j.l.kept.take i).filter fun p => decide (p.2.t < j.r.mark))))) ⟨Same.upd hD1, upd_same⟩ (fun i H' _ ⟨s1, _⟩ => SqL.of (s1 _ _ J.hl.k)) ?_ ?_⟩
    · rintro i y H' hi ⟨s1, k1⟩
      obtain ⟨x, hx, rfl⟩ := refsOf_at hi
      have il : i < j.l.kept.length := (List.getElem?_eq_some_iff.mp hx).1
      obtain ⟨dx, ex⟩ := (J.hl.r.same s1) x (mem_at hx)
      refine ⟨rfl, _, rfl, x.1, CR, dx, _, _, rfl, ex, T.cR, T.Rt, rF_time x.2, _, rfl, _, _, rfl, rfl, _, rfl, ?_⟩
      rw [natLt, take_more hx, List.filter_append, List.filter_cons]
      cases e : decide (x.2.t < j.r.mark) with
      | true =>
        refine iteT ⟨_, rfl, _, k1, ?_, fun b o q => ?_, ?_⟩
        · rw [refsOf_len]
          refine small_of (Nat.le_trans (List.length_filter_le _ _) ?_)
          rw [List.length_take]
          omega
        · rw [upd_ne (ne_of_none q hD1)]
          exact s1 b o q
        · rw [upd_same, if_pos rfl, refsOf, refsOf, List.map_append]
          rfl
      | false =>
        refine iteF ⟨s1, ?_⟩
        rw [if_neg Bool.false_ne_true]
        simpa using k1
    · rintro H1 ⟨s1, k1⟩
      rw [refsOf_len, List.take_length] at k1
      -- the rows that wait on
      refine ⟨_, rfl, j.at_, CJ, dj, _, _, rfl, s1 _ _ hj, T.cJ, T.Jl, jF_left j, j.l.at_, CS, dl, _, _, rfl, s1 _ _ hl, T.cS, T.Sk, sF_kept j.l, j.l.kl, rfl, ⟨_, SqL.of (s1 _ _ J.hl.k)⟩, fun D2 hD2 => lc_list (K := K) (a := j.l.kl) (xs := refsOf j.l.kept)
        (fun i H' => Same H1 H' ∧ H' D2 = some (.lst (refsOf ((j.l.kept.take i).filter fun p => decide (j.r.mark ≤ p.2.t))))) ⟨Same.upd hD2, upd_same⟩ (fun i H' _ ⟨s2, _⟩ => SqL.of (s2 _ _ (s1 _ _ J.hl.k))) ?_ ?_⟩
      · rintro i y H' hi ⟨s2, k2⟩
        obtain ⟨x, hx, rfl⟩ := refsOf_at hi
        have il : i < j.l.kept.length := (List.getElem?_eq_some_iff.mp hx).1
        obtain ⟨dx, ex⟩ := ((J.hl.r.same s1).same s2) x (mem_at hx)
        refine ⟨rfl, _, rfl, x.1, CR, dx, _, _, rfl, ex, T.cR, T.Rt, rF_time x.2, _, rfl, _, _, rfl, rfl, _, rfl, ?_⟩
        rw [natLe, take_more hx, List.filter_append, List.filter_cons]
        cases e : decide (j.r.mark ≤ x.2.t) with
        | true =>
          refine iteT ⟨_, rfl, _, k2, ?_, fun b o q => ?_, ?_⟩
          · rw [refsOf_len]
            refine small_of (Nat.le_trans (List.length_filter_le _ _) ?_)
            rw [List.length_take]
            omega
          · rw [upd_ne (ne_of_none q hD2)]
            exact s2 b o q
          · rw [upd_same, if_pos rfl, refsOf, refsOf, List.map_append]
            rfl
        | false =>
          refine iteF ⟨s2, ?_⟩
          rw [if_neg Bool.false_ne_true]
          simpa using k2
      · rintro H2 ⟨s2, k2⟩
        rw [refsOf_len, List.take_length] at k2
        have st : Same H H2 := Same.trans s1 s2
        have hl2 := st _ _ hl
        refine ⟨_, rfl, j.at_, CJ, dj, _, _, rfl, st _ _ hj, T.cJ, T.Jl, jF_left j, j.l.at_, CS, dl, _, rfl, hl2, T.cS, T.Sk, (by show 8 < 1000; decide), ?_⟩
        rw [sF_put_kept]
        have nk1 := ne_of hl2 (s2 _ _ k1) (by intro z; cases z)
        have nk2 := ne_of hl2 k2 (by intro z; cases z)
        have hD2' : H D2 = none := Same.free s1 hD2
        have T3 : Tabs (tabT Pt) (upd H2 j.l.at_ (.ins CS dl (sF { j.l with kl := D2 }))) := tabs_upd (hT.ext st) (.inl ⟨_, _, _, hl2⟩)
        have st3 : ∀ b c, H2 b = some c → b ≠ j.l.at_ → upd H2 j.l.at_ (.ins CS dl (sF { j.l with kl := D2 })) b = some c := fun b c e hb => by rw [upd_ne hb]; exact e
        have self3 : upd H2 j.l.at_ (.ins CS dl (sF { j.l with kl := D2 })) j.l.at_ = some (.ins CS dl (sF { j.l with kl := D2 })) := upd_same
        generalize upd H2 j.l.at_ (.ins CS dl (sF { j.l with kl := D2 })) = H3 at T3 st3 self3 ⊢
        have row3 : ∀ x ∈ j.l.kept ++ j.r.kept, RowAt CR H3 x.1 x.2 := fun x hx => by
          obtain ⟨dx, ex⟩ : RowAt CR H x.1 x.2 := by
            rcases List.mem_append.mp hx with z | z
            · exact J.hl.r x z
            · exact J.hr.r x z
          refine ⟨dx, st3 _ _ (st _ _ ex) fun z => ?_⟩
          rw [z, hl] at ex
          exact side_row (Option.some.inj ex)
        have er : ∀ l : List PR, refsOf l = (l.map Prod.fst).map V.ref := fun l => by
          unfold refsOf
          rw [List.map_map]
          rfl
        have es : (((j.l.kept.filter fun p => decide (p.2.t < j.r.mark)).map Prod.fst).mergeSort (lexLe (keyOf j.l.kept))).map V.ref = refsOf (dueP j) := by
          rw [er, dueP, PySem.W.sort_maps Prod.fst (s := lexLe (keyOf j.l.kept)) fun a ha b hb => ?_]
          unfold leP lexLe
          rw [keyOf_mem ndL (List.mem_filter.mp ha).1, keyOf_mem ndL (List.mem_filter.mp hb).1, decide_eq_decide]
          dsimp only
          omega
        refine ⟨_, rfl, T3, D1, (j.l.kept.filter fun p => decide (p.2.t < j.r.mark)).map Prod.fst, keyOf j.l.kept, rfl, SqL.of (by rw [← er]; exact st3 _ _ (s2 _ _ k1) (Ne.symm nk1)), fun a ha => ?_, fun H4 p eN T4 hp => ?_⟩
        · obtain ⟨x, hx, rfl⟩ := List.mem_map.mp ha
          have xm := (List.mem_filter.mp hx).1
          obtain ⟨dx, ex⟩ := row3 x (List.mem_append_left _ xm)
          rw [keyOf_mem ndL xm]
          exact ⟨dx, _, ex, rF_time x.2, rF_number x.2⟩
        · rw [es]
          -- what stands now
          have st4 : ∀ b c, H3 b = some c → (∀ ps, c ≠ .tbl ps) → upd H4 p (.lst (refsOf (dueP j))) b = some c := fun b c e n => by
            rw [upd_ne (ne_of_none (eN b c e n) hp)]
            exact eN b c e n
          have T5 : Tabs (tabT Pt) (upd H4 p (.lst (refsOf (dueP j)))) := tabs_upd T4 (.inr (.inr hp))
          have k5 : upd H4 p (.lst (refsOf (dueP j))) p = some (.lst (refsOf (dueP j))) := upd_same
          generalize upd H4 p (.lst (refsOf (dueP j))) = H5 at st4 T5 k5 ⊢
          have nt : ∀ {C dx : Addr} {fs : List (Str × V)}, ∀ ps, HO.ins C dx fs ≠ .tbl ps := fun ps z => by cases z
          have hj5 : H5 j.at_ = some (.ins CJ dj (jF j)) := st4 _ _ (st3 _ _ (st _ _ hj) fun z => by rw [z, hl] at hj; exact join_side (Option.some.inj hj).symm) nt
          have hl5 : H5 j.l.at_ = some (.ins CS dl (sF { j.l with kl := D2 })) := st4 _ _ self3 nt
          have hs5 : H5 j.r.at_ = some (.ins CS ds (sF j.r)) := st4 _ _ (st3 _ _ (st _ _ hs) (Ne.symm J.so)) nt
          have kr5 : H5 j.r.kl = some (.lst (refsOf j.r.kept)) := st4 _ _ (st3 _ _ (st _ _ J.hr.k) (ne_of J.hr.k hl (by intro z; cases z))) fun ps z => by cases z
          have row5 : ∀ x ∈ j.l.kept ++ j.r.kept, RowAt CR H5 x.1 x.2 := fun x hx => let ⟨dx, ex⟩ := row3 x hx; ⟨dx, st4 _ _ ex nt⟩
          have dueL : ∀ x ∈ dueP j, x ∈ j.l.kept := fun x hx => (List.mem_filter.mp (List.mem_mergeSort.mp hx)).1
          have dueN : (dueP j).length ≤ 1000 := by
            unfold dueP
            rw [List.length_mergeSort]
            exact Nat.le_trans (List.length_filter_le _ _) ll
          refine ⟨_, rfl, p, rfl, ⟨_, SqL.of k5⟩, fun D3 hD3 => lc_list (K := K) (a := p) (xs := refsOf (dueP j))
            (fun i H' => Same H5 H' ∧ ChL H' D3 (((dueP j).take i).map fun x => momentC j x.2)) ⟨Same.upd hD3, ChL.nil upd_same⟩ (fun i H' _ ⟨s6, _⟩ => SqL.of (s6 _ _ k5)) ?_ ?_⟩
          · rintro i y H' hi ⟨s6, c6⟩
            obtain ⟨x, hx, rfl⟩ := refsOf_at hi
            have il : i < (dueP j).length := (List.getElem?_eq_some_iff.mp hx).1
            obtain ⟨dx, ex⟩ := row5 x (List.mem_append_left _ (dueL x (mem_at hx)))
            refine ⟨rfl, ?_⟩
            unfold tYes
            refine iteT ?_
            refine ⟨_, rfl, _, rfl, { j with l := { j.l with kl := D2 } }, x.1, x.2, rfl, ⟨⟨dj, s6 _ _ hj5⟩, ⟨dl, s6 _ _ hl5⟩, ⟨⟨ds, s6 _ _ hs5⟩, s6 _ _ kr5, fun y hy => (row5 y (List.mem_append_right _ hy)).same (s6 _)⟩⟩, ⟨dx, s6 _ _ ex⟩, fun t ht => ?_⟩
            obtain ⟨xs, e3, e4, e5⟩ := ChL.push (c := momentC j x.2) (c6.same (Same.upd ht)) upd_same
            rw [List.length_map, List.length_take] at e4
            refine ⟨xs, e3, small_of (by omega), fun b o q => ?_, ?_⟩
            · rw [upd_ne (ne_of_none q hD3), upd_ne (ne_of_none (s6 b o q) ht)]
              exact s6 b o q
            · rw [take_more hx, List.map_append]
              exact e5
          · rintro H6 ⟨s6, c6⟩
            rw [refsOf_len, List.take_length] at c6
            refine q H6 D2 D3 hD2' c6 ⟨⟨dl, s6 _ _ hl5⟩, s6 _ _ (st4 _ _ (st3 _ _ k2 (Ne.symm nk2)) fun ps z => by cases z), fun x hx => ?_⟩ (T5.ext s6) fun b o e hb nb => s6 _ _ (st4 _ _ (st3 _ _ (st _ _ e) hb) nb)
            exact (row5 x (List.mem_append_left _ (List.mem_filter.mp hx).1)).same (s6 _)
end
end JS
end
section
set_option linter.all false
set_option maxRecDepth 100000
set_option maxHeartbeats 4000000
namespace JS
open PySem PySem.Spec PyProof.Rows L2 LamX
def sideOf (j : Jn) (b : Bool) : Sd := if b = true then j.l else j.r
def withK (j : Jn) (k1 k2 : Addr) : Jn := { j with l := { j.l with kl := k1 }, r := { j.r with kl := k2 } }
/-- what a call may write -/
def Foot (j : Jn) (b : Addr) : Prop := b = j.l.at_ ∨ b = j.r.at_ ∨ b = j.l.kl ∨ b = j.r.kl ∨ ∃ p ∈ j.l.kept ++ j.r.kept, b = p.1
/-- all but X and the tables stand -/
def Fr (X : Addr → Prop) (H H' : Hp) : Prop := ∀ b c, H b = some c → ¬ X b → (∀ ps, c ≠ .tbl ps) → H' b = some c
/-- nothing stood there, or a table -/
def NewA (H : Hp) (k : Addr) : Prop := ∀ c, H k = some c → ∃ ps, c = .tbl ps
theorem NewA.of {H : Hp} {k : Addr} (h : H k = none) : NewA H k := fun c e => by rw [h] at e; cases e
theorem NewA.back {X : Addr → Prop} {H H' : Hp} {k : Addr} (n : NewA H' k) (fr : Fr X H H') (hX : ∀ b, X b → ∃ c, H' b = some c ∧ ∀ ps, c ≠ .tbl ps) : NewA H k := fun c e => by
  by_cases h : ∃ ps, c = .tbl ps
  · exact h
  · by_cases x : X k
    · obtain ⟨c', e1, e2⟩ := hX k x
      obtain ⟨ps, e3⟩ := n c' e1
      exact absurd e3 (e2 ps)
    · exact n c (fr k c e x fun ps z => h ⟨ps, z⟩)
theorem NewA.same {H H' : Hp} {k : Addr} (n : NewA H' k) (s : Same H H') : NewA H k := fun c e => n c (s _ _ e)
theorem NewA.ne {H : Hp} {k a : Addr} {c : HO} (n : NewA H k) (e : H a = some c) (h : ∀ ps, c ≠ .tbl ps) : a ≠ k := fun z => by
  rw [z] at e
  obtain ⟨ps, e1⟩ := n c e
  exact h ps e1
theorem nt_ins {C dx : Addr} {fs : List (Str × V)} : ∀ ps, HO.ins C dx fs ≠ .tbl ps := fun ps z => by cases z
theorem nt_lst {xs : List V} : ∀ ps, HO.lst xs ≠ .tbl ps := fun ps z => by cases z
theorem nt_tup {xs : List V} : ∀ ps, HO.tup xs ≠ .tbl ps := fun ps z => by cases z
theorem Fr.of_same {X : Addr → Prop} {H H' : Hp} (h : Same H H') : Fr X H H' := fun b c e _ _ => h b c e
theorem Fr.trans {X : Addr → Prop} {H H1 H2 : Hp} (a : Fr X H H1) (b : Fr X H1 H2) : Fr X H H2 := fun c o e h n => b c o (a c o e h n) h n
theorem Fr.mono {X Y : Addr → Prop} {H H' : Hp} (a : Fr X H H') (h : ∀ b, X b → Y b) : Fr Y H H' := fun b c e k n => a b c e (fun z => k (h b z)) n
theorem Fr.one {x : Addr} {H H' : Hp} (h : ∀ b c, H b = some c → b ≠ x → H' b = some c) : Fr (· = x) H H' := fun b c e k _ => h b c e k
section
variable {CR CS CJ : Addr} {H H' : Hp} {j : Jn}
theorem JAt.nLS (J : JAt CR CS CJ H j) : ∀ p ∈ j.l.kept ++ j.r.kept, p.1 ≠ j.l.at_ ∧ p.1 ≠ j.r.at_ := fun p hp => by
  obtain ⟨dl, el⟩ := J.hl.o
  obtain ⟨dr, er⟩ := J.hr.o
  obtain ⟨dp, ep⟩ : RowAt CR H p.1 p.2 := by
    rcases List.mem_append.mp hp with z | z
    · exact J.hl.r p z
    · exact J.hr.r p z
  refine ⟨fun z => ?_, fun z => ?_⟩
  · rw [z, el] at ep
    exact side_row (Option.some.inj ep)
  · rw [z, er] at ep
    exact side_row (Option.some.inj ep)
theorem JAt.row (J : JAt CR CS CJ H j) {p : PR} (hp : p ∈ j.l.kept ++ j.r.kept) : RowAt CR H p.1 p.2 := by
  rcases List.mem_append.mp hp with z | z
  · exact J.hl.r p z
  · exact J.hr.r p z
theorem JAt.nJ (J : JAt CR CS CJ H j) : j.at_ ≠ j.l.at_ ∧ j.at_ ≠ j.r.at_ := by
  obtain ⟨dj, ej⟩ := J.ho
  obtain ⟨dl, el⟩ := J.hl.o
  obtain ⟨dr, er⟩ := J.hr.o
  refine ⟨fun z => ?_, fun z => ?_⟩
  · rw [z, el] at ej
    exact join_side (Option.some.inj ej).symm
  · rw [z, er] at ej
    exact join_side (Option.some.inj ej).symm
theorem JAt.nkl (J : JAt CR CS CJ H j) : j.l.kl ≠ j.l.at_ ∧ j.l.kl ≠ j.r.at_ ∧ j.r.kl ≠ j.l.at_ ∧ j.r.kl ≠ j.r.at_ := by
  obtain ⟨dl, el⟩ := J.hl.o
  obtain ⟨dr, er⟩ := J.hr.o
  exact ⟨ne_of J.hl.k el (by intro z; cases z), ne_of J.hl.k er (by intro z; cases z), ne_of J.hr.k el (by intro z; cases z), ne_of J.hr.k er (by intro z; cases z)⟩
/-- the left side is another now -/
theorem JAt.setL (J : JAt CR CS CJ H j) {s : Sd} (st : Fr (· = j.l.at_) H H') (hs : SideAt CR CS H' s) (ea : s.at_ = j.l.at_) (ei : s.isL = true) (kk : s.kl ≠ j.r.kl) (nd : ((s.kept ++ j.r.kept).map Prod.fst).Nodup) : JAt CR CS CJ H' { j with l := s } := by
  obtain ⟨dj, ej⟩ := J.ho
  obtain ⟨dr, er⟩ := J.hr.o
  refine ⟨⟨dj, ?_⟩, hs, ⟨⟨dr, st _ _ er (Ne.symm J.so) nt_ins⟩, st _ _ J.hr.k J.nkl.2.2.1 nt_lst, fun p hp => ?_⟩, ei, J.isr, kk, nd⟩
  · have e : jF { j with l := s } = jF j := by
      unfold jF
      rw [ea]
    rw [e]
    exact st _ _ ej J.nJ.1 nt_ins
  · obtain ⟨dp, ep⟩ := J.hr.r p hp
    exact ⟨dp, st _ _ ep (J.nLS p (List.mem_append_right _ hp)).1 nt_ins⟩
theorem JAt.setR (J : JAt CR CS CJ H j) {s : Sd} (st : Fr (· = j.r.at_) H H') (hs : SideAt CR CS H' s) (ea : s.at_ = j.r.at_) (ei : s.isL = false) (kk : j.l.kl ≠ s.kl) (nd : ((j.l.kept ++ s.kept).map Prod.fst).Nodup) : JAt CR CS CJ H' { j with r := s } := by
  obtain ⟨dj, ej⟩ := J.ho
  obtain ⟨dl, el⟩ := J.hl.o
  refine ⟨⟨dj, ?_⟩, ⟨⟨dl, st _ _ el J.so nt_ins⟩, st _ _ J.hl.k J.nkl.2.1 nt_lst, fun p hp => ?_⟩, hs, J.isl, ei, kk, nd⟩
  · have e : jF { j with r := s } = jF j := by
      unfold jF
      rw [ea]
    rw [e]
    exact st _ _ ej J.nJ.2 nt_ins
  · obtain ⟨dp, ep⟩ := J.hl.r p hp
    exact ⟨dp, st _ _ ep (J.nLS p (List.mem_append_left _ hp)).2 nt_ins⟩
theorem nd_sub {a b a' b' : List PR} (nd : ((a ++ b).map Prod.fst).Nodup) (ha : a'.Sublist a) (hb : b'.Sublist b) : ((a' ++ b').map Prod.fst).Nodup :=
  List.Pairwise.sublist ((ha.append hb).map _) nd
theorem SideO.upd_ {s : Sd} {dx : Addr} : SideO CS (L2.upd H s.at_ (.ins CS dx (sF s))) s := ⟨dx, upd_same⟩
/-- a field of a side's own object stored: its list and rows stand -/
theorem SideAt.field {s s' : Sd} {dx : Addr} (S : SideAt CR CS H s) (ea : s'.at_ = s.at_) (ek : s'.kl = s.kl) (er : s'.kept = s.kept) : SideAt CR CS (L2.upd H s.at_ (.ins CS dx (sF s'))) s' := by
  obtain ⟨d, e⟩ := S.o
  refine ⟨⟨dx, by rw [ea]; exact upd_same⟩, ?_, fun p hp => ?_⟩
  · rw [ek, er, upd_ne (ne_of S.k e (by intro z; cases z))]
    exact S.k
  · rw [er] at hp
    obtain ⟨dp, ep⟩ := S.r p hp
    refine ⟨dp, ?_⟩
    rw [upd_ne (fun z => ?_)]
    · exact ep
    · rw [z, e] at ep
      exact side_row (Option.some.inj ep)
theorem tabs_fr {T : List (Addr × Str)} {X : Addr → Prop} (t : Tabs T H) (k : ∀ b o, H b = some o → ¬ X b → H' b = some o) (hX : ∀ b o, H b = some o → X b → (∃ C dx fs, o = .ins C dx fs) ∨ ∃ xs, o = .lst xs) : Tabs T H' := tabs_soft t fun b o e s => by
  by_cases x : X b
  · rcases hX b o e x with ⟨C, dx, fs, z⟩ | ⟨xs, z⟩ <;> subst z <;> rcases s with ⟨_, s⟩ | ⟨_, s⟩ <;> cases s
  · exact k b o e x
theorem tabs_one {T : List (Addr × Str)} {a C dx : Addr} {fs : List (Str × V)} (t : Tabs T H) (ha : H a = some (.ins C dx fs)) (k : ∀ b o, H b = some o → b ≠ a → H' b = some o) : Tabs T H' :=
  tabs_fr (X := (· = a)) t k fun b o e z => by
    have z : b = a := z
    rw [z, ha] at e
    exact .inl ⟨_, _, _, (Option.some.inj e).symm⟩
theorem ChL.fr {X : Addr → Prop} {l : Addr} {cs : List Chg} (c : ChL H l cs) (k : Fr X H H') (hl : ¬ X l) (ht : ∀ b xs, H b = some (.tup xs) → ¬ X b) : ChL H' l cs := by
  obtain ⟨ps, e1, e2, e3⟩ := c
  exact ⟨ps, e1, k _ _ e2 hl nt_lst, fun p hp => k _ _ (e3 p hp) (ht _ _ (e3 p hp)) nt_tup⟩
end
def markSet (j : Jn) (b : Bool) (m : Nat) : Jn := if b = true then { j with l := { j.l with mark := m } } else { j with r := { j.r with mark := m } }
def dropR (j : Jn) (m : Nat) : Jn := { j with r := { j.r with kept := j.r.kept.filter fun p => wantedB j.r p.2 m } }
def dropL (j : Jn) (m : Nat) : Jn := { j with l := { j.l with kept := j.l.kept.filter fun p => wantedB j.l p.2 m } }
def pruneJ (j : Jn) : Jn := { j with r := { j.r with kept := keptV j } }
def waitJ (j : Jn) : Jn := { j with l := { j.l with kept := waitL j } }
def markUp (j : Jn) (b : Bool) (m : Nat) : Jn × List Chg :=
  if j.mom = true then (if b = true then (pruneJ (markSet j b m), []) else (pruneJ (waitJ (markSet j b m)), tellCh (markSet j b m)))
  else if b = true then (dropR (markSet j b m) m, dropCh (markSet j b m).r m (markSet j b m).r.kept) else (dropL (markSet j b m) m, dropCh (markSet j b m).l m (markSet j b m).l.kept)
section
variable {P : Program} {w : World} {K : PySem.W.Frag} {mg : Str → Option Value} {base : Heap} {CR CS CJ : Addr}
theorem JAt.markSet {H : Hp} {j : Jn} (J : JAt CR CS CJ H j) (b : Bool) (m : Nat) (dx : Addr) : JAt CR CS CJ (L2.upd H (sideOf j b).at_ (.ins CS dx (sF { sideOf j b with mark := m }))) (markSet j b m) := by
  cases b with
  | true => exact J.setL (s := { j.l with mark := m }) (fun b c e h _ => (upd_ne h).trans e) (J.hl.field (s' := { j.l with mark := m }) rfl rfl rfl) rfl J.isl J.kk J.nd
  | false => exact J.setR (s := { j.r with mark := m }) (fun b c e h _ => (upd_ne h).trans e) (J.hr.field (s' := { j.r with mark := m }) rfl rfl rfl) rfl J.isr J.kk J.nd
/-- a def of the top, a method: what callers need -/
def Def (P : Program) (w : World) (K : PySem.W.Frag) (mg : Str → Option Value) (base : Heap) (k : Nat) (x : Str) (ps : List Str) (sp : Sp) : Prop :=
  ∃ (f : Addr) (fd : FuncData), FnOk P w K mg base CX0 k f fd ps sp ∧ mg x = some (.ref f) ∧ PySem.W.keepIn K (.ref f) = true ∧ Binds K fd ps []
def MDef (P : Program) (w : World) (K : PySem.W.Frag) (mg : Str → Option Value) (base : Heap) (k : Nat) (C : Addr) (x : Str) (ps : List Str) (sp : Sp) : Prop :=
  ∃ (f : Addr) (fd : FuncData), FnOk P w K mg base CX0 k f fd ps sp ∧ Meth K C x f ∧ Binds K fd ps []
theorem markUp_tt {j : Jn} (h : j.mom = true) (m : Nat) : markUp j true m = (pruneJ (markSet j true m), []) := by unfold markUp; rw [if_pos h, if_pos rfl]
theorem markUp_tf {j : Jn} (h : j.mom = true) (m : Nat) : markUp j false m = (pruneJ (waitJ (markSet j false m)), tellCh (markSet j false m)) := by unfold markUp; rw [if_pos h, if_neg Bool.false_ne_true]
theorem markUp_ft {j : Jn} (h : j.mom = false) (m : Nat) : markUp j true m = (dropR (markSet j true m) m, dropCh (markSet j true m).r m (markSet j true m).r.kept) := by unfold markUp; rw [if_neg (by rw [h]; exact Bool.false_ne_true), if_pos rfl]
theorem markUp_ff {j : Jn} (h : j.mom = false) (m : Nat) : markUp j false m = (dropL (markSet j false m) m, dropCh (markSet j false m).l m (markSet j false m).l.kept) := by unfold markUp; rw [if_neg (by rw [h]; exact Bool.false_ne_true), if_neg Bool.false_ne_true]
def spUp (CR CS CJ Pt : Addr) : Sp := fun vs H Q _ => ∃ (j : Jn) (b : Bool) (m : Nat), vs = [.ref j.at_, .ref (sideOf j b).at_, .int m] ∧ JAt CR CS CJ H j ∧ Tabs (tabT Pt) H ∧ j.l.kept.length ≤ 1000 ∧ j.r.kept.length ≤ 1000 ∧
  ∀ (H' : Hp) (k1 k2 l : Addr), ChL H' l (markUp j b m).2 → JAt CR CS CJ H' (withK (markUp j b m).1 k1 k2) → Tabs (tabT Pt) H' → Fr (Foot j) H H' → (k1 = j.l.kl ∨ NewA H k1) → (k2 = j.r.kl ∨ NewA H k2) → Q (.ref l) H'
theorem scUp : FnScope ["join", "side", "time", "changes"] ["join", "side", "time"] (defScope zUp) := ⟨rfl, rfl, rfl, by decide +kernel, rfl, by decide +kernel, by decide +kernel⟩
theorem ok_up {f Pt : Addr} {fd : FuncData} (F : Fun K "mark_goes_up" "mark_goes_up" zUp f fd) (T : Txt K mg CR CS CJ)
    (dO : MDef P w K mg base 1 CJ "other" ["self", "side"] (spOther CS CJ)) (dU : Def P w K mg base 2 "drop_unwanted" ["side", "other_mark"] (spDropU CR CS)) (dT : Def P w K mg base 3 "tell_waiting" ["join"] (spTell CR CS CJ Pt)) (dV : Def P w K mg base 2 "drop_versions" ["join"] (spDropV CR CS CJ)) :
    FnOk P w K mg base CX0 4 f fd ["join", "side", "time"] (spUp CR CS CJ Pt) := by
  obtain ⟨fO, fdO, GO, mO, bO⟩ := dO
  obtain ⟨fU, fdU, GU, gU, kU, bU⟩ := dU
  obtain ⟨fT, fdT, GT, gT, kT, bT⟩ := dT
  obtain ⟨fV, fdV, GV, gV, kV, bV⟩ := dV
  refine F.ok scUp (fun vs H Q E h => ?_) (fun cdv A outer s H vs Q E hr h => ⟨_, pss_cons (ps_fld (pv 1) (pv 2) rfl)
    (pss_cons (ps_if (pt_not (pt_val (pe_fld (pv 0) rfl))) (pss_one (ps_ret (pe_call GU (hr.mono (by decide)) rfl gU kU bU .nil pass0 (pa_cons (pe_meth (pv 0) T.cJ mO GO (hr.mono (by decide)) bO .nil pass0 (pa_cons (pv 1) pa_nil)) (pa_cons (pv 2) pa_nil))))) pss_nil)
    (pss_cons (ps_set (i := 3) scUp.nd rfl (Or.inl rfl) (pe_lst pa_nil))
    (pss_cons (ps_if (pt_not (pt_val (pe_fld (pv 1) rfl))) (pss_one (ps_set (i := 3) scUp.nd rfl (Or.inl rfl) (pe_call GT hr rfl gT kT bT .nil pass0 (pa_cons (pv 0) pa_nil)))) pss_nil)
    (pss_cons (ps_expr (pe_call GV (hr.mono (by decide)) rfl gV kV bV .nil pass0 (pa_cons (pv 0) pa_nil)))
    (pss_one (ps_ret (pv 3))))))), ?_⟩)
  · obtain ⟨j, b, m, rfl, _⟩ := h
    rfl
  · obtain ⟨j, b, m, rfl, J, hT, ll, lr, q⟩ := h
    obtain ⟨dsd, hsd⟩ : SideO CS H (sideOf j b) := by
      cases b with
      | true => exact J.hl.o
      | false => exact J.hr.o
    have J1 := J.markSet b m dsd
    have T1 : Tabs (tabT Pt) (L2.upd H (sideOf j b).at_ (.ins CS dsd (sF { sideOf j b with mark := m }))) := tabs_upd hT (.inl ⟨_, _, _, hsd⟩)
    have st1 : Fr (Foot j) H (L2.upd H (sideOf j b).at_ (.ins CS dsd (sF { sideOf j b with mark := m }))) := fun c o e k _ => by
      rw [upd_ne (fun z => k ?_)]
      · exact e
      · cases b with
        | true => exact .inl z
        | false => exact .inr (.inl z)
    have nn1 : ∀ k, NewA (L2.upd H (sideOf j b).at_ (.ins CS dsd (sF { sideOf j b with mark := m }))) k → NewA H k := fun k n c e => by
      by_cases z : k = (sideOf j b).at_
      · obtain ⟨ps, e1⟩ := n _ (by rw [z]; exact upd_same)
        cases e1
      · exact n c (by rw [upd_ne z]; exact e)
    refine ⟨_, rfl, _, rfl, (sideOf j b).at_, CS, dsd, _, rfl, hsd, T.cS, T.Sm, (by show 8 < 1000; decide), ?_⟩
    rw [sF_put_mark]
    generalize L2.upd H (sideOf j b).at_ (.ins CS dsd (sF { sideOf j b with mark := m })) = H1 at J1 T1 st1 nn1 ⊢
    cases b with
    | true =>
      obtain ⟨dj, hj⟩ := J1.ho
      obtain ⟨ds, hs⟩ := J1.hl.o
      refine ⟨_, rfl, j.at_, CJ, dj, _, _, rfl, hj, T.cJ, T.Jm, jF_mom _, j.mom, rfl, ?_⟩
      cases e : j.mom with
      | false =>
        rw [markUp_ft e] at q
        refine iteT_of rfl ?_
        refine ⟨_, rfl, j.at_, dj, _, rfl, hj, jF_other _, _, rfl, markSet j true m, (markSet j true m).l, rfl, ⟨dj, hj⟩, ⟨ds, hs⟩, _, rfl, (markSet j true m).r, m, ?_, J1.hr, lr, fun H' k l hk hl nkl c S fr => ?_⟩
        · rw [if_pos J1.isl]
          rfl
        · have st2 : Fr (Foot j) H1 H' := (Fr.one fr).mono fun b z => .inr (.inl z)
          obtain ⟨d2, e2⟩ := J1.hr.o
          exact q H' j.l.kl k l c (J1.setR (Fr.one fr) S rfl J1.isr (ne_of_none J1.hl.k hk) (nd_sub J1.nd (List.Sublist.refl _) List.filter_sublist)) (tabs_one T1 e2 fr) (st1.trans st2) (.inl rfl) (.inr (nn1 _ (.of hk)))
      | true =>
        rw [markUp_tt e] at q
        refine iteF_of rfl ?_
        refine ⟨Nat.zero_le _, fun l hl => ?_⟩
        have s2 : Same H1 (L2.upd H1 l (.lst [])) := Same.upd hl
        have J2 := J1.same s2
        have hs2 := s2 _ _ hs
        refine ⟨_, rfl, j.l.at_, CS, ds, _, _, rfl, hs2, T.cS, T.Sl, sF_is_left _, (markSet j true m).l.isL, rfl, ?_⟩
        refine iteF_of (by rw [J1.isl]; rfl) ?_
        have c2 : ChL (L2.upd H1 l (.lst [])) l [] := ChL.nil upd_same
        have T2 : Tabs (tabT Pt) (L2.upd H1 l (.lst [])) := T1.ext s2
        have nn2 : ∀ k, NewA (L2.upd H1 l (.lst [])) k → NewA H k := fun k n => nn1 k (n.same s2)
        generalize L2.upd H1 l (.lst []) = H2 at s2 J2 c2 T2 nn2 ⊢
        refine ⟨_, rfl, markSet j true m, rfl, J2, ll, lr, fun H' k hk S fr => ⟨_, rfl, ?_⟩⟩
        obtain ⟨d2, e2⟩ := J2.hr.o
        have st2 : Fr (Foot j) H2 H' := (Fr.one fr).mono fun b z => .inr (.inl z)
        exact q H' j.l.kl k l (c2.fr (Fr.one fr) (ne_of c2.choose_spec.2.1 e2 (by intro z; cases z)) fun b xs e3 z => by
          have z : b = j.r.at_ := z
          have e2 : H2 j.r.at_ = _ := e2
          rw [z, e2] at e3
          cases e3) (J2.setR (Fr.one fr) S rfl J2.isr (ne_of_none J2.hl.k hk) (nd_sub J2.nd (List.Sublist.refl _) List.filter_sublist)) (tabs_one T2 e2 fr) ((st1.trans (Fr.of_same s2)).trans st2) (.inl rfl) (.inr (nn2 _ (.of hk)))
    | false =>
      obtain ⟨dj, hj⟩ := J1.ho
      obtain ⟨ds, hs⟩ := J1.hr.o
      refine ⟨_, rfl, j.at_, CJ, dj, _, _, rfl, hj, T.cJ, T.Jm, jF_mom _, j.mom, rfl, ?_⟩
      cases e : j.mom with
      | false =>
        rw [markUp_ff e] at q
        refine iteT_of rfl ?_
        refine ⟨_, rfl, j.at_, dj, _, rfl, hj, jF_other _, _, rfl, markSet j false m, (markSet j false m).r, rfl, ⟨dj, hj⟩, ⟨ds, hs⟩, _, rfl, (markSet j false m).l, m, ?_, J1.hl, ll, fun H' k l hk hl nkl c S fr => ?_⟩
        · rw [if_neg (by rw [J1.isr]; exact Bool.false_ne_true)]
          rfl
        · have st2 : Fr (Foot j) H1 H' := (Fr.one fr).mono fun b z => .inl z
          obtain ⟨d2, e2⟩ := J1.hl.o
          exact q H' k j.r.kl l c (J1.setL (Fr.one fr) S rfl J1.isl (Ne.symm (ne_of_none J1.hr.k hk)) (nd_sub J1.nd List.filter_sublist (List.Sublist.refl _))) (tabs_one T1 e2 fr) (st1.trans st2) (.inr (nn1 _ (.of hk))) (.inl rfl)
      | true =>
        rw [markUp_tf e] at q
        refine iteF_of rfl ?_
        refine ⟨Nat.zero_le _, fun l0 hl0 => ?_⟩
        have s2 : Same H1 (L2.upd H1 l0 (.lst [])) := Same.upd hl0
        have J2 := J1.same s2
        have hs2 := s2 _ _ hs
        refine ⟨_, rfl, j.r.at_, CS, ds, _, _, rfl, hs2, T.cS, T.Sl, sF_is_left _, (markSet j false m).r.isL, rfl, ?_⟩
        refine iteT_of (by rw [J1.isr]; rfl) ?_
        have T2 : Tabs (tabT Pt) (L2.upd H1 l0 (.lst [])) := T1.ext s2
        have nn2 : ∀ k, NewA (L2.upd H1 l0 (.lst [])) k → NewA H k := fun k n => nn1 k (n.same s2)
        generalize L2.upd H1 l0 (.lst []) = H2 at s2 J2 T2 nn2 ⊢
        refine ⟨_, rfl, markSet j false m, rfl, J2, T2, ll, fun H3 k l hk c S T3 fr => ?_⟩
        have fr' : Fr (· = j.l.at_) H2 H3 := fun b c e h n => fr b c e h n
        have J3 := J2.setL fr' S rfl J2.isl (Ne.symm (ne_of_none J2.hr.k hk)) (nd_sub J2.nd List.filter_sublist (List.Sublist.refl _))
        refine ⟨_, rfl, { markSet j false m with l := { (markSet j false m).l with kl := k, kept := waitL (markSet j false m) } }, rfl, J3, Nat.le_trans (List.length_filter_le _ _) ll, lr, fun H' k2 hk2 S2 fr2 => ⟨_, rfl, ?_⟩⟩
        obtain ⟨d2, e2⟩ := J3.hr.o
        have st3 : Fr (Foot j) H2 H3 := fr'.mono fun b z => .inl z
        have st4 : Fr (Foot j) H3 H' := (Fr.one fr2).mono fun b z => .inr (.inl z)
        refine q H' k k2 l (c.fr (Fr.one fr2) (ne_of c.choose_spec.2.1 e2 (by intro z; cases z)) fun b xs e3 z => by
          have z : b = j.r.at_ := z
          have e2 : H3 j.r.at_ = _ := e2
          rw [z, e2] at e3
          cases e3) (J3.setR (Fr.one fr2) S2 rfl J3.isr (ne_of_none J3.hl.k hk2) (nd_sub J3.nd (List.Sublist.refl _) List.filter_sublist)) (tabs_one T3 e2 fr2) (((st1.trans (Fr.of_same s2)).trans st3).trans st4) (.inr (nn2 _ (.of hk))) (.inr ?_)
        refine nn2 _ (NewA.back (X := (· = j.l.at_)) (NewA.of hk2) fr' fun b z => ?_)
        obtain ⟨d3, e3⟩ := J3.hl.o
        have z : b = j.l.at_ := z
        rw [z]
        exact ⟨_, e3, nt_ins⟩
end
end JS
end
section
set_option linter.all false
set_option maxRecDepth 100000
set_option maxHeartbeats 4000000
namespace JS
open PySem PySem.Spec PyProof.Rows L2 LamX
def addL (j : Jn) (p : PR) : Jn := { j with l := { j.l with kept := j.l.kept ++ [p] } }
def addR (j : Jn) (p : PR) : Jn := { j with r := { j.r with kept := j.r.kept ++ [p] } }
def meetL (j : Jn) (a : Addr) (r : R6) : Jn := { j with l := meetS j.l a r j.r, r := meetO j.l r j.r }
def meetR (j : Jn) (a : Addr) (r : R6) : Jn := { j with r := meetS j.r a r j.l, l := meetO j.r r j.l }
def comesUp (j : Jn) (b : Bool) (a : Addr) (r : R6) : Jn × List Chg :=
  if j.mom = true then (if b = true then (if r.t < j.r.mark then (j, [momentC j r]) else (addL j (a, r), [])) else (pruneJ (addR j (a, r)), []))
  else if b = true then (meetL j a r, meetCh j.l r j.r) else (meetR j a r, meetCh j.r r j.l)
theorem nd_comm {a b : List PR} (nd : ((a ++ b).map Prod.fst).Nodup) : ((b ++ a).map Prod.fst).Nodup := ((List.perm_append_comm (l₁ := a) (l₂ := b)).map Prod.fst).nodup_iff.mp nd
theorem nd_add {l : List PR} {p : PR} (nd : (l.map Prod.fst).Nodup) (na : ∀ x ∈ l, x.1 ≠ p.1) : ((l ++ [p]).map Prod.fst).Nodup := by
  rw [List.map_append, List.nodup_append]
  refine ⟨nd, by simp, fun x hx y hy => ?_⟩
  obtain ⟨z, hz, rfl⟩ := List.mem_map.mp hx
  simp at hy
  subst hy
  exact na z hz
theorem nd_addL {a b : List PR} {p : PR} (nd : ((a ++ b).map Prod.fst).Nodup) (na : ∀ x ∈ a ++ b, x.1 ≠ p.1) : (((a ++ [p]) ++ b).map Prod.fst).Nodup := by
  have e : ((a ++ [p]) ++ b).Perm ((a ++ b) ++ [p]) := by
    rw [List.append_assoc, List.append_assoc]
    exact List.Perm.append_left a List.perm_append_comm
  exact (e.map Prod.fst).nodup_iff.mpr (nd_add nd na)
theorem nd_addR {a b : List PR} {p : PR} (nd : ((a ++ b).map Prod.fst).Nodup) (na : ∀ x ∈ a ++ b, x.1 ≠ p.1) : ((a ++ (b ++ [p])).map Prod.fst).Nodup := by
  rw [← List.append_assoc]
  exact nd_add nd na
theorem touch_fst (s : Sd) (r : R6) (o : Sd) (l : List PR) : (l.map (touchP s r o)).map Prod.fst = l.map Prod.fst := by
  rw [List.map_map]
  exact List.map_congr_left fun p _ => touchP_fst s r o p
theorem nd_meet {s o : Sd} {a : Addr} {r : R6} (nd : ((s.kept ++ o.kept).map Prod.fst).Nodup) (na : ∀ x ∈ s.kept ++ o.kept, x.1 ≠ a) : (((meetS s a r o).kept ++ (meetO s r o).kept).map Prod.fst).Nodup := by
  rw [List.map_append]
  show (((if wantedB s r o.mark = true then s.kept ++ [(a, meetRow s r o)] else s.kept).map Prod.fst) ++ (o.kept.map (touchP s r o)).map Prod.fst).Nodup
  rw [touch_fst, ← List.map_append]
  split
  · exact nd_addL nd na
  · exact nd
section
variable {CR CS CJ : Addr} {H H' : Hp} {j : Jn}
theorem JAt.nf (J : JAt CR CS CJ H j) : ¬ Foot j j.at_ := fun z => by
  obtain ⟨dj, ej⟩ := J.ho
  rcases z with z | z | z | z | ⟨p, hp, z⟩
  · exact J.nJ.1 z
  · exact J.nJ.2 z
  · rw [z, J.hl.k] at ej
    cases ej
  · rw [z, J.hr.k] at ej
    cases ej
  · obtain ⟨dp, ep⟩ := J.row hp
    rw [← z, ej] at ep
    exact join_row (Option.some.inj ep)
theorem JAt.kind (J : JAt CR CS CJ H j) : ∀ b o, H b = some o → Foot j b → (∃ C dx fs, o = .ins C dx fs) ∨ ∃ xs, o = .lst xs := fun b o e z => by
  obtain ⟨dl, el⟩ := J.hl.o
  obtain ⟨dr, er⟩ := J.hr.o
  rcases z with z | z | z | z | ⟨p, hp, z⟩
  · rw [z, el] at e
    exact .inl ⟨_, _, _, (Option.some.inj e).symm⟩
  · rw [z, er] at e
    exact .inl ⟨_, _, _, (Option.some.inj e).symm⟩
  · rw [z, J.hl.k] at e
    exact .inr ⟨_, (Option.some.inj e).symm⟩
  · rw [z, J.hr.k] at e
    exact .inr ⟨_, (Option.some.inj e).symm⟩
  · obtain ⟨dp, ep⟩ := J.row hp
    rw [z, ep] at e
    exact .inl ⟨_, _, _, (Option.some.inj e).symm⟩
theorem JAt.kindA (J : JAt CR CS CJ H j) {a : Addr} {r : R6} (ha : RowAt CR H a r) : ∀ b o, H b = some o → (Foot j b ∨ b = a) → (∃ C dx fs, o = .ins C dx fs) ∨ ∃ xs, o = .lst xs := fun b o e z => by
  rcases z with z | z
  · exact J.kind b o e z
  · obtain ⟨da, ea⟩ := ha
    rw [z, ea] at e
    exact .inl ⟨_, _, _, (Option.some.inj e).symm⟩
theorem JAt.nfA (J : JAt CR CS CJ H j) {a : Addr} {r : R6} (ha : RowAt CR H a r) : ¬ (Foot j j.at_ ∨ j.at_ = a) := fun z => by
  rcases z with z | z
  · exact J.nf z
  · obtain ⟨dj, ej⟩ := J.ho
    obtain ⟨da, ea⟩ := ha
    rw [z, ea] at ej
    exact join_row (Option.some.inj ej).symm
end
section
variable {P : Program} {w : World} {K : PySem.W.Frag} {mg : Str → Option Value} {base : Heap} {CR CS CJ : Addr}
def spComes (CR CS CJ Pt : Addr) : Sp := fun vs H Q _ => ∃ (j : Jn) (b : Bool) (a : Addr) (r : R6), vs = [.ref j.at_, .ref (sideOf j b).at_, .ref a] ∧ JAt CR CS CJ H j ∧ Tabs (tabT Pt) H ∧ RowAt CR H a r ∧ r.met = false ∧ (∀ p ∈ j.l.kept ++ j.r.kept, p.1 ≠ a) ∧ j.l.kept.length ≤ 999 ∧ j.r.kept.length ≤ 999 ∧
  ∀ (H' : Hp) (k1 k2 l : Addr), ChL H' l (comesUp j b a r).2 → JAt CR CS CJ H' (withK (comesUp j b a r).1 k1 k2) → Tabs (tabT Pt) H' → Fr (fun c => Foot j c ∨ c = a) H H' → (k1 = j.l.kl ∨ NewA H k1) → (k2 = j.r.kl ∨ NewA H k2) → Q (.ref l) H'
theorem scComes : FnScope ["join", "side", "row"] ["join", "side", "row"] (defScope zComes) := ⟨rfl, rfl, rfl, by decide +kernel, rfl, by decide +kernel, by decide +kernel⟩
theorem ok_comes {f Pt : Addr} {fd : FuncData} (F : Fun K "row_comes" "row_comes" zComes f fd) (T : Txt K mg CR CS CJ)
    (dO : MDef P w K mg base 1 CJ "other" ["self", "side"] (spOther CS CJ)) (dM : Def P w K mg base 2 "meet_kept_rows" ["side", "other", "row"] (spMeet CR CS)) (dA : Def P w K mg base 3 "ask_or_wait" ["join", "row"] (spAsk CR CS CJ)) (dV : Def P w K mg base 2 "drop_versions" ["join"] (spDropV CR CS CJ)) :
    FnOk P w K mg base CX0 4 f fd ["join", "side", "row"] (spComes CR CS CJ Pt) := by
  obtain ⟨fO, fdO, GO, mO, bO⟩ := dO
  obtain ⟨fM, fdM, GM, gM, kM, bM⟩ := dM
  obtain ⟨fA, fdA, GA, gA, kA, bA⟩ := dA
  obtain ⟨fV, fdV, GV, gV, kV, bV⟩ := dV
  refine F.ok scComes (fun vs H Q E h => ?_) (fun cdv A outer s H vs Q E hr h => ⟨_, pss_cons (ps_if (pt_not (pt_val (pe_fld (pv 0) rfl))) (pss_one (ps_ret (pe_call GM (hr.mono (by decide)) rfl gM kM bM .nil pass0 (pa_cons (pv 1) (pa_cons (pe_meth (pv 0) T.cJ mO GO (hr.mono (by decide)) bO .nil pass0 (pa_cons (pv 1) pa_nil)) (pa_cons (pv 2) pa_nil)))))) pss_nil)
    (pss_cons (ps_if (pt_val (pe_fld (pv 1) rfl)) (pss_one (ps_ret (pe_call GA hr rfl gA kA bA .nil pass0 (pa_cons (pv 0) (pa_cons (pv 2) pa_nil))))) pss_nil)
    (pss_cons (ps_expr (pe_bm PySem.F.plainAttrs_list PySem.F.slot_list_append PySem.F.type_list_append mt_append (pe_fld (pe_fld (pv 0) rfl) rfl) (pa_cons (pv 2) pa_nil)))
    (pss_cons (ps_expr (pe_call GV (hr.mono (by decide)) rfl gV kV bV .nil pass0 (pa_cons (pv 0) pa_nil)))
    (pss_one (ps_ret (pe_lst pa_nil)))))), ?_⟩)
  · obtain ⟨j, b, a, r, rfl, _⟩ := h
    rfl
  · obtain ⟨j, b, a, r, rfl, J, hT, ⟨da, ha⟩, met, na, ll, lr, q⟩ := h
    obtain ⟨dj, hj⟩ := J.ho
    refine ⟨_, rfl, j.at_, CJ, dj, _, _, rfl, hj, T.cJ, T.Jm, jF_mom j, j.mom, rfl, ?_⟩
    cases e : j.mom with
    | false =>
      refine iteT_of rfl ?_
      cases b with
      | true =>
        have eq : comesUp j true a r = (meetL j a r, meetCh j.l r j.r) := by unfold comesUp; rw [if_neg (by rw [e]; exact Bool.false_ne_true), if_pos rfl]
        rw [eq] at q
        obtain ⟨ds, hs⟩ := J.hl.o
        refine ⟨_, rfl, _, rfl, j.at_, dj, _, rfl, hj, jF_other j, _, rfl, j, j.l, rfl, ⟨dj, hj⟩, ⟨ds, hs⟩, _, rfl, j.l, j.r, a, r, ?_, ⟨J.hl, J.hr, ⟨da, ha⟩, met, J.so, J.kk, J.nd, na, by omega, by omega⟩, fun H' l hl c S1 S2 fr => ?_⟩
        · rw [if_pos J.isl]
          rfl
        · have fF : ∀ b c, H b = some c → ¬ (Foot j b ∨ b = a) → H' b = some c := fun b c e k => fr b c e (fun z => k (.inl (.inr (.inr (.inl z))))) (fun z => k (.inr z)) fun p hp z => k (.inl (.inr (.inr (.inr (.inr ⟨p, List.mem_append_right _ hp, z⟩)))))
          exact q H' j.l.kl j.r.kl l c ⟨⟨dj, fF _ _ hj (J.nfA ⟨da, ha⟩)⟩, S1, S2, J.isl, J.isr, J.kk, nd_meet J.nd na⟩ (tabs_fr hT fF (J.kindA ⟨da, ha⟩)) (fun b c e k _ => fF b c e k) (.inl rfl) (.inl rfl)
      | false =>
        have eq : comesUp j false a r = (meetR j a r, meetCh j.r r j.l) := by unfold comesUp; rw [if_neg (by rw [e]; exact Bool.false_ne_true), if_neg Bool.false_ne_true]
        rw [eq] at q
        obtain ⟨ds, hs⟩ := J.hr.o
        have na' : ∀ p ∈ j.r.kept ++ j.l.kept, p.1 ≠ a := fun p hp => na p ((List.mem_append.mp hp).elim (fun z => List.mem_append_right _ z) fun z => List.mem_append_left _ z)
        refine ⟨_, rfl, _, rfl, j.at_, dj, _, rfl, hj, jF_other j, _, rfl, j, j.r, rfl, ⟨dj, hj⟩, ⟨ds, hs⟩, _, rfl, j.r, j.l, a, r, ?_, ⟨J.hr, J.hl, ⟨da, ha⟩, met, Ne.symm J.so, Ne.symm J.kk, nd_comm J.nd, na', by omega, by omega⟩, fun H' l hl c S1 S2 fr => ?_⟩
        · rw [if_neg (by rw [J.isr]; exact Bool.false_ne_true)]
          rfl
        · have fF : ∀ b c, H b = some c → ¬ (Foot j b ∨ b = a) → H' b = some c := fun b c e k => fr b c e (fun z => k (.inl (.inr (.inr (.inr (.inl z)))))) (fun z => k (.inr z)) fun p hp z => k (.inl (.inr (.inr (.inr (.inr ⟨p, List.mem_append_left _ hp, z⟩)))))
          exact q H' j.l.kl j.r.kl l c ⟨⟨dj, fF _ _ hj (J.nfA ⟨da, ha⟩)⟩, S2, S1, J.isl, J.isr, J.kk, nd_comm (nd_meet (nd_comm J.nd) na')⟩ (tabs_fr hT fF (J.kindA ⟨da, ha⟩)) (fun b c e k _ => fF b c e k) (.inl rfl) (.inl rfl)
    | true =>
      refine iteF_of rfl ?_
      obtain ⟨ds, hs⟩ : SideO CS H (sideOf j b) := by
        cases b with
        | true => exact J.hl.o
        | false => exact J.hr.o
      refine ⟨_, rfl, (sideOf j b).at_, CS, ds, _, _, rfl, hs, T.cS, T.Sl, sF_is_left _, (sideOf j b).isL, rfl, ?_⟩
      cases b with
      | true =>
        have eq : comesUp j true a r = if r.t < j.r.mark then (j, [momentC j r]) else (addL j (a, r), []) := by unfold comesUp; rw [if_pos e, if_pos rfl]
        rw [eq] at q
        refine iteT_of J.isl ?_
        refine ⟨_, rfl, _, rfl, j, a, r, rfl, J, ⟨da, ha⟩, by omega, fun c H' l hl ch s1 => ?_, fun c H' l hl ch kl fr => ?_⟩
        · rw [if_pos c] at q
          exact q H' j.l.kl j.r.kl l ch (J.same s1) (hT.ext s1) (Fr.of_same s1) (.inl rfl) (.inl rfl)
        · rw [if_neg c] at q
          have fF : ∀ b c, H b = some c → ¬ (Foot j b ∨ b = a) → H' b = some c := fun b c e k => fr b c e (fun z => k (.inl (.inr (.inr (.inl z)))))
          obtain ⟨dl, hl'⟩ := J.hl.o
          obtain ⟨dr, hr'⟩ := J.hr.o
          refine q H' j.l.kl j.r.kl l ch ⟨⟨dj, fF _ _ hj (J.nfA ⟨da, ha⟩)⟩, ⟨⟨dl, fr _ _ hl' (Ne.symm J.nkl.1)⟩, kl, fun p hp => ?_⟩, ⟨⟨dr, fr _ _ hr' (Ne.symm J.nkl.2.1)⟩, fr _ _ J.hr.k (Ne.symm J.kk), fun p hp => ?_⟩, J.isl, J.isr, J.kk, nd_addL J.nd na⟩ (tabs_fr hT fF (J.kindA ⟨da, ha⟩)) (fun b c e k _ => fF b c e k) (.inl rfl) (.inl rfl)
          · rcases List.mem_append.mp hp with z | z
            · obtain ⟨dp, ep⟩ := J.hl.r p z
              exact ⟨dp, fr _ _ ep (Ne.symm (ne_of J.hl.k ep (by intro z; cases z)))⟩
            · rw [List.mem_singleton] at z
              subst z
              exact ⟨da, fr _ _ ha (Ne.symm (ne_of J.hl.k ha (by intro z; cases z)))⟩
          · obtain ⟨dp, ep⟩ := J.hr.r p hp
            exact ⟨dp, fr _ _ ep (Ne.symm (ne_of J.hl.k ep (by intro z; cases z)))⟩
      | false =>
        have eq : comesUp j false a r = (pruneJ (addR j (a, r)), []) := by unfold comesUp; rw [if_pos e, if_neg Bool.false_ne_true]
        rw [eq] at q
        refine iteF_of J.isr ?_
        have hs' : H j.r.at_ = some (.ins CS ds (sF j.r)) := hs
        obtain ⟨dl, hl'⟩ := J.hl.o
        refine ⟨_, rfl, j.at_, CJ, dj, _, _, rfl, hj, T.cJ, T.Jr, jF_right j, j.r.at_, CS, ds, _, _, rfl, hs', T.cS, T.Sk, sF_kept j.r, .inl ⟨rfl, _, SqL.of J.hr.k⟩, _, rfl, j.r.kl, _, _, rfl, rfl, J.hr.k, ?_, ?_⟩
        · rw [refsOf_len]
          exact small_of (by omega)
        · have f1 : ∀ b c, H b = some c → b ≠ j.r.kl → L2.upd H j.r.kl (.lst (refsOf j.r.kept ++ [.ref a])) b = some c := fun b c e h => by rw [upd_ne h]; exact e
          have k1 : L2.upd H j.r.kl (.lst (refsOf j.r.kept ++ [.ref a])) j.r.kl = some (.lst (refsOf (j.r.kept ++ [(a, r)]))) := by rw [upd_same, refsOf_snoc]
          have n1 : ∀ k, NewA (L2.upd H j.r.kl (.lst (refsOf j.r.kept ++ [.ref a]))) k → NewA H k := fun k n c e => by
            by_cases z : k = j.r.kl
            · obtain ⟨ps, e1⟩ := n _ (by rw [z]; exact upd_same)
              cases e1
            · exact n c (by rw [upd_ne z]; exact e)
          have T1 : Tabs (tabT Pt) (L2.upd H j.r.kl (.lst (refsOf j.r.kept ++ [.ref a]))) := tabs_upd hT (.inr (.inl ⟨_, J.hr.k⟩))
          generalize L2.upd H j.r.kl (.lst (refsOf j.r.kept ++ [.ref a])) = H1 at f1 k1 n1 T1 ⊢
          have J1 : JAt CR CS CJ H1 (addR j (a, r)) := by
            refine ⟨⟨dj, f1 _ _ hj (ne_of hj J.hr.k (by intro z; cases z))⟩, ⟨⟨dl, f1 _ _ hl' (Ne.symm J.nkl.2.2.1)⟩, f1 _ _ J.hl.k J.kk, fun p hp => ?_⟩, ⟨⟨ds, f1 _ _ hs' (Ne.symm J.nkl.2.2.2)⟩, k1, fun p hp => ?_⟩, J.isl, J.isr, J.kk, nd_addR J.nd na⟩
            · obtain ⟨dp, ep⟩ := J.hl.r p hp
              exact ⟨dp, f1 _ _ ep (Ne.symm (ne_of J.hr.k ep (by intro z; cases z)))⟩
            · rcases List.mem_append.mp hp with z | z
              · obtain ⟨dp, ep⟩ := J.hr.r p z
                exact ⟨dp, f1 _ _ ep (Ne.symm (ne_of J.hr.k ep (by intro z; cases z)))⟩
              · rw [List.mem_singleton] at z
                subst z
                exact ⟨da, f1 _ _ ha (Ne.symm (ne_of J.hr.k ha (by intro z; cases z)))⟩
          refine ⟨_, rfl, addR j (a, r), rfl, J1, by show j.l.kept.length ≤ 1000; omega, by show (j.r.kept ++ [(a, r)]).length ≤ 1000; rw [List.length_append]; show _ + 1 ≤ _; omega, fun H' k hk S fr => ⟨Nat.zero_le _, fun l hl => ?_⟩⟩
          obtain ⟨d2, e2⟩ := J1.hr.o
          have sl : Same H' (L2.upd H' l (.lst [])) := Same.upd hl
          have J2 := (J1.setR (Fr.one fr) S rfl J1.isr (ne_of_none J1.hl.k hk) (nd_sub J1.nd (List.Sublist.refl _) List.filter_sublist)).same sl
          refine q _ j.l.kl k l (ChL.nil upd_same) J2 ((tabs_one T1 e2 fr).ext sl) (fun b c e x _ => sl _ _ (fr b c (f1 b c e fun z => x (.inl (.inr (.inr (.inr (.inl z)))))) fun z => x (.inl (.inr (.inl z))))) (.inl rfl) (.inr (n1 _ (.of hk)))
end
end JS
end
section
set_option linter.all false
set_option maxRecDepth 100000
set_option maxHeartbeats 4000000
namespace JS
open Hs06 (Change St)
open PySem (Addr)
abbrev rws (l : List PR) : List R6 := l.map Prod.snd
def aloneL (s : St) : Bool := decide (s.sort = 1) || decide (s.sort = 2)
/-- the mirror's join stands for the specification's state -/
structure Rep (j : Jn) (s : St) : Prop where
  mom : j.mom = decide (s.sort = 3)
  lL : j.l.isL = true
  lr : j.l.reach = s.after
  lo : j.l.once = (aloneL s && s.eager)
  lf : j.l.fin = (aloneL s && !s.eager)
  lm : j.l.mark = s.markL
  lt : j.l.taken = s.countL
  lk : rws j.l.kept = s.lefts
  rL : j.r.isL = false
  rr : j.r.reach = s.ahead
  ro : j.r.once = (decide (s.sort = 2) && s.eager)
  rf : j.r.fin = (decide (s.sort = 2) && !s.eager)
  rm : j.r.mark = s.markR
  rt : j.r.taken = s.countR
  rk : rws j.r.kept = s.rights
  ra : j.l.aside + j.r.aside = s.aside
/-- what holds of every state that is reached -/
structure Good (s : St) : Prop where
  uL : Up s.lefts
  uR : Up s.rights
  iL : ∀ x ∈ s.lefts, x.id ≤ s.countL
  iR : ∀ x ∈ s.rights, x.id ≤ s.countR
  tL : ∀ x ∈ s.lefts, x.t ≤ Hs06.top
/-! ### by the rows alone -/
theorem holdP_rows : ∀ (l : List PR) (n : Option PR) (key t : Nat), (l.foldl (holdStepP key t) n).map Prod.snd = (rws l).foldl (holdStep key t) (n.map Prod.snd)
  | [], _, _, _ => rfl
  | v :: r, n, key, t => by
    rw [List.foldl_cons, holdP_rows r]
    show _ = (rws r).foldl (holdStep key t) (holdStep key t (n.map Prod.snd) v.2)
    congr 1
    unfold holdStepP holdStep
    split
    · cases n with
      | none => rfl
      | some y =>
        show Option.map Prod.snd (if y.2.t ≤ v.2.t then some v else some y) = if y.2.t ≤ v.2.t then some v.2 else some y.2
        split <;> rfl
    · rfl
theorem holdP_is (l : List PR) (key t : Nat) : (holdP l key t).map Prod.snd = holding (rws l) key t := holdP_rows l none key t
theorem isItP_is (o : Option PR) (n : Nat) : isItP o n = isIt (o.map Prod.snd) n := by cases o <;> rfl
theorem rws_filter (l : List PR) (f : R6 → Bool) : rws (l.filter fun p => f p.2) = (rws l).filter f := by
  induction l with
  | nil => rfl
  | cons p r ih =>
    show rws ((p :: r).filter fun p => f p.2) = (p.2 :: rws r).filter f
    rw [List.filter_cons, List.filter_cons]
    split
    · exact congrArg _ ih
    · exact ih
theorem rws_any (l : List PR) (f : R6 → Bool) : (l.any fun p => f p.2) = (rws l).any f := by
  rw [List.any_map]
  rfl
theorem notedP_is (j : Jn) (n : Nat) : notedP j n = noted (rws j.l.kept) (rws j.r.kept) j.l.mark n := by
  unfold notedP noted
  congr 1
  · rw [← rws_any]
    congr 1
    funext x
    unfold byLeft
    rw [isItP_is, holdP_is]
  · rw [← rws_any]
    congr 1
    funext x
    unfold byRight
    rw [isItP_is, holdP_is]
theorem keptV_is (j : Jn) : rws (keptV j) = (rws j.r.kept).filter fun r => noted (rws j.l.kept) (rws j.r.kept) j.l.mark r.id := by
  unfold keptV
  rw [rws_filter j.r.kept fun r => notedP j r.id]
  congr 1
  funext r
  exact notedP_is j r.id
/-- the versions that are kept -/
theorem prune_is {j : Jn} {s : St} (R : Rep j s) (G : Good s) : rws (keptV j) = (Hs06.pruned s).rights := by
  rw [keptV_is, R.lk, R.rk, R.lm, pruned_is G.uR G.tL]
theorem moment_is {j : Jn} {s : St} (R : Rep j s) (G : Good s) (r : R6) : momentC j r = Hs06.answered s r := by
  unfold momentC Hs06.answered
  have h := holdP_is j.r.kept r.key r.t
  rw [R.rk, holding_is G.uR] at h
  rw [← h]
  cases holdP j.r.kept r.key r.t with
  | none =>
    show aloneC j.l true r = (true, r.id, 0)
    unfold aloneC
    rw [if_pos R.lL]
  | some y =>
    show pairC j.l r y.2 = (true, r.id, y.2.id)
    unfold pairC
    rw [if_pos R.lL]
/-! ### in order by time, by number -/
def leR (x y : R6) : Bool := decide (x.t < y.t ∨ (x.t = y.t ∧ x.id ≤ y.id))
theorem leR_trans (a b c : R6) (h1 : leR a b = true) (h2 : leR b c = true) : leR a c = true := by
  unfold leR at *
  rw [decide_eq_true_eq] at *
  omega
theorem leR_total (a b : R6) : (leR a b || leR b a) = true := by
  unfold leR
  rw [Bool.or_eq_true, decide_eq_true_eq, decide_eq_true_eq]
  omega
theorem insert_perm (x : R6) : ∀ l : List R6, (Hs06.insertRow x l).Perm (x :: l)
  | [] => List.Perm.refl _
  | y :: r => by
    unfold Hs06.insertRow
    split
    · exact List.Perm.refl _
    · exact ((insert_perm x r).cons y).trans (List.Perm.swap _ _ _)
theorem insert_sorted (x : R6) : ∀ l : List R6, l.Pairwise (fun a b => leR a b = true) → (Hs06.insertRow x l).Pairwise fun a b => leR a b = true
  | [], _ => List.pairwise_singleton _ _
  | y :: r, h => by
    obtain ⟨h1, h2⟩ := List.pairwise_cons.mp h
    unfold Hs06.insertRow
    split
    · rename_i c
      have xy : leR x y = true := by
        unfold leR
        rw [decide_eq_true_eq]
        omega
      exact List.pairwise_cons.mpr ⟨fun z hz => by
        rcases List.mem_cons.mp hz with q | q
        · rw [q]; exact xy
        · exact leR_trans _ _ _ xy (h1 z q), h⟩
    · rename_i c
      have yx : leR y x = true := by
        unfold leR
        rw [decide_eq_true_eq]
        omega
      refine List.pairwise_cons.mpr ⟨fun z hz => ?_, insert_sorted x r h2⟩
      rcases List.mem_cons.mp ((insert_perm x r).mem_iff.mp hz) with q | q
      · rw [q]; exact yx
      · exact h1 z q
theorem sorted_perm : ∀ l : List R6, (l.foldr Hs06.insertRow []).Perm l
  | [] => List.Perm.refl _
  | x :: r => (insert_perm x _).trans ((sorted_perm r).cons x)
theorem sorted_sorted : ∀ l : List R6, (l.foldr Hs06.insertRow []).Pairwise fun a b => leR a b = true
  | [] => List.Pairwise.nil
  | x :: r => insert_sorted x _ (sorted_sorted r)
theorem sort_is {l : List R6} (u : Up l) : l.mergeSort leR = l.foldr Hs06.insertRow [] := by
  refine List.Perm.eq_of_pairwise (le := fun a b => leR a b = true) (fun a b ha hb h1 h2 => ?_) (List.pairwise_mergeSort leR_trans leR_total l) (sorted_sorted l) ((List.mergeSort_perm l leR).trans (sorted_perm l).symm)
  have ha' : a ∈ l := List.mem_mergeSort.mp ha
  have hb' : b ∈ l := (sorted_perm l).mem_iff.mp hb
  refine up_inj u ha' hb' ?_
  unfold leR at h1 h2
  rw [decide_eq_true_eq] at h1 h2
  omega
theorem due_is (j : Jn) (u : Up ((rws j.l.kept).filter fun r => decide (r.t < j.r.mark))) : rws (dueP j) = ((rws j.l.kept).filter fun r => decide (r.t < j.r.mark)).foldr Hs06.insertRow [] := by
  unfold dueP
  show (List.mergeSort _ leP).map Prod.snd = _
  rw [PySem.W.sort_maps Prod.snd (r := leP) (s := leR) fun a _ b _ => rfl]
  show (rws (j.l.kept.filter fun p => decide (p.2.t < j.r.mark))).mergeSort leR = _
  rw [rws_filter j.l.kept fun r => decide (r.t < j.r.mark), sort_is u]
/-! ### a row comes: sorts 0 to 2 -/
theorem flat_filter {β : Type} (f : R6 → Bool) (g : R6 → List β) : ∀ l : List PR, (l.flatMap fun p => if f p.2 = true then g p.2 else []) = ((rws l).filter f).flatMap g
  | [] => rfl
  | p :: r => by
    rw [List.flatMap_cons, flat_filter f g r]
    show _ = ((p.2 :: rws r).filter f).flatMap g
    rw [List.filter_cons]
    split
    · rw [List.flatMap_cons]
    · rfl
theorem any_empty (f : R6 → Bool) : ∀ l : List R6, l.any f = !(l.filter f).isEmpty
  | [] => rfl
  | x :: r => by
    rw [List.any_cons, List.filter_cons, any_empty f r]
    cases f x <;> simp
theorem decide_min (a b c : Nat) : (decide (a ≤ b) && decide (a ≤ c)) = decide (a ≤ min b c) := by
  rw [Bool.eq_iff_iff, Bool.and_eq_true, decide_eq_true_eq, decide_eq_true_eq, decide_eq_true_eq]
  omega
theorem touch_rows (f : R6 → Bool) (g : PR → PR) (hg : ∀ p, (g p).2 = Hs06.touchRow f p.2) (l : List PR) : rws (l.map g) = (rws l).map (Hs06.touchRow f) := by
  unfold rws
  rw [List.map_map, List.map_map]
  exact List.map_congr_left fun p _ => hg p
section
variable {j : Jn} {s : St}
theorem meets_l (R : Rep j s) (r p : R6) : meetsB j.l r j.r p = Hs06.meets s r p := by
  unfold meetsB Hs06.meets
  rw [R.lr, R.rr]
  by_cases h : r.key = p.key
  · rw [if_pos h, h]
    simp
  · rw [if_neg h]
    have : (r.key == p.key) = false := by simpa using h
    rw [this, Bool.false_and]
theorem meets_r (R : Rep j s) (r p : R6) : meetsB j.r r j.l p = Hs06.meets s p r := by
  unfold meetsB Hs06.meets
  rw [R.lr, R.rr]
  by_cases h : r.key = p.key
  · rw [if_pos h, h]
    simp only [beq_self_eq_true, Bool.true_and]
    exact Bool.and_comm _ _
  · rw [if_neg h]
    have : (p.key == r.key) = false := by
      simp only [beq_eq_false_iff_ne]
      exact fun z => h z.symm
    rw [this, Bool.false_and]
theorem wanted_l (R : Rep j s) (r : R6) : wantedB j.l r j.r.mark = Hs06.leftWanted s r := by
  unfold wantedB Hs06.leftWanted
  rw [R.lr, R.rm]
  exact decide_min _ _ _
theorem wanted_r (R : Rep j s) (r : R6) : wantedB j.r r j.l.mark = Hs06.rightWanted s r := by
  unfold wantedB Hs06.rightWanted
  rw [R.rr, R.lm]
  exact decide_min _ _ _
theorem alone_l (R : Rep j s) (b : Bool) (r : R6) : aloneC j.l b r = (b, r.id, 0) := by unfold aloneC; rw [if_pos R.lL]
theorem alone_r (R : Rep j s) (b : Bool) (r : R6) : aloneC j.r b r = (b, 0, r.id) := by unfold aloneC; rw [if_neg (by rw [R.rL]; exact Bool.false_ne_true)]
theorem pair_l (R : Rep j s) (r p : R6) : pairC j.l r p = (true, r.id, p.id) := by unfold pairC; rw [if_pos R.lL]
theorem pair_r (R : Rep j s) (r p : R6) : pairC j.r r p = (true, p.id, r.id) := by unfold pairC; rw [if_neg (by rw [R.rL]; exact Bool.false_ne_true)]
theorem leftAlone_is (s : St) : Hs06.leftAlone s = aloneL s := by
  unfold Hs06.leftAlone aloneL
  rw [Bool.eq_iff_iff]
  simp
theorem rightAlone_is (s : St) : Hs06.rightAlone s = decide (s.sort = 2) := by
  unfold Hs06.rightAlone
  rw [Bool.eq_iff_iff]
  simp
theorem if_same {c d : Prop} [Decidable c] [Decidable d] {α : Type} {a b : α} (h : c ↔ d) : (if c then a else b) = if d then a else b := by
  by_cases x : c
  · rw [if_pos x, if_pos (h.mp x)]
  · rw [if_neg x, if_neg (fun y => x (h.mpr y))]
theorem meetCh_l (R : Rep j s) (key t : Nat) : meetCh j.l ⟨s.countL + 1, key, t, false⟩ j.r = (Hs06.leftComes s key t).2 := by
  unfold meetCh Hs06.leftComes
  dsimp only
  have e1 : j.r.kept.flatMap (meetOne j.l ⟨s.countL + 1, key, t, false⟩ j.r) = (s.rights.filter fun r => Hs06.meets s ⟨s.countL + 1, key, t, false⟩ r).flatMap fun r => (if Hs06.rightAlone s = true ∧ s.eager = true ∧ r.met = false then [(false, 0, r.id)] else []) ++ [(true, s.countL + 1, r.id)] := by
    rw [← R.rk, ← flat_filter]
    congr 1
    funext p
    unfold meetOne
    rw [meets_l R, alone_r R, pair_l R, R.ro, rightAlone_is]
    congr 2
    refine if_same ?_
    simp [and_assoc]
  have e2 : metAny j.l ⟨s.countL + 1, key, t, false⟩ j.r j.r.kept = !(s.rights.filter fun r => Hs06.meets s ⟨s.countL + 1, key, t, false⟩ r).isEmpty := by
    rw [← any_empty, ← R.rk, ← rws_any]
    unfold metAny
    congr 1
    funext p
    exact meets_l R _ _
  rw [e1, e2, wanted_l R, alone_l R, R.lo, R.lf, leftAlone_is]
  congr 1
  refine if_same ?_
  cases aloneL s <;> cases s.eager <;> simp [and_comm]
theorem meetCh_r (R : Rep j s) (key t : Nat) : meetCh j.r ⟨s.countR + 1, key, t, false⟩ j.l = (Hs06.rightComes s key t).2 := by
  unfold meetCh Hs06.rightComes
  dsimp only
  have e1 : j.l.kept.flatMap (meetOne j.r ⟨s.countR + 1, key, t, false⟩ j.l) = (s.lefts.filter fun l => Hs06.meets s l ⟨s.countR + 1, key, t, false⟩).flatMap fun l => (if Hs06.leftAlone s = true ∧ s.eager = true ∧ l.met = false then [(false, l.id, 0)] else []) ++ [(true, l.id, s.countR + 1)] := by
    rw [← R.lk, ← flat_filter]
    congr 1
    funext p
    unfold meetOne
    rw [meets_r R, alone_l R, pair_r R, R.lo, leftAlone_is]
    congr 2
    refine if_same ?_
    simp [and_assoc]
  have e2 : metAny j.r ⟨s.countR + 1, key, t, false⟩ j.l j.l.kept = !(s.lefts.filter fun l => Hs06.meets s l ⟨s.countR + 1, key, t, false⟩).isEmpty := by
    rw [← any_empty, ← R.lk, ← rws_any]
    unfold metAny
    congr 1
    funext p
    exact meets_r R _ _
  rw [e1, e2, wanted_r R, alone_r R, R.ro, R.rf, rightAlone_is]
  congr 1
  refine if_same ?_
  cases decide (s.sort = 2) <;> cases s.eager <;> simp [and_comm]
def takeJ (j : Jn) (b : Bool) : Jn := if b = true then { j with l := { j.l with taken := j.l.taken + 1 } } else { j with r := { j.r with taken := j.r.taken + 1 } }
theorem metAny_l (R : Rep j s) (r : R6) : metAny j.l r j.r j.r.kept = !(s.rights.filter fun x => Hs06.meets s r x).isEmpty := by
  rw [← any_empty, ← R.rk, ← rws_any]
  unfold metAny
  congr 1
  funext p
  exact meets_l R _ _
theorem metAny_r (R : Rep j s) (r : R6) : metAny j.r r j.l j.l.kept = !(s.lefts.filter fun x => Hs06.meets s x r).isEmpty := by
  rw [← any_empty, ← R.lk, ← rws_any]
  unfold metAny
  congr 1
  funext p
  exact meets_r R _ _
theorem touch_l (R : Rep j s) (r : R6) : rws (j.r.kept.map (touchP j.l r j.r)) = s.rights.map (Hs06.touchRow fun x => Hs06.meets s r x) := by
  rw [← R.rk]
  refine touch_rows _ _ (fun p => ?_) _
  unfold touchP Hs06.touchRow
  rw [meets_l R]
  split <;> rfl
theorem touch_r (R : Rep j s) (r : R6) : rws (j.l.kept.map (touchP j.r r j.l)) = s.lefts.map (Hs06.touchRow fun x => Hs06.meets s x r) := by
  rw [← R.lk]
  refine touch_rows _ _ (fun p => ?_) _
  unfold touchP Hs06.touchRow
  rw [meets_r R]
  split <;> rfl
theorem rws_snoc (l : List PR) (p : PR) : rws (l ++ [p]) = rws l ++ [p.2] := by simp [rws]
theorem up_snoc {l : List R6} {x : R6} (u : Up l) (h : ∀ y ∈ l, y.id < x.id) : Up (l ++ [x]) := by
  unfold Up
  rw [List.pairwise_append]
  refine ⟨u, List.pairwise_singleton _ _, fun a ha b hb => ?_⟩
  rw [List.mem_singleton] at hb
  rw [hb]
  exact h a ha
/-- a left row is taken -/
theorem comes_l (R : Rep j s) (G : Good s) (a : Addr) (key t : Nat) : Rep (comesUp (takeJ j true) true a ⟨s.countL + 1, key, t, false⟩).1 (Hs06.does s (.left key t)).1 ∧ (comesUp (takeJ j true) true a ⟨s.countL + 1, key, t, false⟩).2 = (Hs06.does s (.left key t)).2 := by
  by_cases h3 : s.sort = 3
  · have hm : (takeJ j true).mom = true := R.mom.trans (decide_eq_true h3)
    have ed : Hs06.does s (.left key t) = Hs06.leftAsks s key t := if_pos h3
    have ec : comesUp (takeJ j true) true a ⟨s.countL + 1, key, t, false⟩ = if t < j.r.mark then (takeJ j true, [momentC (takeJ j true) ⟨s.countL + 1, key, t, false⟩]) else (addL (takeJ j true) (a, ⟨s.countL + 1, key, t, false⟩), []) := by
      unfold comesUp
      rw [if_pos hm, if_pos rfl]
      rfl
    rw [ec, ed]
    unfold Hs06.leftAsks
    dsimp only
    rw [R.rm]
    by_cases c : t < s.markR
    · rw [if_pos c, if_pos c]
      exact ⟨{ R with lt := congrArg (· + 1) R.lt }, congrArg (fun z => [z]) (moment_is R G _)⟩
    · rw [if_neg c, if_neg c]
      exact ⟨{ R with lt := congrArg (· + 1) R.lt, lk := (rws_snoc _ _).trans (by rw [show rws (takeJ j true).l.kept = s.lefts from R.lk]) }, rfl⟩
  · have hm : ¬ (takeJ j true).mom = true := by
      rw [show (takeJ j true).mom = j.mom from rfl, R.mom, decide_eq_true_eq]
      exact h3
    have ed : Hs06.does s (.left key t) = Hs06.leftComes s key t := if_neg h3
    have ec : comesUp (takeJ j true) true a ⟨s.countL + 1, key, t, false⟩ = (meetL (takeJ j true) a ⟨s.countL + 1, key, t, false⟩, meetCh (takeJ j true).l ⟨s.countL + 1, key, t, false⟩ (takeJ j true).r) := by
      unfold comesUp
      rw [if_neg hm, if_pos rfl]
    rw [ec, ed]
    refine ⟨?_, meetCh_l R key t⟩
    refine { R with lt := congrArg (· + 1) R.lt, rk := touch_l R _, lk := ?_ }
    show rws (if wantedB j.l _ j.r.mark = true then j.l.kept ++ [(a, _)] else j.l.kept) = if Hs06.leftWanted s _ = true then s.lefts ++ [_] else s.lefts
    rw [wanted_l R]
    split
    · rw [rws_snoc, R.lk]
      refine congrArg (fun z => s.lefts ++ [z]) ?_
      show meetRow j.l _ j.r = _
      unfold meetRow
      rw [metAny_l R]
    · exact R.lk
theorem comes_r (R : Rep j s) (G : Good s) (a : Addr) (key t : Nat) : Rep (comesUp (takeJ j false) false a ⟨s.countR + 1, key, t, false⟩).1 (Hs06.does s (.right key t)).1 ∧ (comesUp (takeJ j false) false a ⟨s.countR + 1, key, t, false⟩).2 = (Hs06.does s (.right key t)).2 := by
  by_cases h3 : s.sort = 3
  · have hm : (takeJ j false).mom = true := R.mom.trans (decide_eq_true h3)
    have ed : Hs06.does s (.right key t) = (Hs06.versionComes s key t, []) := if_pos h3
    have ec : comesUp (takeJ j false) false a ⟨s.countR + 1, key, t, false⟩ = (pruneJ (addR (takeJ j false) (a, ⟨s.countR + 1, key, t, false⟩)), []) := by
      unfold comesUp
      rw [if_pos hm, if_neg Bool.false_ne_true]
    rw [ec, ed]
    have R1 : Rep (addR (takeJ j false) (a, ⟨s.countR + 1, key, t, false⟩)) { s with countR := s.countR + 1, rights := s.rights ++ [⟨s.countR + 1, key, t, false⟩] } :=
      { R with rt := congrArg (· + 1) R.rt, rk := (rws_snoc _ _).trans (by rw [show rws (takeJ j false).r.kept = s.rights from R.rk]) }
    have i1 : ∀ x ∈ s.rights ++ [(⟨s.countR + 1, key, t, false⟩ : R6)], x.id ≤ s.countR + 1 := fun x hx => by
      rcases List.mem_append.mp hx with z | z
      · exact Nat.le_succ_of_le (G.iR x z)
      · rw [List.mem_singleton] at z
        rw [z]
        exact Nat.le_refl _
    have G1 : Good { s with countR := s.countR + 1, rights := s.rights ++ [⟨s.countR + 1, key, t, false⟩] } :=
      { G with uR := up_snoc G.uR fun y hy => Nat.lt_succ_of_le (G.iR y hy), iR := i1 }
    exact ⟨{ R1 with rk := prune_is R1 G1 }, rfl⟩
  · have hm : ¬ (takeJ j false).mom = true := by
      rw [show (takeJ j false).mom = j.mom from rfl, R.mom, decide_eq_true_eq]
      exact h3
    have ed : Hs06.does s (.right key t) = Hs06.rightComes s key t := if_neg h3
    have ec : comesUp (takeJ j false) false a ⟨s.countR + 1, key, t, false⟩ = (meetR (takeJ j false) a ⟨s.countR + 1, key, t, false⟩, meetCh (takeJ j false).r ⟨s.countR + 1, key, t, false⟩ (takeJ j false).l) := by
      unfold comesUp
      rw [if_neg hm, if_neg Bool.false_ne_true]
    rw [ec, ed]
    refine ⟨?_, meetCh_r R key t⟩
    refine { R with rt := congrArg (· + 1) R.rt, lk := touch_r R _, rk := ?_ }
    show rws (if wantedB j.r _ j.l.mark = true then j.r.kept ++ [(a, _)] else j.r.kept) = if Hs06.rightWanted s _ = true then s.rights ++ [_] else s.rights
    rw [wanted_r R]
    split
    · rw [rws_snoc, R.rk]
      refine congrArg (fun z => s.rights ++ [z]) ?_
      show meetRow j.r _ j.l = _
      unfold meetRow
      rw [metAny_r R]
    · exact R.rk
/-! ### a mark goes up -/
theorem dropCh_r (R : Rep j s) : dropCh j.r j.l.mark j.r.kept = (s.rights.filter fun r => !Hs06.rightWanted s r && (!r.met && (Hs06.rightAlone s && !s.eager))).map fun r => (true, 0, r.id) := by
  unfold dropCh
  have e : (fun p : PR => !wantedB j.r p.2 j.l.mark && (j.r.fin && !p.2.met)) = fun p : PR => (fun r : R6 => !Hs06.rightWanted s r && (!r.met && (Hs06.rightAlone s && !s.eager))) p.2 := by
    funext p
    rw [wanted_r R, R.rf, rightAlone_is, Bool.and_comm (_ && _) (!p.2.met)]
  rw [e, ← R.rk, ← rws_filter]
  unfold rws
  rw [List.map_map]
  exact List.map_congr_left fun p _ => alone_r R _ _
theorem dropCh_l (R : Rep j s) : dropCh j.l j.r.mark j.l.kept = (s.lefts.filter fun l => !Hs06.leftWanted s l && (!l.met && (Hs06.leftAlone s && !s.eager))).map fun l => (true, l.id, 0) := by
  unfold dropCh
  have e : (fun p : PR => !wantedB j.l p.2 j.r.mark && (j.l.fin && !p.2.met)) = fun p : PR => (fun r : R6 => !Hs06.leftWanted s r && (!r.met && (Hs06.leftAlone s && !s.eager))) p.2 := by
    funext p
    rw [wanted_l R, R.lf, leftAlone_is, Bool.and_comm (_ && _) (!p.2.met)]
  rw [e, ← R.lk, ← rws_filter]
  unfold rws
  rw [List.map_map]
  exact List.map_congr_left fun p _ => alone_l R _ _
theorem up_l (R : Rep j s) (G : Good s) (m : Nat) : Rep (markUp j true m).1 (Hs06.does s (.markL m)).1 ∧ (markUp j true m).2 = (Hs06.does s (.markL m)).2 := by
  have R1 : Rep (markSet j true m) { s with markL := m } := { R with lm := rfl }
  have G1 : Good { s with markL := m } := { G with }
  by_cases h3 : s.sort = 3
  · rw [markUp_tt (R.mom.trans (decide_eq_true h3)), show Hs06.does s (.markL m) = (Hs06.markAsks s m, []) from if_pos h3]
    exact ⟨{ R1 with rk := prune_is R1 G1 }, rfl⟩
  · rw [markUp_ft (R.mom.trans (decide_eq_false h3)), show Hs06.does s (.markL m) = Hs06.markLeft s m from if_neg h3]
    refine ⟨{ R1 with rk := ?_ }, dropCh_r R1⟩
    show rws ((markSet j true m).r.kept.filter fun p => wantedB (markSet j true m).r p.2 (markSet j true m).l.mark) = _
    have e : (fun p : PR => wantedB (markSet j true m).r p.2 (markSet j true m).l.mark) = fun p : PR => Hs06.rightWanted { s with markL := m } p.2 := by
      funext p
      exact wanted_r R1 p.2
    rw [e, rws_filter, R1.rk]
    rfl
theorem up_r (R : Rep j s) (G : Good s) (m : Nat) : Rep (markUp j false m).1 (Hs06.does s (.markR m)).1 ∧ (markUp j false m).2 = (Hs06.does s (.markR m)).2 := by
  have R1 : Rep (markSet j false m) { s with markR := m } := { R with rm := rfl }
  have G1 : Good { s with markR := m } := { G with }
  by_cases h3 : s.sort = 3
  · rw [markUp_tf (R.mom.trans (decide_eq_true h3)), show Hs06.does s (.markR m) = Hs06.markVersions s m from if_pos h3]
    have lk2 : rws ((markSet j false m).l.kept.filter fun p => decide (m ≤ p.2.t)) = s.lefts.filter fun l => decide (m ≤ l.t) := by
      rw [rws_filter (markSet j false m).l.kept fun r => decide (m ≤ r.t), R1.lk]
    have R2 : Rep (waitJ (markSet j false m)) { s with markR := m, lefts := s.lefts.filter fun l => decide (m ≤ l.t) } := { R1 with lk := lk2 }
    have G2 : Good { s with markR := m, lefts := s.lefts.filter fun l => decide (m ≤ l.t) } :=
      { G1 with uL := up_filter G.uL _, iL := fun x hx => G.iL x (List.mem_filter.mp hx).1, tL := fun x hx => G.tL x (List.mem_filter.mp hx).1 }
    refine ⟨{ R2 with rk := prune_is R2 G2 }, ?_⟩
    show tellCh (markSet j false m) = ((s.lefts.filter fun l => decide (l.t < m)).foldr Hs06.insertRow []).map (Hs06.answered s)
    have e := due_is (markSet j false m) (by rw [R1.lk]; exact up_filter G.uL _)
    rw [R1.lk] at e
    have e : rws (dueP (markSet j false m)) = (s.lefts.filter fun l => decide (l.t < m)).foldr Hs06.insertRow [] := e
    rw [← e]
    unfold tellCh rws
    rw [List.map_map]
    exact List.map_congr_left fun p _ => moment_is R1 G1 p.2
  · rw [markUp_ff (R.mom.trans (decide_eq_false h3)), show Hs06.does s (.markR m) = Hs06.markRight s m from if_neg h3]
    refine ⟨{ R1 with lk := ?_ }, dropCh_l R1⟩
    show rws ((markSet j false m).l.kept.filter fun p => wantedB (markSet j false m).l p.2 (markSet j false m).r.mark) = _
    have e : (fun p : PR => wantedB (markSet j false m).l p.2 (markSet j false m).r.mark) = fun p : PR => Hs06.leftWanted { s with markR := m } p.2 := by
      funext p
      exact wanted_l R1 p.2
    rw [e, rws_filter, R1.lk]
    rfl
end
end JS
end
section
set_option linter.all false
set_option maxRecDepth 100000
set_option maxHeartbeats 4000000
namespace JS
open PySem PySem.Spec PyProof.Rows L2 LamX
/-- xs.extend(t), t a tuple as it lies in the heap -/
theorem ext_tuple (l b : Addr) (xs ys : Array Value) (n n2 : Nat) (od : Option Addr) (sl : Array (Option Value)) (h0 : ¬ (!xs.isEmpty && Builtin.List.listTooLong (xs.size + ys.size)) = true) (h1 : xs.size ≤ sizeLine) (h2 : xs.size + ys.size ≤ sizeLine + 1) :
    Meets (Builtin.«list.extend» ⟨[.ref l, .ref b], []⟩) fun _ R s => s.heap.get? l = some ⟨.type "list", none, .seq xs n, #[]⟩ ∧ s.heap.get? b = some ⟨.type "tuple", od, .seq ys n2, sl⟩ ∧
      R (.ok (.ret Value.none)) { s with heap := s.heap.update l (Obj.mapSeq fun x => x ++ ys), toks := s.toks } :=
  .of_wp fun prog w A R s ⟨hl, hb, h⟩ => by
    obtain ⟨hp, g, d, tk, os⟩ := s
    have q1 := AutoSeq1.idx_int
    have q2 := AutoSeq1.sub_tuple_tuple
    have q3 := AutoSeq1.sub_list_list
    have q4 := AutoSeq1.sub_tuple_list
    have q5 := AutoSeq1.sub_list_tuple
    have hz : (xs ++ ys).size ≤ sizeLine + 1 := (Array.size_append (xs := xs) (ys := ys)).symm ▸ h2
    wp_walk using (wpAny_updateSeq hl rfl (hz := h1) (_hz' := hz)), wpAny_loadPart' hl, wpAny_loadPart' hb
    exact ⟨_, rfl, h⟩
end JS
end
section
set_option linter.all false
set_option maxRecDepth 100000
set_option maxHeartbeats 4000000
namespace JS
open PySem PySem.Spec PyProof.Rows L2 LamX
def rExtT : V → List V → Hp → VK → Prop := fun x vs H Q => ∃ l b xs zs, x = .ref l ∧ vs = [.ref b] ∧ H l = some (.lst xs) ∧ H b = some (.tup zs) ∧ xs.length + zs.length ≤ sizeLine ∧ Q .non (upd H l (.lst (xs ++ zs)))
theorem mt_extT {X : Cx} : MtM X "list.extend" rExtT := by
  intro pins s σ H x vs v us Q I rx rv h
  obtain ⟨l, b, xs, zs, rfl, rfl, hH, hB, hz, q⟩ := h
  cases rx
  obtain ⟨u, rfl, ru⟩ := rv.one
  cases ru
  obtain ⟨z, its, n, r, hl, e⟩ := I.lstM hH
  obtain ⟨z2, its2, r2, o, ho, hc, n2, hd⟩ := I.hok b _ hB
  have len2 := r2.length
  obtain ⟨oc, od, dat, sl⟩ := o
  have hc : oc = .type "tuple" := hc
  have hd : dat = .seq its2.toArray n2 := hd
  subst hc hd
  have hsz : its.toArray.size + its2.toArray.size ≤ sizeLine := by
    rw [List.size_toArray, List.size_toArray]
    omega
  have hlong : ¬ (!its.toArray.isEmpty && Builtin.List.listTooLong (its.toArray.size + its2.toArray.size)) = true := by
    rw [notLongL hsz, Bool.and_false]
    exact Bool.false_ne_true
  have m := ext_tuple l b its.toArray its2.toArray n n2 od sl hlong (by omega) (Nat.le_succ_of_le hsz)
  refine call_meets PySem.F.slot_list_extend ⟨_, e, rfl⟩ PySem.F.entry_list_extend (PySem.F.args_list_extend_2 _ _) m ⟨e, ho, ?_⟩
  refine ⟨.non, _, I.lset (its' := its ++ its2) hH e (by simp) (r.append r2) ?_, rfl, q⟩
  rw [List.length_append]
  omega
theorem chV_ints (cs : List Chg) : (Hs06.ints (Hs06.changes cs)).map V.int = .int (cs.length : Int) :: cs.flatMap chV := by
  unfold Hs06.ints Hs06.changes
  rw [List.map_cons, List.map_cons]
  congr 1
  induction cs with
  | nil => rfl
  | cons c r ih =>
    rw [List.flatMap_cons, List.flatMap_cons, List.map_append, List.map_append, ih]
    rfl
/-- a list of tuples, as they lie in the heap -/
def PtL (H : Hp) (l : Addr) (L : List (List V)) : Prop := ∃ ps : List (Addr × List V), ps.map Prod.snd = L ∧ H l = some (.lst (refsOf ps)) ∧ ∀ p ∈ ps, H p.1 = some (.tup p.2)
theorem ChL.pt {H : Hp} {l : Addr} {cs : List Chg} (h : ChL H l cs) : PtL H l (cs.map chV) := by
  obtain ⟨ps, e1, e2, e3⟩ := h
  refine ⟨ps.map fun p => (p.1, chV p.2), ?_, ?_, fun p hp => ?_⟩
  · rw [← e1, List.map_map, List.map_map]
    rfl
  · rw [e2, refsOf, refsOf, List.map_map]
    rfl
  · obtain ⟨q, hq, rfl⟩ := List.mem_map.mp hp
    exact e3 q hq
theorem flat_len (n : Nat) : ∀ l : List (List V), (∀ x ∈ l, x.length ≤ n) → l.flatten.length ≤ n * l.length
  | [], _ => Nat.zero_le _
  | x :: r, h => by
    have h1 := h x (.head _)
    have h2 := flat_len n r fun y hy => h y (.tail _ hy)
    rw [List.flatten_cons, List.length_append, List.length_cons, Nat.mul_succ]
    omega
section
variable {P : Program} {w : World} {K : PySem.W.Frag} {mg : Str → Option Value} {base : Heap} {CR CS CJ : Addr}
/-! ### counted -/
def spCount : Sp := fun vs H Q _ => ∃ (l : Addr) (L : List (List V)), vs = [.ref l] ∧ PtL H l L ∧ L.length ≤ 10000 ∧ (∀ x ∈ L, x.length ≤ 4) ∧
  ∀ (H' : Hp) (n : Addr), H n = none → H' n = some (.lst (.int (L.length : Int) :: L.flatten)) → Same H H' → Q (.ref n) H'
theorem spCount_ch {vs : List V} {H : Hp} {Q : VK} {E : XK} (h : ∃ (l : Addr) (cs : List Chg), vs = [.ref l] ∧ ChL H l cs ∧ cs.length ≤ 10000 ∧
    ∀ (H' : Hp) (n : Addr), H n = none → H' n = some (.lst ((Hs06.ints (Hs06.changes cs)).map V.int)) → Same H H' → Q (.ref n) H') : spCount vs H Q E := by
  obtain ⟨l, cs, e, c, n, q⟩ := h
  refine ⟨l, cs.map chV, e, c.pt, by rw [List.length_map]; exact n, fun x hx => ?_, fun H' m hm h s1 => q H' m hm ?_ s1⟩
  · obtain ⟨c, _, rfl⟩ := List.mem_map.mp hx
    show 3 ≤ 4
    decide
  · rw [h, chV_ints, List.length_map, List.flatMap_def]
theorem scCount : FnScope ["parts", "numbers", "part"] ["parts"] (defScope zCount) := ⟨rfl, rfl, rfl, by decide +kernel, rfl, by decide +kernel, by decide +kernel⟩
theorem ok_count {f : Addr} {fd : FuncData} (F : Fun K "counted" "counted" zCount f fd) (T : Txt K mg CR CS CJ) : FnOk P w K mg base CX0 1 f fd ["parts"] spCount := by
  refine F.ok scCount (fun vs H Q E h => ?_) (fun cdv A outer s H vs Q E hr h => ⟨_, pss_cons (ps_set (i := 1) scCount.nd rfl (Or.inl rfl) (pe_lst (pa_cons (pe_callB call_len_seq (by rfl) T.bLen PySem.boot_len (pa_cons (pv 0) pa_nil)) pa_nil)))
    (pss_cons (ps_for PassesOwn.never rfl (pi_list (pv 0)) (pg_name (i := 2) scCount.nd rfl (Or.inl rfl))
      (pss_one (ps_expr (pe_bm PySem.F.plainAttrs_list PySem.F.slot_list_extend PySem.F.type_list_extend mt_extT (pv 1) (pa_cons (pv 2) pa_nil)))))
    (pss_one (ps_ret (pv 1)))), ?_⟩)
  · obtain ⟨l, L, rfl, _⟩ := h
    rfl
  · obtain ⟨l, L, rfl, ⟨ps, e1, e2, e3⟩, len, len4, q⟩ := h
    have lps : ps.length = L.length := by rw [← e1, List.length_map]
    refine ⟨_, rfl, l, _, rfl, .inl (SqL.of e2), by show 1 ≤ sizeLine; rw [sizeLine_eq]; decide, fun n hn => ?_⟩
    refine ⟨_, rfl, l, rfl, ⟨_, SqL.of ((Same.upd hn) _ _ e2)⟩, for_list (K := K) (a := l) (xs := refsOf ps)
      (fun i σ H' => ∃ v : Option V, σ = [some (.ref l), some (.ref n), v] ∧ Same H H' ∧ H' n = some (.lst (.int ((refsOf ps).length : Int) :: (L.take i).flatten)))
      ⟨none, rfl, Same.upd hn, upd_same⟩ (fun i σ H' _ ⟨_, _, s1, _⟩ => SqL.of (s1 _ _ e2)) ?_ ?_⟩
    · rintro i y σ H' hi ⟨v, rfl, s1, n1⟩
      obtain ⟨p, hp, rfl⟩ := refsOf_at hi
      have il : i < ps.length := (List.getElem?_eq_some_iff.mp hp).1
      have hc : L[i]? = some p.2 := by rw [← e1, List.getElem?_map, hp]; rfl
      have lf := flat_len 4 (L.take i) fun x hx => len4 x (List.mem_of_mem_take hx)
      have lp := len4 p.2 (mem_at hc)
      rw [List.length_take] at lf
      refine ⟨_, rfl, .inl ⟨rfl, _, SqL.of n1⟩, _, rfl, n, p.1, _, _, rfl, rfl, n1, s1 _ _ (e3 p (mem_at hp)), ?_, some (.ref p.1), rfl, fun b o q => ?_, ?_⟩
      · rw [List.length_cons, sizeLine_eq]
        omega
      · rw [upd_ne (ne_of_none q hn)]
        exact s1 b o q
      · rw [upd_same, take_more hc, List.flatten_append]
        simp
    · rintro σ H' ⟨v, rfl, s1, n1⟩
      rw [refsOf_len, lps, List.take_length] at n1
      exact ⟨_, rfl, q H' n hn n1 s1⟩
/-! ### begin_refusal -/
def begN (kind ahead after e : Nat) : Int := match Hs06.beginBad kind ahead after e with
  | some n => n
  | none => 0
def spBeg : Sp := fun vs H Q _ => ∃ (kind ahead after e : Nat), vs = [.int kind, .int ahead, .int after, .int e] ∧ ∀ H', Same H H' → Q (.int (begN kind ahead after e)) H'
theorem scBeg : FnScope ["kind", "ahead", "after", "eager"] ["kind", "ahead", "after", "eager"] (defScope zBeg) := ⟨rfl, rfl, rfl, by decide +kernel, rfl, by decide +kernel, by decide +kernel⟩
theorem intNe {a : Nat} {b : Int} (h : (a : Int) ≠ b) : decide (V.int (a : Int) = V.int b) = false := decide_eq_false fun z => h (by injection z)
theorem intEq {a : Nat} {b : Int} (h : (a : Int) = b) : decide (V.int (a : Int) = V.int b) = true := decide_eq_true (by rw [h])
theorem ok_beg {f : Addr} {fd : FuncData} (F : Fun K "begin_refusal" "begin_refusal" zBeg f fd) (T : Txt K mg CR CS CJ) : FnOk P w K mg base CX0 1 f fd ["kind", "ahead", "after", "eager"] spBeg := by
  obtain ⟨tA, gA⟩ := T.gAs
  obtain ⟨tF, gF⟩ := T.gFar
  refine F.ok scBeg (fun vs H Q E h => ?_) (fun cdv A outer s H vs Q E hr h => ⟨_, pss_cons (ps_if (pt_cmpR op_gt (pv 0) (pe_glob (v := .int 3) rfl gA ⟨_, rfl⟩) (nomark _)) (pss_one (ps_ret (pe_un un_neg pe_int))) pss_nil)
    (pss_cons (ps_if (PW.pt (pw_or (pt_cmpR op_gt (pv 1) (pe_glob (v := .int 100000) rfl gF ⟨_, rfl⟩) (nomark _)) (pw_or1 (pt_cmpR op_gt (pv 2) (pe_glob (v := .int 100000) rfl gF ⟨_, rfl⟩) (nomark _))))) (pss_one (ps_ret (pe_un un_neg pe_int))) pss_nil)
    (pss_cons (ps_if (PW.pt (pw_and (pt_cmpR op_eq (pv 0) (pe_glob (v := .int 3) rfl gA ⟨_, rfl⟩) (nomark _)) (pw_and1 (PW.pt (pw_or (pt_cmpR op_ne (pv 1) pe_int (nomark _)) (pw_or1 (pt_cmpR op_ne (pv 2) pe_int (nomark _)))))))) (pss_one (ps_ret (pe_un un_neg pe_int))) pss_nil)
    (pss_cons (ps_if (pt_cmpR op_gt (pv 3) pe_int (nomark _)) (pss_one (ps_ret (pe_un un_neg pe_int))) pss_nil)
    (pss_cons (ps_if (PW.pt (pw_and (pt_cmpR op_ne (pv 3) pe_int (nomark _)) (pw_and1 (pt_cmpR op_in_seq (pv 0) (pe_tup (pa_cons pe_int (pa_cons (pe_glob (v := .int 3) rfl gA ⟨_, rfl⟩) pa_nil))) (by rfl))))) (pss_one (ps_ret (pe_un un_neg pe_int))) pss_nil)
    (pss_one (ps_ret pe_int)))))), ?_⟩)
  · obtain ⟨kind, ahead, after, e, rfl, _⟩ := h
    rfl
  · obtain ⟨kind, ahead, after, e, rfl, q⟩ := h
    have q0 := q H (Same.refl H)
    unfold begN Hs06.beginBad at q q0
    refine ⟨_, rfl, _, _, rfl, rfl, _, rfl, ?_⟩
    by_cases c1 : 3 < kind
    · rw [if_pos c1] at q0
      exact iteT_of (decide_eq_true (by omega)) ⟨_, rfl, q0⟩
    rw [if_neg c1] at q0
    refine iteF_of (decide_eq_false (by omega)) ?_
    refine ⟨_, rfl, _, _, rfl, rfl, _, rfl, ?_⟩
    refine or_test (d := decide (100000 < after)) (fun Q' h' => ⟨_, rfl, _, _, rfl, rfl, _, rfl, ?_⟩) ?_
    · have : decide ((100000 : Int) < (after : Int)) = decide (100000 < after) := by
        rw [decide_eq_decide]
        omega
      rw [this]
      exact h'
    have c2e : (decide ((100000 : Int) < (ahead : Int)) || decide (100000 < after)) = decide (100000 < ahead ∨ 100000 < after) := by
      rw [Bool.eq_iff_iff, Bool.or_eq_true, decide_eq_true_eq, decide_eq_true_eq, decide_eq_true_eq]
      omega
    rw [c2e]
    by_cases c2 : 100000 < ahead ∨ 100000 < after
    · rw [if_pos (by omega)] at q0
      exact iteT_of (decide_eq_true c2) ⟨_, rfl, q0⟩
    refine iteF_of (decide_eq_false c2) ?_
    refine ⟨_, rfl, rfl, _, rfl, ?_⟩
    refine and_test (d := decide (ahead ≠ 0 ∨ after ≠ 0)) (fun Q' h' => ⟨_, rfl, rfl, _, rfl, ?_⟩) ?_
    · refine or_test (d := decide (after ≠ 0)) (fun Q2 h2 => ⟨_, rfl, rfl, _, rfl, ?_⟩) ?_
      · have : (!decide (V.int (after : Int) = V.int 0)) = decide (after ≠ 0) := by
          by_cases z : after = 0
          · subst z
            rfl
          · rw [intNe (by omega), decide_eq_true z]
            rfl
        rw [this]
        exact h2
      · have : ((!decide (V.int (ahead : Int) = V.int 0)) || decide (after ≠ 0)) = decide (ahead ≠ 0 ∨ after ≠ 0) := by
          by_cases z : ahead = 0
          · subst z
            simp
          · have e1 : decide (ahead ≠ 0 ∨ after ≠ 0) = true := decide_eq_true (Or.inl z)
            rw [intNe (by omega), e1]
            rfl
        rw [this]
        exact h'
    have c3e : (decide (V.int (kind : Int) = V.int 3) && decide (ahead ≠ 0 ∨ after ≠ 0)) = decide (kind = 3 ∧ (ahead ≠ 0 ∨ after ≠ 0)) := by
      by_cases z : kind = 3
      · rw [intEq (by omega), Bool.true_and, decide_eq_decide]
        omega
      · rw [intNe (by omega), Bool.false_and, decide_eq_false (by omega)]
    rw [c3e]
    by_cases c3 : kind = 3 ∧ (ahead ≠ 0 ∨ after ≠ 0)
    · rw [if_pos (by omega)] at q0
      exact iteT_of (decide_eq_true c3) ⟨_, rfl, q0⟩
    rw [if_neg (by omega)] at q0
    refine iteF_of (decide_eq_false c3) ?_
    refine ⟨_, rfl, _, _, rfl, rfl, _, rfl, ?_⟩
    by_cases c4 : 1 < e
    · rw [if_pos (by omega)] at q0
      exact iteT_of (decide_eq_true (by omega)) ⟨_, rfl, q0⟩
    refine iteF_of (decide_eq_false (by omega)) ?_
    refine ⟨_, rfl, rfl, _, rfl, ?_⟩
    by_cases c5 : e = 0
    · subst c5
      rw [if_neg (by omega)] at q0
      exact q0
    · rw [intNe (by omega)]
      refine ⟨_, rfl, by show 2 ≤ sizeLine; rw [sizeLine_eq]; decide, fun p hp => ⟨p, _, rfl, .inr (SqT.of upd_same), rfl, rfl, _, rfl, ?_⟩⟩
      have q1 := q _ (Same.upd (o := .tup [V.int 0, V.int 3]) hp)
      rw [if_neg c1, if_neg (by omega)] at q1
      have ev : inV (.int (kind : Int)) [V.int 0, V.int 3] = decide (kind = 0 ∨ kind = 3) := by
        rw [Bool.eq_iff_iff, decide_eq_true_eq]
        simp only [inV, List.any_cons, List.any_nil, eqV, Bool.or_false, Bool.or_eq_true, beq_iff_eq]
        omega
      by_cases c6 : kind = 0 ∨ kind = 3
      · rw [if_pos (by omega)] at q1
        exact iteT_of (ev.trans (decide_eq_true c6)) ⟨_, rfl, q1⟩
      · rw [if_neg (by omega)] at q1
        exact iteF_of (ev.trans (decide_eq_false c6)) q1
end
end JS
end
section
set_option linter.all false
set_option maxRecDepth 100000
set_option maxHeartbeats 4000000
namespace JS
open PySem PySem.Spec PyProof.Rows L2 LamX
def freshJ (p sl sr kl kr : Addr) (kind ahead after e : Nat) : Jn :=
  ⟨p, decide (kind = 3), ⟨sl, kl, true, after, decide (kind = 1 ∨ kind = 2) && decide (e = 1), decide (kind = 1 ∨ kind = 2) && decide (e = 0), 0, 0, 0, []⟩,
    ⟨sr, kr, false, ahead, decide (kind = 2) && decide (e = 1), decide (kind = 2) && decide (e = 0), 0, 0, 0, []⟩⟩
section
variable {P : Program} {w : World} {K : PySem.W.Frag} {mg : Str → Option Value} {base : Heap} {CR CS CJ : Addr}
def spJoinI (CR CS CJ : Addr) : Sp := fun vs H Q _ => ∃ (p dx : Addr) (kind ahead after e : Nat), vs = [.ref p, .int kind, .int ahead, .int after, .int e] ∧ H p = some (.ins CJ dx []) ∧
  ∀ (H' : Hp) (sl sr kl kr : Addr), H sl = none → H sr = none → H kl = none → H kr = none → JAt CR CS CJ H' (freshJ p sl sr kl kr kind ahead after e) → (∀ b o, H b = some o → b ≠ p → H' b = some o) → Q .non H'
theorem scJoinI : FnScope ["self", "kind", "ahead", "after", "eager"] ["self", "kind", "ahead", "after", "eager"] (defScope zJoinI) := ⟨rfl, rfl, rfl, by decide +kernel, rfl, by decide +kernel, by decide +kernel⟩
theorem ok_joinI {f fS : Addr} {fd fdS : FuncData} (F : Fun K "__init__" "Join.__init__" zJoinI f fd) (T : Txt K mg CR CS CJ) (M : Mk K CS fS) (FS : Fun K "__init__" "Side.__init__" zSideI fS fdS) (bS : Binds K fdS ["self", "is_left", "reach", "tells_alone", "eager"] []) :
    FnOk P w K mg base CX0 3 f fd ["self", "kind", "ahead", "after", "eager"] (spJoinI CR CS CJ) := by
  have GS : FnOk P w K mg base CX0 1 fS fdS ["self", "is_left", "reach", "tells_alone", "eager"] (spSideI CS) := ok_sideI FS T
  obtain ⟨tA, gA⟩ := T.gAs
  refine F.ok scJoinI (fun vs H Q E h => ?_) (fun cdv A outer s H vs Q E hr h => ⟨_, pss_cons (ps_fld (pv 0) (pe_cmp (pc_eqI (pv 1) (pe_glob (v := .int 3) rfl gA ⟨_, rfl⟩)) rfl) rfl)
    (pss_cons (ps_fld (pv 0) (pe_make M GS hr rfl T.gS bS .nil pass0 (pa_cons pe_bl (pa_cons (pv 3) (pa_cons (pe_cmpR op_in_seq (pv 1) (pe_tup (pa_cons pe_int (pa_cons pe_int pa_nil))) (by rfl)) (pa_cons (pv 4) pa_nil))))) rfl)
    (pss_one (ps_fld (pv 0) (pe_make M GS hr rfl T.gS bS .nil pass0 (pa_cons pe_bl (pa_cons (pv 2) (pa_cons (pe_cmp (pc_eqI (pv 1) pe_int) rfl) (pa_cons (pv 4) pa_nil))))) rfl))), ?_⟩)
  · obtain ⟨p, dx, kind, ahead, after, e, rfl, _⟩ := h
    rfl
  · obtain ⟨p, dx, kind, ahead, after, e, rfl, hp, q⟩ := h
    refine ⟨_, rfl, _, _, rfl, rfl, _, rfl, p, CJ, dx, _, rfl, hp, T.cJ, T.Jm, by decide, ?_⟩
    have e3 : decide ((kind : Int) = 3) = decide (kind = 3) := natEq kind 3
    have h1p : L2.upd H p (.ins CJ dx (putF "by_moment" (.bl (decide ((kind : Int) = 3))) [])) p = some (.ins CJ dx [("by_moment", .bl (decide (kind = 3)))]) := by
      rw [upd_same, e3]
      refine congrArg (fun z => some (HO.ins CJ dx z)) ?_
      kernel_rfl
    have f1 : ∀ b o, H b = some o → b ≠ p → L2.upd H p (.ins CJ dx (putF "by_moment" (.bl (decide ((kind : Int) = 3))) [])) b = some o := fun b o e h => by rw [upd_ne h]; exact e
    have n1 : ∀ b, L2.upd H p (.ins CJ dx (putF "by_moment" (.bl (decide ((kind : Int) = 3))) [])) b = none → H b = none := fun b e => by
      rw [upd_ne (fun z => by rw [z, upd_same] at e; cases e)] at e
      exact e
    generalize L2.upd H p (.ins CJ dx (putF "by_moment" (.bl (decide ((kind : Int) = 3))) [])) = H1 at h1p f1 n1 ⊢
    refine ⟨_, rfl, _, rfl, by show 2 ≤ sizeLine; rw [sizeLine_eq]; decide, fun t ht => ⟨t, _, rfl, .inr (SqT.of upd_same), rfl, rfl, ?_⟩⟩
    have s2 : Same H1 (L2.upd H1 t (.tup [V.int 1, V.int 2])) := Same.upd ht
    generalize L2.upd H1 t (.tup [V.int 1, V.int 2]) = H2 at s2 ⊢
    have ev : inV (.int (kind : Int)) [V.int 1, V.int 2] = decide (kind = 1 ∨ kind = 2) := by
      rw [Bool.eq_iff_iff, decide_eq_true_eq]
      simp only [inV, List.any_cons, List.any_nil, eqV, Bool.or_false, Bool.or_eq_true, beq_iff_eq]
      omega
    refine ⟨_, rfl, ?_⟩
    intro x xd nx nd ne
    refine ⟨x, xd, true, decide (kind = 1 ∨ kind = 2), after, e, by rw [← ev]; rfl, upd_same, fun k H3 hk nkx ex kx fr => ⟨rfl, ?_⟩⟩
    have st2 : ∀ b o, H2 b = some o → H3 b = some o := fun b o e => fr b o (by rw [upd_ne (ne_of_none e nx), upd_ne (ne_of_none e nd)]; exact e) (ne_of_none e nx)
    have bk2 : ∀ b, H3 b = none → H b = none := fun b e => n1 b (Same.free s2 (Same.free st2 e))
    have hx0 : H x = none := n1 x (Same.free s2 nx)
    have hk0 : H k = none := by
      rw [upd_ne nkx] at hk
      have : H2 k = none := by
        rw [upd_ne (fun z => by rw [z, upd_same] at hk; cases hk)] at hk
        exact hk
      exact n1 k (Same.free s2 this)
    have h3p := st2 _ _ (s2 _ _ h1p)
    have nxp : x ≠ p := fun z => by rw [z, h3p] at ex; injection ex with ex; injection ex with _ _ ex; exact absurd (congrArg List.length ex) (by show ¬ 1 = 8; decide)
    have nkp : k ≠ p := ne_of kx h3p (by intro z; cases z)
    refine ⟨_, rfl, p, CJ, dx, _, rfl, h3p, T.cJ, T.Jl, by show 1 < 1000; decide, ?_⟩
    have h4p : L2.upd H3 p (.ins CJ dx (putF "left" (.ref x) [("by_moment", .bl (decide (kind = 3)))])) p = some (.ins CJ dx [("by_moment", .bl (decide (kind = 3))), ("left", .ref x)]) := by
      rw [upd_same]
      refine congrArg (fun z => some (HO.ins CJ dx z)) ?_
      kernel_rfl
    have st4 : ∀ b o, H3 b = some o → b ≠ p → L2.upd H3 p (.ins CJ dx (putF "left" (.ref x) [("by_moment", .bl (decide (kind = 3)))])) b = some o := fun b o e h => by rw [upd_ne h]; exact e
    have bk4 : ∀ b, L2.upd H3 p (.ins CJ dx (putF "left" (.ref x) [("by_moment", .bl (decide (kind = 3)))])) b = none → H3 b = none := fun b e => by
      rw [upd_ne (fun z => by rw [z, upd_same] at e; cases e)] at e
      exact e
    generalize L2.upd H3 p (.ins CJ dx (putF "left" (.ref x) [("by_moment", .bl (decide (kind = 3)))])) = H4 at h4p st4 bk4 ⊢
    refine ⟨_, rfl, _, rfl, _, _, rfl, rfl, _, rfl, ?_⟩
    intro y yd ny nyd ne2
    refine ⟨y, yd, false, decide (kind = 2), ahead, e, by rw [← natEq kind 2]; rfl, upd_same, fun k2 H5 hk2 nky ey ky fr2 => ⟨rfl, ?_⟩⟩
    have st5 : ∀ b o, H4 b = some o → H5 b = some o := fun b o e => fr2 b o (by rw [upd_ne (ne_of_none e ny), upd_ne (ne_of_none e nyd)]; exact e) (ne_of_none e ny)
    have hy0 : H y = none := bk2 y (bk4 y ny)
    have hk20 : H4 k2 = none := by
      rw [upd_ne nky] at hk2
      rw [upd_ne (fun z => by rw [z, upd_same] at hk2; cases hk2)] at hk2
      exact hk2
    have h5p := st5 _ _ h4p
    have x5 := st5 _ _ (st4 _ _ ex nxp)
    have k5 := st5 _ _ (st4 _ _ kx nkp)
    have nyp : y ≠ p := fun z => by rw [z, h5p] at ey; injection ey with ey; injection ey with _ _ ey; exact absurd (congrArg List.length ey) (by show ¬ 2 = 8; decide)
    have nk2p : k2 ≠ p := ne_of ky h5p (by intro z; cases z)
    refine ⟨_, rfl, p, CJ, dx, _, rfl, h5p, T.cJ, T.Jr, by show 2 < 1000; decide, ?_⟩
    have st6 : ∀ b o, H5 b = some o → b ≠ p → L2.upd H5 p (.ins CJ dx (putF "right" (.ref y) [("by_moment", .bl (decide (kind = 3))), ("left", .ref x)])) b = some o := fun b o e h => by rw [upd_ne h]; exact e
    refine q _ x y k k2 hx0 hy0 hk0 (bk2 k2 (bk4 k2 hk20)) ⟨⟨dx, ?_⟩, ⟨⟨xd, st6 _ _ x5 nxp⟩, st6 _ _ k5 nkp, fun z hz => by cases hz⟩, ⟨⟨yd, st6 _ _ ey nyp⟩, st6 _ _ ky nk2p, fun z hz => by cases hz⟩, rfl, rfl, ne_of_none (st4 _ _ kx nkp) hk20, List.nodup_nil⟩ fun b o e h => st6 _ _ (st5 _ _ (st4 _ _ (st2 _ _ (s2 _ _ (f1 b o e h))) h)) h
    show L2.upd H5 p _ p = _
    rw [upd_same]
    refine congrArg (fun z => some (HO.ins CJ dx z)) ?_
    kernel_rfl
end
end JS
end
section
set_option linter.all false
set_option maxRecDepth 100000
set_option maxHeartbeats 4000000
namespace JS
open PySem PySem.Spec PyProof.Rows L2 LamX
/-- behind a call: the join stands for s', the answer lies at n, all else stands -/
structure Post (CR CS CJ Pt : Addr) (H H' : Hp) (j j' : Jn) (s' : Hs06.St) (n : Addr) (out : List Int) : Prop where
  J : JAt CR CS CJ H' j'
  R : Rep j' s'
  T : Tabs (tabT Pt) H'
  nv : H' n = some (.lst (out.map V.int))
  fr : Fr (Foot j) H H'
  nn : ∀ b c, H b = some c → (∀ ps, c ≠ .tbl ps) → ¬ Foot j b → b ≠ n
  ft : ∀ x, Foot j' x → Foot j x ∨ NewA H x
  at_ : j'.at_ = j.at_
theorem Rep.withK {j : Jn} {s : Hs06.St} (R : Rep j s) (k1 k2 : Addr) : Rep (withK j k1 k2) s := ⟨R.mom, R.lL, R.lr, R.lo, R.lf, R.lm, R.lt, R.lk, R.rL, R.rr, R.ro, R.rf, R.rm, R.rt, R.rk, R.ra⟩
/-- a list that is new: nothing else changed -/
theorem Post.plain {CR CS CJ Pt n : Addr} {H : Hp} {j : Jn} {s : Hs06.St} {out : List Int} (J : JAt CR CS CJ H j) (R : Rep j s) (T : Tabs (tabT Pt) H) (hn : H n = none) : Post CR CS CJ Pt H (upd H n (.lst (out.map V.int))) j j s n out :=
  ⟨J.same (Same.upd hn), R, T.ext (Same.upd hn), upd_same, Fr.of_same (Same.upd hn), fun b c e _ _ => ne_of_none e hn, fun x h => .inl h, rfl⟩
theorem markUp_at (j : Jn) (b : Bool) (m : Nat) : (markUp j b m).1.at_ = j.at_ ∧ (markUp j b m).1.l.at_ = j.l.at_ ∧ (markUp j b m).1.r.at_ = j.r.at_ ∧ (∀ p ∈ (markUp j b m).1.l.kept ++ (markUp j b m).1.r.kept, p ∈ j.l.kept ++ j.r.kept) := by
  cases e : j.mom with
  | true =>
    cases b with
    | true =>
      rw [markUp_tt e]
      refine ⟨rfl, rfl, rfl, fun p hp => ?_⟩
      rcases List.mem_append.mp hp with z | z
      · exact List.mem_append_left _ z
      · exact List.mem_append_right _ (List.mem_filter.mp z).1
    | false =>
      rw [markUp_tf e]
      refine ⟨rfl, rfl, rfl, fun p hp => ?_⟩
      rcases List.mem_append.mp hp with z | z
      · exact List.mem_append_left _ (List.mem_filter.mp z).1
      · exact List.mem_append_right _ (List.mem_filter.mp z).1
  | false =>
    cases b with
    | true =>
      rw [markUp_ft e]
      refine ⟨rfl, rfl, rfl, fun p hp => ?_⟩
      rcases List.mem_append.mp hp with z | z
      · exact List.mem_append_left _ z
      · exact List.mem_append_right _ (List.mem_filter.mp z).1
    | false =>
      rw [markUp_ff e]
      refine ⟨rfl, rfl, rfl, fun p hp => ?_⟩
      rcases List.mem_append.mp hp with z | z
      · exact List.mem_append_left _ (List.mem_filter.mp z).1
      · exact List.mem_append_right _ z
theorem markUp_len (j : Jn) (b : Bool) (m : Nat) : (markUp j b m).2.length ≤ j.l.kept.length + j.r.kept.length := by
  cases e : j.mom with
  | true =>
    cases b with
    | true => rw [markUp_tt e]; exact Nat.zero_le _
    | false =>
      rw [markUp_tf e]
      show ((dueP (markSet j false m)).map _).length ≤ _
      rw [List.length_map]
      unfold dueP
      rw [List.length_mergeSort]
      exact Nat.le_trans (List.length_filter_le _ _) (Nat.le_add_right _ _)
  | false =>
    cases b with
    | true => rw [markUp_ft e]; exact Nat.le_trans (dropCh_len _ _ _) (Nat.le_add_left _ _)
    | false => rw [markUp_ff e]; exact Nat.le_trans (dropCh_len _ _ _) (Nat.le_add_right _ _)
def markCall (b : Bool) (m : Nat) : Hs06.Call := if b = true then .markL m else .markR m
section
variable {P : Program} {w : World} {K : PySem.W.Frag} {mg : Str → Option Value} {base : Heap} {CR CS CJ : Addr}
def spMarkA (CR CS CJ Pt : Addr) : Sp := fun vs H Q _ => ∃ (j : Jn) (s : Hs06.St) (b : Bool) (m : Nat), vs = [.ref j.at_, .ref (sideOf j b).at_, .int m] ∧ JAt CR CS CJ H j ∧ Rep j s ∧ Good s ∧ Tabs (tabT Pt) H ∧ j.l.kept.length ≤ 1000 ∧ j.r.kept.length ≤ 1000 ∧
  ∀ (H' : Hp) (j' : Jn) (n : Addr), Post CR CS CJ Pt H H' j j' (Hs06.step s (markCall b m)).1 n (Hs06.step s (markCall b m)).2 → Q (.ref n) H'
theorem scMarkA : FnScope ["join", "side", "time"] ["join", "side", "time"] (defScope zMarkA) := ⟨rfl, rfl, rfl, by decide +kernel, rfl, by decide +kernel, by decide +kernel⟩
theorem ok_markA {f Pt : Addr} {fd : FuncData} (F : Fun K "mark_answer" "mark_answer" zMarkA f fd) (T : Txt K mg CR CS CJ)
    (dU : Def P w K mg base 4 "mark_goes_up" ["join", "side", "time"] (spUp CR CS CJ Pt)) (dC : Def P w K mg base 1 "counted" ["parts"] spCount) : FnOk P w K mg base CX0 5 f fd ["join", "side", "time"] (spMarkA CR CS CJ Pt) := by
  obtain ⟨fU, fdU, GU, gU, kU, bU⟩ := dU
  obtain ⟨fC, fdC, GC, gC, kC, bC⟩ := dC
  obtain ⟨tL, gL⟩ := T.gLast
  refine F.ok scMarkA (fun vs H Q E h => ?_) (fun cdv A outer s H vs Q E hr h => ⟨_, pss_cons (ps_if (pt_cmpR op_lt (pv 2) (pe_fld (pv 1) rfl) (nomark _)) (pss_one (ps_ret (pe_lst (pa_cons (pe_un un_neg pe_int) pa_nil)))) pss_nil)
    (pss_cons (ps_if (pt_cmpR op_gt (pv 2) (pe_add (pe_glob (v := .int 1000000) rfl gL ⟨_, rfl⟩) pe_int) (nomark _)) (pss_one (ps_ret (pe_lst (pa_cons (pe_un un_neg pe_int) pa_nil)))) pss_nil)
    (pss_one (ps_ret (pe_call GC (hr.mono (by decide)) rfl gC kC bC .nil pass0 (pa_cons (pe_call GU hr rfl gU kU bU .nil pass0 (pa_cons (pv 0) (pa_cons (pv 1) (pa_cons (pv 2) pa_nil)))) pa_nil))))), ?_⟩)
  · obtain ⟨j, s, b, m, rfl, _⟩ := h
    rfl
  · obtain ⟨j, s0, b, m, rfl, J, R, G, hT, ll, lr, q⟩ := h
    obtain ⟨ds, hs⟩ : SideO CS H (sideOf j b) := by
      cases b with
      | true => exact J.hl.o
      | false => exact J.hr.o
    have em : (sideOf j b).mark = if b = true then s0.markL else s0.markR := by
      cases b with
      | true => exact R.lm
      | false => exact R.rm
    refine ⟨_, rfl, _, rfl, (sideOf j b).at_, CS, ds, _, _, rfl, hs, T.cS, T.Sm, sF_mark _, _, _, rfl, rfl, _, rfl, ?_⟩
    rw [natLt, em]
    by_cases c1 : m < (if b = true then s0.markL else s0.markR)
    · refine iteT_of (decide_eq_true c1) ?_
      refine ⟨_, rfl, by show 1 ≤ sizeLine; rw [sizeLine_eq]; decide, fun n hn => q _ j n ?_⟩
      have es : Hs06.step s0 (markCall b m) = (s0, [-2]) := by
        cases b with
        | true => exact if_pos c1
        | false => exact if_pos c1
      rw [es]
      exact Post.plain (out := [-2]) J R hT hn
    refine iteF_of (decide_eq_false c1) ?_
    refine ⟨_, rfl, _, _, rfl, rfl, _, _, rfl, rfl, _, rfl, ?_⟩
    by_cases c2 : 1000001 < m
    · refine iteT_of (decide_eq_true (by show (1000001 : Int) < (m : Int); omega)) ?_
      refine ⟨_, rfl, by show 1 ≤ sizeLine; rw [sizeLine_eq]; decide, fun n hn => q _ j n ?_⟩
      have es : Hs06.step s0 (markCall b m) = (s0, [-3]) := by
        cases b with
        | true => exact (if_neg c1).trans (if_pos c2)
        | false => exact (if_neg c1).trans (if_pos c2)
      rw [es]
      exact Post.plain (out := [-3]) J R hT hn
    refine iteF_of (decide_eq_false (by show ¬ (1000001 : Int) < (m : Int); omega)) ?_
    have es : Hs06.step s0 (markCall b m) = ((Hs06.does s0 (markCall b m)).1, Hs06.ints (Hs06.changes (Hs06.does s0 (markCall b m)).2)) := by
      cases b with
      | true => exact (if_neg c1).trans (if_neg c2)
      | false => exact (if_neg c1).trans (if_neg c2)
    rw [es] at q
    obtain ⟨R', e'⟩ : Rep (markUp j b m).1 (Hs06.does s0 (markCall b m)).1 ∧ (markUp j b m).2 = (Hs06.does s0 (markCall b m)).2 := by
      cases b with
      | true => exact up_l R G m
      | false => exact up_r R G m
    have ml := markUp_len j b m
    obtain ⟨a1, a2, a3, a4⟩ := markUp_at j b m
    refine ⟨_, rfl, _, rfl, _, rfl, j, b, m, rfl, J, hT, ll, lr, fun H1 k1 k2 l c J1 T1 f1 n1 n2 => ?_⟩
    refine spCount_ch (E := E) ⟨l, (markUp j b m).2, rfl, c, by omega, fun H' n hn hv s1 => q H' (withK (markUp j b m).1 k1 k2) n ⟨J1.same s1, R'.withK _ _, T1.ext s1, ?_, f1.trans (Fr.of_same s1), fun b c e nt nf => ne_of_none (f1 b c e nf nt) hn, fun x hx => ?_, a1⟩⟩
    · rw [← e']
      exact hv
    · rcases hx with z | z | z | z | ⟨p, hp, z⟩
      · exact .inl (.inl (z.trans a2))
      · exact .inl (.inr (.inl (z.trans a3)))
      · rcases n1 with n1 | n1
        · exact .inl (.inr (.inr (.inl (z.trans n1))))
        · have z : x = k1 := z
          rw [z]
          exact .inr n1
      · rcases n2 with n2 | n2
        · exact .inl (.inr (.inr (.inr (.inl (z.trans n2)))))
        · have z : x = k2 := z
          rw [z]
          exact .inr n2
      · exact .inl (.inr (.inr (.inr (.inr ⟨p, a4 p hp, z⟩))))
end
end JS
end
section
set_option linter.all false
set_option maxRecDepth 100000
set_option maxHeartbeats 4000000
namespace JS
open PySem PySem.Spec PyProof.Rows L2 LamX
theorem comesUp_at (j : Jn) (b : Bool) (a : Addr) (r : R6) : (comesUp j b a r).1.at_ = j.at_ ∧ (comesUp j b a r).1.l.at_ = j.l.at_ ∧ (comesUp j b a r).1.r.at_ = j.r.at_ ∧ (∀ p ∈ (comesUp j b a r).1.l.kept ++ (comesUp j b a r).1.r.kept, p.1 = a ∨ ∃ q ∈ j.l.kept ++ j.r.kept, p.1 = q.1) := by
  have mL : ∀ (s o : Sd) (p : PR), p ∈ (meetS s a r o).kept → p.1 = a ∨ ∃ q ∈ s.kept, p.1 = q.1 := fun s o p hp => by
    have hp : p ∈ (if wantedB s r o.mark = true then s.kept ++ [(a, meetRow s r o)] else s.kept) := hp
    split at hp
    · rcases List.mem_append.mp hp with z | z
      · exact .inr ⟨p, z, rfl⟩
      · rw [List.mem_singleton] at z
        rw [z]
        exact .inl rfl
    · exact .inr ⟨p, hp, rfl⟩
  have mO : ∀ (s o : Sd) (p : PR), p ∈ (meetO s r o).kept → ∃ q ∈ o.kept, p.1 = q.1 := fun s o p hp => by
    obtain ⟨q, hq, e⟩ := List.mem_map.mp (show p ∈ o.kept.map (touchP s r o) from hp)
    exact ⟨q, hq, by rw [← e]; exact touchP_fst s r o q⟩
  unfold comesUp
  split
  · split
    · split
      · exact ⟨rfl, rfl, rfl, fun p hp => .inr ⟨p, hp, rfl⟩⟩
      · refine ⟨rfl, rfl, rfl, fun p hp => ?_⟩
        rcases List.mem_append.mp hp with z | z
        · rcases List.mem_append.mp z with z | z
          · exact .inr ⟨p, List.mem_append_left _ z, rfl⟩
          · rw [List.mem_singleton] at z
            rw [z]
            exact .inl rfl
        · exact .inr ⟨p, List.mem_append_right _ z, rfl⟩
    · refine ⟨rfl, rfl, rfl, fun p hp => ?_⟩
      rcases List.mem_append.mp hp with z | z
      · exact .inr ⟨p, List.mem_append_left _ z, rfl⟩
      · rcases List.mem_append.mp (List.mem_filter.mp z).1 with z | z
        · exact .inr ⟨p, List.mem_append_right _ z, rfl⟩
        · rw [List.mem_singleton] at z
          rw [z]
          exact .inl rfl
  · split
    · refine ⟨rfl, rfl, rfl, fun p hp => ?_⟩
      rcases List.mem_append.mp hp with z | z
      · rcases mL _ _ p z with z | ⟨q, hq, z⟩
        · exact .inl z
        · exact .inr ⟨q, List.mem_append_left _ hq, z⟩
      · obtain ⟨q, hq, z⟩ := mO _ _ p z
        exact .inr ⟨q, List.mem_append_right _ hq, z⟩
    · refine ⟨rfl, rfl, rfl, fun p hp => ?_⟩
      rcases List.mem_append.mp hp with z | z
      · obtain ⟨q, hq, z⟩ := mO _ _ p z
        exact .inr ⟨q, List.mem_append_left _ hq, z⟩
      · rcases mL _ _ p z with z | ⟨q, hq, z⟩
        · exact .inl z
        · exact .inr ⟨q, List.mem_append_right _ hq, z⟩
theorem meetCh_len (s : Sd) (r : R6) (o : Sd) : (meetCh s r o).length ≤ 2 * o.kept.length + 1 := by
  unfold meetCh
  rw [List.length_append]
  have := meet_len s r o o.kept
  split
  · show _ + 1 ≤ _
    omega
  · show _ + 0 ≤ _
    omega
theorem comesUp_len (j : Jn) (b : Bool) (a : Addr) (r : R6) : (comesUp j b a r).2.length ≤ 2 * (j.l.kept.length + j.r.kept.length) + 1 := by
  unfold comesUp
  split
  · split
    · split
      · show 1 ≤ _
        omega
      · exact Nat.zero_le _
    · exact Nat.zero_le _
  · split
    · have := meetCh_len j.l r j.r
      show (meetCh j.l r j.r).length ≤ _
      omega
    · have := meetCh_len j.r r j.l
      show (meetCh j.r r j.l).length ≤ _
      omega
theorem chg_len (cs : List Chg) : (Hs06.ints (Hs06.changes cs)).length = 1 + 3 * cs.length := by
  have h : ∀ l : List Chg, (l.flatMap fun x => [if x.1 = true then 1 else 0, x.2.1, x.2.2]).length = 3 * l.length := by
    intro l
    induction l with
    | nil => rfl
    | cons c r ih =>
      rw [List.flatMap_cons, List.length_append, ih]
      show 3 + 3 * r.length = 3 * (r.length + 1)
      omega
  unfold Hs06.ints Hs06.changes
  rw [List.length_map, List.length_cons, h]
  omega
def rowCall (b : Bool) (key t : Nat) : Hs06.Call := if b = true then .left key t else .right key t
section
variable {P : Program} {w : World} {K : PySem.W.Frag} {mg : Str → Option Value} {base : Heap} {CR CS CJ : Addr}
theorem JAt.take {H H' : Hp} {j : Jn} (J : JAt CR CS CJ H j) (b : Bool) (hs : SideO CS H' { sideOf j b with taken := (sideOf j b).taken + 1 }) (st : ∀ c o, H c = some o → c ≠ (sideOf j b).at_ → H' c = some o) : JAt CR CS CJ H' (takeJ j b) := by
  have row : ∀ p ∈ j.l.kept ++ j.r.kept, RowAt CR H' p.1 p.2 := fun p hp => by
    obtain ⟨dp, ep⟩ := J.row hp
    refine ⟨dp, st _ _ ep ?_⟩
    cases b with
    | true => exact (J.nLS p hp).1
    | false => exact (J.nLS p hp).2
  cases b with
  | true => exact J.setL (s := { j.l with taken := j.l.taken + 1 }) (Fr.one st) ⟨hs, st _ _ J.hl.k J.nkl.1, fun p hp => row p (List.mem_append_left _ hp)⟩ rfl J.isl J.kk J.nd
  | false => exact J.setR (s := { j.r with taken := j.r.taken + 1 }) (Fr.one st) ⟨hs, st _ _ J.hr.k J.nkl.2.2.2, fun p hp => row p (List.mem_append_right _ hp)⟩ rfl J.isr J.kk J.nd
def asideJ (j : Jn) (b : Bool) : Jn := if b = true then { j with l := { j.l with aside := j.l.aside + 1 } } else { j with r := { j.r with aside := j.r.aside + 1 } }
theorem JAt.aside {H H' : Hp} {j : Jn} (J : JAt CR CS CJ H j) (b : Bool) (hs : SideO CS H' { sideOf j b with aside := (sideOf j b).aside + 1 }) (st : ∀ c o, H c = some o → c ≠ (sideOf j b).at_ → H' c = some o) : JAt CR CS CJ H' (asideJ j b) := by
  have row : ∀ p ∈ j.l.kept ++ j.r.kept, RowAt CR H' p.1 p.2 := fun p hp => by
    obtain ⟨dp, ep⟩ := J.row hp
    refine ⟨dp, st _ _ ep ?_⟩
    cases b with
    | true => exact (J.nLS p hp).1
    | false => exact (J.nLS p hp).2
  cases b with
  | true => exact J.setL (s := { j.l with aside := j.l.aside + 1 }) (Fr.one st) ⟨hs, st _ _ J.hl.k J.nkl.1, fun p hp => row p (List.mem_append_left _ hp)⟩ rfl J.isl J.kk J.nd
  | false => exact J.setR (s := { j.r with aside := j.r.aside + 1 }) (Fr.one st) ⟨hs, st _ _ J.hr.k J.nkl.2.2.2, fun p hp => row p (List.mem_append_right _ hp)⟩ rfl J.isr J.kk J.nd
theorem asideJ_foot (j : Jn) (b : Bool) (x : Addr) : Foot (asideJ j b) x ↔ Foot j x := by cases b <;> exact Iff.rfl
theorem rep_aside {j : Jn} {s : Hs06.St} (R : Rep j s) (b : Bool) : Rep (asideJ j b) { s with aside := s.aside + 1 } := by
  have e := R.ra
  cases b with
  | true => exact { R with ra := (by show j.l.aside + 1 + j.r.aside = s.aside + 1; omega) }
  | false => exact { R with ra := (by show j.l.aside + (j.r.aside + 1) = s.aside + 1; omega) }
theorem takeJ_foot (j : Jn) (b : Bool) (x : Addr) : Foot (takeJ j b) x ↔ Foot j x := by cases b <;> exact Iff.rfl
def spRowA (CR CS CJ Pt : Addr) : Sp := fun vs H Q _ => ∃ (j : Jn) (s : Hs06.St) (b : Bool) (key t : Nat), vs = [.ref j.at_, .ref (sideOf j b).at_, .int key, .int t] ∧ JAt CR CS CJ H j ∧ Rep j s ∧ Good s ∧ Tabs (tabT Pt) H ∧ j.l.kept.length ≤ 999 ∧ j.r.kept.length ≤ 999 ∧
  ∀ (H' : Hp) (j' : Jn) (n : Addr), Post CR CS CJ Pt H H' j j' (Hs06.step s (rowCall b key t)).1 n (Hs06.step s (rowCall b key t)).2 → Q (.ref n) H'
theorem scRowA : FnScope ["join", "side", "key", "time", "row"] ["join", "side", "key", "time"] (defScope zRowA) := ⟨rfl, rfl, rfl, by decide +kernel, rfl, by decide +kernel, by decide +kernel⟩
theorem ok_rowA {f Pt : Addr} {fd : FuncData} (F : Fun K "row_answer" "row_answer" zRowA f fd) (T : Txt K mg CR CS CJ)
    (dT : MDef P w K mg base 3 CS "take" ["self", "key", "time"] (spTake CR CS)) (dR : Def P w K mg base 4 "row_comes" ["join", "side", "row"] (spComes CR CS CJ Pt)) (dC : Def P w K mg base 1 "counted" ["parts"] spCount) : FnOk P w K mg base CX0 5 f fd ["join", "side", "key", "time"] (spRowA CR CS CJ Pt) := by
  obtain ⟨fT, fdT, GT, mT, bT⟩ := dT
  obtain ⟨fR, fdR, GR, gR, kR, bR⟩ := dR
  obtain ⟨fC, fdC, GC, gC, kC, bC⟩ := dC
  obtain ⟨tL, gL⟩ := T.gLast
  refine F.ok scRowA (fun vs H Q E h => ?_) (fun cdv A outer s H vs Q E hr h => ⟨_, pss_cons (ps_if (pt_cmpR op_gt (pv 3) (pe_glob (v := .int 1000000) rfl gL ⟨_, rfl⟩) (nomark _)) (pss_one (ps_ret (pe_lst (pa_cons (pe_un un_neg pe_int) pa_nil)))) pss_nil)
    (pss_cons (ps_if (pt_cmpR op_lt (pv 3) (pe_fld (pv 1) rfl) (nomark _)) (pss_cons (ps_fldaug (pv 1) pe_int in_add) (pss_one (ps_ret (pe_lst (pa_cons pe_int (pa_cons pe_int pa_nil)))))) pss_nil)
    (pss_cons (ps_set (i := 4) scRowA.nd rfl (Or.inl rfl) (pe_meth (pv 1) T.cS mT GT (hr.mono (by decide)) bT .nil pass0 (pa_cons (pv 2) (pa_cons (pv 3) pa_nil))))
    (pss_one (ps_ret (pe_op op_cat (pe_lst (pa_cons (pe_fld (pv 4) rfl) pa_nil)) (pe_call GC (hr.mono (by decide)) rfl gC kC bC .nil pass0 (pa_cons (pe_call GR hr rfl gR kR bR .nil pass0 (pa_cons (pv 0) (pa_cons (pv 1) (pa_cons (pv 4) pa_nil)))) pa_nil))))))), ?_⟩)
  · obtain ⟨j, s, b, key, t, rfl, _⟩ := h
    rfl
  · obtain ⟨j, s0, b, key, t, rfl, J, R, G, hT, ll, lr, q⟩ := h
    obtain ⟨ds, hs⟩ : SideO CS H (sideOf j b) := by
      cases b with
      | true => exact J.hl.o
      | false => exact J.hr.o
    have em : (sideOf j b).mark = if b = true then s0.markL else s0.markR := by
      cases b with
      | true => exact R.lm
      | false => exact R.rm
    have et : (sideOf j b).taken = if b = true then s0.countL else s0.countR := by
      cases b with
      | true => exact R.lt
      | false => exact R.rt
    refine ⟨_, rfl, _, _, rfl, rfl, _, rfl, ?_⟩
    by_cases c1 : 1000000 < t
    · refine iteT_of (decide_eq_true (by omega)) ?_
      refine ⟨_, rfl, by show 1 ≤ sizeLine; rw [sizeLine_eq]; decide, fun n hn => q _ j n ?_⟩
      have es : Hs06.step s0 (rowCall b key t) = (s0, [-2]) := by
        cases b with
        | true => exact if_pos c1
        | false => exact if_pos c1
      rw [es]
      exact Post.plain (out := [-2]) J R hT hn
    refine iteF_of (decide_eq_false (by omega)) ?_
    refine ⟨_, rfl, _, rfl, (sideOf j b).at_, CS, ds, _, _, rfl, hs, T.cS, T.Sm, sF_mark _, _, _, rfl, rfl, _, rfl, ?_⟩
    rw [natLt, em]
    by_cases c2 : t < (if b = true then s0.markL else s0.markR)
    · refine iteT_of (decide_eq_true c2) ?_
      refine ⟨_, rfl, (sideOf j b).at_, CS, ds, _, _, rfl, hs, T.cS, T.Sa, sF_aside _, _, _, rfl, rfl, _, _, hs, (by show 8 < 1000; decide), ?_⟩
      have e1 : putF "put_aside" (.int (((sideOf j b).aside : Int) + 1)) (sF (sideOf j b)) = sF { sideOf j b with aside := (sideOf j b).aside + 1 } := sF_put_aside (sideOf j b) ((sideOf j b).aside + 1)
      rw [e1]
      have so : SideO CS (L2.upd H (sideOf j b).at_ (.ins CS ds (sF { sideOf j b with aside := (sideOf j b).aside + 1 }))) { sideOf j b with aside := (sideOf j b).aside + 1 } := ⟨ds, upd_same⟩
      have fr1 : ∀ c o, H c = some o → c ≠ (sideOf j b).at_ → L2.upd H (sideOf j b).at_ (.ins CS ds (sF { sideOf j b with aside := (sideOf j b).aside + 1 })) c = some o := fun c o e h => (upd_ne h).trans e
      generalize L2.upd H (sideOf j b).at_ (.ins CS ds (sF { sideOf j b with aside := (sideOf j b).aside + 1 })) = H1 at so fr1 ⊢
      have J1 := J.aside b so fr1
      have T1 : Tabs (tabT Pt) H1 := tabs_one hT hs fr1
      have fs : ∀ c, ¬ Foot j c → c ≠ (sideOf j b).at_ := fun c nf z => nf (by
        cases b with
        | true => exact .inl z
        | false => exact .inr (.inl z))
      refine ⟨by show 2 ≤ sizeLine; rw [sizeLine_eq]; decide, fun n hn => q _ (asideJ j b) n ?_⟩
      have es : Hs06.step s0 (rowCall b key t) = ({ s0 with aside := s0.aside + 1 }, [0, 0]) := by
        cases b with
        | true => exact (if_neg c1).trans (if_pos c2)
        | false => exact (if_neg c1).trans (if_pos c2)
      rw [es]
      exact ⟨J1.same (Same.upd hn), rep_aside R b, T1.ext (Same.upd hn), upd_same, fun c o e nf _ => (Same.upd hn) _ _ (fr1 c o e (fs c nf)), fun c o e _ nf => ne_of_none (fr1 c o e (fs c nf)) hn, fun x hx => .inl ((asideJ_foot j b x).mp hx), by cases b <;> rfl⟩
    refine iteF_of (decide_eq_false c2) ?_
    have es : Hs06.step s0 (rowCall b key t) = ((Hs06.does s0 (rowCall b key t)).1, Hs06.ints (((sideOf j b).taken + 1) :: Hs06.changes (Hs06.does s0 (rowCall b key t)).2)) := by
      rw [et]
      cases b with
      | true => exact (if_neg c1).trans (if_neg c2)
      | false => exact (if_neg c1).trans (if_neg c2)
    rw [es] at q
    have RE : ∀ a, Rep (comesUp (takeJ j b) b a ⟨(sideOf j b).taken + 1, key, t, false⟩).1 (Hs06.does s0 (rowCall b key t)).1 ∧ (comesUp (takeJ j b) b a ⟨(sideOf j b).taken + 1, key, t, false⟩).2 = (Hs06.does s0 (rowCall b key t)).2 := fun a => by
      rw [et]
      cases b with
      | true => exact comes_l R G a key t
      | false => exact comes_r R G a key t
    refine ⟨_, rfl, (sideOf j b).at_, ds, _, rfl, hs, sF_take _, _, rfl, _, rfl, sideOf j b, key, t, rfl, ⟨ds, hs⟩, fun a H1 ha0 ra so fr1 => ?_⟩
    obtain ⟨Rc, ec⟩ := RE a
    have J1 := J.take b so fr1
    have T1 : Tabs (tabT Pt) H1 := tabs_one hT hs fr1
    obtain ⟨da, ea⟩ := ra
    refine ⟨_, rfl, a, CR, da, _, _, rfl, ea, T.cR, T.Rn, rF_number _, by show 1 ≤ sizeLine; rw [sizeLine_eq]; decide, fun n1 hn1 => ?_⟩
    have s2 : Same H1 (L2.upd H1 n1 (.lst [.int (((sideOf j b).taken + 1 : Nat) : Int)])) := Same.upd hn1
    have e2 : L2.upd H1 n1 (.lst [.int (((sideOf j b).taken + 1 : Nat) : Int)]) n1 = some (.lst [.int (((sideOf j b).taken + 1 : Nat) : Int)]) := upd_same
    have nf1 : ¬ (Foot (takeJ j b) n1 ∨ n1 = a) := fun z => by
      rcases z with z | z
      · obtain ⟨dl, el⟩ := J1.hl.o
        obtain ⟨dr, er⟩ := J1.hr.o
        rcases z with z | z | z | z | ⟨p, hp, z⟩
        · rw [z, el] at hn1
          cases hn1
        · rw [z, er] at hn1
          cases hn1
        · rw [z, J1.hl.k] at hn1
          cases hn1
        · rw [z, J1.hr.k] at hn1
          cases hn1
        · obtain ⟨dp, ep⟩ := J1.row hp
          rw [z, ep] at hn1
          cases hn1
      · rw [z, ea] at hn1
        cases hn1
    generalize L2.upd H1 n1 (.lst [.int (((sideOf j b).taken + 1 : Nat) : Int)]) = H2 at s2 e2 ⊢
    have na : ∀ p ∈ (takeJ j b).l.kept ++ (takeJ j b).r.kept, p.1 ≠ a := fun p hp z => by
      have hp : p ∈ j.l.kept ++ j.r.kept := by cases b <;> exact hp
      obtain ⟨dp, ep⟩ := J.row hp
      rw [z, ha0] at ep
      cases ep
    have l1 : (takeJ j b).l.kept.length ≤ 999 := by cases b <;> exact ll
    have l2 : (takeJ j b).r.kept.length ≤ 999 := by cases b <;> exact lr
    have ev : [V.ref j.at_, V.ref (sideOf j b).at_, V.ref a] = [V.ref (takeJ j b).at_, V.ref (sideOf (takeJ j b) b).at_, V.ref a] := by cases b <;> rfl
    have cl := comesUp_len (takeJ j b) b a ⟨(sideOf j b).taken + 1, key, t, false⟩
    refine ⟨_, rfl, _, rfl, _, rfl, takeJ j b, b, a, ⟨(sideOf j b).taken + 1, key, t, false⟩, ev, J1.same s2, T1.ext s2, ⟨da, s2 _ _ ea⟩, rfl, na, l1, l2, fun H3 k1 k2 l c J3 T3 f3 q1 q2 => ?_⟩
    show spCount [V.ref l] H3 (fun y H2 => rCat (V.ref n1) y H2 Q) E0
    refine spCount_ch (E := E0) ⟨l, _, rfl, c, by omega, fun H4 n4 hn4 hv4 s4 => ?_⟩
    have up : ∀ b' c', H b' = some c' → (∀ ps, c' ≠ .tbl ps) → ¬ Foot j b' → H4 b' = some c' := fun b' c' e nt nf => by
      have ns : b' ≠ (sideOf j b).at_ := fun z => nf (by
        cases b with
        | true => exact .inl z
        | false => exact .inr (.inl z))
      refine s4 _ _ (f3 b' c' (s2 _ _ (fr1 b' c' e ns)) (fun z => ?_) nt)
      rcases z with z | z
      · exact nf ((takeJ_foot j b b').mp z)
      · exact ne_of_none e ha0 z
    have bk : ∀ k, NewA H2 k → NewA H k := fun k n => by
      refine NewA.back (X := (· = (sideOf j b).at_)) (n.same s2) (Fr.one fr1) fun x z => ?_
      obtain ⟨d3, e3⟩ := so
      have z : x = (sideOf j b).at_ := z
      rw [z]
      exact ⟨_, e3, nt_ins⟩
    obtain ⟨a1, a2, a3, a4⟩ := comesUp_at (takeJ j b) b a ⟨(sideOf j b).taken + 1, key, t, false⟩
    refine ⟨n1, n4, _, _, rfl, rfl, s4 _ _ (f3 _ _ e2 nf1 nt_lst), hv4, ?_, fun p hp => q _ (withK (comesUp (takeJ j b) b a ⟨(sideOf j b).taken + 1, key, t, false⟩).1 k1 k2) p ⟨(J3.same s4).same (Same.upd hp), Rc.withK _ _, (T3.ext s4).ext (Same.upd hp), ?_, fun b' c' e nf nt => ?_, fun b' c' e nt nf => ne_of_none (up b' c' e nt nf) hp, fun x hx => ?_, ?_⟩⟩
    · rw [List.length_map, chg_len]
      show 1 + _ ≤ sizeLine
      rw [sizeLine_eq]
      omega
    · rw [upd_same, ← ec]
      rfl
    · rw [upd_ne (ne_of_none (up b' c' e nt nf) hp)]
      exact up b' c' e nt nf
    · rcases hx with z | z | z | z | ⟨p, hp, z⟩
      · exact .inl ((takeJ_foot j b x).mp (.inl (z.trans a2)))
      · exact .inl ((takeJ_foot j b x).mp (.inr (.inl (z.trans a3))))
      · rcases q1 with q1 | q1
        · exact .inl ((takeJ_foot j b x).mp (.inr (.inr (.inl (z.trans q1)))))
        · have z : x = k1 := z
          rw [z]
          exact .inr (bk _ q1)
      · rcases q2 with q2 | q2
        · exact .inl ((takeJ_foot j b x).mp (.inr (.inr (.inr (.inl (z.trans q2))))))
        · have z : x = k2 := z
          rw [z]
          exact .inr (bk _ q2)
      · rcases a4 p hp with z2 | ⟨q', hq', z2⟩
        · rw [z, z2]
          exact .inr (.of ha0)
        · exact .inl ((takeJ_foot j b x).mp (.inr (.inr (.inr (.inr ⟨q', hq', z.trans z2⟩)))))
    · cases b <;> exact a1
end
end JS
end
section
namespace JS
open Hs06 (St Call)
/-! ## the request: calls, one behind another -/
def enc : Call → List Nat
  | .begin_ s a b e => [0, s, a, b, e]
  | .left k t => [1, k, t]
  | .right k t => [2, k, t]
  | .markL m => [3, m]
  | .markR m => [4, m]
  | .lefts => [5]
  | .rights => [6]
  | .counts => [7]
  | .at_ k t => [8, k, t]
def flatC (cs : List Call) : List Int := (cs.flatMap enc).map Int.ofNat
def toldC : St → List Call → List Int
  | _, [] => []
  | s, c :: r => ((Hs06.step s c).2.length : Int) :: (Hs06.step s c).2 ++ toldC (Hs06.step s c).1 r
theorem whole_id (c : List (List Int)) : PyHs06.whole c = c := by
  unfold PyHs06.whole
  split <;> rfl
theorem shape_zero {p : Int} {n k : Nat} (h : PyHs06.shape p = some (n, k)) : k = 0 := by
  unfold PyHs06.shape at h
  repeat' (first | (split at h) | (cases h; rfl) | cases h)
theorem callIn_enc {ls : List (List Nat)} {x : Call} (h : Hs06Neutral.callIn ls = some x) : ls = [enc x] := by
  unfold Hs06Neutral.callIn at h
  split at h <;> first | (cases h; rfl) | cases h
theorem toNat_back : ∀ {r : List Int} {ns : List Nat}, r.all Hs06Neutral.nat = true → r.map Int.toNat = ns → r = ns.map Int.ofNat
  | [], ns, _, h => by
    subst h
    rfl
  | z :: r, ns, ha, h => by
    subst h
    rw [List.all_cons, Bool.and_eq_true] at ha
    have hz : 0 ≤ z := by
      have := ha.1
      unfold Hs06Neutral.nat at this
      rw [Bool.and_eq_true, decide_eq_true_eq] at this
      exact this.1
    rw [List.map_cons, List.map_cons, ← toNat_back ha.2 rfl]
    congr 1
    exact (Int.toNat_of_nonneg hz).symm
theorem callOf_enc {c : List (List Int)} {x : Call} (h : Hs06Neutral.callOf c = some x) : c = [(enc x).map Int.ofNat] := by
  unfold Hs06Neutral.callOf at h
  split at h
  · cases h
  · rename_i ha
    have ha : (c.all fun r => r.all Hs06Neutral.nat) = true := by simpa using ha
    have e := callIn_enc h
    cases c with
    | nil => cases e
    | cons r t =>
      cases t with
      | cons _ _ =>
        injection e with _ e
        cases e
      | nil =>
        rw [List.all_cons, Bool.and_eq_true] at ha
        have e : r.map Int.toNat = enc x := by injection e
        rw [toNat_back ha.1 e]
theorem step_of {c : List (List Int)} {x : Call} (h : Hs06Neutral.callOf c = some x) (s : St) : Hs06Neutral.step s c = Hs06.step s x := by
  unfold Hs06Neutral.step
  rw [h]
theorem call_flat {l : List Int} {c : List (List Int)} {t : List Int} (h : PyFlat.call PyHs06.shape l = some (c, t)) : l = c.flatten ++ t := by
  cases l with
  | nil => cases h
  | cons p r =>
    unfold PyFlat.call at h
    dsimp only at h
    cases e : PyHs06.shape p with
    | none => rw [e] at h; cases h
    | some nk =>
      obtain ⟨n, k⟩ := nk
      have hk := shape_zero e
      subst hk
      rw [e] at h
      dsimp only at h
      split at h
      · cases h
      · have h : some ([p :: r.take n], r.drop n) = some (c, t) := h
        cases h
        simp
theorem calls_flat : ∀ {f : Nat} {l : List Int} {cs : List (List (List Int))}, PyFlat.calls PyHs06.shape f l = some cs → l = cs.flatMap List.flatten
  | f, [], cs, h => by
    cases f <;> (cases h; rfl)
  | 0, p :: r, cs, h => by cases h
  | f + 1, p :: r, cs, h => by
    unfold PyFlat.calls at h
    cases e : PyFlat.call PyHs06.shape (p :: r) with
    | none => rw [e] at h; cases h
    | some ct =>
      obtain ⟨c, t⟩ := ct
      rw [e] at h
      dsimp only at h
      cases e2 : PyFlat.calls PyHs06.shape f t with
      | none => rw [e2] at h; cases h
      | some cs' =>
        rw [e2] at h
        cases h
        rw [call_flat e, calls_flat e2]
        rfl
theorem played_told : ∀ {raw : List (List (List Int))} (s : St), raw.all Hs06Neutral.asked1 = true → ∃ cs : List Call, raw = cs.map (fun x => [(enc x).map Int.ofNat]) ∧ PyFlat.told (PyFlat.played Hs06Neutral.step s raw) = toldC s cs
  | [], s, _ => ⟨[], rfl, rfl⟩
  | c :: r, s, h => by
    rw [List.all_cons, Bool.and_eq_true] at h
    unfold Hs06Neutral.asked1 at h
    cases e : Hs06Neutral.callOf c with
    | none => rw [e] at h; exact absurd h.1 Bool.false_ne_true
    | some x =>
      obtain ⟨cs, h1, h2⟩ := played_told (raw := r) (Hs06.step s x).1 h.2
      refine ⟨x :: cs, by rw [h1, callOf_enc e]; rfl, ?_⟩
      show PyFlat.told ((Hs06Neutral.step s c).2 :: PyFlat.played Hs06Neutral.step (Hs06Neutral.step s c).1 r) = _
      rw [step_of e]
      show ((Hs06.step s x).2.length : Int) :: (Hs06.step s x).2 ++ PyFlat.told _ = _
      rw [h2]
      rfl
/-- every request that is asked is a list of calls, one behind another; what is due is told call by call -/
theorem asked_calls {l : List Int} (h : PyHs06.answers_asked l = true) : ∃ cs : List Call, l = flatC cs ∧ cs.length ≤ 60 ∧ PyHs06.answers l = toldC Hs06.init cs ∧ (toldC Hs06.init cs).length ≤ 10000000 := by
  unfold PyHs06.answers_asked at h
  cases e : PyFlat.calls PyHs06.shape l.length l with
  | none => rw [e] at h; cases h
  | some raw =>
    rw [e] at h
    dsimp only at h
    simp only [Bool.and_eq_true] at h
    obtain ⟨⟨⟨⟨_, _⟩, _⟩, h4⟩, hS⟩ := h
    have ew : raw.map PyHs06.whole = raw := by
      conv => rhs; rw [← List.map_id raw]
      exact List.map_congr_left fun c _ => whole_id c
    rw [ew] at h4
    unfold Hs06Neutral.asked at h4
    simp only [Bool.and_eq_true, decide_eq_true_eq] at h4
    obtain ⟨h5, _, h6, _⟩ := h4
    obtain ⟨cs, r1, r2⟩ := played_told Hs06.init h5
    have ea : PyHs06.answers l = toldC Hs06.init cs := by
      unfold PyHs06.answers PyHs06.calls
      rw [e]
      dsimp only
      rw [ew]
      exact r2
    unfold PyFlat.short at hS
    rw [decide_eq_true_eq, ea] at hS
    refine ⟨cs, ?_, ?_, ea, hS⟩
    · rw [calls_flat e, r1]
      unfold flatC
      clear r1 r2 e ew h5 ea hS
      induction cs with
      | nil => rfl
      | cons c r ih => simp_all
    · rw [r1, List.length_map] at h6
      exact h6
end JS
end
section
set_option linter.all false
set_option maxRecDepth 100000
set_option maxHeartbeats 4000000
namespace JS
open Hs06 (Change St Call)
theorem good_fresh (so a b : Nat) (e : Bool) : Good (Hs06.fresh so a b e) := ⟨List.Pairwise.nil, List.Pairwise.nil, fun _ h => (by cases h), fun _ h => (by cases h), fun _ h => (by cases h)⟩
theorem touch_id (p : R6 → Bool) (x : R6) : (Hs06.touchRow p x).id = x.id ∧ (Hs06.touchRow p x).t = x.t := by
  unfold Hs06.touchRow
  split <;> exact ⟨rfl, rfl⟩
theorem up_touch {l : List R6} (p : R6 → Bool) (u : Up l) : Up (l.map (Hs06.touchRow p)) := by
  unfold Up
  rw [List.pairwise_map]
  exact u.imp fun {a b} h => by rw [(touch_id p a).1, (touch_id p b).1]; exact h
theorem mem_touch {l : List R6} {p : R6 → Bool} {x : R6} (h : x ∈ l.map (Hs06.touchRow p)) : ∃ y ∈ l, x.id = y.id ∧ x.t = y.t := by
  obtain ⟨y, hy, e⟩ := List.mem_map.mp h
  exact ⟨y, hy, by rw [← e]; exact touch_id p y⟩
theorem mem_put {l : List R6} {x y : R6} {c : Prop} [Decidable c] (h : y ∈ (if c then l ++ [x] else l)) : y ∈ l ∨ y = x := by
  split at h
  · rcases List.mem_append.mp h with z | z
    · exact .inl z
    · exact .inr (List.mem_singleton.mp z)
  · exact .inl h
theorem up_put {l : List R6} {x : R6} {c : Prop} [Decidable c] (u : Up l) (h : ∀ y ∈ l, y.id < x.id) : Up (if c then l ++ [x] else l) := by
  split
  · exact up_snoc u h
  · exact u
theorem good_prune {s : St} (G : Good s) : Good (Hs06.pruned s) :=
  { G with uR := up_filter G.uR _, iR := fun x hx => G.iR x (List.mem_filter.mp hx).1 }
variable {s : St}
theorem good_left (G : Good s) (key t : Nat) (ht : t ≤ Hs06.top) : Good (Hs06.does s (.left key t)).1 := by
  have lt : ∀ y ∈ s.lefts, y.id < s.countL + 1 := fun y hy => Nat.lt_succ_of_le (G.iL y hy)
  have le : ∀ y ∈ s.lefts, y.id ≤ s.countL + 1 := fun y hy => Nat.le_succ_of_le (G.iL y hy)
  show Good (if s.sort = 3 then Hs06.leftAsks s key t else Hs06.leftComes s key t).1
  split
  · unfold Hs06.leftAsks
    dsimp only
    split
    · exact { G with iL := le }
    · refine { G with uL := up_snoc G.uL lt, iL := fun x hx => ?_, tL := fun x hx => ?_ }
      · rcases List.mem_append.mp hx with z | z
        · exact le x z
        · rw [List.mem_singleton.mp z]
          exact Nat.le_refl _
      · rcases List.mem_append.mp hx with z | z
        · exact G.tL x z
        · rw [List.mem_singleton.mp z]
          exact ht
  · refine ⟨up_put G.uL lt, up_touch _ G.uR, fun x hx => ?_, fun x hx => ?_, fun x hx => ?_⟩
    · rcases mem_put hx with z | z
      · exact le x z
      · rw [z]
        exact Nat.le_refl _
    · obtain ⟨y, hy, e, _⟩ := mem_touch hx
      rw [e]
      exact G.iR y hy
    · rcases mem_put hx with z | z
      · exact G.tL x z
      · rw [z]
        exact ht
theorem good_right (G : Good s) (key t : Nat) : Good (Hs06.does s (.right key t)).1 := by
  have lt : ∀ y ∈ s.rights, y.id < s.countR + 1 := fun y hy => Nat.lt_succ_of_le (G.iR y hy)
  have le : ∀ y ∈ s.rights, y.id ≤ s.countR + 1 := fun y hy => Nat.le_succ_of_le (G.iR y hy)
  show Good (if s.sort = 3 then (Hs06.versionComes s key t, []) else Hs06.rightComes s key t).1
  split
  · refine good_prune (s := { s with countR := s.countR + 1, rights := s.rights ++ [⟨s.countR + 1, key, t, false⟩] }) { G with uR := up_snoc G.uR lt, iR := fun x hx => ?_ }
    rcases List.mem_append.mp hx with z | z
    · exact le x z
    · rw [List.mem_singleton.mp z]
      exact Nat.le_refl _
  · refine ⟨up_touch _ G.uL, up_put G.uR lt, fun x hx => ?_, fun x hx => ?_, fun x hx => ?_⟩
    · obtain ⟨y, hy, e, _⟩ := mem_touch hx
      rw [e]
      exact G.iL y hy
    · rcases mem_put hx with z | z
      · exact le x z
      · rw [z]
        exact Nat.le_refl _
    · obtain ⟨y, hy, _, e⟩ := mem_touch hx
      rw [e]
      exact G.tL y hy
theorem good_markL (G : Good s) (m : Nat) : Good (Hs06.does s (.markL m)).1 := by
  show Good (if s.sort = 3 then (Hs06.markAsks s m, []) else Hs06.markLeft s m).1
  split
  · exact good_prune (s := { s with markL := m }) { G with }
  · exact { G with uR := up_filter G.uR _, iR := fun x hx => G.iR x (List.mem_filter.mp hx).1 }
theorem good_markR (G : Good s) (m : Nat) : Good (Hs06.does s (.markR m)).1 := by
  show Good (if s.sort = 3 then Hs06.markVersions s m else Hs06.markRight s m).1
  split
  · exact good_prune (s := { s with markR := m, lefts := s.lefts.filter fun l => decide (m ≤ l.t) }) { G with uL := up_filter G.uL _, iL := fun x hx => G.iL x (List.mem_filter.mp hx).1, tL := fun x hx => G.tL x (List.mem_filter.mp hx).1 }
  · exact { G with uL := up_filter G.uL _, iL := fun x hx => G.iL x (List.mem_filter.mp hx).1, tL := fun x hx => G.tL x (List.mem_filter.mp hx).1 }
theorem good_step (G : Good s) (c : Call) : Good (Hs06.step s c).1 := by
  cases c with
  | begin_ so a b e =>
    show Good (match Hs06.beginBad so a b e with
      | some n => (s, [n])
      | none => (Hs06.fresh so a b (e == 1), [0])).1
    cases Hs06.beginBad so a b e with
    | some n => exact G
    | none => exact good_fresh _ _ _ _
  | left key t =>
    show Good (if Hs06.top < t then (s, [-2]) else if t < s.markL then ({ s with aside := s.aside + 1 }, Hs06.ints [0, 0]) else _).1
    split
    · exact G
    · split
      · exact { G with }
      · exact good_left G key t (by omega)
  | right key t =>
    show Good (if Hs06.top < t then (s, [-2]) else if t < s.markR then ({ s with aside := s.aside + 1 }, Hs06.ints [0, 0]) else _).1
    split
    · exact G
    · split
      · exact { G with }
      · exact good_right G key t
  | markL m =>
    show Good (if m < s.markL then (s, [-2]) else if Hs06.top + 1 < m then (s, [-3]) else _).1
    split
    · exact G
    · split
      · exact G
      · exact good_markL G m
  | markR m =>
    show Good (if m < s.markR then (s, [-2]) else if Hs06.top + 1 < m then (s, [-3]) else _).1
    split
    · exact G
    · split
      · exact G
      · exact good_markR G m
  | lefts => exact G
  | rights => exact G
  | counts => exact G
  | at_ key t => exact G
/-! ### no list grows by more than one row a call -/
def Len (s : St) (n : Nat) : Prop := s.lefts.length ≤ n ∧ s.rights.length ≤ n
theorem len_put {l : List R6} {x : R6} {n : Nat} {c : Prop} [Decidable c] (h : l.length ≤ n) : (if c then l ++ [x] else l).length ≤ n + 1 := by
  split
  · rw [List.length_append]
    exact Nat.succ_le_succ h
  · exact Nat.le_succ_of_le h
theorem len_filter {l : List R6} {p : R6 → Bool} {n : Nat} (h : l.length ≤ n) : (l.filter p).length ≤ n + 1 := Nat.le_succ_of_le (Nat.le_trans (List.length_filter_le _ _) h)
theorem len_step {n : Nat} (h : Len s n) (c : Call) : Len (Hs06.step s c).1 (n + 1) := by
  have h' : Len s (n + 1) := ⟨Nat.le_succ_of_le h.1, Nat.le_succ_of_le h.2⟩
  cases c with
  | begin_ so a b e =>
    show Len (match Hs06.beginBad so a b e with
      | some n => (s, [n])
      | none => (Hs06.fresh so a b (e == 1), [0])).1 _
    cases Hs06.beginBad so a b e with
    | some n => exact h'
    | none => exact ⟨Nat.zero_le _, Nat.zero_le _⟩
  | left key t =>
    show Len (if Hs06.top < t then (s, [-2]) else if t < s.markL then ({ s with aside := s.aside + 1 }, Hs06.ints [0, 0]) else ((Hs06.does s (.left key t)).1, _)).1 _
    split
    · exact h'
    · split
      · exact h'
      · show Len (if s.sort = 3 then Hs06.leftAsks s key t else Hs06.leftComes s key t).1 _
        split
        · unfold Hs06.leftAsks
          dsimp only
          split
          · exact h'
          · exact ⟨by show (s.lefts ++ [_]).length ≤ _; rw [List.length_append]; exact Nat.succ_le_succ h.1, h'.2⟩
        · exact ⟨len_put h.1, by show (s.rights.map _).length ≤ _; rw [List.length_map]; exact h'.2⟩
  | right key t =>
    show Len (if Hs06.top < t then (s, [-2]) else if t < s.markR then ({ s with aside := s.aside + 1 }, Hs06.ints [0, 0]) else ((Hs06.does s (.right key t)).1, _)).1 _
    split
    · exact h'
    · split
      · exact h'
      · show Len (if s.sort = 3 then (Hs06.versionComes s key t, []) else Hs06.rightComes s key t).1 _
        split
        · refine ⟨h'.1, Nat.le_trans (List.length_filter_le _ _) ?_⟩
          show (s.rights ++ [_]).length ≤ _
          rw [List.length_append]
          exact Nat.succ_le_succ h.2
        · exact ⟨by show (s.lefts.map _).length ≤ _; rw [List.length_map]; exact h'.1, len_put h.2⟩
  | markL m =>
    show Len (if m < s.markL then (s, [-2]) else if Hs06.top + 1 < m then (s, [-3]) else ((Hs06.does s (.markL m)).1, _)).1 _
    split
    · exact h'
    · split
      · exact h'
      · show Len (if s.sort = 3 then (Hs06.markAsks s m, []) else Hs06.markLeft s m).1 _
        split
        · exact ⟨h'.1, len_filter h.2⟩
        · exact ⟨h'.1, len_filter h.2⟩
  | markR m =>
    show Len (if m < s.markR then (s, [-2]) else if Hs06.top + 1 < m then (s, [-3]) else ((Hs06.does s (.markR m)).1, _)).1 _
    split
    · exact h'
    · split
      · exact h'
      · show Len (if s.sort = 3 then Hs06.markVersions s m else Hs06.markRight s m).1 _
        split
        · exact ⟨len_filter h.1, len_filter h.2⟩
        · exact ⟨len_filter h.1, h'.2⟩
  | lefts => exact h'
  | rights => exact h'
  | counts => exact h'
  | at_ key t => exact h'
end JS
end
section
set_option linter.all false
set_option maxRecDepth 100000
set_option maxHeartbeats 4000000
namespace JS
open PySem PySem.Spec PyProof.Rows L2 LamX
/-! ## a dict of the top whose keys are ints: d[k] -/
def IntKeys (l : List DictEntry) : Prop := ∀ e ∈ l, ∃ (k : Int) (t : Tok), e.key = .int k t ∧ e.hash = hashInt k
def IntTab (K : PySem.W.Frag) (a : Addr) (x : Int) (v : V) : Prop := ∃ (es : Array DictEntry) (n : Nat) (u : Value), K.lookup a = some ⟨.type "dict", none, .dict es n, #[]⟩ ∧ IntKeys es.toList ∧ findBy Value.isInt es x = some u ∧ RelV v u
def rIntTab (K : PySem.W.Frag) : R2 := fun x y H Q => ∃ (p : Addr) (z : Int) (v : V), x = .ref p ∧ y = .int z ∧ IntTab K p z v ∧ Q v H
theorem ix_tab {X : Cx} : IxR X (rIntTab X.K) := by
  intro value slice pins s σ H x y v u Q I rx ry h hs
  obtain ⟨p, z, r, rfl, rfl, ⟨es, n, u0, hl, hk, e, ru⟩, q⟩ := h
  obtain rfl : v = Value.ref p := rx
  obtain ⟨t, rfl⟩ := ry
  have hm : s.heap.MapOf (intKind X.prog X.w) p (fun k => findBy Value.isInt es k) := ⟨_, es, n, I.kIn _ _ hl, ⟨rfl, rfl, rfl⟩, rfl, fun e he => by
    obtain ⟨k, t', e1, e2⟩ := hk e (Array.mem_toList_iff.mpr he)
    refine ⟨k, ?_, e2⟩
    rw [e1]
    show Value.isInt k (.int k t') = true
    simp [Value.isInt], fun _ => rfl⟩
  have hz : (intKind X.prog X.w).is z (.int z t) = true := by
    show Value.isInt z (.int z t) = true
    simp [Value.isInt]
  exact tail_any hm.typeIs slot_dict_getitem.lookup (wpAny_getItem_of hz hm e ⟨r, H, I.tok _, ru, q⟩) hs
end JS
end
section
set_option linter.all false
set_option maxRecDepth 100000
set_option maxHeartbeats 4000000
namespace JS
open PySem PySem.Spec PyProof.Rows L2 LamX
/-- a kept row, as lefts and rights tell it -/
def rowV (r : R6) : List V := [.int r.id, .int r.key, .int r.t, .int ((if r.met = true then 1 else 0 : Nat) : Int)]
theorem rows_ints (l : List R6) : (Hs06.ints (Hs06.rows l)).map V.int = .int ((l.map rowV).length : Int) :: (l.map rowV).flatten := by
  unfold Hs06.ints Hs06.rows
  rw [List.map_cons, List.map_cons, List.length_map]
  congr 1
  induction l with
  | nil => rfl
  | cons c r ih =>
    rw [List.flatMap_cons, List.map_append, List.map_append, ih]
    rfl
theorem PtL.push {H : Hp} {l t : Addr} {L : List (List V)} {x : List V} (h : PtL H l L) (ht : H t = some (.tup x)) : ∃ xs, H l = some (.lst xs) ∧ xs.length = L.length ∧ PtL (L2.upd H l (.lst (xs ++ [.ref t]))) l (L ++ [x]) := by
  obtain ⟨ps, e1, e2, e3⟩ := h
  refine ⟨_, e2, by rw [refsOf_len, ← e1, List.length_map], ps ++ [(t, x)], by rw [List.map_append, e1]; rfl, ?_, fun p hp => ?_⟩
  · rw [upd_same, refsOf_snoc]
  · have q : H p.1 = some (.tup p.2) := by
      rcases List.mem_append.mp hp with z | z
      · exact e3 p z
      · rw [List.mem_singleton] at z
        subst z
        exact ht
    rw [upd_ne (ne_of q e2 (by intro z; cases z))]
    exact q
theorem PtL.same {H H' : Hp} {l : Addr} {L : List (List V)} (h : PtL H l L) (k : Same H H') : PtL H' l L := let ⟨ps, e1, e2, e3⟩ := h; ⟨ps, e1, k _ _ e2, fun p hp => k _ _ (e3 p hp)⟩
section
variable {P : Program} {w : World} {K : PySem.W.Frag} {mg : Str → Option Value} {base : Heap} {CR CS CJ : Addr}
/-! ### kept_answer -/
def spKept (CR CS : Addr) : Sp := fun vs H Q _ => ∃ (s : Sd), vs = [.ref s.at_] ∧ SideAt CR CS H s ∧ s.kept.length ≤ 1000 ∧
  ∀ (H' : Hp) (n : Addr), H n = none → H' n = some (.lst ((Hs06.ints (Hs06.rows (rws s.kept))).map V.int)) → Same H H' → Q (.ref n) H'
theorem scKept : FnScope ["side", "row"] ["side"] (defScope zKept) := ⟨rfl, rfl, rfl, by decide +kernel, rfl, by decide +kernel, by decide +kernel⟩
theorem ok_kept {f : Addr} {fd : FuncData} (F : Fun K "kept_answer" "kept_answer" zKept f fd) (T : Txt K mg CR CS CJ) (dC : Def P w K mg base 1 "counted" ["parts"] spCount) : FnOk P w K mg base CX0 2 f fd ["side"] (spKept CR CS) := by
  obtain ⟨fC, fdC, GC, gC, kC, bC⟩ := dC
  refine F.ok scKept (fun vs H Q E h => ?_) (fun cdv A outer s H vs Q E hr h => ⟨_, pss_one (ps_ret (pe_call GC hr rfl gC kC bC .nil pass0 (pa_cons
      (pe_lc (own := [("row", 1)]) (g := gName 1) (tt := tYes) (te := tTup (tCons (tFld K (tVar 1) "number") (tCons (tFld K (tVar 1) "key") (tCons (tFld K (tVar 1) "time") (tCons (tIf (tTest (tFld K (tVar 1) "met")) (tC (V.int 1)) (tC (V.int 0))) tNil))))) rfl scKept.nd (pi_list (pe_fld (pv 0) rfl))
        (blkOk_by (own := [("row", 1)]) (N := ["side", "row"]) (sc := defScope zKept) (by decide +kernel)) (fun _ _ _ _ _ => pg_name (i := 1) scKept.nd rfl (Or.inl rfl)) (fun _ _ _ _ _ => pts_nil)
        (fun _ _ _ _ _ => by exact (pe_tup (pa_cons (pe_fld (pv 1) rfl) (pa_cons (pe_fld (pv 1) rfl) (pa_cons (pe_fld (pv 1) rfl) (pa_cons (pe_ifExp (pt_val (pe_fld (pv 1) rfl)) pe_int pe_int) pa_nil))))))) pa_nil))), ?_⟩)
  · obtain ⟨s, rfl, _⟩ := h
    rfl
  · obtain ⟨s, rfl, hS, len, q⟩ := h
    obtain ⟨ds, hs⟩ := hS.o
    refine ⟨_, rfl, s.at_, CS, ds, _, _, rfl, hs, T.cS, T.Sk, sF_kept s, s.kl, rfl, ⟨_, SqL.of hS.k⟩, fun D hD => lc_list (K := K) (a := s.kl) (xs := refsOf s.kept)
      (fun i H' => Same H H' ∧ PtL H' D ((s.kept.take i).map fun p => rowV p.2)) ⟨Same.upd hD, [], rfl, upd_same, fun p hp => by cases hp⟩ (fun i H' _ ⟨s1, _⟩ => SqL.of (s1 _ _ hS.k)) ?_ ?_⟩
    · rintro i y H' hi ⟨s1, c1⟩
      obtain ⟨x, hx, rfl⟩ := refsOf_at hi
      have il : i < s.kept.length := (List.getElem?_eq_some_iff.mp hx).1
      obtain ⟨dx, ex⟩ := (hS.r.same s1) x (mem_at hx)
      have fin : ∀ t, H' t = none → ∃ acc, L2.upd H' t (.tup (rowV x.2)) D = some (.lst acc) ∧ acc.length < sizeLine ∧ (Same H (L2.upd (L2.upd H' t (.tup (rowV x.2))) D (.lst (acc ++ [V.ref t]))) ∧ PtL (L2.upd (L2.upd H' t (.tup (rowV x.2))) D (.lst (acc ++ [V.ref t]))) D ((s.kept.take (i + 1)).map fun p => rowV p.2)) := fun t ht => by
        obtain ⟨xs, e3, e4, e5⟩ := PtL.push (c1.same (Same.upd ht)) upd_same
        rw [List.length_map, List.length_take] at e4
        refine ⟨xs, e3, small_of (by omega), fun b o q => ?_, ?_⟩
        · rw [upd_ne (ne_of_none q hD), upd_ne (ne_of_none (s1 b o q) ht)]
          exact s1 b o q
        · rw [take_more hx, List.map_append]
          exact e5
      have s4 : 4 ≤ sizeLine := by rw [sizeLine_eq]; decide
      refine ⟨rfl, ?_⟩
      unfold tYes
      refine iteT ?_
      refine ⟨_, rfl, x.1, CR, dx, _, _, rfl, ex, T.cR, T.Rn, rF_number x.2, _, rfl, x.1, CR, dx, _, _, rfl, ex, T.cR, T.Rk, rF_key x.2, _, rfl, x.1, CR, dx, _, _, rfl, ex, T.cR, T.Rt, rF_time x.2, _, rfl, x.1, CR, dx, _, _, rfl, ex, T.cR, T.Rm, rF_met x.2, x.2.met, rfl, ?_⟩
      cases e : x.2.met with
      | true =>
        refine iteT ⟨s4, fun t ht => ?_⟩
        have z := fin t ht
        unfold rowV at z
        rw [if_pos e] at z
        exact z
      | false =>
        refine iteF ⟨s4, fun t ht => ?_⟩
        have z := fin t ht
        unfold rowV at z
        rw [if_neg (by rw [e]; exact Bool.false_ne_true)] at z
        exact z
    · rintro H1 ⟨s1, c1⟩
      rw [refsOf_len, List.take_length] at c1
      refine ⟨D, _, rfl, c1, by rw [List.length_map]; omega, fun x hx => ?_, fun H' n hn hv s2 => q H' n (Same.free s1 hn) ?_ (Same.trans s1 s2)⟩
      · obtain ⟨p, _, rfl⟩ := List.mem_map.mp hx
        exact Nat.le_refl 4
      · have em : (rws s.kept).map rowV = s.kept.map fun p => rowV p.2 := List.map_map
        rw [hv, rows_ints, em]
/-! ### counts_answer -/
def spCounts (CR CS CJ : Addr) : Sp := fun vs H Q _ => ∃ (j : Jn), vs = [.ref j.at_] ∧ JAt CR CS CJ H j ∧
  ∀ n, H n = none → Q (.ref n) (upd H n (.lst [.int j.l.taken, .int j.r.taken, .int ((j.l.aside + j.r.aside : Nat) : Int), .int j.l.mark, .int j.r.mark]))
theorem scCounts : FnScope ["join", "left", "right"] ["join"] (defScope zCounts) := ⟨rfl, rfl, rfl, by decide +kernel, rfl, by decide +kernel, by decide +kernel⟩
theorem ok_counts {f : Addr} {fd : FuncData} (F : Fun K "counts_answer" "counts_answer" zCounts f fd) (T : Txt K mg CR CS CJ) : FnOk P w K mg base CX0 1 f fd ["join"] (spCounts CR CS CJ) := by
  refine F.ok scCounts (fun vs H Q E h => ?_) (fun cdv A outer s H vs Q E hr h => ⟨_, pss_cons (ps_set (i := 1) scCounts.nd rfl (Or.inl rfl) (pe_fld (pv 0) rfl)) (pss_cons (ps_set (i := 2) scCounts.nd rfl (Or.inl rfl) (pe_fld (pv 0) rfl))
    (pss_one (ps_ret (pe_lst (pa_cons (pe_fld (pv 1) rfl) (pa_cons (pe_fld (pv 2) rfl) (pa_cons (pe_add (pe_fld (pv 1) rfl) (pe_fld (pv 2) rfl)) (pa_cons (pe_fld (pv 1) rfl) (pa_cons (pe_fld (pv 2) rfl) pa_nil))))))))), ?_⟩)
  · obtain ⟨j, rfl, _⟩ := h
    rfl
  · obtain ⟨j, rfl, J, q⟩ := h
    obtain ⟨dj, hj⟩ := J.ho
    obtain ⟨dl, hl⟩ := J.hl.o
    obtain ⟨ds, hs⟩ := J.hr.o
    refine ⟨_, rfl, j.at_, CJ, dj, _, _, rfl, hj, T.cJ, T.Jl, jF_left j, ?_⟩
    refine ⟨_, rfl, j.at_, CJ, dj, _, _, rfl, hj, T.cJ, T.Jr, jF_right j, ?_⟩
    refine ⟨_, rfl, j.l.at_, CS, dl, _, _, rfl, hl, T.cS, T.St, sF_taken j.l, _, rfl, j.r.at_, CS, ds, _, _, rfl, hs, T.cS, T.St, sF_taken j.r,
      _, rfl, j.l.at_, CS, dl, _, _, rfl, hl, T.cS, T.Sa, sF_aside j.l, _, rfl, j.r.at_, CS, ds, _, _, rfl, hs, T.cS, T.Sa, sF_aside j.r, _, _, rfl, rfl,
      _, rfl, j.l.at_, CS, dl, _, _, rfl, hl, T.cS, T.Sm, sF_mark j.l, _, rfl, j.r.at_, CS, ds, _, _, rfl, hs, T.cS, T.Sm, sF_mark j.r, by show 5 ≤ sizeLine; rw [sizeLine_eq]; decide, fun n hn => ?_⟩
    exact q n hn
/-! ### at_answer -/
def spAt (CR CS CJ : Addr) : Sp := fun vs H Q _ => ∃ (j : Jn) (s : Hs06.St) (key t : Nat), vs = [.ref j.at_, .int key, .int t] ∧ JAt CR CS CJ H j ∧ Rep j s ∧ Good s ∧
  ∀ n, H n = none → Q (.ref n) (upd H n (.lst ((Hs06.step s (.at_ key t)).2.map V.int)))
theorem scAt : FnScope ["join", "key", "time", "version"] ["join", "key", "time"] (defScope zAt) := ⟨rfl, rfl, rfl, by decide +kernel, rfl, by decide +kernel, by decide +kernel⟩
theorem ok_at {f : Addr} {fd : FuncData} (F : Fun K "at_answer" "at_answer" zAt f fd) (T : Txt K mg CR CS CJ) (dH : Def P w K mg base 1 "holding_version" ["versions", "key", "time"] (spHold CR)) : FnOk P w K mg base CX0 2 f fd ["join", "key", "time"] (spAt CR CS CJ) := by
  obtain ⟨fH, fdH, GH, gH, kH, bH⟩ := dH
  obtain ⟨tL, gL⟩ := T.gLast
  refine F.ok scAt (fun vs H Q E h => ?_) (fun cdv A outer s H vs Q E hr h => ⟨_, pss_cons (ps_if (pt_not (pt_val (pe_fld (pv 0) rfl))) (pss_one (ps_ret (pe_lst (pa_cons (pe_un un_neg pe_int) pa_nil)))) pss_nil)
    (pss_cons (ps_if (pt_cmpR op_gt (pv 2) (pe_glob (v := .int 1000000) rfl gL ⟨_, rfl⟩) (nomark _)) (pss_one (ps_ret (pe_lst (pa_cons (pe_un un_neg pe_int) pa_nil)))) pss_nil)
    (pss_cons (ps_if (pt_cmpR op_lt (pv 2) (pe_fld (pe_fld (pv 0) rfl) rfl) (nomark _)) (pss_one (ps_ret (pe_lst (pa_cons (pe_un un_neg pe_int) pa_nil)))) pss_nil)
    (pss_cons (ps_set (i := 3) scAt.nd rfl (Or.inl rfl) (pe_call GH hr rfl gH kH bH .nil pass0 (pa_cons (pe_fld (pe_fld (pv 0) rfl) rfl) (pa_cons (pv 1) (pa_cons (pv 2) pa_nil)))))
    (pss_cons (ps_if (pt_cmpR op_isN (pv 3) pe_non (nomark _)) (pss_one (ps_ret (pe_lst (pa_cons pe_int pa_nil)))) pss_nil)
    (pss_one (ps_ret (pe_lst (pa_cons (pe_fld (pv 3) rfl) (pa_cons (pe_fld (pv 3) rfl) pa_nil))))))))), ?_⟩)
  · obtain ⟨j, s, key, t, rfl, _⟩ := h
    rfl
  · obtain ⟨j, s0, key, t, rfl, J, R, G, q⟩ := h
    obtain ⟨dj, hj⟩ := J.ho
    obtain ⟨dl, hl⟩ := J.hl.o
    obtain ⟨ds, hs⟩ := J.hr.o
    have one : 1 ≤ sizeLine := by rw [sizeLine_eq]; decide
    have es : (Hs06.step s0 (.at_ key t)).2 = if s0.sort ≠ 3 then [-4] else if Hs06.top < t then [-2] else if t < s0.markL then [-5] else
      match Hs06.asOf s0.rights key t with
      | some r => Hs06.ints [r.id, r.t]
      | none => [0] := rfl
    rw [es] at q
    have em := R.mom
    refine ⟨_, rfl, j.at_, CJ, dj, _, _, rfl, hj, T.cJ, T.Jm, jF_mom j, j.mom, rfl, ?_⟩
    by_cases h3 : s0.sort = 3
    case neg =>
      rw [if_pos h3] at q
      rw [decide_eq_false h3] at em
      refine iteT_of (by rw [em]; rfl) ?_
      exact ⟨_, rfl, one, fun n hn => q n hn⟩
    rw [if_neg (fun z => z h3)] at q
    rw [decide_eq_true h3] at em
    refine iteF_of (by rw [em]; rfl) ?_
    refine ⟨_, rfl, _, _, rfl, rfl, _, rfl, ?_⟩
    by_cases c1 : 1000000 < t
    · rw [if_pos (show Hs06.top < t from c1)] at q
      exact iteT_of (decide_eq_true (by omega)) ⟨_, rfl, one, fun n hn => q n hn⟩
    rw [if_neg (show ¬ Hs06.top < t from c1)] at q
    refine iteF_of (decide_eq_false (by omega)) ?_
    refine ⟨_, rfl, _, rfl, j.at_, CJ, dj, _, _, rfl, hj, T.cJ, T.Jl, jF_left j, j.l.at_, CS, dl, _, _, rfl, hl, T.cS, T.Sm, sF_mark _, _, _, rfl, rfl, _, rfl, ?_⟩
    rw [natLt, R.lm]
    by_cases c2 : t < s0.markL
    · rw [if_pos c2] at q
      exact iteT_of (decide_eq_true c2) ⟨_, rfl, one, fun n hn => q n hn⟩
    rw [if_neg c2] at q
    refine iteF_of (decide_eq_false c2) ?_
    refine ⟨_, rfl, j.at_, CJ, dj, _, _, rfl, hj, T.cJ, T.Jr, jF_right j, j.r.at_, CS, ds, _, _, rfl, hs, T.cS, T.Sk, sF_kept j.r, _, rfl, _, rfl, j.r.kl, j.r.kept, key, t, rfl, J.hr.k, J.hr.r, ?_⟩
    have eh := holdP_is j.r.kept key t
    rw [R.rk, holding_is G.uR] at eh
    rw [← eh] at q
    cases e : holdP j.r.kept key t with
    | none =>
      rw [e] at q
      exact ⟨_, rfl, rfl, _, rfl, iteT_of rfl ⟨one, fun n hn => q n hn⟩⟩
    | some y =>
      rw [e] at q
      obtain ⟨dy, hy⟩ := J.hr.r y (holdP_mem e)
      refine ⟨_, rfl, rfl, _, rfl, iteF_of rfl ?_⟩
      exact ⟨_, rfl, y.1, CR, dy, _, _, rfl, hy, T.cR, T.Rn, rF_number y.2, _, rfl, y.1, CR, dy, _, _, rfl, hy, T.cR, T.Rt, rF_time y.2, by show 2 ≤ sizeLine; rw [sizeLine_eq]; decide, fun n hn => q n hn⟩
end
end JS
end
section
set_option linter.all false
set_option maxRecDepth 100000
set_option maxHeartbeats 4000000
namespace JS
open PySem PySem.Spec PyProof.Rows L2 LamX
/-- the numbers behind a call's own -/
def argsOf (c : Hs06.Call) : List Nat := (enc c).tail
def opOf (c : Hs06.Call) : Nat := (enc c).headD 0
theorem enc_eq (c : Hs06.Call) : enc c = opOf c :: argsOf c := by cases c <;> rfl
abbrev natV (l : List Nat) : List V := l.map fun (n : Nat) => V.int (n : Int)
/-- a call that changes nothing -/
theorem Post.calm {CR CS CJ Pt n : Addr} {H H' : Hp} {j : Jn} {s : Hs06.St} {out : List Int} (J : JAt CR CS CJ H j) (R : Rep j s) (T : Tabs (tabT Pt) H) (hn : H n = none) (s1 : Same H H') (hv : H' n = some (.lst (out.map V.int))) : Post CR CS CJ Pt H H' j j s n out :=
  ⟨J.same s1, R, T.ext s1, hv, Fr.of_same s1, fun b c e _ _ => ne_of_none e hn, fun x h => .inl h, rfl⟩
section
variable {P : Program} {w : World} {K : PySem.W.Frag} {mg : Str → Option Value} {base : Heap} {CR CS CJ : Addr}
def spCallA (CR CS CJ Pt : Addr) : Sp := fun vs H Q _ => ∃ (j : Jn) (s : Hs06.St) (c : Hs06.Call) (g : Addr), vs = [.ref j.at_, .int (opOf c : Int), .ref g] ∧ opOf c ≠ 0 ∧ H g = some (.lst (natV (argsOf c))) ∧ JAt CR CS CJ H j ∧ Rep j s ∧ Good s ∧ Tabs (tabT Pt) H ∧ j.l.kept.length ≤ 999 ∧ j.r.kept.length ≤ 999 ∧
  ∀ (H' : Hp) (j' : Jn) (n : Addr), Post CR CS CJ Pt H H' j j' (Hs06.step s c).1 n (Hs06.step s c).2 → Q (.ref n) H'
theorem scCall : FnScope ["join", "call", "given"] ["join", "call", "given"] (defScope zCall) := ⟨rfl, rfl, rfl, by decide +kernel, rfl, by decide +kernel, by decide +kernel⟩
theorem ok_callA {f Pt : Addr} {fd : FuncData} (F : Fun K "call_answer" "call_answer" zCall f fd) (T : Txt K mg CR CS CJ)
    (dR : Def P w K mg base 5 "row_answer" ["join", "side", "key", "time"] (spRowA CR CS CJ Pt)) (dM : Def P w K mg base 5 "mark_answer" ["join", "side", "time"] (spMarkA CR CS CJ Pt))
    (dK : Def P w K mg base 2 "kept_answer" ["side"] (spKept CR CS)) (dN : Def P w K mg base 1 "counts_answer" ["join"] (spCounts CR CS CJ)) (dA : Def P w K mg base 2 "at_answer" ["join", "key", "time"] (spAt CR CS CJ)) :
    FnOk P w K mg base CX0 6 f fd ["join", "call", "given"] (spCallA CR CS CJ Pt) := by
  obtain ⟨fR, fdR, GR, gR, kR, bR⟩ := dR
  obtain ⟨fM, fdM, GM, gM, kM, bM⟩ := dM
  obtain ⟨fK, fdK, GK, gK, kK, bK⟩ := dK
  obtain ⟨fN, fdN, GN, gN, kN, bN⟩ := dN
  obtain ⟨fA, fdA, GA, gA, kA, bA⟩ := dA
  obtain ⟨t1, g1⟩ := T.gLeft
  obtain ⟨t2, g2⟩ := T.gRight
  obtain ⟨t3, g3⟩ := T.gLeftM
  obtain ⟨t4, g4⟩ := T.gRightM
  obtain ⟨t5, g5⟩ := T.gLefts
  obtain ⟨t6, g6⟩ := T.gRights
  obtain ⟨t7, g7⟩ := T.gCounts
  refine F.ok scCall (fun vs H Q E h => ?_) (fun cdv A outer s H vs Q E hr h => ⟨_, pss_cons (ps_if (pt_cmpR op_eq (pv 1) (pe_glob (v := .int 1) rfl g1 ⟨_, rfl⟩) (nomark _)) (pss_one (ps_ret (pe_call GR hr rfl gR kR bR .nil pass0 (pa_cons (pv 0) (pa_cons (pe_fld (pv 0) rfl) (pa_cons (pe_ix ix_list (pv 2) pe_int (fun _ _ => rfl)) (pa_cons (pe_ix ix_list (pv 2) pe_int (fun _ _ => rfl)) pa_nil))))))) pss_nil)
    (pss_cons (ps_if (pt_cmpR op_eq (pv 1) (pe_glob (v := .int 2) rfl g2 ⟨_, rfl⟩) (nomark _)) (pss_one (ps_ret (pe_call GR hr rfl gR kR bR .nil pass0 (pa_cons (pv 0) (pa_cons (pe_fld (pv 0) rfl) (pa_cons (pe_ix ix_list (pv 2) pe_int (fun _ _ => rfl)) (pa_cons (pe_ix ix_list (pv 2) pe_int (fun _ _ => rfl)) pa_nil))))))) pss_nil)
    (pss_cons (ps_if (pt_cmpR op_eq (pv 1) (pe_glob (v := .int 3) rfl g3 ⟨_, rfl⟩) (nomark _)) (pss_one (ps_ret (pe_call GM hr rfl gM kM bM .nil pass0 (pa_cons (pv 0) (pa_cons (pe_fld (pv 0) rfl) (pa_cons (pe_ix ix_list (pv 2) pe_int (fun _ _ => rfl)) pa_nil)))))) pss_nil)
    (pss_cons (ps_if (pt_cmpR op_eq (pv 1) (pe_glob (v := .int 4) rfl g4 ⟨_, rfl⟩) (nomark _)) (pss_one (ps_ret (pe_call GM hr rfl gM kM bM .nil pass0 (pa_cons (pv 0) (pa_cons (pe_fld (pv 0) rfl) (pa_cons (pe_ix ix_list (pv 2) pe_int (fun _ _ => rfl)) pa_nil)))))) pss_nil)
    (pss_cons (ps_if (pt_cmpR op_eq (pv 1) (pe_glob (v := .int 5) rfl g5 ⟨_, rfl⟩) (nomark _)) (pss_one (ps_ret (pe_call GK (hr.mono (by decide)) rfl gK kK bK .nil pass0 (pa_cons (pe_fld (pv 0) rfl) pa_nil)))) pss_nil)
    (pss_cons (ps_if (pt_cmpR op_eq (pv 1) (pe_glob (v := .int 6) rfl g6 ⟨_, rfl⟩) (nomark _)) (pss_one (ps_ret (pe_call GK (hr.mono (by decide)) rfl gK kK bK .nil pass0 (pa_cons (pe_fld (pv 0) rfl) pa_nil)))) pss_nil)
    (pss_cons (ps_if (pt_cmpR op_eq (pv 1) (pe_glob (v := .int 7) rfl g7 ⟨_, rfl⟩) (nomark _)) (pss_one (ps_ret (pe_call GN (hr.mono (by decide)) rfl gN kN bN .nil pass0 (pa_cons (pv 0) pa_nil)))) pss_nil)
    (pss_one (ps_ret (pe_call GA (hr.mono (by decide)) rfl gA kA bA .nil pass0 (pa_cons (pv 0) (pa_cons (pe_ix ix_list (pv 2) pe_int (fun _ _ => rfl)) (pa_cons (pe_ix ix_list (pv 2) pe_int (fun _ _ => rfl)) pa_nil)))))))))))), ?_⟩)
  · obtain ⟨j, s, c, g, rfl, _⟩ := h
    rfl
  · obtain ⟨j, s0, c, g, rfl, nb, hg, J, R, G, hT, ll, lr, q⟩ := h
    obtain ⟨dj, hj⟩ := J.ho
    refine ⟨_, rfl, rfl, _, rfl, ?_⟩
    cases c with
    | begin_ _ _ _ _ => exact absurd rfl nb
    | left key t =>
      refine iteT_of rfl ?_
      refine ⟨_, rfl, _, rfl, j.at_, CJ, dj, _, _, rfl, hj, T.cJ, T.Jl, jF_left j, _, rfl, g, _, _, _, rfl, rfl, SqL.of hg, atI_nat (j := 0) rfl, _, rfl, g, _, _, _, rfl, rfl, SqL.of hg, atI_nat (j := 1) rfl, j, s0, true, key, t, rfl, J, R, G, hT, ll, lr, q⟩
    | right key t =>
      refine iteF_of rfl ⟨_, rfl, rfl, _, rfl, iteT_of rfl ?_⟩
      refine ⟨_, rfl, _, rfl, j.at_, CJ, dj, _, _, rfl, hj, T.cJ, T.Jr, jF_right j, _, rfl, g, _, _, _, rfl, rfl, SqL.of hg, atI_nat (j := 0) rfl, _, rfl, g, _, _, _, rfl, rfl, SqL.of hg, atI_nat (j := 1) rfl, j, s0, false, key, t, rfl, J, R, G, hT, ll, lr, q⟩
    | markL m =>
      refine iteF_of rfl ⟨_, rfl, rfl, _, rfl, iteF_of rfl ⟨_, rfl, rfl, _, rfl, iteT_of rfl ?_⟩⟩
      refine ⟨_, rfl, _, rfl, j.at_, CJ, dj, _, _, rfl, hj, T.cJ, T.Jl, jF_left j, _, rfl, g, _, _, _, rfl, rfl, SqL.of hg, atI_nat (j := 0) rfl, j, s0, true, m, rfl, J, R, G, hT, by omega, by omega, q⟩
    | markR m =>
      refine iteF_of rfl ⟨_, rfl, rfl, _, rfl, iteF_of rfl ⟨_, rfl, rfl, _, rfl, iteF_of rfl ⟨_, rfl, rfl, _, rfl, iteT_of rfl ?_⟩⟩⟩
      refine ⟨_, rfl, _, rfl, j.at_, CJ, dj, _, _, rfl, hj, T.cJ, T.Jr, jF_right j, _, rfl, g, _, _, _, rfl, rfl, SqL.of hg, atI_nat (j := 0) rfl, j, s0, false, m, rfl, J, R, G, hT, by omega, by omega, q⟩
    | lefts =>
      refine iteF_of rfl ⟨_, rfl, rfl, _, rfl, iteF_of rfl ⟨_, rfl, rfl, _, rfl, iteF_of rfl ⟨_, rfl, rfl, _, rfl, iteF_of rfl ⟨_, rfl, rfl, _, rfl, iteT_of rfl ?_⟩⟩⟩⟩
      refine ⟨_, rfl, j.at_, CJ, dj, _, _, rfl, hj, T.cJ, T.Jl, jF_left j, j.l, rfl, J.hl, by omega, fun H' n hn hv s1 => q H' j n (Post.calm J R hT hn s1 ?_)⟩
      rw [hv, R.lk]
      rfl
    | rights =>
      refine iteF_of rfl ⟨_, rfl, rfl, _, rfl, iteF_of rfl ⟨_, rfl, rfl, _, rfl, iteF_of rfl ⟨_, rfl, rfl, _, rfl, iteF_of rfl ⟨_, rfl, rfl, _, rfl, iteF_of rfl ⟨_, rfl, rfl, _, rfl, iteT_of rfl ?_⟩⟩⟩⟩⟩
      refine ⟨_, rfl, j.at_, CJ, dj, _, _, rfl, hj, T.cJ, T.Jr, jF_right j, j.r, rfl, J.hr, by omega, fun H' n hn hv s1 => q H' j n (Post.calm J R hT hn s1 ?_)⟩
      rw [hv, R.rk]
      rfl
    | counts =>
      refine iteF_of rfl ⟨_, rfl, rfl, _, rfl, iteF_of rfl ⟨_, rfl, rfl, _, rfl, iteF_of rfl ⟨_, rfl, rfl, _, rfl, iteF_of rfl ⟨_, rfl, rfl, _, rfl, iteF_of rfl ⟨_, rfl, rfl, _, rfl, iteF_of rfl ⟨_, rfl, rfl, _, rfl, iteT_of rfl ?_⟩⟩⟩⟩⟩⟩
      refine ⟨_, rfl, j, rfl, J, fun n hn => q _ j n (Post.calm J R hT hn (Same.upd hn) ?_)⟩
      rw [upd_same, R.lt, R.rt, R.ra, R.lm, R.rm]
      rfl
    | at_ key t =>
      refine iteF_of rfl ⟨_, rfl, rfl, _, rfl, iteF_of rfl ⟨_, rfl, rfl, _, rfl, iteF_of rfl ⟨_, rfl, rfl, _, rfl, iteF_of rfl ⟨_, rfl, rfl, _, rfl, iteF_of rfl ⟨_, rfl, rfl, _, rfl, iteF_of rfl ⟨_, rfl, rfl, _, rfl, iteF_of rfl ?_⟩⟩⟩⟩⟩⟩
      exact ⟨_, rfl, _, rfl, g, _, _, _, rfl, rfl, SqL.of hg, atI_nat (j := 0) rfl, _, rfl, g, _, _, _, rfl, rfl, SqL.of hg, atI_nat (j := 1) rfl, j, s0, key, t, rfl, J, R, G, fun n hn => q _ j n (Post.calm J R hT hn (Same.upd hn) upd_same)⟩
end
end JS
end
section
set_option linter.all false
set_option maxRecDepth 100000
set_option maxHeartbeats 4000000
namespace JS
open PySem PySem.Spec PyProof.Rows L2 LamX
/-- two ways, what follows once -/
theorem if_join2 {t u : TS} {D : Ends} {σ : L2.St} {H : Hp} {c : Bool} (Good : L2.St → Hp → Prop) (hA : c = true → ∀ D' : Ends, (∀ σ2 H2, Good σ2 H2 → D'.nx σ2 H2) → t D' σ H) (hB : c = false → ∀ D' : Ends, (∀ σ2 H2, Good σ2 H2 → D'.nx σ2 H2) → u D' σ H)
    (hN : ∀ σ2 H2, Good σ2 H2 → D.nx σ2 H2) : if c = true then t D σ H else u D σ H := by
  cases e : c with
  | true => rw [if_pos rfl]; exact hA e D hN
  | false => rw [if_neg Bool.false_ne_true]; exact hB e D hN
/-- a list that is read, written down or outside of X -/
def KL (K : PySem.W.Frag) (H : Hp) (X : Addr → Prop) (a : Addr) (xs : List V) : Prop := SqL K (fun _ => none) a xs ∨ (Rd H a (.lst xs) ∧ ¬ X a)
section
variable {K : PySem.W.Frag} {H H' : Hp} {X X' : Addr → Prop} {a : Addr} {xs : List V}
theorem KL.sq (h : KL K H X a xs) : SqL K H a xs := by
  rcases h with ((h | ⟨o, h⟩) | h) | ⟨h, _⟩
  · cases h
  · cases h
  · exact .inr h
  · exact .inl h
theorem KL.of (h : SqL K H a xs) (n : ∀ u, H a = some u → ¬ X a) : KL K H X a xs := by
  rcases h with h | h
  · refine .inr ⟨h, ?_⟩
    rcases h with h | ⟨o, h⟩
    · exact n _ h
    · exact n _ h
  · exact .inl (.inr h)
theorem KL.fr (h : KL K H X a xs) (f : Fr X H H') (x : X' a → X a ∨ NewA H a) : KL K H' X' a xs := by
  rcases h with h | ⟨h, nx⟩
  · exact .inl h
  · refine .inr ?_
    rcases h with h | ⟨o, h⟩
    · refine ⟨.inl (f _ _ h nx nt_lst), fun z => ?_⟩
      rcases x z with z | z
      · exact nx z
      · exact z.ne h nt_lst rfl
    · refine ⟨.inr ⟨o, f _ _ h nx fun ps z => by cases z⟩, fun z => ?_⟩
      rcases x z with z | z
      · exact nx z
      · exact z.ne h (fun ps z => by cases z) rfl
end
theorem JAt.out {CR CS CJ : Addr} {H H' : Hp} {j : Jn} (J : JAt CR CS CJ H j) {x : Addr} (st : ∀ b c, H b = some c → b ≠ x → H' b = some c) (nf : ¬ Foot j x) (na : j.at_ ≠ x) : JAt CR CS CJ H' j := by
  obtain ⟨dj, ej⟩ := J.ho
  obtain ⟨dl, el⟩ := J.hl.o
  obtain ⟨dr, er⟩ := J.hr.o
  refine ⟨⟨dj, st _ _ ej na⟩, ⟨⟨dl, st _ _ el fun z => nf (.inl z.symm)⟩, st _ _ J.hl.k fun z => nf (.inr (.inr (.inl z.symm))), fun p hp => ?_⟩, ⟨⟨dr, st _ _ er fun z => nf (.inr (.inl z.symm))⟩, st _ _ J.hr.k fun z => nf (.inr (.inr (.inr (.inl z.symm)))), fun p hp => ?_⟩, J.isl, J.isr, J.kk, J.nd⟩
  · obtain ⟨dp, ep⟩ := J.hl.r p hp
    exact ⟨dp, st _ _ ep fun z => nf (.inr (.inr (.inr (.inr ⟨p, List.mem_append_left _ hp, z.symm⟩))))⟩
  · obtain ⟨dp, ep⟩ := J.hr.r p hp
    exact ⟨dp, st _ _ ep fun z => nf (.inr (.inr (.inr (.inr ⟨p, List.mem_append_right _ hp, z.symm⟩))))⟩
theorem JAt.new {CR CS CJ : Addr} {H : Hp} {j : Jn} (J : JAt CR CS CJ H j) {x : Addr} (h : H x = none) : ¬ Foot j x := fun z => by
  obtain ⟨dl, el⟩ := J.hl.o
  obtain ⟨dr, er⟩ := J.hr.o
  rcases z with z | z | z | z | ⟨p, hp, z⟩
  · rw [z, el] at h
    cases h
  · rw [z, er] at h
    cases h
  · rw [z, J.hl.k] at h
    cases h
  · rw [z, J.hr.k] at h
    cases h
  · obtain ⟨dp, ep⟩ := J.row hp
    rw [z, ep] at h
    cases h
theorem fresh_foot {p sl sr kl kr : Addr} {kind ahead after e : Nat} {x : Addr} (h : Foot (freshJ p sl sr kl kr kind ahead after e) x) : x = sl ∨ x = sr ∨ x = kl ∨ x = kr := by
  rcases h with z | z | z | z | ⟨q, hq, z⟩
  · exact .inl z
  · exact .inr (.inl z)
  · exact .inr (.inr (.inl z))
  · exact .inr (.inr (.inr z))
  · cases hq
theorem rep_fresh (p sl sr kl kr : Addr) (kind ahead after e : Nat) (he : e ≤ 1) : Rep (freshJ p sl sr kl kr kind ahead after e) (Hs06.fresh kind ahead after (e == 1)) := by
  have e1 : (e == 1) = decide (e = 1) := by
    rw [Bool.eq_iff_iff]
    simp
  have e2 : decide (e = 0) = !(e == 1) := by
    rw [Bool.eq_iff_iff]
    simp
    omega
  have e3 : decide (kind = 1 ∨ kind = 2) = (decide (kind = 1) || decide (kind = 2)) := by
    rw [Bool.eq_iff_iff]
    simp
  refine ⟨rfl, rfl, rfl, ?_, ?_, rfl, rfl, rfl, rfl, rfl, ?_, ?_, rfl, rfl, rfl, rfl⟩
  · show (decide (kind = 1 ∨ kind = 2) && decide (e = 1)) = ((decide (kind = 1) || decide (kind = 2)) && (e == 1))
    rw [e1, e3]
  · show (decide (kind = 1 ∨ kind = 2) && decide (e = 0)) = ((decide (kind = 1) || decide (kind = 2)) && !(e == 1))
    rw [e2, e3]
  · show (decide (kind = 2) && decide (e = 1)) = (decide (kind = 2) && (e == 1))
    rw [e1]
  · show (decide (kind = 2) && decide (e = 0)) = (decide (kind = 2) && !(e == 1))
    rw [e2]
theorem begN_some {a b c d : Nat} {n : Int} (h : Hs06.beginBad a b c d = some n) : begN a b c d = n ∧ n ≠ 0 := by
  refine ⟨by unfold begN; rw [h], ?_⟩
  unfold Hs06.beginBad at h
  split at h
  · cases h; decide
  · split at h
    · cases h; decide
    · split at h
      · cases h; decide
      · cases h
theorem begN_none {a b c d : Nat} (h : Hs06.beginBad a b c d = none) : begN a b c d = 0 ∧ d ≤ 1 := by
  refine ⟨by unfold begN; rw [h], ?_⟩
  unfold Hs06.beginBad at h
  split at h
  · cases h
  · split at h
    · cases h
    · split at h
      · cases h
      · omega
theorem cut_mid (a b c : List V) : cutV (a ++ b ++ c) (some (a.length : Int)) (some ((a.length + b.length : Nat) : Int)) = b := by
  unfold cutV
  rw [HT.sIx_nat, HT.sIx_nat]
  have e1 : min a.length (a ++ b ++ c).length = a.length := by
    simp only [List.length_append]
    omega
  have e2 : min (a.length + b.length) (a ++ b ++ c).length = a.length + b.length := by
    simp only [List.length_append]
    omega
  rw [e1, e2, List.append_assoc, List.drop_left, Nat.add_sub_cancel_left, List.take_left]
end JS
end
section
set_option linter.all false
set_option maxRecDepth 100000
set_option maxHeartbeats 4000000
namespace JS
open PySem PySem.Spec PyProof.Rows L2 LamX
theorem natV_flat (cs : List Hs06.Call) : natV (cs.flatMap enc) = (flatC cs).map V.int := by
  unfold flatC
  rw [List.map_map]
  rfl
theorem natV_app (a b : List Nat) : natV (a ++ b) = natV a ++ natV b := by simp
theorem natV_len (a : List Nat) : (natV a).length = a.length := by simp
/-- what is known behind one call, ahead of the numbers' growing -/
structure Mid (CR CS CJ Pt : Addr) (K : PySem.W.Frag) (H : Hp) (cl nm n : Addr) (xs : List V) (out ans : List Int) (s : Hs06.St) (j : Jn) : Prop where
  J : JAt CR CS CJ H j
  R : Rep j s
  T : Tabs (tabT Pt) H
  nv : H n = some (.lst (ans.map V.int))
  ne : nm ≠ n
  mv : H nm = some (.lst (out.map V.int))
  nf : ¬ Foot j nm
  kl : KL K H (fun x => Foot j x ∨ x = nm) cl xs
section
variable {P : Program} {w : World} {K : PySem.W.Frag} {mg : Str → Option Value} {base : Heap} {CR CS CJ : Addr}
def spAns (K : PySem.W.Frag) (Pt : Addr) : Sp := fun vs H Q _ => ∃ (cl : Addr) (cs : List Hs06.Call), vs = [.ref cl] ∧ SqL K H cl ((flatC cs).map V.int) ∧ H Pt = some (.tbl #[]) ∧ cs.length ≤ 60 ∧ (toldC Hs06.init cs).length ≤ 10000000 ∧
  ∀ (H' : Hp) (nm : Addr), H' nm = some (.lst ((toldC Hs06.init cs).map V.int)) → Q (.ref nm) H'
theorem scAns : FnScope ["calls", "join", "numbers", "place", "call", "end", "given", "answer"] ["calls"] (defScope zAns) := ⟨rfl, rfl, rfl, by decide +kernel, rfl, by decide +kernel, by decide +kernel⟩
theorem ok_ans {f Pt aA fJ fS : Addr} {fd fdJ fdS : FuncData} (F : Fun K "answers" "answers" zAns f fd) (T : Txt K mg CR CS CJ) (MJ : Mk K CJ fJ) (FJ : Fun K "__init__" "Join.__init__" zJoinI fJ fdJ) (bJ : Binds K fdJ ["self", "kind", "ahead", "after", "eager"] [])
    (MS : Mk K CS fS) (FS : Fun K "__init__" "Side.__init__" zSideI fS fdS) (bS : Binds K fdS ["self", "is_left", "reach", "tells_alone", "eager"] [])
    (dB : Def P w K mg base 1 "begin_refusal" ["kind", "ahead", "after", "eager"] spBeg) (dA : Def P w K mg base 6 "call_answer" ["join", "call", "given"] (spCallA CR CS CJ Pt))
    (gArg : mg "ARGUMENTS" = some (.ref aA)) (hArg : ∀ c : Hs06.Call, IntTab K aA (opOf c : Int) (.int ((argsOf c).length : Int))) : FnOk P w K mg base CX0 7 f fd ["calls"] (spAns K Pt) := by
  have GJ : FnOk P w K mg base CX0 3 fJ fdJ ["self", "kind", "ahead", "after", "eager"] (spJoinI CR CS CJ) := ok_joinI FJ T MS FS bS
  obtain ⟨fB, fdB, GB, gB, kB, bB⟩ := dB
  obtain ⟨fA, fdA, GA, gA, kA, bA⟩ := dA
  obtain ⟨t0, g0⟩ := T.gBegin
  refine F.ok scAns (fun vs H Q E h => ?_) (fun cdv A outer s H vs Q E hr h => ⟨_, pss_cons (ps_set (i := 1) scAns.nd rfl (Or.inl rfl) (pe_make MJ GJ (hr.mono (by decide)) rfl T.gJ bJ .nil pass0 (pa_cons pe_int (pa_cons pe_int (pa_cons pe_int (pa_cons pe_int pa_nil))))))
    (pss_cons (ps_set (i := 2) scAns.nd rfl (Or.inl rfl) (pe_lst pa_nil))
    (pss_cons (ps_set (i := 3) scAns.nd rfl (Or.inl rfl) pe_int)
    (pss_cons (ps_while PassesOwn.never (pt_cmpR op_lt (pv 3) (pe_callB call_len_seq (by rfl) T.bLen PySem.boot_len (pa_cons (pv 0) pa_nil)) (nomark _))
      (pss_cons (ps_set (i := 4) scAns.nd rfl (Or.inl rfl) (pe_ix ix_list (pv 0) (pv 3) (fun _ _ => rfl)))
      (pss_cons (ps_set (i := 5) scAns.nd rfl (Or.inl rfl) (pe_add (pe_add (pv 3) pe_int) (pe_ix ix_tab (pe_glob (v := .ref aA) rfl gArg rfl) (pv 4) (fun _ _ => rfl))))
      (pss_cons (ps_set (i := 6) scAns.nd rfl (Or.inl rfl) (pe_slice sl_list (pv 0) (po_some (pe_add (pv 3) pe_int)) (po_some (pv 5))))
      (pss_cons (ps_if (pt_cmpR op_eq (pv 4) (pe_glob (v := .int 0) rfl g0 ⟨_, rfl⟩) (nomark _))
        (pss_cons (ps_set (i := 7) scAns.nd rfl (Or.inl rfl) (pe_lst (pa_cons (pe_call GB (hr.mono (by decide)) rfl gB kB bB .nil pass0 (pa_cons (pe_ix ix_list (pv 6) pe_int (fun _ _ => rfl)) (pa_cons (pe_ix ix_list (pv 6) pe_int (fun _ _ => rfl)) (pa_cons (pe_ix ix_list (pv 6) pe_int (fun _ _ => rfl)) (pa_cons (pe_ix ix_list (pv 6) pe_int (fun _ _ => rfl)) pa_nil))))) pa_nil)))
          (pss_one (ps_if (pt_cmpR op_eq (pe_ix ix_list (pv 7) pe_int (fun _ _ => rfl)) pe_int (nomark _))
            (pss_one (ps_set (i := 1) scAns.nd rfl (Or.inl rfl) (pe_make MJ GJ (hr.mono (by decide)) rfl T.gJ bJ .nil pass0 (pa_cons (pe_ix ix_list (pv 6) pe_int (fun _ _ => rfl)) (pa_cons (pe_ix ix_list (pv 6) pe_int (fun _ _ => rfl)) (pa_cons (pe_ix ix_list (pv 6) pe_int (fun _ _ => rfl)) (pa_cons (pe_ix ix_list (pv 6) pe_int (fun _ _ => rfl)) pa_nil)))))))
            pss_nil)))
        (pss_one (ps_set (i := 7) scAns.nd rfl (Or.inl rfl) (pe_call GA hr rfl gA kA bA .nil pass0 (pa_cons (pv 1) (pa_cons (pv 4) (pa_cons (pv 6) pa_nil)))))))
      (pss_cons (ps_expr (pe_bm PySem.F.plainAttrs_list PySem.F.slot_list_append PySem.F.type_list_append mt_append (pv 2) (pa_cons (pe_callB call_len_seq (by rfl) T.bLen PySem.boot_len (pa_cons (pv 7) pa_nil)) pa_nil)))
      (pss_cons (ps_expr (pe_bm PySem.F.plainAttrs_list PySem.F.slot_list_extend PySem.F.type_list_extend mt_extend (pv 2) (pa_cons (pv 7) pa_nil)))
      (pss_one (ps_set (i := 3) scAns.nd rfl (Or.inl rfl) (pv 5))))))))))
    (pss_one (ps_ret (pv 2)))))), ?_⟩)
  · obtain ⟨cl, cs, rfl, _⟩ := h
    rfl
  · obtain ⟨cl, cs, rfl, hcl, hPt, lcs, lout, q⟩ := h
    intro p dx np nd ne
    refine ⟨p, dx, 0, 10, 10, 0, rfl, upd_same, fun H1 sl sr kl kr nsl nsr nkl nkr J0 fr0 => ⟨rfl, ?_⟩⟩
    have bk0 : ∀ x, L2.upd (L2.upd H dx (.own p)) p (.ins CJ dx []) x = none → H x = none := fun x e => by
      rw [upd_ne (fun z => by rw [z, upd_same] at e; cases e)] at e
      rw [upd_ne (fun z => by rw [z, upd_same] at e; cases e)] at e
      exact e
    have s0 : Same H H1 := fun b o e => fr0 b o (by rw [upd_ne (ne_of_none e np), upd_ne (ne_of_none e nd)]; exact e) (ne_of_none e np)
    have nf0 : ∀ x u, H x = some u → ¬ Foot (freshJ p sl sr kl kr 0 10 10 0) x := fun x u e z => by
      rcases fresh_foot z with z | z | z | z
      · rw [z, bk0 _ nsl] at e
        cases e
      · rw [z, bk0 _ nsr] at e
        cases e
      · rw [z, bk0 _ nkl] at e
        cases e
      · rw [z, bk0 _ nkr] at e
        cases e
    have T0 : Tabs (tabT Pt) H := fun p hp => by
      rw [List.mem_singleton] at hp
      rw [hp]
      exact TabS.nil hPt
    refine ⟨Nat.zero_le _, fun nm hnm => ?_⟩
    have s1 : Same H1 (L2.upd H1 nm (.lst [])) := Same.upd hnm
    refine ⟨fun m σ H' => ∃ (done rest : List Hs06.Call) (j : Jn) (s : Hs06.St) (out : List Int) (v4 v5 v6 v7 : Option V), cs = done ++ rest ∧ rest.length = m ∧
      σ = [some (.ref cl), some (.ref j.at_), some (.ref nm), some (.int ((done.flatMap enc).length : Int)), v4, v5, v6, v7] ∧ JAt CR CS CJ H' j ∧ Rep j s ∧ Good s ∧ Len s done.length ∧ Tabs (tabT Pt) H' ∧ H' nm = some (.lst (out.map V.int)) ∧ ¬ Foot j nm ∧ out ++ toldC s rest = toldC Hs06.init cs ∧
      KL K H' (fun x => Foot j x ∨ x = nm) cl ((flatC cs).map V.int),
      ⟨cs.length, [], cs, freshJ p sl sr kl kr 0 10 10 0, Hs06.init, [], none, none, none, none, rfl, rfl, rfl, J0.same s1, rep_fresh p sl sr kl kr 0 10 10 0 (by decide), good_fresh _ _ _ _, ⟨Nat.zero_le _, Nat.zero_le _⟩, (T0.ext s0).ext s1, upd_same, J0.new hnm, rfl,
        (KL.of (X := fun x => Foot (freshJ p sl sr kl kr 0 10 10 0) x ∨ x = nm) hcl fun u e z => z.elim (nf0 cl u e) fun z => ne_of_none (s0 _ _ e) hnm z).fr (Fr.of_same (Same.trans s0 s1)) fun z => .inl z⟩, ?_⟩
    rintro m σ H' ⟨done, rest, j, s, out, v4, v5, v6, v7, hcs, rfl, rfl, J, R, G, L, hT, mv, nf, told, kls⟩
    refine ⟨_, rfl, _, rfl, cl, _, rfl, .inl kls.sq, _, _, rfl, rfl, _, rfl, ?_⟩
    cases rest with
    | nil =>
      refine iteF_of (decide_eq_false ?_) ?_
      · rw [List.append_nil] at hcs
        rw [hcs, ← natV_flat, natV_len]
        omega
      · refine ⟨_, rfl, q H' nm ?_⟩
        have e : out ++ [] = toldC Hs06.init cs := told
        rw [List.append_nil] at e
        rw [← e]
        exact mv
    | cons c rest =>
      have ex : (flatC cs).map V.int = natV (done.flatMap enc) ++ (V.int (opOf c : Int) :: natV (argsOf c)) ++ natV (rest.flatMap enc) := by
        rw [← natV_flat, hcs, List.flatMap_append, List.flatMap_cons, enc_eq c, natV_app, natV_app, ← List.append_assoc]
        rfl
      have ld : (natV (done.flatMap enc)).length = (done.flatMap enc).length := natV_len _
      refine iteT_of (decide_eq_true ?_) ?_
      · rw [ex]
        simp only [List.length_append, List.length_cons, ld]
        omega
      have cm : c ∈ cs := by rw [hcs]; exact List.mem_append_right _ (.head _)
      refine ⟨_, fun σ' H2 h => ⟨rest.length, by show rest.length < rest.length + 1; omega, h⟩, ?_⟩
      have e0 : ((flatC cs).map V.int)[(done.flatMap enc).length]? = some (.int (opOf c : Int)) := by
        rw [ex, List.append_assoc, List.getElem?_append_right (by rw [ld]; exact Nat.le_refl _), ld, Nat.sub_self]
        rfl
      refine ⟨_, rfl, _, rfl, cl, _, _, _, rfl, rfl, kls.sq, atI_nat e0, ?_⟩
      refine ⟨_, rfl, _, _, rfl, rfl, _, rfl, aA, _, _, rfl, rfl, hArg c, _, _, rfl, rfl, ?_⟩
      refine ⟨_, rfl, _, rfl, _, _, rfl, rfl, _, rfl, _, rfl, _, rfl, cl, _, rfl, kls.sq, fun g hg => ?_⟩
      have ec : cutV ((flatC cs).map V.int) (some (((done.flatMap enc).length : Int) + 1)) (some (((done.flatMap enc).length : Int) + 1 + ((argsOf c).length : Int))) = natV (argsOf c) := by
        have ex2 : (flatC cs).map V.int = (natV (done.flatMap enc) ++ [V.int (opOf c : Int)]) ++ natV (argsOf c) ++ natV (rest.flatMap enc) := by
          rw [ex]
          simp
        have l1 : (natV (done.flatMap enc) ++ [V.int (opOf c : Int)]).length = (done.flatMap enc).length + 1 := by
          rw [List.length_append, ld]
          rfl
        have := cut_mid (natV (done.flatMap enc) ++ [V.int (opOf c : Int)]) (natV (argsOf c)) (natV (rest.flatMap enc))
        rw [← ex2, l1, natV_len] at this
        exact this
      rw [ec]
      have sg : Same H' (L2.upd H' g (.lst (natV (argsOf c)))) := Same.upd hg
      have gv : L2.upd H' g (.lst (natV (argsOf c))) g = some (.lst (natV (argsOf c))) := upd_same
      generalize L2.upd H' g (.lst (natV (argsOf c))) = Hg at sg gv ⊢
      have Jg := J.same sg
      have Tg := hT.ext sg
      have mg' := sg _ _ mv
      have klg : KL K Hg (fun x => Foot j x ∨ x = nm) cl ((flatC cs).map V.int) := kls.fr (Fr.of_same sg) fun z => .inl z
      have ld' : done.length ≤ 60 := by
        rw [hcs, List.length_append] at lcs
        omega
      have ll : j.l.kept.length ≤ 999 := by
        have := L.1
        rw [← R.lk, List.length_map] at this
        omega
      have lr : j.r.kept.length ≤ 999 := by
        have := L.2
        rw [← R.rk, List.length_map] at this
        omega
      refine ⟨_, rfl, rfl, _, rfl, ?_⟩
      refine if_join2 (fun σ2 H2 => ∃ (j' : Jn) (n : Addr), σ2 = [some (.ref cl), some (.ref j'.at_), some (.ref nm), some (.int ((done.flatMap enc).length : Int)), some (.int (opOf c : Int)), some (.int (((done.flatMap enc).length : Int) + 1 + ((argsOf c).length : Int))), some (.ref g), some (.ref n)] ∧
        Mid CR CS CJ Pt K H2 cl nm n ((flatC cs).map V.int) out (Hs06.step s c).2 (Hs06.step s c).1 j') (fun e D' hN => ?_) (fun e D' hN => ?_) fun σ2 H2 ⟨j', n, es, M⟩ => ?_
      · cases c with
        | begin_ so a b ev =>
          refine ⟨_, rfl, g, _, _, _, rfl, rfl, SqL.of gv, atI_nat (j := 0) rfl, _, rfl, g, _, _, _, rfl, rfl, SqL.of gv, atI_nat (j := 1) rfl, _, rfl, g, _, _, _, rfl, rfl, SqL.of gv, atI_nat (j := 2) rfl, _, rfl, g, _, _, _, rfl, rfl, SqL.of gv, atI_nat (j := 3) rfl, so, a, b, ev, rfl, fun H2 s2 => ⟨by show 1 ≤ sizeLine; rw [sizeLine_eq]; decide, fun n hn => ?_⟩⟩
          have s3 : Same Hg (L2.upd H2 n (.lst [.int (begN so a b ev)])) := Same.trans s2 (Same.upd hn)
          have nv3 : L2.upd H2 n (.lst [.int (begN so a b ev)]) n = some (.lst [.int (begN so a b ev)]) := upd_same
          have nn3 : nm ≠ n := ne_of_none (s2 _ _ mg') hn
          generalize L2.upd H2 n (.lst [.int (begN so a b ev)]) = H3 at s3 nv3 ⊢
          have gv3 := s3 _ _ gv
          refine ⟨_, rfl, n, _, _, _, rfl, rfl, SqL.of nv3, atI_nat (j := 0) rfl, rfl, _, rfl, ?_⟩
          cases eb : Hs06.beginBad so a b ev with
          | some k =>
            obtain ⟨b1, b2⟩ := begN_some eb
            have est : Hs06.step s (.begin_ so a b ev) = (s, [k]) := by
              show (match Hs06.beginBad so a b ev with
                | some n => (s, [n])
                | none => (Hs06.fresh so a b (ev == 1), [0])) = _
              rw [eb]
            refine iteF_of (decide_eq_false fun z => b2 (by rw [← b1]; injection z)) (hN _ H3 ⟨j, n, rfl, ?_⟩)
            rw [est]
            exact ⟨Jg.same s3, R, Tg.ext s3, by rw [nv3, b1]; rfl, nn3, s3 _ _ mg', nf, klg.fr (Fr.of_same s3) fun z => .inl z⟩
          | none =>
            obtain ⟨b1, b2⟩ := begN_none eb
            have est : Hs06.step s (.begin_ so a b ev) = (Hs06.fresh so a b (ev == 1), [0]) := by
              show (match Hs06.beginBad so a b ev with
                | some n => (s, [n])
                | none => (Hs06.fresh so a b (ev == 1), [0])) = _
              rw [eb]
            refine iteT_of (decide_eq_true (by rw [b1])) ?_
            refine ⟨_, rfl, g, _, _, _, rfl, rfl, SqL.of gv3, atI_nat (j := 0) rfl, _, rfl, g, _, _, _, rfl, rfl, SqL.of gv3, atI_nat (j := 1) rfl, _, rfl, g, _, _, _, rfl, rfl, SqL.of gv3, atI_nat (j := 2) rfl, _, rfl, g, _, _, _, rfl, rfl, SqL.of gv3, atI_nat (j := 3) rfl, ?_⟩
            intro p dx np nd ne
            refine ⟨p, dx, so, a, b, ev, rfl, upd_same, fun H4 sl sr kl kr nsl nsr nkl nkr J4 fr4 => ⟨rfl, hN _ H4 ⟨freshJ p sl sr kl kr so a b ev, n, rfl, ?_⟩⟩⟩
            have bk4 : ∀ x, L2.upd (L2.upd H3 dx (.own p)) p (.ins CJ dx []) x = none → H3 x = none := fun x e => by
              rw [upd_ne (fun z => by rw [z, upd_same] at e; cases e)] at e
              rw [upd_ne (fun z => by rw [z, upd_same] at e; cases e)] at e
              exact e
            have s4 : Same H3 H4 := fun b o e => fr4 b o (by rw [upd_ne (ne_of_none e np), upd_ne (ne_of_none e nd)]; exact e) (ne_of_none e np)
            have nf4 : ∀ x, Foot (freshJ p sl sr kl kr so a b ev) x → H3 x = none := fun x z => by
              rcases fresh_foot z with z | z | z | z <;> rw [z]
              · exact bk4 _ nsl
              · exact bk4 _ nsr
              · exact bk4 _ nkl
              · exact bk4 _ nkr
            rw [est]
            refine ⟨J4, rep_fresh p sl sr kl kr so a b ev b2, (Tg.ext s3).ext s4, by rw [s4 _ _ nv3, b1]; rfl, nn3, s4 _ _ (s3 _ _ mg'), fun z => ?_, (klg.fr (X' := fun x => Foot j x ∨ x = nm) (Fr.of_same s3) fun z => .inl z).fr (Fr.of_same s4) fun z => ?_⟩
            · have z := nf4 nm z
              rw [s3 _ _ mg'] at z
              cases z
            · rcases z with z | z
              · refine .inr fun c e => ?_
                rw [nf4 cl z] at e
                cases e
              · exact .inl (.inr z)
        | left _ _ => exact absurd e (by show ¬ decide (V.int ((1 : Nat) : Int) = V.int 0) = true; decide)
        | right _ _ => exact absurd e (by show ¬ decide (V.int ((2 : Nat) : Int) = V.int 0) = true; decide)
        | markL _ => exact absurd e (by show ¬ decide (V.int ((3 : Nat) : Int) = V.int 0) = true; decide)
        | markR _ => exact absurd e (by show ¬ decide (V.int ((4 : Nat) : Int) = V.int 0) = true; decide)
        | lefts => exact absurd e (by show ¬ decide (V.int ((5 : Nat) : Int) = V.int 0) = true; decide)
        | rights => exact absurd e (by show ¬ decide (V.int ((6 : Nat) : Int) = V.int 0) = true; decide)
        | counts => exact absurd e (by show ¬ decide (V.int ((7 : Nat) : Int) = V.int 0) = true; decide)
        | at_ _ _ => exact absurd e (by show ¬ decide (V.int ((8 : Nat) : Int) = V.int 0) = true; decide)
      · have nb : opOf c ≠ 0 := fun z => by
          rw [z] at e
          exact absurd e (by decide)
        refine ⟨_, rfl, _, rfl, _, rfl, j, s, c, g, rfl, nb, gv, Jg, R, G, Tg, ll, lr, fun H2 j' n Po => hN _ H2 ⟨j', n, ?_, ⟨Po.J, Po.R, Po.T, Po.nv, Po.nn _ _ mg' nt_lst nf, Po.fr _ _ mg' nf nt_lst, fun z => ?_, klg.fr (Po.fr.mono fun b z => .inl z) fun z => ?_⟩⟩⟩
        · rw [Po.at_]
          rfl
        · rcases Po.ft nm z with z | z
          · exact nf z
          · exact z.ne mg' nt_lst rfl
        · rcases z with z | z
          · rcases Po.ft cl z with z | z
            · exact .inl (.inl z)
            · exact .inr z
          · exact .inl (.inr z)
      · subst es
        have tl : (out ++ (((Hs06.step s c).2.length : Int) :: (Hs06.step s c).2 ++ toldC (Hs06.step s c).1 rest)).length ≤ 10000000 := by
          rw [← told] at lout
          exact lout
        simp only [List.length_append, List.length_cons] at tl
        refine ⟨_, rfl, .inl ⟨rfl, _, SqL.of M.mv⟩, _, rfl, n, _, rfl, .inl (SqL.of M.nv), nm, _, _, rfl, rfl, M.mv, ?_, ?_⟩
        · rw [List.length_map, sizeLine_eq]
          omega
        refine ⟨_, rfl, .inl ⟨rfl, _, SqL.of upd_same⟩, _, rfl, nm, n, _, _, rfl, rfl, upd_same, (upd_ne (Ne.symm M.ne)).trans M.nv, ?_, ?_⟩
        · rw [List.length_append, List.length_map, List.length_map, sizeLine_eq]
          show out.length + 1 + _ ≤ _
          omega
        rw [upd_upd]
        refine ⟨_, rfl, done ++ [c], rest, j', (Hs06.step s c).1, out ++ (((Hs06.step s c).2.length : Int) :: (Hs06.step s c).2), some (.int (opOf c : Int)), some (.int (((done.flatMap enc).length : Int) + 1 + ((argsOf c).length : Int))), some (.ref g), some (.ref n), by rw [hcs, List.append_assoc]; rfl, rfl, ?_, ?_, M.R, good_step G c, ?_, tabs_upd M.T (.inr (.inl ⟨_, M.mv⟩)), ?_, M.nf, ?_, ?_⟩
        · have e5 : ((done.flatMap enc).length : Int) + 1 + ((argsOf c).length : Int) = (((done ++ [c]).flatMap enc).length : Int) := by
            rw [List.flatMap_append, List.length_append]
            show _ = (((done.flatMap enc).length + (enc c ++ []).length : Nat) : Int)
            rw [List.append_nil, enc_eq c, List.length_cons]
            omega
          rw [← e5]
          rfl
        · obtain ⟨dj, ej⟩ := M.J.ho
          exact M.J.out (x := nm) (fun b c e h => (upd_ne h).trans e) M.nf (fun z => by rw [z, M.mv] at ej; cases ej)
        · rw [List.length_append]
          exact len_step L c
        · rw [upd_same, List.map_append, List.map_cons, List.append_assoc, List.length_map]
          rfl
        · rw [List.append_assoc]
          exact told
        · exact M.kl.fr (fun b c e h _ => (upd_ne (fun z => h (.inr z))).trans e) fun z => .inl z
end
end JS
end
section
set_option linter.all false
set_option maxRecDepth 100000
set_option maxHeartbeats 8000000
namespace JS
open PySem PySem.Spec PyProof.Rows L2 LamX
/-! ## the end -/
def IntKeysL : List DictEntry → Prop
  | [] => True
  | e :: r => (∃ (k : Int) (t : Tok), e.key = .int k t ∧ e.hash = hashInt k) ∧ IntKeysL r
theorem intKeys_of : ∀ {l : List DictEntry}, IntKeysL l → IntKeys l
  | [], _ => fun _ h => (by cases h)
  | _ :: _, h => fun e he => by
    rcases List.mem_cons.mp he with z | z
    · rw [z]
      exact h.1
    · exact intKeys_of h.2 e z
theorem tabIn_of {K : PySem.W.Frag} {x : Str} {c P f : Addr} {oc oc' : Value} {od od' : Option Addr} {sl sl' : Array (Option Value)} {fd : FuncData} {vs : Array Value} (q : PySem.W.nsIn K mainGlobals x = some (some (.ref f)))
    (l : K.lookup f = some ⟨oc, od, .func fd, sl⟩) (hc : fd.code = .ref c) (lc : K.lookup c = some ⟨oc', od', .fields vs, sl'⟩) (hv : vs[11]? = some (.ref P)) : PySem.W.tabIn K x = some (c, P) := by
  unfold PySem.W.tabIn
  rw [q]
  simp only [l, hc, lc, hv]

theorem all_mk {P : Program} {w : World} {K : PySem.W.Frag} {h : Heap} {mg : Str → Option Value} {fa CR CS CJ aA Pt cT f_ri f_si f_tk f_al f_pr f_ji f_ot f_co f_up f_me f_ro f_wa f_du f_ask f_te f_mo f_ho f_dv f_an f_be f_ca f_ra f_ma f_ka f_na f_aa f_cn : Addr} (X : K.In h) (G : h.Ns mainGlobals mg) (hfa : mg "answers" = some (.ref fa))
    {oc_ri kV_ri dc_ri pm_ri cd_ri ct_ri : Value} {od_ri an_ri : Option Addr} {sl_ri : Array (Option Value)}
    {oc_si kV_si dc_si pm_si cd_si ct_si : Value} {od_si an_si : Option Addr} {sl_si : Array (Option Value)}
    {oc_tk kV_tk dc_tk pm_tk cd_tk ct_tk : Value} {od_tk an_tk : Option Addr} {sl_tk : Array (Option Value)}
    {oc_al kV_al dc_al pm_al cd_al ct_al : Value} {od_al an_al : Option Addr} {sl_al : Array (Option Value)}
    {oc_pr kV_pr dc_pr pm_pr cd_pr ct_pr : Value} {od_pr an_pr : Option Addr} {sl_pr : Array (Option Value)}
    {oc_ji kV_ji dc_ji pm_ji cd_ji ct_ji : Value} {od_ji an_ji : Option Addr} {sl_ji : Array (Option Value)}
    {oc_ot kV_ot dc_ot pm_ot cd_ot ct_ot : Value} {od_ot an_ot : Option Addr} {sl_ot : Array (Option Value)}
    {oc_co kV_co dc_co pm_co cd_co ct_co : Value} {od_co an_co : Option Addr} {sl_co : Array (Option Value)}
    {oc_up kV_up dc_up pm_up cd_up ct_up : Value} {od_up an_up : Option Addr} {sl_up : Array (Option Value)}
    {oc_me kV_me dc_me pm_me cd_me ct_me : Value} {od_me an_me : Option Addr} {sl_me : Array (Option Value)}
    {oc_ro kV_ro dc_ro pm_ro cd_ro ct_ro : Value} {od_ro an_ro : Option Addr} {sl_ro : Array (Option Value)}
    {oc_wa kV_wa dc_wa pm_wa cd_wa ct_wa : Value} {od_wa an_wa : Option Addr} {sl_wa : Array (Option Value)}
    {oc_du kV_du dc_du pm_du cd_du ct_du : Value} {od_du an_du : Option Addr} {sl_du : Array (Option Value)}
    {oc_ask kV_ask dc_ask pm_ask cd_ask ct_ask : Value} {od_ask an_ask : Option Addr} {sl_ask : Array (Option Value)}
    {oc_te kV_te dc_te pm_te ct_te : Value} {od_te an_te : Option Addr} {sl_te : Array (Option Value)}
    {oc_mo kV_mo dc_mo pm_mo cd_mo ct_mo : Value} {od_mo an_mo : Option Addr} {sl_mo : Array (Option Value)}
    {oc_ho kV_ho dc_ho pm_ho cd_ho ct_ho : Value} {od_ho an_ho : Option Addr} {sl_ho : Array (Option Value)}
    {oc_dv kV_dv dc_dv pm_dv cd_dv ct_dv : Value} {od_dv an_dv : Option Addr} {sl_dv : Array (Option Value)}
    {oc_an kV_an dc_an pm_an cd_an ct_an : Value} {od_an an_an : Option Addr} {sl_an : Array (Option Value)}
    {oc_be kV_be dc_be pm_be cd_be ct_be : Value} {od_be an_be : Option Addr} {sl_be : Array (Option Value)}
    {oc_ca kV_ca dc_ca pm_ca cd_ca ct_ca : Value} {od_ca an_ca : Option Addr} {sl_ca : Array (Option Value)}
    {oc_ra kV_ra dc_ra pm_ra cd_ra ct_ra : Value} {od_ra an_ra : Option Addr} {sl_ra : Array (Option Value)}
    {oc_ma kV_ma dc_ma pm_ma cd_ma ct_ma : Value} {od_ma an_ma : Option Addr} {sl_ma : Array (Option Value)}
    {oc_ka kV_ka dc_ka pm_ka cd_ka ct_ka : Value} {od_ka an_ka : Option Addr} {sl_ka : Array (Option Value)}
    {oc_na kV_na dc_na pm_na cd_na ct_na : Value} {od_na an_na : Option Addr} {sl_na : Array (Option Value)}
    {oc_aa kV_aa dc_aa pm_aa cd_aa ct_aa : Value} {od_aa an_aa : Option Addr} {sl_aa : Array (Option Value)}
    {oc_cn kV_cn dc_cn pm_cn cd_cn ct_cn : Value} {od_cn an_cn : Option Addr} {sl_cn : Array (Option Value)}
    {ocT : Value} {odT : Option Addr} {slT : Array (Option Value)} {vsT : Array Value} {esA : Array DictEntry} {nA : Nat} {t_gLast t_gAs t_gBegin t_gLeft t_gRight t_gLeftM t_gRightM t_gLefts t_gRights t_gCounts t_gFar u_0 u_1 u_2 u_3 u_4 u_5 u_6 u_7 u_8 : Tok}
    (aCR : PySem.W.nsIn K mainGlobals "Row" = some (some (.ref CR)))
    (pgCR : PySem.W.plainGet K CR Str.empty = true)
    (hdCR : PySem.W.hasDictIn K CR = true)
    (poCR : PySem.W.plainOver K CR = true)
    (saCR : PySem.W.findIn K (.ref CR) "__setattr__" = some (some (.builtin "object.__setattr__")))
    (mkCR : PySem.W.makesIn K CR = true)
    (kcCR : PySem.W.keepIn K (.ref CR) = true)
    (nCR_number : PySem.W.findIn K (.ref CR) "number" = some none)
    (nCR_key : PySem.W.findIn K (.ref CR) "key" = some none)
    (nCR_time : PySem.W.findIn K (.ref CR) "time" = some none)
    (nCR_met : PySem.W.findIn K (.ref CR) "met" = some none)
    (aCS : PySem.W.nsIn K mainGlobals "Side" = some (some (.ref CS)))
    (pgCS : PySem.W.plainGet K CS Str.empty = true)
    (hdCS : PySem.W.hasDictIn K CS = true)
    (poCS : PySem.W.plainOver K CS = true)
    (saCS : PySem.W.findIn K (.ref CS) "__setattr__" = some (some (.builtin "object.__setattr__")))
    (mkCS : PySem.W.makesIn K CS = true)
    (kcCS : PySem.W.keepIn K (.ref CS) = true)
    (nCS_is_left : PySem.W.findIn K (.ref CS) "is_left" = some none)
    (nCS_reach : PySem.W.findIn K (.ref CS) "reach" = some none)
    (nCS_tells_at_once : PySem.W.findIn K (.ref CS) "tells_at_once" = some none)
    (nCS_tells_at_end : PySem.W.findIn K (.ref CS) "tells_at_end" = some none)
    (nCS_mark : PySem.W.findIn K (.ref CS) "mark" = some none)
    (nCS_taken : PySem.W.findIn K (.ref CS) "taken" = some none)
    (nCS_put_aside : PySem.W.findIn K (.ref CS) "put_aside" = some none)
    (nCS_kept : PySem.W.findIn K (.ref CS) "kept" = some none)
    (aCJ : PySem.W.nsIn K mainGlobals "Join" = some (some (.ref CJ)))
    (pgCJ : PySem.W.plainGet K CJ Str.empty = true)
    (hdCJ : PySem.W.hasDictIn K CJ = true)
    (poCJ : PySem.W.plainOver K CJ = true)
    (saCJ : PySem.W.findIn K (.ref CJ) "__setattr__" = some (some (.builtin "object.__setattr__")))
    (mkCJ : PySem.W.makesIn K CJ = true)
    (kcCJ : PySem.W.keepIn K (.ref CJ) = true)
    (nCJ_by_moment : PySem.W.findIn K (.ref CJ) "by_moment" = some none)
    (nCJ_left : PySem.W.findIn K (.ref CJ) "left" = some none)
    (nCJ_right : PySem.W.findIn K (.ref CJ) "right" = some none)
    (a_ri : PySem.W.findIn K (.ref CR) "__init__" = some (some (.ref f_ri)))
    (i_ri : PySem.W.isFn K (.ref f_ri) = true)
    (l_ri : K.lookup f_ri = some ⟨oc_ri, od_ri, .func (PySem.W.fnOf "__init__" "Row.__init__" (defArgs zRowI) (defBody zRowI) (defScope zRowI) .none kV_ri dc_ri pm_ri an_ri cd_ri ct_ri), sl_ri⟩)
    (c_ri : PySem.W.codeIn K cd_ri "Row.__init__" = true)
    (k_ri : PySem.W.keepIn K (.ref f_ri) = true)
    (a_si : PySem.W.findIn K (.ref CS) "__init__" = some (some (.ref f_si)))
    (i_si : PySem.W.isFn K (.ref f_si) = true)
    (l_si : K.lookup f_si = some ⟨oc_si, od_si, .func (PySem.W.fnOf "__init__" "Side.__init__" (defArgs zSideI) (defBody zSideI) (defScope zSideI) .none kV_si dc_si pm_si an_si cd_si ct_si), sl_si⟩)
    (c_si : PySem.W.codeIn K cd_si "Side.__init__" = true)
    (k_si : PySem.W.keepIn K (.ref f_si) = true)
    (a_tk : PySem.W.findIn K (.ref CS) "take" = some (some (.ref f_tk)))
    (i_tk : PySem.W.isFn K (.ref f_tk) = true)
    (l_tk : K.lookup f_tk = some ⟨oc_tk, od_tk, .func (PySem.W.fnOf "take" "Side.take" (defArgs zTake) (defBody zTake) (defScope zTake) .none kV_tk dc_tk pm_tk an_tk cd_tk ct_tk), sl_tk⟩)
    (c_tk : PySem.W.codeIn K cd_tk "Side.take" = true)
    (k_tk : PySem.W.keepIn K (.ref f_tk) = true)
    (a_al : PySem.W.findIn K (.ref CS) "alone" = some (some (.ref f_al)))
    (i_al : PySem.W.isFn K (.ref f_al) = true)
    (l_al : K.lookup f_al = some ⟨oc_al, od_al, .func (PySem.W.fnOf "alone" "Side.alone" (defArgs zAlone) (defBody zAlone) (defScope zAlone) .none kV_al dc_al pm_al an_al cd_al ct_al), sl_al⟩)
    (c_al : PySem.W.codeIn K cd_al "Side.alone" = true)
    (k_al : PySem.W.keepIn K (.ref f_al) = true)
    (a_pr : PySem.W.findIn K (.ref CS) "pair" = some (some (.ref f_pr)))
    (i_pr : PySem.W.isFn K (.ref f_pr) = true)
    (l_pr : K.lookup f_pr = some ⟨oc_pr, od_pr, .func (PySem.W.fnOf "pair" "Side.pair" (defArgs zPair) (defBody zPair) (defScope zPair) .none kV_pr dc_pr pm_pr an_pr cd_pr ct_pr), sl_pr⟩)
    (c_pr : PySem.W.codeIn K cd_pr "Side.pair" = true)
    (k_pr : PySem.W.keepIn K (.ref f_pr) = true)
    (a_ji : PySem.W.findIn K (.ref CJ) "__init__" = some (some (.ref f_ji)))
    (i_ji : PySem.W.isFn K (.ref f_ji) = true)
    (l_ji : K.lookup f_ji = some ⟨oc_ji, od_ji, .func (PySem.W.fnOf "__init__" "Join.__init__" (defArgs zJoinI) (defBody zJoinI) (defScope zJoinI) .none kV_ji dc_ji pm_ji an_ji cd_ji ct_ji), sl_ji⟩)
    (c_ji : PySem.W.codeIn K cd_ji "Join.__init__" = true)
    (k_ji : PySem.W.keepIn K (.ref f_ji) = true)
    (a_ot : PySem.W.findIn K (.ref CJ) "other" = some (some (.ref f_ot)))
    (i_ot : PySem.W.isFn K (.ref f_ot) = true)
    (l_ot : K.lookup f_ot = some ⟨oc_ot, od_ot, .func (PySem.W.fnOf "other" "Join.other" (defArgs zOther) (defBody zOther) (defScope zOther) .none kV_ot dc_ot pm_ot an_ot cd_ot ct_ot), sl_ot⟩)
    (c_ot : PySem.W.codeIn K cd_ot "Join.other" = true)
    (k_ot : PySem.W.keepIn K (.ref f_ot) = true)
    (a_co : PySem.W.nsIn K mainGlobals "row_comes" = some (some (.ref f_co)))
    (l_co : K.lookup f_co = some ⟨oc_co, od_co, .func (PySem.W.fnOf "row_comes" "row_comes" (defArgs zComes) (defBody zComes) (defScope zComes) .none kV_co dc_co pm_co an_co cd_co ct_co), sl_co⟩)
    (c_co : PySem.W.codeIn K cd_co "row_comes" = true)
    (k_co : PySem.W.keepIn K (.ref f_co) = true)
    (a_up : PySem.W.nsIn K mainGlobals "mark_goes_up" = some (some (.ref f_up)))
    (l_up : K.lookup f_up = some ⟨oc_up, od_up, .func (PySem.W.fnOf "mark_goes_up" "mark_goes_up" (defArgs zUp) (defBody zUp) (defScope zUp) .none kV_up dc_up pm_up an_up cd_up ct_up), sl_up⟩)
    (c_up : PySem.W.codeIn K cd_up "mark_goes_up" = true)
    (k_up : PySem.W.keepIn K (.ref f_up) = true)
    (a_me : PySem.W.nsIn K mainGlobals "meet_kept_rows" = some (some (.ref f_me)))
    (l_me : K.lookup f_me = some ⟨oc_me, od_me, .func (PySem.W.fnOf "meet_kept_rows" "meet_kept_rows" (defArgs zMeet) (defBody zMeet) (defScope zMeet) .none kV_me dc_me pm_me an_me cd_me ct_me), sl_me⟩)
    (c_me : PySem.W.codeIn K cd_me "meet_kept_rows" = true)
    (k_me : PySem.W.keepIn K (.ref f_me) = true)
    (a_ro : PySem.W.nsIn K mainGlobals "rows_meet" = some (some (.ref f_ro)))
    (l_ro : K.lookup f_ro = some ⟨oc_ro, od_ro, .func (PySem.W.fnOf "rows_meet" "rows_meet" (defArgs zRows) (defBody zRows) (defScope zRows) .none kV_ro dc_ro pm_ro an_ro cd_ro ct_ro), sl_ro⟩)
    (c_ro : PySem.W.codeIn K cd_ro "rows_meet" = true)
    (k_ro : PySem.W.keepIn K (.ref f_ro) = true)
    (a_wa : PySem.W.nsIn K mainGlobals "is_wanted" = some (some (.ref f_wa)))
    (l_wa : K.lookup f_wa = some ⟨oc_wa, od_wa, .func (PySem.W.fnOf "is_wanted" "is_wanted" (defArgs zWanted) (defBody zWanted) (defScope zWanted) .none kV_wa dc_wa pm_wa an_wa cd_wa ct_wa), sl_wa⟩)
    (c_wa : PySem.W.codeIn K cd_wa "is_wanted" = true)
    (k_wa : PySem.W.keepIn K (.ref f_wa) = true)
    (a_du : PySem.W.nsIn K mainGlobals "drop_unwanted" = some (some (.ref f_du)))
    (l_du : K.lookup f_du = some ⟨oc_du, od_du, .func (PySem.W.fnOf "drop_unwanted" "drop_unwanted" (defArgs zDropU) (defBody zDropU) (defScope zDropU) .none kV_du dc_du pm_du an_du cd_du ct_du), sl_du⟩)
    (c_du : PySem.W.codeIn K cd_du "drop_unwanted" = true)
    (k_du : PySem.W.keepIn K (.ref f_du) = true)
    (a_ask : PySem.W.nsIn K mainGlobals "ask_or_wait" = some (some (.ref f_ask)))
    (l_ask : K.lookup f_ask = some ⟨oc_ask, od_ask, .func (PySem.W.fnOf "ask_or_wait" "ask_or_wait" (defArgs zAsk) (defBody zAsk) (defScope zAsk) .none kV_ask dc_ask pm_ask an_ask cd_ask ct_ask), sl_ask⟩)
    (c_ask : PySem.W.codeIn K cd_ask "ask_or_wait" = true)
    (k_ask : PySem.W.keepIn K (.ref f_ask) = true)
    (a_te : PySem.W.nsIn K mainGlobals "tell_waiting" = some (some (.ref f_te)))
    (l_te : K.lookup f_te = some ⟨oc_te, od_te, .func (PySem.W.fnOf "tell_waiting" "tell_waiting" (defArgs zTell) (defBody zTell) (defScope zTell) .none kV_te dc_te pm_te an_te (.ref cT) ct_te), sl_te⟩)
    (c_te : PySem.W.codeIn K (.ref cT) "tell_waiting" = true)
    (k_te : PySem.W.keepIn K (.ref f_te) = true)
    (a_mo : PySem.W.nsIn K mainGlobals "moment_change" = some (some (.ref f_mo)))
    (l_mo : K.lookup f_mo = some ⟨oc_mo, od_mo, .func (PySem.W.fnOf "moment_change" "moment_change" (defArgs zMoment) (defBody zMoment) (defScope zMoment) .none kV_mo dc_mo pm_mo an_mo cd_mo ct_mo), sl_mo⟩)
    (c_mo : PySem.W.codeIn K cd_mo "moment_change" = true)
    (k_mo : PySem.W.keepIn K (.ref f_mo) = true)
    (a_ho : PySem.W.nsIn K mainGlobals "holding_version" = some (some (.ref f_ho)))
    (l_ho : K.lookup f_ho = some ⟨oc_ho, od_ho, .func (PySem.W.fnOf "holding_version" "holding_version" (defArgs zHold) (defBody zHold) (defScope zHold) .none kV_ho dc_ho pm_ho an_ho cd_ho ct_ho), sl_ho⟩)
    (c_ho : PySem.W.codeIn K cd_ho "holding_version" = true)
    (k_ho : PySem.W.keepIn K (.ref f_ho) = true)
    (a_dv : PySem.W.nsIn K mainGlobals "drop_versions" = some (some (.ref f_dv)))
    (l_dv : K.lookup f_dv = some ⟨oc_dv, od_dv, .func (PySem.W.fnOf "drop_versions" "drop_versions" (defArgs zDropV) (defBody zDropV) (defScope zDropV) .none kV_dv dc_dv pm_dv an_dv cd_dv ct_dv), sl_dv⟩)
    (c_dv : PySem.W.codeIn K cd_dv "drop_versions" = true)
    (k_dv : PySem.W.keepIn K (.ref f_dv) = true)
    (a_an : PySem.W.nsIn K mainGlobals "answers" = some (some (.ref f_an)))
    (l_an : K.lookup f_an = some ⟨oc_an, od_an, .func (PySem.W.fnOf "answers" "answers" (defArgs zAns) (defBody zAns) (defScope zAns) .none kV_an dc_an pm_an an_an cd_an ct_an), sl_an⟩)
    (c_an : PySem.W.codeIn K cd_an "answers" = true)
    (k_an : PySem.W.keepIn K (.ref f_an) = true)
    (a_be : PySem.W.nsIn K mainGlobals "begin_refusal" = some (some (.ref f_be)))
    (l_be : K.lookup f_be = some ⟨oc_be, od_be, .func (PySem.W.fnOf "begin_refusal" "begin_refusal" (defArgs zBeg) (defBody zBeg) (defScope zBeg) .none kV_be dc_be pm_be an_be cd_be ct_be), sl_be⟩)
    (c_be : PySem.W.codeIn K cd_be "begin_refusal" = true)
    (k_be : PySem.W.keepIn K (.ref f_be) = true)
    (a_ca : PySem.W.nsIn K mainGlobals "call_answer" = some (some (.ref f_ca)))
    (l_ca : K.lookup f_ca = some ⟨oc_ca, od_ca, .func (PySem.W.fnOf "call_answer" "call_answer" (defArgs zCall) (defBody zCall) (defScope zCall) .none kV_ca dc_ca pm_ca an_ca cd_ca ct_ca), sl_ca⟩)
    (c_ca : PySem.W.codeIn K cd_ca "call_answer" = true)
    (k_ca : PySem.W.keepIn K (.ref f_ca) = true)
    (a_ra : PySem.W.nsIn K mainGlobals "row_answer" = some (some (.ref f_ra)))
    (l_ra : K.lookup f_ra = some ⟨oc_ra, od_ra, .func (PySem.W.fnOf "row_answer" "row_answer" (defArgs zRowA) (defBody zRowA) (defScope zRowA) .none kV_ra dc_ra pm_ra an_ra cd_ra ct_ra), sl_ra⟩)
    (c_ra : PySem.W.codeIn K cd_ra "row_answer" = true)
    (k_ra : PySem.W.keepIn K (.ref f_ra) = true)
    (a_ma : PySem.W.nsIn K mainGlobals "mark_answer" = some (some (.ref f_ma)))
    (l_ma : K.lookup f_ma = some ⟨oc_ma, od_ma, .func (PySem.W.fnOf "mark_answer" "mark_answer" (defArgs zMarkA) (defBody zMarkA) (defScope zMarkA) .none kV_ma dc_ma pm_ma an_ma cd_ma ct_ma), sl_ma⟩)
    (c_ma : PySem.W.codeIn K cd_ma "mark_answer" = true)
    (k_ma : PySem.W.keepIn K (.ref f_ma) = true)
    (a_ka : PySem.W.nsIn K mainGlobals "kept_answer" = some (some (.ref f_ka)))
    (l_ka : K.lookup f_ka = some ⟨oc_ka, od_ka, .func (PySem.W.fnOf "kept_answer" "kept_answer" (defArgs zKept) (defBody zKept) (defScope zKept) .none kV_ka dc_ka pm_ka an_ka cd_ka ct_ka), sl_ka⟩)
    (c_ka : PySem.W.codeIn K cd_ka "kept_answer" = true)
    (k_ka : PySem.W.keepIn K (.ref f_ka) = true)
    (a_na : PySem.W.nsIn K mainGlobals "counts_answer" = some (some (.ref f_na)))
    (l_na : K.lookup f_na = some ⟨oc_na, od_na, .func (PySem.W.fnOf "counts_answer" "counts_answer" (defArgs zCounts) (defBody zCounts) (defScope zCounts) .none kV_na dc_na pm_na an_na cd_na ct_na), sl_na⟩)
    (c_na : PySem.W.codeIn K cd_na "counts_answer" = true)
    (k_na : PySem.W.keepIn K (.ref f_na) = true)
    (a_aa : PySem.W.nsIn K mainGlobals "at_answer" = some (some (.ref f_aa)))
    (l_aa : K.lookup f_aa = some ⟨oc_aa, od_aa, .func (PySem.W.fnOf "at_answer" "at_answer" (defArgs zAt) (defBody zAt) (defScope zAt) .none kV_aa dc_aa pm_aa an_aa cd_aa ct_aa), sl_aa⟩)
    (c_aa : PySem.W.codeIn K cd_aa "at_answer" = true)
    (k_aa : PySem.W.keepIn K (.ref f_aa) = true)
    (a_cn : PySem.W.nsIn K mainGlobals "counted" = some (some (.ref f_cn)))
    (l_cn : K.lookup f_cn = some ⟨oc_cn, od_cn, .func (PySem.W.fnOf "counted" "counted" (defArgs zCount) (defBody zCount) (defScope zCount) .none kV_cn dc_cn pm_cn an_cn cd_cn ct_cn), sl_cn⟩)
    (c_cn : PySem.W.codeIn K cd_cn "counted" = true)
    (k_cn : PySem.W.keepIn K (.ref f_cn) = true)
    (lcT : K.lookup cT = some ⟨ocT, odT, .fields vsT, slT⟩)
    (hvT : vsT[11]? = some (.ref Pt))
    (nPt : K.lookup Pt = none)
    (x_gLast : PySem.W.nsIn K mainGlobals "LAST_TIME" = some (some (.int 1000000 t_gLast)))
    (x_gAs : PySem.W.nsIn K mainGlobals "AS_OF_SORT" = some (some (.int 3 t_gAs)))
    (x_gBegin : PySem.W.nsIn K mainGlobals "BEGIN" = some (some (.int 0 t_gBegin)))
    (x_gLeft : PySem.W.nsIn K mainGlobals "LEFT" = some (some (.int 1 t_gLeft)))
    (x_gRight : PySem.W.nsIn K mainGlobals "RIGHT" = some (some (.int 2 t_gRight)))
    (x_gLeftM : PySem.W.nsIn K mainGlobals "LEFT_MARK" = some (some (.int 3 t_gLeftM)))
    (x_gRightM : PySem.W.nsIn K mainGlobals "RIGHT_MARK" = some (some (.int 4 t_gRightM)))
    (x_gLefts : PySem.W.nsIn K mainGlobals "LEFTS" = some (some (.int 5 t_gLefts)))
    (x_gRights : PySem.W.nsIn K mainGlobals "RIGHTS" = some (some (.int 6 t_gRights)))
    (x_gCounts : PySem.W.nsIn K mainGlobals "COUNTS" = some (some (.int 7 t_gCounts)))
    (x_gFar : PySem.W.nsIn K mainGlobals "FARTHEST" = some (some (.int 100000 t_gFar)))
    (y_bLen : PySem.W.nsIn K mainGlobals "len" = some none)
    (y_bMax : PySem.W.nsIn K mainGlobals "max" = some none)
    (y_bSorted : PySem.W.nsIn K mainGlobals "sorted" = some none)
    (aArg : PySem.W.nsIn K mainGlobals "ARGUMENTS" = some (some (.ref aA)))
    (lArg : K.lookup aA = some ⟨.type "dict", none, .dict esA nA, #[]⟩)
    (kArg : IntKeysL esA.toList)
    (v_0 : findBy Value.isInt esA 0 = some (.int 4 u_0))
    (v_1 : findBy Value.isInt esA 1 = some (.int 2 u_1))
    (v_2 : findBy Value.isInt esA 2 = some (.int 2 u_2))
    (v_3 : findBy Value.isInt esA 3 = some (.int 1 u_3))
    (v_4 : findBy Value.isInt esA 4 = some (.int 1 u_4))
    (v_5 : findBy Value.isInt esA 5 = some (.int 0 u_5))
    (v_6 : findBy Value.isInt esA 6 = some (.int 0 u_6))
    (v_7 : findBy Value.isInt esA 7 = some (.int 0 u_7))
    (v_8 : findBy Value.isInt esA 8 = some (.int 2 u_8))
    : ∃ (c P' : Addr) (fd : FuncData), PySem.W.tabIn K "tell_waiting" = some (c, P') ∧ K.lookup P' = none ∧ (∀ (s : Shared) (us : List Value), us.length = (["calls"] : List Str).length → BindsTo s fd ⟨us, []⟩ ((["calls"] : List Str).zip us)) ∧
      ∀ base : Heap, K.In base → base.Ns mainGlobals mg → TabB base mg c P' → FnOk P w K mg base CX0 7 fa fd ["calls"] (spAns K P') := by
  have e := hfa.symm.trans (PySem.W.mg_of X G a_an)
  cases e
  have T : Txt K mg CR CS CJ :=
    { cR := ⟨pgCR, hdCR, poCR, saCR⟩, cS := ⟨pgCS, hdCS, poCS, saCS⟩, cJ := ⟨pgCJ, hdCJ, poCJ, saCJ⟩, Rn := nCR_number, Rk := nCR_key, Rt := nCR_time, Rm := nCR_met, Sl := nCS_is_left, Sr := nCS_reach, So := nCS_tells_at_once, Se := nCS_tells_at_end, Sm := nCS_mark, St := nCS_taken, Sa := nCS_put_aside, Sk := nCS_kept, Jm := nCJ_by_moment, Jl := nCJ_left, Jr := nCJ_right, gR := PySem.W.mg_of X G aCR, gS := PySem.W.mg_of X G aCS, gJ := PySem.W.mg_of X G aCJ, gLast := ⟨_, PySem.W.mg_of X G x_gLast⟩, gAs := ⟨_, PySem.W.mg_of X G x_gAs⟩, gBegin := ⟨_, PySem.W.mg_of X G x_gBegin⟩, gLeft := ⟨_, PySem.W.mg_of X G x_gLeft⟩, gRight := ⟨_, PySem.W.mg_of X G x_gRight⟩, gLeftM := ⟨_, PySem.W.mg_of X G x_gLeftM⟩, gRightM := ⟨_, PySem.W.mg_of X G x_gRightM⟩, gLefts := ⟨_, PySem.W.mg_of X G x_gLefts⟩, gRights := ⟨_, PySem.W.mg_of X G x_gRights⟩, gCounts := ⟨_, PySem.W.mg_of X G x_gCounts⟩, gFar := ⟨_, PySem.W.mg_of X G x_gFar⟩, bLen := PySem.W.mg_none_of X G y_bLen, bMax := PySem.W.mg_none_of X G y_bMax, bSorted := PySem.W.mg_none_of X G y_bSorted }
  have F_ri := fun_mk (st := zRowI) l_ri c_ri k_ri
  have b_ri := F_ri.binds (ps := ["self", "number", "key", "time"]) fun _ _ _ _ _ _ us hl => match us, hl with | [_, _, _, _], _ => rfl
  have F_si := fun_mk (st := zSideI) l_si c_si k_si
  have b_si := F_si.binds (ps := ["self", "is_left", "reach", "tells_alone", "eager"]) fun _ _ _ _ _ _ us hl => match us, hl with | [_, _, _, _, _], _ => rfl
  have F_tk := fun_mk (st := zTake) l_tk c_tk k_tk
  have b_tk := F_tk.binds (ps := ["self", "key", "time"]) fun _ _ _ _ _ _ us hl => match us, hl with | [_, _, _], _ => rfl
  have F_al := fun_mk (st := zAlone) l_al c_al k_al
  have b_al := F_al.binds (ps := ["self", "told", "row"]) fun _ _ _ _ _ _ us hl => match us, hl with | [_, _, _], _ => rfl
  have F_pr := fun_mk (st := zPair) l_pr c_pr k_pr
  have b_pr := F_pr.binds (ps := ["self", "row", "partner"]) fun _ _ _ _ _ _ us hl => match us, hl with | [_, _, _], _ => rfl
  have F_ji := fun_mk (st := zJoinI) l_ji c_ji k_ji
  have b_ji := F_ji.binds (ps := ["self", "kind", "ahead", "after", "eager"]) fun _ _ _ _ _ _ us hl => match us, hl with | [_, _, _, _, _], _ => rfl
  have F_ot := fun_mk (st := zOther) l_ot c_ot k_ot
  have b_ot := F_ot.binds (ps := ["self", "side"]) fun _ _ _ _ _ _ us hl => match us, hl with | [_, _], _ => rfl
  have F_co := fun_mk (st := zComes) l_co c_co k_co
  have b_co := F_co.binds (ps := ["join", "side", "row"]) fun _ _ _ _ _ _ us hl => match us, hl with | [_, _, _], _ => rfl
  have F_up := fun_mk (st := zUp) l_up c_up k_up
  have b_up := F_up.binds (ps := ["join", "side", "time"]) fun _ _ _ _ _ _ us hl => match us, hl with | [_, _, _], _ => rfl
  have F_me := fun_mk (st := zMeet) l_me c_me k_me
  have b_me := F_me.binds (ps := ["side", "other", "row"]) fun _ _ _ _ _ _ us hl => match us, hl with | [_, _, _], _ => rfl
  have F_ro := fun_mk (st := zRows) l_ro c_ro k_ro
  have b_ro := F_ro.binds (ps := ["side", "row", "other", "partner"]) fun _ _ _ _ _ _ us hl => match us, hl with | [_, _, _, _], _ => rfl
  have F_wa := fun_mk (st := zWanted) l_wa c_wa k_wa
  have b_wa := F_wa.binds (ps := ["side", "row", "other_mark"]) fun _ _ _ _ _ _ us hl => match us, hl with | [_, _, _], _ => rfl
  have F_du := fun_mk (st := zDropU) l_du c_du k_du
  have b_du := F_du.binds (ps := ["side", "other_mark"]) fun _ _ _ _ _ _ us hl => match us, hl with | [_, _], _ => rfl
  have F_ask := fun_mk (st := zAsk) l_ask c_ask k_ask
  have b_ask := F_ask.binds (ps := ["join", "row"]) fun _ _ _ _ _ _ us hl => match us, hl with | [_, _], _ => rfl
  have F_te := fun_mk (st := zTell) l_te c_te k_te
  have b_te := F_te.binds (ps := ["join"]) fun _ _ _ _ _ _ us hl => match us, hl with | [_], _ => rfl
  have F_mo := fun_mk (st := zMoment) l_mo c_mo k_mo
  have b_mo := F_mo.binds (ps := ["join", "row"]) fun _ _ _ _ _ _ us hl => match us, hl with | [_, _], _ => rfl
  have F_ho := fun_mk (st := zHold) l_ho c_ho k_ho
  have b_ho := F_ho.binds (ps := ["versions", "key", "time"]) fun _ _ _ _ _ _ us hl => match us, hl with | [_, _, _], _ => rfl
  have F_dv := fun_mk (st := zDropV) l_dv c_dv k_dv
  have b_dv := F_dv.binds (ps := ["join"]) fun _ _ _ _ _ _ us hl => match us, hl with | [_], _ => rfl
  have F_an := fun_mk (st := zAns) l_an c_an k_an
  have F_be := fun_mk (st := zBeg) l_be c_be k_be
  have b_be := F_be.binds (ps := ["kind", "ahead", "after", "eager"]) fun _ _ _ _ _ _ us hl => match us, hl with | [_, _, _, _], _ => rfl
  have F_ca := fun_mk (st := zCall) l_ca c_ca k_ca
  have b_ca := F_ca.binds (ps := ["join", "call", "given"]) fun _ _ _ _ _ _ us hl => match us, hl with | [_, _, _], _ => rfl
  have F_ra := fun_mk (st := zRowA) l_ra c_ra k_ra
  have b_ra := F_ra.binds (ps := ["join", "side", "key", "time"]) fun _ _ _ _ _ _ us hl => match us, hl with | [_, _, _, _], _ => rfl
  have F_ma := fun_mk (st := zMarkA) l_ma c_ma k_ma
  have b_ma := F_ma.binds (ps := ["join", "side", "time"]) fun _ _ _ _ _ _ us hl => match us, hl with | [_, _, _], _ => rfl
  have F_ka := fun_mk (st := zKept) l_ka c_ka k_ka
  have b_ka := F_ka.binds (ps := ["side"]) fun _ _ _ _ _ _ us hl => match us, hl with | [_], _ => rfl
  have F_na := fun_mk (st := zCounts) l_na c_na k_na
  have b_na := F_na.binds (ps := ["join"]) fun _ _ _ _ _ _ us hl => match us, hl with | [_], _ => rfl
  have F_aa := fun_mk (st := zAt) l_aa c_aa k_aa
  have b_aa := F_aa.binds (ps := ["join", "key", "time"]) fun _ _ _ _ _ _ us hl => match us, hl with | [_, _, _], _ => rfl
  have F_cn := fun_mk (st := zCount) l_cn c_cn k_cn
  have b_cn := F_cn.binds (ps := ["parts"]) fun _ _ _ _ _ _ us hl => match us, hl with | [_], _ => rfl
  have D : Dfs K mg CS f_al f_pr f_wa f_ro f_ho _ _ _ _ _ := ⟨F_al, b_al, ⟨a_al, i_al, k_al⟩, F_pr, b_pr, ⟨a_pr, i_pr, k_pr⟩, F_wa, b_wa, PySem.W.mg_of X G a_wa, F_ro, b_ro, PySem.W.mg_of X G a_ro, F_ho, b_ho, PySem.W.mg_of X G a_ho⟩
  have hArg : ∀ c : Hs06.Call, IntTab K aA (opOf c : Int) (.int ((argsOf c).length : Int)) := fun c => by
    cases c with
    | begin_ _ _ _ _ => exact ⟨_, _, _, lArg, intKeys_of kArg, v_0, ⟨_, rfl⟩⟩
    | left _ _ => exact ⟨_, _, _, lArg, intKeys_of kArg, v_1, ⟨_, rfl⟩⟩
    | right _ _ => exact ⟨_, _, _, lArg, intKeys_of kArg, v_2, ⟨_, rfl⟩⟩
    | markL _ => exact ⟨_, _, _, lArg, intKeys_of kArg, v_3, ⟨_, rfl⟩⟩
    | markR _ => exact ⟨_, _, _, lArg, intKeys_of kArg, v_4, ⟨_, rfl⟩⟩
    | lefts => exact ⟨_, _, _, lArg, intKeys_of kArg, v_5, ⟨_, rfl⟩⟩
    | rights => exact ⟨_, _, _, lArg, intKeys_of kArg, v_6, ⟨_, rfl⟩⟩
    | counts => exact ⟨_, _, _, lArg, intKeys_of kArg, v_7, ⟨_, rfl⟩⟩
    | at_ _ _ => exact ⟨_, _, _, lArg, intKeys_of kArg, v_8, ⟨_, rfl⟩⟩
  refine ⟨cT, Pt, PySem.W.fnOf "answers" "answers" (defArgs zAns) (defBody zAns) (defScope zAns) .none kV_an dc_an pm_an an_an cd_an ct_an, tabIn_of a_te l_te rfl lcT hvT, nPt, fun s us hu => match us, hu with | [_], _ => .of_eq rfl, fun base _ _ TB => ?_⟩
  have dO : MDef P w K mg base 1 CJ "other" ["self", "side"] (spOther CS CJ) := ⟨_, _, ok_other F_ot T, ⟨a_ot, i_ot, k_ot⟩, b_ot⟩
  have dTk : MDef P w K mg base 3 CS "take" ["self", "key", "time"] (spTake CR CS) := ⟨_, _, ok_take F_tk T ⟨mkCR, a_ri, i_ri, kcCR⟩ F_ri b_ri, ⟨a_tk, i_tk, k_tk⟩, b_tk⟩
  have dU : Def P w K mg base 2 "drop_unwanted" ["side", "other_mark"] (spDropU CR CS) := ⟨_, _, ok_dropU F_du T D.FA D.bA D.mA D.FW D.bW D.gW, PySem.W.mg_of X G a_du, k_du, b_du⟩
  have dM : Def P w K mg base 2 "meet_kept_rows" ["side", "other", "row"] (spMeet CR CS) := ⟨_, _, ok_meet F_me T D.FA D.bA D.mA D.FP D.bP D.mP D.FW D.bW D.gW D.FR D.bR D.gR, PySem.W.mg_of X G a_me, k_me, b_me⟩
  have dAk : Def P w K mg base 3 "ask_or_wait" ["join", "row"] (spAsk CR CS CJ) := ⟨_, _, ok_ask F_ask T D F_mo b_mo (PySem.W.mg_of X G a_mo), PySem.W.mg_of X G a_ask, k_ask, b_ask⟩
  have dV : Def P w K mg base 2 "drop_versions" ["join"] (spDropV CR CS CJ) := ⟨_, _, ok_dropV F_dv T D, PySem.W.mg_of X G a_dv, k_dv, b_dv⟩
  have dT : Def P w K mg base 3 "tell_waiting" ["join"] (spTell CR CS CJ Pt) := ⟨_, _, ok_tell T D l_te c_te TB F_mo b_mo (PySem.W.mg_of X G a_mo), PySem.W.mg_of X G a_te, k_te, b_te⟩
  have dUp : Def P w K mg base 4 "mark_goes_up" ["join", "side", "time"] (spUp CR CS CJ Pt) := ⟨_, _, ok_up F_up T dO dU dT dV, PySem.W.mg_of X G a_up, k_up, b_up⟩
  have dCo : Def P w K mg base 4 "row_comes" ["join", "side", "row"] (spComes CR CS CJ Pt) := ⟨_, _, ok_comes F_co T dO dM dAk dV, PySem.W.mg_of X G a_co, k_co, b_co⟩
  have dCn : Def P w K mg base 1 "counted" ["parts"] spCount := ⟨_, _, ok_count F_cn T, PySem.W.mg_of X G a_cn, k_cn, b_cn⟩
  have dRa : Def P w K mg base 5 "row_answer" ["join", "side", "key", "time"] (spRowA CR CS CJ Pt) := ⟨_, _, ok_rowA F_ra T dTk dCo dCn, PySem.W.mg_of X G a_ra, k_ra, b_ra⟩
  have dMa : Def P w K mg base 5 "mark_answer" ["join", "side", "time"] (spMarkA CR CS CJ Pt) := ⟨_, _, ok_markA F_ma T dUp dCn, PySem.W.mg_of X G a_ma, k_ma, b_ma⟩
  have dH : Def P w K mg base 1 "holding_version" ["versions", "key", "time"] (spHold CR) := ⟨_, _, ok_hold F_ho T, PySem.W.mg_of X G a_ho, k_ho, b_ho⟩
  have dKa : Def P w K mg base 2 "kept_answer" ["side"] (spKept CR CS) := ⟨_, _, ok_kept F_ka T dCn, PySem.W.mg_of X G a_ka, k_ka, b_ka⟩
  have dNa : Def P w K mg base 1 "counts_answer" ["join"] (spCounts CR CS CJ) := ⟨_, _, ok_counts F_na T, PySem.W.mg_of X G a_na, k_na, b_na⟩
  have dAa : Def P w K mg base 2 "at_answer" ["join", "key", "time"] (spAt CR CS CJ) := ⟨_, _, ok_at F_aa T dH, PySem.W.mg_of X G a_aa, k_aa, b_aa⟩
  have dCa : Def P w K mg base 6 "call_answer" ["join", "call", "given"] (spCallA CR CS CJ Pt) := ⟨_, _, ok_callA F_ca T dRa dMa dKa dNa dAa, PySem.W.mg_of X G a_ca, k_ca, b_ca⟩
  have dBe : Def P w K mg base 1 "begin_refusal" ["kind", "ahead", "after", "eager"] spBeg := ⟨_, _, ok_beg F_be T, PySem.W.mg_of X G a_be, k_be, b_be⟩
  exact ok_ans F_an T ⟨mkCJ, a_ji, i_ji, kcCJ⟩ F_ji b_ji ⟨mkCS, a_si, i_si, kcCS⟩ F_si b_si dBe dCa (PySem.W.mg_of X G aArg) hArg
end JS
open PySem PySem.W PyProof.Rows
set_option maxRecDepth 100000 in
set_option maxHeartbeats 8000000 in
theorem PySem.Challenge.cw_joinedstreams_s01_answers_holds : PySem.Challenge.rw_joinedstreams_s01_answers.Holds := by
  w_on; k_headS; (case hw => exact ⟨[.list [.int 5]], by decide +kernel, by decide +kernel⟩)
  k_fillS
  refine JS.walk_specT (r := PySem.Challenge.rw_joinedstreams_s01_answers) (k := 7) (CX := L2.CX0) (ps := ["calls"]) (sp := JS.spAns) "tell_waiting" (by decide +kernel) rfl rfl ⟨rfl, by decide, by decide⟩ (by rfl) (fun w h Y => PySem.W.kIn_of Y) ?F ?S (fun _ _ _ _ z => z)
  case F =>
    intro w mg fa h Y KX G hmg
    refine' JS.all_mk KX G hmg ?z_aCR ?z_pgCR ?z_hdCR ?z_poCR ?z_saCR ?z_mkCR ?z_kcCR ?z_nCR_number ?z_nCR_key ?z_nCR_time ?z_nCR_met ?z_aCS ?z_pgCS ?z_hdCS ?z_poCS ?z_saCS ?z_mkCS ?z_kcCS ?z_nCS_is_left ?z_nCS_reach ?z_nCS_tells_at_once ?z_nCS_tells_at_end ?z_nCS_mark ?z_nCS_taken ?z_nCS_put_aside ?z_nCS_kept ?z_aCJ ?z_pgCJ ?z_hdCJ ?z_poCJ ?z_saCJ ?z_mkCJ ?z_kcCJ ?z_nCJ_by_moment ?z_nCJ_left ?z_nCJ_right ?z_a_ri ?z_i_ri ?z_l_ri ?z_c_ri ?z_k_ri ?z_a_si ?z_i_si ?z_l_si ?z_c_si ?z_k_si ?z_a_tk ?z_i_tk ?z_l_tk ?z_c_tk ?z_k_tk ?z_a_al ?z_i_al ?z_l_al ?z_c_al ?z_k_al ?z_a_pr ?z_i_pr ?z_l_pr ?z_c_pr ?z_k_pr ?z_a_ji ?z_i_ji ?z_l_ji ?z_c_ji ?z_k_ji ?z_a_ot ?z_i_ot ?z_l_ot ?z_c_ot ?z_k_ot ?z_a_co ?z_l_co ?z_c_co ?z_k_co ?z_a_up ?z_l_up ?z_c_up ?z_k_up ?z_a_me ?z_l_me ?z_c_me ?z_k_me ?z_a_ro ?z_l_ro ?z_c_ro ?z_k_ro ?z_a_wa ?z_l_wa ?z_c_wa ?z_k_wa ?z_a_du ?z_l_du ?z_c_du ?z_k_du ?z_a_ask ?z_l_ask ?z_c_ask ?z_k_ask ?z_a_te ?z_l_te ?z_c_te ?z_k_te ?z_a_mo ?z_l_mo ?z_c_mo ?z_k_mo ?z_a_ho ?z_l_ho ?z_c_ho ?z_k_ho ?z_a_dv ?z_l_dv ?z_c_dv ?z_k_dv ?z_a_an ?z_l_an ?z_c_an ?z_k_an ?z_a_be ?z_l_be ?z_c_be ?z_k_be ?z_a_ca ?z_l_ca ?z_c_ca ?z_k_ca ?z_a_ra ?z_l_ra ?z_c_ra ?z_k_ra ?z_a_ma ?z_l_ma ?z_c_ma ?z_k_ma ?z_a_ka ?z_l_ka ?z_c_ka ?z_k_ka ?z_a_na ?z_l_na ?z_c_na ?z_k_na ?z_a_aa ?z_l_aa ?z_c_aa ?z_k_aa ?z_a_cn ?z_l_cn ?z_c_cn ?z_k_cn ?z_lcT ?z_hvT ?z_nPt ?z_x_gLast ?z_x_gAs ?z_x_gBegin ?z_x_gLeft ?z_x_gRight ?z_x_gLeftM ?z_x_gRightM ?z_x_gLefts ?z_x_gRights ?z_x_gCounts ?z_x_gFar ?z_y_bLen ?z_y_bMax ?z_y_bSorted ?z_aArg ?z_lArg ?z_kArg ?z_v_0 ?z_v_1 ?z_v_2 ?z_v_3 ?z_v_4 ?z_v_5 ?z_v_6 ?z_v_7 ?z_v_8
    (case z_aCR => k_is)
    (case z_pgCR => k_is)
    (case z_hdCR => k_is)
    (case z_poCR => k_is)
    (case z_saCR => k_is)
    (case z_mkCR => k_is)
    (case z_kcCR => k_is)
    (case z_nCR_number => k_is)
    (case z_nCR_key => k_is)
    (case z_nCR_time => k_is)
    (case z_nCR_met => k_is)
    (case z_aCS => k_is)
    (case z_pgCS => k_is)
    (case z_hdCS => k_is)
    (case z_poCS => k_is)
    (case z_saCS => k_is)
    (case z_mkCS => k_is)
    (case z_kcCS => k_is)
    (case z_nCS_is_left => k_is)
    (case z_nCS_reach => k_is)
    (case z_nCS_tells_at_once => k_is)
    (case z_nCS_tells_at_end => k_is)
    (case z_nCS_mark => k_is)
    (case z_nCS_taken => k_is)
    (case z_nCS_put_aside => k_is)
    (case z_nCS_kept => k_is)
    (case z_aCJ => k_is)
    (case z_pgCJ => k_is)
    (case z_hdCJ => k_is)
    (case z_poCJ => k_is)
    (case z_saCJ => k_is)
    (case z_mkCJ => k_is)
    (case z_kcCJ => k_is)
    (case z_nCJ_by_moment => k_is)
    (case z_nCJ_left => k_is)
    (case z_nCJ_right => k_is)
    (case z_a_ri => k_is)
    (case z_i_ri => k_is)
    (case z_l_ri => k_is)
    (case z_c_ri => k_is)
    (case z_k_ri => k_is)
    (case z_a_si => k_is)
    (case z_i_si => k_is)
    (case z_l_si => k_is)
    (case z_c_si => k_is)
    (case z_k_si => k_is)
    (case z_a_tk => k_is)
    (case z_i_tk => k_is)
    (case z_l_tk => k_is)
    (case z_c_tk => k_is)
    (case z_k_tk => k_is)
    (case z_a_al => k_is)
    (case z_i_al => k_is)
    (case z_l_al => k_is)
    (case z_c_al => k_is)
    (case z_k_al => k_is)
    (case z_a_pr => k_is)
    (case z_i_pr => k_is)
    (case z_l_pr => k_is)
    (case z_c_pr => k_is)
    (case z_k_pr => k_is)
    (case z_a_ji => k_is)
    (case z_i_ji => k_is)
    (case z_l_ji => k_is)
    (case z_c_ji => k_is)
    (case z_k_ji => k_is)
    (case z_a_ot => k_is)
    (case z_i_ot => k_is)
    (case z_l_ot => k_is)
    (case z_c_ot => k_is)
    (case z_k_ot => k_is)
    (case z_a_co => k_is)
    (case z_l_co => k_is)
    (case z_c_co => k_is)
    (case z_k_co => k_is)
    (case z_a_up => k_is)
    (case z_l_up => k_is)
    (case z_c_up => k_is)
    (case z_k_up => k_is)
    (case z_a_me => k_is)
    (case z_l_me => k_is)
    (case z_c_me => k_is)
    (case z_k_me => k_is)
    (case z_a_ro => k_is)
    (case z_l_ro => k_is)
    (case z_c_ro => k_is)
    (case z_k_ro => k_is)
    (case z_a_wa => k_is)
    (case z_l_wa => k_is)
    (case z_c_wa => k_is)
    (case z_k_wa => k_is)
    (case z_a_du => k_is)
    (case z_l_du => k_is)
    (case z_c_du => k_is)
    (case z_k_du => k_is)
    (case z_a_ask => k_is)
    (case z_l_ask => k_is)
    (case z_c_ask => k_is)
    (case z_k_ask => k_is)
    (case z_a_te => k_is)
    (case z_l_te => k_is)
    (case z_c_te => k_is)
    (case z_k_te => k_is)
    (case z_a_mo => k_is)
    (case z_l_mo => k_is)
    (case z_c_mo => k_is)
    (case z_k_mo => k_is)
    (case z_a_ho => k_is)
    (case z_l_ho => k_is)
    (case z_c_ho => k_is)
    (case z_k_ho => k_is)
    (case z_a_dv => k_is)
    (case z_l_dv => k_is)
    (case z_c_dv => k_is)
    (case z_k_dv => k_is)
    (case z_a_an => k_is)
    (case z_l_an => k_is)
    (case z_c_an => k_is)
    (case z_k_an => k_is)
    (case z_a_be => k_is)
    (case z_l_be => k_is)
    (case z_c_be => k_is)
    (case z_k_be => k_is)
    (case z_a_ca => k_is)
    (case z_l_ca => k_is)
    (case z_c_ca => k_is)
    (case z_k_ca => k_is)
    (case z_a_ra => k_is)
    (case z_l_ra => k_is)
    (case z_c_ra => k_is)
    (case z_k_ra => k_is)
    (case z_a_ma => k_is)
    (case z_l_ma => k_is)
    (case z_c_ma => k_is)
    (case z_k_ma => k_is)
    (case z_a_ka => k_is)
    (case z_l_ka => k_is)
    (case z_c_ka => k_is)
    (case z_k_ka => k_is)
    (case z_a_na => k_is)
    (case z_l_na => k_is)
    (case z_c_na => k_is)
    (case z_k_na => k_is)
    (case z_a_aa => k_is)
    (case z_l_aa => k_is)
    (case z_c_aa => k_is)
    (case z_k_aa => k_is)
    (case z_a_cn => k_is)
    (case z_l_cn => k_is)
    (case z_c_cn => k_is)
    (case z_k_cn => k_is)
    (case z_lcT => k_is)
    (case z_hvT => rfl)
    (case z_nPt => kernel_rfl)
    (case z_x_gLast => k_is)
    (case z_x_gAs => k_is)
    (case z_x_gBegin => k_is)
    (case z_x_gLeft => k_is)
    (case z_x_gRight => k_is)
    (case z_x_gLeftM => k_is)
    (case z_x_gRightM => k_is)
    (case z_x_gLefts => k_is)
    (case z_x_gRights => k_is)
    (case z_x_gCounts => k_is)
    (case z_x_gFar => k_is)
    (case z_y_bLen => k_is)
    (case z_y_bMax => k_is)
    (case z_y_bSorted => k_is)
    (case z_aArg => k_is)
    (case z_lArg => k_is)
    (case z_kArg => exact ⟨⟨_, _, rfl, rfl⟩, ⟨_, _, rfl, rfl⟩, ⟨_, _, rfl, rfl⟩, ⟨_, _, rfl, rfl⟩, ⟨_, _, rfl, rfl⟩, ⟨_, _, rfl, rfl⟩, ⟨_, _, rfl, rfl⟩, ⟨_, _, rfl, rfl⟩, ⟨_, _, rfl, rfl⟩, trivial⟩)
    (case z_v_0 => rfl)
    (case z_v_1 => rfl)
    (case z_v_2 => rfl)
    (case z_v_3 => rfl)
    (case z_v_4 => rfl)
    (case z_v_5 => rfl)
    (case z_v_6 => rfl)
    (case z_v_7 => rfl)
    (case z_v_8 => rfl)
  case S =>
    intro K P H xs a hP hwi hask hx
    cases hx with
    | cons h1 h2 =>
      cases h2
      cases h1 with
      | lst hs ha =>
        have e := L2.ints_dw a.1 _ ha
        subst e
        obtain ⟨cs, e1, e2, e3, e4⟩ := JS.asked_calls (l := a.1) hask
        refine ⟨_, cs, rfl, by rw [← e1]; exact hs, hP, e2, e4, fun H' p hp => ?_⟩
        rw [← e3] at hp
        exact .lst (L2.SqL.of hp) (L2.dw_ints _)
end
