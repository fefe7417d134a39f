import PyProof.Rows.All
import Wide.All
import OpenK.AllK
import Wide.FinOn
import Open.SpecLaws
import KE.OsGo
import HandS.ForSpec
import HandS.Comp
import HandS.Dict
import HandS.Iter
import HandS.Walk
import HandS.Codes
import HandS.Evl
import PySem.Challenge.RW_truthfulpay_s01_answers
set_option Elab.async false
set_option linter.all false
set_option maxRecDepth 100000
set_option maxHeartbeats 16000000
namespace Tp
open PySem PySem.Spec PyProof.Rows L2
def topS (i : Nat) : Stmt := PySem.Challenge.pw_truthfulpay_s01_answers.main.body.getD i (.Pass ⟨0, 0, 0, 0⟩)
/-- what the top has written, as far as the bodies ask -/
structure Txt (K : PySem.W.Frag) (mg : Str → Option Value) (CW CI : Addr) (aS : Addr) : Prop where
  clW : Cls K CW
  cl : Cls K CI
  nW : NoAttr K CW "instance"
  nAC : NoAttr K CI "agent_count"
  nLC : NoAttr K CI "alternative_count"
  nVal : NoAttr K CI "valuations"
  nAll : NoAttr K CI "allocation"
  c_Workbench : mg "Workbench" = some (.ref CW)
  c_Instance : mg "Instance" = some (.ref CI)
  g_SHAPES : mg "SHAPES" = some (.ref aS)
  g_NO_SUCH_MEMBER : ∃ u, mg "NO_SUCH_MEMBER" = some u ∧ RelV (.int (-2)) u
  g_NO_INSTANCE : ∃ u, mg "NO_INSTANCE" = some u ∧ RelV (.int (-11)) u
  g_NOT_READY : ∃ u, mg "NOT_READY" = some u ∧ RelV (.int (-16)) u
  g_INVALID : ∃ u, mg "INVALID" = some u ∧ RelV (.int (-22)) u
  g_TOO_MANY_KINDS : ∃ u, mg "TOO_MANY_KINDS" = some u ∧ RelV (.int (-28)) u
  g_NO_TRUTHFUL_PAYMENTS : ∃ u, mg "NO_TRUTHFUL_PAYMENTS" = some u ∧ RelV (.int (-33)) u
  g_FEWEST_AGENTS : ∃ u, mg "FEWEST_AGENTS" = some u ∧ RelV (.int 1) u
  g_MOST_AGENTS : ∃ u, mg "MOST_AGENTS" = some u ∧ RelV (.int 3) u
  g_FEWEST_ALTERNATIVES : ∃ u, mg "FEWEST_ALTERNATIVES" = some u ∧ RelV (.int 2) u
  g_MOST_ALTERNATIVES : ∃ u, mg "MOST_ALTERNATIVES" = some u ∧ RelV (.int 4) u
  g_MOST_KINDS : ∃ u, mg "MOST_KINDS" = some u ∧ RelV (.int 4) u
  g_GREATEST_VALUE : ∃ u, mg "GREATEST_VALUE" = some u ∧ RelV (.int 50) u
  g_GREATEST_FACTOR : ∃ u, mg "GREATEST_FACTOR" = some u ∧ RelV (.int 99) u
  g_GREATEST_PAYMENT : ∃ u, mg "GREATEST_PAYMENT" = some u ∧ RelV (.int 1000) u
  g_CREATE : ∃ u, mg "CREATE" = some u ∧ RelV (.int 0) u
  g_ADD_KIND : ∃ u, mg "ADD_KIND" = some u ∧ RelV (.int 1) u
  g_SET_ALLOCATION : ∃ u, mg "SET_ALLOCATION" = some u ∧ RelV (.int 2) u
  g_ALLOCATION : ∃ u, mg "ALLOCATION" = some u ∧ RelV (.int 3) u
  g_USE_WELFARE_MAXIMIZER : ∃ u, mg "USE_WELFARE_MAXIMIZER" = some u ∧ RelV (.int 4) u
  g_USE_AFFINE_MAXIMIZER : ∃ u, mg "USE_AFFINE_MAXIMIZER" = some u ∧ RelV (.int 5) u
  g_USE_AGENT_MAXIMIZER : ∃ u, mg "USE_AGENT_MAXIMIZER" = some u ∧ RelV (.int 6) u
  g_MISREPORT_LOSS : ∃ u, mg "MISREPORT_LOSS" = some u ∧ RelV (.int 7) u
  g_IS_CYCLICALLY_MONOTONIC : ∃ u, mg "IS_CYCLICALLY_MONOTONIC" = some u ∧ RelV (.int 8) u
  g_IS_WEAKLY_MONOTONIC : ∃ u, mg "IS_WEAKLY_MONOTONIC" = some u ∧ RelV (.int 9) u
  g_PAYMENT_BOUNDS : ∃ u, mg "PAYMENT_BOUNDS" = some u ∧ RelV (.int 10) u
  g_ARE_TRUTHFUL_PAYMENTS : ∃ u, mg "ARE_TRUTHFUL_PAYMENTS" = some u ∧ RelV (.int 11) u
  g_PIVOT_PAYMENTS : ∃ u, mg "PIVOT_PAYMENTS" = some u ∧ RelV (.int 12) u
  g_DESCRIBE : ∃ u, mg "DESCRIBE" = some u ∧ RelV (.int 14) u
  b_len : mg "len" = none
  b_all : mg "all" = none
  b_enumerate : mg "enumerate" = none
  b_range : mg "range" = none
  b_zip : mg "zip" = none
  b_list : mg "list" = none
  b_sum : mg "sum" = none
  b_max : mg "max" = none
  b_min : mg "min" = none
  b_abs : mg "abs" = none

/-! ### rules with the written part as a letter (for blocks of comprehensions) -/
theorem ixL {X : Cx} {K : PySem.W.Frag} (e : X.K = K) : IxR X (rIxL K) := e ▸ ix_list
theorem ixT {X : Cx} {K : PySem.W.Frag} (e : X.K = K) : IxR X (rIxT K) := e ▸ ix_tup
theorem call_len1 {X : Cx} {K : PySem.W.Frag} (e : X.K = K) : CallR X (.builtin "len") (Evl.rLenS K) := by
  subst e
  exact call_len_seq
theorem call_list1 {X : Cx} {K : PySem.W.Frag} (e : X.K = K) : CallR X (.type "list") (Evl.rListS K) := by
  subst e
  exact call_list_of
def rAbs : List V → Hp → VK → Prop := fun xs H Q => ∃ i, xs = [.int i] ∧ Q (.int (if i < 0 then -i else i)) H
theorem call_abs1 {X : Cx} : CallR X (.builtin "abs") rAbs := call_abs
def rMin2 : List V → Hp → VK → Prop := fun xs H Q => ∃ i j, xs = [.int i, .int j] ∧ Q (.int (if j < i then j else i)) H
theorem call_min1 {X : Cx} (hc : X.calm = true) : CallR X (.builtin "min") rMin2 := call_min2 hc
def rLt : R2 := rI0 fun i j => .bl (decide (i < j))
def rLe : R2 := rI0 fun i j => .bl (decide (i ≤ j))
def rGt : R2 := rI0 fun i j => .bl (decide (j < i))
def rGe : R2 := rI0 fun i j => .bl (decide (j ≤ i))
def rAdd : R2 := rI0 fun i j => .int (i + j)
def rSub : R2 := rI0 fun i j => .int (i - j)
def rMul : R2 := rI CMul fun i j => .int (i * j)
def rIsN : R2 := fun x y H Q => y = .non ∧ Q (.bl (decide (x = .non))) H
def rNotN : R2 := fun x y H Q => y = .non ∧ Q (.bl (!decide (x = .non))) H
section
variable {X : Cx}
theorem opLt : OpR X (compareOp .Lt) rLt := op_lt
theorem opLe : OpR X (compareOp .LtE) rLe := op_le
theorem opGt : OpR X (compareOp .Gt) rGt := op_gt
theorem opGe : OpR X (compareOp .GtE) rGe := op_ge
theorem opAdd : OpR X (binaryOp .Add) rAdd := op_add
theorem opSub : OpR X (binaryOp .Sub) rSub := op_sub
theorem opMul : OpR X (binaryOp .Mult) rMul := op_mul
theorem opIsN : OpR X (compareOp .Is) rIsN := op_isN
theorem opNotN : OpR X (compareOp .IsNot) rNotN := op_notN
end
theorem opNotIn {X : Cx} {K : PySem.W.Frag} (e : X.K = K) : OpR X (compareOp .NotIn) (rIn K true) := e ▸ op_notIn_seq
/-- a, b = a pair; a, b, c = a triple -/
def gPair (K : PySem.W.Frag) (i j : Nat) : TG := fun v σ H Q => ∃ a x y, v = .ref a ∧ SqT K H a [x, y] ∧ Q ((σ.set i (some x)).set j (some y)) H
theorem pg_pair {X : Cx} {x y : Str} {p1 p2 pos : Pos} {kk : Nat} {K : PySem.W.Frag} {i j : Nat} (hc : X.calm = true) (eK : X.K = K) (hN : X.N.Nodup) (hi : X.N[i]? = some x) (hx : Loc X.env.scope x) (fx : X.fn x = true ∨ X.env.scope.names.lookup x = some .local)
    (hj : X.N[j]? = some y) (hy : Loc X.env.scope y) (fy : X.fn y = true ∨ X.env.scope.names.lookup y = some .local) : PG X (.Tuple [.Name x p1, .Name y p2] kk pos) (gPair K i j) := by
  subst eK
  have h0 : PG X (.Tuple [.Name x p1, .Name y p2] kk pos) (gTup X.K 2 (gCons (gName i) (gCons (gName j) gNil))) := pg_tup hc (pgs_cons (pg_name hN hi hx fx) (pgs_cons (pg_name hN hj hy fy) pgs_nil))
  refine ⟨fun pins s σ H v u Q I r h => h0.run pins s σ H v u Q I r ?_⟩
  obtain ⟨a, x, y, e, hs, q⟩ := h
  exact ⟨a, [x, y], e, hs, rfl, x, [y], rfl, y, [], rfl, rfl, q⟩
def gTrip (K : PySem.W.Frag) (i j k : Nat) : TG := fun v σ H Q => ∃ a x y z, v = .ref a ∧ SqT K H a [x, y, z] ∧ Q (((σ.set i (some x)).set j (some y)).set k (some z)) H
theorem pg_trip {X : Cx} {x y z : Str} {p1 p2 p3 pos : Pos} {kk : Nat} {K : PySem.W.Frag} {i j k : Nat} (hc : X.calm = true) (eK : X.K = K) (hN : X.N.Nodup) (hi : X.N[i]? = some x) (hx : Loc X.env.scope x) (fx : X.fn x = true ∨ X.env.scope.names.lookup x = some .local)
    (hj : X.N[j]? = some y) (hy : Loc X.env.scope y) (fy : X.fn y = true ∨ X.env.scope.names.lookup y = some .local) (hk : X.N[k]? = some z) (hz : Loc X.env.scope z) (fz : X.fn z = true ∨ X.env.scope.names.lookup z = some .local) : PG X (.Tuple [.Name x p1, .Name y p2, .Name z p3] kk pos) (gTrip K i j k) := by
  subst eK
  have h0 : PG X (.Tuple [.Name x p1, .Name y p2, .Name z p3] kk pos) (gTup X.K 3 (gCons (gName i) (gCons (gName j) (gCons (gName k) gNil)))) := pg_tup hc (pgs_cons (pg_name hN hi hx fx) (pgs_cons (pg_name hN hj hy fy) (pgs_cons (pg_name hN hk hz fz) pgs_nil)))
  refine ⟨fun pins s σ H v u Q I r h => h0.run pins s σ H v u Q I r ?_⟩
  obtain ⟨a, x, y, z, e, hs, q⟩ := h
  exact ⟨a, [x, y, z], e, hs, rfl, x, [y, z], rfl, y, [z], rfl, z, [], rfl, rfl, q⟩
end Tp

namespace Tp
open Su196
/-! # Mathematics, about lists and numbers alone -/
structure WF (a : Instance) : Prop where
  n1 : 1 ≤ a.agentCount
  n3 : a.agentCount ≤ 3
  m2 : 2 ≤ a.alternativeCount
  m4 : a.alternativeCount ≤ 4
  tl : a.types.length = a.agentCount
  k4 : ∀ ty ∈ a.types, ty.length ≤ 4
  vl : ∀ ty ∈ a.types, ∀ vs ∈ ty, vs.length = a.alternativeCount ∧ ∀ v ∈ vs, -50 ≤ v ∧ v ≤ 50
  al : a.allocation.length = a.profiles.length
  ax : ∀ x ∈ a.allocation, x < a.alternativeCount

/-! ## profiles -/
def prod : List Nat → Nat
  | [] => 1
  | n :: r => n * prod r
theorem flatMap_len {α β : Type} (f : α → List β) (L : Nat) : ∀ l : List α, (∀ x ∈ l, (f x).length = L) → (l.flatMap f).length = l.length * L
  | [], _ => by simp
  | x :: r, h => by
    rw [List.flatMap_cons, List.length_append, h x (List.mem_cons_self ..), flatMap_len f L r fun y hy => h y (List.mem_cons_of_mem _ hy), List.length_cons, Nat.succ_mul]
    omega
theorem enum_len : ∀ ns : List Nat, (enumerateProfiles ns).length = prod ns
  | [] => rfl
  | k :: l => by
    unfold enumerateProfiles prod
    rw [flatMap_len _ (prod l) _ fun x _ => by rw [List.length_map, enum_len l], List.length_range]
theorem enum_mem : ∀ (ns t : List Nat), t ∈ enumerateProfiles ns → t.length = ns.length ∧ ∀ i : Nat, i < ns.length → t.getD i 0 < ns.getD i 0
  | [], t, h => by
    have e : t = [] := by simpa [enumerateProfiles] using h
    subst e
    exact ⟨rfl, fun i hi => absurd hi (Nat.not_lt_zero _)⟩
  | k :: l, t, h => by
    unfold enumerateProfiles at h
    obtain ⟨x, hx, h⟩ := List.mem_flatMap.mp h
    obtain ⟨r, hr, rfl⟩ := List.mem_map.mp h
    obtain ⟨h1, h2⟩ := enum_mem l r hr
    refine ⟨by simp [h1], fun i hi => ?_⟩
    cases i with
    | zero => simpa using List.mem_range.mp hx
    | succ i =>
      have := h2 i (by simpa using hi)
      simpa using this
/-- built from the left, as the program does -/
def profL (ns : List Nat) : List (List Nat) := ns.foldl (fun found n => found.flatMap fun s => (List.range n).map fun k => s ++ [k]) [[]]
theorem profL_go : ∀ (ns : List Nat) (found : List (List Nat)), ns.foldl (fun found n => found.flatMap fun s => (List.range n).map fun k => s ++ [k]) found = found.flatMap fun s => (enumerateProfiles ns).map fun r => s ++ r
  | [], found => by
    simp [enumerateProfiles]
  | n :: r, found => by
    have e : enumerateProfiles (n :: r) = (List.range n).flatMap fun t => (enumerateProfiles r).map fun r => t :: r := by rw [enumerateProfiles]
    rw [List.foldl_cons, profL_go r, List.flatMap_assoc, e]
    congr 1
    funext s
    rw [List.flatMap_map, List.map_flatMap]
    congr 1
    funext k
    rw [List.map_map]
    congr 1
    funext t
    simp
theorem profL_is (ns : List Nat) : profL ns = enumerateProfiles ns := by
  unfold profL
  rw [profL_go]
  simp
theorem prod_le (ns : List Nat) (h : ∀ n ∈ ns, n ≤ 4) : prod ns ≤ 4 ^ ns.length := by
  induction ns with
  | nil => exact Nat.le_refl _
  | cons n r ih =>
    have h1 := ih fun m hm => h m (List.mem_cons_of_mem _ hm)
    have h2 := h n (List.mem_cons_self ..)
    show n * prod r ≤ 4 ^ (r.length + 1)
    rw [Nat.pow_succ, Nat.mul_comm (4 ^ r.length) 4]
    exact Nat.mul_le_mul h2 h1
theorem profL_step (ns : List Nat) (i n : Nat) (h : ns[i]? = some n) : profL (ns.take (i + 1)) = (profL (ns.take i)).flatMap fun s => (List.range n).map fun k => s ++ [k] := by
  have e : ns.take (i + 1) = ns.take i ++ [n] := by
    rw [List.take_add_one, h]
    rfl
  unfold profL
  rw [e, List.foldl_append]
  rfl
/-! ## the place of a profile -/
def placeL (ns t : List Nat) : Nat := (ns.zip t).foldl (fun z p => z * p.1 + p.2) 0
theorem place_bound : ∀ (ns t : List Nat) (z P : Nat), z < P → t.length = ns.length → (∀ i : Nat, i < ns.length → t.getD i 0 < ns.getD i 0) → (ns.zip t).foldl (fun z p => z * p.1 + p.2) z < P * prod ns
  | [], t, z, P, hz, _, _ => by
    show z < P * 1
    omega
  | n :: r, [], z, P, _, h, _ => by simp at h
  | n :: r, k :: s, z, P, hz, hl, h => by
    have h0 : k < n := by simpa using h 0 (by simp)
    have ih := place_bound r s (z * n + k) (P * n) (by
      have : (z + 1) * n ≤ P * n := Nat.mul_le_mul_right n hz
      rw [Nat.succ_mul] at this
      omega) (by simpa using hl) fun i hi => by simpa using h (i + 1) (by simpa using hi)
    show (r.zip s).foldl (fun z p => z * p.1 + p.2) (z * n + k) < P * (n * prod r)
    rw [← Nat.mul_assoc]
    exact ih
theorem zip_fold_range (ns : List Nat) : ∀ (t : List Nat) (z : Nat), t.length = ns.length → (ns.zip t).foldl (fun z p => z * p.1 + p.2) z = (List.range ns.length).foldl (fun z i => z * ns.getD i 0 + t.getD i 0) z := by
  induction ns with
  | nil => intro t z _; rfl
  | cons n r ih =>
    intro t z h
    cases t with
    | nil => simp at h
    | cons k s =>
      rw [List.length_cons, List.range_succ_eq_map, List.foldl_cons, List.foldl_map]
      show (r.zip s).foldl (fun z p => z * p.1 + p.2) (z * n + k) = _
      rw [ih s _ (by simpa using h)]
      simp
theorem typeCount_eq (a : Instance) (i : Nat) : a.typeCount i = (a.types.map List.length).getD i 0 := by
  unfold Instance.typeCount Instance.typesOf
  by_cases h : i < a.types.length
  · simp [List.getD, h]
  · have e : a.types[i]? = none := List.getElem?_eq_none (by omega)
    simp [List.getD, e]
theorem place_is {a : Instance} (h : WF a) {t : List Nat} (ht : t.length = a.agentCount) : placeL (a.types.map List.length) t = a.profileIndex t := by
  unfold placeL Instance.profileIndex Instance.agents
  rw [zip_fold_range _ _ _ (by rw [List.length_map, h.tl, ht]), List.length_map, h.tl]
  congr 1
  funext z i
  rw [typeCount_eq]
def IsP (a : Instance) (t : List Nat) : Prop := t.length = a.agentCount ∧ ∀ i : Nat, i < a.agentCount → t.getD i 0 < a.typeCount i
theorem isP_iff {a : Instance} {t : List Nat} : a.isProfile t = true ↔ IsP a t := by
  unfold Instance.isProfile IsP Instance.agents
  simp [List.all_eq_true]
theorem prof_len {a : Instance} (h : WF a) : a.profiles.length = prod (a.types.map List.length) := by
  unfold Instance.profiles
  exact enum_len _
theorem index_lt {a : Instance} (h : WF a) {t : List Nat} (p : IsP a t) : a.profileIndex t < a.allocation.length := by
  rw [h.al, prof_len h, ← place_is h p.1]
  have := place_bound (a.types.map List.length) t 0 1 (by decide) (by rw [List.length_map, h.tl, p.1]) fun i hi => by
    rw [← typeCount_eq]
    exact p.2 i (by rw [List.length_map, h.tl] at hi; exact hi)
  rw [Nat.one_mul] at this
  exact this
theorem prof_le {a : Instance} (h : WF a) : a.profiles.length ≤ 64 := by
  rw [prof_len h]
  have h1 := prod_le (a.types.map List.length) (by
    intro n hn
    obtain ⟨ty, hty, rfl⟩ := List.mem_map.mp hn
    exact h.k4 ty hty)
  rw [List.length_map, h.tl] at h1
  have h2 : 4 ^ a.agentCount ≤ 4 ^ 3 := Nat.pow_le_pow_right (by decide) h.n3
  have h3 : (4 : Nat) ^ 3 = 64 := by decide
  omega
theorem prof_mem {a : Instance} (h : WF a) {t : List Nat} (ht : t ∈ a.profiles) : IsP a t := by
  obtain ⟨h1, h2⟩ := enum_mem _ t ht
  rw [List.length_map, h.tl] at h1
  refine ⟨h1, fun i hi => ?_⟩
  rw [typeCount_eq]
  exact h2 i (by rw [List.length_map, h.tl]; exact hi)
theorem alloc_at {a : Instance} (h : WF a) {t : List Nat} (p : IsP a t) : a.allocation[a.profileIndex t]? = some (a.allocated t) := by
  have := index_lt h p
  unfold Instance.allocated
  simp [List.getD, this]
theorem alloc_lt {a : Instance} (h : WF a) {t : List Nat} (p : IsP a t) : a.allocated t < a.alternativeCount := by
  exact h.ax _ (List.mem_of_getElem? (alloc_at h p))
theorem count_le {a : Instance} (h : WF a) (i : Nat) : a.typeCount i ≤ 4 := by
  unfold Instance.typeCount Instance.typesOf
  by_cases c : i < a.types.length
  · have e : a.types.getD i [] = a.types[i] := by simp [List.getD, c]
    rw [e]
    exact h.k4 _ (List.getElem_mem c)
  · have e : a.types[i]? = none := List.getElem?_eq_none (by omega)
    simp [List.getD, e]
theorem isP_set {a : Instance} {t : List Nat} (p : IsP a t) {i k : Nat} (hk : k < a.typeCount i) : IsP a (t.set i k) := by
  refine ⟨by rw [List.length_set]; exact p.1, fun j hj => ?_⟩
  by_cases e : i = j
  · subst e
    by_cases c : i < t.length
    · simpa [List.getD, c] using hk
    · have := p.1
      omega
  · have := p.2 j hj
    simpa [List.getD, List.getElem?_set_ne e] using this
theorem at_getD {α : Type} {l : List α} {i : Nat} (d : α) (h : i < l.length) : l[i]? = some (l.getD i d) := by
  simp [List.getD, h]
theorem types_at {a : Instance} (h : WF a) {i : Nat} (hi : i < a.agentCount) : a.types[i]? = some (a.typesOf i) := by
  have c : i < a.types.length := by rw [h.tl]; exact hi
  unfold Instance.typesOf
  simp [List.getD, c]
theorem kind_at {a : Instance} {i k : Nat} (hk : k < a.typeCount i) : (a.typesOf i)[k]? = some ((a.typesOf i).getD k []) := by
  have c : k < (a.typesOf i).length := hk
  simp [List.getD, c]
theorem vals_len {a : Instance} (h : WF a) {i k : Nat} (hi : i < a.agentCount) (hk : k < a.typeCount i) : ((a.typesOf i).getD k []).length = a.alternativeCount :=
  (h.vl _ (List.mem_of_getElem? (types_at h hi)) _ (List.mem_of_getElem? (kind_at hk))).1
theorem value_at {a : Instance} (h : WF a) {i k x : Nat} (hi : i < a.agentCount) (hk : k < a.typeCount i) (hx : x < a.alternativeCount) : ((a.typesOf i).getD k [])[x]? = some (a.value i k x) := by
  have c : x < ((a.typesOf i).getD k []).length := by rw [vals_len h hi hk]; exact hx
  exact at_getD 0 c
theorem value_le {a : Instance} (h : WF a) {i k x : Nat} (hi : i < a.agentCount) (hk : k < a.typeCount i) (hx : x < a.alternativeCount) : -50 ≤ a.value i k x ∧ a.value i k x ≤ 50 :=
  (h.vl _ (List.mem_of_getElem? (types_at h hi)) _ (List.mem_of_getElem? (kind_at hk))).2 _ (List.mem_of_getElem? (value_at h hi hk hx))
/-! ## the greatest, the first of those -/
theorem argmax_go (f : Nat → Int) (m : Nat) (hm : 1 ≤ m) : argmax (List.range m) f < m ∧ (∀ x, x < m → f x ≤ f (argmax (List.range m) f)) ∧ ∀ x, x < argmax (List.range m) f → f x < f (argmax (List.range m) f) := by
  induction m with
  | zero => omega
  | succ m ih =>
    have e : argmax (List.range (m + 1)) f = if f (argmax (List.range m) f) < f m then m else argmax (List.range m) f := by
      unfold argmax
      rw [List.range_succ, List.foldl_append]
      rfl
    by_cases h0 : m = 0
    · subst h0
      rw [e]
      have e0 : argmax (List.range 0) f = 0 := rfl
      rw [e0, if_neg (by omega)]
      exact ⟨by decide, fun x hx => by have : x = 0 := by omega
                                       subst this; exact Int.le_refl _, fun x hx => absurd hx (Nat.not_lt_zero _)⟩
    · obtain ⟨h1, h2, h3⟩ := ih (by omega)
      rw [e]
      by_cases c : f (argmax (List.range m) f) < f m
      · rw [if_pos c]
        refine ⟨by omega, fun x hx => ?_, fun x hx => ?_⟩
        · by_cases z : x = m
          · subst z; exact Int.le_refl _
          · have := h2 x (by omega); omega
        · have := h2 x hx; omega
      · rw [if_neg c]
        refine ⟨by omega, fun x hx => ?_, h3⟩
        by_cases z : x = m
        · subst z; omega
        · exact h2 x (by omega)
theorem argmax_congr (m : Nat) (f g : Nat → Int) (h : ∀ x, f x = g x) : argmax (List.range m) f = argmax (List.range m) g := by
  have : f = g := funext h
  rw [this]
/-! ## scores -/
def scoreS (a : Instance) (ws bs : List Int) (t : List Nat) (x : Nat) : Int := bs.getD x 0 + ((List.range t.length).map fun i => ws.getD i 0 * a.value i (t.getD i 0) x).sum
def scoreU (a : Instance) (ws bs : List Int) (t : List Nat) (x n : Nat) : Int := bs.getD x 0 + ((List.range n).map fun i => ws.getD i 0 * a.value i (t.getD i 0) x).sum
theorem scoreU_succ (a : Instance) (ws bs : List Int) (t : List Nat) (x n : Nat) : scoreU a ws bs t x (n + 1) = scoreU a ws bs t x n + ws.getD n 0 * a.value n (t.getD n 0) x := by
  unfold scoreU
  rw [List.range_succ, List.map_append, List.sum_append]
  simp only [List.map_cons, List.map_nil, List.sum_cons, List.sum_nil]
  omega
theorem rep_getD (n i : Nat) (v : Int) : (List.replicate n v).getD i 0 = if i < n then v else 0 := by
  by_cases h : i < n
  · rw [if_pos h]
    simp [List.getD, h]
  · rw [if_neg h]
    have e : (List.replicate n v)[i]? = none := List.getElem?_eq_none (by simp; omega)
    simp [List.getD, e]
theorem score_total {a : Instance} {t : List Nat} (ht : t.length = a.agentCount) (m x : Nat) : scoreS a (List.replicate a.agentCount 1) (List.replicate m 0) t x = a.totalValue t x := by
  unfold scoreS Instance.totalValue Instance.agents Instance.reportedValue
  rw [rep_getD, ite_self, ht, Int.zero_add]
  congr 1
  apply List.map_congr_left
  intro i hi
  rw [rep_getD, if_pos (List.mem_range.mp hi), Int.one_mul]
theorem sum_one (g : Nat → Int) (i : Nat) : ∀ n : Nat, i < n → ((List.range n).map fun j => (if j = i then (1 : Int) else 0) * g j).sum = g i
  | 0, h => absurd h (Nat.not_lt_zero _)
  | n + 1, h => by
    rw [List.range_succ, List.map_append, List.sum_append]
    simp only [List.map_cons, List.map_nil, List.sum_cons, List.sum_nil]
    by_cases c : i = n
    · subst c
      rw [if_pos rfl]
      have z : ((List.range i).map fun j => (if j = i then (1 : Int) else 0) * g j).sum = 0 := by
        have : ((List.range i).map fun j => (if j = i then (1 : Int) else 0) * g j) = (List.range i).map fun _ => (0 : Int) := by
          apply List.map_congr_left
          intro j hj
          rw [if_neg (by have := List.mem_range.mp hj; omega), Int.zero_mul]
        rw [this]
        clear this h
        induction i with
        | zero => rfl
        | succ k ih =>
          rw [List.range_succ, List.map_append, List.sum_append, ih]
          rfl
      rw [z]
      omega
    · rw [sum_one g i n (by omega), if_neg (by omega)]
      omega
theorem sum_but (g : Nat → Int) (i : Nat) : ∀ n : Nat, i < n → ((List.range n).map fun j => (if j = i then (0 : Int) else 1) * g j).sum = ((List.range n).map g).sum - g i
  | 0, h => absurd h (Nat.not_lt_zero _)
  | n + 1, h => by
    rw [List.range_succ, List.map_append, List.sum_append, List.map_append, List.sum_append]
    simp only [List.map_cons, List.map_nil, List.sum_cons, List.sum_nil]
    by_cases c : i = n
    · subst c
      rw [if_pos rfl]
      have z : ((List.range i).map fun j => (if j = i then (0 : Int) else 1) * g j) = (List.range i).map g := by
        apply List.map_congr_left
        intro j hj
        rw [if_neg (by have := List.mem_range.mp hj; omega), Int.one_mul]
      rw [z]
      omega
    · rw [sum_but g i n (by omega), if_neg (by omega)]
      omega
theorem set_getD (n i j : Nat) (v w : Int) (hj : j < n) : ((List.replicate n v).set i w).getD j 0 = if j = i then w else v := by
  by_cases c : j = i
  · subst c
    rw [if_pos rfl]
    simp [List.getD, hj]
  · rw [if_neg c]
    have : i ≠ j := fun e => c e.symm
    rw [List.getD_eq_getElem?_getD, List.getElem?_set_ne this]
    simp [hj]
theorem score_agent {a : Instance} {t : List Nat} (ht : t.length = a.agentCount) (m x i : Nat) (hi : i < a.agentCount) : scoreS a ((List.replicate a.agentCount 0).set i 1) (List.replicate m 0) t x = a.reportedValue i x t := by
  unfold scoreS Instance.reportedValue
  rw [rep_getD, ite_self, ht, Int.zero_add]
  rw [← sum_one (fun j => a.value j (t.getD j 0) x) i a.agentCount hi]
  congr 1
  apply List.map_congr_left
  intro j hj
  rw [set_getD _ _ _ _ _ (List.mem_range.mp hj)]
theorem score_others {a : Instance} {t : List Nat} (ht : t.length = a.agentCount) (m x i : Nat) (hi : i < a.agentCount) : scoreS a ((List.replicate a.agentCount 1).set i 0) (List.replicate m 0) t x = a.othersValue i t x := by
  unfold scoreS Instance.othersValue Instance.totalValue Instance.agents Instance.reportedValue
  rw [rep_getD, ite_self, ht, Int.zero_add]
  rw [← sum_but (fun j => a.value j (t.getD j 0) x) i a.agentCount hi]
  congr 1
  apply List.map_congr_left
  intro j hj
  rw [set_getD _ _ _ _ _ (List.mem_range.mp hj)]
theorem getD_map_nat (l : List Nat) (i : Nat) : (l.map Int.ofNat).getD i 0 = ((l.getD i 0 : Nat) : Int) := by
  by_cases c : i < l.length
  · simp [List.getD, c]
  · have e : l[i]? = none := List.getElem?_eq_none (by omega)
    simp [List.getD, e]
theorem score_affine {a : Instance} {t : List Nat} (ht : t.length = a.agentCount) (ws bs : List Nat) (x : Nat) : scoreS a (ws.map Int.ofNat) (bs.map Int.ofNat) t x = (a.agents.map fun i => (ws.getD i 0 : Int) * a.reportedValue i x t).sum + (bs.getD x 0 : Int) := by
  unfold scoreS Instance.agents Instance.reportedValue
  rw [ht, getD_map_nat, Int.add_comm]
  congr 2
  apply List.map_congr_left
  intro j hj
  rw [getD_map_nat]
end Tp

namespace Tp
open Su196
/-! ## losses as a table -/
def lossAt (M : List (List Int)) (k l : Nat) : Int := (M.getD k []).getD l 0
def lossM (a : Instance) (i : Nat) (t : List Nat) : List (List Int) := (List.range (a.typeCount i)).map fun k => (List.range (a.typeCount i)).map fun l => a.loss i t k l
structure Sq (M : List (List Int)) (n : Nat) : Prop where
  len : M.length = n
  row : ∀ r ∈ M, r.length = n
theorem Sq.at {M : List (List Int)} {n k : Nat} (h : Sq M n) (hk : k < n) : M[k]? = some (M.getD k []) := at_getD [] (by rw [h.len]; exact hk)
theorem Sq.rowlen {M : List (List Int)} {n k : Nat} (h : Sq M n) (hk : k < n) : (M.getD k []).length = n := h.row _ (List.mem_of_getElem? (h.at hk))
theorem Sq.at2 {M : List (List Int)} {n k l : Nat} (h : Sq M n) (hk : k < n) (hl : l < n) : (M.getD k [])[l]? = some (lossAt M k l) := at_getD 0 (by rw [h.rowlen hk]; exact hl)
theorem lossM_sq (a : Instance) (i : Nat) (t : List Nat) : Sq (lossM a i t) (a.typeCount i) := by
  refine ⟨by unfold lossM; rw [List.length_map, List.length_range], fun r hr => ?_⟩
  unfold lossM at hr
  obtain ⟨k, _, rfl⟩ := List.mem_map.mp hr
  rw [List.length_map, List.length_range]
theorem row_at (a : Instance) (i : Nat) (t : List Nat) {k : Nat} (hk : k < a.typeCount i) : (lossM a i t)[k]? = some ((List.range (a.typeCount i)).map fun l => a.loss i t k l) := by
  unfold lossM
  rw [List.getElem?_map, List.getElem?_range hk]
  rfl
theorem lossM_at (a : Instance) (i : Nat) (t : List Nat) {k l : Nat} (hk : k < a.typeCount i) (hl : l < a.typeCount i) : lossAt (lossM a i t) k l = a.loss i t k l := by
  have h1 := (lossM_sq a i t).at hk
  have h2 := (lossM_sq a i t).at2 hk hl
  rw [row_at a i t hk] at h1
  have e := Option.some.inj h1
  rw [← e, List.getElem?_map, List.getElem?_range hl] at h2
  exact (Option.some.inj h2).symm
/-! ## cycles -/
def ext1 (c : Nat) (path : List Nat) : List (List Nat) := ((List.range (c - (path.getD 0 0 + 1))).filter fun j => decide (path.getD 0 0 + 1 + j ∉ path)).map fun j => path ++ [path.getD 0 0 + 1 + j]
def pathsU (c : Nat) : Nat → List (List Nat)
  | 0 => (List.range c).map fun k => [k]
  | n + 1 => (pathsU c n).flatMap (ext1 c)
def foundU (c : Nat) : Nat → List (List Nat)
  | 0 => []
  | n + 1 => foundU c n ++ pathsU c (n + 1)
def cyc (c most : Nat) : List (List Nat) := foundU c (most - 1)
def pathsOk (c n : Nat) : Bool := decide ((pathsU c n).length ≤ 100) && decide ((foundU c n).length ≤ 100) && (pathsU c n).all fun p => decide (1 ≤ p.length) && decide (p.length ≤ 10) && decide (p.getD 0 0 < 4)
theorem pathsOk_all : ∀ c, c < 5 → ∀ n, n < 4 → pathsOk c n = true := by decide +kernel
theorem paths_ok {c n : Nat} (hc : c ≤ 4) (hn : n ≤ 3) : (pathsU c n).length ≤ 100 ∧ (foundU c n).length ≤ 100 ∧ ∀ p ∈ pathsU c n, 1 ≤ p.length ∧ p.length ≤ 10 ∧ p.getD 0 0 < 4 := by
  have h := pathsOk_all c (by omega) n (by omega)
  unfold pathsOk at h
  simp only [Bool.and_eq_true, decide_eq_true_eq, List.all_eq_true] at h
  exact ⟨h.1.1, h.1.2, fun p hp => ⟨(h.2 p hp).1.1, (h.2 p hp).1.2, (h.2 p hp).2⟩⟩
/-- the cycles of so many kinds -/
def cycN (c : Nat) : List (List Nat) := (List.range (c - 1)).flatMap fun k => (arrangements (k + 2) (List.range c)).filter fun r => r.all fun x => decide (r.headD 0 ≤ x)
theorem cyc4_all : ∀ c, c < 5 → cyc c 4 = cycN c := by decide +kernel
theorem cyc2_all : ∀ c, c < 5 → cyc c 2 = (cycN c).filter fun r => r.length == 2 := by decide +kernel
def goodCyc (c : Nat) (p : List Nat) : Bool := decide (2 ≤ p.length) && decide (p.length ≤ 4) && p.all fun x => decide (x < c)
theorem cycN_good : ∀ c, c < 5 → (cycN c).all (goodCyc c) = true := by decide +kernel
theorem cycN_mem {c : Nat} (hc : c ≤ 4) {p : List Nat} (h : p ∈ cycN c) : 2 ≤ p.length ∧ p.length ≤ 4 ∧ ∀ x ∈ p, x < c := by
  have k := List.all_eq_true.mp (cycN_good c (by omega)) p h
  unfold goodCyc at k
  simp only [Bool.and_eq_true, decide_eq_true_eq, List.all_eq_true] at k
  exact ⟨k.1.1, k.1.2, k.2⟩
def prevOf (cs : List Nat) (j : Nat) : Nat := if j = 0 then cs.getD (cs.length - 1) 0 else cs.getD (j - 1) 0
def cycSum (M : List (List Int)) (cs : List Nat) : Int := ((List.range cs.length).map fun j => lossAt M (cs.getD j 0) (prevOf cs j)).sum
theorem cycSum_is {a : Instance} {i : Nat} {t : List Nat} {cs : List Nat} (h : cs ∈ cycN (a.typeCount i)) (hc : a.typeCount i ≤ 4) : cycSum (lossM a i t) cs = a.cycleLength i t cs := by
  obtain ⟨h1, h2, h3⟩ := cycN_mem hc h
  unfold cycSum Instance.cycleLength
  match cs, h1, h2, h3 with
  | [x, y], _, _, h3 =>
    have hx := h3 x (by simp)
    have hy := h3 y (by simp)
    have e : List.range 2 = [0, 1] := by decide
    simp only [List.length_cons, List.length_nil, Nat.zero_add, Nat.reduceAdd, e, List.map_cons, List.map_nil, List.sum_cons, List.sum_nil]
    show lossAt _ x y + (lossAt _ y x + 0) = a.loss i t y x + (a.loss i t x y + 0)
    rw [lossM_at a i t hx hy, lossM_at a i t hy hx]
    omega
  | [x, y, z], _, _, h3 =>
    have hx := h3 x (by simp)
    have hy := h3 y (by simp)
    have hz := h3 z (by simp)
    have e : List.range 3 = [0, 1, 2] := by decide
    simp only [List.length_cons, List.length_nil, Nat.zero_add, Nat.reduceAdd, e, List.map_cons, List.map_nil, List.sum_cons, List.sum_nil]
    show lossAt _ x z + (lossAt _ y x + (lossAt _ z y + 0)) = a.loss i t y x + (a.loss i t z y + (a.loss i t x z + 0))
    rw [lossM_at a i t hx hz, lossM_at a i t hy hx, lossM_at a i t hz hy]
    omega
  | [x, y, z, u], _, _, h3 =>
    have hx := h3 x (by simp)
    have hy := h3 y (by simp)
    have hz := h3 z (by simp)
    have hu := h3 u (by simp)
    have e : List.range 4 = [0, 1, 2, 3] := by decide
    simp only [List.length_cons, List.length_nil, Nat.zero_add, Nat.reduceAdd, e, List.map_cons, List.map_nil, List.sum_cons, List.sum_nil]
    show lossAt _ x u + (lossAt _ y x + (lossAt _ z y + (lossAt _ u z + 0))) = a.loss i t y x + (a.loss i t z y + (a.loss i t u z + (a.loss i t x u + 0)))
    rw [lossM_at a i t hx hu, lossM_at a i t hy hx, lossM_at a i t hz hy, lossM_at a i t hu hz]
    omega
def negB (M : List (List Int)) (c : List Nat) : Bool := decide (cycSum M c < 0)
theorem cyc_mem {c most : Nat} (hc : c ≤ 4) (hm : most = 4 ∨ most = 2) {p : List Nat} (h : p ∈ cyc c most) : p ∈ cycN c := by
  rcases hm with rfl | rfl
  · rw [cyc4_all c (by omega)] at h
    exact h
  · rw [cyc2_all c (by omega)] at h
    exact (List.mem_filter.mp h).1
theorem cycles_eq (a : Instance) (i : Nat) : a.cycles i = cycN (a.typeCount i) := rfl
theorem find_congr {α : Type} {p q : α → Bool} : ∀ {l : List α}, (∀ x ∈ l, p x = q x) → l.find? p = l.find? q
  | [], _ => rfl
  | x :: r, h => by
    have e := h x (List.mem_cons_self ..)
    have ih := find_congr (l := r) fun y hy => h y (List.mem_cons_of_mem _ hy)
    rw [List.find?_cons, List.find?_cons, e, ih]
theorem neg4 {a : Instance} (h : WF a) (i : Nat) (t : List Nat) : (cyc (a.typeCount i) 4).find? (negB (lossM a i t)) = a.negativeCycle i t := by
  have hc := count_le h i
  rw [cyc4_all _ (by omega)]
  exact find_congr fun x hx => by
    unfold negB
    rw [cycSum_is hx hc]
theorem neg2 {a : Instance} (h : WF a) (i : Nat) (t : List Nat) : (cyc (a.typeCount i) 2).find? (negB (lossM a i t)) = ((a.cycles i).filter fun r => r.length == 2).find? fun r => decide (a.cycleLength i t r < 0) := by
  have hc := count_le h i
  rw [cyc2_all _ (by omega)]
  exact find_congr fun x hx => by
    unfold negB
    rw [cycSum_is (List.mem_filter.mp hx).1 hc]
def viol (a : Instance) (most : Nat) : Option (Nat × List Nat × List Nat) := a.agents.findSome? fun i => (a.baseProfiles i).findSome? fun t => ((cyc (a.typeCount i) most).find? (negB (lossM a i t))).map fun r => (i, t, r)
theorem viol4 {a : Instance} (h : WF a) : viol a 4 = a.cyclicViolation := by
  unfold viol Instance.cyclicViolation
  congr 1
  funext i
  congr 1
  funext t
  rw [neg4 h]
theorem viol2 {a : Instance} (h : WF a) : viol a 2 = a.weakViolation := by
  unfold viol Instance.weakViolation
  congr 1
  funext i
  congr 1
  funext t
  rw [neg2 h]
theorem find_here {α : Type} {p : α → Bool} {l : List α} {i : Nat} {x : α} (h : l[i]? = some x) (h0 : (l.take i).find? p = none) (hp : p x = true) : l.find? p = some x := by
  have e : l = l.take i ++ l.drop i := (List.take_append_drop i l).symm
  have e2 : l.drop i = x :: l.drop (i + 1) := by
    obtain ⟨hi, rfl⟩ := List.getElem?_eq_some_iff.mp h
    exact List.drop_eq_getElem_cons hi
  rw [e, List.find?_append, h0, e2, List.find?_cons, hp]
  rfl
theorem find_on {α : Type} {p : α → Bool} {l : List α} {i : Nat} {x : α} (h : l[i]? = some x) (h0 : (l.take i).find? p = none) (hp : p x = false) : (l.take (i + 1)).find? p = none := by
  rw [List.take_add_one, h, List.find?_append, h0]
  show ([x].find? p) = none
  rw [List.find?_cons, hp]
  rfl
theorem some_here {α β : Type} {f : α → Option β} {l : List α} {i : Nat} {x : α} {y : β} (h : l[i]? = some x) (h0 : (l.take i).findSome? f = none) (hp : f x = some y) : l.findSome? f = some y := by
  have e : l = l.take i ++ l.drop i := (List.take_append_drop i l).symm
  have e2 : l.drop i = x :: l.drop (i + 1) := by
    obtain ⟨hi, rfl⟩ := List.getElem?_eq_some_iff.mp h
    exact List.drop_eq_getElem_cons hi
  rw [e, List.findSome?_append, h0, e2, List.findSome?_cons, hp]
  rfl
theorem some_on {α β : Type} {f : α → Option β} {l : List α} {i : Nat} {x : α} (h : l[i]? = some x) (h0 : (l.take i).findSome? f = none) (hp : f x = none) : (l.take (i + 1)).findSome? f = none := by
  rw [List.take_add_one, h, List.findSome?_append, h0]
  show ([x].findSome? f) = none
  rw [List.findSome?_cons, hp]
  rfl
theorem filter_ix {p : List Nat → Bool} (l : List (List Nat)) : l.filter p = ((List.range l.length).filter fun i => p (l.getD i [])).map fun i => l.getD i [] := by
  have e : l = (List.range l.length).map fun i => l.getD i [] := by
    apply List.ext_getElem?
    intro i
    by_cases c : i < l.length
    · rw [List.getElem?_map, List.getElem?_range c]
      exact at_getD [] c
    · rw [List.getElem?_eq_none (by omega), List.getElem?_eq_none (by simp; omega)]
  have e2 : l.filter p = ((List.range l.length).map fun i => l.getD i []).filter p := by rw [← e]
  rw [e2, List.filter_map]
  rfl
theorem base_mem {a : Instance} (h : WF a) {i : Nat} {t : List Nat} (ht : t ∈ a.baseProfiles i) : IsP a t := by
  unfold Instance.baseProfiles at ht
  exact prof_mem h (List.mem_filter.mp ht).1
/-! ## truthful payments -/
def trB (M : List (List Int)) (ps : List Int) : Bool := (List.range M.length).all fun k => (List.range M.length).all fun l => decide (ps.getD k 0 - ps.getD l 0 ≤ lossAt M k l)
theorem trB_is (a : Instance) (i : Nat) (t : List Nat) (ps : List Int) : trB (lossM a i t) ps = a.areTruthful i t ps := by
  unfold trB Instance.areTruthful
  rw [(lossM_sq a i t).len]
  rw [Bool.eq_iff_iff, List.all_eq_true, List.all_eq_true]
  constructor
  · intro h k hk
    have h1 := h k hk
    rw [List.all_eq_true] at h1 ⊢
    intro l hl
    have h2 := h1 l hl
    rw [lossM_at a i t (List.mem_range.mp hk) (List.mem_range.mp hl)] at h2
    exact h2
  · intro h k hk
    have h1 := h k hk
    rw [List.all_eq_true] at h1 ⊢
    intro l hl
    have h2 := h1 l hl
    rw [lossM_at a i t (List.mem_range.mp hk) (List.mem_range.mp hl)]
    exact h2
/-! ## distances -/
def minI (x y : Int) : Int := if y < x then y else x
def shortL (h : Int) (xs ys : List Int) : List Int := (List.range xs.length).map fun j => minI (xs.getD j 0) (h + ys.getD j 0)
def fw0 (M : List (List Int)) : List (List Int) := (List.range M.length).map fun s => (List.range M.length).map fun y => lossAt M y s
def fwStep (d : List (List Int)) (m : Nat) : List (List Int) := (List.range d.length).map fun k => shortL (lossAt d k m) (d.getD k []) (d.getD m [])
def fwU (M : List (List Int)) : Nat → List (List Int)
  | 0 => fw0 M
  | m + 1 => fwStep (fwU M m) m
def fw (M : List (List Int)) : List (List Int) := fwU M M.length
theorem fw0_sq {M : List (List Int)} {n : Nat} (h : Sq M n) : Sq (fw0 M) n := by
  refine ⟨by unfold fw0; rw [List.length_map, List.length_range, h.len], fun r hr => ?_⟩
  unfold fw0 at hr
  obtain ⟨k, _, rfl⟩ := List.mem_map.mp hr
  rw [List.length_map, List.length_range, h.len]
theorem fwStep_sq {d : List (List Int)} {n m : Nat} (h : Sq d n) : Sq (fwStep d m) n := by
  refine ⟨by unfold fwStep; rw [List.length_map, List.length_range, h.len], fun r hr => ?_⟩
  unfold fwStep at hr
  obtain ⟨k, hk, rfl⟩ := List.mem_map.mp hr
  unfold shortL
  rw [List.length_map, List.length_range]
  exact h.rowlen (by rw [← h.len]; exact List.mem_range.mp hk)
theorem fwU_sq {M : List (List Int)} {n : Nat} (h : Sq M n) : ∀ m, Sq (fwU M m) n
  | 0 => fw0_sq h
  | m + 1 => fwStep_sq (fwU_sq h m)
theorem fw0_at {M : List (List Int)} {n k l : Nat} (h : Sq M n) (hk : k < n) (hl : l < n) : lossAt (fw0 M) k l = lossAt M l k := by
  have h1 := (fw0_sq h).at2 hk hl
  have h2 := (fw0_sq h).at hk
  have e : (fw0 M)[k]? = some ((List.range M.length).map fun y => lossAt M y k) := by
    unfold fw0
    rw [List.getElem?_map, List.getElem?_range (by rw [h.len]; exact hk)]
    rfl
  rw [e] at h2
  rw [← Option.some.inj h2, List.getElem?_map, List.getElem?_range (by rw [h.len]; exact hl)] at h1
  exact (Option.some.inj h1).symm
theorem fwStep_row {d : List (List Int)} {n m k : Nat} (h : Sq d n) (hk : k < n) : (fwStep d m)[k]? = some (shortL (lossAt d k m) (d.getD k []) (d.getD m [])) := by
  unfold fwStep
  rw [List.getElem?_map, List.getElem?_range (by rw [h.len]; exact hk)]
  rfl
theorem fwStep_at {d : List (List Int)} {n m k l : Nat} (h : Sq d n) (hk : k < n) (hl : l < n) : lossAt (fwStep d m) k l = minI (lossAt d k l) (lossAt d k m + lossAt d m l) := by
  have h1 := (fwStep_sq (m := m) h).at2 hk hl
  have h2 := (fwStep_sq (m := m) h).at hk
  rw [fwStep_row h hk] at h2
  rw [← Option.some.inj h2] at h1
  unfold shortL at h1
  rw [List.getElem?_map, List.getElem?_range (by rw [h.rowlen hk]; exact hl)] at h1
  exact (Option.some.inj h1).symm
end Tp

namespace Tp
open Su196
/-! # Distances: the mathematics of walks -/
def wl (e : Nat → Nat → Int) : Nat → List Nat → Int
  | _, [] => 0
  | k, x :: r => e k x + wl e x r
def wend : Nat → List Nat → Nat
  | k, [] => k
  | _, x :: r => wend x r
theorem nil_or_snoc (q : List Nat) : q = [] ∨ ∃ r l, q = r ++ [l] := by
  rcases List.eq_nil_or_concat q with h | ⟨r, l, h⟩
  · exact Or.inl h
  · exact Or.inr ⟨r, l, by rw [h, List.concat_eq_append]⟩
theorem wend_app : ∀ (p : List Nat) (k : Nat) (q : List Nat), wend k (p ++ q) = wend (wend k p) q
  | [], _, _ => rfl
  | x :: r, _, q => wend_app r x q
theorem wl_app (e : Nat → Nat → Int) : ∀ (p : List Nat) (k : Nat) (q : List Nat), wl e k (p ++ q) = wl e k p + wl e (wend k p) q
  | [], k, q => by
    show wl e k q = 0 + wl e k q
    omega
  | x :: r, k, q => by
    show e k x + wl e x (r ++ q) = e k x + wl e x r + wl e (wend x r) q
    rw [wl_app e r x q]
    omega
theorem wend_mem : ∀ (p : List Nat) (k : Nat), wend k p ∈ k :: p
  | [], _ => List.mem_cons_self ..
  | x :: r, k => List.mem_cons_of_mem k (wend_mem r x)
theorem wl_split (e : Nat → Nat → Int) (u : List Nat) (k m : Nat) (v : List Nat) : wl e k (u ++ m :: v) = wl e k (u ++ [m]) + wl e m v := by
  have h : u ++ m :: v = (u ++ [m]) ++ v := by simp
  rw [h, wl_app e (u ++ [m]) k v, wend_app]
  rfl
def NoNeg (n : Nat) (e : Nat → Nat → Int) : Prop := ∀ k r, (k :: r).Nodup → (∀ x ∈ k :: r, x < n) → 0 ≤ wl e k (r ++ [k])
theorem simple_walk {n : Nat} {e : Nat → Nat → Int} (hC : NoNeg n e) : ∀ (p : List Nat) (k : Nat), (∀ x ∈ k :: p, x < n) → ∃ q, (k :: q).Nodup ∧ (∀ x ∈ k :: q, x < n) ∧ wend k q = wend k p ∧ wl e k q ≤ wl e k p
  | [], k, h => ⟨[], by simp, h, rfl, Int.le_refl _⟩
  | x :: r, k, h => by
    obtain ⟨q, h1, h2, h3, h4⟩ := simple_walk hC r x fun y hy => h y (List.mem_cons_of_mem _ hy)
    have hk := h k (List.mem_cons_self ..)
    by_cases c : k ∈ x :: q
    · obtain ⟨u, v, e2⟩ := List.append_of_mem c
      have hn : (u ++ k :: v).Nodup := e2 ▸ h1
      have hb : ∀ y ∈ u ++ k :: v, y < n := fun y hy => h2 y (e2 ▸ hy)
      obtain ⟨n1, n2, n3⟩ := List.nodup_append.mp hn
      have hu : (k :: u).Nodup := List.nodup_cons.mpr ⟨fun hm => n3 k hm k (List.mem_cons_self ..) rfl, n1⟩
      have hc := hC k u hu fun y hy => by
        rcases List.mem_cons.mp hy with rfl | hy
        · exact hk
        · exact hb y (List.mem_append_left _ hy)
      have hw : wl e k (x :: q) = wl e k (u ++ [k]) + wl e k v := by rw [e2, wl_split]
      have hw2 : wl e k (x :: q) = e k x + wl e x q := rfl
      have hend : wend k v = wend x q := by
        have z : wend k (x :: q) = wend k (u ++ k :: v) := by rw [e2]
        rw [wend_app] at z
        exact z.symm
      refine ⟨v, n2, fun y hy => hb y (List.mem_append_right _ hy), hend.trans h3, ?_⟩
      show wl e k v ≤ e k x + wl e x r
      omega
    · refine ⟨x :: q, List.nodup_cons.mpr ⟨c, h1⟩, fun y hy => ?_, h3, ?_⟩
      · rcases List.mem_cons.mp hy with rfl | hy
        · exact hk
        · exact h2 y hy
      · show e k x + wl e x q ≤ e k x + wl e x r
        omega
theorem nodup_lt : ∀ (n : Nat) (l : List Nat), l.Nodup → (∀ x ∈ l, x < n) → l.length ≤ n
  | 0, l, _, h => by
    cases l with
    | nil => exact Nat.le_refl _
    | cons x r => exact absurd (h x (List.mem_cons_self ..)) (Nat.not_lt_zero _)
  | n + 1, l, hd, h => by
    have ih := nodup_lt n (l.erase n) (hd.erase n) fun x hx => by
      obtain ⟨h1, h2⟩ := (hd.mem_erase_iff).mp hx
      have := h x h2
      omega
    have := List.length_erase (a := n) (l := l)
    rw [this] at ih
    split at ih <;> omega
/-! ## the program's: by middles -/
def fwD (e : Nat → Nat → Int) : Nat → Nat → Nat → Int
  | 0, k, l => e k l
  | m + 1, k, l => minI (fwD e m k l) (fwD e m k m + fwD e m m l)
theorem minI_left (x y : Int) : minI x y ≤ x := by
  unfold minI
  split <;> omega
theorem minI_right (x y : Int) : minI x y ≤ y := by
  unfold minI
  split <;> omega
theorem fwD_walk (e : Nat → Nat → Int) (n : Nat) : ∀ m, m ≤ n → ∀ k l, k < n → l < n → ∃ p, (∀ x ∈ k :: p, x < n) ∧ wend k p = l ∧ wl e k p = fwD e m k l
  | 0, _, k, l, hk, hl => ⟨[l], by
      intro x hx
      simp at hx
      rcases hx with rfl | rfl <;> assumption, rfl, by
      show e k l + 0 = e k l
      omega⟩
  | m + 1, hm, k, l, hk, hl => by
    by_cases c : fwD e m k m + fwD e m m l < fwD e m k l
    · obtain ⟨p, p1, p2, p3⟩ := fwD_walk e n m (by omega) k m hk (by omega)
      obtain ⟨q, q1, q2, q3⟩ := fwD_walk e n m (by omega) m l (by omega) hl
      refine ⟨p ++ q, fun x hx => ?_, by rw [wend_app, p2, q2], ?_⟩
      · rcases List.mem_cons.mp hx with rfl | hx
        · exact hk
        · rcases List.mem_append.mp hx with hx | hx
          · exact p1 x (List.mem_cons_of_mem _ hx)
          · exact q1 x (List.mem_cons_of_mem _ hx)
      · rw [wl_app, p2, p3, q3]
        show _ = minI _ _
        unfold minI
        rw [if_pos c]
    · obtain ⟨p, p1, p2, p3⟩ := fwD_walk e n m (by omega) k l hk hl
      refine ⟨p, p1, p2, ?_⟩
      rw [p3]
      show _ = minI _ _
      unfold minI
      rw [if_neg c]
theorem fwD_le (e : Nat → Nat → Int) : ∀ (m : Nat) (p : List Nat) (k l : Nat), (∀ x ∈ p, x < m) → p.Nodup → fwD e m k l ≤ wl e k (p ++ [l])
  | 0, p, k, l, h, _ => by
    cases p with
    | nil =>
      show e k l ≤ e k l + 0
      omega
    | cons x r => exact absurd (h x (List.mem_cons_self ..)) (Nat.not_lt_zero _)
  | m + 1, p, k, l, h, hd => by
    show minI _ _ ≤ _
    by_cases c : m ∈ p
    · obtain ⟨u, v, e2⟩ := List.append_of_mem c
      subst e2
      obtain ⟨n1, n2, n3⟩ := List.nodup_append.mp hd
      obtain ⟨n4, n5⟩ := List.nodup_cons.mp n2
      have hu : ∀ x ∈ u, x < m := fun x hx => by
        have h1 := h x (List.mem_append_left _ hx)
        have h2 := n3 x hx m (List.mem_cons_self ..)
        omega
      have hv : ∀ x ∈ v, x < m := fun x hx => by
        have h1 := h x (List.mem_append_right _ (List.mem_cons_of_mem _ hx))
        have h2 : x ≠ m := fun z => n4 (z ▸ hx)
        omega
      have i1 := fwD_le e m u k m hu n1
      have i2 := fwD_le e m v m l hv n5
      have e3 : u ++ m :: v ++ [l] = u ++ m :: (v ++ [l]) := by simp
      rw [e3, wl_split]
      have := minI_right (fwD e m k l) (fwD e m k m + fwD e m m l)
      omega
    · have i1 := fwD_le e m p k l (fun x hx => by
        have h1 := h x hx
        have h2 : x ≠ m := fun z => c (z ▸ hx)
        omega) hd
      have := minI_left (fwD e m k l) (fwD e m k m + fwD e m m l)
      omega
theorem fwD_simple {e : Nat → Nat → Int} {n : Nat} (h0 : ∀ k, e k k = 0) {k : Nat} {q : List Nat} (hd : (k :: q).Nodup) (hb : ∀ x ∈ k :: q, x < n) : fwD e n k (wend k q) ≤ wl e k q := by
  rcases nil_or_snoc q with rfl | ⟨r, l, rfl⟩
  · have h := fwD_le e n [] k k (by intro x hx; simp at hx) (by simp)
    show fwD e n k k ≤ 0
    have h2 : wl e k ([] ++ [k]) = e k k + 0 := rfl
    rw [h2, h0] at h
    omega
  · rw [wend_app]
    have hd2 := (List.nodup_cons.mp hd).2
    exact fwD_le e n r k l (fun x hx => hb x (List.mem_cons_of_mem _ (List.mem_append_left _ hx))) (List.nodup_append.mp hd2).1
/-! ## the document's: by steps -/
def stepW (g : Nat → Option Int) (b : Option Int) (x : Nat) : Option Int := match g x, b with
  | some v, some w => some (minInt w v)
  | some v, none => some v
  | none, b => b
theorem minInt_cases (x y : Int) : (minInt x y = x ∧ x ≤ y) ∨ (minInt x y = y ∧ y ≤ x) := by
  unfold minInt
  split
  · exact Or.inr ⟨rfl, by omega⟩
  · exact Or.inl ⟨rfl, by omega⟩
theorem stepW_low {g : Nat → Option Int} {b : Option Int} {x : Nat} {w : Int} (h : b = some w ∨ g x = some w) : ∃ v, stepW g b x = some v ∧ v ≤ w := by
  unfold stepW
  cases hg : g x with
  | none =>
    rw [hg] at h
    rcases h with h | h
    · exact ⟨w, h, Int.le_refl _⟩
    · cases h
  | some v =>
    cases b with
    | none =>
      rw [hg] at h
      rcases h with h | h
      · cases h
      · cases h
        exact ⟨_, rfl, Int.le_refl _⟩
    | some u =>
      refine ⟨_, rfl, ?_⟩
      rw [hg] at h
      rcases minInt_cases u v with ⟨z1, z2⟩ | ⟨z1, z2⟩
      · rw [z1]
        rcases h with h | h
        · cases h
          omega
        · cases h
          omega
      · rw [z1]
        rcases h with h | h
        · cases h
          omega
        · cases h
          omega
theorem stepW_from {g : Nat → Option Int} {b : Option Int} {x : Nat} {v : Int} (h : stepW g b x = some v) : b = some v ∨ g x = some v := by
  unfold stepW at h
  cases hg : g x with
  | none =>
    rw [hg] at h
    exact Or.inl h
  | some u =>
    rw [hg] at h
    cases b with
    | none => exact Or.inr h
    | some w =>
      have h2 : minInt w u = v := Option.some.inj h
      rcases minInt_cases w u with ⟨z1, _⟩ | ⟨z1, _⟩
      · exact Or.inl (by rw [← h2, z1])
      · exact Or.inr (by rw [← h2, z1])
theorem foldW_low (g : Nat → Option Int) : ∀ (L : List Nat) (b : Option Int) (w : Int), (b = some w ∨ ∃ x ∈ L, g x = some w) → ∃ v, L.foldl (stepW g) b = some v ∧ v ≤ w
  | [], b, w, h => by
    rcases h with h | ⟨x, hx, _⟩
    · exact ⟨w, h, Int.le_refl _⟩
    · simp at hx
  | y :: r, b, w, h => by
    rw [List.foldl_cons]
    rcases h with h | ⟨x, hx, h⟩
    · obtain ⟨v, h1, h2⟩ := stepW_low (g := g) (x := y) (Or.inl h)
      obtain ⟨v2, h3, h4⟩ := foldW_low g r _ v (Or.inl h1)
      exact ⟨v2, h3, by omega⟩
    · rcases List.mem_cons.mp hx with rfl | hx
      · obtain ⟨v, h1, h2⟩ := stepW_low (g := g) (b := b) (Or.inr h)
        obtain ⟨v2, h3, h4⟩ := foldW_low g r _ v (Or.inl h1)
        exact ⟨v2, h3, by omega⟩
      · exact foldW_low g r _ w (Or.inr ⟨x, hx, h⟩)
theorem foldW_from (g : Nat → Option Int) : ∀ (L : List Nat) (b : Option Int) (v : Int), L.foldl (stepW g) b = some v → b = some v ∨ ∃ x ∈ L, g x = some v
  | [], b, v, h => Or.inl h
  | y :: r, b, v, h => by
    rw [List.foldl_cons] at h
    rcases foldW_from g r _ v h with h | ⟨x, hx, h⟩
    · rcases stepW_from h with h | h
      · exact Or.inl h
      · exact Or.inr ⟨y, List.mem_cons_self .., h⟩
    · exact Or.inr ⟨x, List.mem_cons_of_mem _ hx, h⟩
def edge (a : Instance) (i : Nat) (t : List Nat) (x y : Nat) : Int := a.loss i t y x
theorem walk_succ (a : Instance) (i : Nat) (t : List Nat) (s k l : Nat) : a.shortestWalk i t (s + 1) k l = (List.range (a.typeCount i)).foldl (stepW fun x => (a.shortestWalk i t s k x).map fun v => v + a.loss i t l x) (a.shortestWalk i t s k l) := by
  rw [Instance.shortestWalk]
  congr 1
  funext b x
  unfold stepW
  show _ = (match Option.map (fun v => v + a.loss i t l x) (a.shortestWalk i t s k x), b with
    | some v, some w => some (minInt w v)
    | some v, none => some v
    | none, b => b)
  cases a.shortestWalk i t s k x <;> cases b <;> rfl
theorem walk_from (a : Instance) (i : Nat) (t : List Nat) : ∀ (s k l : Nat) (v : Int), k < a.typeCount i → l < a.typeCount i → a.shortestWalk i t s k l = some v → ∃ p, (∀ x ∈ k :: p, x < a.typeCount i) ∧ wend k p = l ∧ wl (edge a i t) k p = v
  | 0, k, l, v, hk, hl, h => by
    rw [Instance.shortestWalk] at h
    by_cases c : k = l
    · rw [if_pos c] at h
      cases h
      exact ⟨[], by intro x hx; simp at hx; omega, c, rfl⟩
    · rw [if_neg c] at h
      cases h
  | s + 1, k, l, v, hk, hl, h => by
    rw [walk_succ] at h
    rcases foldW_from _ _ _ _ h with h | ⟨x, hx, h⟩
    · exact walk_from a i t s k l v hk hl h
    · have hx2 := List.mem_range.mp hx
      cases hw : a.shortestWalk i t s k x with
      | none =>
        rw [hw] at h
        cases h
      | some u =>
        rw [hw] at h
        have h2 : u + a.loss i t l x = v := Option.some.inj h
        obtain ⟨p, p1, p2, p3⟩ := walk_from a i t s k x u hk hx2 hw
        refine ⟨p ++ [l], fun y hy => ?_, by rw [wend_app]; rfl, ?_⟩
        · rcases List.mem_cons.mp hy with rfl | hy
          · exact hk
          · rcases List.mem_append.mp hy with hy | hy
            · exact p1 y (List.mem_cons_of_mem _ hy)
            · simp at hy
              omega
        · rw [wl_app, p2, p3]
          show u + (a.loss i t l x + 0) = v
          omega
theorem walk_le (a : Instance) (i : Nat) (t : List Nat) : ∀ (s : Nat) (p : List Nat) (k : Nat), p.length ≤ s → (∀ x ∈ k :: p, x < a.typeCount i) → ∃ v, a.shortestWalk i t s k (wend k p) = some v ∧ v ≤ wl (edge a i t) k p
  | 0, p, k, hp, h => by
    have e : p = [] := List.eq_nil_of_length_eq_zero (by omega)
    subst e
    refine ⟨0, ?_, Int.le_refl _⟩
    rw [Instance.shortestWalk]
    exact if_pos rfl
  | s + 1, p, k, hp, h => by
    rw [walk_succ]
    by_cases c : p.length ≤ s
    · obtain ⟨v, h1, h2⟩ := walk_le a i t s p k c h
      obtain ⟨u, h3, h4⟩ := foldW_low (fun x => (a.shortestWalk i t s k x).map fun v => v + a.loss i t (wend k p) x) (List.range (a.typeCount i)) _ v (Or.inl h1)
      exact ⟨u, h3, by omega⟩
    · rcases nil_or_snoc p with rfl | ⟨r, l, rfl⟩
      · simp at c
      · have hr : r.length ≤ s := by
          rw [List.length_append] at hp
          have : ([l] : List Nat).length = 1 := rfl
          omega
        have hb : ∀ x ∈ k :: r, x < a.typeCount i := fun x hx => by
          rcases List.mem_cons.mp hx with rfl | hx
          · exact h _ (List.mem_cons_self ..)
          · exact h _ (List.mem_cons_of_mem _ (List.mem_append_left _ hx))
        obtain ⟨v, h1, h2⟩ := walk_le a i t s r k hr hb
        have hw : wend k r < a.typeCount i := hb _ (wend_mem r k)
        have el : wend k (r ++ [l]) = l := by
          rw [wend_app]
          rfl
        rw [el]
        obtain ⟨u, h3, h4⟩ := foldW_low (fun x => (a.shortestWalk i t s k x).map fun v => v + a.loss i t l x) (List.range (a.typeCount i)) (a.shortestWalk i t s k l) (v + a.loss i t l (wend k r)) (Or.inr ⟨wend k r, List.mem_range.mpr hw, by rw [h1]; rfl⟩)
        refine ⟨u, h3, ?_⟩
        rw [wl_app]
        show u ≤ wl (edge a i t) k r + (a.loss i t l (wend k r) + 0)
        omega
theorem loss_self (a : Instance) (i : Nat) (t : List Nat) (k : Nat) : a.loss i t k k = 0 := by
  unfold Instance.loss
  omega
theorem dist_D {a : Instance} {i : Nat} {t : List Nat} (hC : NoNeg (a.typeCount i) (edge a i t)) {k l : Nat} (hk : k < a.typeCount i) (hl : l < a.typeCount i) : a.distance i t k l = fwD (edge a i t) (a.typeCount i) k l := by
  obtain ⟨p, p1, p2, p3⟩ := fwD_walk (edge a i t) (a.typeCount i) (a.typeCount i) (Nat.le_refl _) k l hk hl
  obtain ⟨q, q1, q2, q3, q4⟩ := simple_walk hC p k p1
  have ql := nodup_lt _ _ q1 q2
  rw [List.length_cons] at ql
  obtain ⟨v, h1, h2⟩ := walk_le a i t (a.typeCount i - 1) q k (by omega) q2
  rw [q3, p2] at h1
  obtain ⟨r, r1, r2, r3⟩ := walk_from a i t _ k l v hk hl h1
  obtain ⟨z, z1, z2, z3, z4⟩ := simple_walk hC r k r1
  have hz := fwD_simple (e := edge a i t) (fun x => loss_self a i t x) z1 z2
  rw [z3, r2] at hz
  unfold Instance.distance
  rw [h1]
  show v = _
  omega
/-! ## no cycle among the listed ones is negative: none is -/
def rotB (n : Nat) (c : List Nat) : Bool := decide (¬ c.Nodup) || (List.range c.length).any fun j => decide (c.drop j ++ c.take j ∈ cycN n)
def rotAll2 (n : Nat) : Bool := (List.range n).all fun x => (List.range n).all fun y => rotB n [x, y]
def rotAll3 (n : Nat) : Bool := (List.range n).all fun x => (List.range n).all fun y => (List.range n).all fun z => rotB n [x, y, z]
def rotAll4 (n : Nat) : Bool := (List.range n).all fun x => (List.range n).all fun y => (List.range n).all fun z => (List.range n).all fun u => rotB n [x, y, z, u]
theorem rotAll_ok : (List.range 5).all (fun n => rotAll2 n && rotAll3 n && rotAll4 n) = true := by decide +kernel
theorem rotB_of {n : Nat} {c : List Nat} (h : rotB n c = true) (hd : c.Nodup) : ∃ j, j < c.length ∧ c.drop j ++ c.take j ∈ cycN n := by
  unfold rotB at h
  rw [Bool.or_eq_true] at h
  rcases h with h | h
  · exact absurd hd (of_decide_eq_true h)
  · obtain ⟨j, hj, h2⟩ := List.any_eq_true.mp h
    exact ⟨j, List.mem_range.mp hj, of_decide_eq_true h2⟩
theorem rot_all {n : Nat} (h : n < 5) : (rotAll2 n = true ∧ rotAll3 n = true) ∧ rotAll4 n = true := by
  have := List.all_eq_true.mp rotAll_ok n (List.mem_range.mpr h)
  simpa only [Bool.and_eq_true] using this
theorem rot2 {n : Nat} (h : n < 5) {x y : Nat} (hx : x < n) (hy : y < n) (hd : [x, y].Nodup) : [x, y] ∈ cycN n ∨ [y, x] ∈ cycN n := by
  have h1 := (rot_all h).1.1
  unfold rotAll2 at h1
  have h2 := List.all_eq_true.mp (List.all_eq_true.mp h1 x (List.mem_range.mpr hx)) y (List.mem_range.mpr hy)
  obtain ⟨j, hj, h3⟩ := rotB_of h2 hd
  match j, hj, h3 with
  | 0, _, h3 => exact Or.inl h3
  | 1, _, h3 => exact Or.inr h3
  | j + 2, hj, _ => exact absurd hj (by simp)
theorem rot3 {n : Nat} (h : n < 5) {x y z : Nat} (hx : x < n) (hy : y < n) (hz : z < n) (hd : [x, y, z].Nodup) : [x, y, z] ∈ cycN n ∨ [y, z, x] ∈ cycN n ∨ [z, x, y] ∈ cycN n := by
  have h1 := (rot_all h).1.2
  unfold rotAll3 at h1
  have h2 := List.all_eq_true.mp (List.all_eq_true.mp (List.all_eq_true.mp h1 x (List.mem_range.mpr hx)) y (List.mem_range.mpr hy)) z (List.mem_range.mpr hz)
  obtain ⟨j, hj, h3⟩ := rotB_of h2 hd
  match j, hj, h3 with
  | 0, _, h3 => exact Or.inl h3
  | 1, _, h3 => exact Or.inr (Or.inl h3)
  | 2, _, h3 => exact Or.inr (Or.inr h3)
  | j + 3, hj, _ => exact absurd hj (by simp)
theorem rot4 {n : Nat} (h : n < 5) {x y z u : Nat} (hx : x < n) (hy : y < n) (hz : z < n) (hu : u < n) (hd : [x, y, z, u].Nodup) : [x, y, z, u] ∈ cycN n ∨ [y, z, u, x] ∈ cycN n ∨ [z, u, x, y] ∈ cycN n ∨ [u, x, y, z] ∈ cycN n := by
  have h1 := (rot_all h).2
  unfold rotAll4 at h1
  have h2 := List.all_eq_true.mp (List.all_eq_true.mp (List.all_eq_true.mp (List.all_eq_true.mp h1 x (List.mem_range.mpr hx)) y (List.mem_range.mpr hy)) z (List.mem_range.mpr hz)) u (List.mem_range.mpr hu)
  obtain ⟨j, hj, h3⟩ := rotB_of h2 hd
  match j, hj, h3 with
  | 0, _, h3 => exact Or.inl h3
  | 1, _, h3 => exact Or.inr (Or.inl h3)
  | 2, _, h3 => exact Or.inr (Or.inr (Or.inl h3))
  | 3, _, h3 => exact Or.inr (Or.inr (Or.inr h3))
  | j + 4, hj, _ => exact absurd hj (by simp)
theorem cl2 (a : Instance) (i : Nat) (t : List Nat) (x y : Nat) : a.cycleLength i t [x, y] = a.loss i t y x + a.loss i t x y := by
  unfold Instance.cycleLength
  have e : List.range 2 = [0, 1] := by decide
  simp only [List.length_cons, List.length_nil, Nat.zero_add, Nat.reduceAdd, e, List.map_cons, List.map_nil, List.sum_cons, List.sum_nil]
  show a.loss i t y x + (a.loss i t x y + 0) = _
  omega
theorem cl3 (a : Instance) (i : Nat) (t : List Nat) (x y z : Nat) : a.cycleLength i t [x, y, z] = a.loss i t y x + a.loss i t z y + a.loss i t x z := by
  unfold Instance.cycleLength
  have e : List.range 3 = [0, 1, 2] := by decide
  simp only [List.length_cons, List.length_nil, Nat.zero_add, Nat.reduceAdd, e, List.map_cons, List.map_nil, List.sum_cons, List.sum_nil]
  show a.loss i t y x + (a.loss i t z y + (a.loss i t x z + 0)) = _
  omega
theorem cl4 (a : Instance) (i : Nat) (t : List Nat) (x y z u : Nat) : a.cycleLength i t [x, y, z, u] = a.loss i t y x + a.loss i t z y + a.loss i t u z + a.loss i t x u := by
  unfold Instance.cycleLength
  have e : List.range 4 = [0, 1, 2, 3] := by decide
  simp only [List.length_cons, List.length_nil, Nat.zero_add, Nat.reduceAdd, e, List.map_cons, List.map_nil, List.sum_cons, List.sum_nil]
  show a.loss i t y x + (a.loss i t z y + (a.loss i t u z + (a.loss i t x u + 0))) = _
  omega
theorem noNeg_of {a : Instance} (h : WF a) {i : Nat} {t : List Nat} (hn : a.negativeCycle i t = none) : NoNeg (a.typeCount i) (edge a i t) := by
  have hc := count_le h i
  have hall : ∀ c ∈ cycN (a.typeCount i), 0 ≤ a.cycleLength i t c := fun c hm => by
    unfold Instance.negativeCycle at hn
    have := List.find?_eq_none.mp hn c hm
    simp at this
    exact this
  intro k r hd hb
  have hl := nodup_lt _ _ hd hb
  match r, hd, hb, hl with
  | [], _, _, _ =>
    show 0 ≤ a.loss i t k k + 0
    rw [loss_self]
    omega
  | [y], hd, hb, _ =>
    have hx := hb k (by simp)
    have hy := hb y (by simp)
    show 0 ≤ a.loss i t y k + (a.loss i t k y + 0)
    rcases rot2 (by omega) hx hy hd with z | z
    · have := hall _ z
      rw [cl2] at this
      omega
    · have := hall _ z
      rw [cl2] at this
      omega
  | [y, z], hd, hb, _ =>
    have hx := hb k (by simp)
    have hy := hb y (by simp)
    have hz := hb z (by simp)
    show 0 ≤ a.loss i t y k + (a.loss i t z y + (a.loss i t k z + 0))
    rcases rot3 (by omega) hx hy hz hd with w | w | w
    · have := hall _ w
      rw [cl3] at this
      omega
    · have := hall _ w
      rw [cl3] at this
      omega
    · have := hall _ w
      rw [cl3] at this
      omega
  | [y, z, u], hd, hb, _ =>
    have hx := hb k (by simp)
    have hy := hb y (by simp)
    have hz := hb z (by simp)
    have hu := hb u (by simp)
    show 0 ≤ a.loss i t y k + (a.loss i t z y + (a.loss i t u z + (a.loss i t k u + 0)))
    rcases rot4 (by omega) hx hy hz hu hd with w | w | w | w
    · have := hall _ w
      rw [cl4] at this
      omega
    · have := hall _ w
      rw [cl4] at this
      omega
    · have := hall _ w
      rw [cl4] at this
      omega
    · have := hall _ w
      rw [cl4] at this
      omega
  | y :: z :: u :: v :: r, _, _, hl =>
    simp at hl
    omega
theorem fwU_is {a : Instance} {i : Nat} {t : List Nat} : ∀ m, m ≤ a.typeCount i → ∀ k l, k < a.typeCount i → l < a.typeCount i → lossAt (fwU (lossM a i t) m) k l = fwD (edge a i t) m k l
  | 0, _, k, l, hk, hl => by
    show lossAt (fw0 _) k l = a.loss i t l k
    rw [fw0_at (lossM_sq a i t) hk hl, lossM_at a i t hl hk]
  | m + 1, hm, k, l, hk, hl => by
    show lossAt (fwStep _ m) k l = minI _ _
    rw [fwStep_at (fwU_sq (lossM_sq a i t) m) hk hl, fwU_is m (by omega) k l hk hl, fwU_is m (by omega) k m hk (by omega), fwU_is m (by omega) m l (by omega) hl]
theorem dist_is {a : Instance} (h : WF a) {i : Nat} {t : List Nat} (hn : a.negativeCycle i t = none) {k l : Nat} (hk : k < a.typeCount i) (hl : l < a.typeCount i) : lossAt (fw (lossM a i t)) k l = a.distance i t k l := by
  unfold fw
  rw [(lossM_sq a i t).len, fwU_is _ (Nat.le_refl _) k l hk hl, dist_D (noNeg_of h hn) hk hl]
end Tp

namespace Tp
open Su196
/-! # What a call answers -/
def res (r : Result) : List Int := r.value :: r.fields
def ansMono (o : Option (Nat × List Nat × List Nat)) : List Int := match o with
  | none => [1]
  | some z => 0 :: ((z.1 :: (z.2.1 ++ z.2.2)).map Int.ofNat)
theorem viol_some {a : Instance} {m i : Nat} {t c : List Nat} (h : viol a m = some (i, t, c)) : i < a.agentCount ∧ t ∈ a.baseProfiles i := by
  unfold viol at h
  obtain ⟨j, hj, h1⟩ := List.exists_of_findSome?_eq_some h
  obtain ⟨s, hs, h2⟩ := List.exists_of_findSome?_eq_some h1
  cases e : (cyc (a.typeCount j) m).find? (negB (lossM a j s)) with
  | none =>
    rw [e] at h2
    cases h2
  | some r =>
    rw [e] at h2
    have h3 : (j, s, r) = (i, t, c) := Option.some.inj h2
    cases h3
    exact ⟨List.mem_range.mp hj, hs⟩
theorem ansMono_is {a : Instance} (h : WF a) {m : Nat} : res (violationResult (viol a m) a.agentCount) = ansMono (viol a m) := by
  cases e : viol a m with
  | none => rfl
  | some z =>
    obtain ⟨i, t, c⟩ := z
    have ht := (base_mem h (viol_some e).2).1
    show res (ok 0 (toInts (i :: t.take a.agentCount ++ c))) = _
    rw [← ht, List.take_length]
    rfl
theorem mono4 {a : Instance} (h : WF a) (hr : a.isReady = true) : res (execute a .isCyclicallyMonotonic).2 = ansMono (viol a 4) := by
  rw [← ansMono_is h, viol4 h]
  simp only [execute]
  rw [if_neg (by rw [hr]; decide)]
theorem mono2 {a : Instance} (h : WF a) (hr : a.isReady = true) : res (execute a .isWeaklyMonotonic).2 = ansMono (viol a 2) := by
  rw [← ansMono_is h, viol2 h]
  simp only [execute]
  rw [if_neg (by rw [hr]; decide)]
def fitsB (xs : List Int) (c : Nat) (gr : Int) : Bool := decide (xs.length = c) && xs.all fun v => decide ((if v < 0 then -v else v) ≤ gr)
theorem fits_yes {xs : List Int} {c : Nat} {gr : Int} (h : fitsB xs c gr = true) : xs.length = c ∧ (∀ v ∈ xs, -gr ≤ v ∧ v ≤ gr) ∧ xs.any (fun v => decide (v < -gr) || decide (gr < v)) = false := by
  unfold fitsB at h
  rw [Bool.and_eq_true, decide_eq_true_eq, List.all_eq_true] at h
  have h2 : ∀ v ∈ xs, -gr ≤ v ∧ v ≤ gr := fun v hv => by
    have := of_decide_eq_true (h.2 v hv)
    split at this <;> omega
  refine ⟨h.1, h2, ?_⟩
  rw [List.any_eq_false]
  intro v hv
  have := h2 v hv
  simp
  omega
theorem fits_no {xs : List Int} {c : Nat} {gr : Int} (h : fitsB xs c gr = false) : xs.length ≠ c ∨ xs.any (fun v => decide (v < -gr) || decide (gr < v)) = true := by
  by_cases h1 : xs.length = c
  · right
    unfold fitsB at h
    rw [decide_eq_true h1, Bool.true_and, List.all_eq_false] at h
    obtain ⟨v, hv, h2⟩ := h
    rw [List.any_eq_true]
    refine ⟨v, hv, ?_⟩
    simp at h2 ⊢
    split at h2 <;> omega
  · exact Or.inl h1
theorem counts_is {a : Instance} (h : WF a) : (List.range a.agentCount).map a.typeCount = a.types.map List.length := by
  apply List.ext_getElem?
  intro i
  by_cases c : i < a.agentCount
  · rw [List.getElem?_map, List.getElem?_range c, List.getElem?_map, types_at h c]
    rfl
  · rw [List.getElem?_eq_none (by simp; omega), List.getElem?_eq_none (by simp; rw [h.tl]; omega)]
theorem ready_pos {a : Instance} (h : WF a) (hr : a.isReady = true) {i : Nat} (hi : i < a.agentCount) : 0 < a.typeCount i := by
  unfold Instance.isReady at hr
  have := List.all_eq_true.mp hr _ (List.mem_of_getElem? (types_at h hi))
  unfold Instance.typeCount
  apply List.length_pos_iff.mpr
  simpa [List.isEmpty_iff] using this
section
variable {a : Instance} {i l x : Nat} {t : List Nat} {ps : List Int}
theorem a_allocation (hr : a.isReady = true) : res (execute a (.allocation t)).2 = if a.isProfile t = true then [(a.allocated t : Int)] else [-22] := by
  simp only [execute]
  rw [if_neg (by rw [hr]; decide)]
  by_cases h : a.isProfile t = true
  · rw [if_neg (by rw [h]; decide), if_pos h]
    rfl
  · have h' : a.isProfile t = false := by simpa using h
    rw [if_pos h', if_neg h]
    rfl
theorem a_misreport (hr : a.isReady = true) : res (execute a (.misreportLoss i l t)).2 = if i < a.agentCount ∧ l < a.typeCount i then (if a.isProfile t = true then [0, a.loss i t (t.getD i 0) l] else [-22]) else [-2] := by
  simp only [execute]
  rw [if_neg (by rw [hr]; decide)]
  by_cases h : i < a.agentCount ∧ l < a.typeCount i
  · rw [if_neg (by omega), if_pos h]
    by_cases h2 : a.isProfile t = true
    · rw [if_neg (by rw [h2]; decide), if_pos h2]
      rfl
    · have h' : a.isProfile t = false := by simpa using h2
      rw [if_pos h', if_neg h2]
      rfl
  · rw [if_pos (by omega), if_neg h]
    rfl
theorem a_bounds (hr : a.isReady = true) : res (execute a (.paymentBounds i t)).2 = if i < a.agentCount then (if a.isProfile t = true then (match a.negativeCycle i t with | some _ => [-33] | none => [0, a.distance i t 0 (t.getD i 0), -(a.distance i t (t.getD i 0) 0)]) else [-22]) else [-2] := by
  simp only [execute]
  rw [if_neg (by rw [hr]; decide)]
  by_cases h : i < a.agentCount
  · rw [if_neg (by omega), if_pos h]
    by_cases h2 : a.isProfile t = true
    · rw [if_neg (by rw [h2]; decide), if_pos h2]
      cases a.negativeCycle i t <;> rfl
    · have h' : a.isProfile t = false := by simpa using h2
      rw [if_pos h', if_neg h2]
      rfl
  · rw [if_pos (by omega), if_neg h]
    rfl
theorem a_truthful (hr : a.isReady = true) : res (execute a (.areTruthfulPayments i t ps)).2 = if i < a.agentCount then (if a.isProfile t = true then (if fitsB ps (a.typeCount i) 1000 = true then (if a.areTruthful i t ps = true then [1] else [0]) else [-22]) else [-22]) else [-2] := by
  simp only [execute]
  rw [if_neg (by rw [hr]; decide)]
  by_cases h : i < a.agentCount
  · rw [if_neg (by omega), if_pos h]
    by_cases h2 : a.isProfile t = true
    · rw [if_pos h2]
      by_cases h3 : fitsB ps (a.typeCount i) 1000 = true
      · obtain ⟨g1, g2, g3⟩ := fits_yes h3
        rw [if_pos h3, if_neg]
        · cases a.areTruthful i t ps <;> rfl
        · rintro (z | z | z)
          · rw [h2] at z
            cases z
          · exact z g1
          · rw [g3] at z
            cases z
      · have h4 := fits_no (by simpa using h3)
        rw [if_neg h3, if_pos (Or.inr h4)]
        rfl
    · have h' : a.isProfile t = false := by simpa using h2
      rw [if_pos (Or.inl h'), if_neg h2]
      rfl
  · rw [if_pos (by omega), if_neg h]
    rfl
theorem a_pivots (hr : a.isReady = true) : res (execute a (.pivotPayments t)).2 = if a.isProfile t = true then (a.agentCount : Int) :: a.agents.map (fun i => a.pivotPayment i t) else [-22] := by
  simp only [execute]
  rw [if_neg (by rw [hr]; decide)]
  by_cases h : a.isProfile t = true
  · rw [if_neg (by rw [h]; decide), if_pos h]
    rfl
  · have h' : a.isProfile t = false := by simpa using h
    rw [if_pos h', if_neg h]
    rfl
theorem a_welfare (hr : a.isReady = true) : res (execute a (.welfare t)).2 = if a.isProfile t = true then [(a.allocated t : Int), a.totalValue t (a.allocated t), a.totalValue t (argmax a.alternatives (a.totalValue t))] else [-22] := by
  simp only [execute]
  rw [if_neg (by rw [hr]; decide)]
  by_cases h : a.isProfile t = true
  · rw [if_neg (by rw [h]; decide), if_pos h]
    rfl
  · have h' : a.isProfile t = false := by simpa using h
    rw [if_pos h', if_neg h]
    rfl
theorem a_describe (h : WF a) : res (execute a .describe).2 = (a.agentCount : Int) :: (a.alternativeCount : Int) :: (List.range a.agentCount).map fun i => (a.typeCount i : Int) := by
  have e : (List.range a.agentCount).map (fun i => (a.typeCount i : Int)) = (a.types.map List.length).map Int.ofNat := by
    rw [← counts_is h, List.map_map]
    rfl
  rw [e]
  rfl
end
end Tp

namespace Tp
open Su196
/-! # What changes the state -/
theorem enum_le (ns : List Nat) : (enumerateProfiles ns).length = prod ns := enum_len ns
theorem WF.put {a : Instance} (h : WF a) {al : List Nat} (h1 : al.length = a.profiles.length) (h2 : ∀ x ∈ al, x < a.alternativeCount) : WF { a with allocation := al } :=
  ⟨h.n1, h.n3, h.m2, h.m4, h.tl, h.k4, h.vl, h1, h2⟩
theorem prod_zero (n : Nat) (h : 1 ≤ n) : prod (List.replicate n 0) = 0 := by
  cases n with
  | zero => omega
  | succ n =>
    show 0 * _ = 0
    omega
theorem wf_create {n m : Nat} (h1 : 1 ≤ n) (h2 : n ≤ 3) (h3 : 2 ≤ m) (h4 : m ≤ 4) : WF (create n m) := by
  refine ⟨h1, h2, h3, h4, by show (List.replicate n _).length = n; simp, ?_, ?_, ?_, ?_⟩
  · intro ty hty
    have : ty = [] := List.eq_of_mem_replicate hty
    rw [this]
    decide
  · intro ty hty vs hvs
    have : ty = [] := List.eq_of_mem_replicate hty
    rw [this] at hvs
    simp at hvs
  · show 0 = (enumerateProfiles ((List.replicate n ([] : List (List Int))).map List.length)).length
    rw [enum_len, List.map_replicate]
    exact (prod_zero n h1).symm
  · intro x hx
    have : x ∈ ([] : List Nat) := hx
    simp at this
def addT (a : Instance) (i : Nat) (vs : List Int) : Instance := ({ a with types := a.types.set i (a.typesOf i ++ [vs]) } : Instance).resetAllocation
theorem wf_addT {a : Instance} (h : WF a) {i : Nat} {vs : List Int} (hi : i < a.agentCount) (hc : a.typeCount i < 4) (hl : vs.length = a.alternativeCount) (hv : ∀ v ∈ vs, -50 ≤ v ∧ v ≤ 50) : WF (addT a i vs) := by
  refine ⟨h.n1, h.n3, h.m2, h.m4, ?_, ?_, ?_, ?_, ?_⟩
  · show (a.types.set i _).length = a.agentCount
    rw [List.length_set, h.tl]
  · intro ty hty
    have hty : ty ∈ a.types.set i (a.typesOf i ++ [vs]) := hty
    rcases List.mem_or_eq_of_mem_set hty with z | z
    · exact h.k4 ty z
    · rw [z, List.length_append]
      have : (a.typesOf i).length < 4 := hc
      show _ + 1 ≤ 4
      omega
  · intro ty hty us hus
    have hty : ty ∈ a.types.set i (a.typesOf i ++ [vs]) := hty
    rcases List.mem_or_eq_of_mem_set hty with z | z
    · exact h.vl ty z us hus
    · rw [z] at hus
      rcases List.mem_append.mp hus with y | y
      · exact h.vl _ (List.mem_of_getElem? (types_at h hi)) us y
      · have : us = vs := by simpa using y
        rw [this]
        exact ⟨hl, hv⟩
  · show (List.replicate _ 0).length = _
    rw [List.length_replicate]
    rfl
  · intro x hx
    have hx : x ∈ List.replicate (({ a with types := a.types.set i (a.typesOf i ++ [vs]) } : Instance).profiles.length) 0 := hx
    rw [List.eq_of_mem_replicate hx]
    have := h.m2
    show 0 < a.alternativeCount
    omega
theorem wf_set {a : Instance} (h : WF a) {j x : Nat} (hx : x < a.alternativeCount) : WF { a with allocation := a.allocation.set j x } :=
  h.put (by rw [List.length_set, h.al]) fun y hy => by
    rcases List.mem_or_eq_of_mem_set hy with z | z
    · exact h.ax y z
    · rw [z]
      exact hx
theorem argmax_lt {m : Nat} (f : Nat → Int) (h : 1 ≤ m) : argmax (List.range m) f < m := (argmax_go f m h).1
theorem wf_rule {a : Instance} (h : WF a) {f : List Nat → Nat} (hf : ∀ t ∈ a.profiles, f t < a.alternativeCount) : WF (a.useRule f) :=
  h.put (by rw [List.length_map]) fun y hy => by
    obtain ⟨t, ht, rfl⟩ := List.mem_map.mp hy
    exact hf t ht
theorem rule_congr {a : Instance} {f g : List Nat → Nat} (h : ∀ t ∈ a.profiles, f t = g t) : a.useRule f = a.useRule g := by
  unfold Instance.useRule
  rw [List.map_congr_left h]
def ruleS (a : Instance) (ws bs : List Int) : Instance := a.useRule fun t => argmax a.alternatives (scoreS a ws bs t)
theorem wf_ruleS {a : Instance} (h : WF a) (ws bs : List Int) : WF (ruleS a ws bs) := wf_rule h fun t _ => argmax_lt _ (by have := h.m2; omega)
theorem rule_welfare {a : Instance} (h : WF a) : ruleS a (List.replicate a.agentCount 1) (List.replicate a.alternativeCount 0) = a.welfareMaximizer :=
  rule_congr fun t ht => argmax_congr _ _ _ fun x => score_total (prof_mem h ht).1 _ x
theorem rule_agent {a : Instance} (h : WF a) {i : Nat} (hi : i < a.agentCount) : ruleS a ((List.replicate a.agentCount 0).set i 1) (List.replicate a.alternativeCount 0) = a.useRule fun t => argmax a.alternatives fun x => a.reportedValue i x t :=
  rule_congr fun t ht => argmax_congr _ _ _ fun x => score_agent (prof_mem h ht).1 _ x i hi
theorem rule_affine {a : Instance} (h : WF a) (ws bs : List Nat) : ruleS a (ws.map Int.ofNat) (bs.map Int.ofNat) = a.affineMaximizer ws bs :=
  rule_congr fun t ht => argmax_congr _ _ _ fun x => score_affine (prof_mem h ht).1 ws bs x
theorem fits_nat {l : List Nat} {c gr : Nat} : fitsB (l.map Int.ofNat) c gr = true ↔ l.length = c ∧ l.any (fun v => decide (gr < v)) = false := by
  constructor
  · intro h
    obtain ⟨h1, h2, _⟩ := fits_yes h
    rw [List.length_map] at h1
    refine ⟨h1, ?_⟩
    rw [List.any_eq_false]
    intro v hv
    have := (h2 (v : Int) (List.mem_map.mpr ⟨v, hv, rfl⟩)).2
    simp
    omega
  · rintro ⟨h1, h2⟩
    unfold fitsB
    rw [List.length_map, decide_eq_true h1, Bool.true_and, List.all_eq_true]
    intro v hv
    obtain ⟨u, hu, rfl⟩ := List.mem_map.mp hv
    have h3 := List.any_eq_false.mp h2 u hu
    have h4 : u ≤ gr := by simpa using h3
    apply decide_eq_true
    rw [if_neg (show ¬ Int.ofNat u < 0 from Int.not_lt.mpr (Int.natCast_nonneg u))]
    exact Int.ofNat_le.mpr h4
section
variable {a : Instance} {i l x : Nat} {t : List Nat} {vs : List Int}
theorem x_add : execute a (.addType i vs) = if i < a.agentCount then (if fitsB vs a.alternativeCount 50 = true then (if 4 ≤ a.typeCount i then (a, error (-28)) else (addT a i vs, ok (a.typeCount i) [])) else (a, error (-22))) else (a, error (-2)) := by
  simp only [execute]
  by_cases h : i < a.agentCount
  · rw [if_neg (by omega), if_pos h]
    by_cases h3 : fitsB vs a.alternativeCount 50 = true
    · obtain ⟨g1, g2, g3⟩ := fits_yes h3
      rw [if_pos h3, if_neg]
      · rfl
      · rintro (z | z)
        · exact z g1
        · rw [show (vs.any fun v => decide (v < -maxValue) || decide (maxValue < v)) = false from g3] at z
          cases z
    · have h4 := fits_no (by simpa using h3)
      rw [if_neg h3, if_pos (show vs.length ≠ a.alternativeCount ∨ (vs.any fun v => decide (v < -maxValue) || decide (maxValue < v)) = true from h4)]
  · rw [if_pos (by omega), if_neg h]
theorem x_set (hr : a.isReady = true) : execute a (.setAllocation x t) = if x < a.alternativeCount ∧ a.isProfile t = true then ({ a with allocation := a.allocation.set (a.profileIndex t) x }, ok (a.allocated t) []) else (a, error (-22)) := by
  simp only [execute]
  rw [if_neg (by rw [hr]; decide)]
  by_cases h : x < a.alternativeCount ∧ a.isProfile t = true
  · rw [if_pos h, if_neg]
    rintro (z | z)
    · omega
    · rw [h.2] at z
      cases z
  · rw [if_neg h, if_pos]
    by_cases h1 : x < a.alternativeCount
    · right
      cases hb : a.isProfile t with
      | false => rfl
      | true => exact absurd ⟨h1, hb⟩ h
    · left
      omega
theorem x_welfare (h : WF a) (hr : a.isReady = true) : execute a .useWelfareMaximizer = (ruleS a (List.replicate a.agentCount 1) (List.replicate a.alternativeCount 0), ok 0 []) := by
  simp only [execute]
  rw [if_neg (by rw [hr]; decide), rule_welfare h]
theorem x_agent (h : WF a) (hr : a.isReady = true) : execute a (.useAgentMaximizer i) = if i < a.agentCount then (ruleS a ((List.replicate a.agentCount 0).set i 1) (List.replicate a.alternativeCount 0), ok 0 []) else (a, error (-2)) := by
  simp only [execute]
  rw [if_neg (by rw [hr]; decide)]
  by_cases hi : i < a.agentCount
  · rw [if_neg (by omega), if_pos hi, rule_agent h hi]
  · rw [if_pos (by omega), if_neg hi]
theorem x_affine (h : WF a) (hr : a.isReady = true) : execute a (.useAffineMaximizer t) = if fitsB (t.map Int.ofNat) (a.agentCount + a.alternativeCount : Nat) 99 = true then (ruleS a ((t.take a.agentCount).map Int.ofNat) ((t.drop a.agentCount).map Int.ofNat), ok 0 []) else (a, error (-22)) := by
  simp only [execute]
  rw [if_neg (by rw [hr]; decide)]
  by_cases hf : fitsB (t.map Int.ofNat) (a.agentCount + a.alternativeCount : Nat) 99 = true
  · obtain ⟨h1, h2⟩ := (fits_nat (gr := 99)).mp hf
    rw [if_pos hf, rule_affine h, if_neg]
    rintro (z | z)
    · exact z h1
    · rw [h2] at z
      cases z
  · rw [if_neg hf, if_pos]
    by_cases h1 : t.length = a.agentCount + a.alternativeCount
    · right
      cases hb : t.any (fun v => decide (99 < v)) with
      | true => rfl
      | false => exact absurd ((fits_nat (gr := 99)).mpr ⟨h1, hb⟩) hf
    · exact Or.inl h1
theorem x_create {n m : Nat} : execute a (.create n m) = if 1 ≤ n ∧ n ≤ 3 ∧ 2 ≤ m ∧ m ≤ 4 then (create n m, ok 0 []) else (a, error (-22)) := by
  simp only [execute]
  have e1 : maxAgents = 3 := rfl
  have e2 : maxAlternatives = 4 := rfl
  by_cases h : 1 ≤ n ∧ n ≤ 3 ∧ 2 ≤ m ∧ m ≤ 4
  · rw [if_pos h, if_neg (by omega)]
  · rw [if_neg h, if_pos (by omega)]
end
end Tp

namespace Tp
open Su196
/-! # The calls, taken apart -/
inductive IsCall : Nat → List Int → List (List Int) → Operation → Prop
  | create (n m : Nat) : IsCall 0 [(n : Int), (m : Int)] [] (.create n m)
  | addType (i : Nat) (vs : List Int) (h : vs.length ≤ 100) : IsCall 1 [(i : Int)] [vs] (.addType i vs)
  | setAllocation (x : Nat) (t : List Nat) (h : t.length ≤ 100) : IsCall 2 [(x : Int)] [t.map Int.ofNat] (.setAllocation x t)
  | allocation (t : List Nat) (h : t.length ≤ 100) : IsCall 3 [] [t.map Int.ofNat] (.allocation t)
  | welfareMax : IsCall 4 [] [] .useWelfareMaximizer
  | affineMax (t : List Nat) (h : t.length ≤ 100) : IsCall 5 [] [t.map Int.ofNat] (.useAffineMaximizer t)
  | agentMax (i : Nat) : IsCall 6 [(i : Int)] [] (.useAgentMaximizer i)
  | misreport (i l : Nat) (t : List Nat) (h : t.length ≤ 100) : IsCall 7 [(i : Int), (l : Int)] [t.map Int.ofNat] (.misreportLoss i l t)
  | cyclic : IsCall 8 [] [] .isCyclicallyMonotonic
  | weak : IsCall 9 [] [] .isWeaklyMonotonic
  | bounds (i : Nat) (t : List Nat) (h : t.length ≤ 100) : IsCall 10 [(i : Int)] [t.map Int.ofNat] (.paymentBounds i t)
  | truthful (i : Nat) (t : List Nat) (ps : List Int) (h : t.length ≤ 100) (h2 : ps.length ≤ 100) : IsCall 11 [(i : Int)] [t.map Int.ofNat, ps] (.areTruthfulPayments i t ps)
  | pivots (t : List Nat) (h : t.length ≤ 100) : IsCall 12 [] [t.map Int.ofNat] (.pivotPayments t)
  | welfare (t : List Nat) (h : t.length ≤ 100) : IsCall 13 [] [t.map Int.ofNat] (.welfare t)
  | describe : IsCall 14 [] [] .describe
def opOf (c : List (List Int)) : Operation := (Su196Neutral.callOf ((PySu196.whole c).headD [])).getD .describe
def Good (c : List (List Int)) : Prop := ∃ (z : Nat) (ns : List Int) (rs : List (List Int)), c = ((z : Int) :: ns) :: rs ∧ IsCall z ns rs (opOf c) ∧ Su196Neutral.callOf ((PySu196.whole c).headD []) = some (opOf c)
theorem within_nat {hi x : Int} (h : PyInside.within 0 hi x = true) : ∃ n : Nat, x = (n : Int) := by
  unfold PyInside.within at h
  rw [Bool.and_eq_true, decide_eq_true_eq] at h
  exact ⟨x.toNat, (Int.toNat_of_nonneg h.1).symm⟩
theorem rows_nat {hi : Int} : ∀ {r : List Int}, r.all (PyInside.within 0 hi) = true → ∃ t : List Nat, r = t.map Int.ofNat
  | [], _ => ⟨[], rfl⟩
  | x :: r, h => by
    rw [List.all_cons, Bool.and_eq_true] at h
    obtain ⟨n, rfl⟩ := within_nat h.1
    obtain ⟨t, rfl⟩ := rows_nat h.2
    exact ⟨n :: t, rfl⟩
theorem nat_row (t : List Nat) : (t.map Int.ofNat).map Int.toNat = t := by
  rw [List.map_map]
  have : (Int.toNat ∘ Int.ofNat) = id := by
    funext x
    rfl
  rw [this, List.map_id]
theorem nat_nat (n : Nat) : ((n : Int)).toNat = n := rfl
theorem row_ok {lo hi : Int} {least most : Nat} {b : List (Int × Int × Nat × Nat)} {r : List Int} {rs : List (List Int)} (h : PyInside.lists ((lo, hi, least, most) :: b) (r :: rs) = true) : r.length ≤ most ∧ r.all (PyInside.within lo hi) = true ∧ PyInside.lists b rs = true := by
  unfold PyInside.lists at h
  simp only [Bool.and_eq_true, decide_eq_true_eq] at h
  exact ⟨h.1.1.2, h.1.2, h.2⟩
theorem num_ok {lo hi x : Int} {b : List (Int × Int)} {xs : List Int} (h : PyInside.each ((lo, hi) :: b) (x :: xs) = true) : PyInside.within lo hi x = true ∧ PyInside.each b xs = true := by
  unfold PyInside.each at h
  rw [Bool.and_eq_true] at h
  exact h
theorem len0 {α : Type} {l : List α} (h : l.length = 0) : l = [] := List.eq_nil_of_length_eq_zero h
theorem len1 {α : Type} {l : List α} (h : l.length = 1) : ∃ x, l = [x] := List.length_eq_one_iff.mp h
theorem len2 {α : Type} {l : List α} (h : l.length = 2) : ∃ x y, l = [x, y] := by
  match l, h with
  | [x, y], _ => exact ⟨x, y, rfl⟩
def shapeL : List (Nat × Nat) := [(2, 0), (1, 1), (1, 1), (0, 1), (0, 0), (0, 1), (1, 0), (2, 1), (0, 0), (0, 0), (1, 1), (1, 2), (0, 1), (0, 1), (0, 0)]
theorem shape_code {p : Int} {s : Nat × Nat} (h : PySu196.shape p = some s) : ∃ z : Nat, p = (z : Int) ∧ shapeL[z]? = some s := by
  unfold PySu196.shape at h
  by_cases c : p = 0
  · rw [if_pos c] at h; exact ⟨0, c, h⟩
  rw [if_neg c] at h
  by_cases c : p = 1
  · rw [if_pos c] at h; exact ⟨1, c, h⟩
  rw [if_neg c] at h
  by_cases c : p = 2
  · rw [if_pos c] at h; exact ⟨2, c, h⟩
  rw [if_neg c] at h
  by_cases c : p = 3
  · rw [if_pos c] at h; exact ⟨3, c, h⟩
  rw [if_neg c] at h
  by_cases c : p = 4
  · rw [if_pos c] at h; exact ⟨4, c, h⟩
  rw [if_neg c] at h
  by_cases c : p = 5
  · rw [if_pos c] at h; exact ⟨5, c, h⟩
  rw [if_neg c] at h
  by_cases c : p = 6
  · rw [if_pos c] at h; exact ⟨6, c, h⟩
  rw [if_neg c] at h
  by_cases c : p = 7
  · rw [if_pos c] at h; exact ⟨7, c, h⟩
  rw [if_neg c] at h
  by_cases c : p = 8
  · rw [if_pos c] at h; exact ⟨8, c, h⟩
  rw [if_neg c] at h
  by_cases c : p = 9
  · rw [if_pos c] at h; exact ⟨9, c, h⟩
  rw [if_neg c] at h
  by_cases c : p = 10
  · rw [if_pos c] at h; exact ⟨10, c, h⟩
  rw [if_neg c] at h
  by_cases c : p = 11
  · rw [if_pos c] at h; exact ⟨11, c, h⟩
  rw [if_neg c] at h
  by_cases c : p = 12
  · rw [if_pos c] at h; exact ⟨12, c, h⟩
  rw [if_neg c] at h
  by_cases c : p = 13
  · rw [if_pos c] at h; exact ⟨13, c, h⟩
  rw [if_neg c] at h
  by_cases c : p = 14
  · rw [if_pos c] at h; exact ⟨14, c, h⟩
  rw [if_neg c] at h
  cases h
theorem good_by {z : Nat} {ns : List Int} {rs : List (List Int)} {op : Operation} (h : IsCall z ns rs op) (e : Su196Neutral.callOf ((PySu196.whole (((z : Int) :: ns) :: rs)).headD []) = some op) : Good (((z : Int) :: ns) :: rs) := by
  have e2 : opOf (((z : Int) :: ns) :: rs) = op := by
    unfold opOf
    rw [e]
    rfl
  refine ⟨z, ns, rs, rfl, ?_, ?_⟩
  · rw [e2]
    exact h
  · rw [e2]
    exact e
theorem good_of {z : Nat} {ns : List Int} {rs : List (List Int)} (hs : shapeL[z]? = some (ns.length, rs.length)) (hb : PyInside.call PySu196.bound (((z : Int) :: ns) :: rs) = true) : Good (((z : Int) :: ns) :: rs) := by
  have hb : (PyInside.each (PySu196.bound (z : Int)).1 ns && PyInside.lists (PySu196.bound (z : Int)).2 rs) = true := hb
  rw [Bool.and_eq_true] at hb
  obtain ⟨hn, hr⟩ := hb
  match z, hs, hn, hr with
  | 0, hs, hn, hr =>
    have hs : (2, 0) = (ns.length, rs.length) := Option.some.inj hs
    obtain ⟨x, y, rfl⟩ := len2 (Prod.mk.inj hs).1.symm
    have e := len0 (Prod.mk.inj hs).2.symm
    subst e
    obtain ⟨h1, hn⟩ := num_ok (lo := 0) (hi := 4294967295) hn
    obtain ⟨h2, hn⟩ := num_ok (lo := 0) (hi := 4294967295) hn
    obtain ⟨n, rfl⟩ := within_nat h1
    obtain ⟨m, rfl⟩ := within_nat h2
    exact good_by (.create n m) rfl
  | 1, hs, hn, hr =>
    have hs : (1, 1) = (ns.length, rs.length) := Option.some.inj hs
    obtain ⟨x, rfl⟩ := len1 (Prod.mk.inj hs).1.symm
    obtain ⟨r, rfl⟩ := len1 (Prod.mk.inj hs).2.symm
    obtain ⟨h1, hn⟩ := num_ok (lo := 0) (hi := 4294967295) hn
    obtain ⟨n, rfl⟩ := within_nat h1
    obtain ⟨g1, g2, g3⟩ := row_ok (lo := -2147483648) (hi := 2147483647) (least := 0) (most := 8) hr
    exact good_by (.addType n r (by omega)) rfl
  | 2, hs, hn, hr =>
    have hs : (1, 1) = (ns.length, rs.length) := Option.some.inj hs
    obtain ⟨x, rfl⟩ := len1 (Prod.mk.inj hs).1.symm
    obtain ⟨r, rfl⟩ := len1 (Prod.mk.inj hs).2.symm
    obtain ⟨h1, hn⟩ := num_ok (lo := 0) (hi := 4294967295) hn
    obtain ⟨n, rfl⟩ := within_nat h1
    obtain ⟨g1, g2, g3⟩ := row_ok (lo := 0) (hi := 4294967295) (least := 0) (most := 8) hr
    obtain ⟨t, rfl⟩ := rows_nat g2
    rw [List.length_map] at g1
    refine good_by (.setAllocation n t (by omega)) ?_
    show some (Operation.setAllocation n ((t.map Int.ofNat).map Int.toNat)) = _
    rw [nat_row]
  | 3, hs, hn, hr =>
    have hs : (0, 1) = (ns.length, rs.length) := Option.some.inj hs
    have e := len0 (Prod.mk.inj hs).1.symm
    subst e
    obtain ⟨r, rfl⟩ := len1 (Prod.mk.inj hs).2.symm
    obtain ⟨g1, g2, g3⟩ := row_ok (lo := 0) (hi := 4294967295) (least := 0) (most := 12) hr
    obtain ⟨t, rfl⟩ := rows_nat g2
    rw [List.length_map] at g1
    refine good_by (.allocation t (by omega)) ?_
    show some (Operation.allocation ((t.map Int.ofNat).map Int.toNat)) = _
    rw [nat_row]
  | 4, hs, hn, hr =>
    have hs : (0, 0) = (ns.length, rs.length) := Option.some.inj hs
    have e := len0 (Prod.mk.inj hs).1.symm
    subst e
    have e := len0 (Prod.mk.inj hs).2.symm
    subst e
    exact good_by .welfareMax rfl
  | 5, hs, hn, hr =>
    have hs : (0, 1) = (ns.length, rs.length) := Option.some.inj hs
    have e := len0 (Prod.mk.inj hs).1.symm
    subst e
    obtain ⟨r, rfl⟩ := len1 (Prod.mk.inj hs).2.symm
    obtain ⟨g1, g2, g3⟩ := row_ok (lo := 0) (hi := 4294967295) (least := 0) (most := 12) hr
    obtain ⟨t, rfl⟩ := rows_nat g2
    rw [List.length_map] at g1
    refine good_by (.affineMax t (by omega)) ?_
    show some (Operation.useAffineMaximizer ((t.map Int.ofNat).map Int.toNat)) = _
    rw [nat_row]
  | 6, hs, hn, hr =>
    have hs : (1, 0) = (ns.length, rs.length) := Option.some.inj hs
    obtain ⟨x, rfl⟩ := len1 (Prod.mk.inj hs).1.symm
    have e := len0 (Prod.mk.inj hs).2.symm
    subst e
    obtain ⟨h1, hn⟩ := num_ok (lo := 0) (hi := 4294967295) hn
    obtain ⟨n, rfl⟩ := within_nat h1
    exact good_by (.agentMax n) rfl
  | 7, hs, hn, hr =>
    have hs : (2, 1) = (ns.length, rs.length) := Option.some.inj hs
    obtain ⟨x, y, rfl⟩ := len2 (Prod.mk.inj hs).1.symm
    obtain ⟨r, rfl⟩ := len1 (Prod.mk.inj hs).2.symm
    obtain ⟨h1, hn⟩ := num_ok (lo := 0) (hi := 4294967295) hn
    obtain ⟨h2, hn⟩ := num_ok (lo := 0) (hi := 4294967295) hn
    obtain ⟨n, rfl⟩ := within_nat h1
    obtain ⟨m, rfl⟩ := within_nat h2
    obtain ⟨g1, g2, g3⟩ := row_ok (lo := 0) (hi := 4294967295) (least := 0) (most := 8) hr
    obtain ⟨t, rfl⟩ := rows_nat g2
    rw [List.length_map] at g1
    refine good_by (.misreport n m t (by omega)) ?_
    show some (Operation.misreportLoss n m ((t.map Int.ofNat).map Int.toNat)) = _
    rw [nat_row]
  | 8, hs, hn, hr =>
    have hs : (0, 0) = (ns.length, rs.length) := Option.some.inj hs
    have e := len0 (Prod.mk.inj hs).1.symm
    subst e
    have e := len0 (Prod.mk.inj hs).2.symm
    subst e
    exact good_by .cyclic rfl
  | 9, hs, hn, hr =>
    have hs : (0, 0) = (ns.length, rs.length) := Option.some.inj hs
    have e := len0 (Prod.mk.inj hs).1.symm
    subst e
    have e := len0 (Prod.mk.inj hs).2.symm
    subst e
    exact good_by .weak rfl
  | 10, hs, hn, hr =>
    have hs : (1, 1) = (ns.length, rs.length) := Option.some.inj hs
    obtain ⟨x, rfl⟩ := len1 (Prod.mk.inj hs).1.symm
    obtain ⟨r, rfl⟩ := len1 (Prod.mk.inj hs).2.symm
    obtain ⟨h1, hn⟩ := num_ok (lo := 0) (hi := 4294967295) hn
    obtain ⟨n, rfl⟩ := within_nat h1
    obtain ⟨g1, g2, g3⟩ := row_ok (lo := 0) (hi := 4294967295) (least := 0) (most := 8) hr
    obtain ⟨t, rfl⟩ := rows_nat g2
    rw [List.length_map] at g1
    refine good_by (.bounds n t (by omega)) ?_
    show some (Operation.paymentBounds n ((t.map Int.ofNat).map Int.toNat)) = _
    rw [nat_row]
  | 11, hs, hn, hr =>
    have hs : (1, 2) = (ns.length, rs.length) := Option.some.inj hs
    obtain ⟨x, rfl⟩ := len1 (Prod.mk.inj hs).1.symm
    obtain ⟨r, q, rfl⟩ := len2 (Prod.mk.inj hs).2.symm
    obtain ⟨h1, hn⟩ := num_ok (lo := 0) (hi := 4294967295) hn
    obtain ⟨n, rfl⟩ := within_nat h1
    obtain ⟨g1, g2, hr⟩ := row_ok (lo := 0) (hi := 4294967295) (least := 0) (most := 16) hr
    obtain ⟨g3, g4, g5⟩ := row_ok (lo := -2147483648) (hi := 2147483647) (least := 0) (most := 16) hr
    obtain ⟨t, rfl⟩ := rows_nat g2
    have g1' := g1
    rw [List.length_map] at g1'
    refine good_by (.truthful n t q (by omega) (by omega)) ?_
    show some (Operation.areTruthfulPayments n (((t.map Int.ofNat ++ q).take (t.map Int.ofNat).length).map Int.toNat) ((t.map Int.ofNat ++ q).drop (t.map Int.ofNat).length)) = _
    rw [List.take_left, List.drop_left, nat_row]
  | 12, hs, hn, hr =>
    have hs : (0, 1) = (ns.length, rs.length) := Option.some.inj hs
    have e := len0 (Prod.mk.inj hs).1.symm
    subst e
    obtain ⟨r, rfl⟩ := len1 (Prod.mk.inj hs).2.symm
    obtain ⟨g1, g2, g3⟩ := row_ok (lo := 0) (hi := 4294967295) (least := 0) (most := 12) hr
    obtain ⟨t, rfl⟩ := rows_nat g2
    rw [List.length_map] at g1
    refine good_by (.pivots t (by omega)) ?_
    show some (Operation.pivotPayments ((t.map Int.ofNat).map Int.toNat)) = _
    rw [nat_row]
  | 13, hs, hn, hr =>
    have hs : (0, 1) = (ns.length, rs.length) := Option.some.inj hs
    have e := len0 (Prod.mk.inj hs).1.symm
    subst e
    obtain ⟨r, rfl⟩ := len1 (Prod.mk.inj hs).2.symm
    obtain ⟨g1, g2, g3⟩ := row_ok (lo := 0) (hi := 4294967295) (least := 0) (most := 12) hr
    obtain ⟨t, rfl⟩ := rows_nat g2
    rw [List.length_map] at g1
    refine good_by (.welfare t (by omega)) ?_
    show some (Operation.welfare ((t.map Int.ofNat).map Int.toNat)) = _
    rw [nat_row]
  | 14, hs, hn, hr =>
    have hs : (0, 0) = (ns.length, rs.length) := Option.some.inj hs
    have e := len0 (Prod.mk.inj hs).1.symm
    subst e
    have e := len0 (Prod.mk.inj hs).2.symm
    subst e
    exact good_by .describe rfl
  | z + 15, hs, _, _ => cases hs
/-! ## the parser -/
theorem row_is {l x s : List Int} (h : PyFlat.row l = some (x, s)) : ∃ n r, l = n :: r ∧ 0 ≤ n ∧ n.toNat ≤ r.length ∧ x = r.take n.toNat ∧ s = r.drop n.toNat := by
  cases l with
  | nil => cases h
  | cons n r =>
    simp only [PyFlat.row] at h
    by_cases c : 0 ≤ n ∧ n.toNat ≤ r.length
    · rw [if_pos c] at h
      have h2 := Option.some.inj h
      have h3 := Prod.mk.inj h2
      exact ⟨n, r, rfl, c.1, c.2, h3.1.symm, h3.2.symm⟩
    · rw [if_neg c] at h
      cases h
theorem rows_succ {k : Nat} {l : List Int} {xs : List (List Int)} {t : List Int} (h : PyFlat.rows (k + 1) l = some (xs, t)) : ∃ x s ys, PyFlat.row l = some (x, s) ∧ PyFlat.rows k s = some (ys, t) ∧ xs = x :: ys := by
  unfold PyFlat.rows at h
  cases e : PyFlat.row l with
  | none =>
    rw [e] at h
    cases h
  | some z =>
    obtain ⟨x, s⟩ := z
    rw [e] at h
    cases e2 : PyFlat.rows k s with
    | none =>
      simp only [e2] at h
      cases h
    | some z =>
      obtain ⟨ys, t'⟩ := z
      simp only [e2] at h
      have h3 := Prod.mk.inj (Option.some.inj h)
      exact ⟨x, s, ys, rfl, by rw [e2, h3.2], h3.1.symm⟩
theorem rows_len : ∀ {k : Nat} {l : List Int} {xs : List (List Int)} {t : List Int}, PyFlat.rows k l = some (xs, t) → xs.length = k
  | 0, l, xs, t, h => by
    have h3 := Prod.mk.inj (Option.some.inj h)
    rw [← h3.1]
    rfl
  | k + 1, l, xs, t, h => by
    obtain ⟨x, s, ys, _, h2, rfl⟩ := rows_succ h
    rw [List.length_cons, rows_len h2]
/-- how far so many rows go -/
def span (xs : List (List Int)) : Nat := (xs.map fun x => 1 + x.length).sum
theorem call_is {l : List Int} {c : List (List Int)} {t : List Int} (h : PyFlat.call PySu196.shape l = some (c, t)) : ∃ (z n k : Nat) (r : List Int) (xs : List (List Int)), l = (z : Int) :: r ∧ shapeL[z]? = some (n, k) ∧ n ≤ r.length ∧ PyFlat.rows k (r.drop n) = some (xs, t) ∧ c = ((z : Int) :: r.take n) :: xs := by
  cases l with
  | nil => cases h
  | cons p r =>
    unfold PyFlat.call at h
    cases e : PySu196.shape p with
    | none =>
      simp only [e] at h
      cases h
    | some s =>
      obtain ⟨n, k⟩ := s
      simp only [e] at h
      by_cases c1 : r.length < n
      · rw [if_pos c1] at h
        cases h
      · rw [if_neg c1] at h
        cases e2 : PyFlat.rows k (r.drop n) with
        | none =>
          simp only [e2] at h
          cases h
        | some z =>
          obtain ⟨xs, t'⟩ := z
          simp only [e2] at h
          have h3 := Prod.mk.inj (Option.some.inj h)
          obtain ⟨z, hz, hs⟩ := shape_code e
          refine ⟨z, n, k, r, xs, by rw [hz], hs, by omega, by rw [e2, h3.2], by rw [← h3.1, hz]⟩
theorem calls_cons {f : Nat} {p : Int} {r : List Int} {cs : List (List (List Int))} (h : PyFlat.calls PySu196.shape f (p :: r) = some cs) : ∃ g c t ds, PyFlat.call PySu196.shape (p :: r) = some (c, t) ∧ PyFlat.calls PySu196.shape g t = some ds ∧ cs = c :: ds := by
  cases f with
  | zero => cases h
  | succ f =>
    unfold PyFlat.calls at h
    cases e : PyFlat.call PySu196.shape (p :: r) with
    | none =>
      simp only [e] at h
      cases h
    | some z =>
      obtain ⟨c, t⟩ := z
      simp only [e] at h
      cases e2 : PyFlat.calls PySu196.shape f t with
      | none =>
        simp only [e2] at h
        cases h
      | some ds =>
        simp only [e2] at h
        exact ⟨f, c, t, ds, rfl, e2, (Option.some.inj h).symm⟩
theorem calls_nil {f : Nat} {cs : List (List (List Int))} (h : PyFlat.calls PySu196.shape f [] = some cs) : cs = [] := by
  cases f with
  | zero => exact (Option.some.inj h).symm
  | succ f => exact (Option.some.inj h).symm
theorem call_good {l : List Int} {c : List (List Int)} {t : List Int} (h : PyFlat.call PySu196.shape l = some (c, t)) (hb : PyInside.call PySu196.bound c = true) : Good c := by
  obtain ⟨z, n, k, r, xs, rfl, hs, hn, hr, rfl⟩ := call_is h
  have e1 : (r.take n).length = n := by
    rw [List.length_take]
    omega
  have e2 := rows_len hr
  exact good_of (by rw [e1, e2]; exact hs) hb
theorem calls_good : ∀ {f : Nat} {l : List Int} {cs : List (List (List Int))}, PyFlat.calls PySu196.shape f l = some cs → cs.all (PyInside.call PySu196.bound) = true → ∀ c ∈ cs, Good c
  | f, [], cs, h, _ => by
    rw [calls_nil h]
    intro c hc
    simp at hc
  | 0, p :: r, cs, h, _ => by cases h
  | f + 1, p :: r, cs, h, hb => by
    unfold PyFlat.calls at h
    cases e : PyFlat.call PySu196.shape (p :: r) with
    | none =>
      simp only [e] at h
      cases h
    | some z =>
      obtain ⟨c, t⟩ := z
      simp only [e] at h
      cases e2 : PyFlat.calls PySu196.shape f t with
      | none =>
        simp only [e2] at h
        cases h
      | some ds =>
        simp only [e2] at h
        have h3 := Option.some.inj h
        subst h3
        rw [List.all_cons, Bool.and_eq_true] at hb
        intro d hd
        rcases List.mem_cons.mp hd with rfl | hd
        · exact call_good e hb.1
        · exact calls_good e2 hb.2 d hd
/-! ## the whole -/
def playOps : Option Instance → List Operation → List (List Int)
  | _, [] => []
  | s, op :: r => res (Su196.step s op).2 :: playOps (Su196.step s op).1 r
def stAfter : Option Instance → List Operation → Option Instance
  | s, [] => s
  | s, op :: r => stAfter (Su196.step s op).1 r
theorem play_snoc : ∀ (s : Option Instance) (l : List Operation) (op : Operation), playOps s (l ++ [op]) = playOps s l ++ [res (Su196.step (stAfter s l) op).2]
  | s, [], op => rfl
  | s, o :: l, op => by
    show res (Su196.step s o).2 :: playOps (Su196.step s o).1 (l ++ [op]) = res (Su196.step s o).2 :: playOps (Su196.step s o).1 l ++ [_]
    rw [play_snoc]
    rfl
theorem st_snoc : ∀ (s : Option Instance) (l : List Operation) (op : Operation), stAfter s (l ++ [op]) = (Su196.step (stAfter s l) op).1
  | s, [], op => rfl
  | s, o :: l, op => st_snoc (Su196.step s o).1 l op
theorem told_snoc (l : List (List Int)) (a : List Int) : PyFlat.told (l ++ [a]) = PyFlat.told l ++ ((a.length : Int) :: a) := by
  unfold PyFlat.told
  rw [List.flatMap_append, List.flatMap_cons, List.flatMap_nil, List.append_nil]
theorem played_is : ∀ (raw : List (List (List Int))) (s : Option Instance), (∀ c ∈ raw, Good c) → PyFlat.played (fun s c => Su196Neutral.step s (c.headD [])) s (raw.map PySu196.whole) = playOps s (raw.map opOf)
  | [], s, _ => rfl
  | c :: r, s, h => by
    obtain ⟨z, ns, rs, e, _, hc⟩ := h c (List.mem_cons_self ..)
    have hstep : Su196Neutral.step s ((PySu196.whole c).headD []) = ((Su196.step s (opOf c)).1, res (Su196.step s (opOf c)).2) := by
      unfold Su196Neutral.step
      rw [hc]
      rfl
    rw [List.map_cons, List.map_cons]
    show (Su196Neutral.step s ((PySu196.whole c).headD [])).2 :: PyFlat.played _ (Su196Neutral.step s ((PySu196.whole c).headD [])).1 (r.map PySu196.whole) = _
    rw [hstep, played_is r _ fun d hd => h d (List.mem_cons_of_mem _ hd)]
    rfl
theorem asked_is {l : List Int} (h : PySu196.answers_asked l = true) : ∃ raw, PyFlat.calls PySu196.shape l.length l = some raw ∧ raw.length ≤ 400 ∧ (∀ c ∈ raw, Good c) ∧ PySu196.answers l = PyFlat.told (playOps none (raw.map opOf)) := by
  unfold PySu196.answers_asked at h
  cases e : PyFlat.calls PySu196.shape l.length l with
  | none =>
    rw [e] at h
    cases h
  | some raw =>
    rw [e] at h
    simp only [Bool.and_eq_true] at h
    have h1 : raw.length ≤ 400 := of_decide_eq_true h.1.1.1.2
    have h2 := calls_good e h.1.1.2
    refine ⟨raw, rfl, h1, h2, ?_⟩
    unfold PySu196.answers PySu196.calls
    rw [e]
    show PyFlat.told (PyFlat.played _ Su196Neutral.start (raw.map PySu196.whole)) = _
    rw [played_is raw _ h2]
    rfl
/-! ## how long an answer is -/
theorem viol_len {a : Instance} {m i : Nat} {t c : List Nat} (hm : m = 4 ∨ m = 2) (wf : WF a) (h : viol a m = some (i, t, c)) : c.length ≤ 4 := by
  unfold viol at h
  obtain ⟨j, hj, h1⟩ := List.exists_of_findSome?_eq_some h
  obtain ⟨s, hs, h2⟩ := List.exists_of_findSome?_eq_some h1
  cases e : (cyc (a.typeCount j) m).find? (negB (lossM a j s)) with
  | none =>
    rw [e] at h2
    cases h2
  | some r =>
    rw [e] at h2
    have h3 : (j, s, r) = (i, t, c) := Option.some.inj h2
    cases h3
    have hc := count_le wf i
    exact (cycN_mem hc (cyc_mem hc hm (List.mem_of_find?_eq_some e))).2.1
theorem ans_len {a : Instance} (h : WF a) {z : Nat} {ns : List Int} {rs : List (List Int)} {op : Operation} (hc : IsCall z ns rs op) : (res (execute a op).2).length ≤ 20 := by
  have n3 := h.n3
  have err : ∀ c : Int, (res (error c)).length ≤ 20 := fun c => by
    show 1 ≤ 20
    decide
  cases hc with
  | create n m =>
    rw [x_create]
    split
    · show 1 ≤ 20
      decide
    · exact err _
  | addType i vs _ =>
    rw [x_add]
    split
    · split
      · split
        · exact err _
        · show 1 ≤ 20
          decide
      · exact err _
    · exact err _
  | setAllocation x t _ =>
    simp only [execute]
    split
    · exact err _
    · split
      · exact err _
      · show 1 ≤ 20
        decide
  | allocation t _ =>
    simp only [execute]
    split
    · exact err _
    · split
      · exact err _
      · show 1 ≤ 20
        decide
  | welfareMax =>
    simp only [execute]
    split
    · exact err _
    · show 1 ≤ 20
      decide
  | affineMax t _ =>
    simp only [execute]
    split
    · exact err _
    · split
      · exact err _
      · show 1 ≤ 20
        decide
  | agentMax i =>
    simp only [execute]
    split
    · exact err _
    · split
      · exact err _
      · show 1 ≤ 20
        decide
  | misreport i l t _ =>
    simp only [execute]
    split
    · exact err _
    · split
      · exact err _
      · split
        · exact err _
        · show 2 ≤ 20
          decide
  | cyclic =>
    by_cases hr : a.isReady = true
    · rw [mono4 h hr]
      cases e : viol a 4 with
      | none =>
        show 1 ≤ 20
        decide
      | some z =>
        obtain ⟨i, t, c⟩ := z
        have ht := (base_mem h (viol_some e).2).1
        have hcl := viol_len (Or.inl rfl) h e
        show ((i :: (t ++ c)).map Int.ofNat).length + 1 ≤ 20
        rw [List.length_map, List.length_cons, List.length_append]
        omega
    · simp only [execute]
      rw [if_pos (by simpa using hr)]
      exact err _
  | weak =>
    by_cases hr : a.isReady = true
    · rw [mono2 h hr]
      cases e : viol a 2 with
      | none =>
        show 1 ≤ 20
        decide
      | some z =>
        obtain ⟨i, t, c⟩ := z
        have ht := (base_mem h (viol_some e).2).1
        have hcl := viol_len (Or.inr rfl) h e
        show ((i :: (t ++ c)).map Int.ofNat).length + 1 ≤ 20
        rw [List.length_map, List.length_cons, List.length_append]
        omega
    · simp only [execute]
      rw [if_pos (by simpa using hr)]
      exact err _
  | bounds i t _ =>
    simp only [execute]
    split
    · exact err _
    · split
      · exact err _
      · split
        · exact err _
        · split
          · exact err _
          · show 3 ≤ 20
            decide
  | truthful i t ps _ _ =>
    simp only [execute]
    split
    · exact err _
    · split
      · exact err _
      · split
        · exact err _
        · show 1 ≤ 20
          decide
  | pivots t _ =>
    simp only [execute]
    split
    · exact err _
    · split
      · exact err _
      · show (a.agents.map _).length + 1 ≤ 20
        unfold Instance.agents
        rw [List.length_map, List.length_range]
        omega
  | welfare t _ =>
    simp only [execute]
    split
    · exact err _
    · split
      · exact err _
      · show 3 ≤ 20
        decide
  | describe =>
    rw [a_describe h]
    rw [List.length_cons, List.length_cons, List.length_map, List.length_range]
    omega
theorem step_len {s : Option Instance} (h : ∀ a, s = some a → WF a) {z : Nat} {ns : List Int} {rs : List (List Int)} {op : Operation} (hc : IsCall z ns rs op) : (res (Su196.step s op).2).length ≤ 20 := by
  cases s with
  | some a => exact ans_len (h a rfl) hc
  | none =>
    cases hc with
    | create n m =>
      show (res (execute (Su196.create 1 2) (.create n m)).2).length ≤ 20
      exact ans_len (wf_create (by decide) (by decide) (by decide) (by decide)) (.create n m)
    | _ => show 1 ≤ 20; decide
end Tp

namespace Tp
open PySem PySem.Spec PyProof.Rows L2
open Evl (Ex Ev EvL EvT EvA EvO RetL RetV SpV SpL)
/-! ### values and lists -/
abbrev nV (n : Nat) : V := .int (n : Int)
def LI (H : Hp) (p : Addr) (xs : List Int) : Prop := H p = some (.lst (xs.map V.int))
def LN (H : Hp) (p : Addr) (xs : List Nat) : Prop := H p = some (.lst (xs.map nV))
theorem LI.mono {H H' : Hp} {p : Addr} {xs : List Int} (h : LI H p xs) (e : Ex H H') : LI H' p xs := e _ _ h
theorem LN.mono {H H' : Hp} {p : Addr} {xs : List Nat} (h : LN H p xs) (e : Ex H H') : LN H' p xs := e _ _ h
/-- a list of references, each told by R -/
def LR {α : Type} (R : Hp → Addr → α → Prop) (H : Hp) (p : Addr) (xs : List α) : Prop :=
  ∃ ps : List Addr, H p = some (.lst (ps.map V.ref)) ∧ ps.length = xs.length ∧ ∀ (i : Nat) q x, ps[i]? = some q → xs[i]? = some x → R H q x
theorem LR.mono {α : Type} {R : Hp → Addr → α → Prop} (hR : ∀ H H' q x, Ex H H' → R H q x → R H' q x) {H H' : Hp} {p : Addr} {xs : List α} (h : LR R H p xs) (e : Ex H H') : LR R H' p xs := by
  obtain ⟨ps, h1, h2, h3⟩ := h
  exact ⟨ps, e _ _ h1, h2, fun i q x a b => hR H H' q x e (h3 i q x a b)⟩
abbrev LLI := LR LI
abbrev LLN := LR LN
theorem LLI.mono {H H' : Hp} {p : Addr} {xs : List (List Int)} (h : LLI H p xs) (e : Ex H H') : LLI H' p xs := LR.mono (R := LI) (fun _ _ _ _ e h => LI.mono h e) h e
theorem LLN.mono {H H' : Hp} {p : Addr} {xs : List (List Nat)} (h : LLN H p xs) (e : Ex H H') : LLN H' p xs := LR.mono (R := LN) (fun _ _ _ _ e h => LN.mono h e) h e
theorem LR.at {α : Type} {R : Hp → Addr → α → Prop} {H : Hp} {p : Addr} {xs : List α} (h : LR R H p xs) : ∃ ps : List Addr, H p = some (.lst (ps.map V.ref)) ∧ ps.length = xs.length ∧ ∀ (i : Nat) x, xs[i]? = some x → ∃ q, ps[i]? = some q ∧ R H q x := by
  obtain ⟨ps, h1, h2, h3⟩ := h
  refine ⟨ps, h1, h2, fun i x hx => ?_⟩
  have hi : i < ps.length := by
    rw [h2]
    exact (List.getElem?_eq_some_iff.mp hx).1
  exact ⟨ps[i], List.getElem?_eq_getElem hi, h3 i _ x (List.getElem?_eq_getElem hi) hx⟩
theorem map_at {α : Type} {f : α → V} {xs : List α} {i : Nat} {x : α} (h : xs[i]? = some x) : (xs.map f)[i]? = some (f x) := by
  rw [List.getElem?_map, h] <;> rfl
theorem map_at' {α : Type} {f : α → V} {xs : List α} {i : Nat} {v : V} (h : (xs.map f)[i]? = some v) : ∃ x, xs[i]? = some x ∧ v = f x := by
  rw [List.getElem?_map] at h
  cases e : xs[i]? with
  | none =>
    rw [e] at h
    cases h
  | some x =>
    rw [e] at h
    exact ⟨x, rfl, (Option.some.inj h).symm⟩
/-! ### what evaluates to what, further -/
/-- a list of these values, new or not -/
def EvX (te : TE) (σ : L2.St) (H : Hp) (xs : List V) : Prop := ∀ H1, Ex H H1 → ∀ Q : VK, (∀ p H2, Ex H1 H2 → H2 p = some (.lst xs) → Q (.ref p) H2) → te σ H1 Q
def Bx (P : V → Hp → Prop) (v : V) (H : Hp) : Prop := ∀ H3, Ex H H3 → P v H3
def EvP (te : TE) (σ : L2.St) (H : Hp) (P : V → Hp → Prop) : Prop := ∀ H1, Ex H H1 → ∀ Q : VK, (∀ v H2, Ex H1 H2 → Bx P v H2 → Q v H2) → te σ H1 Q
section
variable {K : PySem.W.Frag} {σ : L2.St} {H H' : Hp} {ta tb tc te tx : TE} {t u : TT} {x y z v : V} {r : R2} {xs ys : List V}
theorem evX_L (h : EvL te σ H xs) : EvX te σ H xs := fun H1 e Q q => h H1 e Q fun p H2 _ e2 h2 => q p H2 e2 h2
theorem evX_R {p : Addr} (h : Ev te σ H (.ref p)) (hp : H p = some (.lst xs)) : EvX te σ H xs := fun H1 e Q q => h H1 e Q fun H2 e2 => q p H2 e2 (e2 _ _ (e _ _ hp))
theorem EvX.mono (e : Ex H H') (h : EvX te σ H xs) : EvX te σ H' xs := fun H1 a Q q => h H1 (e.trans a) Q q
theorem EvP.mono {P : V → Hp → Prop} (e : Ex H H') (h : EvP te σ H P) : EvP te σ H' P := fun H1 a Q q => h H1 (e.trans a) Q q
theorem ev_fld {a C dx : Addr} {fs : List (Str × V)} {f : Str} (ha : Ev ta σ H (.ref a)) (ho : H a = some (.ins C dx fs)) (c : Cls K C) (n : NoAttr K C f) (l : fs.lookup f = some v) : Ev (tFld K ta f) σ H v := fun H1 e Q q =>
  ha H1 e _ fun H2 e2 => ⟨a, C, dx, fs, v, rfl, e2 _ _ (e _ _ ho), c, n, l, q H2 e2⟩
theorem ev_chain {i j k : Int} (ha : Ev ta σ H (.int i)) (hb : Ev tb σ H (.int j)) (hc : Ev tc σ H (.int k)) : Ev (tChain rLe rLt ta tb tc) σ H (.bl (decide (i ≤ j) && decide (j < k))) := fun H1 e Q q =>
  ha H1 e _ fun H2 e2 => hb H2 (e.trans e2) _ fun H3 e3 => ⟨i, j, rfl, rfl, decide (i ≤ j), rfl, by
    cases h : decide (i ≤ j) with
    | true => exact iteT (hc H3 ((e.trans e2).trans e3) _ fun H4 e4 => ⟨j, k, rfl, rfl, by rw [h] at q; exact q H4 ((e2.trans e3).trans e4)⟩)
    | false => exact iteF (by rw [h] at q; exact q H3 (e2.trans e3))⟩
theorem ev_chainLL {i j k : Int} (ha : Ev ta σ H (.int i)) (hb : Ev tb σ H (.int j)) (hc : Ev tc σ H (.int k)) : Ev (tChain rLe rLe ta tb tc) σ H (.bl (decide (i ≤ j) && decide (j ≤ k))) := fun H1 e Q q =>
  ha H1 e _ fun H2 e2 => hb H2 (e.trans e2) _ fun H3 e3 => ⟨i, j, rfl, rfl, decide (i ≤ j), rfl, by
    cases h : decide (i ≤ j) with
    | true => exact iteT (hc H3 ((e.trans e2).trans e3) _ fun H4 e4 => ⟨j, k, rfl, rfl, by rw [h] at q; exact q H4 ((e2.trans e3).trans e4)⟩)
    | false => exact iteF (by rw [h] at q; exact q H3 (e2.trans e3))⟩
theorem ev_ixL {p : Addr} {i : Nat} (ha : Ev ta σ H (.ref p)) (hb : Ev tb σ H (.int (i : Int))) (hp : H p = some (.lst xs)) (hx : xs[i]? = some v) : Ev (tOp (rIxL K) ta tb) σ H v :=
  Evl.ev_op ha hb (Evl.rv_ixL (Evl.sq_of hp) (atI_nat hx))
theorem ev_ixLi {p : Addr} {i : Int} (ha : Ev ta σ H (.ref p)) (hb : Ev tb σ H (.int i)) (hp : H p = some (.lst xs)) (hx : atI xs i = some v) : Ev (tOp (rIxL K) ta tb) σ H v :=
  Evl.ev_op ha hb (Evl.rv_ixL (Evl.sq_of hp) hx)
theorem ev_ixX {i : Nat} (ha : EvX ta σ H xs) (hb : Ev tb σ H (.int (i : Int))) (hx : xs[i]? = some v) : Ev (tOp (rIxL K) ta tb) σ H v := fun H1 e Q q =>
  ha H1 e _ fun p H2 e2 hp => hb H2 (e.trans e2) _ fun H3 e3 => ⟨p, xs, i, v, rfl, rfl, Evl.sq_of (e3 _ _ hp), atI_nat hx, q H3 (e2.trans e3)⟩
theorem ev_lenX (ha : EvX ta σ H xs) : Ev (tCB (Evl.rLenS K) (tCons ta tNil)) σ H (.int (xs.length : Int)) := fun H1 e Q q =>
  ha H1 e _ fun p H2 e2 h2 => ⟨p, xs, rfl, Or.inl (Evl.sq_of h2), q H2 e2⟩
theorem el_cat (ha : EvX ta σ H xs) (hb : EvX tb σ H ys) (hl : xs.length + ys.length ≤ 100000) : EvL (tOp rCat ta tb) σ H (xs ++ ys) := fun H1 e Q q =>
  ha H1 e _ fun p H2 e2 hp => hb H2 (e.trans e2) _ fun b H3 e3 hb3 => ⟨p, b, xs, ys, rfl, rfl, e3 _ _ hp, hb3, Evl.sz_of hl, fun c hc => q c _ (Evl.fresh_back (e2.trans e3) hc) ((e2.trans e3).trans (Ex.new hc)) upd_same⟩
theorem rep_flat (c : V) : ∀ n : Nat, (List.replicate n [c]).flatten = List.replicate n c
  | 0 => rfl
  | n + 1 => by
    rw [List.replicate_succ, List.flatten_cons, rep_flat c n, List.replicate_succ] <;> rfl
theorem el_rep {n : Nat} (ha : Ev ta σ H v) (hb : Ev tb σ H (nV n)) (hn : n ≤ 100000) : EvL (tOp rRep (tLst (tCons ta tNil)) tb) σ H (List.replicate n v) := fun H1 e Q q =>
  Evl.el_lst (Evl.ea_cons ha Evl.ea_nil) (by show 1 ≤ 100000; decide) H1 e _ fun p H2 hp e2 h2 => hb H2 (e.trans e2) _ fun H3 e3 =>
    ⟨p, (n : Int), [v], rfl, rfl, e3 _ _ h2, by omega, by omega, by
      show 1 * ((n : Int)).toNat ≤ sizeLine
      rw [Int.toNat_natCast, Nat.one_mul]
      exact Evl.sz_of hn, fun c hc => by
        have k := q c (upd H3 c (.lst (List.replicate ((n : Int)).toNat [v]).flatten)) (Evl.fresh_back (e2.trans e3) hc) ((e2.trans e3).trans (Ex.new hc))
        rw [Int.toNat_natCast, rep_flat] at k
        rw [Int.toNat_natCast, rep_flat]
        exact k upd_same⟩
theorem ev_all {bs : List Bool} (ha : EvL ta σ H (bs.map V.bl)) : Ev (tCB (rAll K) (tCons ta tNil)) σ H (.bl (bs.all id)) := fun H1 e Q q =>
  ha H1 e _ fun p H2 _ e2 h2 => ⟨p, bs, rfl, Evl.sq_of h2, q H2 e2⟩
theorem ev_sum {ns : List Int} (ha : EvX ta σ H (ns.map V.int)) : Ev (tCB (rSum K) (tCons ta tNil)) σ H (.int ns.sum) := fun H1 e Q q =>
  ha H1 e _ fun p H2 e2 h2 => ⟨p, ns, rfl, Evl.sq_of h2, q H2 e2⟩
theorem ev_max {ns : List Int} {m : Int} (ha : EvX ta σ H (ns.map V.int)) (hm : m ∈ ns) (hy : ∀ y, y ∈ ns → y ≤ m) : Ev (tCB (rMax K) (tCons ta tNil)) σ H (.int m) := fun H1 e Q q =>
  ha H1 e _ fun p H2 e2 h2 => ⟨p, ns, rfl, Evl.sq_of h2, List.length_pos_of_mem hm, fun m' hm' hy' => by
    have : m' = m := Int.le_antisymm (hy m' hm') (hy' m hm)
    rw [this]
    exact q H2 e2⟩
theorem ev_abs {i : Int} (ha : Ev ta σ H (.int i)) : Ev (tCB rAbs (tCons ta tNil)) σ H (.int (if i < 0 then -i else i)) := fun H1 e Q q => ha H1 e _ fun H2 e2 => ⟨i, rfl, q H2 e2⟩
theorem ev_min {i j : Int} (ha : Ev ta σ H (.int i)) (hb : Ev tb σ H (.int j)) : Ev (tCB rMin2 (tCons ta (tCons tb tNil))) σ H (.int (if j < i then j else i)) := fun H1 e Q q =>
  ha H1 e _ fun H2 e2 => hb H2 (e.trans e2) _ fun H3 e3 => ⟨i, j, rfl, q H3 (e2.trans e3)⟩
theorem ev_lt {i j : Int} (ha : Ev ta σ H (.int i)) (hb : Ev tb σ H (.int j)) : Ev (tOp rLt ta tb) σ H (.bl (decide (i < j))) := Evl.ev_op ha hb Evl.rv_I0
theorem ev_le {i j : Int} (ha : Ev ta σ H (.int i)) (hb : Ev tb σ H (.int j)) : Ev (tOp rLe ta tb) σ H (.bl (decide (i ≤ j))) := Evl.ev_op ha hb Evl.rv_I0
theorem ev_gt {i j : Int} (ha : Ev ta σ H (.int i)) (hb : Ev tb σ H (.int j)) : Ev (tOp rGt ta tb) σ H (.bl (decide (j < i))) := Evl.ev_op ha hb Evl.rv_I0
theorem ev_ge {i j : Int} (ha : Ev ta σ H (.int i)) (hb : Ev tb σ H (.int j)) : Ev (tOp rGe ta tb) σ H (.bl (decide (j ≤ i))) := Evl.ev_op ha hb Evl.rv_I0
theorem ev_add {i j : Int} (ha : Ev ta σ H (.int i)) (hb : Ev tb σ H (.int j)) : Ev (tOp rAdd ta tb) σ H (.int (i + j)) := Evl.ev_op ha hb Evl.rv_I0
theorem ev_sub {i j : Int} (ha : Ev ta σ H (.int i)) (hb : Ev tb σ H (.int j)) : Ev (tOp rSub ta tb) σ H (.int (i - j)) := Evl.ev_op ha hb Evl.rv_I0
theorem ev_mul {i j : Int} (ha : Ev ta σ H (.int i)) (hb : Ev tb σ H (.int j)) (hc : -(2 ^ 64) < i ∧ i < 2 ^ 64) : Ev (tOp rMul ta tb) σ H (.int (i * j)) := Evl.ev_op ha hb (Evl.rv_I (.inl hc))
theorem ev_mulR {i j : Int} (ha : Ev ta σ H (.int i)) (hb : Ev tb σ H (.int j)) (hc : -(2 ^ 64) < j ∧ j < 2 ^ 64) : Ev (tOp rMul ta tb) σ H (.int (i * j)) := Evl.ev_op ha hb (Evl.rv_I (.inr hc))
theorem ev_eqI {i j : Int} (ha : Ev ta σ H (.int i)) (hb : Ev tb σ H (.int j)) : Ev (tOp rEq ta tb) σ H (.bl (decide (i = j))) := by
  have h := Evl.ev_op ha hb (Evl.rv_eq (H := H) (x := .int i) (y := .int j) rfl)
  have e : decide (V.int i = V.int j) = decide (i = j) := by
    by_cases c : i = j
    · rw [decide_eq_true c, decide_eq_true (congrArg V.int c)]
    · rw [decide_eq_false c, decide_eq_false fun z => c (V.int.inj z)]
  rw [e] at h
  exact h
theorem ev_neI {i j : Int} (ha : Ev ta σ H (.int i)) (hb : Ev tb σ H (.int j)) : Ev (tOp rNe ta tb) σ H (.bl (!decide (i = j))) := by
  have h := Evl.ev_op ha hb (Evl.rv_ne (H := H) (x := .int i) (y := .int j) rfl)
  have e : decide (V.int i = V.int j) = decide (i = j) := by
    by_cases c : i = j
    · rw [decide_eq_true c, decide_eq_true (congrArg V.int c)]
    · rw [decide_eq_false c, decide_eq_false fun z => c (V.int.inj z)]
  rw [e] at h
  exact h
theorem ev_isN (ha : Ev ta σ H x) : Ev (tOp rIsN ta (tC .non)) σ H (.bl (decide (x = .non))) := fun H1 e Q q => ha H1 e _ fun H2 e2 => ⟨rfl, q H2 e2⟩
theorem ev_notN (ha : Ev ta σ H x) : Ev (tOp rNotN ta (tC .non)) σ H (.bl (!decide (x = .non))) := fun H1 e Q q => ha H1 e _ fun H2 e2 => ⟨rfl, q H2 e2⟩
/-! calls of methods -/
theorem ev_meth {C a dx : Addr} {fs : List (Str × V)} {m : Str} {sp : Sp} {E : XK} {tt : TA} {vs : List V} (ho : Ev ta σ H (.ref a)) (h : H a = some (.ins C dx fs)) (l : fs.lookup m = none) (ha : EvA tt σ H vs) (hs : SpV sp (.ref a :: vs) H z) : Ev (tMeth C m sp [] E ta tt) σ H z := fun H1 e Q q =>
  ho H1 e _ fun H2 e2 => ⟨a, dx, fs, rfl, e2 _ _ (e _ _ h), l, ha H2 (e.trans e2) _ fun H3 e3 => by
    rw [List.append_nil]
    exact hs H3 ((e.trans e2).trans e3) Q (fun H4 e4 => q H4 ((e2.trans e3).trans e4)) E⟩
theorem el_meth {C a dx : Addr} {fs : List (Str × V)} {m : Str} {sp : Sp} {E : XK} {tt : TA} {vs : List V} (ho : Ev ta σ H (.ref a)) (h : H a = some (.ins C dx fs)) (l : fs.lookup m = none) (ha : EvA tt σ H vs) (hs : SpL sp (.ref a :: vs) H xs) : EvL (tMeth C m sp [] E ta tt) σ H xs := fun H1 e Q q =>
  ho H1 e _ fun H2 e2 => ⟨a, dx, fs, rfl, e2 _ _ (e _ _ h), l, ha H2 (e.trans e2) _ fun H3 e3 => by
    rw [List.append_nil]
    exact hs H3 ((e.trans e2).trans e3) Q (fun p H4 hp e4 h4 => q p H4 (Evl.fresh_back (e2.trans e3) hp) ((e2.trans e3).trans e4) h4) E⟩
/-- a promise that tells its value by P -/
def SpP (sp : Sp) (vs : List V) (H : Hp) (P : V → Hp → Prop) : Prop := ∀ H1, Ex H H1 → ∀ Q : VK, (∀ v H2, Ex H1 H2 → Bx P v H2 → Q v H2) → ∀ E : XK, sp vs H1 Q E
theorem ep_meth {C a dx : Addr} {fs : List (Str × V)} {m : Str} {sp : Sp} {E : XK} {tt : TA} {vs : List V} {P : V → Hp → Prop} (ho : Ev ta σ H (.ref a)) (h : H a = some (.ins C dx fs)) (l : fs.lookup m = none) (ha : EvA tt σ H vs) (hs : SpP sp (.ref a :: vs) H P) : EvP (tMeth C m sp [] E ta tt) σ H P := fun H1 e Q q =>
  ho H1 e _ fun H2 e2 => ⟨a, dx, fs, rfl, e2 _ _ (e _ _ h), l, ha H2 (e.trans e2) _ fun H3 e3 => by
    rw [List.append_nil]
    exact hs H3 ((e.trans e2).trans e3) Q (fun v H4 e4 b => q v H4 ((e2.trans e3).trans e4) b) E⟩
theorem ep_call {sp : Sp} {E : XK} {tt : TA} {vs : List V} {P : V → Hp → Prop} (ha : EvA tt σ H vs) (hs : SpP sp vs H P) : EvP (tCall sp [] E tt) σ H P := fun H1 e Q q =>
  ha H1 e _ fun H3 e3 => by
    rw [List.append_nil]
    exact hs H3 (e.trans e3) Q (fun v H4 e4 b => q v H4 (e3.trans e4) b) E
theorem ev_call {sp : Sp} {E : XK} {tt : TA} {vs : List V} (ha : EvA tt σ H vs) (hs : SpV sp vs H z) : Ev (tCall sp [] E tt) σ H z := Evl.ev_call ha (by rw [List.append_nil]; exact hs)
theorem el_call {sp : Sp} {E : XK} {tt : TA} {vs : List V} (ha : EvA tt σ H vs) (hs : SpL sp vs H xs) : EvL (tCall sp [] E tt) σ H xs := Evl.el_call ha (by rw [List.append_nil]; exact hs)
/-- arguments told by P -/
def EvAP (tt : TA) (σ : L2.St) (H : Hp) (P : List V → Hp → Prop) : Prop := ∀ H1, Ex H H1 → ∀ Q : List V → Hp → Prop, (∀ vs H2, Ex H1 H2 → (∀ H3, Ex H2 H3 → P vs H3) → Q vs H2) → tt σ H1 Q
theorem eap_of {tt : TA} {vs : List V} (h : EvA tt σ H vs) : EvAP tt σ H (fun ws _ => ws = vs) := fun H1 e Q q => h H1 e Q fun H2 e2 => q vs H2 e2 fun _ _ => rfl
theorem eap_cons {tt : TA} {P : V → Hp → Prop} {R : List V → Hp → Prop} (h : EvP te σ H P) (hr : EvAP tt σ H R) : EvAP (tCons te tt) σ H (fun ws H' => ∃ v r, ws = v :: r ∧ P v H' ∧ R r H') := fun H1 e Q q =>
  h H1 e _ fun v H2 e2 b => hr H2 (e.trans e2) _ fun vs H3 e3 b3 => q _ H3 (e2.trans e3) fun H4 e4 => ⟨v, vs, rfl, b H4 (e3.trans e4), b3 H4 e4⟩
theorem ep_of (h : Ev te σ H v) : EvP te σ H (fun w _ => w = v) := fun H1 e Q q => h H1 e Q fun H2 e2 => q v H2 e2 fun _ _ => rfl
theorem ep_X (h : EvX te σ H xs) : EvP te σ H (fun w H' => ∃ p, w = .ref p ∧ H' p = some (.lst xs)) := fun H1 e Q q => h H1 e Q fun p H2 e2 hp => q _ H2 e2 fun H3 e3 => ⟨p, rfl, e3 _ _ hp⟩
theorem ep_weak {P R : V → Hp → Prop} (h : EvP te σ H P) (w : ∀ v H', Ex H H' → P v H' → R v H') : EvP te σ H R := fun H1 e Q q => h H1 e Q fun v H2 e2 b => q v H2 e2 fun H3 e3 => w v H3 ((e.trans e2).trans e3) (b H3 e3)
theorem ev_callP {sp : Sp} {E : XK} {tt : TA} {R : List V → Hp → Prop} (ha : EvAP tt σ H R) (hs : ∀ vs H', Ex H H' → R vs H' → SpV sp vs H' z) : Ev (tCall sp [] E tt) σ H z := fun H1 e Q q =>
  ha H1 e _ fun vs H2 e2 b => by
    rw [List.append_nil]
    exact hs vs H2 (e.trans e2) (b H2 (Ex.refl _)) H2 (Ex.refl _) Q (fun H3 e3 => q H3 (e2.trans e3)) E
theorem el_callP {sp : Sp} {E : XK} {tt : TA} {R : List V → Hp → Prop} (ha : EvAP tt σ H R) (hs : ∀ vs H', Ex H H' → R vs H' → SpL sp vs H' xs) : EvL (tCall sp [] E tt) σ H xs := fun H1 e Q q =>
  ha H1 e _ fun vs H2 e2 b => by
    rw [List.append_nil]
    exact hs vs H2 (e.trans e2) (b H2 (Ex.refl _)) H2 (Ex.refl _) Q (fun p H3 hp e3 h3 => q p H3 (Evl.fresh_back e2 hp) (e2.trans e3) h3) E
theorem ep_callP {sp : Sp} {E : XK} {tt : TA} {R : List V → Hp → Prop} {P : V → Hp → Prop} (ha : EvAP tt σ H R) (hs : ∀ vs H', Ex H H' → R vs H' → SpP sp vs H' P) : EvP (tCall sp [] E tt) σ H P := fun H1 e Q q =>
  ha H1 e _ fun vs H2 e2 b => by
    rw [List.append_nil]
    exact hs vs H2 (e.trans e2) (b H2 (Ex.refl _)) H2 (Ex.refl _) Q (fun v H3 e3 h3 => q v H3 (e2.trans e3) h3) E
theorem ev_methP {C a dx : Addr} {fs : List (Str × V)} {m : Str} {sp : Sp} {E : XK} {tt : TA} {R : List V → Hp → Prop} (ho : Ev ta σ H (.ref a)) (h : H a = some (.ins C dx fs)) (l : fs.lookup m = none) (ha : EvAP tt σ H R) (hs : ∀ vs H', Ex H H' → R vs H' → SpV sp (.ref a :: vs) H' z) : Ev (tMeth C m sp [] E ta tt) σ H z := fun H1 e Q q =>
  ho H1 e _ fun H2 e2 => ⟨a, dx, fs, rfl, e2 _ _ (e _ _ h), l, ha H2 (e.trans e2) _ fun vs H3 e3 b => by
    rw [List.append_nil]
    exact hs vs H3 ((e.trans e2).trans e3) (b H3 (Ex.refl _)) H3 (Ex.refl _) Q (fun H4 e4 => q H4 ((e2.trans e3).trans e4)) E⟩
/-! comprehensions over enumerate and zip of lists that stand -/
theorem el_lcEnum {a : Addr} {tt : TA} {i j : Nat} {vs : List Nat} (f : Nat → Bool) (v : Nat → V) (h : EvA tt σ H [.ref a]) (hx : H a = some (.lst xs)) (hz : xs.length ≤ 40000) (hw : ∀ x y, wipe (((wipe σ vs).set i (some x)).set j (some y)) vs = wipe σ vs)
    (ht : ∀ (n : Nat) (x : V) H1, Ex H H1 → xs[n]? = some x → EvT t (((wipe σ vs).set i (some (nV n))).set j (some x)) H1 (f n)) (he : ∀ (n : Nat) (x : V) H1, Ex H H1 → xs[n]? = some x → f n = true → Ev te (((wipe σ vs).set i (some (nV n))).set j (some x)) H1 (v n)) :
    EvL (tLc (iEnum K tt) (gPair K i j) t te vs) σ H (Evl.given xs.length f v) := fun H0 e Q q => h H0 e _ fun H1 e1 => ⟨a, xs, rfl, Evl.sq_of (e1 _ _ (e _ _ hx)), fun Dl hD =>
  lc_it (walk_enum (K := K) (a := a) (xs := xs)) (Evl.Cw H1 f v Dl) ⟨hD, Ex.new hD, upd_same⟩ (fun n H' _ p => Evl.sq_of (p.2.1 _ _ (e1 _ _ (e _ _ hx)))) (fun n x H2 H3 hn p y => by
    obtain ⟨Tn, x1, y1, rfl, h1, rfl, e2, e3⟩ := y
    cases Option.some.inj e2
    have eu : Ex H2 (upd H2 Tn (.tup [nV n, y1])) := Ex.new h1
    exact ⟨Tn, nV n, y1, rfl, Or.inl (Or.inl upd_same), hw _ _, Evl.cw_turn ⟨p.1, p.2.1.trans eu, eu _ _ p.2.2⟩ (by omega) (ht n y1 H1 (e.trans e1) e3) (fun hf => he n y1 H1 (e.trans e1) e3 hf)⟩) (fun H' p => q Dl H' (Evl.fresh_back e1 p.1) (e1.trans p.2.1) p.2.2)⟩
theorem el_lcZip {a b : Addr} {tt : TA} {i j : Nat} {vs : List Nat} (f : Nat → Bool) (v : Nat → V) (h : EvA tt σ H [.ref a, .ref b]) (hx : H a = some (.lst xs)) (hy : H b = some (.lst ys)) (hz : min xs.length ys.length ≤ 40000) (hw : ∀ x y, wipe (((wipe σ vs).set i (some x)).set j (some y)) vs = wipe σ vs)
    (ht : ∀ (n : Nat) (x y : V) H1, Ex H H1 → xs[n]? = some x → ys[n]? = some y → EvT t (((wipe σ vs).set i (some x)).set j (some y)) H1 (f n)) (he : ∀ (n : Nat) (x y : V) H1, Ex H H1 → xs[n]? = some x → ys[n]? = some y → f n = true → Ev te (((wipe σ vs).set i (some x)).set j (some y)) H1 (v n)) :
    EvL (tLc (iZip K tt) (gPair K i j) t te vs) σ H (Evl.given (min xs.length ys.length) f v) := fun H0 e Q q => h H0 e _ fun H1 e1 => ⟨a, b, xs, ys, rfl, Evl.sq_of (e1 _ _ (e _ _ hx)), Evl.sq_of (e1 _ _ (e _ _ hy)), fun Dl hD =>
  lc_it (walk_zip (K := K) (a := a) (b := b) (xs := xs) (ys := ys) rfl) (Evl.Cw H1 f v Dl) ⟨hD, Ex.new hD, upd_same⟩ (fun n H' _ p => ⟨Evl.sq_of (p.2.1 _ _ (e1 _ _ (e _ _ hx))), Evl.sq_of (p.2.1 _ _ (e1 _ _ (e _ _ hy)))⟩) (fun n x H2 H3 hn p y => by
    obtain ⟨Tn, x1, y1, rfl, h1, rfl, e2, e3⟩ := y
    have eu : Ex H2 (upd H2 Tn (.tup [x1, y1])) := Ex.new h1
    exact ⟨Tn, x1, y1, rfl, Or.inl (Or.inl upd_same), hw _ _, Evl.cw_turn ⟨p.1, p.2.1.trans eu, eu _ _ p.2.2⟩ (by omega) (ht n x1 y1 H1 (e.trans e1) e2 e3) (fun hf => he n x1 y1 H1 (e.trans e1) e2 e3 hf)⟩) (fun H' p => q Dl H' (Evl.fresh_back e1 p.1) (e1.trans p.2.1) p.2.2)⟩
theorem et_yes : EvT tYes σ H true := fun H1 _ _ q => q H1 (Ex.refl _)
theorem given_all {n : Nat} {v : Nat → V} : Evl.given n (fun _ => true) v = (List.range n).map v := by
  unfold Evl.given
  rw [List.filter_eq_self.mpr (fun _ _ => rfl)]
/-! statements -/
variable {D : Ends} {tu tw tz : TS}
theorem s_asgP {i : Nat} {P : V → Hp → Prop} (h : EvP te σ H P) (k : ∀ v H1, Ex H H1 → Bx P v H1 → D.nx (σ.set i (some v)) H1) : tAsg te (gName i) D σ H := h H (Ex.refl H) _ k
theorem q_asgP {i : Nat} {P : V → Hp → Prop} (h : EvP te σ H P) (k : ∀ v H1, Ex H H1 → Bx P v H1 → tz D (σ.set i (some v)) H1) : tSeq (tAsg te (gName i)) tz D σ H := s_asgP (D := { D with nx := tz D }) h k
theorem s_retP {P : V → Hp → Prop} (h : EvP te σ H P) (k : ∀ v H1, Ex H H1 → Bx P v H1 → D.rt v H1) : tRet te D σ H := h H (Ex.refl H) _ k
/-- xs.extend(ys), ys a list that stands or is new -/
theorem s_ext {l : Addr} {zs : List V} (hl : H l = some (.lst xs)) (ha : Ev ta σ H (.ref l)) (h : EvX te σ H zs) (hz : xs.length + zs.length ≤ 100000) (k : ∀ H1, Ex H H1 → D.nx σ (upd H1 l (.lst (xs ++ zs)))) :
    tDrop (tBM K "list" rExtend ta (tCons te tNil)) D σ H := ha H (Ex.refl H) _ fun H1 e1 =>
  ⟨Or.inl ⟨rfl, xs, Evl.sq_of (e1 l _ hl)⟩, h H1 e1 _ fun p H2 e2 h2 => ⟨l, p, xs, zs, rfl, rfl, e2 l _ (e1 l _ hl), h2, Evl.sz_of hz, k H2 (e1.trans e2)⟩⟩
end
end Tp

namespace Tp
open PySem PySem.Spec PyProof.Rows L2
open Su196 (Instance)
open Evl (Ex Ev EvL EvT EvA EvO RetL RetV SpV SpL)
/-! # How an instance lies in the heap -/
structure InstG where
  dx : Addr
  la : Addr
  lv : Addr
  ks : List (Addr × List Addr)
def fsI (n m : Nat) (lv la : Addr) : List (Str × V) := [("agent_count", nV n), ("alternative_count", nV m), ("valuations", .ref lv), ("allocation", .ref la)]
def KAt (H : Hp) (k : Addr × List Addr) (ty : List (List Int)) : Prop :=
  H k.1 = some (.lst (k.2.map V.ref)) ∧ k.2.length = ty.length ∧ ∀ (j : Nat) q vs, k.2[j]? = some q → ty[j]? = some vs → LI H q vs
/-- without the allocation -/
structure InstV (CI : Addr) (H : Hp) (p : Addr) (g : InstG) (a : Instance) : Prop where
  wf : WF a
  ob : H p = some (.ins CI g.dx (fsI a.agentCount a.alternativeCount g.lv g.la))
  vl : H g.lv = some (.lst (g.ks.map fun k => V.ref k.1))
  kl : g.ks.length = a.types.length
  kd : ∀ (i : Nat) k ty, g.ks[i]? = some k → a.types[i]? = some ty → KAt H k ty
/-- what may change lies apart -/
structure SepK (g : InstG) : Prop where
  kv : ∀ (i : Nat) k, g.ks[i]? = some k → k.1 ≠ g.lv
  kk : ∀ (i j : Nat) k k', g.ks[i]? = some k → g.ks[j]? = some k' → i ≠ j → k.1 ≠ k'.1
  kq : ∀ (i : Nat) k (j : Nat) q, g.ks[i]? = some k → k.2[j]? = some q → ∀ (i' : Nat) k', g.ks[i']? = some k' → q ≠ k'.1
structure SepA (g : InstG) : Prop where
  av : g.la ≠ g.lv
  ak : ∀ (i : Nat) k, g.ks[i]? = some k → k.1 ≠ g.la
  aq : ∀ (i : Nat) k (j : Nat) q, g.ks[i]? = some k → k.2[j]? = some q → q ≠ g.la
structure InstAt (CI : Addr) (H : Hp) (p : Addr) (g : InstG) (a : Instance) : Prop extends InstV CI H p g a where
  al : LN H g.la a.allocation
  sk : SepK g
  sa : SepA g
def Inst (CI : Addr) (H : Hp) (p : Addr) (a : Instance) : Prop := ∃ g, InstAt CI H p g a
theorem KAt.mono {H H' : Hp} {k : Addr × List Addr} {ty : List (List Int)} (h : KAt H k ty) (e : Ex H H') : KAt H' k ty :=
  ⟨e _ _ h.1, h.2.1, fun j q vs a b => (h.2.2 j q vs a b).mono e⟩
theorem InstV.mono {CI : Addr} {H H' : Hp} {p : Addr} {g : InstG} {a : Instance} (h : InstV CI H p g a) (e : Ex H H') : InstV CI H' p g a :=
  ⟨h.wf, e _ _ h.ob, e _ _ h.vl, h.kl, fun i k ty x y => (h.kd i k ty x y).mono e⟩
theorem InstAt.mono {CI : Addr} {H H' : Hp} {p : Addr} {g : InstG} {a : Instance} (h : InstAt CI H p g a) (e : Ex H H') : InstAt CI H' p g a :=
  ⟨h.toInstV.mono e, h.al.mono e, h.sk, h.sa⟩
theorem Inst.mono {CI : Addr} {H H' : Hp} {p : Addr} {a : Instance} (h : Inst CI H p a) (e : Ex H H') : Inst CI H' p a := by
  obtain ⟨g, h⟩ := h
  exact ⟨g, h.mono e⟩
theorem Inst.wf {CI : Addr} {H : Hp} {p : Addr} {a : Instance} (h : Inst CI H p a) : WF a := by
  obtain ⟨g, h⟩ := h
  exact h.wf
theorem lk_here {k : Str} {v : V} {r : List (Str × V)} : List.lookup k ((k, v) :: r) = some v := by
  have e : (k == k) = true := beq_self_eq_true k
  simp only [List.lookup, e]
theorem lk_past {k g : Str} {v : V} {r : List (Str × V)} (h : (k == g) = false) : List.lookup k ((g, v) :: r) = List.lookup k r := by
  simp only [List.lookup, h]
section
variable {n m : Nat} {lv la : Addr}
theorem fs_ac : (fsI n m lv la).lookup ("agent_count" : Str) = some (nV n) := lk_here
theorem fs_lc : (fsI n m lv la).lookup ("alternative_count" : Str) = some (nV m) := (lk_past (by decide +kernel)).trans lk_here
theorem fs_vl : (fsI n m lv la).lookup ("valuations" : Str) = some (.ref lv) := (lk_past (by decide +kernel)).trans ((lk_past (by decide +kernel)).trans lk_here)
theorem fs_al : (fsI n m lv la).lookup ("allocation" : Str) = some (.ref la) := (lk_past (by decide +kernel)).trans ((lk_past (by decide +kernel)).trans ((lk_past (by decide +kernel)).trans lk_here))
theorem fs_no {x : Str} (h1 : (x == ("agent_count" : Str)) = false) (h2 : (x == ("alternative_count" : Str)) = false) (h3 : (x == ("valuations" : Str)) = false) (h4 : (x == ("allocation" : Str)) = false) : (fsI n m lv la).lookup x = none :=
  (lk_past h1).trans ((lk_past h2).trans ((lk_past h3).trans ((lk_past h4).trans rfl)))
theorem fs_is_ready : (fsI n m lv la).lookup ("is_ready" : Str) = none := fs_no (by decide +kernel) (by decide +kernel) (by decide +kernel) (by decide +kernel)
theorem fs_has_agent : (fsI n m lv la).lookup ("has_agent" : Str) = none := fs_no (by decide +kernel) (by decide +kernel) (by decide +kernel) (by decide +kernel)
theorem fs_kind_count : (fsI n m lv la).lookup ("kind_count" : Str) = none := fs_no (by decide +kernel) (by decide +kernel) (by decide +kernel) (by decide +kernel)
theorem fs_has_kind : (fsI n m lv la).lookup ("has_kind" : Str) = none := fs_no (by decide +kernel) (by decide +kernel) (by decide +kernel) (by decide +kernel)
theorem fs_has_alternative : (fsI n m lv la).lookup ("has_alternative" : Str) = none := fs_no (by decide +kernel) (by decide +kernel) (by decide +kernel) (by decide +kernel)
theorem fs_is_profile : (fsI n m lv la).lookup ("is_profile" : Str) = none := fs_no (by decide +kernel) (by decide +kernel) (by decide +kernel) (by decide +kernel)
theorem fs_profiles : (fsI n m lv la).lookup ("profiles" : Str) = none := fs_no (by decide +kernel) (by decide +kernel) (by decide +kernel) (by decide +kernel)
theorem fs_place : (fsI n m lv la).lookup ("place" : Str) = none := fs_no (by decide +kernel) (by decide +kernel) (by decide +kernel) (by decide +kernel)
theorem fs_value : (fsI n m lv la).lookup ("value" : Str) = none := fs_no (by decide +kernel) (by decide +kernel) (by decide +kernel) (by decide +kernel)
theorem fs_allocated : (fsI n m lv la).lookup ("allocated" : Str) = none := fs_no (by decide +kernel) (by decide +kernel) (by decide +kernel) (by decide +kernel)
theorem fs_allocated_if : (fsI n m lv la).lookup ("allocated_if" : Str) = none := fs_no (by decide +kernel) (by decide +kernel) (by decide +kernel) (by decide +kernel)
theorem fs_losses : (fsI n m lv la).lookup ("losses" : Str) = none := fs_no (by decide +kernel) (by decide +kernel) (by decide +kernel) (by decide +kernel)
theorem fs_append_kind : (fsI n m lv la).lookup ("append_kind" : Str) = none := fs_no (by decide +kernel) (by decide +kernel) (by decide +kernel) (by decide +kernel)
theorem put_here {f : Str} {v x : V} {r : List (Str × V)} : putF f v ((f, x) :: r) = (f, v) :: r := if_pos rfl
theorem put_past {f g : Str} {v x : V} {r : List (Str × V)} (h : ¬ g = f) : putF f v ((g, x) :: r) = (g, x) :: putF f v r := if_neg h
theorem put_al (q : Addr) : putF "allocation" (.ref q) (fsI n m lv la) = fsI n m lv q :=
  (put_past (by decide +kernel)).trans (congrArg _ ((put_past (by decide +kernel)).trans (congrArg _ ((put_past (by decide +kernel)).trans (congrArg _ put_here)))))
end
section
variable {K : PySem.W.Frag} {mg : Str → Option Value} {CW CI aS : Addr} {σ : L2.St} {H H' : Hp} {p : Addr} {g : InstG} {a : Instance} {to : TE} {E : XK} {v z : V}
theorem ev_ac (T : Txt K mg CW CI aS) (h : Inst CI H p a) (ho : Ev to σ H (.ref p)) : Ev (tFld K to "agent_count") σ H (nV a.agentCount) := by
  obtain ⟨g, h⟩ := h
  exact ev_fld ho h.ob T.cl T.nAC fs_ac
theorem ev_lc (T : Txt K mg CW CI aS) (h : Inst CI H p a) (ho : Ev to σ H (.ref p)) : Ev (tFld K to "alternative_count") σ H (nV a.alternativeCount) := by
  obtain ⟨g, h⟩ := h
  exact ev_fld ho h.ob T.cl T.nLC fs_lc
theorem ev_vl (T : Txt K mg CW CI aS) (h : InstAt CI H p g a) (ho : Ev to σ H (.ref p)) : Ev (tFld K to "valuations") σ H (.ref g.lv) := ev_fld ho h.ob T.cl T.nVal fs_vl
theorem ev_vlV (T : Txt K mg CW CI aS) (h : InstV CI H p g a) (ho : Ev to σ H (.ref p)) : Ev (tFld K to "valuations") σ H (.ref g.lv) := ev_fld ho h.ob T.cl T.nVal fs_vl
theorem ev_al (T : Txt K mg CW CI aS) (h : InstAt CI H p g a) (ho : Ev to σ H (.ref p)) : Ev (tFld K to "allocation") σ H (.ref g.la) := ev_fld ho h.ob T.cl T.nAll fs_al
/-- a method of the instance, told by its promise -/
theorem ev_m (h : Inst CI H p a) {m : Str} (l : ∀ n m' lv la, (fsI n m' lv la).lookup m = none) {sp : Sp} {tt : TA} {vs : List V} (ho : Ev to σ H (.ref p)) (ha : EvA tt σ H vs) (hs : SpV sp (.ref p :: vs) H z) : Ev (tMeth CI m sp [] E to tt) σ H z := by
  obtain ⟨g, h⟩ := h
  exact ev_meth ho h.ob (l _ _ _ _) ha hs
theorem ep_m (h : Inst CI H p a) {m : Str} (l : ∀ n m' lv la, (fsI n m' lv la).lookup m = none) {sp : Sp} {tt : TA} {vs : List V} {P : V → Hp → Prop} (ho : Ev to σ H (.ref p)) (ha : EvA tt σ H vs) (hs : SpP sp (.ref p :: vs) H P) : EvP (tMeth CI m sp [] E to tt) σ H P := by
  obtain ⟨g, h⟩ := h
  exact ep_meth ho h.ob (l _ _ _ _) ha hs
theorem ep_mV (h : InstV CI H p g a) {m : Str} (l : ∀ n m' lv la, (fsI n m' lv la).lookup m = none) {sp : Sp} {tt : TA} {vs : List V} {P : V → Hp → Prop} (ho : Ev to σ H (.ref p)) (ha : EvA tt σ H vs) (hs : SpP sp (.ref p :: vs) H P) : EvP (tMeth CI m sp [] E to tt) σ H P := ep_meth ho h.ob (l _ _ _ _) ha hs
theorem InstV.kind (h : InstV CI H p g a) {i : Nat} (hi : i < a.agentCount) : ∃ k, g.ks[i]? = some k ∧ H k.1 = some (.lst (k.2.map V.ref)) ∧ k.2.length = a.typeCount i ∧ ∀ (j : Nat), j < a.typeCount i → ∃ q, k.2[j]? = some q ∧ LI H q ((a.typesOf i).getD j []) := by
  have c : i < g.ks.length := by rw [h.kl, h.wf.tl]; exact hi
  obtain ⟨h1, h2, h3⟩ := h.kd i g.ks[i] _ (List.getElem?_eq_getElem c) (types_at h.wf hi)
  refine ⟨g.ks[i], List.getElem?_eq_getElem c, h1, h2, fun j hj => ?_⟩
  have c2 : j < g.ks[i].2.length := by rw [h2]; exact hj
  exact ⟨g.ks[i].2[j], List.getElem?_eq_getElem c2, h3 j _ _ (List.getElem?_eq_getElem c2) (kind_at hj)⟩
theorem InstAt.kind (h : InstAt CI H p g a) {i : Nat} (hi : i < a.agentCount) : ∃ k, g.ks[i]? = some k ∧ H k.1 = some (.lst (k.2.map V.ref)) ∧ k.2.length = a.typeCount i ∧ ∀ (j : Nat), j < a.typeCount i → ∃ q, k.2[j]? = some q ∧ LI H q ((a.typesOf i).getD j []) := h.toInstV.kind hi
theorem ev_valuations_at (T : Txt K mg CW CI aS) (h : InstAt CI H p g a) {ti : TE} {i : Nat} {k : Addr × List Addr} (hk : g.ks[i]? = some k) (ho : Ev to σ H (.ref p)) (hi : Ev ti σ H (nV i)) : Ev (tOp (rIxL K) (tFld K to "valuations") ti) σ H (.ref k.1) :=
  ev_ixL (ev_vl T h ho) hi h.vl (map_at (f := fun k : Addr × List Addr => V.ref k.1) hk)
end
/-! # The promises of the defs that change nothing -/
open Su196 in
def sp_is_ready (CI : Addr) : Sp := fun vs H Q _ => ∃ p a, vs = [.ref p] ∧ Inst CI H p a ∧ RetV (.bl a.isReady) H Q
def sp_has_agent (CI : Addr) : Sp := fun vs H Q _ => ∃ p a i, vs = [.ref p, nV i] ∧ Inst CI H p a ∧ RetV (.bl (decide (i < a.agentCount))) H Q
def sp_kind_count (CI : Addr) : Sp := fun vs H Q _ => ∃ p a i, vs = [.ref p, nV i] ∧ Inst CI H p a ∧ i < a.agentCount ∧ RetV (nV (a.typeCount i)) H Q
def sp_has_kind (CI : Addr) : Sp := fun vs H Q _ => ∃ p a i k, vs = [.ref p, nV i, nV k] ∧ Inst CI H p a ∧ i < a.agentCount ∧ RetV (.bl (decide (k < a.typeCount i))) H Q
def sp_has_alternative (CI : Addr) : Sp := fun vs H Q _ => ∃ p a x, vs = [.ref p, nV x] ∧ Inst CI H p a ∧ RetV (.bl (decide (x < a.alternativeCount))) H Q
def sp_is_profile (CI : Addr) : Sp := fun vs H Q _ => ∃ p a q t, vs = [.ref p, .ref q] ∧ Inst CI H p a ∧ LN H q t ∧ t.length ≤ 100 ∧ RetV (.bl (a.isProfile t)) H Q
def pLLN (xs : List (List Nat)) : V → Hp → Prop := fun v H => ∃ q, v = .ref q ∧ LLN H q xs
def pLLI (xs : List (List Int)) : V → Hp → Prop := fun v H => ∃ q, v = .ref q ∧ LLI H q xs
def RetP (P : V → Hp → Prop) (H : Hp) (Q : VK) : Prop := ∀ v H', Ex H H' → Bx P v H' → Q v H'
theorem bx_LLN {xs : List (List Nat)} {q : Addr} {H : Hp} (h : LLN H q xs) : Bx (pLLN xs) (.ref q) H := fun _ e => ⟨q, rfl, h.mono e⟩
theorem bx_LLI {xs : List (List Int)} {q : Addr} {H : Hp} (h : LLI H q xs) : Bx (pLLI xs) (.ref q) H := fun _ e => ⟨q, rfl, h.mono e⟩
def sp_profiles (CI : Addr) : Sp := fun vs H Q _ => ∃ p a g, vs = [.ref p] ∧ InstV CI H p g a ∧ RetP (pLLN a.profiles) H Q
def sp_place (CI : Addr) : Sp := fun vs H Q _ => ∃ p a q t, vs = [.ref p, .ref q] ∧ Inst CI H p a ∧ LN H q t ∧ IsP a t ∧ RetV (nV (a.profileIndex t)) H Q
def sp_value (CI : Addr) : Sp := fun vs H Q _ => ∃ p a i k x, vs = [.ref p, nV i, nV k, nV x] ∧ Inst CI H p a ∧ i < a.agentCount ∧ k < a.typeCount i ∧ x < a.alternativeCount ∧ RetV (.int (a.value i k x)) H Q
def sp_allocated (CI : Addr) : Sp := fun vs H Q _ => ∃ p a q t, vs = [.ref p, .ref q] ∧ Inst CI H p a ∧ LN H q t ∧ IsP a t ∧ RetV (nV (a.allocated t)) H Q
def sp_allocated_if (CI : Addr) : Sp := fun vs H Q _ => ∃ p a i k q t, vs = [.ref p, nV i, nV k, .ref q] ∧ Inst CI H p a ∧ i < a.agentCount ∧ k < a.typeCount i ∧ LN H q t ∧ IsP a t ∧ RetV (nV (a.allocated (t.set i k))) H Q
def sp_losses (CI : Addr) : Sp := fun vs H Q _ => ∃ p a i q t, vs = [.ref p, nV i, .ref q] ∧ Inst CI H p a ∧ i < a.agentCount ∧ LN H q t ∧ IsP a t ∧ RetP (pLLI (lossM a i t)) H Q
def sp_fits : Sp := fun vs H Q _ => ∃ q xs c gr, vs = [.ref q, nV c, .int gr] ∧ LI H q xs ∧ xs.length ≤ 100 ∧ RetV (.bl (fitsB xs c gr)) H Q
structure ScIn (CI : Addr) (H : Hp) (p w b q : Addr) (a : Instance) (ws bs : List Int) (t : List Nat) : Prop where
  inst : Inst CI H p a
  lw : LI H w ws
  wl : ws.length = a.agentCount
  wb : ∀ x ∈ ws, 0 ≤ x ∧ x ≤ 99
  lb : LI H b bs
  bl : bs.length = a.alternativeCount
  lt : LN H q t
  isp : IsP a t
theorem ScIn.mono {CI : Addr} {H H' : Hp} {p w b q : Addr} {a : Instance} {ws bs : List Int} {t : List Nat} (h : ScIn CI H p w b q a ws bs t) (e : Ex H H') : ScIn CI H' p w b q a ws bs t :=
  ⟨h.inst.mono e, h.lw.mono e, h.wl, h.wb, h.lb.mono e, h.bl, h.lt.mono e, h.isp⟩
def sp_score (CI : Addr) : Sp := fun vs H Q _ => ∃ p w b q x a ws bs t, vs = [.ref p, .ref w, .ref b, .ref q, nV x] ∧ ScIn CI H p w b q a ws bs t ∧ x < a.alternativeCount ∧ RetV (.int (scoreS a ws bs t x)) H Q
def sp_scores (CI : Addr) : Sp := fun vs H Q _ => ∃ p w b q a ws bs t, vs = [.ref p, .ref w, .ref b, .ref q] ∧ ScIn CI H p w b q a ws bs t ∧ RetL (((List.range a.alternativeCount).map (scoreS a ws bs t)).map V.int) H Q
def sp_best_alternative (CI : Addr) : Sp := fun vs H Q _ => ∃ p w b q a ws bs t, vs = [.ref p, .ref w, .ref b, .ref q] ∧ ScIn CI H p w b q a ws bs t ∧ RetV (nV (Su196.argmax a.alternatives (scoreS a ws bs t))) H Q
def sp_total_values (CI : Addr) : Sp := fun vs H Q _ => ∃ p q a t, vs = [.ref p, .ref q] ∧ Inst CI H p a ∧ LN H q t ∧ IsP a t ∧ RetL (((List.range a.alternativeCount).map (a.totalValue t)).map V.int) H Q
def sp_others_values (CI : Addr) : Sp := fun vs H Q _ => ∃ p i q a t, vs = [.ref p, nV i, .ref q] ∧ Inst CI H p a ∧ i < a.agentCount ∧ LN H q t ∧ IsP a t ∧ RetL (((List.range a.alternativeCount).map (a.othersValue i t)).map V.int) H Q
def sp_pivot_payment (CI : Addr) : Sp := fun vs H Q _ => ∃ p i q a t, vs = [.ref p, nV i, .ref q] ∧ Inst CI H p a ∧ i < a.agentCount ∧ LN H q t ∧ IsP a t ∧ RetV (.int (a.pivotPayment i t)) H Q
/-! the promises as what a call gives -/
section
variable {CI : Addr} {H : Hp} {p q w b : Addr} {a : Instance} {i k x : Nat} {t : List Nat} {ws bs : List Int}
theorem v_is_ready (h : Inst CI H p a) : SpV (sp_is_ready CI) [.ref p] H (.bl a.isReady) := fun _ e _ q _ => ⟨p, a, rfl, h.mono e, q⟩
theorem v_has_agent (h : Inst CI H p a) : SpV (sp_has_agent CI) [.ref p, nV i] H (.bl (decide (i < a.agentCount))) := fun _ e _ q _ => ⟨p, a, i, rfl, h.mono e, q⟩
theorem v_kind_count (h : Inst CI H p a) (hi : i < a.agentCount) : SpV (sp_kind_count CI) [.ref p, nV i] H (nV (a.typeCount i)) := fun _ e _ q _ => ⟨p, a, i, rfl, h.mono e, hi, q⟩
theorem v_has_kind (h : Inst CI H p a) (hi : i < a.agentCount) : SpV (sp_has_kind CI) [.ref p, nV i, nV k] H (.bl (decide (k < a.typeCount i))) := fun _ e _ q _ => ⟨p, a, i, k, rfl, h.mono e, hi, q⟩
theorem v_has_alternative (h : Inst CI H p a) : SpV (sp_has_alternative CI) [.ref p, nV x] H (.bl (decide (x < a.alternativeCount))) := fun _ e _ q _ => ⟨p, a, x, rfl, h.mono e, q⟩
theorem v_is_profile (h : Inst CI H p a) (ht : LN H q t) (hl : t.length ≤ 100) : SpV (sp_is_profile CI) [.ref p, .ref q] H (.bl (a.isProfile t)) := fun _ e _ z _ => ⟨p, a, q, t, rfl, h.mono e, ht.mono e, hl, z⟩
theorem v_place (h : Inst CI H p a) (ht : LN H q t) (hp : IsP a t) : SpV (sp_place CI) [.ref p, .ref q] H (nV (a.profileIndex t)) := fun _ e _ z _ => ⟨p, a, q, t, rfl, h.mono e, ht.mono e, hp, z⟩
theorem v_value (h : Inst CI H p a) (hi : i < a.agentCount) (hk : k < a.typeCount i) (hx : x < a.alternativeCount) : SpV (sp_value CI) [.ref p, nV i, nV k, nV x] H (.int (a.value i k x)) := fun _ e _ z _ => ⟨p, a, i, k, x, rfl, h.mono e, hi, hk, hx, z⟩
theorem v_allocated (h : Inst CI H p a) (ht : LN H q t) (hp : IsP a t) : SpV (sp_allocated CI) [.ref p, .ref q] H (nV (a.allocated t)) := fun _ e _ z _ => ⟨p, a, q, t, rfl, h.mono e, ht.mono e, hp, z⟩
theorem v_allocated_if (h : Inst CI H p a) (hi : i < a.agentCount) (hk : k < a.typeCount i) (ht : LN H q t) (hp : IsP a t) : SpV (sp_allocated_if CI) [.ref p, nV i, nV k, .ref q] H (nV (a.allocated (t.set i k))) := fun _ e _ z _ => ⟨p, a, i, k, q, t, rfl, h.mono e, hi, hk, ht.mono e, hp, z⟩
theorem v_profilesV {g : InstG} (h : InstV CI H p g a) : SpP (sp_profiles CI) [.ref p] H (pLLN a.profiles) := fun _ e _ z _ => ⟨p, a, g, rfl, h.mono e, z⟩
theorem v_profiles (h : Inst CI H p a) : SpP (sp_profiles CI) [.ref p] H (pLLN a.profiles) := by
  obtain ⟨g, h⟩ := h
  exact v_profilesV h.toInstV
theorem v_losses (h : Inst CI H p a) (hi : i < a.agentCount) (ht : LN H q t) (hp : IsP a t) : SpP (sp_losses CI) [.ref p, nV i, .ref q] H (pLLI (lossM a i t)) := fun _ e _ z _ => ⟨p, a, i, q, t, rfl, h.mono e, hi, ht.mono e, hp, z⟩
theorem v_fits {xs : List Int} {c : Nat} {gr : Int} (h : LI H q xs) (hl : xs.length ≤ 100) : SpV sp_fits [.ref q, nV c, .int gr] H (.bl (fitsB xs c gr)) := fun _ e _ z _ => ⟨q, xs, c, gr, rfl, h.mono e, hl, z⟩
theorem v_score (h : ScIn CI H p w b q a ws bs t) (hx : x < a.alternativeCount) : SpV (sp_score CI) [.ref p, .ref w, .ref b, .ref q, nV x] H (.int (scoreS a ws bs t x)) := fun _ e _ z _ => ⟨p, w, b, q, x, a, ws, bs, t, rfl, h.mono e, hx, z⟩
theorem v_scores (h : ScIn CI H p w b q a ws bs t) : SpL (sp_scores CI) [.ref p, .ref w, .ref b, .ref q] H (((List.range a.alternativeCount).map (scoreS a ws bs t)).map V.int) := fun _ e _ z _ => ⟨p, w, b, q, a, ws, bs, t, rfl, h.mono e, z⟩
theorem v_best (h : ScIn CI H p w b q a ws bs t) : SpV (sp_best_alternative CI) [.ref p, .ref w, .ref b, .ref q] H (nV (Su196.argmax a.alternatives (scoreS a ws bs t))) := fun _ e _ z _ => ⟨p, w, b, q, a, ws, bs, t, rfl, h.mono e, z⟩
theorem v_total_values (h : Inst CI H p a) (ht : LN H q t) (hp : IsP a t) : SpL (sp_total_values CI) [.ref p, .ref q] H (((List.range a.alternativeCount).map (a.totalValue t)).map V.int) := fun _ e _ z _ => ⟨p, q, a, t, rfl, h.mono e, ht.mono e, hp, z⟩
theorem v_others_values (h : Inst CI H p a) (hi : i < a.agentCount) (ht : LN H q t) (hp : IsP a t) : SpL (sp_others_values CI) [.ref p, nV i, .ref q] H (((List.range a.alternativeCount).map (a.othersValue i t)).map V.int) := fun _ e _ z _ => ⟨p, i, q, a, t, rfl, h.mono e, hi, ht.mono e, hp, z⟩
theorem v_pivot_payment (h : Inst CI H p a) (hi : i < a.agentCount) (ht : LN H q t) (hp : IsP a t) : SpV (sp_pivot_payment CI) [.ref p, nV i, .ref q] H (.int (a.pivotPayment i t)) := fun _ e _ z _ => ⟨p, i, q, a, t, rfl, h.mono e, hi, ht.mono e, hp, z⟩
end
end Tp

/-! # The promises about cycles and payments -/
namespace Tp
open PySem PySem.Spec PyProof.Rows L2
open Su196 (Instance)
open Evl (Ex Ev EvL EvT EvA EvO RetL RetV SpV SpL)
def sp_cycles_of : Sp := fun vs H Q _ => ∃ c m, vs = [nV c, nV m] ∧ c ≤ 4 ∧ (m = 4 ∨ m = 2) ∧ RetP (pLLN (cyc c m)) H Q
def sp_cycle_length : Sp := fun vs H Q _ => ∃ l q M n cs, vs = [.ref l, .ref q] ∧ LLI H l M ∧ Sq M n ∧ LN H q cs ∧ 1 ≤ cs.length ∧ cs.length ≤ 100 ∧ (∀ x ∈ cs, x < n) ∧ RetV (.int (cycSum M cs)) H Q
def optLN (o : Option (List Nat)) : V → Hp → Prop := fun v H => match o with
  | none => v = .non
  | some c => ∃ q, v = .ref q ∧ LN H q c
def sp_first_negative : Sp := fun vs H Q _ => ∃ l q M n css, vs = [.ref l, .ref q] ∧ LLI H l M ∧ Sq M n ∧ LLN H q css ∧ (∀ cs ∈ css, 1 ≤ cs.length ∧ cs.length ≤ 100 ∧ ∀ x ∈ cs, x < n) ∧ RetP (optLN (css.find? (negB M))) H Q
def sp_base_profiles (CI : Addr) : Sp := fun vs H Q _ => ∃ p i a, vs = [.ref p, nV i] ∧ Inst CI H p a ∧ i < a.agentCount ∧ RetP (pLLN (a.baseProfiles i)) H Q
def violL (o : Option (Nat × List Nat × List Nat)) : Option (List Nat) := o.map fun z => z.1 :: (z.2.1 ++ z.2.2)
def sp_first_violation (CI : Addr) : Sp := fun vs H Q _ => ∃ p m a, vs = [.ref p, nV m] ∧ Inst CI H p a ∧ (m = 4 ∨ m = 2) ∧ RetP (optLN (violL (viol a m))) H Q
def sp_are_truthful : Sp := fun vs H Q _ => ∃ l q M n ps, vs = [.ref l, .ref q] ∧ LLI H l M ∧ Sq M n ∧ n ≤ 100 ∧ LI H q ps ∧ ps.length = n ∧ RetV (.bl (trB M ps)) H Q
def sp_shortened : Sp := fun vs H Q _ => ∃ l h r xs ys, vs = [.ref l, .int h, .ref r] ∧ LI H l xs ∧ LI H r ys ∧ xs.length = ys.length ∧ xs.length ≤ 100 ∧ RetL ((shortL h xs ys).map V.int) H Q
def sp_distances : Sp := fun vs H Q _ => ∃ l M n, vs = [.ref l] ∧ LLI H l M ∧ Sq M n ∧ n ≤ 100 ∧ RetP (pLLI (fw M)) H Q
section
variable {CI : Addr} {H : Hp} {p q l r : Addr} {a : Instance} {i m c n : Nat} {cs : List Nat} {css : List (List Nat)} {M : List (List Int)} {xs ys : List Int}
theorem v_cycles_of (hc : c ≤ 4) (hm : m = 4 ∨ m = 2) : SpP sp_cycles_of [nV c, nV m] H (pLLN (cyc c m)) := fun _ _ _ z _ => ⟨c, m, rfl, hc, hm, z⟩
theorem v_cycle_length (h : LLI H l M) (s : Sq M n) (hq : LN H q cs) (h1 : 1 ≤ cs.length) (h2 : cs.length ≤ 100) (h3 : ∀ x ∈ cs, x < n) : SpV sp_cycle_length [.ref l, .ref q] H (.int (cycSum M cs)) := fun _ e _ z _ => ⟨l, q, M, n, cs, rfl, h.mono e, s, hq.mono e, h1, h2, h3, z⟩
theorem v_first_negative (h : LLI H l M) (s : Sq M n) (hq : LLN H q css) (h1 : ∀ cs ∈ css, 1 ≤ cs.length ∧ cs.length ≤ 100 ∧ ∀ x ∈ cs, x < n) : SpP sp_first_negative [.ref l, .ref q] H (optLN (css.find? (negB M))) := fun _ e _ z _ => ⟨l, q, M, n, css, rfl, h.mono e, s, hq.mono e, h1, z⟩
theorem v_base_profiles (h : Inst CI H p a) (hi : i < a.agentCount) : SpP (sp_base_profiles CI) [.ref p, nV i] H (pLLN (a.baseProfiles i)) := fun _ e _ z _ => ⟨p, i, a, rfl, h.mono e, hi, z⟩
theorem v_first_violation (h : Inst CI H p a) (hm : m = 4 ∨ m = 2) : SpP (sp_first_violation CI) [.ref p, nV m] H (optLN (violL (viol a m))) := fun _ e _ z _ => ⟨p, m, a, rfl, h.mono e, hm, z⟩
theorem v_are_truthful (h : LLI H l M) (s : Sq M n) (hn : n ≤ 100) (hq : LI H q xs) (hl : xs.length = n) : SpV sp_are_truthful [.ref l, .ref q] H (.bl (trB M xs)) := fun _ e _ z _ => ⟨l, q, M, n, xs, rfl, h.mono e, s, hn, hq.mono e, hl, z⟩
theorem v_shortened {h : Int} (h1 : LI H l xs) (h2 : LI H r ys) (h3 : xs.length = ys.length) (h4 : xs.length ≤ 100) : SpL sp_shortened [.ref l, .int h, .ref r] H ((shortL h xs ys).map V.int) := fun _ e _ z _ => ⟨l, h, r, xs, ys, rfl, h1.mono e, h2.mono e, h3, h4, z⟩
theorem v_distances (h : LLI H l M) (s : Sq M n) (hn : n ≤ 100) : SpP sp_distances [.ref l] H (pLLI (fw M)) := fun _ e _ z _ => ⟨l, M, n, rfl, h.mono e, s, hn, z⟩
end
end Tp

namespace Tp
open PySem PySem.Spec PyProof.Rows L2
open Su196 (Instance)
open Evl (Ex Ev EvL EvT EvA EvO RetL RetV SpV SpL)
section
variable {K : PySem.W.Frag} {σ : L2.St} {H H' : Hp} {ta tb tc te tx : TE} {t u : TT} {x y z v : V} {xs ys : List V} {D : Ends} {tu tw tz : TS}
theorem el_is {te : TE} {σ : L2.St} {H : Hp} {xs ys : List V} (h : EvL te σ H xs) (e : xs = ys) : EvL te σ H ys := e ▸ h
/-! loops over zip, enumerate -/
theorem s_forZip {a b : Addr} {tt : TA} {i j : Nat} (h : EvA tt σ H [.ref a, .ref b]) (hx : H a = some (.lst xs)) (hy : H b = some (.lst ys)) (Pv : Nat → L2.St → Hp → Prop) (h0 : ∀ H1, Ex H H1 → Pv 0 σ H1) (hG : ∀ n σ' H', Pv n σ' H' → H' a = some (.lst xs) ∧ H' b = some (.lst ys))
    (hs : ∀ (n : Nat) x y σ' H' H2, xs[n]? = some x → ys[n]? = some y → Pv n σ' H' → Ex H' H2 → tu { D with nx := Pv (n + 1), ct := Pv (n + 1), bk := D.nx } ((σ'.set i (some x)).set j (some y)) H2) (hd : ∀ σ' H', Pv (min xs.length ys.length) σ' H' → D.nx σ' H') :
    tFor (iZip K tt) (gPair K i j) tu D σ H := h H (Ex.refl H) _ fun H1 e1 => ⟨a, b, xs, ys, rfl, Evl.sq_of (e1 _ _ hx), Evl.sq_of (e1 _ _ hy),
  for_it (walk_zip (K := K) (a := a) (b := b) (xs := xs) (ys := ys) rfl) Pv (h0 H1 e1) (fun n σ' H' _ p => ⟨Evl.sq_of (hG n σ' H' p).1, Evl.sq_of (hG n σ' H' p).2⟩) (fun n x σ' H2 H3 _ p y => by
    obtain ⟨Tn, x1, y1, rfl, h1, rfl, e2, e3⟩ := y
    exact ⟨Tn, x1, y1, rfl, Or.inl (Or.inl upd_same), hs n x1 y1 σ' H2 _ e2 e3 p (Ex.new h1)⟩) hd⟩
theorem q_forZip {a b : Addr} {tt : TA} {i j : Nat} (h : EvA tt σ H [.ref a, .ref b]) (hx : H a = some (.lst xs)) (hy : H b = some (.lst ys)) (Pv : Nat → L2.St → Hp → Prop) (h0 : ∀ H1, Ex H H1 → Pv 0 σ H1) (hG : ∀ n σ' H', Pv n σ' H' → H' a = some (.lst xs) ∧ H' b = some (.lst ys))
    (hs : ∀ (n : Nat) x y σ' H' H2, xs[n]? = some x → ys[n]? = some y → Pv n σ' H' → Ex H' H2 → tu { D with nx := Pv (n + 1), ct := Pv (n + 1), bk := tz D } ((σ'.set i (some x)).set j (some y)) H2) (hd : ∀ σ' H', Pv (min xs.length ys.length) σ' H' → tz D σ' H') :
    tSeq (tFor (iZip K tt) (gPair K i j) tu) tz D σ H := s_forZip (D := { D with nx := tz D }) h hx hy Pv h0 hG hs hd
theorem s_forEnum {a : Addr} {tt : TA} {i j : Nat} (h : EvA tt σ H [.ref a]) (hx : H a = some (.lst xs)) (Pv : Nat → L2.St → Hp → Prop) (h0 : ∀ H1, Ex H H1 → Pv 0 σ H1) (hG : ∀ n σ' H', Pv n σ' H' → H' a = some (.lst xs))
    (hs : ∀ (n : Nat) x σ' H' H2, xs[n]? = some x → Pv n σ' H' → Ex H' H2 → tu { D with nx := Pv (n + 1), ct := Pv (n + 1), bk := D.nx } ((σ'.set i (some (nV n))).set j (some x)) H2) (hd : ∀ σ' H', Pv xs.length σ' H' → D.nx σ' H') :
    tFor (iEnum K tt) (gPair K i j) tu D σ H := h H (Ex.refl H) _ fun H1 e1 => ⟨a, xs, rfl, Evl.sq_of (e1 _ _ hx),
  for_it (walk_enum (K := K) (a := a) (xs := xs)) Pv (h0 H1 e1) (fun n σ' H' _ p => Evl.sq_of (hG n σ' H' p)) (fun n x σ' H2 H3 _ p y => by
    obtain ⟨Tn, x1, y1, rfl, h1, rfl, e2, e3⟩ := y
    cases Option.some.inj e2
    exact ⟨Tn, nV n, y1, rfl, Or.inl (Or.inl upd_same), hs n y1 σ' H2 _ e3 p (Ex.new h1)⟩) hd⟩
theorem q_forEnum {a : Addr} {tt : TA} {i j : Nat} (h : EvA tt σ H [.ref a]) (hx : H a = some (.lst xs)) (Pv : Nat → L2.St → Hp → Prop) (h0 : ∀ H1, Ex H H1 → Pv 0 σ H1) (hG : ∀ n σ' H', Pv n σ' H' → H' a = some (.lst xs))
    (hs : ∀ (n : Nat) x σ' H' H2, xs[n]? = some x → Pv n σ' H' → Ex H' H2 → tu { D with nx := Pv (n + 1), ct := Pv (n + 1), bk := tz D } ((σ'.set i (some (nV n))).set j (some x)) H2) (hd : ∀ σ' H', Pv xs.length σ' H' → tz D σ' H') :
    tSeq (tFor (iEnum K tt) (gPair K i j) tu) tz D σ H := s_forEnum (D := { D with nx := tz D }) h hx Pv h0 hG hs hd
theorem q_ext {l : Addr} {zs : List V} (hl : H l = some (.lst xs)) (ha : Ev ta σ H (.ref l)) (h : EvX te σ H zs) (hz : xs.length + zs.length ≤ 100000) (k : ∀ H1, Ex H H1 → tz D σ (upd H1 l (.lst (xs ++ zs)))) :
    tSeq (tDrop (tBM K "list" rExtend ta (tCons te tNil))) tz D σ H := s_ext (D := { D with nx := tz D }) hl ha h hz k
/-! comprehensions that make new lists -/
/-- a new list of new lists -/
def NewLL (H1 : Hp) (yss : List (List V)) (p : Addr) (ps : List Addr) (H2 : Hp) : Prop :=
  H1 p = none ∧ Ex H1 H2 ∧ H2 p = some (.lst (ps.map V.ref)) ∧ ps.length = yss.length ∧ ∀ (k : Nat) q ys, ps[k]? = some q → yss[k]? = some ys → H1 q = none ∧ q ≠ p ∧ H2 q = some (.lst ys)
def EvLL (te : TE) (σ : L2.St) (H : Hp) (yss : List (List V)) : Prop := ∀ H1, Ex H H1 → ∀ Q : VK, (∀ p ps H2, NewLL H1 yss p ps H2 → Q (.ref p) H2) → te σ H1 Q
def picked (n : Nat) (f : Nat → Bool) (ys : Nat → List V) : List (List V) := ((List.range n).filter f).map ys
theorem picked_yes {n : Nat} {f : Nat → Bool} {v : Nat → List V} (h : f n = true) : picked (n + 1) f v = picked n f v ++ [v n] := by
  unfold picked
  rw [List.range_succ, List.filter_append, List.map_append, List.filter_cons, if_pos h] <;> rfl
theorem picked_no {n : Nat} {f : Nat → Bool} {v : Nat → List V} (h : f n = false) : picked (n + 1) f v = picked n f v := by
  unfold picked
  rw [List.range_succ, List.filter_append, List.map_append, List.filter_cons, if_neg (by rw [h]; decide)]
  show _ ++ [] = _
  rw [List.append_nil]
theorem picked_len (n : Nat) (f : Nat → Bool) (v : Nat → List V) : (picked n f v).length ≤ n := by
  unfold picked
  rw [List.length_map]
  have h := List.length_filter_le f (List.range n)
  rw [List.length_range] at h
  exact h
theorem picked_all {n : Nat} {v : Nat → List V} : picked n (fun _ => true) v = (List.range n).map v := by
  unfold picked
  rw [List.filter_eq_self.mpr (fun _ _ => rfl)]
def Nw (H1 : Hp) (D : Addr) (yss : List (List V)) (H : Hp) : Prop := ∃ ps, NewLL H1 yss D ps H
theorem nw_turn {H1 H' : Hp} {f : Nat → Bool} {ys : Nat → List V} {Dl : Addr} {i : Nat} {σ2 : L2.St} (p : Nw H1 Dl (picked i f ys) H') (hi : i < 50000) (ht : EvT t σ2 H1 (f i)) (he : f i = true → EvL te σ2 H1 (ys i)) :
    t σ2 H' fun b H3 => if b = true then te σ2 H3 fun y H4 => ∃ acc, H4 Dl = some (.lst acc) ∧ acc.length < sizeLine ∧ Nw H1 Dl (picked (i + 1) f ys) (upd H4 Dl (.lst (acc ++ [y]))) else Nw H1 Dl (picked (i + 1) f ys) H3 := by
  obtain ⟨ps, p1, p2, p3, p4, p5⟩ := p
  refine ht H' p2 _ fun H3 e3 => ?_
  cases hf : f i with
  | true =>
    refine iteT (he hf H3 (p2.trans e3) _ fun q H4 hq e4 hq4 => ⟨ps.map V.ref, e4 Dl _ (e3 Dl _ p3), Evl.sz_lt (by rw [List.length_map, p4]; have := picked_len i f ys; omega), ps ++ [q], p1, Ex.mut ((p2.trans e3).trans e4) p1, ?_, ?_, ?_⟩)
    · rw [List.map_append]
      exact upd_same
    · rw [picked_yes hf, List.length_append, List.length_append, p4] <;> rfl
    · intro k q' ys' hk hy
      have qD : q ≠ Dl := fun z => by
        subst z
        rw [e3 _ _ p3] at hq
        cases hq
      rw [picked_yes hf] at hy
      by_cases c : k < ps.length
      · rw [List.getElem?_append_left c] at hk
        rw [List.getElem?_append_left (by rw [← p4]; exact c)] at hy
        obtain ⟨g1, g2, g3⟩ := p5 k q' ys' hk hy
        refine ⟨g1, g2, ?_⟩
        rw [upd_ne g2]
        exact e4 _ _ (e3 _ _ g3)
      · have hk' := (List.getElem?_eq_some_iff.mp hk).1
        rw [List.length_append] at hk'
        have e : k = ps.length := by
          have : ([q] : List Addr).length = 1 := rfl
          omega
        subst e
        rw [List.getElem?_append_right (Nat.le_refl _), Nat.sub_self] at hk
        rw [p4, List.getElem?_append_right (Nat.le_refl _), Nat.sub_self] at hy
        cases hk
        cases hy
        refine ⟨Evl.fresh_back (p2.trans e3) hq, qD, ?_⟩
        rw [upd_ne qD]
        exact hq4
  | false =>
    refine iteF ⟨ps, p1, p2.trans e3, e3 _ _ p3, ?_, ?_⟩
    · rw [picked_no hf]
      exact p4
    · intro k q' ys' hk hy
      rw [picked_no hf] at hy
      obtain ⟨g1, g2, g3⟩ := p5 k q' ys' hk hy
      exact ⟨g1, g2, e3 _ _ g3⟩
theorem nw_start {H1 : Hp} {Dl : Addr} {f : Nat → Bool} {ys : Nat → List V} (h : H1 Dl = none) : Nw H1 Dl (picked 0 f ys) (upd H1 Dl (.lst [])) :=
  ⟨[], h, Ex.new h, upd_same, rfl, fun k q ys' hk _ => by simp at hk⟩
theorem NewLL.back {H0 H1 H2 : Hp} {yss : List (List V)} {p : Addr} {ps : List Addr} (h : NewLL H1 yss p ps H2) (e : Ex H0 H1) : NewLL H0 yss p ps H2 :=
  ⟨Evl.fresh_back e h.1, e.trans h.2.1, h.2.2.1, h.2.2.2.1, fun k q ys a b => ⟨Evl.fresh_back e (h.2.2.2.2 k q ys a b).1, (h.2.2.2.2 k q ys a b).2⟩⟩
theorem ell_lcR1 {tt : TA} {j : Nat} {vs : List Nat} {n : Nat} (f : Nat → Bool) (ys : Nat → List V) (h : EvA tt σ H [nV n]) (hn : n ≤ 40000) (hw : ∀ x, wipe ((wipe σ vs).set j (some x)) vs = wipe σ vs)
    (ht : ∀ (i : Nat) H1, Ex H H1 → i < n → EvT t ((wipe σ vs).set j (some (nV i))) H1 (f i)) (he : ∀ (i : Nat) H1, Ex H H1 → i < n → f i = true → EvL te ((wipe σ vs).set j (some (nV i))) H1 (ys i)) :
    EvLL (tLc (iRng1 tt) (gName j) t te vs) σ H (picked n f ys) := fun H0 e Q q => h H0 e _ fun H1 e1 => ⟨(n : Int), rfl, by omega, by omega, fun Dl hD =>
  lc_it (walk_range (lo := 0) (n := ((n : Int)).toNat)) (fun i H' => Nw H1 Dl (picked i f ys) H') (nw_start hD) (fun _ _ _ _ => trivial) (fun i x H2 H3 hi p y => by
    obtain ⟨rfl, y2⟩ := y
    have y3 : x = nV i := y2.trans (congrArg V.int (Int.zero_add _))
    subst y3
    rw [Int.toNat_natCast] at hi
    exact ⟨hw _, nw_turn p (by omega) (ht i H1 (e.trans e1) hi) (fun hf => he i H1 (e.trans e1) hi hf)⟩) (fun H' p => by
    obtain ⟨ps, p⟩ := p
    rw [Int.toNat_natCast] at p
    exact q Dl ps H' (p.back e1))⟩
theorem ell_lcR2 {tt : TA} {j : Nat} {vs : List Nat} {lo hi : Nat} (f : Nat → Bool) (ys : Nat → List V) (h : EvA tt σ H [nV lo, nV hi]) (hn : hi ≤ 40000) (hlo : lo ≤ 40000) (hw : ∀ x, wipe ((wipe σ vs).set j (some x)) vs = wipe σ vs)
    (ht : ∀ (i : Nat) H1, Ex H H1 → lo + i < hi → EvT t ((wipe σ vs).set j (some (nV (lo + i)))) H1 (f i)) (he : ∀ (i : Nat) H1, Ex H H1 → lo + i < hi → f i = true → EvL te ((wipe σ vs).set j (some (nV (lo + i)))) H1 (ys i)) :
    EvLL (tLc (iRng2 tt) (gName j) t te vs) σ H (picked (hi - lo) f ys) := fun H0 e Q q => h H0 e _ fun H1 e1 => ⟨(lo : Int), (hi : Int), rfl, ⟨by omega, by omega, by omega, by omega⟩, fun Dl hD =>
  lc_it (walk_range (lo := (lo : Int)) (n := ((hi : Int) - (lo : Int)).toNat)) (fun i H' => Nw H1 Dl (picked i f ys) H') (nw_start hD) (fun _ _ _ _ => trivial) (fun i x H2 H3 hi' p y => by
    obtain ⟨rfl, y2⟩ := y
    have y3 : x = nV (lo + i) := y2.trans (congrArg V.int (Int.natCast_add _ _).symm)
    subst y3
    have hb : lo + i < hi := by omega
    exact ⟨hw _, nw_turn p (by omega) (ht i H1 (e.trans e1) hb) (fun hf => he i H1 (e.trans e1) hb hf)⟩) (fun H' p => by
    obtain ⟨ps, p⟩ := p
    have e2 : ((hi : Int) - (lo : Int)).toNat = hi - lo := by omega
    rw [e2] at p
    exact q Dl ps H' (p.back e1))⟩
theorem ell_lcL {a : Addr} {tl : TE} {j : Nat} {vs : List Nat} (f : Nat → Bool) (ys : Nat → List V) (h : Ev tl σ H (.ref a)) (hx : H a = some (.lst xs)) (hz : xs.length ≤ 40000) (hw : ∀ x, wipe ((wipe σ vs).set j (some x)) vs = wipe σ vs)
    (ht : ∀ (i : Nat) (x : V) H1, Ex H H1 → xs[i]? = some x → EvT t ((wipe σ vs).set j (some x)) H1 (f i)) (he : ∀ (i : Nat) (x : V) H1, Ex H H1 → xs[i]? = some x → f i = true → EvL te ((wipe σ vs).set j (some x)) H1 (ys i)) :
    EvLL (tLc (iList K tl) (gName j) t te vs) σ H (picked xs.length f ys) := fun H0 e Q q => h H0 e _ fun H1 e1 => ⟨a, rfl, ⟨xs, Evl.sq_of (e1 _ _ (e _ _ hx))⟩, fun Dl hD =>
  lc_it (walk_list (K := K) (a := a) (xs := xs)) (fun i H' => Nw H1 Dl (picked i f ys) H') (nw_start hD) (fun i H' _ p => by
    obtain ⟨ps, p⟩ := p
    exact Evl.sq_of (p.2.1 _ _ (e1 _ _ (e _ _ hx)))) (fun i x H2 H3 hi p y => by
    obtain ⟨rfl, hy⟩ := y
    exact ⟨hw _, nw_turn p (by omega) (ht i x H1 (e.trans e1) hy) (fun hf => he i x H1 (e.trans e1) hy hf)⟩) (fun H' p => by
    obtain ⟨ps, p⟩ := p
    exact q Dl ps H' (p.back e1))⟩
theorem NewLL.lln {H1 H2 : Hp} {xss : List (List Nat)} {p : Addr} {ps : List Addr} (h : NewLL H1 (xss.map fun xs => xs.map nV) p ps H2) : LLN H2 p xss := by
  obtain ⟨h1, h2, h3, h4, h5⟩ := h
  refine ⟨ps, h3, by rw [h4, List.length_map], fun i q x a b => ?_⟩
  exact (h5 i q (x.map nV) a (by rw [List.getElem?_map, b] <;> rfl)).2.2
theorem NewLL.lli {H1 H2 : Hp} {xss : List (List Int)} {p : Addr} {ps : List Addr} (h : NewLL H1 (xss.map fun xs => xs.map V.int) p ps H2) : LLI H2 p xss := by
  obtain ⟨h1, h2, h3, h4, h5⟩ := h
  refine ⟨ps, h3, by rw [h4, List.length_map], fun i q x a b => ?_⟩
  exact (h5 i q (x.map V.int) a (by rw [List.getElem?_map, b] <;> rfl)).2.2
theorem EvLL.is {yss zss : List (List V)} (h : EvLL te σ H yss) (e : yss = zss) : EvLL te σ H zss := e ▸ h
theorem q_asgLL {i : Nat} {yss : List (List V)} (h : EvLL te σ H yss) (k : ∀ p ps H1, NewLL H yss p ps H1 → tz D (σ.set i (some (.ref p))) H1) : tSeq (tAsg te (gName i)) tz D σ H := h H (Ex.refl H) _ k
theorem s_asgLL {i : Nat} {yss : List (List V)} (h : EvLL te σ H yss) (k : ∀ p ps H1, NewLL H yss p ps H1 → D.nx (σ.set i (some (.ref p))) H1) : tAsg te (gName i) D σ H := h H (Ex.refl H) _ k
/-- xs.extend of a new list of new lists -/
theorem s_extLL {l : Addr} {yss : List (List V)} (hl : H l = some (.lst xs)) (ha : Ev ta σ H (.ref l)) (h : EvLL te σ H yss) (hz : xs.length + yss.length ≤ 100000) (k : ∀ p ps H1, NewLL H yss p ps H1 → D.nx σ (upd H1 l (.lst (xs ++ ps.map V.ref)))) :
    tDrop (tBM K "list" rExtend ta (tCons te tNil)) D σ H := ha H (Ex.refl H) _ fun H1 e1 =>
  ⟨Or.inl ⟨rfl, xs, Evl.sq_of (e1 l _ hl)⟩, h H1 e1 _ fun p ps H2 nw => ⟨l, p, xs, ps.map V.ref, rfl, rfl, nw.2.1 _ _ (e1 l _ hl), nw.2.2.1, Evl.sz_of (by rw [List.length_map, nw.2.2.2.1]; exact hz), k p ps H2 (nw.back e1)⟩⟩
/-! a list that a loop fills with new lists -/
def Acc {α : Type} (R : Hp → Addr → α → Prop) (f : Addr) (xs : List α) (H : Hp) : Prop := ∃ ps : List Addr, H f = some (.lst (ps.map V.ref)) ∧ ps.length = xs.length ∧ ∀ (i : Nat) q x, ps[i]? = some q → xs[i]? = some x → q ≠ f ∧ R H q x
theorem Acc.lr {α : Type} {R : Hp → Addr → α → Prop} {f : Addr} {xs : List α} (h : Acc R f xs H) : LR R H f xs := by
  obtain ⟨ps, h1, h2, h3⟩ := h
  exact ⟨ps, h1, h2, fun i q x a b => (h3 i q x a b).2⟩
theorem Acc.mono {α : Type} {R : Hp → Addr → α → Prop} (hR : ∀ H H' q x, Ex H H' → R H q x → R H' q x) {f : Addr} {xs : List α} (h : Acc R f xs H) (e : Ex H H') : Acc R f xs H' := by
  obtain ⟨ps, h1, h2, h3⟩ := h
  exact ⟨ps, e _ _ h1, h2, fun i q x a b => ⟨(h3 i q x a b).1, hR _ _ _ _ e (h3 i q x a b).2⟩⟩
theorem acc_nil {α : Type} {R : Hp → Addr → α → Prop} {f : Addr} (h : H f = some (.lst [])) : Acc R f ([] : List α) H := ⟨[], h, rfl, fun i q x a _ => by simp at a⟩
/-- more references behind: qs, each of another place than f -/
theorem acc_more {α : Type} {R : Hp → Addr → α → Prop} (hR : ∀ H f o q x, q ≠ f → R H q x → R (upd H f o) q x) {f : Addr} {xs zs : List α} {ps qs : List Addr} (h2 : ps.length = xs.length) (h3 : ∀ (i : Nat) q x, ps[i]? = some q → xs[i]? = some x → q ≠ f ∧ R H q x)
    (h4 : qs.length = zs.length) (h5 : ∀ (i : Nat) q x, qs[i]? = some q → zs[i]? = some x → q ≠ f ∧ R H q x) : Acc R f (xs ++ zs) (upd H f (.lst (ps.map V.ref ++ qs.map V.ref))) := by
  refine ⟨ps ++ qs, by rw [List.map_append]; exact upd_same, by rw [List.length_append, List.length_append, h2, h4], fun i q x a b => ?_⟩
  by_cases c : i < ps.length
  · rw [List.getElem?_append_left c] at a
    rw [List.getElem?_append_left (by rw [← h2]; exact c)] at b
    obtain ⟨g1, g2⟩ := h3 i q x a b
    exact ⟨g1, hR _ _ _ _ _ g1 g2⟩
  · rw [List.getElem?_append_right (by omega)] at a
    rw [List.getElem?_append_right (by omega), ← h2] at b
    obtain ⟨g1, g2⟩ := h5 _ q x a b
    exact ⟨g1, hR _ _ _ _ _ g1 g2⟩
theorem LI.upd {f q : Addr} {o : HO} {xs : List Int} (n : q ≠ f) (h : LI H q xs) : LI (upd H f o) q xs := by
  unfold LI
  rw [upd_ne n]
  exact h
theorem LN.upd {f q : Addr} {o : HO} {xs : List Nat} (n : q ≠ f) (h : LN H q xs) : LN (upd H f o) q xs := by
  unfold LN
  rw [upd_ne n]
  exact h
end
end Tp

namespace Tp
open PySem PySem.Spec PyProof.Rows L2
open Su196 (Instance)
open Evl (Ex Ev EvL EvT EvA EvO RetL RetV SpV SpL)
section
variable {P : Program} {w : World} {K : PySem.W.Frag} {mg : Str → Option Value} {base : Heap} {CW CI aS : Addr}

theorem chain_nat (i n : Nat) : V.bl (decide ((0 : Int) ≤ (i : Int)) && decide ((i : Int) < (n : Int))) = V.bl (decide (i < n)) := by
  have h : decide ((0 : Int) ≤ (i : Int)) = true := decide_eq_true (Int.natCast_nonneg _)
  rw [h, Bool.true_and]
  congr 1
  exact decide_eq_decide.mpr Int.ofNat_lt
theorem ready_iff {a : Instance} (h : WF a) : ((List.range a.types.length).map fun i => decide (0 < a.typeCount i)).all id = a.isReady := by
  unfold Instance.isReady
  rw [Bool.eq_iff_iff, List.all_eq_true, List.all_eq_true]
  constructor
  · intro z ty hty
    obtain ⟨i, hi, rfl⟩ := List.getElem_of_mem hty
    have k := z (decide (0 < a.typeCount i)) (List.mem_map.mpr ⟨i, List.mem_range.mpr hi, rfl⟩)
    have k2 : 0 < a.typeCount i := of_decide_eq_true k
    unfold Instance.typeCount Instance.typesOf at k2
    have e : a.types.getD i [] = a.types[i] := by simp [List.getD, hi]
    rw [e] at k2
    simpa [List.isEmpty_iff] using List.ne_nil_of_length_pos k2
  · intro z b hb
    obtain ⟨i, hi, rfl⟩ := List.mem_map.mp hb
    have hi' := List.mem_range.mp hi
    have k := z a.types[i] (List.getElem_mem hi')
    show decide (0 < a.typeCount i) = true
    apply decide_eq_true
    unfold Instance.typeCount Instance.typesOf
    have e : a.types.getD i [] = a.types[i] := by simp [List.getD, hi']
    rw [e]
    apply List.length_pos_iff.mpr
    simpa [List.isEmpty_iff] using k
theorem isProfile_all {a : Instance} {t : List Nat} (ht : t.length = a.agentCount) : ((List.range t.length).map fun i => decide (t.getD i 0 < a.typeCount i)).all id = a.isProfile t := by
  unfold Instance.isProfile Instance.agents
  rw [ht, List.all_map]
  simp
theorem isProfile_ne {a : Instance} {t : List Nat} (ht : ¬ t.length = a.agentCount) : a.isProfile t = false := by
  unfold Instance.isProfile
  simp [ht]

abbrev s_m_has_agent : Stmt := inClass (topS 2) 2
theorem sc_m_has_agent : FnScope ["self", "agent"] ["self", "agent"] (defScope s_m_has_agent) := ⟨rfl, rfl, rfl, by decide +kernel, rfl, by decide +kernel, by decide +kernel⟩
theorem ok_m_has_agent {f : Addr} {fd : FuncData} (F : Fun K "has_agent" "Instance.has_agent" s_m_has_agent f fd) (T : Txt K mg CW CI aS) : FnOk P w K mg base CX0 1 f fd ["self", "agent"] (sp_has_agent CI) := by
  have nd := sc_m_has_agent.nd
  refine F.ok sc_m_has_agent (fun vs H Q E h => ?_) (fun cdv A outer s H vs Q E hr h => ⟨_, (pss_one (ps_ret (pe_chain opLe opLt pe_int (pv 1) (pe_fld (pv 0) rfl)))), ?_⟩)
  · obtain ⟨p, a, i, rfl, hI, k⟩ := h
    rfl
  · obtain ⟨p, a, i, rfl, hI, k⟩ := h
    exact Evl.s_ret (Evl.ev_is (ev_chain Evl.ev_c (Evl.ev_var rfl) (ev_ac T hI (Evl.ev_var rfl))) (chain_nat _ _)) k

abbrev s_m_kind_count : Stmt := inClass (topS 2) 3
theorem sc_m_kind_count : FnScope ["self", "agent"] ["self", "agent"] (defScope s_m_kind_count) := ⟨rfl, rfl, rfl, by decide +kernel, rfl, by decide +kernel, by decide +kernel⟩
theorem ok_m_kind_count {f : Addr} {fd : FuncData} (F : Fun K "kind_count" "Instance.kind_count" s_m_kind_count f fd) (T : Txt K mg CW CI aS) : FnOk P w K mg base CX0 1 f fd ["self", "agent"] (sp_kind_count CI) := by
  have nd := sc_m_kind_count.nd
  refine F.ok sc_m_kind_count (fun vs H Q E h => ?_) (fun cdv A outer s H vs Q E hr h => ⟨_, (pss_one (ps_ret (pe_callB (call_len1 (K := K) rfl) (by rfl) T.b_len PySem.boot_len (pa_cons (pe_ix (ixL (K := K) rfl) (pe_fld (pv 0) rfl) (pv 1) (fun _ _ => rfl)) pa_nil)))), ?_⟩)
  · obtain ⟨p, a, i, rfl, hI, hi, k⟩ := h
    rfl
  · obtain ⟨p, a, i, rfl, hI, hi, k⟩ := h
    obtain ⟨g, hI⟩ := hI
    obtain ⟨kk, h1, h2, h3, h4⟩ := hI.kind hi
    refine Evl.s_ret (Evl.ev_is (Evl.ev_len (ev_valuations_at T hI h1 (Evl.ev_var rfl) (Evl.ev_var rfl)) (Evl.sq_of h2)) ?_) k
    rw [List.length_map, h3]

abbrev s_m_has_kind : Stmt := inClass (topS 2) 4
theorem sc_m_has_kind : FnScope ["self", "agent", "kind"] ["self", "agent", "kind"] (defScope s_m_has_kind) := ⟨rfl, rfl, rfl, by decide +kernel, rfl, by decide +kernel, by decide +kernel⟩
theorem ok_m_has_kind {f : Addr} {fd : FuncData} (F : Fun K "has_kind" "Instance.has_kind" s_m_has_kind f fd) (T : Txt K mg CW CI aS) (G_m_kind_count : C8.Met P w K mg base 1 CI "kind_count" (sp_kind_count CI) []) : FnOk P w K mg base CX0 2 f fd ["self", "agent", "kind"] (sp_has_kind CI) := by
  have nd := sc_m_has_kind.nd
  refine F.ok sc_m_has_kind (fun vs H Q E h => ?_) (fun cdv A outer s H vs Q E hr h => ⟨_, (pss_one (ps_ret (pe_chain opLe opLt pe_int (pv 2) (C8.pe_mt G_m_kind_count hr (by decide) (pv 0) (by exact (pa_cons (pv 1) pa_nil)))))), ?_⟩)
  · obtain ⟨p, a, i, kd, rfl, hI, hi, k⟩ := h
    rfl
  · obtain ⟨p, a, i, kd, rfl, hI, hi, k⟩ := h
    exact Evl.s_ret (Evl.ev_is (ev_chain Evl.ev_c (Evl.ev_var rfl) (ev_m hI (fun _ _ _ _ => fs_kind_count) (Evl.ev_var rfl) (Evl.ea_cons (Evl.ev_var rfl) Evl.ea_nil) (v_kind_count hI hi))) (chain_nat _ _)) k

abbrev s_m_has_alternative : Stmt := inClass (topS 2) 5
theorem sc_m_has_alternative : FnScope ["self", "alternative"] ["self", "alternative"] (defScope s_m_has_alternative) := ⟨rfl, rfl, rfl, by decide +kernel, rfl, by decide +kernel, by decide +kernel⟩
theorem ok_m_has_alternative {f : Addr} {fd : FuncData} (F : Fun K "has_alternative" "Instance.has_alternative" s_m_has_alternative f fd) (T : Txt K mg CW CI aS) : FnOk P w K mg base CX0 1 f fd ["self", "alternative"] (sp_has_alternative CI) := by
  have nd := sc_m_has_alternative.nd
  refine F.ok sc_m_has_alternative (fun vs H Q E h => ?_) (fun cdv A outer s H vs Q E hr h => ⟨_, (pss_one (ps_ret (pe_chain opLe opLt pe_int (pv 1) (pe_fld (pv 0) rfl)))), ?_⟩)
  · obtain ⟨p, a, i, rfl, hI, k⟩ := h
    rfl
  · obtain ⟨p, a, i, rfl, hI, k⟩ := h
    exact Evl.s_ret (Evl.ev_is (ev_chain Evl.ev_c (Evl.ev_var rfl) (ev_lc T hI (Evl.ev_var rfl))) (chain_nat _ _)) k

abbrev s_m_is_ready : Stmt := inClass (topS 2) 1
theorem sc_m_is_ready : FnScope ["self", "kinds"] ["self"] (defScope s_m_is_ready) := ⟨rfl, rfl, rfl, by decide +kernel, rfl, by decide +kernel, by decide +kernel⟩
theorem ok_m_is_ready {f : Addr} {fd : FuncData} (F : Fun K "is_ready" "Instance.is_ready" s_m_is_ready f fd) (T : Txt K mg CW CI aS) : FnOk P w K mg base CX0 1 f fd ["self"] (sp_is_ready CI) := by
  have nd := sc_m_is_ready.nd
  refine F.ok sc_m_is_ready (fun vs H Q E h => ?_) (fun cdv A outer s H vs Q E hr h => ⟨_, (pss_one (ps_ret (pe_callB (cr_all rfl) (by rfl) T.b_all (by decide +kernel) (pa_cons (pe_lc (own := [("kinds", 1)]) rfl nd (pi_list (pe_fld (pv 0) rfl)) (blkOk_by (N := ["self", "kinds"]) (sc := defScope s_m_is_ready) (by decide +kernel)) (fun _ _ _ _ _ => (pg_name (i := 1) nd rfl (Or.inl rfl))) (fun _ _ _ _ _ => pts_nil) (fun _ _ _ _ _ => (pe_cmpR opGt (pe_callB (call_len1 (K := K) rfl) (by rfl) T.b_len PySem.boot_len (pa_cons (pv 1) pa_nil)) pe_int (nomark _)))) pa_nil)))), ?_⟩)
  · obtain ⟨p, a, rfl, hI, k⟩ := h
    rfl
  · obtain ⟨p, a, rfl, hI, k⟩ := h
    rw [← ready_iff hI.wf] at k
    obtain ⟨g, hI⟩ := hI
    refine Evl.s_ret (ev_all (el_is (Evl.el_lcL (fun _ => true) (fun i => V.bl (decide (0 < a.typeCount i))) (ev_vl T hI (Evl.ev_var rfl)) (Evl.sq_of hI.vl) ?_ (fun _ => rfl) (fun i x H1 e1 hx => et_yes) (fun i x H1 e1 hx _ => ?_)) ?_)) k
    · rw [List.length_map, hI.kl, hI.wf.tl]
      have := hI.wf.n3
      omega
    · obtain ⟨kk, h1, rfl⟩ := map_at' hx
      have hi : i < a.agentCount := by
        rw [← hI.wf.tl, ← hI.kl]
        exact (List.getElem?_eq_some_iff.mp h1).1
      obtain ⟨k2, g1, g2, g3, g4⟩ := hI.kind hi
      cases g1.symm.trans h1
      refine Evl.ev_is (ev_gt (Evl.ev_len (Evl.ev_var rfl) (Evl.sq_of (e1 _ _ g2))) Evl.ev_c) ?_
      rw [List.length_map, g3]
      congr 1
      exact decide_eq_decide.mpr Int.natCast_pos
    · rw [given_all, List.length_map, hI.kl, List.map_map]
      rfl

abbrev s_m_is_profile : Stmt := inClass (topS 2) 6
theorem sc_m_is_profile : FnScope ["self", "profile", "agent", "kind"] ["self", "profile"] (defScope s_m_is_profile) := ⟨rfl, rfl, rfl, by decide +kernel, rfl, by decide +kernel, by decide +kernel⟩
theorem ok_m_is_profile {f : Addr} {fd : FuncData} (F : Fun K "is_profile" "Instance.is_profile" s_m_is_profile f fd) (T : Txt K mg CW CI aS) (G_m_has_kind : C8.Met P w K mg base 2 CI "has_kind" (sp_has_kind CI) []) : FnOk P w K mg base CX0 3 f fd ["self", "profile"] (sp_is_profile CI) := by
  have nd := sc_m_is_profile.nd
  refine F.ok sc_m_is_profile (fun vs H Q E h => ?_) (fun cdv A outer s H vs Q E hr h => ⟨_, (pss_cons (ps_if (pt_cmpR op_ne (pe_callB (call_len1 (K := K) rfl) (by rfl) T.b_len PySem.boot_len (pa_cons (pv 1) pa_nil)) (pe_fld (pv 0) rfl) (nomark _))
   (pss_one (ps_ret pe_bl)) pss_nil)
  (pss_one (ps_ret (pe_callB (cr_all rfl) (by rfl) T.b_all (by decide +kernel) (pa_cons (pe_lc (own := [("agent", 2), ("kind", 3)]) rfl nd (pi_enum (by rfl) T.b_enumerate (pa_cons (pv 1) pa_nil)) (blkOk_by (N := ["self", "profile", "agent", "kind"]) (sc := defScope s_m_is_profile) (by decide +kernel)) (fun _ _ _ _ _ => (pg_pair (K := K) (i := 2) (j := 3) rfl rfl nd rfl (by first | exact Or.inl rfl | exact Or.inr rfl) (by first | exact Or.inl rfl | exact Or.inr rfl) rfl (by first | exact Or.inl rfl | exact Or.inr rfl) (by first | exact Or.inl rfl | exact Or.inr rfl))) (fun _ _ _ _ _ => pts_nil) (fun _ _ _ _ _ => (C8.pe_mt G_m_has_kind hr (by decide) (pv 0) (by exact (pa_cons (pv 2) (pa_cons (pv 3) pa_nil)))))) pa_nil))))), ?_⟩)
  · obtain ⟨p, a, q, t, rfl, hI, hq, hl, k⟩ := h
    rfl
  · obtain ⟨p, a, q, t, rfl, hI, hq, hl, k⟩ := h
    have wf := hI.wf
    refine Evl.q_when (Evl.et_test (ev_neI (Evl.ev_len (Evl.ev_var rfl) (Evl.sq_of hq)) (ev_ac T hI (Evl.ev_var rfl)))) (fun hb H1 e1 => ?_) (fun hb H1 e1 => ?_)
    · rw [List.length_map] at hb
      rw [isProfile_ne (fun z => by simp [z] at hb)] at k
      exact Evl.s_ret Evl.ev_c fun H2 e2 => k H2 (e1.trans e2)
    · rw [List.length_map] at hb
      have ht : t.length = a.agentCount := by
        have z := hb
        simp at z
        omega
      rw [← isProfile_all ht] at k
      have hI1 := hI.mono e1
      refine Evl.s_ret (ev_all (el_is (el_lcEnum (fun _ => true) (fun i => V.bl (decide (t.getD i 0 < a.typeCount i))) (Evl.ea_cons (Evl.ev_var rfl) Evl.ea_nil) (e1 _ _ hq) ?_ (fun _ _ => rfl) (fun i x H1 e1 hx => et_yes) (fun i x H2 e2 hx _ => ?_)) ?_)) fun H2 e2 => k H2 (e1.trans e2)
      · rw [List.length_map]
        omega
      · obtain ⟨y, h1, rfl⟩ := map_at' hx
        have hi : i < t.length := (List.getElem?_eq_some_iff.mp h1).1
        have ey : t.getD i 0 = y := by simp [List.getD, h1]
        rw [ey]
        exact ev_m (hI1.mono e2) (fun _ _ _ _ => fs_has_kind) (Evl.ev_var rfl) (Evl.ea_cons (Evl.ev_var rfl) (Evl.ea_cons (Evl.ev_var rfl) Evl.ea_nil)) (v_has_kind (hI1.mono e2) (by omega))
      · rw [given_all, List.length_map, List.map_map]
        rfl

abbrev s_m_value : Stmt := inClass (topS 2) 9
theorem sc_m_value : FnScope ["self", "agent", "kind", "alternative"] ["self", "agent", "kind", "alternative"] (defScope s_m_value) := ⟨rfl, rfl, rfl, by decide +kernel, rfl, by decide +kernel, by decide +kernel⟩
theorem ok_m_value {f : Addr} {fd : FuncData} (F : Fun K "value" "Instance.value" s_m_value f fd) (T : Txt K mg CW CI aS) : FnOk P w K mg base CX0 1 f fd ["self", "agent", "kind", "alternative"] (sp_value CI) := by
  have nd := sc_m_value.nd
  refine F.ok sc_m_value (fun vs H Q E h => ?_) (fun cdv A outer s H vs Q E hr h => ⟨_, (pss_one (ps_ret (pe_ix (ixL (K := K) rfl) (pe_ix (ixL (K := K) rfl) (pe_ix (ixL (K := K) rfl) (pe_fld (pv 0) rfl) (pv 1) (fun _ _ => rfl)) (pv 2) (fun _ _ => rfl)) (pv 3) (fun _ _ => rfl)))), ?_⟩)
  · obtain ⟨p, a, i, kd, x, rfl, hI, hi, hk, hx, k⟩ := h
    rfl
  · obtain ⟨p, a, i, kd, x, rfl, hI, hi, hk, hx, k⟩ := h
    obtain ⟨g, hI⟩ := hI
    obtain ⟨kk, h1, h2, h3, h4⟩ := hI.kind hi
    obtain ⟨q, h5, h6⟩ := h4 _ hk
    exact Evl.s_ret (ev_ixL (ev_ixL (ev_valuations_at T hI h1 (Evl.ev_var rfl) (Evl.ev_var rfl)) (Evl.ev_var rfl) h2 (map_at h5)) (Evl.ev_var rfl) h6 (map_at (value_at hI.wf hi hk hx))) k

abbrev s_m_allocated : Stmt := inClass (topS 2) 10
theorem sc_m_allocated : FnScope ["self", "profile"] ["self", "profile"] (defScope s_m_allocated) := ⟨rfl, rfl, rfl, by decide +kernel, rfl, by decide +kernel, by decide +kernel⟩
theorem ok_m_allocated {f : Addr} {fd : FuncData} (F : Fun K "allocated" "Instance.allocated" s_m_allocated f fd) (T : Txt K mg CW CI aS) (G_m_place : C8.Met P w K mg base 1 CI "place" (sp_place CI) []) : FnOk P w K mg base CX0 2 f fd ["self", "profile"] (sp_allocated CI) := by
  have nd := sc_m_allocated.nd
  refine F.ok sc_m_allocated (fun vs H Q E h => ?_) (fun cdv A outer s H vs Q E hr h => ⟨_, (pss_one (ps_ret (pe_ix (ixL (K := K) rfl) (pe_fld (pv 0) rfl) (C8.pe_mt G_m_place hr (by decide) (pv 0) (by exact (pa_cons (pv 1) pa_nil))) (fun _ _ => rfl)))), ?_⟩)
  · obtain ⟨p, a, q, t, rfl, hI, hq, hp, k⟩ := h
    rfl
  · obtain ⟨p, a, q, t, rfl, hI, hq, hp, k⟩ := h
    have hI0 := hI
    obtain ⟨g, hI⟩ := hI
    exact Evl.s_ret (ev_ixL (ev_al T hI (Evl.ev_var rfl)) (ev_m hI0 (fun _ _ _ _ => fs_place) (Evl.ev_var rfl) (Evl.ea_cons (Evl.ev_var rfl) Evl.ea_nil) (v_place hI0 hq hp)) hI.al (map_at (alloc_at hI.wf hp))) k

end
end Tp

namespace Tp
open PySem PySem.Spec PyProof.Rows L2
open Su196 (Instance)
open Evl (Ex Ev EvL EvT EvA EvO RetL RetV SpV SpL)
section
variable {P : Program} {w : World} {K : PySem.W.Frag} {mg : Str → Option Value} {base : Heap} {CW CI aS : Addr}

def placeU (ns t : List Nat) (n : Nat) : Nat := ((ns.zip t).take n).foldl (fun z p => z * p.1 + p.2) 0
theorem placeU_succ {ns t : List Nat} {n x y : Nat} (hx : ns[n]? = some x) (hy : t[n]? = some y) : placeU ns t (n + 1) = placeU ns t n * x + y := by
  have e : (ns.zip t)[n]? = some (x, y) := by
    rw [List.getElem?_zip_eq_some]
    exact ⟨hx, hy⟩
  unfold placeU
  rw [List.take_add_one, e, List.foldl_append]
  rfl
theorem placeU_all {ns t : List Nat} {n : Nat} (h : (ns.zip t).length ≤ n) : placeU ns t n = placeL ns t := by
  unfold placeU placeL
  rw [List.take_of_length_le h]
theorem sIx_n (n d k : Nat) : HT.sIx n d (some (k : Int)) = min k n := HT.sIx_nat n d k
theorem cut_take (xs : List V) (i : Nat) : cutV xs none (some (i : Int)) = xs.take i := by
  unfold cutV
  rw [HT.sIx_none, sIx_n]
  show xs.take (min i xs.length - 0) = xs.take i
  rw [Nat.sub_zero, ← List.take_take, List.take_length]
theorem cut_drop (xs : List V) (i : Nat) : cutV xs (some (i : Int)) none = xs.drop i := by
  unfold cutV
  rw [HT.sIx_none, sIx_n]
  by_cases c : i ≤ xs.length
  · rw [Nat.min_eq_left c, List.take_of_length_le (by rw [List.length_drop]; exact Nat.le_refl _)]
  · rw [Nat.min_eq_right (by omega), List.drop_of_length_le (by omega : xs.length ≤ i), List.drop_length]
    simp
theorem set_cut (t : List Nat) (i k : Nat) (hi : i < t.length) : cutV (t.map nV) none (some (i : Int)) ++ [nV k] ++ cutV (t.map nV) (some ((i : Int) + 1)) none = (t.set i k).map nV := by
  have e : ((i : Int) + 1) = ((i + 1 : Nat) : Int) := rfl
  rw [e, cut_take, cut_drop, List.set_eq_take_append_cons_drop, if_pos hi, List.map_append, List.map_take, List.map_cons, List.map_drop, List.append_assoc]
  rfl
theorem fitsB_ne {xs : List Int} {c : Nat} {gr : Int} (h : ¬ xs.length = c) : fitsB xs c gr = false := by
  unfold fitsB
  rw [decide_eq_false h, Bool.false_and]
theorem fitsB_eq {xs : List Int} {c : Nat} {gr : Int} (h : xs.length = c) : fitsB xs c gr = (xs.map fun v => decide ((if v < 0 then -v else v) ≤ gr)).all id := by
  unfold fitsB
  rw [decide_eq_true h, Bool.true_and, List.all_map]
  rfl
theorem range_getD (xs : List Int) (g : Int → V) : (List.range xs.length).map (fun i => g (xs.getD i 0)) = xs.map g := by
  apply List.ext_getElem?
  intro i
  by_cases c : i < xs.length
  · rw [List.getElem?_map, List.getElem?_range c, List.getElem?_map, List.getElem?_eq_getElem c]
    simp [List.getD, c]
  · rw [List.getElem?_eq_none (by simp; omega), List.getElem?_eq_none (by simp; omega)]

abbrev s_m_place : Stmt := inClass (topS 2) 8
theorem sc_m_place : FnScope ["self", "profile", "found", "kinds", "kind"] ["self", "profile"] (defScope s_m_place) := ⟨rfl, rfl, rfl, by decide +kernel, rfl, by decide +kernel, by decide +kernel⟩
theorem ok_m_place {f : Addr} {fd : FuncData} (F : Fun K "place" "Instance.place" s_m_place f fd) (T : Txt K mg CW CI aS) : FnOk P w K mg base CX0 1 f fd ["self", "profile"] (sp_place CI) := by
  have nd := sc_m_place.nd
  refine F.ok sc_m_place (fun vs H Q E h => ?_) (fun cdv A outer s H vs Q E hr h => ⟨_, (pss_cons (ps_set (i := 2) nd rfl (Or.inl rfl) pe_int)
  (pss_cons (ps_for PassesOwn.never rfl (pi_zip (by rfl) T.b_zip (pa_cons (pe_fld (pv 0) rfl) (pa_cons (pv 1) pa_nil))) (pg_pair (K := K) (i := 3) (j := 4) rfl rfl nd rfl (by first | exact Or.inl rfl | exact Or.inr rfl) (by first | exact Or.inl rfl | exact Or.inr rfl) rfl (by first | exact Or.inl rfl | exact Or.inr rfl) (by first | exact Or.inl rfl | exact Or.inr rfl))
   (pss_one (ps_set (i := 2) nd rfl (Or.inl rfl) (pe_op opAdd (pe_op opMul (pv 2) (pe_callB (call_len1 (K := K) rfl) (by rfl) T.b_len PySem.boot_len (pa_cons (pv 3) pa_nil))) (pv 4)))))
  (pss_one (ps_ret (pv 2))))), ?_⟩)
  · obtain ⟨p, a, q, t, rfl, hI, hq, hp, k⟩ := h
    rfl
  · obtain ⟨p, a, q, t, rfl, hI, hq, hp, k⟩ := h
    rw [← place_is hI.wf hp.1] at k
    have wf := hI.wf
    have hI0 := hI
    obtain ⟨g, hI⟩ := hI
    refine Evl.q_asg Evl.ev_c fun H1 e1 => ?_
    have hI1 := hI.mono e1
    refine q_forZip (Evl.ea_cons (ev_vl T hI1 (Evl.ev_var rfl)) (Evl.ea_cons (Evl.ev_var rfl) Evl.ea_nil)) hI1.vl (e1 _ _ hq)
      (fun n σ' H' => Ex H1 H' ∧ ∃ v1 v2, σ' = [some (.ref p), some (.ref q), some (nV (placeU (a.types.map List.length) t n)), v1, v2])
      (fun H2 e2 => ⟨e2, none, none, rfl⟩) (fun n σ' H' h => ⟨h.1 _ _ hI1.vl, h.1 _ _ (e1 _ _ hq)⟩) ?_ ?_
    · rintro n x y σ' H' H2 hx hy ⟨e2, v1, v2, rfl⟩ e3
      obtain ⟨kk, h1, rfl⟩ := map_at' hx
      obtain ⟨kd, h2, rfl⟩ := map_at' hy
      have hi : n < a.agentCount := by
        rw [← wf.tl, ← hI.kl]
        exact (List.getElem?_eq_some_iff.mp h1).1
      have hI3 := hI1.mono (e2.trans e3)
      obtain ⟨k2, g1, g2, g3, g4⟩ := hI3.kind hi
      cases g1.symm.trans h1
      refine Evl.s_asg (ev_add (ev_mulR (Evl.ev_var rfl) (Evl.ev_len (Evl.ev_var rfl) (Evl.sq_of g2)) ?_) (Evl.ev_var rfl)) fun H4 e4 => ⟨(e2.trans e3).trans e4, some (.ref kk.1), some (nV kd), ?_⟩
      · rw [List.length_map, g3]
        have := count_le wf n
        omega
      · have hc : (a.types.map List.length)[n]? = some (a.typeCount n) := by
          rw [List.getElem?_map, types_at wf hi]
          rfl
        rw [placeU_succ hc h2, List.length_map, g3]
        show [_, _, some (V.int (((placeU (a.types.map List.length) t n : Nat) : Int) * ((a.typeCount n : Nat) : Int) + ((kd : Nat) : Int))), _, _] = _
        rw [← Int.natCast_mul, ← Int.natCast_add]
    · rintro σ' H' ⟨e2, v1, v2, rfl⟩
      refine Evl.s_ret (Evl.ev_is (Evl.ev_var rfl) ?_) fun H3 e3 => k H3 ((e1.trans e2).trans e3)
      rw [placeU_all]
      rw [List.length_zip, List.length_map, List.length_map, List.length_map, hI.kl]
      exact Nat.le_refl _

abbrev s_m_allocated_if : Stmt := inClass (topS 2) 11
theorem sc_m_allocated_if : FnScope ["self", "agent", "kind", "profile"] ["self", "agent", "kind", "profile"] (defScope s_m_allocated_if) := ⟨rfl, rfl, rfl, by decide +kernel, rfl, by decide +kernel, by decide +kernel⟩
theorem ok_m_allocated_if {f : Addr} {fd : FuncData} (F : Fun K "allocated_if" "Instance.allocated_if" s_m_allocated_if f fd) (T : Txt K mg CW CI aS) (G_m_allocated : C8.Met P w K mg base 2 CI "allocated" (sp_allocated CI) []) : FnOk P w K mg base CX0 3 f fd ["self", "agent", "kind", "profile"] (sp_allocated_if CI) := by
  have nd := sc_m_allocated_if.nd
  refine F.ok sc_m_allocated_if (fun vs H Q E h => ?_) (fun cdv A outer s H vs Q E hr h => ⟨_, (pss_one (ps_ret (C8.pe_mt G_m_allocated hr (by decide) (pv 0) (by exact (pa_cons (pe_op op_cat (pe_op op_cat (pe_slice sl_list (pv 3) po_none (po_some (pv 1))) (pe_lst (pa_cons (pv 2) pa_nil))) (pe_slice sl_list (pv 3) (po_some (pe_op opAdd (pv 1) pe_int)) po_none)) pa_nil))))), ?_⟩)
  · obtain ⟨p, a, i, kd, q, t, rfl, hI, hi, hk, hq, hp, k⟩ := h
    rfl
  · obtain ⟨p, a, i, kd, q, t, rfl, hI, hi, hk, hq, hp, k⟩ := h
    have hl : i < t.length := by
      rw [hp.1]
      exact hi
    have hs := set_cut t i kd hl
    have z1 : (cutV (t.map nV) none (some (i : Int))).length ≤ 10 := Nat.le_trans (cutV_length _ _ _) (by
      rw [List.length_map, hp.1]
      have := hI.wf.n3
      omega)
    have z2 : (cutV (t.map nV) (some ((i : Int) + 1)) none).length ≤ 10 := Nat.le_trans (cutV_length _ _ _) (by
      rw [List.length_map, hp.1]
      have := hI.wf.n3
      omega)
    obtain ⟨g, hI'⟩ := hI
    have hI : Inst CI H p a := ⟨g, hI'⟩
    refine Evl.s_ret (ev_methP (Evl.ev_var rfl) hI'.ob fs_allocated (eap_cons (ep_X (evX_L (el_cat (evX_L (el_cat (evX_L (Evl.el_sl (Evl.ev_var rfl) Evl.eo_none (Evl.eo_some (Evl.ev_var rfl)) (Evl.sq_of hq))) (evX_L (Evl.el_lst (Evl.ea_cons (Evl.ev_var rfl) Evl.ea_nil) (by show 1 ≤ 100000; decide))) ?_)) (evX_L (Evl.el_sl (Evl.ev_var rfl) (Evl.eo_some (ev_add (Evl.ev_var rfl) Evl.ev_c)) Evl.eo_none (Evl.sq_of hq))) ?_))) (eap_of Evl.ea_nil)) ?_) k
    · show _ + 1 ≤ 100000
      omega
    · rw [List.length_append]
      show _ + 1 + _ ≤ 100000
      omega
    · rintro vs H1 e1 ⟨v, r, rfl, ⟨c, rfl, hc⟩, rfl⟩
      rw [hs] at hc
      exact v_allocated (hI.mono e1) hc (isP_set hp hk)

abbrev s_m_losses : Stmt := inClass (topS 2) 12
theorem sc_m_losses : FnScope ["self", "agent", "profile", "chosen", "found", "valuation", "honest", "kind", "dishonest"] ["self", "agent", "profile"] (defScope s_m_losses) := ⟨rfl, rfl, rfl, by decide +kernel, rfl, by decide +kernel, by decide +kernel⟩
theorem ok_m_losses {f : Addr} {fd : FuncData} (F : Fun K "losses" "Instance.losses" s_m_losses f fd) (T : Txt K mg CW CI aS) (G_m_allocated_if : C8.Met P w K mg base 3 CI "allocated_if" (sp_allocated_if CI) []) (G_m_kind_count : C8.Met P w K mg base 1 CI "kind_count" (sp_kind_count CI) []) : FnOk P w K mg base CX0 4 f fd ["self", "agent", "profile"] (sp_losses CI) := by
  have nd := sc_m_losses.nd
  refine F.ok sc_m_losses (fun vs H Q E h => ?_) (fun cdv A outer s H vs Q E hr h => ⟨_, (pss_cons (ps_setLc (i := 3) (own := [("kind", 7)]) rfl nd rfl rfl (sw_true rfl rfl rfl (by decide +kernel)) (pi_range1 (by rfl) T.b_range (pa_cons (C8.pe_mt G_m_kind_count hr (by decide) (pv 0) (by exact (pa_cons (pv 1) pa_nil))) pa_nil)) (blkOk_by (N := ["self", "agent", "profile", "chosen", "found", "valuation", "honest", "kind", "dishonest"]) (sc := defScope s_m_losses) (by decide +kernel)) (fun _ _ _ _ _ => (pg_name (i := 7) nd rfl (Or.inl rfl))) (fun _ _ _ _ _ => pts_nil) (fun _ _ _ _ _ => (C8.pe_mt G_m_allocated_if hr (by decide) (pv 0) (by exact (pa_cons (pv 1) (pa_cons (pv 7) (pa_cons (pv 2) pa_nil)))))))
  (pss_cons (ps_set (i := 4) nd rfl (Or.inl rfl) (pe_lst pa_nil))
  (pss_cons (ps_for PassesOwn.never rfl (pi_zip (by rfl) T.b_zip (pa_cons (pe_ix (ixL (K := K) rfl) (pe_fld (pv 0) rfl) (pv 1) (fun _ _ => rfl)) (pa_cons (pv 3) pa_nil))) (pg_pair (K := K) (i := 5) (j := 6) rfl rfl nd rfl (by first | exact Or.inl rfl | exact Or.inr rfl) (by first | exact Or.inl rfl | exact Or.inr rfl) rfl (by first | exact Or.inl rfl | exact Or.inr rfl) (by first | exact Or.inl rfl | exact Or.inr rfl))
   (pss_one (ps_expr (pe_bm PySem.F.plainAttrs_list PySem.F.slot_list_append PySem.F.type_list_append mt_append (pv 4) (pa_cons (pe_lc (own := [("dishonest", 8)]) rfl nd (pi_list (pv 3)) (blkOk_by (N := ["self", "agent", "profile", "chosen", "found", "valuation", "honest", "kind", "dishonest"]) (sc := defScope s_m_losses) (by decide +kernel)) (fun _ _ _ _ _ => (pg_name (i := 8) nd rfl (Or.inl rfl))) (fun _ _ _ _ _ => pts_nil) (fun _ _ _ _ _ => (pe_op opSub (pe_ix (ixL (K := K) rfl) (pv 5) (pv 6) (fun _ _ => rfl)) (pe_ix (ixL (K := K) rfl) (pv 5) (pv 8) (fun _ _ => rfl))))) pa_nil)))))
  (pss_one (ps_ret (pv 4)))))), ?_⟩)
  · obtain ⟨p, a, i, q, t, rfl, hI, hi, hq, hp, k⟩ := h
    rfl
  · obtain ⟨p, a, i, q, t, rfl, hI, hi, hq, hp, k⟩ := h
    have wf := hI.wf
    have hc4 := count_le wf i
    let ch : Nat → Nat := fun j => a.allocated (t.set i j)
    have hch : ∀ j, j < a.typeCount i → ch j < a.alternativeCount := fun j hj => alloc_lt wf (isP_set hp hj)
    refine Evl.q_asgL (Evl.el_lcR1 (fun _ => true) (fun j => nV (ch j)) (Evl.ea_cons (ev_m hI (fun _ _ _ _ => fs_kind_count) (Evl.ev_var rfl) (Evl.ea_cons (Evl.ev_var rfl) Evl.ea_nil) (v_kind_count hI hi)) Evl.ea_nil) ⟨by omega, by omega⟩ (fun _ => rfl) (fun j H1 e1 hj => et_yes) (fun j H1 e1 hj _ => ?_)) fun c H1 hcn e1 hc => ?_
    · exact ev_m (hI.mono e1) (fun _ _ _ _ => fs_allocated_if) (Evl.ev_var rfl) (Evl.ea_cons (Evl.ev_var rfl) (Evl.ea_cons (Evl.ev_var rfl) (Evl.ea_cons (Evl.ev_var rfl) Evl.ea_nil))) (v_allocated_if (hI.mono e1) hi (by omega) (hq.mono e1) hp)
    rw [given_all, Int.toNat_natCast] at hc
    refine Evl.q_asgL (Evl.el_lst Evl.ea_nil (by show 0 ≤ 100000; decide)) fun fd' H2 hfn e2 hf => ?_
    have hI1 := hI.mono e1
    obtain ⟨g, hI1⟩ := hI1
    obtain ⟨kk, h1, h2, h3, h4⟩ := hI1.kind hi
    refine q_forZip (Evl.ea_cons (ev_valuations_at T (hI1.mono e2) h1 (Evl.ev_var rfl) (Evl.ev_var rfl)) (Evl.ea_cons (Evl.ev_var rfl) Evl.ea_nil)) (e2 _ _ h2) (e2 _ _ hc)
      (fun n σ' H' => Ex H1 H' ∧ Acc LI fd' ((lossM a i t).take n) H' ∧ ∃ v5 v6, σ' = [some (.ref p), some (nV i), some (.ref q), some (.ref c), some (.ref fd'), v5, v6, none, none])
      (fun H3 e3 => ⟨e2.trans e3, acc_nil (e3 _ _ hf), none, none, rfl⟩) (fun n σ' H' h => ⟨h.1 _ _ h2, h.1 _ _ hc⟩) ?_ ?_
    · rintro n x y σ' H' H3 hx hy ⟨e3, ac, v5, v6, rfl⟩ e4
      obtain ⟨qv, g1, rfl⟩ := map_at' hx
      have hn : n < a.typeCount i := by
        rw [← h3]
        exact (List.getElem?_eq_some_iff.mp g1).1
      rw [List.getElem?_map, List.getElem?_range hn] at hy
      cases hy
      obtain ⟨qv', g2, g3⟩ := h4 n hn
      cases g1.symm.trans g2
      have ac3 := Acc.mono (R := LI) (fun _ _ _ _ e h => LI.mono h e) ac e4
      obtain ⟨ps, a1, a2, a3⟩ := ac3
      have e34 := e3.trans e4
      refine Evl.s_appL (ys := ((List.range (a.typeCount i)).map fun l => a.loss i t n l).map V.int) a1 (Evl.ev_var rfl) (el_is (Evl.el_lcL (fun _ => true) (fun l => V.int (a.loss i t n l)) (Evl.ev_var rfl) (Evl.sq_of (e34 _ _ hc)) ?_ (fun _ => rfl) (fun l x H4 e5 hx => et_yes) (fun l x H4 e5 hx _ => ?_)) ?_) ?_ (fun nq H4 hq4 e5 hn4 => ⟨?_, ?_, _, _, rfl⟩)
      · rw [List.length_map, List.length_range]
        omega
      · have hl2 := (List.getElem?_eq_some_iff.mp hx).1
        rw [List.length_map, List.length_range] at hl2
        rw [List.getElem?_map, List.getElem?_range hl2] at hx
        cases hx
        have gv : LI H4 qv ((a.typesOf i).getD n []) := g3.mono (e34.trans e5)
        exact ev_sub (ev_ixL (Evl.ev_var rfl) (Evl.ev_var rfl) gv (map_at (value_at wf hi hn (hch n hn)))) (ev_ixL (Evl.ev_var rfl) (Evl.ev_var rfl) gv (map_at (value_at wf hi hn (hch l hl2))))
      · rw [given_all, List.length_map, List.length_range, List.map_map]
        rfl
      · rw [List.length_map, a2, List.length_take]
        omega
      · exact Evl.Ex.mut (e34.trans e5) hfn
      · have qf : nq ≠ fd' := fun z => by
          subst z
          rw [a1] at hq4
          cases hq4
        have e6 : (lossM a i t).take (n + 1) = (lossM a i t).take n ++ [(List.range (a.typeCount i)).map fun l => a.loss i t n l] := by
          rw [List.take_add_one, row_at a i t hn]
          rfl
        rw [e6]
        refine acc_more (qs := [nq]) (fun _ _ _ _ _ => LI.upd) a2 (fun j q' x b1 b2 => ⟨(a3 j q' x b1 b2).1, (a3 j q' x b1 b2).2.mono e5⟩) rfl (fun j q' x b1 b2 => ?_)
        cases j with
        | zero =>
          cases b1
          cases b2
          exact ⟨qf, hn4⟩
        | succ j => simp at b1
    · rintro σ' H' ⟨e3, ac, v5, v6, rfl⟩
      rw [List.length_map, List.length_map, List.length_range, h3, Nat.min_self, List.take_of_length_le (by unfold lossM; rw [List.length_map, List.length_range]; exact Nat.le_refl _)] at ac
      exact Evl.s_ret (Evl.ev_var rfl) fun H5 e5 => k _ H5 (e1.trans (e3.trans e5)) (bx_LLI (LLI.mono ac.lr e5))

abbrev s_fits : Stmt := topS 18
theorem sc_fits : FnScope ["numbers", "count", "greatest", "number"] ["numbers", "count", "greatest"] (defScope s_fits) := ⟨rfl, rfl, rfl, by decide +kernel, rfl, by decide +kernel, by decide +kernel⟩
theorem ok_fits {f : Addr} {fd : FuncData} (F : Fun K "fits" "fits" s_fits f fd) (T : Txt K mg CW CI aS) : FnOk P w K mg base CX0 1 f fd ["numbers", "count", "greatest"] sp_fits := by
  have nd := sc_fits.nd
  refine F.ok sc_fits (fun vs H Q E h => ?_) (fun cdv A outer s H vs Q E hr h => ⟨_, (pss_cons (ps_if (pt_cmpR op_ne (pe_callB (call_len1 (K := K) rfl) (by rfl) T.b_len PySem.boot_len (pa_cons (pv 0) pa_nil)) (pv 1) (nomark _))
   (pss_one (ps_ret pe_bl)) pss_nil)
  (pss_one (ps_ret (pe_callB (cr_all rfl) (by rfl) T.b_all (by decide +kernel) (pa_cons (pe_lc (own := [("number", 3)]) rfl nd (pi_list (pv 0)) (blkOk_by (N := ["numbers", "count", "greatest", "number"]) (sc := defScope s_fits) (by decide +kernel)) (fun _ _ _ _ _ => (pg_name (i := 3) nd rfl (Or.inl rfl))) (fun _ _ _ _ _ => pts_nil) (fun _ _ _ _ _ => (pe_cmpR opLe (pe_callB (call_abs1) (by rfl) T.b_abs (by decide +kernel) (pa_cons (pv 3) pa_nil)) (pv 2) (nomark _)))) pa_nil))))), ?_⟩)
  · obtain ⟨q, xs, c, gr, rfl, hq, hl, k⟩ := h
    rfl
  · obtain ⟨q, xs, c, gr, rfl, hq, hl, k⟩ := h
    refine Evl.q_when (Evl.et_test (ev_neI (Evl.ev_len (Evl.ev_var rfl) (Evl.sq_of hq)) (Evl.ev_var rfl))) (fun hb H1 e1 => ?_) (fun hb H1 e1 => ?_)
    · rw [List.length_map] at hb
      rw [fitsB_ne (fun z => by simp [z] at hb)] at k
      exact Evl.s_ret Evl.ev_c fun H2 e2 => k H2 (e1.trans e2)
    · rw [List.length_map] at hb
      have ht : xs.length = c := by
        have z := hb
        simp at z
        omega
      rw [fitsB_eq ht] at k
      refine Evl.s_ret (ev_all (el_is (Evl.el_lcL (fun _ => true) (fun i => V.bl (decide ((if xs.getD i 0 < 0 then -(xs.getD i 0) else xs.getD i 0) ≤ gr))) (Evl.ev_var rfl) (Evl.sq_of (e1 _ _ hq)) ?_ (fun _ => rfl) (fun i x H2 e2 hx => et_yes) (fun i x H2 e2 hx _ => ?_)) ?_)) fun H2 e2 => k H2 (e1.trans e2)
      · rw [List.length_map]
        omega
      · obtain ⟨y, h1, rfl⟩ := map_at' hx
        have ey : xs.getD i 0 = y := by simp [List.getD, h1]
        rw [ey]
        exact ev_le (ev_abs (Evl.ev_var rfl)) (Evl.ev_var rfl)
      · rw [given_all, List.length_map, List.map_map]
        exact range_getD xs (fun v => V.bl (decide ((if v < 0 then -v else v) ≤ gr)))

end
end Tp

namespace Tp
open PySem PySem.Spec PyProof.Rows L2
open Su196 (Instance)
open Evl (Ex Ev EvL EvT EvA EvO RetL RetV SpV SpL)
section
variable {P : Program} {w : World} {K : PySem.W.Frag} {mg : Str → Option Value} {base : Heap} {CW CI aS : Addr}

theorem profL_le {ns : List Nat} (h : ∀ n ∈ ns, n ≤ 4) (hl : ns.length ≤ 3) (i : Nat) : (profL (ns.take i)).length ≤ 64 := by
  rw [profL_is, enum_len]
  have h1 := prod_le (ns.take i) fun n hn => h n (List.mem_of_mem_take hn)
  have h2 : (ns.take i).length ≤ 3 := by rw [List.length_take]; omega
  have h3 : 4 ^ (ns.take i).length ≤ 4 ^ 3 := Nat.pow_le_pow_right (by decide) h2
  have h4 : (4 : Nat) ^ 3 = 64 := by decide
  omega
def extN (n : Nat) (s : List Nat) : List (List Nat) := (List.range n).map fun k => s ++ [k]
theorem extN_len (n : Nat) (s : List Nat) : (extN n s).length = n := by
  unfold extN
  rw [List.length_map, List.length_range]
theorem take_flat {α β : Type} (f : α → List β) (l : List α) (i : Nat) (x : α) (h : l[i]? = some x) : (l.take (i + 1)).flatMap f = (l.take i).flatMap f ++ f x := by
  rw [List.take_add_one, h, List.flatMap_append]
  show _ ++ [x].flatMap f = _
  rw [List.flatMap_cons, List.flatMap_nil, List.append_nil]
theorem ns_le {a : Instance} (h : WF a) : ∀ n ∈ a.types.map List.length, n ≤ 4 := by
  intro n hn
  obtain ⟨ty, hty, rfl⟩ := List.mem_map.mp hn
  exact h.k4 ty hty
theorem ev_index {K : PySem.W.Frag} {σ : L2.St} {H : Hp} {to te : TE} {p : Addr} {ns : List Int} {m : Int} {j : Nat} (ho : Ev to σ H (.ref p)) (hp : H p = some (.lst (ns.map V.int))) (he : Ev te σ H (.int m)) (hj : ns[j]? = some m) (hb : ∀ i : Nat, i < j → ∀ z, ns[i]? = some z → z ≠ m) :
    Ev (tBM K "list" (rIndex K) to (tCons te tNil)) σ H (nV j) := fun H1 e Q q =>
  ho H1 e _ fun H2 e2 => ⟨Or.inl ⟨rfl, _, Evl.sq_of (e2 _ _ (e _ _ hp))⟩, he H2 (e.trans e2) _ fun H3 e3 => ⟨p, ns.map V.int, .int m, j, .int m, rfl, rfl, Evl.sq_of (e3 _ _ (e2 _ _ (e _ _ hp))), rfl, by
    rw [List.all_eq_true]
    intro v hv
    obtain ⟨z, _, rfl⟩ := List.mem_map.mp hv
    rfl, map_at hj, by simp [eqV], fun i z' hi hz => by
    obtain ⟨z, hz1, rfl⟩ := map_at' hz
    simpa [eqV] using hb i hi z hz1, q H3 (e2.trans e3)⟩⟩
theorem rep_int (n : Nat) (c : Int) : List.replicate n (V.int c) = (List.replicate n c).map V.int := by
  rw [List.map_replicate]

abbrev s_m_profiles : Stmt := inClass (topS 2) 7
theorem sc_m_profiles : FnScope ["self", "found", "kinds", "longer", "start", "kind"] ["self"] (defScope s_m_profiles) := ⟨rfl, rfl, rfl, by decide +kernel, rfl, by decide +kernel, by decide +kernel⟩
theorem ok_m_profiles {f : Addr} {fd : FuncData} (F : Fun K "profiles" "Instance.profiles" s_m_profiles f fd) (T : Txt K mg CW CI aS) : FnOk P w K mg base CX0 1 f fd ["self"] (sp_profiles CI) := by
  have nd := sc_m_profiles.nd
  refine F.ok sc_m_profiles (fun vs H Q E h => ?_) (fun cdv A outer s H vs Q E hr h => ⟨_, (pss_cons (ps_set (i := 1) nd rfl (Or.inl rfl) (pe_lst (pa_cons (pe_lst pa_nil) pa_nil)))
  (pss_cons (ps_for PassesOwn.never rfl (pi_list (pe_fld (pv 0) rfl)) (pg_name (i := 2) nd rfl (Or.inl rfl))
   (pss_cons (ps_set (i := 3) nd rfl (Or.inl rfl) (pe_lst pa_nil))
  (pss_cons (ps_for PassesOwn.never rfl (pi_list (pv 1)) (pg_name (i := 4) nd rfl (Or.inr rfl))
   (pss_one (ps_expr (pe_bm PySem.F.plainAttrs_list PySem.F.slot_list_extend PySem.F.type_list_extend mt_extend (pv 3) (pa_cons (pe_lc (own := [("kind", 5)]) rfl nd (pi_range1 (by rfl) T.b_range (pa_cons (pe_callB (call_len1 (K := K) rfl) (by rfl) T.b_len PySem.boot_len (pa_cons (pv 2) pa_nil)) pa_nil)) (blkOk_by (N := ["self", "found", "kinds", "longer", "start", "kind"]) (sc := defScope s_m_profiles) (by decide +kernel)) (fun _ _ _ _ _ => (pg_name (i := 5) nd rfl (Or.inl rfl))) (fun _ _ _ _ _ => pts_nil) (fun _ _ _ _ _ => (pe_op op_cat (pv 4) (pe_lst (pa_cons (pv 5) pa_nil))))) pa_nil)))))
  (pss_one (ps_set (i := 1) nd rfl (Or.inl rfl) (pv 3))))))
  (pss_one (ps_ret (pv 1))))), ?_⟩)
  · obtain ⟨p, a, g, rfl, hI, k⟩ := h
    rfl
  · obtain ⟨p, a, g, rfl, hI, k⟩ := h
    have wf := hI.wf
    have hns := ns_le wf
    have hnl : (a.types.map List.length).length ≤ 3 := by
      rw [List.length_map, wf.tl]
      exact wf.n3
    refine ⟨by show 0 ≤ sizeLine; decide, fun e he => ?_⟩
    refine ⟨by show 1 ≤ sizeLine; decide, fun c hc => ?_⟩
    have ce : e ≠ c := fun z => by
      subst z
      rw [upd_same] at hc
      cases hc
    have e1 : Ex H (upd (upd H e (.lst [])) c (.lst [.ref e])) := (Ex.new he).trans (Ex.new hc)
    refine Evl.q_forLn (xs := g.ks.map fun k => V.ref k.1) (ev_vlV T (hI.mono e1) (Evl.ev_var rfl)) (Evl.sq_of (e1 _ _ hI.vl))
      (fun i σ' H' => Ex H H' ∧ ∃ fnd v2 v3 v4, σ' = [some (.ref p), some (.ref fnd), v2, v3, v4, none] ∧ LLN H' fnd (profL ((a.types.map List.length).take i)))
      (fun H1 e2 => ⟨e1.trans e2, c, none, none, none, rfl, [e], e2 _ _ upd_same, rfl, fun j q x h1 h2 => ?_⟩) (fun i σ' H' _ h => Evl.sq_of (h.1 _ _ hI.vl)) ?_ ?_
    · cases j with
      | zero =>
        cases h1
        cases h2
        refine e2 _ _ ?_
        rw [upd_ne ce]
        exact upd_same
      | succ j => simp at h1
    · rintro i x σ' H1 hx ⟨e2, fnd, v2, v3, v4, rfl, hf⟩
      obtain ⟨kk, h1, rfl⟩ := map_at' hx
      have hi : i < a.agentCount := by
        rw [← wf.tl, ← hI.kl]
        exact (List.getElem?_eq_some_iff.mp h1).1
      obtain ⟨k2, g1, g2, g3, g4⟩ := (hI.mono e2).kind hi
      cases g1.symm.trans h1
      have hc4 := count_le wf i
      have hle := profL_le hns hnl i
      have hn : (a.types.map List.length)[i]? = some (a.typeCount i) := by
        rw [List.getElem?_map, types_at wf hi]
        rfl
      have hst := profL_step _ i _ hn
      generalize hpl : profL ((a.types.map List.length).take i) = pl at hf hle hst
      refine Evl.q_asgL (Evl.el_lst Evl.ea_nil (by show 0 ≤ 100000; decide)) fun lg H2 hlg e3 hl => ?_
      obtain ⟨ps, f1, f2, f3⟩ := hf
      refine Evl.q_forLn (xs := ps.map V.ref) (Evl.ev_var rfl) (Evl.sq_of (e3 _ _ f1))
        (fun j σ' H' => Ex H1 H' ∧ Acc LN lg ((pl.take j).flatMap (extN (a.typeCount i))) H' ∧ ∃ v4, σ' = [some (.ref p), some (.ref fnd), some (.ref kk.1), some (.ref lg), v4, none])
        (fun H3 e4 => ⟨e3.trans e4, acc_nil (e4 _ _ hl), v4, rfl⟩) (fun j σ' H' _ h => Evl.sq_of (h.1 _ _ f1)) ?_ ?_
      · rintro j x σ' H3 hx2 ⟨e4, ac, v4', rfl⟩
        obtain ⟨qs, d1, rfl⟩ := map_at' hx2
        have hj : j < pl.length := by
          rw [← f2]
          exact (List.getElem?_eq_some_iff.mp d1).1
        have d2 : pl[j]? = some pl[j] := List.getElem?_eq_getElem hj
        have d3 := f3 j qs _ d1 d2
        obtain ⟨ps2, a1, a2, a3⟩ := ac
        have hal : ps2.length ≤ 256 := by
          rw [a2, flatMap_len _ (a.typeCount i) _ fun s _ => extN_len _ s, List.length_take]
          have := Nat.mul_le_mul (show min j pl.length ≤ 64 by omega) hc4
          omega
        refine s_extLL a1 (Evl.ev_var rfl) (EvLL.is (ell_lcR1 (n := a.typeCount i) (fun _ => true) (fun k => pl[j].map nV ++ [nV k]) (Evl.ea_cons (Evl.ev_is (Evl.ev_len (Evl.ev_var rfl) (Evl.sq_of (e4 _ _ g2))) ?_) Evl.ea_nil) ?_ (fun _ => rfl) (fun k H4 e5 hk => et_yes) (fun k H4 e5 hk _ => ?_)) picked_all) ?_ fun np nps H4 nw => ⟨?_, ?_, _, rfl⟩
        · rw [List.length_map, g3]
        · omega
        · refine el_cat (evX_R (Evl.ev_var rfl) ((d3.mono e4).mono e5)) (evX_L (Evl.el_lst (Evl.ea_cons (Evl.ev_var rfl) Evl.ea_nil) (by show 1 ≤ 100000; decide))) ?_
          have hm : pl[j] ∈ profL ((a.types.map List.length).take i) := by
            rw [hpl]
            exact List.getElem_mem hj
          rw [profL_is] at hm
          have := (enum_mem _ _ hm).1
          rw [List.length_map, this, List.length_take]
          show _ + 1 ≤ 100000
          omega
        · rw [List.length_map, List.length_map, List.length_range]
          omega
        · exact Evl.Ex.mut (e4.trans nw.2.1) hlg
        · rw [take_flat _ _ _ _ d2]
          refine acc_more (fun _ _ _ _ _ => LN.upd) a2 (fun j2 q' x b1 b2 => ⟨(a3 j2 q' x b1 b2).1, (a3 j2 q' x b1 b2).2.mono nw.2.1⟩) ?_ fun j2 q' x b1 b2 => ?_
          · rw [nw.2.2.2.1, List.length_map, List.length_range, extN_len]
          · have hj2 := (List.getElem?_eq_some_iff.mp b2).1
            rw [extN_len] at hj2
            unfold extN at b2
            rw [List.getElem?_map, List.getElem?_range hj2] at b2
            cases b2
            obtain ⟨n1, n2, n3⟩ := nw.2.2.2.2 j2 q' (pl[j].map nV ++ [nV j2]) b1 (by
              rw [List.getElem?_map, List.getElem?_range hj2]
              rfl)
            refine ⟨fun z => ?_, ?_⟩
            · subst z
              rw [a1] at n1
              cases n1
            · unfold LN
              rw [List.map_append]
              exact n3
      · rintro σ' H3 ⟨e4, ac, v4', rfl⟩
        refine Evl.s_asg (Evl.ev_var rfl) fun H4 e5 => ⟨e2.trans (e4.trans e5), lg, _, _, _, rfl, ?_⟩
        rw [List.length_map, f2, List.take_of_length_le (Nat.le_refl _)] at ac
        rw [hst]
        exact LLN.mono ac.lr e5
    · rintro σ' H1 ⟨e2, fnd, v2, v3, v4, rfl, hf⟩
      rw [List.length_map, hI.kl, List.take_of_length_le (by rw [List.length_map]; exact Nat.le_refl _), profL_is] at hf
      exact Evl.s_ret (Evl.ev_var rfl) fun H2 e3 => k _ H2 (e2.trans e3) (bx_LLN (hf.mono e3))

abbrev s_score : Stmt := topS 20
theorem sc_score : FnScope ["instance", "weights", "boosts", "profile", "alternative", "total", "agent", "kind"] ["instance", "weights", "boosts", "profile", "alternative"] (defScope s_score) := ⟨rfl, rfl, rfl, by decide +kernel, rfl, by decide +kernel, by decide +kernel⟩
theorem ok_score {f : Addr} {fd : FuncData} (F : Fun K "score" "score" s_score f fd) (T : Txt K mg CW CI aS) (G_m_value : C8.Met P w K mg base 1 CI "value" (sp_value CI) []) : FnOk P w K mg base CX0 2 f fd ["instance", "weights", "boosts", "profile", "alternative"] (sp_score CI) := by
  have nd := sc_score.nd
  refine F.ok sc_score (fun vs H Q E h => ?_) (fun cdv A outer s H vs Q E hr h => ⟨_, (pss_cons (ps_set (i := 5) nd rfl (Or.inl rfl) (pe_ix (ixL (K := K) rfl) (pv 2) (pv 4) (fun _ _ => rfl)))
  (pss_cons (ps_for PassesOwn.never rfl (pi_enum (by rfl) T.b_enumerate (pa_cons (pv 3) pa_nil)) (pg_pair (K := K) (i := 6) (j := 7) rfl rfl nd rfl (by first | exact Or.inl rfl | exact Or.inr rfl) (by first | exact Or.inl rfl | exact Or.inr rfl) rfl (by first | exact Or.inl rfl | exact Or.inr rfl) (by first | exact Or.inl rfl | exact Or.inr rfl))
   (pss_one (ps_aug (i := 5) nd rfl (Or.inl rfl) (pe_op opMul (pe_ix (ixL (K := K) rfl) (pv 1) (pv 6) (fun _ _ => rfl)) (C8.pe_mt G_m_value hr (by decide) (pv 0) (by exact (pa_cons (pv 6) (pa_cons (pv 7) (pa_cons (pv 4) pa_nil)))))) ip_add)))
  (pss_one (ps_ret (pv 5))))), ?_⟩)
  · obtain ⟨p, ww, b, q, x, a, ws, bs, t, rfl, hS, hx, k⟩ := h
    rfl
  · obtain ⟨p, ww, b, q, x, a, ws, bs, t, rfl, hS, hx, k⟩ := h
    have wf := hS.inst.wf
    have hb : bs[x]? = some (bs.getD x 0) := at_getD 0 (by rw [hS.bl]; exact hx)
    refine Evl.q_asg (ev_ixL (Evl.ev_var rfl) (Evl.ev_var rfl) hS.lb (map_at hb)) fun H1 e1 => ?_
    refine q_forEnum (xs := t.map nV) (Evl.ea_cons (Evl.ev_var rfl) Evl.ea_nil) (e1 _ _ hS.lt)
      (fun n σ' H' => Ex H H' ∧ ∃ v6 v7, σ' = [some (.ref p), some (.ref ww), some (.ref b), some (.ref q), some (nV x), some (.int (scoreU a ws bs t x n)), v6, v7])
      (fun H2 e2 => ⟨e1.trans e2, none, none, ?_⟩) (fun n σ' H' h => h.1 _ _ hS.lt) ?_ ?_
    · have e : scoreU a ws bs t x 0 = bs.getD x 0 := by
        unfold scoreU
        show _ + 0 = _
        omega
      rw [e]
      rfl
    · rintro n y σ' H2 H3 hy ⟨e2, v6, v7, rfl⟩ e3
      obtain ⟨kd, h1, rfl⟩ := map_at' hy
      have hn : n < t.length := (List.getElem?_eq_some_iff.mp h1).1
      have hn2 : n < a.agentCount := by
        rw [← hS.isp.1]
        exact hn
      have ek : t.getD n 0 = kd := by simp [List.getD, h1]
      have hk : kd < a.typeCount n := by
        rw [← ek]
        exact hS.isp.2 n hn2
      have hw : ws[n]? = some (ws.getD n 0) := at_getD 0 (by rw [hS.wl]; exact hn2)
      have hwb := hS.wb _ (List.mem_of_getElem? hw)
      have hS3 := hS.mono (e2.trans e3)
      refine Evl.s_aug (a := scoreU a ws bs t x n) rfl (ev_mul (ev_ixL (Evl.ev_var rfl) (Evl.ev_var rfl) hS3.lw (map_at hw)) (ev_m hS3.inst (fun _ _ _ _ => fs_value) (Evl.ev_var rfl) (Evl.ea_cons (Evl.ev_var rfl) (Evl.ea_cons (Evl.ev_var rfl) (Evl.ea_cons (Evl.ev_var rfl) Evl.ea_nil))) (v_value hS3.inst hn2 hk hx)) (by omega)) fun H4 e4 => ⟨(e2.trans e3).trans e4, some (nV n), some (nV kd), ?_⟩
      rw [scoreU_succ, ek]
      rfl
    · rintro σ' H2 ⟨e2, v6, v7, rfl⟩
      refine Evl.s_ret (Evl.ev_is (Evl.ev_var rfl) ?_) fun H3 e3 => k H3 (e2.trans e3)
      rw [List.length_map]
      rfl

abbrev s_scores : Stmt := topS 21
theorem sc_scores : FnScope ["instance", "weights", "boosts", "profile", "alternative"] ["instance", "weights", "boosts", "profile"] (defScope s_scores) := ⟨rfl, rfl, rfl, by decide +kernel, rfl, by decide +kernel, by decide +kernel⟩
theorem ok_scores {f : Addr} {fd : FuncData} (F : Fun K "scores" "scores" s_scores f fd) (T : Txt K mg CW CI aS) (G_score : C8.Cal P w K mg base 2 "score" (sp_score CI) []) : FnOk P w K mg base CX0 3 f fd ["instance", "weights", "boosts", "profile"] (sp_scores CI) := by
  have nd := sc_scores.nd
  refine F.ok sc_scores (fun vs H Q E h => ?_) (fun cdv A outer s H vs Q E hr h => ⟨_, (pss_one (ps_ret (pe_lc (own := [("alternative", 4)]) rfl nd (pi_range1 (by rfl) T.b_range (pa_cons (pe_fld (pv 0) rfl) pa_nil)) (blkOk_by (N := ["instance", "weights", "boosts", "profile", "alternative"]) (sc := defScope s_scores) (by decide +kernel)) (fun _ _ _ _ _ => (pg_name (i := 4) nd rfl (Or.inl rfl))) (fun _ _ _ _ _ => pts_nil) (fun _ _ _ _ _ => (C8.pe_c G_score hr (by decide) rfl (pa_cons (pv 0) (pa_cons (pv 1) (pa_cons (pv 2) (pa_cons (pv 3) (pa_cons (pv 4) pa_nil)))))))))), ?_⟩)
  · obtain ⟨p, ww, b, q, a, ws, bs, t, rfl, hS, k⟩ := h
    rfl
  · obtain ⟨p, ww, b, q, a, ws, bs, t, rfl, hS, k⟩ := h
    have wf := hS.inst.wf
    have := wf.m4
    refine Evl.s_retL (el_is (Evl.el_lcR1 (fun _ => true) (fun x => V.int (scoreS a ws bs t x)) (Evl.ea_cons (ev_lc T hS.inst (Evl.ev_var rfl)) Evl.ea_nil) ⟨by omega, by omega⟩ (fun _ => rfl) (fun i H1 e1 hi => et_yes) (fun i H1 e1 hi _ => ?_)) ?_) k
    · exact ev_call (Evl.ea_cons (Evl.ev_var rfl) (Evl.ea_cons (Evl.ev_var rfl) (Evl.ea_cons (Evl.ev_var rfl) (Evl.ea_cons (Evl.ev_var rfl) (Evl.ea_cons (Evl.ev_var rfl) Evl.ea_nil))))) (v_score (hS.mono e1) (by omega))
    · rw [given_all, Int.toNat_natCast, List.map_map]
      rfl

abbrev s_best_alternative : Stmt := topS 22
theorem sc_best_alternative : FnScope ["instance", "weights", "boosts", "profile", "found"] ["instance", "weights", "boosts", "profile"] (defScope s_best_alternative) := ⟨rfl, rfl, rfl, by decide +kernel, rfl, by decide +kernel, by decide +kernel⟩
theorem ok_best_alternative {f : Addr} {fd : FuncData} (F : Fun K "best_alternative" "best_alternative" s_best_alternative f fd) (T : Txt K mg CW CI aS) (G_scores : C8.Cal P w K mg base 3 "scores" (sp_scores CI) []) : FnOk P w K mg base CX0 4 f fd ["instance", "weights", "boosts", "profile"] (sp_best_alternative CI) := by
  have nd := sc_best_alternative.nd
  refine F.ok sc_best_alternative (fun vs H Q E h => ?_) (fun cdv A outer s H vs Q E hr h => ⟨_, (pss_cons (ps_set (i := 4) nd rfl (Or.inl rfl) (C8.pe_c G_scores hr (by decide) rfl (pa_cons (pv 0) (pa_cons (pv 1) (pa_cons (pv 2) (pa_cons (pv 3) pa_nil))))))
  (pss_one (ps_ret (pe_bm PySem.F.plainAttrs_list PySem.F.slot_list_index PySem.F.type_list_index mt_index (pv 4) (pa_cons (pe_callB (cr_max rfl) (by rfl) T.b_max (by decide +kernel) (pa_cons (pv 4) pa_nil)) pa_nil))))), ?_⟩)
  · obtain ⟨p, ww, b, q, a, ws, bs, t, rfl, hS, k⟩ := h
    rfl
  · obtain ⟨p, ww, b, q, a, ws, bs, t, rfl, hS, k⟩ := h
    have wf := hS.inst.wf
    have hm1 : 1 ≤ a.alternativeCount := by
      have := wf.m2
      omega
    obtain ⟨x1, x2, x3⟩ := argmax_go (scoreS a ws bs t) a.alternativeCount hm1
    refine Evl.q_asgL (el_call (Evl.ea_cons (Evl.ev_var rfl) (Evl.ea_cons (Evl.ev_var rfl) (Evl.ea_cons (Evl.ev_var rfl) (Evl.ea_cons (Evl.ev_var rfl) Evl.ea_nil)))) (v_scores hS)) fun c H1 hc e1 hl => ?_
    have at_ : ∀ i, i < a.alternativeCount → ((List.range a.alternativeCount).map (scoreS a ws bs t))[i]? = some (scoreS a ws bs t i) := fun i hi => by
      rw [List.getElem?_map, List.getElem?_range hi]
      rfl
    refine Evl.s_ret (ev_index (Evl.ev_var rfl) hl (ev_max (evX_R (Evl.ev_var rfl) hl) (List.mem_of_getElem? (at_ _ x1)) fun y hy => ?_) (at_ _ x1) fun i hi z hz => ?_) fun H2 e2 => k H2 (e1.trans e2)
    · obtain ⟨i, hi, rfl⟩ := List.mem_map.mp hy
      exact x2 i (List.mem_range.mp hi)
    · rw [at_ i (Nat.lt_trans hi x1)] at hz
      cases hz
      have := x3 i hi
      omega

abbrev s_total_values : Stmt := topS 24
theorem sc_total_values : FnScope ["instance", "profile"] ["instance", "profile"] (defScope s_total_values) := ⟨rfl, rfl, rfl, by decide +kernel, rfl, by decide +kernel, by decide +kernel⟩
theorem ok_total_values {f : Addr} {fd : FuncData} (F : Fun K "total_values" "total_values" s_total_values f fd) (T : Txt K mg CW CI aS) (G_scores : C8.Cal P w K mg base 3 "scores" (sp_scores CI) []) : FnOk P w K mg base CX0 4 f fd ["instance", "profile"] (sp_total_values CI) := by
  have nd := sc_total_values.nd
  refine F.ok sc_total_values (fun vs H Q E h => ?_) (fun cdv A outer s H vs Q E hr h => ⟨_, (pss_one (ps_ret (C8.pe_c G_scores hr (by decide) rfl (pa_cons (pv 0) (pa_cons (pe_op op_rep (pe_lst (pa_cons pe_int pa_nil)) (pe_fld (pv 0) rfl)) (pa_cons (pe_op op_rep (pe_lst (pa_cons pe_int pa_nil)) (pe_fld (pv 0) rfl)) (pa_cons (pv 1) pa_nil))))))), ?_⟩)
  · obtain ⟨p, q, a, t, rfl, hI, hq, hp, k⟩ := h
    rfl
  · obtain ⟨p, q, a, t, rfl, hI, hq, hp, k⟩ := h
    have wf := hI.wf
    have := wf.n3
    have := wf.m4
    have e : (List.range a.alternativeCount).map (a.totalValue t) = (List.range a.alternativeCount).map (scoreS a (List.replicate a.agentCount 1) (List.replicate a.alternativeCount 0) t) := by
      apply List.map_congr_left
      intro x _
      exact (score_total hp.1 _ x).symm
    rw [e] at k
    refine Evl.s_retL (el_callP (eap_cons (ep_of (Evl.ev_var rfl)) (eap_cons (ep_X (evX_L (el_rep Evl.ev_c (ev_ac T hI (Evl.ev_var rfl)) (by omega)))) (eap_cons (ep_X (evX_L (el_rep Evl.ev_c (ev_lc T hI (Evl.ev_var rfl)) (by omega)))) (eap_of (Evl.ea_cons (Evl.ev_var rfl) Evl.ea_nil))))) ?_) k
    rintro vs H1 e1 ⟨v1, r1, rfl, rfl, v2, r2, rfl, ⟨c2, rfl, h2⟩, v3, r3, rfl, ⟨c3, rfl, h3⟩, rfl⟩
    rw [rep_int] at h2 h3
    exact v_scores ⟨hI.mono e1, h2, List.length_replicate, fun x hx => by rw [List.eq_of_mem_replicate hx]; omega, h3, List.length_replicate, hq.mono e1, hp⟩

abbrev s_others_values : Stmt := topS 25
theorem sc_others_values : FnScope ["instance", "agent", "profile", "weights"] ["instance", "agent", "profile"] (defScope s_others_values) := ⟨rfl, rfl, rfl, by decide +kernel, rfl, by decide +kernel, by decide +kernel⟩
theorem ok_others_values {f : Addr} {fd : FuncData} (F : Fun K "others_values" "others_values" s_others_values f fd) (T : Txt K mg CW CI aS) (G_scores : C8.Cal P w K mg base 3 "scores" (sp_scores CI) []) : FnOk P w K mg base CX0 4 f fd ["instance", "agent", "profile"] (sp_others_values CI) := by
  have nd := sc_others_values.nd
  refine F.ok sc_others_values (fun vs H Q E h => ?_) (fun cdv A outer s H vs Q E hr h => ⟨_, (pss_cons (ps_set (i := 3) nd rfl (Or.inl rfl) (pe_op op_rep (pe_lst (pa_cons pe_int pa_nil)) (pe_fld (pv 0) rfl)))
  (pss_cons (ps_asg pe_int (pg_sub (pv 3) (pv 1) set_list))
  (pss_one (ps_ret (C8.pe_c G_scores hr (by decide) rfl (pa_cons (pv 0) (pa_cons (pv 3) (pa_cons (pe_op op_rep (pe_lst (pa_cons pe_int pa_nil)) (pe_fld (pv 0) rfl)) (pa_cons (pv 2) pa_nil))))))))), ?_⟩)
  · obtain ⟨p, i, q, a, t, rfl, hI, hi, hq, hp, k⟩ := h
    rfl
  · obtain ⟨p, i, q, a, t, rfl, hI, hi, hq, hp, k⟩ := h
    have wf := hI.wf
    have := wf.n3
    have := wf.m4
    have e : (List.range a.alternativeCount).map (a.othersValue i t) = (List.range a.alternativeCount).map (scoreS a ((List.replicate a.agentCount 1).set i 0) (List.replicate a.alternativeCount 0) t) := by
      apply List.map_congr_left
      intro x _
      exact (score_others hp.1 _ x i hi).symm
    rw [e] at k
    refine Evl.q_asgL (el_rep Evl.ev_c (ev_ac T hI (Evl.ev_var rfl)) (by omega)) fun c H1 hc e1 hl => ?_
    refine Evl.q_setL hl Evl.ev_c (Evl.ev_var rfl) (Evl.ev_var rfl) (by rw [List.length_replicate]; exact hi) fun H2 e2 => ?_
    have e3 : Ex H (upd H2 c (.lst ((List.replicate a.agentCount (V.int 1)).set i (.int 0)))) := Evl.Ex.mut (e1.trans e2) hc
    have hI3 := hI.mono e3
    refine Evl.s_retL (el_callP (eap_cons (ep_of (Evl.ev_var rfl)) (eap_cons (ep_X (evX_R (Evl.ev_var rfl) upd_same)) (eap_cons (ep_X (evX_L (el_rep Evl.ev_c (ev_lc T hI3 (Evl.ev_var rfl)) (by omega)))) (eap_of (Evl.ea_cons (Evl.ev_var rfl) Evl.ea_nil))))) ?_) fun p2 H4 h1 h2 h3 => k p2 H4 (Evl.fresh_back e3 h1) (e3.trans h2) h3
    rintro vs H4 e4 ⟨v1, r1, rfl, rfl, v2, r2, rfl, ⟨c2, rfl, h2⟩, v3, r3, rfl, ⟨c3, rfl, h3⟩, rfl⟩
    rw [rep_int, ← List.map_set] at h2
    rw [rep_int] at h3
    exact v_scores ⟨hI3.mono e4, h2, by rw [List.length_set, List.length_replicate], fun x hx => by
      rcases List.mem_or_eq_of_mem_set hx with z | z
      · rw [List.eq_of_mem_replicate z]; omega
      · omega, h3, List.length_replicate, (hq.mono e3).mono e4, hp⟩

abbrev s_pivot_payment : Stmt := topS 43
theorem sc_pivot_payment : FnScope ["instance", "agent", "profile", "values"] ["instance", "agent", "profile"] (defScope s_pivot_payment) := ⟨rfl, rfl, rfl, by decide +kernel, rfl, by decide +kernel, by decide +kernel⟩
theorem ok_pivot_payment {f : Addr} {fd : FuncData} (F : Fun K "pivot_payment" "pivot_payment" s_pivot_payment f fd) (T : Txt K mg CW CI aS) (G_m_allocated : C8.Met P w K mg base 2 CI "allocated" (sp_allocated CI) []) (G_others_values : C8.Cal P w K mg base 4 "others_values" (sp_others_values CI) []) : FnOk P w K mg base CX0 5 f fd ["instance", "agent", "profile"] (sp_pivot_payment CI) := by
  have nd := sc_pivot_payment.nd
  refine F.ok sc_pivot_payment (fun vs H Q E h => ?_) (fun cdv A outer s H vs Q E hr h => ⟨_, (pss_cons (ps_set (i := 3) nd rfl (Or.inl rfl) (C8.pe_c G_others_values hr (by decide) rfl (pa_cons (pv 0) (pa_cons (pv 1) (pa_cons (pv 2) pa_nil)))))
  (pss_one (ps_ret (pe_op opSub (pe_callB (cr_max rfl) (by rfl) T.b_max (by decide +kernel) (pa_cons (pv 3) pa_nil)) (pe_ix (ixL (K := K) rfl) (pv 3) (C8.pe_mt G_m_allocated hr (by decide) (pv 0) (by exact (pa_cons (pv 2) pa_nil))) (fun _ _ => rfl)))))), ?_⟩)
  · obtain ⟨p, i, q, a, t, rfl, hI, hi, hq, hp, k⟩ := h
    rfl
  · obtain ⟨p, i, q, a, t, rfl, hI, hi, hq, hp, k⟩ := h
    have wf := hI.wf
    have hm1 : 1 ≤ a.alternativeCount := by
      have := wf.m2
      omega
    obtain ⟨x1, x2, x3⟩ := argmax_go (a.othersValue i t) a.alternativeCount hm1
    have at_ : ∀ j, j < a.alternativeCount → ((List.range a.alternativeCount).map (a.othersValue i t))[j]? = some (a.othersValue i t j) := fun j hj => by
      rw [List.getElem?_map, List.getElem?_range hj]
      rfl
    refine Evl.q_asgL (el_call (Evl.ea_cons (Evl.ev_var rfl) (Evl.ea_cons (Evl.ev_var rfl) (Evl.ea_cons (Evl.ev_var rfl) Evl.ea_nil))) (v_others_values hI hi hq hp)) fun c H1 hc e1 hl => ?_
    refine Evl.s_ret (ev_sub (ev_max (evX_R (Evl.ev_var rfl) hl) (List.mem_of_getElem? (at_ _ x1)) fun y hy => ?_) (ev_ixL (Evl.ev_var rfl) (ev_m (hI.mono e1) (fun _ _ _ _ => fs_allocated) (Evl.ev_var rfl) (Evl.ea_cons (Evl.ev_var rfl) Evl.ea_nil) (v_allocated (hI.mono e1) (hq.mono e1) hp)) hl (map_at (at_ _ (alloc_lt wf hp))))) fun H2 e2 => k H2 (e1.trans e2)
    obtain ⟨j, hj, rfl⟩ := List.mem_map.mp hy
    exact x2 j (List.mem_range.mp hj)

end
end Tp

namespace Tp
open PySem PySem.Spec PyProof.Rows L2
open Su196 (Instance)
open Evl (Ex Ev EvL EvT EvA EvO RetL RetV SpV SpL)
section
variable {P : Program} {w : World} {K : PySem.W.Frag} {mg : Str → Option Value} {base : Heap} {CW CI aS : Addr}

/-! lists told by P: loops and comprehensions over them -/
section
variable {σ : L2.St} {H H' : Hp} {ta tb te : TE} {t : TT} {D : Ends} {tu tz : TS}
theorem s_forLnP {tl : TE} {j : Nat} {R : V → Hp → Prop} (h : EvP tl σ H R)
    (k : ∀ v H1, Ex H H1 → Bx R v H1 → ∃ (a : Addr) (xs : List V) (Pv : Nat → L2.St → Hp → Prop), v = .ref a ∧ H1 a = some (.lst xs) ∧ Pv 0 σ H1 ∧ (∀ i σ' H', Pv i σ' H' → H' a = some (.lst xs)) ∧
      (∀ i x σ' H', xs[i]? = some x → Pv i σ' H' → tu { D with nx := Pv (i + 1), ct := Pv (i + 1), bk := D.nx } (σ'.set j (some x)) H') ∧ (∀ σ' H', Pv xs.length σ' H' → D.nx σ' H')) : tFor (iList K tl) (gName j) tu D σ H :=
  h H (Ex.refl H) _ fun v H1 e b => by
    obtain ⟨a, xs, Pv, rfl, hx, h0, hl, hs, hd⟩ := k v H1 e b
    exact ⟨a, rfl, ⟨xs, Evl.sq_of hx⟩, for_list Pv h0 (fun i σ' H' _ p => Evl.sq_of (hl i σ' H' p)) hs hd⟩
theorem q_forLnP {tl : TE} {j : Nat} {R : V → Hp → Prop} (h : EvP tl σ H R)
    (k : ∀ v H1, Ex H H1 → Bx R v H1 → ∃ (a : Addr) (xs : List V) (Pv : Nat → L2.St → Hp → Prop), v = .ref a ∧ H1 a = some (.lst xs) ∧ Pv 0 σ H1 ∧ (∀ i σ' H', Pv i σ' H' → H' a = some (.lst xs)) ∧
      (∀ i x σ' H', xs[i]? = some x → Pv i σ' H' → tu { D with nx := Pv (i + 1), ct := Pv (i + 1), bk := tz D } (σ'.set j (some x)) H') ∧ (∀ σ' H', Pv xs.length σ' H' → tz D σ' H')) : tSeq (tFor (iList K tl) (gName j) tu) tz D σ H :=
  s_forLnP (D := { D with nx := tz D }) h k
theorem ep_lcP {tl : TE} {j : Nat} {vs : List Nat} {R S : V → Hp → Prop} (h : EvP tl σ H R) (hw : ∀ x, wipe ((wipe σ vs).set j (some x)) vs = wipe σ vs)
    (k : ∀ v H1, Ex H H1 → Bx R v H1 → ∃ (a : Addr) (xs : List V) (f : Nat → Bool) (vv : Nat → V), v = .ref a ∧ H1 a = some (.lst xs) ∧ xs.length ≤ 40000 ∧
      (∀ (i : Nat) (x : V), xs[i]? = some x → EvT t ((wipe σ vs).set j (some x)) H1 (f i)) ∧ (∀ (i : Nat) (x : V), xs[i]? = some x → f i = true → Ev te ((wipe σ vs).set j (some x)) H1 (vv i)) ∧
      (∀ q H2, H1 q = none → Ex H1 H2 → H2 q = some (.lst (Evl.given xs.length f vv)) → Bx S (.ref q) H2)) : EvP (tLc (iList K tl) (gName j) t te vs) σ H S := fun H0 e Q q =>
  h H0 e _ fun v H1 e1 b => by
    obtain ⟨a, xs, f, vv, rfl, hx, hz, ht, he, hs⟩ := k v H1 (e.trans e1) b
    exact ⟨a, rfl, ⟨xs, Evl.sq_of hx⟩, fun Dl hD => lc_list (xs := xs) (Evl.Cw H1 f vv Dl) ⟨hD, Ex.new hD, upd_same⟩ (fun i H' _ p => Evl.sq_of (p.2.1 _ _ hx)) (fun i x H' hi p => ⟨hw x, Evl.cw_turn p (by have := (List.getElem?_eq_some_iff.mp hi).1; omega) (ht i x hi) (fun hf => he i x hi hf)⟩)
      (fun H' p => q _ H' (e1.trans p.2.1) (hs Dl H' p.1 p.2.1 p.2.2))⟩
theorem el_lcP {tl : TE} {j : Nat} {vs : List Nat} {R : V → Hp → Prop} {ys : List V} (h : EvP tl σ H R) (hw : ∀ x, wipe ((wipe σ vs).set j (some x)) vs = wipe σ vs)
    (k : ∀ v H1, Ex H H1 → Bx R v H1 → ∃ (a : Addr) (xs : List V) (f : Nat → Bool) (vv : Nat → V), v = .ref a ∧ H1 a = some (.lst xs) ∧ xs.length ≤ 40000 ∧
      (∀ (i : Nat) (x : V), xs[i]? = some x → EvT t ((wipe σ vs).set j (some x)) H1 (f i)) ∧ (∀ (i : Nat) (x : V), xs[i]? = some x → f i = true → Ev te ((wipe σ vs).set j (some x)) H1 (vv i)) ∧ Evl.given xs.length f vv = ys) : EvL (tLc (iList K tl) (gName j) t te vs) σ H ys := fun H0 e Q q =>
  h H0 e _ fun v H1 e1 b => by
    obtain ⟨a, xs, f, vv, rfl, hx, hz, ht, he, hs⟩ := k v H1 (e.trans e1) b
    exact ⟨a, rfl, ⟨xs, Evl.sq_of hx⟩, fun Dl hD => lc_list (xs := xs) (Evl.Cw H1 f vv Dl) ⟨hD, Ex.new hD, upd_same⟩ (fun i H' _ p => Evl.sq_of (p.2.1 _ _ hx)) (fun i x H' hi p => ⟨hw x, Evl.cw_turn p (by have := (List.getElem?_eq_some_iff.mp hi).1; omega) (ht i x hi) (fun hf => he i x hi hf)⟩)
      (fun H' p => q Dl H' (Evl.fresh_back e1 p.1) (e1.trans p.2.1) (by rw [← hs]; exact p.2.2))⟩
end
theorem inV_nat (x : Nat) (l : List Nat) : inV (nV x) (l.map nV) = decide (x ∈ l) := by
  unfold inV
  rw [List.any_map]
  rw [Bool.eq_iff_iff, List.any_eq_true, decide_eq_true_eq]
  constructor
  · rintro ⟨y, hy, h⟩
    have e : ((y : Nat) : Int) = (x : Int) := by simpa [eqV] using h
    have : y = x := Int.ofNat.inj e
    exact this ▸ hy
  · intro h
    exact ⟨x, h, by simp [eqV]⟩
theorem flat_nat (l : List Nat) : (l.map nV).all flatV = true := by
  rw [List.all_eq_true]
  intro v hv
  obtain ⟨x, _, rfl⟩ := List.mem_map.mp hv
  rfl
theorem prev_at {cs : List Nat} {j : Nat} (h1 : 1 ≤ cs.length) (hj : j < cs.length) : atI (cs.map nV) ((j : Int) - 1) = some (nV (prevOf cs j)) := by
  unfold prevOf
  by_cases c : j = 0
  · subst c
    rw [if_pos rfl]
    have e : cs = cs.take (cs.length - 1) ++ [cs.getD (cs.length - 1) 0] := by
      have h2 : cs[cs.length - 1]? = some (cs.getD (cs.length - 1) 0) := at_getD 0 (by omega)
      have h3 := List.take_add_one (l := cs) (i := cs.length - 1)
      rw [h2] at h3
      have h4 : cs.length - 1 + 1 = cs.length := by omega
      rw [h4, List.take_length] at h3
      exact h3
    rw [e, List.map_append]
    have h5 := atI_last ((cs.take (cs.length - 1)).map nV) (nV (cs.getD (cs.length - 1) 0))
    have e6 : (cs.take (cs.length - 1) ++ [cs.getD (cs.length - 1) 0]).getD ((cs.take (cs.length - 1) ++ [cs.getD (cs.length - 1) 0]).length - 1) 0 = cs.getD (cs.length - 1) 0 := by rw [← e]
    rw [e6]
    exact h5
  · rw [if_neg c]
    have e : ((j : Int) - 1) = ((j - 1 : Nat) : Int) := by omega
    rw [e]
    exact atI_nat (map_at (at_getD 0 (by omega)))
theorem prev_lt {cs : List Nat} {j n : Nat} (h1 : 1 ≤ cs.length) (hj : j < cs.length) (h : ∀ x ∈ cs, x < n) : prevOf cs j < n := by
  unfold prevOf
  split
  · exact h _ (List.mem_of_getElem? (at_getD 0 (by omega)))
  · exact h _ (List.mem_of_getElem? (at_getD 0 (by omega)))
theorem ext1_map (c : Nat) (path : List Nat) : (ext1 c path).map (fun xs => xs.map nV) = picked (c - (path.getD 0 0 + 1)) (fun j => decide (path.getD 0 0 + 1 + j ∉ path)) (fun j => path.map nV ++ [nV (path.getD 0 0 + 1 + j)]) := by
  unfold ext1 picked
  rw [List.map_map]
  congr 1
  funext j
  show (path ++ [path.getD 0 0 + 1 + j]).map nV = _
  rw [List.map_append]
  rfl
/-- a list of numbers at another place than f -/
def RN (f : Addr) : Hp → Addr → List Nat → Prop := fun H q x => q ≠ f ∧ LN H q x
theorem RN.mono {f : Addr} {H H' : Hp} {q : Addr} {x : List Nat} (h : RN f H q x) (e : Ex H H') : RN f H' q x := ⟨h.1, h.2.mono e⟩

abbrev s_cycles_of : Stmt := topS 34
theorem sc_cycles_of : FnScope ["count", "most", "found", "paths", "size", "longer", "path", "kind"] ["count", "most"] (defScope s_cycles_of) := ⟨rfl, rfl, rfl, by decide +kernel, rfl, by decide +kernel, by decide +kernel⟩
theorem ok_cycles_of {f : Addr} {fd : FuncData} (F : Fun K "cycles_of" "cycles_of" s_cycles_of f fd) (T : Txt K mg CW CI aS) : FnOk P w K mg base CX0 1 f fd ["count", "most"] sp_cycles_of := by
  have nd := sc_cycles_of.nd
  refine F.ok sc_cycles_of (fun vs H Q E h => ?_) (fun cdv A outer s H vs Q E hr h => ⟨_, (pss_cons (ps_set (i := 2) nd rfl (Or.inl rfl) (pe_lst pa_nil))
  (pss_cons (ps_setLc (i := 3) (own := [("kind", 7)]) rfl nd rfl rfl (sw_true rfl rfl rfl (by decide +kernel)) (pi_range1 (by rfl) T.b_range (pa_cons (pv 0) pa_nil)) (blkOk_by (N := ["count", "most", "found", "paths", "size", "longer", "path", "kind"]) (sc := defScope s_cycles_of) (by decide +kernel)) (fun _ _ _ _ _ => (pg_name (i := 7) nd rfl (Or.inl rfl))) (fun _ _ _ _ _ => pts_nil) (fun _ _ _ _ _ => (pe_lst (pa_cons (pv 7) pa_nil))))
  (pss_cons (ps_for PassesOwn.never rfl (pi_range2 (by rfl) T.b_range (pa_cons pe_int (pa_cons (pe_op opAdd (pv 1) pe_int) pa_nil))) (pg_name (i := 4) nd rfl (Or.inl rfl))
   (pss_cons (ps_set (i := 5) nd rfl (Or.inl rfl) (pe_lst pa_nil))
  (pss_cons (ps_for PassesOwn.never rfl (pi_list (pv 3)) (pg_name (i := 6) nd rfl (Or.inr rfl))
   (pss_one (ps_expr (pe_bm PySem.F.plainAttrs_list PySem.F.slot_list_extend PySem.F.type_list_extend mt_extend (pv 5) (pa_cons (pe_lc (own := [("kind", 7)]) rfl nd (pi_range2 (by rfl) T.b_range (pa_cons (pe_op opAdd (pe_ix (ixL (K := K) rfl) (pv 6) pe_int (fun _ _ => rfl)) pe_int) (pa_cons (pv 0) pa_nil))) (blkOk_by (N := ["count", "most", "found", "paths", "size", "longer", "path", "kind"]) (sc := defScope s_cycles_of) (by decide +kernel)) (fun _ _ _ _ _ => (pg_name (i := 7) nd rfl (Or.inl rfl))) (fun _ _ _ _ _ => (pts_one (pt_cmpR (opNotIn (K := K) rfl) (pv 7) (pv 6) (by rfl)))) (fun _ _ _ _ _ => (pe_op op_cat (pv 6) (pe_lst (pa_cons (pv 7) pa_nil))))) pa_nil)))))
  (pss_cons (ps_set (i := 3) nd rfl (Or.inl rfl) (pv 5))
  (pss_one (ps_expr (pe_bm PySem.F.plainAttrs_list PySem.F.slot_list_extend PySem.F.type_list_extend mt_extend (pv 2) (pa_cons (pv 3) pa_nil))))))))
  (pss_one (ps_ret (pv 2)))))), ?_⟩)
  · obtain ⟨c, m, rfl, hc, hm, k⟩ := h
    rfl
  · obtain ⟨c, m, rfl, hc, hm, k⟩ := h
    have hm1 : 2 ≤ m ∧ m ≤ 4 := by omega
    refine Evl.q_asgL (Evl.el_lst Evl.ea_nil (by show 0 ≤ 100000; decide)) fun fa H1 hfa e1 hf => ?_
    refine q_asgLL (ell_lcR1 (n := c) (fun _ => true) (fun i => [nV i]) (Evl.ea_cons (Evl.ev_var rfl) Evl.ea_nil) (by omega) (fun _ => rfl) (fun i H2 e2 hi => et_yes) (fun i H2 e2 hi _ => Evl.el_lst (Evl.ea_cons (Evl.ev_var rfl) Evl.ea_nil) (by show 1 ≤ 100000; decide))) fun pp ps H2 nw => ?_
    have hp0 : pp ≠ fa ∧ LR (RN fa) H2 pp (pathsU c 0) := by
      refine ⟨fun z => ?_, ps, nw.2.2.1, ?_, fun i q x a b => ?_⟩
      · have := nw.1
        rw [z, hf] at this
        cases this
      · rw [nw.2.2.2.1, picked_all, List.length_map]
        unfold pathsU
        rw [List.length_map]
      · have hi := (List.getElem?_eq_some_iff.mp b).1
        unfold pathsU at b hi
        rw [List.length_map, List.length_range] at hi
        rw [List.getElem?_map, List.getElem?_range hi] at b
        cases b
        obtain ⟨g1, g2, g3⟩ := nw.2.2.2.2 i q [nV i] a (by
          rw [picked_all, List.getElem?_map, List.getElem?_range hi]
          rfl)
        refine ⟨fun z => ?_, g3⟩
        rw [z, hf] at g1
        cases g1
    refine Evl.q_forR2 (lo := 2) (n := (m : Int) + 1) (Evl.ea_cons Evl.ev_c (Evl.ea_cons (ev_add (Evl.ev_var rfl) Evl.ev_c) Evl.ea_nil)) ⟨by omega, by omega, by omega, by omega⟩
      (fun i σ' H' => Ex H H' ∧ Acc LN fa (foundU c i) H' ∧ ∃ pp v4 v5 v6, σ' = [some (nV c), some (nV m), some (.ref fa), some (.ref pp), v4, v5, v6, none] ∧ pp ≠ fa ∧ LR (RN fa) H' pp (pathsU c i))
      (fun H3 e3 => ⟨(e1.trans nw.2.1).trans e3, acc_nil (e3 _ _ (nw.2.1 _ _ hf)), pp, none, none, none, rfl, hp0.1, LR.mono (R := RN fa) (fun _ _ _ _ e h => RN.mono h e) hp0.2 e3⟩) ?_ ?_
    · rintro i σ' H3 hi ⟨e3, ac, pp, v4, v5, v6, rfl, hpf, hps⟩
      have hi3 : i + 1 ≤ 3 := by omega
      obtain ⟨b1, b2, b3⟩ := paths_ok hc (show i ≤ 3 by omega)
      obtain ⟨c1, c2, c3⟩ := paths_ok hc hi3
      refine Evl.q_asgL (Evl.el_lst Evl.ea_nil (by show 0 ≤ 100000; decide)) fun lg H4 hlg e4 hl => ?_
      obtain ⟨ps, f1, f2, f3⟩ := hps
      obtain ⟨fs, a1, a2, a3⟩ := ac
      have hlf : lg ≠ fa := fun z => by
        rw [z, a1] at hlg
        cases hlg
      refine Evl.q_forLn (xs := ps.map V.ref) (Evl.ev_var rfl) (Evl.sq_of (e4 _ _ f1))
        (fun j σ' H' => Ex H3 H' ∧ Acc (RN fa) lg (((pathsU c i).take j).flatMap (ext1 c)) H' ∧ ∃ v6, σ' = [some (nV c), some (nV m), some (.ref fa), some (.ref pp), some (.int (2 + (i : Int))), some (.ref lg), v6, none])
        (fun H5 e5 => ⟨e4.trans e5, acc_nil (e5 _ _ hl), v6, rfl⟩) (fun j σ' H' _ h => Evl.sq_of (h.1 _ _ f1)) ?_ ?_
      · rintro j x σ' H5 hx ⟨e5, ac, v6', rfl⟩
        obtain ⟨qs, d1, rfl⟩ := map_at' hx
        have hj : j < (pathsU c i).length := by
          rw [← f2]
          exact (List.getElem?_eq_some_iff.mp d1).1
        have d2 : (pathsU c i)[j]? = some (pathsU c i)[j] := List.getElem?_eq_getElem hj
        generalize hpath : (pathsU c i)[j] = path at d2
        have hmem : path ∈ pathsU c i := List.mem_of_getElem? d2
        obtain ⟨m1, m2, m3⟩ := b3 path hmem
        have d3 := (f3 j qs _ d1 d2).2
        obtain ⟨ps2, g1, g2, g3⟩ := ac
        have hal : ps2.length ≤ 100 := by
          rw [g2]
          have e6 : (pathsU c (i + 1)) = (pathsU c i).flatMap (ext1 c) := rfl
          have e7 : ((pathsU c i).take j).flatMap (ext1 c) ++ ((pathsU c i).drop j).flatMap (ext1 c) = (pathsU c i).flatMap (ext1 c) := by
            rw [← List.flatMap_append, List.take_append_drop]
          rw [e6, ← e7, List.length_append] at c1
          omega
        have h0 : path[0]? = some (path.getD 0 0) := at_getD 0 (by omega)
        refine s_extLL (yss := (ext1 c path).map fun xs => xs.map nV) g1 (Evl.ev_var rfl) (EvLL.is (ell_lcR2 (lo := path.getD 0 0 + 1) (hi := c) (fun j => decide (path.getD 0 0 + 1 + j ∉ path)) (fun j => path.map nV ++ [nV (path.getD 0 0 + 1 + j)]) (Evl.ea_cons (ev_add (ev_ixL (i := 0) (Evl.ev_var rfl) Evl.ev_c (d3.mono e5) (map_at h0)) Evl.ev_c) (Evl.ea_cons (Evl.ev_var rfl) Evl.ea_nil)) (by omega) (by omega) (fun _ => rfl) (fun k H6 e6 hk => ?_) (fun k H6 e6 hk _ => ?_)) (ext1_map c path).symm) ?_ fun np nps H6 nw => ⟨?_, ?_, _, rfl⟩
        · refine Evl.et_is (Evl.et_test (Evl.ev_op (Evl.ev_var rfl) (Evl.ev_var rfl) (Evl.rv_niL (Evl.sq_of ((d3.mono e5).mono e6)) rfl (flat_nat _)))) ?_
          rw [inV_nat]
          simp
        · refine el_cat (evX_R (Evl.ev_var rfl) ((d3.mono e5).mono e6)) (evX_L (Evl.el_lst (Evl.ea_cons (Evl.ev_var rfl) Evl.ea_nil) (by show 1 ≤ 100000; decide))) ?_
          rw [List.length_map]
          show _ + 1 ≤ 100000
          omega
        · rw [List.length_map, List.length_map]
          have : (ext1 c path).length ≤ c := by
            unfold ext1
            rw [List.length_map]
            have h := List.length_filter_le (fun j => decide (path.getD 0 0 + 1 + j ∉ path)) (List.range (c - (path.getD 0 0 + 1)))
            rw [List.length_range] at h
            omega
          omega
        · exact Evl.Ex.mut (e5.trans nw.2.1) hlg
        · rw [take_flat _ _ _ _ d2]
          refine acc_more (R := RN fa) (fun _ _ _ _ _ n h => ⟨h.1, LN.upd n h.2⟩) g2 (fun j2 q' x b1 b2 => ⟨(g3 j2 q' x b1 b2).1, (g3 j2 q' x b1 b2).2.mono nw.2.1⟩) ?_ fun j2 q' x b1 b2 => ?_
          · rw [nw.2.2.2.1, List.length_map]
          · obtain ⟨n1, n2, n3⟩ := nw.2.2.2.2 j2 q' (x.map nV) b1 (by
              rw [List.getElem?_map, b2]
              rfl)
            refine ⟨fun z => ?_, fun z => ?_, n3⟩
            · rw [z, g1] at n1
              cases n1
            · rw [z, e5 _ _ a1] at n1
              cases n1
      · rintro σ' H5 ⟨e5, ac, v6', rfl⟩
        rw [List.length_map, f2, List.take_of_length_le (Nat.le_refl _)] at ac
        obtain ⟨ls, g1, g2, g3⟩ := ac
        refine Evl.q_asg (Evl.ev_var rfl) fun H6 e6 => ?_
        have hfa6 := e6 _ _ (e5 _ _ a1)
        have hlg6 := e6 _ _ g1
        refine s_ext hfa6 (Evl.ev_var rfl) (evX_R (Evl.ev_var rfl) hlg6) ?_ fun H7 e7 => ⟨?_, ?_, lg, _, _, _, rfl, hlf, ls, ?_, g2, fun j q x b1 b2 => ⟨(g3 j q x b1 b2).2.1, LN.upd (g3 j q x b1 b2).2.1 (((g3 j q x b1 b2).2.2.mono e6).mono e7)⟩⟩
        · rw [List.length_map, List.length_map, a2, g2]
          have : ((pathsU c i).flatMap (ext1 c)).length ≤ 100 := c1
          omega
        · exact Evl.Ex.mut (e3.trans (e5.trans (e6.trans e7))) hfa
        · exact acc_more (R := LN) (fun _ _ _ _ _ => LN.upd) a2 (fun j q x b1 b2 => ⟨(a3 j q x b1 b2).1, (((a3 j q x b1 b2).2.mono e5).mono e6).mono e7⟩) g2 (fun j q x b1 b2 => ⟨(g3 j q x b1 b2).2.1, ((g3 j q x b1 b2).2.2.mono e6).mono e7⟩)
        · rw [upd_ne hlf]
          exact e7 _ _ hlg6
    · rintro σ' H3 ⟨e3, ac, pp, v4, v5, v6, rfl, hpf, hps⟩
      have e4 : ((m : Int) + 1 - 2).toNat = m - 1 := by omega
      rw [e4] at ac
      exact Evl.s_ret (Evl.ev_var rfl) fun H4 e4 => k _ H4 (e3.trans e4) (bx_LLN (LLN.mono ac.lr e4))

abbrev s_cycle_length : Stmt := topS 35
theorem sc_cycle_length : FnScope ["losses", "cycle", "place", "kind"] ["losses", "cycle"] (defScope s_cycle_length) := ⟨rfl, rfl, rfl, by decide +kernel, rfl, by decide +kernel, by decide +kernel⟩
theorem ok_cycle_length {f : Addr} {fd : FuncData} (F : Fun K "cycle_length" "cycle_length" s_cycle_length f fd) (T : Txt K mg CW CI aS) : FnOk P w K mg base CX0 1 f fd ["losses", "cycle"] sp_cycle_length := by
  have nd := sc_cycle_length.nd
  refine F.ok sc_cycle_length (fun vs H Q E h => ?_) (fun cdv A outer s H vs Q E hr h => ⟨_, (pss_one (ps_ret (pe_callB (cr_sum rfl) (by rfl) T.b_sum (by decide +kernel) (pa_cons (pe_lc (own := [("place", 2), ("kind", 3)]) rfl nd (pi_enum (by rfl) T.b_enumerate (pa_cons (pv 1) pa_nil)) (blkOk_by (N := ["losses", "cycle", "place", "kind"]) (sc := defScope s_cycle_length) (by decide +kernel)) (fun _ _ _ _ _ => (pg_pair (K := K) (i := 2) (j := 3) rfl rfl nd rfl (by first | exact Or.inl rfl | exact Or.inr rfl) (by first | exact Or.inl rfl | exact Or.inr rfl) rfl (by first | exact Or.inl rfl | exact Or.inr rfl) (by first | exact Or.inl rfl | exact Or.inr rfl))) (fun _ _ _ _ _ => pts_nil) (fun _ _ _ _ _ => (pe_ix (ixL (K := K) rfl) (pe_ix (ixL (K := K) rfl) (pv 0) (pv 3) (fun _ _ => rfl)) (pe_ix (ixL (K := K) rfl) (pv 1) (pe_op opSub (pv 2) pe_int) (fun _ _ => rfl)) (fun _ _ => rfl)))) pa_nil)))), ?_⟩)
  · obtain ⟨l, q, M, n, cs, rfl, hM, sq, hq, h1, h2, h3, k⟩ := h
    rfl
  · obtain ⟨l, q, M, n, cs, rfl, hM, sq, hq, h1, h2, h3, k⟩ := h
    obtain ⟨ps, p1, p2, p3⟩ := LR.at hM
    have hrow : ∀ x, x < n → ∃ r, ps[x]? = some r ∧ LI H r (M.getD x []) := fun x hx => p3 x _ (sq.at hx)
    refine Evl.s_ret (ev_sum (ns := (List.range cs.length).map fun j => lossAt M (cs.getD j 0) (prevOf cs j)) (evX_L (el_is (el_lcEnum (fun _ => true) (fun j => V.int (lossAt M (cs.getD j 0) (prevOf cs j))) (Evl.ea_cons (Evl.ev_var rfl) Evl.ea_nil) hq ?_ (fun _ _ => rfl) (fun j x H1 e1 hx => et_yes) (fun j x H1 e1 hx _ => ?_)) ?_))) k
    · rw [List.length_map]
      omega
    · obtain ⟨y, g1, rfl⟩ := map_at' hx
      have hj : j < cs.length := (List.getElem?_eq_some_iff.mp g1).1
      have ey : cs.getD j 0 = y := by simp [List.getD, g1]
      have hy : y < n := h3 y (List.mem_of_getElem? g1)
      obtain ⟨r, r1, r2⟩ := hrow y hy
      rw [ey]
      exact ev_ixL (ev_ixL (Evl.ev_var rfl) (Evl.ev_var rfl) (e1 _ _ p1) (map_at (f := V.ref) r1)) (ev_ixLi (Evl.ev_var rfl) (ev_sub (Evl.ev_var rfl) Evl.ev_c) (e1 _ _ hq) (prev_at h1 hj)) (r2.mono e1) (map_at (sq.at2 hy (prev_lt h1 hj h3)))
    · rw [given_all, List.length_map, List.map_map]
      rfl

abbrev s_first_negative : Stmt := topS 36
theorem sc_first_negative : FnScope ["losses", "cycles", "cycle"] ["losses", "cycles"] (defScope s_first_negative) := ⟨rfl, rfl, rfl, by decide +kernel, rfl, by decide +kernel, by decide +kernel⟩
theorem ok_first_negative {f : Addr} {fd : FuncData} (F : Fun K "first_negative" "first_negative" s_first_negative f fd) (T : Txt K mg CW CI aS) (G_cycle_length : C8.Cal P w K mg base 1 "cycle_length" sp_cycle_length []) : FnOk P w K mg base CX0 2 f fd ["losses", "cycles"] sp_first_negative := by
  have nd := sc_first_negative.nd
  refine F.ok sc_first_negative (fun vs H Q E h => ?_) (fun cdv A outer s H vs Q E hr h => ⟨_, (pss_cons (ps_for PassesOwn.never rfl (pi_list (pv 1)) (pg_name (i := 2) nd rfl (Or.inl rfl))
   (pss_one (ps_if (pt_cmpR opLt (C8.pe_c G_cycle_length hr (by decide) rfl (pa_cons (pv 0) (pa_cons (pv 2) pa_nil))) pe_int (nomark _))
   (pss_one (ps_ret (pv 2))) pss_nil)))
  (pss_one (ps_ret pe_non))), ?_⟩)
  · obtain ⟨l, q, M, n, css, rfl, hM, sq, hq, hcs, k⟩ := h
    rfl
  · obtain ⟨l, q, M, n, css, rfl, hM, sq, hq, hcs, k⟩ := h
    obtain ⟨ps, p1, p2, p3⟩ := hq
    refine Evl.q_forLn (xs := ps.map V.ref) (Evl.ev_var rfl) (Evl.sq_of p1)
      (fun i σ' H' => Ex H H' ∧ (css.take i).find? (negB M) = none ∧ ∃ v2, σ' = [some (.ref l), some (.ref q), v2])
      (fun H1 e1 => ⟨e1, rfl, none, rfl⟩) (fun i σ' H' _ h => Evl.sq_of (h.1 _ _ p1)) ?_ ?_
    · rintro i x σ' H1 hx ⟨e1, hn, v2, rfl⟩
      obtain ⟨qc, d1, rfl⟩ := map_at' hx
      have hi : i < css.length := by
        rw [← p2]
        exact (List.getElem?_eq_some_iff.mp d1).1
      have d2 : css[i]? = some css[i] := List.getElem?_eq_getElem hi
      generalize css[i] = cs at d2
      obtain ⟨b1, b2, b3⟩ := hcs cs (List.mem_of_getElem? d2)
      have d3 := p3 i qc cs d1 d2
      refine Evl.s_when (Evl.et_test (ev_lt (ev_call (Evl.ea_cons (Evl.ev_var rfl) (Evl.ea_cons (Evl.ev_var rfl) Evl.ea_nil)) (v_cycle_length (hM.mono e1) sq (d3.mono e1) b1 b2 b3)) Evl.ev_c)) (fun hb H2 e2 => ?_) (fun hb H2 e2 => ?_)
      · have hp : negB M cs = true := hb
        refine Evl.s_ret (Evl.ev_var rfl) fun H3 e3 => k _ H3 ((e1.trans e2).trans e3) fun H4 e4 => ?_
        rw [find_here d2 hn hp]
        exact ⟨qc, rfl, d3.mono ((e1.trans e2).trans (e3.trans e4))⟩
      · have hp : negB M cs = false := hb
        exact ⟨e1.trans e2, find_on d2 hn hp, _, rfl⟩
    · rintro σ' H1 ⟨e1, hn, v2, rfl⟩
      rw [List.length_map, p2, List.take_of_length_le (Nat.le_refl _)] at hn
      refine Evl.s_ret Evl.ev_c fun H2 e2 => k _ H2 (e1.trans e2) fun H3 e3 => ?_
      rw [hn]
      rfl

abbrev s_base_profiles : Stmt := topS 37
theorem sc_base_profiles : FnScope ["instance", "agent", "profile"] ["instance", "agent"] (defScope s_base_profiles) := ⟨rfl, rfl, rfl, by decide +kernel, rfl, by decide +kernel, by decide +kernel⟩
theorem ok_base_profiles {f : Addr} {fd : FuncData} (F : Fun K "base_profiles" "base_profiles" s_base_profiles f fd) (T : Txt K mg CW CI aS) (G_m_profiles : C8.Met P w K mg base 1 CI "profiles" (sp_profiles CI) []) : FnOk P w K mg base CX0 2 f fd ["instance", "agent"] (sp_base_profiles CI) := by
  have nd := sc_base_profiles.nd
  refine F.ok sc_base_profiles (fun vs H Q E h => ?_) (fun cdv A outer s H vs Q E hr h => ⟨_, (pss_one (ps_ret (pe_lc (own := [("profile", 2)]) rfl nd (pi_list (C8.pe_mt0 G_m_profiles hr (by decide) (pv 0))) (blkOk_by (N := ["instance", "agent", "profile"]) (sc := defScope s_base_profiles) (by decide +kernel)) (fun _ _ _ _ _ => (pg_name (i := 2) nd rfl (Or.inl rfl))) (fun _ _ _ _ _ => (pts_one (pt_cmpR op_eq (pe_ix (ixL (K := K) rfl) (pv 2) (pv 1) (fun _ _ => rfl)) pe_int (nomark _)))) (fun _ _ _ _ _ => (pv 2))))), ?_⟩)
  · obtain ⟨p, i, a, rfl, hI, hi, k⟩ := h
    rfl
  · obtain ⟨p, i, a, rfl, hI, hi, k⟩ := h
    have wf := hI.wf
    refine s_retP (ep_lcP (S := pLLN (a.baseProfiles i)) (ep_m hI (fun _ _ _ _ => fs_profiles) (Evl.ev_var rfl) Evl.ea_nil (v_profiles hI)) (fun _ => rfl) fun v H1 e1 b => ?_) k
    obtain ⟨q, rfl, hq⟩ := b H1 (Ex.refl _)
    obtain ⟨ps, p1, p2, p3⟩ := hq
    refine ⟨q, ps.map V.ref, (fun j => (a.profiles.getD j []).getD i 0 == 0), (fun j => V.ref (ps.getD j 0)), rfl, p1, ?_, fun j x hx => ?_, fun j x hx _ => ?_, fun nq H2 hn e2 hl => ?_⟩
    · rw [List.length_map, p2]
      have := prof_le wf
      omega
    · obtain ⟨qt, d1, rfl⟩ := map_at' hx
      have hj : j < a.profiles.length := by
        rw [← p2]
        exact (List.getElem?_eq_some_iff.mp d1).1
      have d2 : a.profiles[j]? = some (a.profiles.getD j []) := at_getD [] hj
      have hp := prof_mem wf (List.mem_of_getElem? d2)
      have d3 := p3 j qt _ d1 d2
      refine Evl.et_is (Evl.et_test (ev_eqI (ev_ixL (Evl.ev_var rfl) (Evl.ev_var rfl) d3 (map_at (at_getD 0 (by rw [hp.1]; exact hi)))) Evl.ev_c)) ?_
      rw [Bool.eq_iff_iff, decide_eq_true_eq, beq_iff_eq]
      omega
    · obtain ⟨qt, d1, rfl⟩ := map_at' hx
      refine Evl.ev_is (Evl.ev_var rfl) ?_
      congr 1
      simp [List.getD, d1]
    · refine bx_LLN ?_
      unfold Instance.baseProfiles
      rw [filter_ix]
      rw [List.length_map, p2] at hl
      have e3 : Evl.given a.profiles.length (fun j => (a.profiles.getD j []).getD i 0 == 0) (fun j => V.ref (ps.getD j 0)) = (((List.range a.profiles.length).filter fun j => (a.profiles.getD j []).getD i 0 == 0).map fun j => ps.getD j 0).map V.ref := by
        unfold Evl.given
        rw [List.map_map]
        rfl
      rw [e3] at hl
      refine ⟨_, hl, by rw [List.length_map, List.length_map], fun j q' x b1 b2 => ?_⟩
      rw [List.getElem?_map] at b1 b2
      cases e4 : ((List.range a.profiles.length).filter fun j => (a.profiles.getD j []).getD i 0 == 0)[j]? with
      | none =>
        rw [e4] at b1
        cases b1
      | some z =>
        rw [e4] at b1 b2
        cases b1
        cases b2
        have hz : z < a.profiles.length := List.mem_range.mp (List.mem_filter.mp (List.mem_of_getElem? e4)).1
        exact (p3 z _ _ (at_getD 0 (by rw [p2]; exact hz)) (at_getD [] hz)).mono e2

abbrev s_first_violation : Stmt := topS 38
theorem sc_first_violation : FnScope ["instance", "most", "agent", "cycles", "profile", "cycle"] ["instance", "most"] (defScope s_first_violation) := ⟨rfl, rfl, rfl, by decide +kernel, rfl, by decide +kernel, by decide +kernel⟩
theorem ok_first_violation {f : Addr} {fd : FuncData} (F : Fun K "first_violation" "first_violation" s_first_violation f fd) (T : Txt K mg CW CI aS) (G_base_profiles : C8.Cal P w K mg base 2 "base_profiles" (sp_base_profiles CI) []) (G_cycles_of : C8.Cal P w K mg base 1 "cycles_of" sp_cycles_of []) (G_first_negative : C8.Cal P w K mg base 2 "first_negative" sp_first_negative []) (G_m_kind_count : C8.Met P w K mg base 1 CI "kind_count" (sp_kind_count CI) []) (G_m_losses : C8.Met P w K mg base 4 CI "losses" (sp_losses CI) []) : FnOk P w K mg base CX0 5 f fd ["instance", "most"] (sp_first_violation CI) := by
  have nd := sc_first_violation.nd
  refine F.ok sc_first_violation (fun vs H Q E h => ?_) (fun cdv A outer s H vs Q E hr h => ⟨_, (pss_cons (ps_for PassesOwn.never rfl (pi_range1 (by rfl) T.b_range (pa_cons (pe_fld (pv 0) rfl) pa_nil)) (pg_name (i := 2) nd rfl (Or.inl rfl))
   (pss_cons (ps_set (i := 3) nd rfl (Or.inl rfl) (C8.pe_c G_cycles_of hr (by decide) rfl (pa_cons (C8.pe_mt G_m_kind_count hr (by decide) (pv 0) (by exact (pa_cons (pv 2) pa_nil))) (pa_cons (pv 1) pa_nil))))
  (pss_one (ps_for PassesOwn.never rfl (pi_list (C8.pe_c G_base_profiles hr (by decide) rfl (pa_cons (pv 0) (pa_cons (pv 2) pa_nil)))) (pg_name (i := 4) nd rfl (Or.inl rfl))
   (pss_cons (ps_set (i := 5) nd rfl (Or.inl rfl) (C8.pe_c G_first_negative hr (by decide) rfl (pa_cons (C8.pe_mt G_m_losses hr (by decide) (pv 0) (by exact (pa_cons (pv 2) (pa_cons (pv 4) pa_nil)))) (pa_cons (pv 3) pa_nil))))
  (pss_one (ps_if (pt_cmpR opNotN (pv 5) pe_non (nomark _))
   (pss_one (ps_ret (pe_op op_cat (pe_op op_cat (pe_lst (pa_cons (pv 2) pa_nil)) (pv 4)) (pv 5)))) pss_nil)))))))
  (pss_one (ps_ret pe_non))), ?_⟩)
  · obtain ⟨p, m, a, rfl, hI, hm, k⟩ := h
    rfl
  · obtain ⟨p, m, a, rfl, hI, hm, k⟩ := h
    have wf := hI.wf
    have hn3 := wf.n3
    let G : Nat → List Nat → Option (Nat × List Nat × List Nat) := fun i t => ((cyc (a.typeCount i) m).find? (negB (lossM a i t))).map fun r => (i, t, r)
    let F : Nat → Option (Nat × List Nat × List Nat) := fun i => (a.baseProfiles i).findSome? (G i)
    have ev : viol a m = (List.range a.agentCount).findSome? F := rfl
    refine Evl.q_forR1 (n := (a.agentCount : Int)) (Evl.ea_cons (ev_ac T hI (Evl.ev_var rfl)) Evl.ea_nil) ⟨by omega, by omega⟩
      (fun i σ' H' => Ex H H' ∧ ((List.range a.agentCount).take i).findSome? F = none ∧ ∃ v2 v3 v4 v5, σ' = [some (.ref p), some (nV m), v2, v3, v4, v5])
      (fun H1 e1 => ⟨e1, rfl, none, none, none, none, rfl⟩) ?_ ?_
    · rintro i σ' H1 hi ⟨e1, hn, v2, v3, v4, v5, rfl⟩
      have hi' : i < a.agentCount := by omega
      have hI1 := hI.mono e1
      have hc4 := count_le wf i
      have hr : (List.range a.agentCount)[i]? = some i := List.getElem?_range hi'
      refine q_asgP (ep_call (Evl.ea_cons (ev_m hI1 (fun _ _ _ _ => fs_kind_count) (Evl.ev_var rfl) (Evl.ea_cons (Evl.ev_var rfl) Evl.ea_nil) (v_kind_count hI1 hi')) (Evl.ea_cons (Evl.ev_var rfl) Evl.ea_nil)) (v_cycles_of hc4 hm)) fun vc H2 e2 bc => ?_
      obtain ⟨qc, rfl, hqc⟩ := bc H2 (Ex.refl _)
      have hI2 := hI1.mono e2
      have hcs : ∀ cs ∈ cyc (a.typeCount i) m, 1 ≤ cs.length ∧ cs.length ≤ 100 ∧ ∀ x ∈ cs, x < a.typeCount i := fun cs hcs => by
        have := cycN_mem hc4 (cyc_mem hc4 hm hcs)
        exact ⟨by omega, by omega, this.2.2⟩
      refine s_forLnP (ep_call (Evl.ea_cons (Evl.ev_var rfl) (Evl.ea_cons (Evl.ev_var rfl) Evl.ea_nil)) (v_base_profiles hI2 hi')) fun vb H3 e3 bb => ?_
      obtain ⟨qb, rfl, hqb⟩ := bb H3 (Ex.refl _)
      obtain ⟨ps, p1, p2, p3⟩ := hqb
      refine ⟨qb, ps.map V.ref, (fun j σ' H' => Ex H3 H' ∧ ((a.baseProfiles i).take j).findSome? (G i) = none ∧ ∃ v4 v5, σ' = [some (.ref p), some (nV m), some (nV i), some (.ref qc), v4, v5]), rfl, p1, ⟨Ex.refl _, rfl, v4, v5, rfl⟩, fun j σ' H' h => h.1 _ _ p1, ?_, ?_⟩
      · rintro j x σ' H4 hx ⟨e4, hn2, v4', v5', rfl⟩
        obtain ⟨qt, d1, rfl⟩ := map_at' hx
        have hj : j < (a.baseProfiles i).length := by
          rw [← p2]
          exact (List.getElem?_eq_some_iff.mp d1).1
        have d2 : (a.baseProfiles i)[j]? = some (a.baseProfiles i)[j] := List.getElem?_eq_getElem hj
        generalize (a.baseProfiles i)[j] = t at d2
        have ht := base_mem wf (List.mem_of_getElem? d2)
        have d3 := (p3 j qt t d1 d2).mono e4
        have hI4 := (hI2.mono e3).mono e4
        refine q_asgP (P := optLN ((cyc (a.typeCount i) m).find? (negB (lossM a i t)))) (ep_callP (eap_cons (ep_m hI4 (fun _ _ _ _ => fs_losses) (Evl.ev_var rfl) (Evl.ea_cons (Evl.ev_var rfl) (Evl.ea_cons (Evl.ev_var rfl) Evl.ea_nil)) (v_losses hI4 hi' d3 ht)) (eap_of (Evl.ea_cons (Evl.ev_var rfl) Evl.ea_nil))) ?_) fun v H5 e5 b => ?_
        · rintro vs H5 e5 ⟨v, r, rfl, ⟨ql, rfl, hql⟩, rfl⟩
          exact v_first_negative hql (lossM_sq a i t) ((hqc.mono (e3.trans e4)).mono e5) hcs
        · have b5 := b H5 (Ex.refl _)
          cases hfd : (cyc (a.typeCount i) m).find? (negB (lossM a i t)) with
          | none =>
            rw [hfd] at b5
            have b6 : v = .non := b5
            subst b6
            refine Evl.s_when (Evl.et_is (Evl.et_test (ev_notN (Evl.ev_var rfl))) (b := false) rfl) (fun hb => by cases hb) (fun _ H6 e6 => ⟨(e4.trans e5).trans e6, some_on d2 hn2 ?_, _, _, rfl⟩)
            show Option.map _ _ = none
            rw [hfd]
            rfl
          | some r =>
            rw [hfd] at b5
            obtain ⟨qr, rfl, hqr⟩ := b5
            have hg : G i t = some (i, t, r) := by
              show Option.map _ _ = _
              rw [hfd]
              rfl
            have hF : F i = some (i, t, r) := some_here d2 hn2 hg
            have hv : viol a m = some (i, t, r) := by
              rw [ev]
              exact some_here hr hn hF
            have hrm := hcs r (List.mem_of_find?_eq_some hfd)
            have htl : t.length ≤ 3 := by
              rw [ht.1]
              exact hn3
            refine Evl.s_when (Evl.et_is (Evl.et_test (ev_notN (Evl.ev_var rfl))) (b := true) rfl) (fun _ H6 e6 => ?_) (fun hb => by cases hb)
            refine Evl.s_retL (el_cat (evX_L (el_cat (evX_L (Evl.el_lst (Evl.ea_cons (Evl.ev_var rfl) Evl.ea_nil) (by show 1 ≤ 100000; decide))) (evX_R (Evl.ev_var rfl) ((d3.mono e5).mono e6)) ?_)) (evX_R (Evl.ev_var rfl) (hqr.mono e6)) ?_) fun c H7 hc e7 hl => k _ H7 (e1.trans (e2.trans (e3.trans (e4.trans (e5.trans (e6.trans e7)))))) fun H8 e8 => ?_
            · rw [List.length_map]
              show 1 + _ ≤ 100000
              omega
            · rw [List.length_append, List.length_map, List.length_map]
              show 1 + _ + _ ≤ 100000
              omega
            · rw [hv]
              refine ⟨c, rfl, ?_⟩
              unfold LN
              rw [e8 _ _ hl]
              show some (HO.lst ([nV i] ++ t.map nV ++ r.map nV)) = some (.lst ((i :: (t ++ r)).map nV))
              rw [List.map_cons, List.map_append]
              rfl
      · rintro σ' H4 ⟨e4, hn2, v4', v5', rfl⟩
        rw [List.length_map, p2, List.take_of_length_le (Nat.le_refl _)] at hn2
        exact ⟨e1.trans (e2.trans (e3.trans e4)), some_on hr hn hn2, _, _, _, _, rfl⟩
    · rintro σ' H1 ⟨e1, hn, v2, v3, v4, v5, rfl⟩
      rw [Int.toNat_natCast, List.take_of_length_le (by rw [List.length_range]; exact Nat.le_refl _)] at hn
      refine Evl.s_ret Evl.ev_c fun H2 e2 => k _ H2 (e1.trans e2) fun H3 e3 => ?_
      rw [ev, hn]
      rfl

abbrev s_are_truthful : Stmt := topS 40
theorem sc_are_truthful : FnScope ["losses", "payments", "kind", "row", "reported", "loss"] ["losses", "payments"] (defScope s_are_truthful) := ⟨rfl, rfl, rfl, by decide +kernel, rfl, by decide +kernel, by decide +kernel⟩
theorem ok_are_truthful {f : Addr} {fd : FuncData} (F : Fun K "are_truthful" "are_truthful" s_are_truthful f fd) (T : Txt K mg CW CI aS) : FnOk P w K mg base CX0 1 f fd ["losses", "payments"] sp_are_truthful := by
  have nd := sc_are_truthful.nd
  refine F.ok sc_are_truthful (fun vs H Q E h => ?_) (fun cdv A outer s H vs Q E hr h => ⟨_, (pss_cons (ps_for PassesOwn.never rfl (pi_enum (by rfl) T.b_enumerate (pa_cons (pv 0) pa_nil)) (pg_pair (K := K) (i := 2) (j := 3) rfl rfl nd rfl (by first | exact Or.inl rfl | exact Or.inr rfl) (by first | exact Or.inl rfl | exact Or.inr rfl) rfl (by first | exact Or.inl rfl | exact Or.inr rfl) (by first | exact Or.inl rfl | exact Or.inr rfl))
   (pss_one (ps_for PassesOwn.never rfl (pi_enum (by rfl) T.b_enumerate (pa_cons (pv 3) pa_nil)) (pg_pair (K := K) (i := 4) (j := 5) rfl rfl nd rfl (by first | exact Or.inl rfl | exact Or.inr rfl) (by first | exact Or.inl rfl | exact Or.inr rfl) rfl (by first | exact Or.inl rfl | exact Or.inr rfl) (by first | exact Or.inl rfl | exact Or.inr rfl))
   (pss_one (ps_if (pt_cmpR opGt (pe_op opSub (pe_ix (ixL (K := K) rfl) (pv 1) (pv 2) (fun _ _ => rfl)) (pe_ix (ixL (K := K) rfl) (pv 1) (pv 4) (fun _ _ => rfl))) (pv 5) (nomark _))
   (pss_one (ps_ret pe_bl)) pss_nil)))))
  (pss_one (ps_ret pe_bl))), ?_⟩)
  · obtain ⟨l, q, M, n, ps, rfl, hM, sq, hn, hq, hl, k⟩ := h
    rfl
  · obtain ⟨l, q, M, n, ps, rfl, hM, sq, hn, hq, hl, k⟩ := h
    obtain ⟨rs, r1, r2, r3⟩ := LR.at hM
    have hno : ∀ kk ll, kk < n → ll < n → lossAt M kk ll < ps.getD kk 0 - ps.getD ll 0 → trB M ps = false := fun kk ll h1 h2 h3 => by
      cases hb : trB M ps with
      | false => rfl
      | true =>
        unfold trB at hb
        rw [sq.len] at hb
        have := of_decide_eq_true (List.all_eq_true.mp (List.all_eq_true.mp hb kk (List.mem_range.mpr h1)) ll (List.mem_range.mpr h2))
        omega
    have hyes : (∀ kk, kk < n → ∀ ll, ll < n → ps.getD kk 0 - ps.getD ll 0 ≤ lossAt M kk ll) → trB M ps = true := fun h => by
      unfold trB
      rw [sq.len, List.all_eq_true]
      intro kk hk
      rw [List.all_eq_true]
      intro ll hll
      exact decide_eq_true (h kk (List.mem_range.mp hk) ll (List.mem_range.mp hll))
    refine q_forEnum (xs := rs.map V.ref) (Evl.ea_cons (Evl.ev_var rfl) Evl.ea_nil) r1
      (fun i σ' H' => Ex H H' ∧ (∀ kk, kk < i → ∀ ll, ll < n → ps.getD kk 0 - ps.getD ll 0 ≤ lossAt M kk ll) ∧ ∃ v2 v3 v4 v5, σ' = [some (.ref l), some (.ref q), v2, v3, v4, v5])
      (fun H1 e1 => ⟨e1, fun kk h => absurd h (Nat.not_lt_zero _), none, none, none, none, rfl⟩) (fun i σ' H' h => h.1 _ _ r1) ?_ ?_
    · rintro i x σ' H1 H2 hx ⟨e1, hin, v2, v3, v4, v5, rfl⟩ e2
      obtain ⟨qr, d1, rfl⟩ := map_at' hx
      have hi : i < n := by
        rw [← sq.len, ← r2]
        exact (List.getElem?_eq_some_iff.mp d1).1
      obtain ⟨qr', d2, d3⟩ := r3 i _ (sq.at hi)
      cases d1.symm.trans d2
      have e12 := e1.trans e2
      refine s_forEnum (xs := (M.getD i []).map V.int) (Evl.ea_cons (Evl.ev_var rfl) Evl.ea_nil) (d3.mono e12)
        (fun j σ' H' => Ex H2 H' ∧ (∀ ll, ll < j → ps.getD i 0 - ps.getD ll 0 ≤ lossAt M i ll) ∧ ∃ v4 v5, σ' = [some (.ref l), some (.ref q), some (nV i), some (.ref qr), v4, v5])
        (fun H3 e3 => ⟨e3, fun ll h => absurd h (Nat.not_lt_zero _), v4, v5, rfl⟩) (fun j σ' H' h => h.1 _ _ (d3.mono e12)) ?_ ?_
      · rintro j y σ' H3 H4 hy ⟨e3, hjn, v4', v5', rfl⟩ e4
        obtain ⟨z, g1, rfl⟩ := map_at' hy
        have hj : j < n := by
          rw [← sq.rowlen hi]
          exact (List.getElem?_eq_some_iff.mp g1).1
        have ez : lossAt M i j = z := by
          have := sq.at2 hi hj
          rw [g1] at this
          exact (Option.some.inj this).symm
        have hq4 := hq.mono (e12.trans (e3.trans e4))
        refine Evl.s_when (Evl.et_test (ev_gt (ev_sub (ev_ixL (Evl.ev_var rfl) (Evl.ev_var rfl) hq4 (map_at (at_getD 0 (by rw [hl]; exact hi)))) (ev_ixL (Evl.ev_var rfl) (Evl.ev_var rfl) hq4 (map_at (at_getD 0 (by rw [hl]; exact hj))))) (Evl.ev_var rfl))) (fun hb H5 e5 => ?_) (fun hb H5 e5 => ⟨e3.trans (e4.trans e5), fun ll h => ?_, _, _, rfl⟩)
        · have := of_decide_eq_true hb
          rw [hno i j hi hj (by rw [ez]; exact this)] at k
          exact Evl.s_ret Evl.ev_c fun H6 e6 => k H6 (e12.trans (e3.trans (e4.trans (e5.trans e6))))
        · have := of_decide_eq_false hb
          by_cases c : ll = j
          · subst c
            rw [ez]
            omega
          · exact hjn ll (by omega)
      · rintro σ' H3 ⟨e3, hjn, v4', v5', rfl⟩
        refine ⟨e12.trans e3, fun kk h => ?_, _, _, _, _, rfl⟩
        by_cases c : kk = i
        · subst c
          intro ll hll
          exact hjn ll (by rw [List.length_map, sq.rowlen hi]; exact hll)
        · exact hin kk (by omega)
    · rintro σ' H1 ⟨e1, hin, v2, v3, v4, v5, rfl⟩
      rw [List.length_map, r2, sq.len] at hin
      rw [hyes hin] at k
      exact Evl.s_ret Evl.ev_c fun H2 e2 => k H2 (e1.trans e2)

abbrev s_shortened : Stmt := topS 42
theorem sc_shortened : FnScope ["lengths", "half", "rest", "length", "further"] ["lengths", "half", "rest"] (defScope s_shortened) := ⟨rfl, rfl, rfl, by decide +kernel, rfl, by decide +kernel, by decide +kernel⟩
theorem ok_shortened {f : Addr} {fd : FuncData} (F : Fun K "shortened" "shortened" s_shortened f fd) (T : Txt K mg CW CI aS) : FnOk P w K mg base CX0 1 f fd ["lengths", "half", "rest"] sp_shortened := by
  have nd := sc_shortened.nd
  refine F.ok sc_shortened (fun vs H Q E h => ?_) (fun cdv A outer s H vs Q E hr h => ⟨_, (pss_one (ps_ret (pe_lc (own := [("length", 3), ("further", 4)]) rfl nd (pi_zip (by rfl) T.b_zip (pa_cons (pv 0) (pa_cons (pv 2) pa_nil))) (blkOk_by (N := ["lengths", "half", "rest", "length", "further"]) (sc := defScope s_shortened) (by decide +kernel)) (fun _ _ _ _ _ => (pg_pair (K := K) (i := 3) (j := 4) rfl rfl nd rfl (by first | exact Or.inl rfl | exact Or.inr rfl) (by first | exact Or.inl rfl | exact Or.inr rfl) rfl (by first | exact Or.inl rfl | exact Or.inr rfl) (by first | exact Or.inl rfl | exact Or.inr rfl))) (fun _ _ _ _ _ => pts_nil) (fun _ _ _ _ _ => (pe_callB (call_min1 rfl) (by rfl) T.b_min (by decide +kernel) (pa_cons (pv 3) (pa_cons (pe_op opAdd (pv 1) (pv 4)) pa_nil))))))), ?_⟩)
  · obtain ⟨l, h, r, xs, ys, rfl, h1, h2, h3, h4, k⟩ := h
    rfl
  · obtain ⟨l, h, r, xs, ys, rfl, h1, h2, h3, h4, k⟩ := h
    refine Evl.s_retL (el_is (el_lcZip (fun _ => true) (fun j => V.int (minI (xs.getD j 0) (h + ys.getD j 0))) (Evl.ea_cons (Evl.ev_var rfl) (Evl.ea_cons (Evl.ev_var rfl) Evl.ea_nil)) h1 h2 ?_ (fun _ _ => rfl) (fun j x y H1 e1 hx hy => et_yes) (fun j x y H1 e1 hx hy _ => ?_)) ?_) k
    · rw [List.length_map, List.length_map]
      omega
    · obtain ⟨u, g1, rfl⟩ := map_at' hx
      obtain ⟨w, g2, rfl⟩ := map_at' hy
      have e2 : xs.getD j 0 = u := by simp [List.getD, g1]
      have e3 : ys.getD j 0 = w := by simp [List.getD, g2]
      rw [e2, e3]
      exact ev_min (Evl.ev_var rfl) (ev_add (Evl.ev_var rfl) (Evl.ev_var rfl))
    · rw [given_all, List.length_map, List.length_map, h3, Nat.min_self]
      unfold shortL
      rw [List.map_map, h3]
      rfl

abbrev s_distances : Stmt := topS 41
theorem sc_distances : FnScope ["losses", "found", "start", "middle", "rest", "row", "lengths"] ["losses"] (defScope s_distances) := ⟨rfl, rfl, rfl, by decide +kernel, rfl, by decide +kernel, by decide +kernel⟩
theorem ok_distances {f : Addr} {fd : FuncData} (F : Fun K "distances" "distances" s_distances f fd) (T : Txt K mg CW CI aS) (G_shortened : C8.Cal P w K mg base 1 "shortened" sp_shortened []) : FnOk P w K mg base CX0 2 f fd ["losses"] sp_distances := by
  have nd := sc_distances.nd
  refine F.ok sc_distances (fun vs H Q E h => ?_) (fun cdv A outer s H vs Q E hr h => ⟨_, (pss_cons (ps_set (i := 1) nd rfl (Or.inl rfl) (pe_lst pa_nil))
  (pss_cons (ps_for PassesOwn.never rfl (pi_range1 (by rfl) T.b_range (pa_cons (pe_callB (call_len1 (K := K) rfl) (by rfl) T.b_len PySem.boot_len (pa_cons (pv 0) pa_nil)) pa_nil)) (pg_name (i := 2) nd rfl (Or.inr rfl))
   (pss_one (ps_expr (pe_bm PySem.F.plainAttrs_list PySem.F.slot_list_append PySem.F.type_list_append mt_append (pv 1) (pa_cons (pe_lc (own := [("row", 5)]) rfl nd (pi_list (pv 0)) (blkOk_by (N := ["losses", "found", "start", "middle", "rest", "row", "lengths"]) (sc := defScope s_distances) (by decide +kernel)) (fun _ _ _ _ _ => (pg_name (i := 5) nd rfl (Or.inl rfl))) (fun _ _ _ _ _ => pts_nil) (fun _ _ _ _ _ => (pe_ix (ixL (K := K) rfl) (pv 5) (pv 2) (fun _ _ => rfl)))) pa_nil)))))
  (pss_cons (ps_for PassesOwn.never rfl (pi_range1 (by rfl) T.b_range (pa_cons (pe_callB (call_len1 (K := K) rfl) (by rfl) T.b_len PySem.boot_len (pa_cons (pv 0) pa_nil)) pa_nil)) (pg_name (i := 3) nd rfl (Or.inr rfl))
   (pss_cons (ps_set (i := 4) nd rfl (Or.inr rfl) (pe_ix (ixL (K := K) rfl) (pv 1) (pv 3) (fun _ _ => rfl)))
  (pss_one (ps_setLc (i := 1) (own := [("lengths", 6)]) rfl nd rfl rfl (sw_true rfl rfl rfl (by decide +kernel)) (pi_list (pv 1)) (blkOk_by (N := ["losses", "found", "start", "middle", "rest", "row", "lengths"]) (sc := defScope s_distances) (by decide +kernel)) (fun _ _ _ _ _ => (pg_name (i := 6) nd rfl (Or.inl rfl))) (fun _ _ _ _ _ => pts_nil) (fun _ _ _ _ _ => (C8.pe_c G_shortened hr (by decide) rfl (pa_cons (pv 6) (pa_cons (pe_ix (ixL (K := K) rfl) (pv 6) (pv 3) (fun _ _ => rfl)) (pa_cons (pv 4) pa_nil)))))))))
  (pss_one (ps_ret (pv 1)))))), ?_⟩)
  · obtain ⟨l, M, n, rfl, hM, sq, hn, k⟩ := h
    rfl
  · obtain ⟨l, M, n, rfl, hM, sq, hn, k⟩ := h
    obtain ⟨rs, r1, r2, r3⟩ := LR.at hM
    have hlen : ((rs.map V.ref).length : Int) = (n : Int) := by rw [List.length_map, r2, sq.len]
    refine Evl.q_asgL (Evl.el_lst Evl.ea_nil (by show 0 ≤ 100000; decide)) fun fd' H1 hfn e1 hf => ?_
    refine Evl.q_forR1 (n := (n : Int)) (Evl.ea_cons (Evl.ev_is (Evl.ev_len (Evl.ev_var rfl) (Evl.sq_of (e1 _ _ r1))) (congrArg V.int hlen)) Evl.ea_nil) ⟨by omega, by omega⟩
      (fun i σ' H' => Ex H H' ∧ Acc LI fd' ((fw0 M).take i) H' ∧ ∃ v2, σ' = [some (.ref l), some (.ref fd'), v2, none, none, none, none])
      (fun H2 e2 => ⟨e1.trans e2, acc_nil (e2 _ _ hf), none, rfl⟩) ?_ ?_
    · rintro i σ' H2 hi ⟨e2, ac, v2, rfl⟩
      have hi' : i < n := by omega
      obtain ⟨ps, a1, a2, a3⟩ := ac
      have hrow : (fw0 M)[i]? = some ((List.range M.length).map fun y => lossAt M y i) := by
        unfold fw0
        rw [List.getElem?_map, List.getElem?_range (by rw [sq.len]; exact hi')]
        rfl
      refine Evl.s_appL (ys := ((List.range M.length).map fun y => lossAt M y i).map V.int) a1 (Evl.ev_var rfl) (el_is (Evl.el_lcL (xs := rs.map V.ref) (fun _ => true) (fun y => V.int (lossAt M y i)) (Evl.ev_var rfl) (Evl.sq_of (e2 _ _ r1)) ?_ (fun _ => rfl) (fun y x H4 e5 hx => et_yes) (fun y x H4 e5 hx _ => ?_)) ?_) ?_ (fun nq H4 hq4 e5 hn4 => ⟨?_, ?_, _, rfl⟩)
      · rw [List.length_map, r2, sq.len]
        omega
      · obtain ⟨qr, d1, rfl⟩ := map_at' hx
        have hy : y < n := by
          rw [← sq.len, ← r2]
          exact (List.getElem?_eq_some_iff.mp d1).1
        obtain ⟨qr', d2, d3⟩ := r3 y _ (sq.at hy)
        cases d1.symm.trans d2
        exact ev_ixL (Evl.ev_var rfl) (Evl.ev_var rfl) (d3.mono (e2.trans e5)) (map_at (sq.at2 hy hi'))
      · rw [given_all, List.length_map, r2, List.map_map]
        rfl
      · rw [List.length_map, a2, List.length_take]
        omega
      · exact Evl.Ex.mut (e2.trans e5) hfn
      · have qf : nq ≠ fd' := fun z => by
          rw [z, a1] at hq4
          cases hq4
        have e6 : (fw0 M).take (i + 1) = (fw0 M).take i ++ [(List.range M.length).map fun y => lossAt M y i] := by
          rw [List.take_add_one, hrow]
          rfl
        rw [e6]
        refine acc_more (qs := [nq]) (fun _ _ _ _ _ => LI.upd) a2 (fun j q' x b1 b2 => ⟨(a3 j q' x b1 b2).1, (a3 j q' x b1 b2).2.mono e5⟩) rfl (fun j q' x b1 b2 => ?_)
        cases j with
        | zero =>
          cases b1
          cases b2
          exact ⟨qf, hn4⟩
        | succ j => simp at b1
    · rintro σ' H2 ⟨e2, ac, v2, rfl⟩
      rw [Int.toNat_natCast, List.take_of_length_le (by rw [(fw0_sq sq).len]; exact Nat.le_refl _)] at ac
      refine Evl.q_forR1 (n := (n : Int)) (Evl.ea_cons (Evl.ev_is (Evl.ev_len (Evl.ev_var rfl) (Evl.sq_of (e2 _ _ r1))) (congrArg V.int hlen)) Evl.ea_nil) ⟨by omega, by omega⟩
        (fun i σ' H' => Ex H H' ∧ ∃ fa v2 v3 v4, σ' = [some (.ref l), some (.ref fa), v2, v3, v4, none, none] ∧ LLI H' fa (fwU M i))
        (fun H3 e3 => ⟨e2.trans e3, fd', v2, none, none, rfl, LLI.mono ac.lr e3⟩) ?_ ?_
      · rintro i σ' H3 hi ⟨e3, fa, v2', v3, v4, rfl, hfa⟩
        have hi' : i < n := by omega
        have sqd := fwU_sq sq i
        generalize hd : fwU M i = d at hfa sqd
        obtain ⟨ps, p1, p2, p3⟩ := LR.at hfa
        obtain ⟨qm, m1, m2⟩ := p3 i _ (sqd.at hi')
        refine Evl.q_asg (ev_ixL (Evl.ev_var rfl) (Evl.ev_var rfl) p1 (map_at (f := V.ref) m1)) fun H4 e4 => ?_
        refine s_asgLL (EvLL.is (yss := picked (ps.map V.ref).length (fun _ => true) fun k => (shortL (lossAt d k i) (d.getD k []) (d.getD i [])).map V.int) (zss := (fwStep d i).map fun xs => xs.map V.int) (ell_lcL (xs := ps.map V.ref) (fun _ => true) (fun k => (shortL (lossAt d k i) (d.getD k []) (d.getD i [])).map V.int) (Evl.ev_var rfl) (e4 _ _ p1) ?_ (fun _ => rfl) (fun k x H5 e5 hx => et_yes) (fun k x H5 e5 hx _ => ?_)) ?_) fun np nps H5 nw => ⟨e3.trans (e4.trans nw.2.1), np, _, _, _, rfl, ?_⟩
        · rw [List.length_map, p2, sqd.len]
          omega
        · obtain ⟨qk, d1, rfl⟩ := map_at' hx
          have hk : k < n := by
            rw [← sqd.len, ← p2]
            exact (List.getElem?_eq_some_iff.mp d1).1
          obtain ⟨qk', d2, d3⟩ := p3 k _ (sqd.at hk)
          cases d1.symm.trans d2
          have d5 := (d3.mono e4).mono e5
          exact el_call (Evl.ea_cons (Evl.ev_var rfl) (Evl.ea_cons (ev_ixL (Evl.ev_var rfl) (Evl.ev_var rfl) d5 (map_at (sqd.at2 hk hi'))) (Evl.ea_cons (Evl.ev_var rfl) Evl.ea_nil))) (v_shortened d5 ((m2.mono e4).mono e5) (by rw [sqd.rowlen hk, sqd.rowlen hi']) (by rw [sqd.rowlen hk]; exact hn))
        · rw [picked_all, List.length_map, p2]
          unfold fwStep
          rw [List.map_map]
          rfl
        · show LLI H5 np (fwU M (i + 1))
          have e6 : fwU M (i + 1) = fwStep d i := by
            rw [← hd]
            rfl
          rw [e6]
          exact nw.lli
      · rintro σ' H3 ⟨e3, fa, v2', v3, v4, rfl, hfa⟩
        rw [Int.toNat_natCast, ← sq.len] at hfa
        exact Evl.s_ret (Evl.ev_var rfl) fun H4 e4 => k _ H4 (e3.trans e4) (bx_LLI (hfa.mono e4))

end
end Tp

namespace Tp
open PySem PySem.Spec PyProof.Rows L2
open Su196 (Instance)
open Evl (Ex Ev EvL EvT EvA EvO RetL RetV SpV SpL)
section
variable {P : Program} {w : World} {K : PySem.W.Frag} {mg : Str → Option Value} {base : Heap} {CW CI aS : Addr}

open Su196 (execute)
def RetI (xs : List Int) (H : Hp) (Q : VK) : Prop := RetL (xs.map V.int) H Q
def sp_allocation (CI : Addr) : Sp := fun vs H Q _ => ∃ p q a t, vs = [.ref p, .ref q] ∧ Inst CI H p a ∧ a.isReady = true ∧ LN H q t ∧ t.length ≤ 100 ∧ RetI (res (execute a (.allocation t)).2) H Q
def sp_misreport_loss (CI : Addr) : Sp := fun vs H Q _ => ∃ p i l q a t, vs = [.ref p, nV i, nV l, .ref q] ∧ Inst CI H p a ∧ a.isReady = true ∧ LN H q t ∧ t.length ≤ 100 ∧ RetI (res (execute a (.misreportLoss i l t)).2) H Q
def sp_is_monotonic (CI : Addr) : Sp := fun vs H Q _ => ∃ p m a, vs = [.ref p, nV m] ∧ Inst CI H p a ∧ (m = 4 ∨ m = 2) ∧ RetI (ansMono (viol a m)) H Q
def sp_is_cyclically_monotonic (CI : Addr) : Sp := fun vs H Q _ => ∃ p a, vs = [.ref p] ∧ Inst CI H p a ∧ a.isReady = true ∧ RetI (res (execute a .isCyclicallyMonotonic).2) H Q
def sp_is_weakly_monotonic (CI : Addr) : Sp := fun vs H Q _ => ∃ p a, vs = [.ref p] ∧ Inst CI H p a ∧ a.isReady = true ∧ RetI (res (execute a .isWeaklyMonotonic).2) H Q
def sp_payment_bounds (CI : Addr) : Sp := fun vs H Q _ => ∃ p i q a t, vs = [.ref p, nV i, .ref q] ∧ Inst CI H p a ∧ a.isReady = true ∧ LN H q t ∧ t.length ≤ 100 ∧ RetI (res (execute a (.paymentBounds i t)).2) H Q
def sp_are_truthful_payments (CI : Addr) : Sp := fun vs H Q _ => ∃ p i q r a t ps, vs = [.ref p, nV i, .ref q, .ref r] ∧ Inst CI H p a ∧ a.isReady = true ∧ LN H q t ∧ t.length ≤ 100 ∧ LI H r ps ∧ ps.length ≤ 100 ∧ RetI (res (execute a (.areTruthfulPayments i t ps)).2) H Q
def sp_pivot_payments (CI : Addr) : Sp := fun vs H Q _ => ∃ p q a t, vs = [.ref p, .ref q] ∧ Inst CI H p a ∧ a.isReady = true ∧ LN H q t ∧ t.length ≤ 100 ∧ RetI (res (execute a (.pivotPayments t)).2) H Q
def sp_welfare (CI : Addr) : Sp := fun vs H Q _ => ∃ p q a t, vs = [.ref p, .ref q] ∧ Inst CI H p a ∧ a.isReady = true ∧ LN H q t ∧ t.length ≤ 100 ∧ RetI (res (execute a (.welfare t)).2) H Q
def sp_describe (CI : Addr) : Sp := fun vs H Q _ => ∃ p a, vs = [.ref p] ∧ Inst CI H p a ∧ RetI (res (execute a .describe).2) H Q
theorem v_is_monotonic {CI : Addr} {H : Hp} {p : Addr} {a : Instance} {m : Nat} (h : Inst CI H p a) (hm : m = 4 ∨ m = 2) : SpL (sp_is_monotonic CI) [.ref p, nV m] H ((ansMono (viol a m)).map V.int) := fun _ e _ z _ => ⟨p, m, a, rfl, h.mono e, hm, z⟩
section
variable {H H' : Hp} {D : Ends} {σ : L2.St}
/-- return [c] -/
theorem ret_one {c : Int} {Q : VK} {xs : List Int} {te : TE} (k : RetI xs H Q) (e : Ex H H') (hx : xs = [c]) (h : Ev te σ H' (.int c)) (hD : D.rt = Q) : tRet (tLst (tCons te tNil)) D σ H' := by
  subst hx
  subst hD
  exact Evl.s_retL (Evl.el_lst (Evl.ea_cons h Evl.ea_nil) (by show 1 ≤ 100000; decide)) fun p H2 hp e2 h2 => Evl.RetL.go k e hp e2 h2
theorem RetI.fin {xs : List Int} {ys : List V} {Q : VK} (k : RetI xs H Q) (e : Ex H H') (hx : xs.map V.int = ys) : ∀ p H2, H' p = none → Ex H' H2 → H2 p = some (.lst ys) → Q (.ref p) H2 := by
  subst hx
  exact fun p H2 hp e2 h2 => Evl.RetL.go k e hp e2 h2
/-- a profile, by the promise of is_profile -/
theorem isP_of {a : Instance} {t : List Nat} (h : a.isProfile t = true) : IsP a t := isP_iff.mp h
theorem not_t {b : Bool} (h : (!b) = true) : b = false := by simpa using h
theorem not_f {b : Bool} (h : (!b) = false) : b = true := by simpa using h
theorem et_notN {te : TE} {o : Option (List Nat)} (h : EvP te σ H (optLN o)) : EvT (tTest (tOp rNotN te (tC .non))) σ H o.isSome := fun H1 e Q q => h H1 e _ fun v H2 e2 b => by
  have b2 := b H2 (Ex.refl _)
  cases o with
  | none =>
    have b3 : v = .non := b2
    subst b3
    exact ⟨rfl, false, rfl, q H2 e2⟩
  | some c =>
    obtain ⟨r, rfl, _⟩ := b2
    exact ⟨rfl, true, rfl, q H2 e2⟩
end

section
variable {K : PySem.W.Frag} {H : Hp} {σ : L2.St} {ta tb : TE}
/-- M[i], M a list of lists told by a promise -/
theorem ev_ixLLI {M : List (List Int)} {i : Nat} {r : List Int} (ha : EvP ta σ H (pLLI M)) (hb : Ev tb σ H (nV i)) (hr : M[i]? = some r) : EvP (tOp (rIxL K) ta tb) σ H (fun v H' => ∃ q, v = .ref q ∧ LI H' q r) := fun H1 e Q q =>
  ha H1 e _ fun v H2 e2 b => hb H2 (e.trans e2) _ fun H3 e3 => by
    obtain ⟨c, rfl, hc⟩ := b H3 e3
    obtain ⟨ps, p1, p2, p3⟩ := LR.at hc
    obtain ⟨z, z1, z2⟩ := p3 i r hr
    exact ⟨c, ps.map V.ref, i, .ref z, rfl, rfl, Evl.sq_of p1, atI_nat (map_at (f := V.ref) z1), q _ H3 (e2.trans e3) fun H4 e4 => ⟨z, rfl, z2.mono e4⟩⟩
theorem ev_ixP {r : List Int} {j : Nat} {x : Int} (ha : EvP ta σ H (fun v H' => ∃ q, v = .ref q ∧ LI H' q r)) (hb : Ev tb σ H (nV j)) (hr : r[j]? = some x) : Ev (tOp (rIxL K) ta tb) σ H (.int x) := fun H1 e Q q =>
  ha H1 e _ fun v H2 e2 b => hb H2 (e.trans e2) _ fun H3 e3 => by
    obtain ⟨c, rfl, hc⟩ := b H3 e3
    exact ⟨c, r.map V.int, j, .int x, rfl, rfl, Evl.sq_of hc, atI_nat (map_at hr), q H3 (e2.trans e3)⟩
end
theorem viol_cyc {a : Instance} {m i : Nat} {t c : List Nat} (hm : m = 4 ∨ m = 2) (wf : WF a) (h : viol a m = some (i, t, c)) : c.length ≤ 4 := by
  unfold viol at h
  obtain ⟨j, hj, h1⟩ := List.exists_of_findSome?_eq_some h
  obtain ⟨s, hs, h2⟩ := List.exists_of_findSome?_eq_some h1
  cases e : (cyc (a.typeCount j) m).find? (negB (lossM a j s)) with
  | none =>
    rw [e] at h2
    cases h2
  | some r =>
    rw [e] at h2
    have h3 : (j, s, r) = (i, t, c) := Option.some.inj h2
    cases h3
    have hc := count_le wf i
    exact (cycN_mem hc (cyc_mem hc hm (List.mem_of_find?_eq_some e))).2.1

abbrev s_allocation : Stmt := topS 45
theorem sc_allocation : FnScope ["instance", "profile"] ["instance", "profile"] (defScope s_allocation) := ⟨rfl, rfl, rfl, by decide +kernel, rfl, by decide +kernel, by decide +kernel⟩
theorem ok_allocation {f : Addr} {fd : FuncData} (F : Fun K "allocation" "allocation" s_allocation f fd) (T : Txt K mg CW CI aS) (G_m_allocated : C8.Met P w K mg base 2 CI "allocated" (sp_allocated CI) []) (G_m_is_profile : C8.Met P w K mg base 3 CI "is_profile" (sp_is_profile CI) []) : FnOk P w K mg base CX0 4 f fd ["instance", "profile"] (sp_allocation CI) := by
  have nd := sc_allocation.nd
  refine F.ok sc_allocation (fun vs H Q E h => ?_) (fun cdv A outer s H vs Q E hr h => ⟨_, (pss_cons (ps_if (pt_not (pt_val (C8.pe_mt G_m_is_profile hr (by decide) (pv 0) (by exact (pa_cons (pv 1) pa_nil)))))
   (pss_one (ps_ret (pe_lst (pa_cons (C8.pe_gc rfl T.g_INVALID) pa_nil)))) pss_nil)
  (pss_one (ps_ret (pe_lst (pa_cons (C8.pe_mt G_m_allocated hr (by decide) (pv 0) (by exact (pa_cons (pv 1) pa_nil))) pa_nil))))), ?_⟩)
  · obtain ⟨p, q, a, t, rfl, hI, hr, hq, hl, k⟩ := h
    rfl
  · obtain ⟨p, q, a, t, rfl, hI, hr, hq, hl, k⟩ := h
    rw [a_allocation hr] at k
    refine Evl.q_when (Evl.et_not (Evl.et_B (ev_m hI (fun _ _ _ _ => fs_is_profile) (Evl.ev_var rfl) (Evl.ea_cons (Evl.ev_var rfl) Evl.ea_nil) (v_is_profile hI hq hl)))) (fun hb H1 e1 => ?_) (fun hb H1 e1 => ?_)
    · exact ret_one k e1 (if_neg (by rw [not_t hb]; decide)) Evl.ev_c rfl
    · have hp := isP_of (not_f hb)
      exact ret_one k e1 (if_pos (not_f hb)) (ev_m (hI.mono e1) (fun _ _ _ _ => fs_allocated) (Evl.ev_var rfl) (Evl.ea_cons (Evl.ev_var rfl) Evl.ea_nil) (v_allocated (hI.mono e1) (hq.mono e1) hp)) rfl

abbrev s_misreport_loss : Stmt := topS 46
theorem sc_misreport_loss : FnScope ["instance", "agent", "reported", "profile"] ["instance", "agent", "reported", "profile"] (defScope s_misreport_loss) := ⟨rfl, rfl, rfl, by decide +kernel, rfl, by decide +kernel, by decide +kernel⟩
theorem ok_misreport_loss {f : Addr} {fd : FuncData} (F : Fun K "misreport_loss" "misreport_loss" s_misreport_loss f fd) (T : Txt K mg CW CI aS) (G_m_has_agent : C8.Met P w K mg base 1 CI "has_agent" (sp_has_agent CI) []) (G_m_has_kind : C8.Met P w K mg base 2 CI "has_kind" (sp_has_kind CI) []) (G_m_is_profile : C8.Met P w K mg base 3 CI "is_profile" (sp_is_profile CI) []) (G_m_losses : C8.Met P w K mg base 4 CI "losses" (sp_losses CI) []) : FnOk P w K mg base CX0 5 f fd ["instance", "agent", "reported", "profile"] (sp_misreport_loss CI) := by
  have nd := sc_misreport_loss.nd
  refine F.ok sc_misreport_loss (fun vs H Q E h => ?_) (fun cdv A outer s H vs Q E hr h => ⟨_, (pss_cons (ps_if (PW.pt (pw_or (pt_not (pt_val (C8.pe_mt G_m_has_agent hr (by decide) (pv 0) (by exact (pa_cons (pv 1) pa_nil))))) (pw_or1 (pt_not (pt_val (C8.pe_mt G_m_has_kind hr (by decide) (pv 0) (by exact (pa_cons (pv 1) (pa_cons (pv 2) pa_nil)))))))))
   (pss_one (ps_ret (pe_lst (pa_cons (C8.pe_gc rfl T.g_NO_SUCH_MEMBER) pa_nil)))) pss_nil)
  (pss_cons (ps_if (pt_not (pt_val (C8.pe_mt G_m_is_profile hr (by decide) (pv 0) (by exact (pa_cons (pv 3) pa_nil)))))
   (pss_one (ps_ret (pe_lst (pa_cons (C8.pe_gc rfl T.g_INVALID) pa_nil)))) pss_nil)
  (pss_one (ps_ret (pe_lst (pa_cons pe_int (pa_cons (pe_ix (ixL (K := K) rfl) (pe_ix (ixL (K := K) rfl) (C8.pe_mt G_m_losses hr (by decide) (pv 0) (by exact (pa_cons (pv 1) (pa_cons (pv 3) pa_nil)))) (pe_ix (ixL (K := K) rfl) (pv 3) (pv 1) (fun _ _ => rfl)) (fun _ _ => rfl)) (pv 2) (fun _ _ => rfl)) pa_nil))))))), ?_⟩)
  · obtain ⟨p, i, l, q, a, t, rfl, hI, hr, hq, hl, k⟩ := h
    rfl
  · obtain ⟨p, i, l, q, a, t, rfl, hI, hr, hq, hl, k⟩ := h
    rw [a_misreport hr] at k
    have wf := hI.wf
    refine Evl.q_when (Evl.et_or (Evl.et_not (Evl.et_B (ev_m hI (fun _ _ _ _ => fs_has_agent) (Evl.ev_var rfl) (Evl.ea_cons (Evl.ev_var rfl) Evl.ea_nil) (v_has_agent hI)))) fun hb => Evl.et_not (Evl.et_B (ev_m hI (fun _ _ _ _ => fs_has_kind) (Evl.ev_var rfl) (Evl.ea_cons (Evl.ev_var rfl) (Evl.ea_cons (Evl.ev_var rfl) Evl.ea_nil)) (v_has_kind hI (of_decide_eq_true (not_f hb)))))) (fun hb H1 e1 => ?_) (fun hb H1 e1 => ?_)
    · refine ret_one k e1 (if_neg fun z => ?_) Evl.ev_c rfl
      rw [decide_eq_true z.1, decide_eq_true z.2] at hb
      cases hb
    · have hb2 : i < a.agentCount ∧ l < a.typeCount i := by
        rw [Bool.or_eq_false_iff] at hb
        exact ⟨of_decide_eq_true (not_f hb.1), of_decide_eq_true (not_f hb.2)⟩
      rw [if_pos hb2] at k
      have hI1 := hI.mono e1
      have hq1 := hq.mono e1
      refine Evl.q_when (Evl.et_not (Evl.et_B (ev_m hI1 (fun _ _ _ _ => fs_is_profile) (Evl.ev_var rfl) (Evl.ea_cons (Evl.ev_var rfl) Evl.ea_nil) (v_is_profile hI1 hq1 hl)))) (fun hb H2 e2 => ?_) (fun hb H2 e2 => ?_)
      · exact ret_one k (e1.trans e2) (if_neg (by rw [not_t hb]; decide)) Evl.ev_c rfl
      · have hp := isP_of (not_f hb)
        have hI2 := hI1.mono e2
        have hq2 := hq1.mono e2
        rw [if_pos (not_f hb)] at k
        have hk : t.getD i 0 < a.typeCount i := hp.2 i hb2.1
        refine Evl.s_retL (Evl.el_lst (Evl.ea_cons Evl.ev_c (Evl.ea_cons (ev_ixP (ev_ixLLI (ep_m hI2 (fun _ _ _ _ => fs_losses) (Evl.ev_var rfl) (Evl.ea_cons (Evl.ev_var rfl) (Evl.ea_cons (Evl.ev_var rfl) Evl.ea_nil)) (v_losses hI2 hb2.1 hq2 hp)) (ev_ixL (Evl.ev_var rfl) (Evl.ev_var rfl) hq2 (map_at (at_getD 0 (by rw [hp.1]; exact hb2.1)))) ((lossM_sq a i t).at hk)) (Evl.ev_var rfl) ((lossM_sq a i t).at2 hk hb2.2)) Evl.ea_nil)) (by show 2 ≤ 100000; decide)) (RetI.fin k (e1.trans e2) ?_)
        rw [lossM_at a i t hk hb2.2]
        rfl

abbrev s_is_monotonic : Stmt := topS 49
theorem sc_is_monotonic : FnScope ["instance", "most", "violation"] ["instance", "most"] (defScope s_is_monotonic) := ⟨rfl, rfl, rfl, by decide +kernel, rfl, by decide +kernel, by decide +kernel⟩
theorem ok_is_monotonic {f : Addr} {fd : FuncData} (F : Fun K "is_monotonic" "is_monotonic" s_is_monotonic f fd) (T : Txt K mg CW CI aS) (G_first_violation : C8.Cal P w K mg base 5 "first_violation" (sp_first_violation CI) []) : FnOk P w K mg base CX0 6 f fd ["instance", "most"] (sp_is_monotonic CI) := by
  have nd := sc_is_monotonic.nd
  refine F.ok sc_is_monotonic (fun vs H Q E h => ?_) (fun cdv A outer s H vs Q E hr h => ⟨_, (pss_cons (ps_set (i := 2) nd rfl (Or.inl rfl) (C8.pe_c G_first_violation hr (by decide) rfl (pa_cons (pv 0) (pa_cons (pv 1) pa_nil))))
  (pss_cons (ps_if (pt_cmpR opIsN (pv 2) pe_non (nomark _))
   (pss_one (ps_ret (pe_lst (pa_cons pe_int pa_nil)))) pss_nil)
  (pss_one (ps_ret (pe_op op_cat (pe_lst (pa_cons pe_int pa_nil)) (pv 2)))))), ?_⟩)
  · obtain ⟨p, m, a, rfl, hI, hm, k⟩ := h
    rfl
  · obtain ⟨p, m, a, rfl, hI, hm, k⟩ := h
    have wf := hI.wf
    refine q_asgP (ep_call (Evl.ea_cons (Evl.ev_var rfl) (Evl.ea_cons (Evl.ev_var rfl) Evl.ea_nil)) (v_first_violation hI hm)) fun v H1 e1 b => ?_
    have b1 := b H1 (Ex.refl _)
    cases hv : viol a m with
    | none =>
      rw [hv] at b1 k
      have b2 : v = .non := b1
      subst b2
      exact Evl.q_when (Evl.et_is (Evl.et_test (ev_isN (Evl.ev_var rfl))) (b := true) rfl) (fun _ H2 e2 => ret_one k (e1.trans e2) rfl Evl.ev_c rfl) (fun hb => by cases hb)
    | some z =>
      rw [hv] at b1 k
      obtain ⟨i, t, c⟩ := z
      obtain ⟨r, rfl, hr⟩ := b1
      have hr : LN H1 r (i :: (t ++ c)) := hr
      obtain ⟨hi, ht⟩ := viol_some hv
      have htl := (base_mem wf ht).1
      have hn3 := wf.n3
      have hcl : c.length ≤ 4 := by
        have := viol_cyc hm wf hv
        exact this
      refine Evl.q_when (Evl.et_is (Evl.et_test (ev_isN (Evl.ev_var rfl))) (b := false) rfl) (fun hb => by cases hb) (fun _ H2 e2 => ?_)
      refine Evl.s_retL (el_cat (evX_L (Evl.el_lst (Evl.ea_cons Evl.ev_c Evl.ea_nil) (by show 1 ≤ 100000; decide))) (evX_R (Evl.ev_var rfl) (hr.mono e2)) ?_) (RetI.fin k (e1.trans e2) ?_)
      · rw [List.length_map]
        show 1 + (i :: (t ++ c)).length ≤ 100000
        rw [List.length_cons, List.length_append]
        omega
      · show (ansMono (some (i, t, c))).map V.int = [V.int 0] ++ (i :: (t ++ c)).map nV
        unfold ansMono
        rw [List.map_cons, List.map_map]
        rfl

abbrev s_is_cyclically_monotonic : Stmt := topS 47
theorem sc_is_cyclically_monotonic : FnScope ["instance"] ["instance"] (defScope s_is_cyclically_monotonic) := ⟨rfl, rfl, rfl, by decide +kernel, rfl, by decide +kernel, by decide +kernel⟩
theorem ok_is_cyclically_monotonic {f : Addr} {fd : FuncData} (F : Fun K "is_cyclically_monotonic" "is_cyclically_monotonic" s_is_cyclically_monotonic f fd) (T : Txt K mg CW CI aS) (G_is_monotonic : C8.Cal P w K mg base 6 "is_monotonic" (sp_is_monotonic CI) []) : FnOk P w K mg base CX0 7 f fd ["instance"] (sp_is_cyclically_monotonic CI) := by
  have nd := sc_is_cyclically_monotonic.nd
  refine F.ok sc_is_cyclically_monotonic (fun vs H Q E h => ?_) (fun cdv A outer s H vs Q E hr h => ⟨_, (pss_one (ps_ret (C8.pe_c G_is_monotonic hr (by decide) rfl (pa_cons (pv 0) (pa_cons (C8.pe_gc rfl T.g_MOST_KINDS) pa_nil))))), ?_⟩)
  · obtain ⟨p, a, rfl, hI, hr, k⟩ := h
    rfl
  · obtain ⟨p, a, rfl, hI, hr, k⟩ := h
    rw [mono4 hI.wf hr] at k
    exact Evl.s_retL (el_call (Evl.ea_cons (Evl.ev_var rfl) (Evl.ea_cons Evl.ev_c Evl.ea_nil)) (v_is_monotonic (m := 4) hI (Or.inl rfl))) k

abbrev s_is_weakly_monotonic : Stmt := topS 48
theorem sc_is_weakly_monotonic : FnScope ["instance"] ["instance"] (defScope s_is_weakly_monotonic) := ⟨rfl, rfl, rfl, by decide +kernel, rfl, by decide +kernel, by decide +kernel⟩
theorem ok_is_weakly_monotonic {f : Addr} {fd : FuncData} (F : Fun K "is_weakly_monotonic" "is_weakly_monotonic" s_is_weakly_monotonic f fd) (T : Txt K mg CW CI aS) (G_is_monotonic : C8.Cal P w K mg base 6 "is_monotonic" (sp_is_monotonic CI) []) : FnOk P w K mg base CX0 7 f fd ["instance"] (sp_is_weakly_monotonic CI) := by
  have nd := sc_is_weakly_monotonic.nd
  refine F.ok sc_is_weakly_monotonic (fun vs H Q E h => ?_) (fun cdv A outer s H vs Q E hr h => ⟨_, (pss_one (ps_ret (C8.pe_c G_is_monotonic hr (by decide) rfl (pa_cons (pv 0) (pa_cons pe_int pa_nil))))), ?_⟩)
  · obtain ⟨p, a, rfl, hI, hr, k⟩ := h
    rfl
  · obtain ⟨p, a, rfl, hI, hr, k⟩ := h
    rw [mono2 hI.wf hr] at k
    exact Evl.s_retL (el_call (Evl.ea_cons (Evl.ev_var rfl) (Evl.ea_cons Evl.ev_c Evl.ea_nil)) (v_is_monotonic (m := 2) hI (Or.inr rfl))) k

abbrev s_payment_bounds : Stmt := topS 50
theorem sc_payment_bounds : FnScope ["instance", "agent", "profile", "losses", "lengths", "kind"] ["instance", "agent", "profile"] (defScope s_payment_bounds) := ⟨rfl, rfl, rfl, by decide +kernel, rfl, by decide +kernel, by decide +kernel⟩
theorem ok_payment_bounds {f : Addr} {fd : FuncData} (F : Fun K "payment_bounds" "payment_bounds" s_payment_bounds f fd) (T : Txt K mg CW CI aS) (G_cycles_of : C8.Cal P w K mg base 1 "cycles_of" sp_cycles_of []) (G_distances : C8.Cal P w K mg base 2 "distances" sp_distances []) (G_first_negative : C8.Cal P w K mg base 2 "first_negative" sp_first_negative []) (G_m_has_agent : C8.Met P w K mg base 1 CI "has_agent" (sp_has_agent CI) []) (G_m_is_profile : C8.Met P w K mg base 3 CI "is_profile" (sp_is_profile CI) []) (G_m_losses : C8.Met P w K mg base 4 CI "losses" (sp_losses CI) []) : FnOk P w K mg base CX0 5 f fd ["instance", "agent", "profile"] (sp_payment_bounds CI) := by
  have nd := sc_payment_bounds.nd
  refine F.ok sc_payment_bounds (fun vs H Q E h => ?_) (fun cdv A outer s H vs Q E hr h => ⟨_, (pss_cons (ps_if (pt_not (pt_val (C8.pe_mt G_m_has_agent hr (by decide) (pv 0) (by exact (pa_cons (pv 1) pa_nil)))))
   (pss_one (ps_ret (pe_lst (pa_cons (C8.pe_gc rfl T.g_NO_SUCH_MEMBER) pa_nil)))) pss_nil)
  (pss_cons (ps_if (pt_not (pt_val (C8.pe_mt G_m_is_profile hr (by decide) (pv 0) (by exact (pa_cons (pv 2) pa_nil)))))
   (pss_one (ps_ret (pe_lst (pa_cons (C8.pe_gc rfl T.g_INVALID) pa_nil)))) pss_nil)
  (pss_cons (ps_set (i := 3) nd rfl (Or.inl rfl) (C8.pe_mt G_m_losses hr (by decide) (pv 0) (by exact (pa_cons (pv 1) (pa_cons (pv 2) pa_nil)))))
  (pss_cons (ps_if (pt_cmpR opNotN (C8.pe_c G_first_negative hr (by decide) rfl (pa_cons (pv 3) (pa_cons (C8.pe_c G_cycles_of hr (by decide) rfl (pa_cons (pe_callB (call_len1 (K := K) rfl) (by rfl) T.b_len PySem.boot_len (pa_cons (pv 3) pa_nil)) (pa_cons (C8.pe_gc rfl T.g_MOST_KINDS) pa_nil))) pa_nil))) pe_non (nomark _))
   (pss_one (ps_ret (pe_lst (pa_cons (C8.pe_gc rfl T.g_NO_TRUTHFUL_PAYMENTS) pa_nil)))) pss_nil)
  (pss_cons (ps_set (i := 4) nd rfl (Or.inl rfl) (C8.pe_c G_distances hr (by decide) rfl (pa_cons (pv 3) pa_nil)))
  (pss_cons (ps_set (i := 5) nd rfl (Or.inl rfl) (pe_ix (ixL (K := K) rfl) (pv 2) (pv 1) (fun _ _ => rfl)))
  (pss_one (ps_ret (pe_lst (pa_cons pe_int (pa_cons (pe_ix (ixL (K := K) rfl) (pe_ix (ixL (K := K) rfl) (pv 4) pe_int (fun _ _ => rfl)) (pv 5) (fun _ _ => rfl)) (pa_cons (pe_un un_neg (pe_ix (ixL (K := K) rfl) (pe_ix (ixL (K := K) rfl) (pv 4) (pv 5) (fun _ _ => rfl)) pe_int (fun _ _ => rfl))) pa_nil)))))))))))), ?_⟩)
  · obtain ⟨p, i, q, a, t, rfl, hI, hr, hq, hl, k⟩ := h
    rfl
  · obtain ⟨p, i, q, a, t, rfl, hI, hr, hq, hl, k⟩ := h
    rw [a_bounds hr] at k
    have wf := hI.wf
    refine Evl.q_when (Evl.et_not (Evl.et_B (ev_m hI (fun _ _ _ _ => fs_has_agent) (Evl.ev_var rfl) (Evl.ea_cons (Evl.ev_var rfl) Evl.ea_nil) (v_has_agent hI)))) (fun hb H1 e1 => ?_) (fun hb H1 e1 => ?_)
    · exact ret_one k e1 (if_neg (of_decide_eq_false (not_t hb))) Evl.ev_c rfl
    have hi : i < a.agentCount := of_decide_eq_true (not_f hb)
    rw [if_pos hi] at k
    have hI1 := hI.mono e1
    have hq1 := hq.mono e1
    refine Evl.q_when (Evl.et_not (Evl.et_B (ev_m hI1 (fun _ _ _ _ => fs_is_profile) (Evl.ev_var rfl) (Evl.ea_cons (Evl.ev_var rfl) Evl.ea_nil) (v_is_profile hI1 hq1 hl)))) (fun hb H2 e2 => ?_) (fun hb H2 e2 => ?_)
    · exact ret_one k (e1.trans e2) (if_neg (by rw [not_t hb]; decide)) Evl.ev_c rfl
    have hp := isP_of (not_f hb)
    have hI2 := hI1.mono e2
    have hq2 := hq1.mono e2
    rw [if_pos (not_f hb)] at k
    have hk : t.getD i 0 < a.typeCount i := hp.2 i hi
    have hc4 := count_le wf i
    have sq := lossM_sq a i t
    refine q_asgP (ep_m hI2 (fun _ _ _ _ => fs_losses) (Evl.ev_var rfl) (Evl.ea_cons (Evl.ev_var rfl) (Evl.ea_cons (Evl.ev_var rfl) Evl.ea_nil)) (v_losses hI2 hi hq2 hp)) fun v H3 e3 b => ?_
    obtain ⟨ql, rfl, hql⟩ := b H3 (Ex.refl _)
    have hcs : ∀ cs ∈ cyc (a.typeCount i) 4, 1 ≤ cs.length ∧ cs.length ≤ 100 ∧ ∀ x ∈ cs, x < a.typeCount i := fun cs hcs => by
      have := cycN_mem hc4 (cyc_mem hc4 (Or.inl rfl) hcs)
      exact ⟨by omega, by omega, this.2.2⟩
    obtain ⟨rs, r1, r2, r3⟩ := LR.at hql
    have hlen : ((rs.map V.ref).length : Int) = (a.typeCount i : Int) := by rw [List.length_map, r2, sq.len]
    have hneg := neg4 wf i t
    refine Evl.q_when (et_notN (o := a.negativeCycle i t) (by
      rw [← hneg]
      refine ep_callP (eap_cons (ep_of (Evl.ev_var rfl)) (eap_cons (ep_call (Evl.ea_cons (Evl.ev_is (Evl.ev_len (Evl.ev_var rfl) (Evl.sq_of r1)) (congrArg V.int hlen)) (Evl.ea_cons Evl.ev_c Evl.ea_nil)) (v_cycles_of (m := 4) hc4 (Or.inl rfl))) (eap_of Evl.ea_nil))) ?_
      rintro vs H4 e4 ⟨v1, r1, rfl, rfl, v2, r2, rfl, ⟨qc, rfl, hqc⟩, rfl⟩
      exact v_first_negative (hql.mono e4) sq hqc hcs)) (fun hb H4 e4 => ?_) (fun hb H4 e4 => ?_)
    · cases hn : a.negativeCycle i t with
      | none =>
        rw [hn] at hb
        cases hb
      | some c =>
        rw [hn] at k
        exact ret_one k (e1.trans (e2.trans (e3.trans e4))) rfl Evl.ev_c rfl
    · cases hn : a.negativeCycle i t with
      | some c =>
        rw [hn] at hb
        cases hb
      | none =>
        rw [hn] at k
        refine q_asgP (ep_call (Evl.ea_cons (Evl.ev_var rfl) Evl.ea_nil) (v_distances (hql.mono e4) sq (by omega))) fun v H5 e5 b => ?_
        obtain ⟨qd, rfl, hqd⟩ := b H5 (Ex.refl _)
        have sqd : Sq (fw (lossM a i t)) (a.typeCount i) := fwU_sq sq _
        obtain ⟨ds, d1, d2, d3⟩ := LR.at hqd
        refine Evl.q_asg (ev_ixL (Evl.ev_var rfl) (Evl.ev_var rfl) (hq2.mono (e3.trans (e4.trans e5))) (map_at (at_getD 0 (by rw [hp.1]; exact hi)))) fun H6 e6 => ?_
        have h0 : 0 < a.typeCount i := by omega
        obtain ⟨g0, g1, g2⟩ := d3 0 _ (sqd.at h0)
        obtain ⟨gk, gk1, gk2⟩ := d3 _ _ (sqd.at hk)
        refine Evl.s_retL (Evl.el_lst (Evl.ea_cons Evl.ev_c (Evl.ea_cons (ev_ixL (ev_ixL (i := 0) (Evl.ev_var rfl) Evl.ev_c (e6 _ _ d1) (map_at (f := V.ref) g1)) (Evl.ev_var rfl) (g2.mono e6) (map_at (sqd.at2 h0 hk))) (Evl.ea_cons (Evl.ev_un (ev_ixL (i := 0) (ev_ixL (Evl.ev_var rfl) (Evl.ev_var rfl) (e6 _ _ d1) (map_at (f := V.ref) gk1)) Evl.ev_c (gk2.mono e6) (map_at (sqd.at2 hk h0))) Evl.ru_neg) Evl.ea_nil))) (by show 3 ≤ 100000; decide)) (RetI.fin k (e1.trans (e2.trans (e3.trans (e4.trans (e5.trans e6))))) ?_)
        rw [dist_is wf hn h0 hk, dist_is wf hn hk h0]
        rfl

abbrev s_are_truthful_payments : Stmt := topS 51
theorem sc_are_truthful_payments : FnScope ["instance", "agent", "profile", "payments"] ["instance", "agent", "profile", "payments"] (defScope s_are_truthful_payments) := ⟨rfl, rfl, rfl, by decide +kernel, rfl, by decide +kernel, by decide +kernel⟩
theorem ok_are_truthful_payments {f : Addr} {fd : FuncData} (F : Fun K "are_truthful_payments" "are_truthful_payments" s_are_truthful_payments f fd) (T : Txt K mg CW CI aS) (G_are_truthful : C8.Cal P w K mg base 1 "are_truthful" sp_are_truthful []) (G_fits : C8.Cal P w K mg base 1 "fits" sp_fits []) (G_m_has_agent : C8.Met P w K mg base 1 CI "has_agent" (sp_has_agent CI) []) (G_m_is_profile : C8.Met P w K mg base 3 CI "is_profile" (sp_is_profile CI) []) (G_m_kind_count : C8.Met P w K mg base 1 CI "kind_count" (sp_kind_count CI) []) (G_m_losses : C8.Met P w K mg base 4 CI "losses" (sp_losses CI) []) : FnOk P w K mg base CX0 5 f fd ["instance", "agent", "profile", "payments"] (sp_are_truthful_payments CI) := by
  have nd := sc_are_truthful_payments.nd
  refine F.ok sc_are_truthful_payments (fun vs H Q E h => ?_) (fun cdv A outer s H vs Q E hr h => ⟨_, (pss_cons (ps_if (pt_not (pt_val (C8.pe_mt G_m_has_agent hr (by decide) (pv 0) (by exact (pa_cons (pv 1) pa_nil)))))
   (pss_one (ps_ret (pe_lst (pa_cons (C8.pe_gc rfl T.g_NO_SUCH_MEMBER) pa_nil)))) pss_nil)
  (pss_cons (ps_if (pt_not (pt_val (C8.pe_mt G_m_is_profile hr (by decide) (pv 0) (by exact (pa_cons (pv 2) pa_nil)))))
   (pss_one (ps_ret (pe_lst (pa_cons (C8.pe_gc rfl T.g_INVALID) pa_nil)))) pss_nil)
  (pss_cons (ps_if (pt_not (pt_val (C8.pe_c G_fits hr (by decide) rfl (pa_cons (pv 3) (pa_cons (C8.pe_mt G_m_kind_count hr (by decide) (pv 0) (by exact (pa_cons (pv 1) pa_nil))) (pa_cons (C8.pe_gc rfl T.g_GREATEST_PAYMENT) pa_nil))))))
   (pss_one (ps_ret (pe_lst (pa_cons (C8.pe_gc rfl T.g_INVALID) pa_nil)))) pss_nil)
  (pss_cons (ps_if (pt_val (C8.pe_c G_are_truthful hr (by decide) rfl (pa_cons (C8.pe_mt G_m_losses hr (by decide) (pv 0) (by exact (pa_cons (pv 1) (pa_cons (pv 2) pa_nil)))) (pa_cons (pv 3) pa_nil))))
   (pss_one (ps_ret (pe_lst (pa_cons pe_int pa_nil)))) pss_nil)
  (pss_one (ps_ret (pe_lst (pa_cons pe_int pa_nil)))))))), ?_⟩)
  · obtain ⟨p, i, q, r, a, t, ps, rfl, hI, hr, hq, hl, hps, hpl, k⟩ := h
    rfl
  · obtain ⟨p, i, q, r, a, t, ps, rfl, hI, hr, hq, hl, hps, hpl, k⟩ := h
    rw [a_truthful hr] at k
    have wf := hI.wf
    refine Evl.q_when (Evl.et_not (Evl.et_B (ev_m hI (fun _ _ _ _ => fs_has_agent) (Evl.ev_var rfl) (Evl.ea_cons (Evl.ev_var rfl) Evl.ea_nil) (v_has_agent hI)))) (fun hb H1 e1 => ?_) (fun hb H1 e1 => ?_)
    · exact ret_one k e1 (if_neg (of_decide_eq_false (not_t hb))) Evl.ev_c rfl
    have hi : i < a.agentCount := of_decide_eq_true (not_f hb)
    rw [if_pos hi] at k
    have hI1 := hI.mono e1
    have hq1 := hq.mono e1
    refine Evl.q_when (Evl.et_not (Evl.et_B (ev_m hI1 (fun _ _ _ _ => fs_is_profile) (Evl.ev_var rfl) (Evl.ea_cons (Evl.ev_var rfl) Evl.ea_nil) (v_is_profile hI1 hq1 hl)))) (fun hb H2 e2 => ?_) (fun hb H2 e2 => ?_)
    · exact ret_one k (e1.trans e2) (if_neg (by rw [not_t hb]; decide)) Evl.ev_c rfl
    have hp := isP_of (not_f hb)
    have hI2 := hI1.mono e2
    have hq2 := hq1.mono e2
    have hps2 := (hps.mono e1).mono e2
    rw [if_pos (not_f hb)] at k
    have hc4 := count_le wf i
    have sq := lossM_sq a i t
    refine Evl.q_when (Evl.et_not (Evl.et_B (ev_call (Evl.ea_cons (Evl.ev_var rfl) (Evl.ea_cons (ev_m hI2 (fun _ _ _ _ => fs_kind_count) (Evl.ev_var rfl) (Evl.ea_cons (Evl.ev_var rfl) Evl.ea_nil) (v_kind_count hI2 hi)) (Evl.ea_cons Evl.ev_c Evl.ea_nil))) (v_fits hps2 hpl)))) (fun hb H3 e3 => ?_) (fun hb H3 e3 => ?_)
    · exact ret_one k (e1.trans (e2.trans e3)) (if_neg (by rw [not_t hb]; decide)) Evl.ev_c rfl
    rw [if_pos (not_f hb)] at k
    have hfl := (fits_yes (not_f hb)).1
    have hI3 := hI2.mono e3
    have hq3 := hq2.mono e3
    have hps3 := hps2.mono e3
    rw [← trB_is] at k
    refine Evl.q_when (Evl.et_B (ev_callP (z := .bl (trB (lossM a i t) ps)) (eap_cons (ep_m hI3 (fun _ _ _ _ => fs_losses) (Evl.ev_var rfl) (Evl.ea_cons (Evl.ev_var rfl) (Evl.ea_cons (Evl.ev_var rfl) Evl.ea_nil)) (v_losses hI3 hi hq3 hp)) (eap_of (Evl.ea_cons (Evl.ev_var rfl) Evl.ea_nil))) ?_)) (fun hb H4 e4 => ?_) (fun hb H4 e4 => ?_)
    · rintro vs H4 e4 ⟨v1, r1, rfl, ⟨ql, rfl, hql⟩, rfl⟩
      exact v_are_truthful hql sq (by omega) (hps3.mono e4) hfl
    · exact ret_one k (e1.trans (e2.trans (e3.trans e4))) (if_pos hb) Evl.ev_c rfl
    · exact ret_one k (e1.trans (e2.trans (e3.trans e4))) (if_neg (by rw [hb]; decide)) Evl.ev_c rfl

abbrev s_pivot_payments : Stmt := topS 52
theorem sc_pivot_payments : FnScope ["instance", "profile", "found", "agent"] ["instance", "profile"] (defScope s_pivot_payments) := ⟨rfl, rfl, rfl, by decide +kernel, rfl, by decide +kernel, by decide +kernel⟩
theorem ok_pivot_payments {f : Addr} {fd : FuncData} (F : Fun K "pivot_payments" "pivot_payments" s_pivot_payments f fd) (T : Txt K mg CW CI aS) (G_m_is_profile : C8.Met P w K mg base 3 CI "is_profile" (sp_is_profile CI) []) (G_pivot_payment : C8.Cal P w K mg base 5 "pivot_payment" (sp_pivot_payment CI) []) : FnOk P w K mg base CX0 6 f fd ["instance", "profile"] (sp_pivot_payments CI) := by
  have nd := sc_pivot_payments.nd
  refine F.ok sc_pivot_payments (fun vs H Q E h => ?_) (fun cdv A outer s H vs Q E hr h => ⟨_, (pss_cons (ps_if (pt_not (pt_val (C8.pe_mt G_m_is_profile hr (by decide) (pv 0) (by exact (pa_cons (pv 1) pa_nil)))))
   (pss_one (ps_ret (pe_lst (pa_cons (C8.pe_gc rfl T.g_INVALID) pa_nil)))) pss_nil)
  (pss_cons (ps_setLc (i := 2) (own := [("agent", 3)]) rfl nd rfl rfl (sw_true rfl rfl rfl (by decide +kernel)) (pi_range1 (by rfl) T.b_range (pa_cons (pe_fld (pv 0) rfl) pa_nil)) (blkOk_by (N := ["instance", "profile", "found", "agent"]) (sc := defScope s_pivot_payments) (by decide +kernel)) (fun _ _ _ _ _ => (pg_name (i := 3) nd rfl (Or.inl rfl))) (fun _ _ _ _ _ => pts_nil) (fun _ _ _ _ _ => (C8.pe_c G_pivot_payment hr (by decide) rfl (pa_cons (pv 0) (pa_cons (pv 3) (pa_cons (pv 1) pa_nil))))))
  (pss_one (ps_ret (pe_op op_cat (pe_lst (pa_cons (pe_fld (pv 0) rfl) pa_nil)) (pv 2)))))), ?_⟩)
  · obtain ⟨p, q, a, t, rfl, hI, hr, hq, hl, k⟩ := h
    rfl
  · obtain ⟨p, q, a, t, rfl, hI, hr, hq, hl, k⟩ := h
    rw [a_pivots hr] at k
    have wf := hI.wf
    have hn3 := wf.n3
    refine Evl.q_when (Evl.et_not (Evl.et_B (ev_m hI (fun _ _ _ _ => fs_is_profile) (Evl.ev_var rfl) (Evl.ea_cons (Evl.ev_var rfl) Evl.ea_nil) (v_is_profile hI hq hl)))) (fun hb H1 e1 => ?_) (fun hb H1 e1 => ?_)
    · exact ret_one k e1 (if_neg (by rw [not_t hb]; decide)) Evl.ev_c rfl
    have hp := isP_of (not_f hb)
    rw [if_pos (not_f hb)] at k
    have hI1 := hI.mono e1
    have hq1 := hq.mono e1
    refine Evl.q_asgL (Evl.el_lcR1 (n := (a.agentCount : Int)) (fun _ => true) (fun i => V.int (a.pivotPayment i t)) (Evl.ea_cons (ev_ac T hI1 (Evl.ev_var rfl)) Evl.ea_nil) ⟨by omega, by omega⟩ (fun _ => rfl) (fun i H2 e2 hi => et_yes) (fun i H2 e2 hi _ => ?_)) fun c H2 hc e2 hl2 => ?_
    · exact ev_call (Evl.ea_cons (Evl.ev_var rfl) (Evl.ea_cons (Evl.ev_var rfl) (Evl.ea_cons (Evl.ev_var rfl) Evl.ea_nil))) (v_pivot_payment (hI1.mono e2) (by omega) (hq1.mono e2) hp)
    rw [given_all, Int.toNat_natCast] at hl2
    refine Evl.s_retL (el_cat (evX_L (Evl.el_lst (Evl.ea_cons (ev_ac T (hI1.mono e2) (Evl.ev_var rfl)) Evl.ea_nil) (by show 1 ≤ 100000; decide))) (evX_R (Evl.ev_var rfl) hl2) ?_) (RetI.fin k (e1.trans e2) ?_)
    · rw [List.length_map, List.length_range]
      show 1 + _ ≤ 100000
      omega
    · rw [List.map_cons]
      unfold Instance.agents
      rw [List.map_map]
      rfl

abbrev s_welfare : Stmt := topS 53
theorem sc_welfare : FnScope ["instance", "profile", "alternative", "totals"] ["instance", "profile"] (defScope s_welfare) := ⟨rfl, rfl, rfl, by decide +kernel, rfl, by decide +kernel, by decide +kernel⟩
theorem ok_welfare {f : Addr} {fd : FuncData} (F : Fun K "welfare" "welfare" s_welfare f fd) (T : Txt K mg CW CI aS) (G_m_allocated : C8.Met P w K mg base 2 CI "allocated" (sp_allocated CI) []) (G_m_is_profile : C8.Met P w K mg base 3 CI "is_profile" (sp_is_profile CI) []) (G_total_values : C8.Cal P w K mg base 4 "total_values" (sp_total_values CI) []) : FnOk P w K mg base CX0 5 f fd ["instance", "profile"] (sp_welfare CI) := by
  have nd := sc_welfare.nd
  refine F.ok sc_welfare (fun vs H Q E h => ?_) (fun cdv A outer s H vs Q E hr h => ⟨_, (pss_cons (ps_if (pt_not (pt_val (C8.pe_mt G_m_is_profile hr (by decide) (pv 0) (by exact (pa_cons (pv 1) pa_nil)))))
   (pss_one (ps_ret (pe_lst (pa_cons (C8.pe_gc rfl T.g_INVALID) pa_nil)))) pss_nil)
  (pss_cons (ps_set (i := 2) nd rfl (Or.inl rfl) (C8.pe_mt G_m_allocated hr (by decide) (pv 0) (by exact (pa_cons (pv 1) pa_nil))))
  (pss_cons (ps_set (i := 3) nd rfl (Or.inl rfl) (C8.pe_c G_total_values hr (by decide) rfl (pa_cons (pv 0) (pa_cons (pv 1) pa_nil))))
  (pss_one (ps_ret (pe_lst (pa_cons (pv 2) (pa_cons (pe_ix (ixL (K := K) rfl) (pv 3) (pv 2) (fun _ _ => rfl)) (pa_cons (pe_callB (cr_max rfl) (by rfl) T.b_max (by decide +kernel) (pa_cons (pv 3) pa_nil)) pa_nil))))))))), ?_⟩)
  · obtain ⟨p, q, a, t, rfl, hI, hr, hq, hl, k⟩ := h
    rfl
  · obtain ⟨p, q, a, t, rfl, hI, hr, hq, hl, k⟩ := h
    rw [a_welfare hr] at k
    have wf := hI.wf
    have hm1 : 1 ≤ a.alternativeCount := by
      have := wf.m2
      omega
    refine Evl.q_when (Evl.et_not (Evl.et_B (ev_m hI (fun _ _ _ _ => fs_is_profile) (Evl.ev_var rfl) (Evl.ea_cons (Evl.ev_var rfl) Evl.ea_nil) (v_is_profile hI hq hl)))) (fun hb H1 e1 => ?_) (fun hb H1 e1 => ?_)
    · exact ret_one k e1 (if_neg (by rw [not_t hb]; decide)) Evl.ev_c rfl
    have hp := isP_of (not_f hb)
    rw [if_pos (not_f hb)] at k
    have hI1 := hI.mono e1
    have hq1 := hq.mono e1
    refine Evl.q_asg (ev_m hI1 (fun _ _ _ _ => fs_allocated) (Evl.ev_var rfl) (Evl.ea_cons (Evl.ev_var rfl) Evl.ea_nil) (v_allocated hI1 hq1 hp)) fun H2 e2 => ?_
    have hI2 := hI1.mono e2
    have hq2 := hq1.mono e2
    refine Evl.q_asgL (el_call (Evl.ea_cons (Evl.ev_var rfl) (Evl.ea_cons (Evl.ev_var rfl) Evl.ea_nil)) (v_total_values hI2 hq2 hp)) fun c H3 hc e3 hl3 => ?_
    obtain ⟨x1, x2, x3⟩ := argmax_go (a.totalValue t) a.alternativeCount hm1
    have at_ : ∀ j, j < a.alternativeCount → ((List.range a.alternativeCount).map (a.totalValue t))[j]? = some (a.totalValue t j) := fun j hj => by
      rw [List.getElem?_map, List.getElem?_range hj]
      rfl
    refine Evl.s_retL (Evl.el_lst (Evl.ea_cons (Evl.ev_var rfl) (Evl.ea_cons (ev_ixL (Evl.ev_var rfl) (Evl.ev_var rfl) hl3 (map_at (at_ _ (alloc_lt wf hp)))) (Evl.ea_cons (ev_max (evX_R (Evl.ev_var rfl) hl3) (List.mem_of_getElem? (at_ _ x1)) fun y hy => ?_) Evl.ea_nil))) (by show 3 ≤ 100000; decide)) (RetI.fin k (e1.trans (e2.trans e3)) rfl)
    obtain ⟨j, hj, rfl⟩ := List.mem_map.mp hy
    exact x2 j (List.mem_range.mp hj)

abbrev s_describe : Stmt := topS 54
theorem sc_describe : FnScope ["instance", "counts", "agent"] ["instance"] (defScope s_describe) := ⟨rfl, rfl, rfl, by decide +kernel, rfl, by decide +kernel, by decide +kernel⟩
theorem ok_describe {f : Addr} {fd : FuncData} (F : Fun K "describe" "describe" s_describe f fd) (T : Txt K mg CW CI aS) (G_m_kind_count : C8.Met P w K mg base 1 CI "kind_count" (sp_kind_count CI) []) : FnOk P w K mg base CX0 2 f fd ["instance"] (sp_describe CI) := by
  have nd := sc_describe.nd
  refine F.ok sc_describe (fun vs H Q E h => ?_) (fun cdv A outer s H vs Q E hr h => ⟨_, (pss_cons (ps_setLc (i := 1) (own := [("agent", 2)]) rfl nd rfl rfl (sw_true rfl rfl rfl (by decide +kernel)) (pi_range1 (by rfl) T.b_range (pa_cons (pe_fld (pv 0) rfl) pa_nil)) (blkOk_by (N := ["instance", "counts", "agent"]) (sc := defScope s_describe) (by decide +kernel)) (fun _ _ _ _ _ => (pg_name (i := 2) nd rfl (Or.inl rfl))) (fun _ _ _ _ _ => pts_nil) (fun _ _ _ _ _ => (C8.pe_mt G_m_kind_count hr (by decide) (pv 0) (by exact (pa_cons (pv 2) pa_nil)))))
  (pss_one (ps_ret (pe_op op_cat (pe_lst (pa_cons (pe_fld (pv 0) rfl) (pa_cons (pe_fld (pv 0) rfl) pa_nil))) (pv 1))))), ?_⟩)
  · obtain ⟨p, a, rfl, hI, k⟩ := h
    rfl
  · obtain ⟨p, a, rfl, hI, k⟩ := h
    rw [a_describe hI.wf] at k
    have hn3 := hI.wf.n3
    refine Evl.q_asgL (Evl.el_lcR1 (n := (a.agentCount : Int)) (fun _ => true) (fun i => nV (a.typeCount i)) (Evl.ea_cons (ev_ac T hI (Evl.ev_var rfl)) Evl.ea_nil) ⟨by omega, by omega⟩ (fun _ => rfl) (fun i H2 e2 hi => et_yes) (fun i H2 e2 hi _ => ?_)) fun c H2 hc e2 hl2 => ?_
    · exact ev_m (hI.mono e2) (fun _ _ _ _ => fs_kind_count) (Evl.ev_var rfl) (Evl.ea_cons (Evl.ev_var rfl) Evl.ea_nil) (v_kind_count (hI.mono e2) (by omega))
    rw [given_all, Int.toNat_natCast] at hl2
    refine Evl.s_retL (el_cat (evX_L (Evl.el_lst (Evl.ea_cons (ev_ac T (hI.mono e2) (Evl.ev_var rfl)) (Evl.ea_cons (ev_lc T (hI.mono e2) (Evl.ev_var rfl)) Evl.ea_nil)) (by show 2 ≤ 100000; decide))) (evX_R (Evl.ev_var rfl) hl2) ?_) (RetI.fin k e2 ?_)
    · rw [List.length_map, List.length_range]
      show 2 + _ ≤ 100000
      omega
    · rw [List.map_cons, List.map_cons, List.map_map]
      rfl

end
end Tp

namespace Tp
open PySem PySem.Spec PyProof.Rows L2
open Su196 (Instance)
open Evl (Ex Ev EvL EvT EvA EvO RetL RetV SpV SpL)
/-! # What changes: F, what may change -/
def Keep (F : Addr → Prop) (H H' : Hp) : Prop := ∀ x o, H x = some o → ¬ F x → H' x = some o
def Fr (F : Addr → Prop) (H : Hp) : Prop := ∀ x, H x = none → F x
section
variable {F : Addr → Prop} {H H' H0 H1 H2 : Hp} {x p q : Addr} {o : HO}
theorem Keep.of (e : Ex H H') : Keep F H H' := fun x o h _ => e x o h
theorem Keep.trans (a : Keep F H H1) (b : Keep F H1 H2) : Keep F H H2 := fun x o h n => b x o (a x o h n) n
theorem Keep.upd (h : F x) : Keep F H (upd H x o) := fun y u hy n => by
  have ne : y ≠ x := fun z => n (by rw [z]; exact h)
  rw [upd_ne ne]
  exact hy
theorem Keep.ex (a : Ex H H1) (h : F x) : Keep F H (L2.upd H1 x o) := (Keep.of a).trans (Keep.upd h)
theorem Keep.weak {G : Addr → Prop} (h : Keep F H H') (g : ∀ x, F x → G x) : Keep G H H' := fun x o hx n => h x o hx fun z => n (g x z)
theorem Fr.keep (f : Fr F H) (k : Keep F H H') : Fr F H' := fun x hx => by
  by_cases c : F x
  · exact c
  · cases e : H x with
    | none => exact f x e
    | some o =>
      rw [k x o e c] at hx
      cases hx
theorem Fr.ex (f : Fr F H) (k : Ex H H') : Fr F H' := f.keep (Keep.of k)
theorem ne_at {o1 o2 : HO} (h1 : H x = some o1) (h2 : H q = some o2) (n : o1 ≠ o2) : x ≠ q := fun z => by
  rw [z, h2] at h1
  exact n (Option.some.inj h1).symm
theorem ne_new {o1 : HO} (h1 : H x = some o1) (h2 : H q = none) : q ≠ x := fun z => by
  rw [z, h1] at h2
  cases h2
theorem ins_lst {C dx : Addr} {fs : List (Str × V)} {xs : List V} : HO.ins C dx fs ≠ .lst xs := fun z => by cases z
theorem lst_ins {C dx : Addr} {fs : List (Str × V)} {xs : List V} : HO.lst xs ≠ .ins C dx fs := fun z => by cases z
end
structure InstF (F : Addr → Prop) (CI : Addr) (H : Hp) (p : Addr) (a : Instance) : Prop where
  ex : ∃ g, InstAt CI H p g a ∧ F p ∧ F g.la ∧ (∀ (i : Nat) k, g.ks[i]? = some k → F k.1) ∧ F g.lv ∧ ∀ (i : Nat) k (j : Nat) q, g.ks[i]? = some k → k.2[j]? = some q → F q
section
variable {F : Addr → Prop} {CI : Addr} {H H' H0 H1 : Hp} {p : Addr} {a : Instance} {g : InstG}
theorem InstF.inst (h : InstF F CI H p a) : Inst CI H p a := by
  obtain ⟨g, h, _⟩ := h.ex
  exact ⟨g, h⟩
theorem InstF.wf (h : InstF F CI H p a) : WF a := h.inst.wf
theorem InstF.mono (h : InstF F CI H p a) (e : Ex H H') : InstF F CI H' p a := by
  obtain ⟨g, h, r⟩ := h.ex
  exact ⟨g, h.mono e, r⟩
theorem InstF.keepF (h : InstF F CI H p a) (k : ∀ x o, F x → H x = some o → H' x = some o) : InstF F CI H' p a := by
  obtain ⟨g, hg, f1, f2, f3, f4, f5⟩ := h.ex
  refine ⟨g, ⟨⟨hg.wf, k _ _ f1 hg.ob, k _ _ f4 hg.vl, hg.kl, fun i kk ty hk ht => ?_⟩, k _ _ f2 hg.al, hg.sk, hg.sa⟩, f1, f2, f3, f4, f5⟩
  obtain ⟨c1, c2, c3⟩ := hg.kd i kk ty hk ht
  exact ⟨k _ _ (f3 i kk hk) c1, c2, fun j q vs hq hv => k _ _ (f5 i kk j q hk hq) (c3 j q vs hq hv)⟩
theorem InstV.kinds (h : InstV CI H p g a) {i : Nat} {k : Addr × List Addr} (hk : g.ks[i]? = some k) : ∃ ty, a.types[i]? = some ty ∧ KAt H k ty := by
  have hi : i < a.types.length := by
    rw [← h.kl]
    exact (List.getElem?_eq_some_iff.mp hk).1
  exact ⟨_, List.getElem?_eq_getElem hi, h.kd i k _ hk (List.getElem?_eq_getElem hi)⟩
theorem InstV.val (h : InstV CI H p g a) {i j : Nat} {k : Addr × List Addr} {q : Addr} (hk : g.ks[i]? = some k) (hq : k.2[j]? = some q) : ∃ vs, LI H q vs := by
  obtain ⟨ty, _, k1, k2, k3⟩ := h.kinds hk
  have hj : j < ty.length := by
    rw [← k2]
    exact (List.getElem?_eq_some_iff.mp hq).1
  exact ⟨_, k3 j q _ hq (List.getElem?_eq_getElem hj)⟩
theorem InstV.known (h : InstV CI H p g a) {x : Addr} (hn : H x = none) : x ≠ p ∧ x ≠ g.lv ∧ ∀ (i : Nat) k, g.ks[i]? = some k → x ≠ k.1 ∧ ∀ (j : Nat) q, k.2[j]? = some q → x ≠ q := by
  refine ⟨ne_new h.ob hn, ne_new h.vl hn, fun i k hk => ?_⟩
  obtain ⟨ty, _, k1, k2, k3⟩ := h.kinds hk
  refine ⟨ne_new k1 hn, fun j q hq => ?_⟩
  obtain ⟨vs, hv⟩ := h.val hk hq
  exact ne_new hv hn
theorem InstV.apart (h : InstV CI H p g a) : g.lv ≠ p ∧ ∀ (i : Nat) k, g.ks[i]? = some k → k.1 ≠ p ∧ ∀ (j : Nat) q, k.2[j]? = some q → q ≠ p := by
  refine ⟨ne_at h.vl h.ob lst_ins, fun i k hk => ?_⟩
  obtain ⟨ty, _, k1, k2, k3⟩ := h.kinds hk
  refine ⟨ne_at k1 h.ob lst_ins, fun j q hq => ?_⟩
  obtain ⟨vs, hv⟩ := h.val hk hq
  exact ne_at hv h.ob lst_ins
/-- another list as the allocation -/
theorem inst_put {al : List Nat} {la : Addr} (h : InstV CI H0 p g a) (s : SepK g) (hn : H0 la = none) (e : Ex H0 H1) (h1 : LN H1 la al) (wf : WF { a with allocation := al }) :
    InstAt CI (upd H1 p (.ins CI g.dx (fsI a.agentCount a.alternativeCount g.lv la))) p { g with la := la } { a with allocation := al } := by
  obtain ⟨n1, n2, n3⟩ := h.known hn
  obtain ⟨a1, a2⟩ := h.apart
  refine ⟨⟨wf, upd_same, ?_, h.kl, fun i k ty hk ht => ?_⟩, LN.upd n1 h1, ⟨s.kv, s.kk, s.kq⟩, ⟨n2, fun i k hk z => (n3 i k hk).1 z.symm, fun i k j q hk hq z => (n3 i k hk).2 j q hq z.symm⟩⟩
  · show upd H1 p _ g.lv = _
    rw [upd_ne a1]
    exact e _ _ h.vl
  · obtain ⟨c1, c2, c3⟩ := h.kd i k ty hk ht
    refine ⟨?_, c2, fun j q vs hq hv => LI.upd ((a2 i k hk).2 j q hq) ((c3 j q vs hq hv).mono e)⟩
    rw [upd_ne (a2 i k hk).1]
    exact e _ _ c1
/-- the allocation, changed in its place -/
theorem inst_set {al : List Nat} (h : InstAt CI H p g a) (wf : WF { a with allocation := al }) : InstAt CI (upd H g.la (.lst (al.map nV))) p g { a with allocation := al } := by
  have pl : p ≠ g.la := ne_at h.ob h.al ins_lst
  refine ⟨⟨wf, ?_, ?_, h.kl, fun i k ty hk ht => ?_⟩, upd_same, h.sk, h.sa⟩
  · rw [upd_ne pl]
    exact h.ob
  · rw [upd_ne fun z => h.sa.av z.symm]
    exact h.vl
  · obtain ⟨c1, c2, c3⟩ := h.kd i k ty hk ht
    refine ⟨?_, c2, fun j q vs hq hv => LI.upd (h.sa.aq i k j q hk hq) (c3 j q vs hq hv)⟩
    rw [upd_ne (h.sa.ak i k hk)]
    exact c1
theorem map_set_same {α β : Type} (f : α → β) {l : List α} {i : Nat} {x y : α} (h : l[i]? = some x) (e : f y = f x) : (l.set i y).map f = l.map f := by
  apply List.ext_getElem?
  intro j
  rw [List.getElem?_map, List.getElem?_map]
  by_cases c : i = j
  · subst c
    rw [List.getElem?_set_self (List.getElem?_eq_some_iff.mp h).1, h]
    show some (f y) = some (f x)
    rw [e]
  · rw [List.getElem?_set_ne c]
/-- one more kind -/
theorem inst_add {i : Nat} {k : Addr × List Addr} {q : Addr} {vs : List Int} (h : InstAt CI H p g a) (hk : g.ks[i]? = some k) (hi : i < a.agentCount) (hn : H q = none) (e : Ex H H1) (hq : LI H1 q vs) (wf : WF (addT a i vs)) :
    InstV CI (upd H1 k.1 (.lst (k.2.map V.ref ++ [.ref q]))) p { g with ks := g.ks.set i (k.1, k.2 ++ [q]) } (addT a i vs) ∧ SepK { g with ks := g.ks.set i (k.1, k.2 ++ [q]) } := by
  obtain ⟨n1, n2, n3⟩ := h.known hn
  obtain ⟨a1, a2⟩ := h.apart
  have hil : i < g.ks.length := (List.getElem?_eq_some_iff.mp hk).1
  have hit : i < a.types.length := by
    rw [← h.kl]
    exact hil
  have look : ∀ (j : Nat) k', (g.ks.set i (k.1, k.2 ++ [q]))[j]? = some k' → ∃ k0, g.ks[j]? = some k0 ∧ k'.1 = k0.1 ∧ ∀ (j2 : Nat) q', k'.2[j2]? = some q' → k0.2[j2]? = some q' ∨ q' = q := by
    intro j k' hj
    by_cases c : i = j
    · subst c
      rw [List.getElem?_set_self hil] at hj
      cases hj
      refine ⟨k, hk, rfl, fun j2 q' hq' => ?_⟩
      by_cases d : j2 < k.2.length
      · rw [List.getElem?_append_left d] at hq'
        exact Or.inl hq'
      · rw [List.getElem?_append_right (by omega)] at hq'
        have h2 := List.mem_of_getElem? hq'
        exact Or.inr (by simpa using h2)
    · rw [List.getElem?_set_ne c] at hj
      exact ⟨k', hj, rfl, fun j2 q' hq' => Or.inl hq'⟩
  refine ⟨⟨wf, ?_, ?_, ?_, ?_⟩, ?_, ?_, ?_⟩
  · show upd H1 k.1 _ p = some (.ins CI g.dx (fsI a.agentCount a.alternativeCount g.lv g.la))
    rw [upd_ne fun z => (a2 i k hk).1 z.symm]
    exact e _ _ h.ob
  · show upd H1 k.1 _ g.lv = some (.lst ((g.ks.set i (k.1, k.2 ++ [q])).map fun k => V.ref k.1))
    rw [upd_ne fun z => h.sk.kv i k hk z.symm, map_set_same (fun k : Addr × List Addr => V.ref k.1) (y := (k.1, k.2 ++ [q])) hk rfl]
    exact e _ _ h.vl
  · show (g.ks.set i _).length = (a.types.set i _).length
    rw [List.length_set, List.length_set]
    exact h.kl
  · intro j k' ty hj ht
    have hj : (g.ks.set i (k.1, k.2 ++ [q]))[j]? = some k' := hj
    have ht : (a.types.set i (a.typesOf i ++ [vs]))[j]? = some ty := ht
    by_cases c : i = j
    · subst c
      rw [List.getElem?_set_self hil] at hj
      rw [List.getElem?_set_self hit] at ht
      cases hj
      cases ht
      obtain ⟨c1, c2, c3⟩ := h.kd i k _ hk (types_at h.wf hi)
      refine ⟨?_, ?_, fun j2 q' vs' b1 b2 => ?_⟩
      · show upd H1 k.1 _ k.1 = _
        rw [upd_same, List.map_append]
        rfl
      · show (k.2 ++ [q]).length = (a.typesOf i ++ [vs]).length
        rw [List.length_append, List.length_append, c2]
        rfl
      · have b1 : (k.2 ++ [q])[j2]? = some q' := b1
        by_cases d : j2 < k.2.length
        · rw [List.getElem?_append_left d] at b1
          rw [List.getElem?_append_left (by rw [← c2]; exact d)] at b2
          exact LI.upd (h.sk.kq i k j2 q' hk b1 i k hk) ((c3 j2 q' vs' b1 b2).mono e)
        · have d2 : j2 = k.2.length := by
            have := (List.getElem?_eq_some_iff.mp b1).1
            rw [List.length_append] at this
            have e1 : ([q] : List Addr).length = 1 := rfl
            omega
          subst d2
          rw [List.getElem?_append_right (Nat.le_refl _), Nat.sub_self] at b1
          rw [c2, List.getElem?_append_right (Nat.le_refl _), Nat.sub_self] at b2
          cases b1
          cases b2
          exact LI.upd (n3 i k hk).1 hq
    · rw [List.getElem?_set_ne c] at hj ht
      obtain ⟨c1, c2, c3⟩ := h.kd j k' ty hj ht
      refine ⟨?_, c2, fun j2 q' vs' b1 b2 => LI.upd (h.sk.kq j k' j2 q' hj b1 i k hk) ((c3 j2 q' vs' b1 b2).mono e)⟩
      rw [upd_ne (h.sk.kk j i k' k hj hk fun z => c z.symm)]
      exact e _ _ c1
  · intro j k' hj
    obtain ⟨k0, l1, l2, _⟩ := look j k' hj
    rw [l2]
    exact h.sk.kv j k0 l1
  · intro j j' k' k'' hj hj' n
    obtain ⟨k0, l1, l2, _⟩ := look j k' hj
    obtain ⟨k1, m1, m2, _⟩ := look j' k'' hj'
    rw [l2, m2]
    exact h.sk.kk j j' k0 k1 l1 m1 n
  · intro j k' j2 q' hj hq' j' k'' hj'
    obtain ⟨k0, l1, l2, l3⟩ := look j k' hj
    obtain ⟨k1, m1, m2, _⟩ := look j' k'' hj'
    rw [m2]
    rcases l3 j2 q' hq' with z | z
    · exact h.sk.kq j k0 j2 q' l1 z j' k1 m1
    · rw [z]
      exact (n3 j' k1 m1).1
end
/-! ## statements: a field, a call for its effect -/
section
variable {K : PySem.W.Frag} {σ : L2.St} {H : Hp} {ta tv : TE} {tt : TA} {D : Ends} {tz : TS} {p C dx : Addr} {fs : List (Str × V)} {f : Str} {v : V} {xs : List V}
theorem s_fldV (hv : Ev tv σ H v) (ho : Ev ta σ H (.ref p)) (hob : H p = some (.ins C dx fs)) (c : Cls K C) (n : NoAttr K C f) (hl : fs.length < 1000) (k : ∀ H1, Ex H H1 → D.nx σ (upd H1 p (.ins C dx (putF f v fs)))) : sFld K ta tv f D σ H :=
  hv H (Ex.refl H) _ fun H1 e1 => ho H1 e1 _ fun H2 e2 => ⟨p, C, dx, fs, rfl, e2 _ _ (e1 _ _ hob), c, n, hl, k H2 (e1.trans e2)⟩
theorem q_fldV (hv : Ev tv σ H v) (ho : Ev ta σ H (.ref p)) (hob : H p = some (.ins C dx fs)) (c : Cls K C) (n : NoAttr K C f) (hl : fs.length < 1000) (k : ∀ H1, Ex H H1 → tz D σ (upd H1 p (.ins C dx (putF f v fs)))) : tSeq (sFld K ta tv f) tz D σ H :=
  s_fldV (D := { D with nx := tz D }) hv ho hob c n hl k
theorem s_fldL (hv : EvL tv σ H xs) (ho : Ev ta σ H (.ref p)) (hob : H p = some (.ins C dx fs)) (c : Cls K C) (n : NoAttr K C f) (hl : fs.length < 1000) (k : ∀ q H1, H q = none → Ex H H1 → H1 q = some (.lst xs) → D.nx σ (upd H1 p (.ins C dx (putF f (.ref q) fs)))) : sFld K ta tv f D σ H :=
  hv H (Ex.refl H) _ fun q H1 hq e1 h1 => ho H1 e1 _ fun H2 e2 => ⟨p, C, dx, fs, rfl, e2 _ _ (e1 _ _ hob), c, n, hl, k q H2 hq (e1.trans e2) (e2 _ _ h1)⟩
theorem q_fldL (hv : EvL tv σ H xs) (ho : Ev ta σ H (.ref p)) (hob : H p = some (.ins C dx fs)) (c : Cls K C) (n : NoAttr K C f) (hl : fs.length < 1000) (k : ∀ q H1, H q = none → Ex H H1 → H1 q = some (.lst xs) → tz D σ (upd H1 p (.ins C dx (putF f (.ref q) fs)))) : tSeq (sFld K ta tv f) tz D σ H :=
  s_fldL (D := { D with nx := tz D }) hv ho hob c n hl k
/-- what is left behind the value of o.f = value -/
def contF (K : PySem.W.Frag) (ta : TE) (f : Str) (tz : TS) (D : Ends) (σ : L2.St) : VK := fun y H1 => ta σ H1 fun x H2 => ∃ a C dx fs, x = .ref a ∧ H2 a = some (.ins C dx fs) ∧ Cls K C ∧ NoAttr K C f ∧ fs.length < 1000 ∧ tz D σ (upd H2 a (.ins C dx (putF f y fs)))
theorem q_fldR (h : tv σ H (contF K ta f tz D σ)) : tSeq (sFld K ta tv f) tz D σ H := h
theorem contF_at (ho : Ev ta σ H (.ref p)) (hob : H p = some (.ins C dx fs)) (c : Cls K C) (n : NoAttr K C f) (hl : fs.length < 1000) (k : ∀ H1, Ex H H1 → tz D σ (upd H1 p (.ins C dx (putF f v fs)))) : contF K ta f tz D σ v H :=
  ho H (Ex.refl H) _ fun H1 e1 => ⟨p, C, dx, fs, rfl, e1 _ _ hob, c, n, hl, k H1 e1⟩
/-- a new instance as a value -/
theorem t_make {CI : Addr} {sp : Sp} {E : XK} {vs : List V} {Q : VK} (ha : EvA tt σ H vs) (k : ∀ H1, Ex H H1 → ∀ x dx, H1 x = none → H1 dx = none → dx ≠ x → sp (.ref x :: vs) (upd (upd H1 dx (.own x)) x (.ins CI dx [])) (fun v H2 => v = .non ∧ Q (.ref x) H2) E) : tMake CI sp [] E tt σ H Q :=
  ha H (Ex.refl H) _ fun H1 e1 x dx hx hdx hne => by
    rw [List.append_nil]
    exact k H1 e1 x dx hx hdx hne
theorem s_dropC {sp : Sp} {E : XK} {R : List V → Hp → Prop} (ha : EvAP tt σ H R) (k : ∀ vs H1, Ex H H1 → R vs H1 → sp vs H1 (fun _ H' => D.nx σ H') E) : tDrop (tCall sp [] E tt) D σ H := ha H (Ex.refl H) _ fun vs H1 e1 b => by
  rw [List.append_nil]
  exact k vs H1 e1 (b H1 (Ex.refl _))
theorem q_dropC {sp : Sp} {E : XK} {R : List V → Hp → Prop} (ha : EvAP tt σ H R) (k : ∀ vs H1, Ex H H1 → R vs H1 → sp vs H1 (fun _ H' => tz D σ H') E) : tSeq (tDrop (tCall sp [] E tt)) tz D σ H := s_dropC (D := { D with nx := tz D }) ha k
theorem q_dropM {sp : Sp} {E : XK} {R : List V → Hp → Prop} {m : Str} (ho : Ev ta σ H (.ref p)) (hob : H p = some (.ins C dx fs)) (l : fs.lookup m = none) (ha : EvAP tt σ H R) (k : ∀ vs H1, Ex H H1 → R vs H1 → sp (.ref p :: vs) H1 (fun _ H' => tz D σ H') E) : tSeq (tDrop (tMeth C m sp [] E ta tt)) tz D σ H :=
  ho H (Ex.refl H) _ fun H1 e1 => ⟨p, dx, fs, rfl, e1 _ _ hob, l, ha H1 e1 _ fun vs H2 e2 b => by
    rw [List.append_nil]
    exact k vs H2 (e1.trans e2) (b H2 (Ex.refl _))⟩
theorem s_retC {sp : Sp} {E : XK} {R : List V → Hp → Prop} (ha : EvAP tt σ H R) (k : ∀ vs H1, Ex H H1 → R vs H1 → sp vs H1 D.rt E) : tRet (tCall sp [] E tt) D σ H := ha H (Ex.refl H) _ fun vs H1 e1 b => by
  rw [List.append_nil]
  exact k vs H1 e1 (b H1 (Ex.refl _))
end
/-! ## new lists, each another -/
section
variable {σ : L2.St} {H : Hp} {te : TE} {t : TT}
def NwD (H1 : Hp) (D : Addr) (yss : List (List V)) (H : Hp) : Prop := ∃ ps, NewLL H1 yss D ps H ∧ ∀ (i j : Nat) q, ps[i]? = some q → ps[j]? = some q → i = j
theorem elld_lcR1 {tt : TA} {j : Nat} {vs : List Nat} {n : Nat} (ys : List V) (h : EvA tt σ H [nV n]) (hn : n ≤ 40000) (hw : ∀ x, wipe ((wipe σ vs).set j (some x)) vs = wipe σ vs)
    (ht : ∀ (i : Nat) H1, Ex H H1 → EvT t ((wipe σ vs).set j (some (nV i))) H1 true) (he : ∀ (i : Nat) H1, Ex H H1 → EvL te ((wipe σ vs).set j (some (nV i))) H1 ys) {Q : VK}
    (q : ∀ p ps H2, NewLL H (List.replicate n ys) p ps H2 → (∀ (i j : Nat) q, ps[i]? = some q → ps[j]? = some q → i = j) → Q (.ref p) H2) : tLc (iRng1 tt) (gName j) t te vs σ H Q := h H (Ex.refl H) _ fun H1 e1 => ⟨(n : Int), rfl, by omega, by omega, fun Dl hD =>
  lc_it (walk_range (lo := 0) (n := ((n : Int)).toNat)) (fun i H' => NwD H1 Dl (List.replicate i ys) H') ⟨[], ⟨hD, Ex.new hD, upd_same, rfl, fun k q ys' hk _ => by simp at hk⟩, fun i j q hi _ => by simp at hi⟩ (fun _ _ _ _ => trivial) (fun i x H2 H3 hi p y => by
    obtain ⟨y1, y2⟩ := y
    have y3 : x = nV i := y2.trans (congrArg V.int (Int.zero_add _))
    subst y3
    subst y1
    rw [Int.toNat_natCast] at hi
    obtain ⟨ps, ⟨p1, p2, p3, p4, p5⟩, pd⟩ := p
    refine ⟨hw _, ht i H1 e1 _ p2 _ fun H4 e4 => iteT (he i H1 e1 H4 (p2.trans e4) _ fun z H5 hz e5 hz5 => ⟨ps.map V.ref, e5 Dl _ (e4 Dl _ p3), Evl.sz_lt (by rw [List.length_map, p4, List.length_replicate]; omega), ps ++ [z], ⟨p1, Evl.Ex.mut ((p2.trans e4).trans e5) p1, ?_, ?_, ?_⟩, ?_⟩)⟩
    · rw [List.map_append]
      exact upd_same
    · rw [List.length_append, p4, List.length_replicate, List.length_replicate]
      rfl
    · have zD : z ≠ Dl := ne_new (e4 _ _ p3) hz
      intro k q' ys' hk hy
      have hy2 : ys' = ys := List.eq_of_mem_replicate (List.mem_of_getElem? hy)
      subst hy2
      by_cases c : k < ps.length
      · rw [List.getElem?_append_left c] at hk
        obtain ⟨g1, g2, g3⟩ := p5 k q' ys' hk (by
          rw [List.getElem?_replicate, if_pos (by rw [p4, List.length_replicate] at c; exact c)])
        refine ⟨g1, g2, ?_⟩
        rw [upd_ne g2]
        exact e5 _ _ (e4 _ _ g3)
      · rw [List.getElem?_append_right (by omega)] at hk
        have hz2 : q' = z := by simpa using List.mem_of_getElem? hk
        subst hz2
        refine ⟨Evl.fresh_back (p2.trans e4) hz, zD, ?_⟩
        rw [upd_ne zD]
        exact hz5
    · have old : ∀ k q', ps[k]? = some q' → q' ≠ z := fun k q' hk => by
        have hkl := (List.getElem?_eq_some_iff.mp hk).1
        obtain ⟨g1, g2, g3⟩ := p5 k q' ys hk (by
          rw [List.getElem?_replicate, if_pos (by rw [p4, List.length_replicate] at hkl; exact hkl)])
        exact fun y => ne_new (e4 _ _ g3) hz y.symm
      intro k l q' hk hl
      by_cases c : k < ps.length
      · rw [List.getElem?_append_left c] at hk
        by_cases d : l < ps.length
        · rw [List.getElem?_append_left d] at hl
          exact pd k l q' hk hl
        · rw [List.getElem?_append_right (by omega)] at hl
          have hz2 : q' = z := by simpa using List.mem_of_getElem? hl
          exact absurd hz2 (old k q' hk)
      · by_cases d : l < ps.length
        · rw [List.getElem?_append_left d] at hl
          rw [List.getElem?_append_right (by omega)] at hk
          have hz2 : q' = z := by simpa using List.mem_of_getElem? hk
          exact absurd hz2 (old l q' hl)
        · have h1 := (List.getElem?_eq_some_iff.mp hk).1
          have h2 := (List.getElem?_eq_some_iff.mp hl).1
          rw [List.length_append] at h1 h2
          have : ([z] : List Addr).length = 1 := rfl
          omega) (fun H' p => by
    obtain ⟨ps, p, pd⟩ := p
    rw [Int.toNat_natCast] at p
    exact q Dl ps H' (p.back e1) pd)⟩
end
end Tp

namespace Tp
open PySem PySem.Spec PyProof.Rows L2
open Su196 (Instance)
open Evl (Ex Ev EvL EvT EvA EvO RetL RetV SpV SpL)
section
variable {P : Program} {w : World} {K : PySem.W.Frag} {mg : Str → Option Value} {base : Heap} {CW CI aS : Addr}

open Su196 (execute)
/-- what a call that may change the instance gives: the state and the answer z -/
def RetW (F : Addr → Prop) (CI p : Addr) (z : Instance × Su196.Result) (H : Hp) (Q : VK) : Prop := ∀ c H', F c → Keep F H H' → InstF F CI H' p z.1 → LI H' c (res z.2) → Q (.ref c) H'
structure SW (F : Addr → Prop) (CI : Addr) (H : Hp) (p : Addr) (a : Instance) : Prop where
  inst : InstF F CI H p a
  fr : Fr F H
theorem SW.mono {F : Addr → Prop} {CI : Addr} {H H' : Hp} {p : Addr} {a : Instance} (h : SW F CI H p a) (e : Ex H H') : SW F CI H' p a := ⟨h.inst.mono e, h.fr.ex e⟩
def sp_Workbench (CW : Addr) : Sp := fun vs H Q _ => ∃ x dx, vs = [.ref x] ∧ H x = some (.ins CW dx []) ∧ ∀ H', Keep (fun y => y = x) H H' → H' x = some (.ins CW dx [("instance", .non)]) → Q .non H'
def sp_Instance (CI : Addr) : Sp := fun vs H Q _ => ∃ x dx n m, vs = [.ref x, nV n, nV m] ∧ H x = some (.ins CI dx []) ∧ 1 ≤ n ∧ n ≤ 3 ∧ 2 ≤ m ∧ m ≤ 4 ∧ ∀ H' g, Keep (fun y => y = x) H H' → InstAt CI H' x g (Su196.create n m) → H g.la = none → (∀ (i : Nat) k, g.ks[i]? = some k → H k.1 = none) → H g.lv = none → (∀ (i : Nat) k (j : Nat) q, g.ks[i]? = some k → k.2[j]? = some q → H q = none) → Q .non H'
def sp_append_kind (CI : Addr) : Sp := fun vs H Q _ => ∃ F p i q a us, vs = [.ref p, nV i, .ref q] ∧ SW F CI H p a ∧ i < a.agentCount ∧ LI H q us ∧ WF (addT a i us) ∧ us.length ≤ 100 ∧ ∀ v H', Keep F H H' → InstF F CI H' p (addT a i us) → Q v H'
def sp_allocate_best (CI : Addr) : Sp := fun vs H Q _ => ∃ F p w b a ws bs, vs = [.ref p, .ref w, .ref b] ∧ SW F CI H p a ∧ LI H w ws ∧ ws.length = a.agentCount ∧ (∀ x ∈ ws, 0 ≤ x ∧ x ≤ 99) ∧ LI H b bs ∧ bs.length = a.alternativeCount ∧ ∀ v H', Keep F H H' → InstF F CI H' p (ruleS a ws bs) → Q v H'
def sp_add_kind (CI : Addr) : Sp := fun vs H Q _ => ∃ F p i q a us, vs = [.ref p, nV i, .ref q] ∧ SW F CI H p a ∧ LI H q us ∧ us.length ≤ 100 ∧ RetW F CI p (execute a (.addType i us)) H Q
def sp_set_allocation (CI : Addr) : Sp := fun vs H Q _ => ∃ F p x q a t, vs = [.ref p, nV x, .ref q] ∧ SW F CI H p a ∧ a.isReady = true ∧ LN H q t ∧ t.length ≤ 100 ∧ RetW F CI p (execute a (.setAllocation x t)) H Q
def sp_use_welfare_maximizer (CI : Addr) : Sp := fun vs H Q _ => ∃ F p a, vs = [.ref p] ∧ SW F CI H p a ∧ a.isReady = true ∧ RetW F CI p (execute a .useWelfareMaximizer) H Q
def sp_use_affine_maximizer (CI : Addr) : Sp := fun vs H Q _ => ∃ F p q a t, vs = [.ref p, .ref q] ∧ SW F CI H p a ∧ a.isReady = true ∧ LN H q t ∧ t.length ≤ 100 ∧ RetW F CI p (execute a (.useAffineMaximizer t)) H Q
def sp_use_agent_maximizer (CI : Addr) : Sp := fun vs H Q _ => ∃ F p i a, vs = [.ref p, nV i] ∧ SW F CI H p a ∧ a.isReady = true ∧ RetW F CI p (execute a (.useAgentMaximizer i)) H Q
/-! the workbench -/
def stV (F : Addr → Prop) (CI : Addr) (H : Hp) (v : V) : Option Instance → Prop
  | none => v = .non
  | some a => ∃ p, v = .ref p ∧ InstF F CI H p a
structure WbF (F : Addr → Prop) (CW CI : Addr) (H : Hp) (pw : Addr) (s : Option Instance) : Prop where
  ex : ∃ dx v, H pw = some (.ins CW dx [("instance", v)]) ∧ stV F CI H v s
theorem stV.mono {F : Addr → Prop} {CI : Addr} {H H' : Hp} {v : V} : ∀ {s : Option Instance}, stV F CI H v s → Ex H H' → stV F CI H' v s
  | none, h, _ => h
  | some a, ⟨p, h1, h2⟩, e => ⟨p, h1, h2.mono e⟩
theorem WbF.mono {F : Addr → Prop} {CW CI : Addr} {H H' : Hp} {pw : Addr} {s : Option Instance} (h : WbF F CW CI H pw s) (e : Ex H H') : WbF F CW CI H' pw s := by
  obtain ⟨dx, v, h1, h2⟩ := h.ex
  exact ⟨dx, v, e _ _ h1, h2.mono e⟩
def RetB (F : Addr → Prop) (CW CI pw : Addr) (z : Option Instance × Su196.Result) (H : Hp) (Q : VK) : Prop := ∀ c H', F c → Keep (fun x => F x ∨ x = pw) H H' → WbF F CW CI H' pw z.1 → LI H' c (res z.2) → Q (.ref c) H'
def sp_create (CW CI : Addr) : Sp := fun vs H Q _ => ∃ F pw s n m, vs = [.ref pw, nV n, nV m] ∧ WbF F CW CI H pw s ∧ Fr F H ∧ ¬ F pw ∧ RetB F CW CI pw (Su196.step s (.create n m)) H Q
theorem step_create (s : Option Instance) (n m : Nat) : Su196.step s (.create n m) = if 1 ≤ n ∧ n ≤ 3 ∧ 2 ≤ m ∧ m ≤ 4 then (some (Su196.create n m), Su196.ok 0 []) else (s, Su196.error (-22)) := by
  cases s with
  | none =>
    show (if (execute (Su196.create 1 2) (.create n m)).2.value < 0 then none else some (execute (Su196.create 1 2) (.create n m)).1, (execute (Su196.create 1 2) (.create n m)).2) = _
    rw [x_create]
    by_cases h : 1 ≤ n ∧ n ≤ 3 ∧ 2 ≤ m ∧ m ≤ 4
    · rw [if_pos h, if_pos h]
      rfl
    · rw [if_neg h, if_neg h]
      rfl
  | some a =>
    show (some (execute a (.create n m)).1, (execute a (.create n m)).2) = _
    rw [x_create]
    by_cases h : 1 ≤ n ∧ n ≤ 3 ∧ 2 ≤ m ∧ m ≤ 4
    · rw [if_pos h, if_pos h]
    · rw [if_neg h, if_neg h]
section
variable {H H' : Hp} {D : Ends} {σ : L2.St}
/-- return [c], behind changes -/
theorem ret_W {F : Addr → Prop} {CI p : Addr} {z : Instance × Su196.Result} {c : Int} {Q : VK} {te : TE} (fr : Fr F H) (k : RetW F CI p z H Q) (e : Keep F H H') (hi : InstF F CI H' p z.1) (hx : res z.2 = [c]) (h : Ev te σ H' (.int c)) (hD : D.rt = Q) : tRet (tLst (tCons te tNil)) D σ H' := by
  subst hD
  refine Evl.s_retL (Evl.el_lst (Evl.ea_cons h Evl.ea_nil) (by show 1 ≤ 100000; decide)) fun q H2 hq e2 h2 => k q H2 (fr.keep e q hq) (e.trans (Keep.of e2)) (hi.mono e2) ?_
  rw [hx]
  exact h2
theorem ret_B {F : Addr → Prop} {CW CI pw : Addr} {z : Option Instance × Su196.Result} {c : Int} {Q : VK} {te : TE} (fr : Fr F H) (k : RetB F CW CI pw z H Q) (e : Keep (fun x => F x ∨ x = pw) H H') (hi : WbF F CW CI H' pw z.1) (hx : res z.2 = [c]) (h : Ev te σ H' (.int c)) (hD : D.rt = Q) : tRet (tLst (tCons te tNil)) D σ H' := by
  subst hD
  refine Evl.s_retL (Evl.el_lst (Evl.ea_cons h Evl.ea_nil) (by show 1 ≤ 100000; decide)) fun q H2 hq e2 h2 => k q H2 ?_ (e.trans (Keep.of e2)) (hi.mono e2) ?_
  · have g : Fr (fun x => F x ∨ x = pw) H := fun x hx => Or.inl (fr x hx)
    rcases g.keep e q hq with f | f
    · exact f
    · obtain ⟨dx, v, h1, _⟩ := hi.ex
      rw [f, h1] at hq
      cases hq
  · rw [hx]
    exact h2
end
theorem ev_ac1 {K : PySem.W.Frag} {mg : Str → Option Value} {CW CI aS : Addr} {σ : L2.St} {H : Hp} {p : Addr} {a : Instance} {to : TE} (T : Txt K mg CW CI aS) (h : Inst CI H p a) (ho : Ev to σ H (.ref p)) : Ev (tFld K to "agent_count") σ H (nV a.agentCount) := ev_ac T h ho
theorem addW (n m : Nat) : V.int ((n : Int) + (m : Int)) = nV (n + m) := congrArg V.int (Int.natCast_add _ _).symm
theorem put1 (v : V) : putF "agent_count" v [] = ([("agent_count", v)] : List (Str × V)) := rfl
theorem put2 (v w : V) : putF "alternative_count" w ([("agent_count", v)] : List (Str × V)) = ([("agent_count", v), ("alternative_count", w)] : List (Str × V)) := (put_past (by decide +kernel)).trans rfl
theorem put3 (v w x : V) : putF "valuations" x ([("agent_count", v), ("alternative_count", w)] : List (Str × V)) = ([("agent_count", v), ("alternative_count", w), ("valuations", x)] : List (Str × V)) := (put_past (by decide +kernel)).trans (congrArg _ ((put_past (by decide +kernel)).trans rfl))
theorem put4 (v w x y : V) : putF "allocation" y ([("agent_count", v), ("alternative_count", w), ("valuations", x)] : List (Str × V)) = ([("agent_count", v), ("alternative_count", w), ("valuations", x), ("allocation", y)] : List (Str × V)) := (put_past (by decide +kernel)).trans (congrArg _ ((put_past (by decide +kernel)).trans (congrArg _ ((put_past (by decide +kernel)).trans rfl))))
theorem put_in (v w : V) : putF "instance" w ([("instance", v)] : List (Str × V)) = ([("instance", w)] : List (Str × V)) := put_here

abbrev s_Workbench_init : Stmt := inClass (topS 1) 0
theorem sc_Workbench_init : FnScope ["self"] ["self"] (defScope s_Workbench_init) := ⟨rfl, rfl, rfl, by decide +kernel, rfl, by decide +kernel, by decide +kernel⟩
theorem ok_Workbench_init {f : Addr} {fd : FuncData} (F : Fun K "__init__" "Workbench.__init__" s_Workbench_init f fd) (T : Txt K mg CW CI aS) : FnOk P w K mg base CX0 1 f fd ["self"] (sp_Workbench CW) := by
  have nd := sc_Workbench_init.nd
  refine F.ok sc_Workbench_init (fun vs H Q E h => ?_) (fun cdv A outer s H vs Q E hr h => ⟨_, (pss_one (ps_fld (pv 0) pe_non rfl)), ?_⟩)
  · obtain ⟨x, dx, rfl, hx, k⟩ := h
    rfl
  · obtain ⟨x, dx, rfl, hx, k⟩ := h
    exact s_fldV Evl.ev_c (Evl.ev_var rfl) hx T.clW T.nW (by show 0 < 1000; decide) fun H1 e1 => k _ (Keep.ex e1 rfl) upd_same

abbrev s_Instance_init : Stmt := inClass (topS 2) 0
theorem sc_Instance_init : FnScope ["self", "agent_count", "alternative_count", "agent"] ["self", "agent_count", "alternative_count"] (defScope s_Instance_init) := ⟨rfl, rfl, rfl, by decide +kernel, rfl, by decide +kernel, by decide +kernel⟩
theorem ok_Instance_init {f : Addr} {fd : FuncData} (F : Fun K "__init__" "Instance.__init__" s_Instance_init f fd) (T : Txt K mg CW CI aS) : FnOk P w K mg base CX0 1 f fd ["self", "agent_count", "alternative_count"] (sp_Instance CI) := by
  have nd := sc_Instance_init.nd
  refine F.ok sc_Instance_init (fun vs H Q E h => ?_) (fun cdv A outer s H vs Q E hr h => ⟨_, (pss_cons (ps_fld (pv 0) (pv 1) rfl)
  (pss_cons (ps_fld (pv 0) (pv 2) rfl)
  (pss_cons (ps_fld (pv 0) (pe_lc (own := [("agent", 3)]) rfl nd (pi_range1 (by rfl) T.b_range (pa_cons (pv 1) pa_nil)) (blkOk_by (N := ["self", "agent_count", "alternative_count", "agent"]) (sc := defScope s_Instance_init) (by decide +kernel)) (fun _ _ _ _ _ => (pg_name (i := 3) nd rfl (Or.inl rfl))) (fun _ _ _ _ _ => pts_nil) (fun _ _ _ _ _ => (pe_lst pa_nil))) rfl)
  (pss_one (ps_fld (pv 0) (pe_lst pa_nil) rfl))))), ?_⟩)
  · obtain ⟨x, dx, n, m, rfl, hx, h1, h2, h3, h4, k⟩ := h
    rfl
  · obtain ⟨x, dx, n, m, rfl, hx, h1, h2, h3, h4, k⟩ := h
    refine q_fldV (Evl.ev_var rfl) (Evl.ev_var rfl) hx T.cl T.nAC (by show 0 < 1000; decide) fun H1 e1 => ?_
    rw [put1]
    have k1 : Keep (fun y => y = x) H (upd H1 x (.ins CI dx [("agent_count", nV n)])) := Keep.ex e1 rfl
    refine q_fldV (Evl.ev_var rfl) (Evl.ev_var rfl) upd_same T.cl T.nLC (by show 1 < 1000; decide) fun H2 e2 => ?_
    rw [put2]
    have k2 : Keep (fun y => y = x) H (upd H2 x (.ins CI dx [("agent_count", nV n), ("alternative_count", nV m)])) := k1.trans (Keep.ex e2 rfl)
    have h2x : upd H2 x (.ins CI dx [("agent_count", nV n), ("alternative_count", nV m)]) x = some (.ins CI dx [("agent_count", nV n), ("alternative_count", nV m)]) := upd_same
    generalize hH2 : upd H2 x (.ins CI dx [("agent_count", nV n), ("alternative_count", nV m)]) = H2' at k2 h2x
    refine q_fldR ?_
    refine elld_lcR1 (n := n) [] (Evl.ea_cons (Evl.ev_var rfl) Evl.ea_nil) (by omega) (fun _ => rfl) (fun i H3 e3 => et_yes) (fun i H3 e3 => Evl.el_lst Evl.ea_nil (by show 0 ≤ 100000; decide)) fun lv ps H3 nw pd => ?_
    obtain ⟨w1, w2, w3, w4, w5⟩ := nw
    refine contF_at (Evl.ev_var rfl) (w2 _ _ h2x) T.cl T.nVal (by show 2 < 1000; decide) fun H3' e3' => ?_
    rw [put3]
    have w2 := w2.trans e3'
    have w3 := e3' _ _ w3
    have w5 : ∀ (k : Nat) q ys, ps[k]? = some q → (List.replicate n ([] : List V))[k]? = some ys → H2' q = none ∧ q ≠ lv ∧ H3' q = some (.lst ys) := fun k q ys a b => ⟨(w5 k q ys a b).1, (w5 k q ys a b).2.1, e3' _ _ (w5 k q ys a b).2.2⟩
    clear e3'
    generalize H3' = H3 at w2 w3 w5
    have lx : lv ≠ x := ne_new h2x w1
    refine s_fldL (xs := []) (Evl.el_lst Evl.ea_nil (by show 0 ≤ 100000; decide)) (Evl.ev_var rfl) upd_same T.cl T.nAll (by show 3 < 1000; decide) fun la H4 hla e4 hl4 => ?_
    rw [put4]
    have k3 : Keep (fun y => y = x) H (upd H3 x (.ins CI dx [("agent_count", nV n), ("alternative_count", nV m), ("valuations", .ref lv)])) := (k2.trans (Keep.of w2)).trans (Keep.upd rfl)
    have frH : ∀ y, H2' y = none → H y = none := fun y hy => by
      cases e : H y with
      | none => rfl
      | some o =>
        have yx : y ≠ x := ne_new h2x hy
        rw [k2 y o e yx] at hy
        cases hy
    have ax : la ≠ x := ne_new upd_same hla
    have hla3 : H3 la = none := by
      rw [upd_ne ax] at hla
      exact hla
    have alv : la ≠ lv := ne_new w3 hla3
    have hps : ∀ (i : Nat) q, ps[i]? = some q → H2' q = none ∧ q ≠ lv ∧ H3 q = some (.lst []) := fun i q hq => by
      have hi := (List.getElem?_eq_some_iff.mp hq).1
      rw [w4, List.length_replicate] at hi
      exact w5 i q [] hq (by rw [List.getElem?_replicate, if_pos hi])
    let g : InstG := ⟨dx, la, lv, ps.map fun q => (q, [])⟩
    have look : ∀ (i : Nat) kk, g.ks[i]? = some kk → ∃ q, ps[i]? = some q ∧ kk = (q, []) := fun i kk hk => by
      have hk : (ps.map fun q => (q, ([] : List Addr)))[i]? = some kk := hk
      rw [List.getElem?_map] at hk
      cases e : ps[i]? with
      | none =>
        rw [e] at hk
        cases hk
      | some q =>
        rw [e] at hk
        exact ⟨q, rfl, (Option.some.inj hk).symm⟩
    have up : ∀ {y : Addr} {o : HO}, y ≠ x → H3 y = some o → upd H4 x (.ins CI dx (fsI n m lv la)) y = some o := fun {y o} n h => by
      rw [upd_ne n]
      refine e4 _ _ ?_
      rw [upd_ne n]
      exact h
    refine k _ g (k3.trans (Keep.ex e4 rfl)) ⟨⟨wf_create h1 h2 h3 h4, upd_same, up lx ?_, ?_, fun i kk ty hk ht => ?_⟩, LN.upd ax hl4, ⟨?_, ?_, ?_⟩, ⟨alv, ?_, ?_⟩⟩ (frH _ (Evl.fresh_back w2 hla3)) ?_ (frH _ w1) ?_
    · rw [w3]
      show some (HO.lst (ps.map V.ref)) = some (.lst ((ps.map fun q => (q, ([] : List Addr))).map fun k => V.ref k.1))
      rw [List.map_map]
      rfl
    · show (ps.map _).length = (List.replicate n _).length
      rw [List.length_map, w4, List.length_replicate, List.length_replicate]
    · obtain ⟨q, hq, rfl⟩ := look i kk hk
      obtain ⟨z1, z2, z3⟩ := hps i q hq
      have ht2 : ty = [] := List.eq_of_mem_replicate (List.mem_of_getElem? ht)
      subst ht2
      refine ⟨up (ne_new h2x z1) z3, rfl, fun j q' vs' a b => by simp at a⟩
    · intro i kk hk
      obtain ⟨q, hq, rfl⟩ := look i kk hk
      exact (hps i q hq).2.1
    · intro i j kk kk' hk hk' nij z
      obtain ⟨q, hq, rfl⟩ := look i kk hk
      obtain ⟨q', hq', rfl⟩ := look j kk' hk'
      have z : q = q' := z
      subst z
      exact nij (pd i j q hq hq')
    · intro i kk j q0 hk hq0
      obtain ⟨q, hq, rfl⟩ := look i kk hk
      simp at hq0
    · intro i kk hk
      obtain ⟨q, hq, rfl⟩ := look i kk hk
      exact fun z => ne_new (hps i q hq).2.2 hla3 z.symm
    · intro i kk j q0 hk hq0
      obtain ⟨q, hq, rfl⟩ := look i kk hk
      simp at hq0
    · intro i kk hk
      obtain ⟨q, hq, rfl⟩ := look i kk hk
      exact frH _ (hps i q hq).1
    · intro i kk j q0 hk hq0
      obtain ⟨q, hq, rfl⟩ := look i kk hk
      simp at hq0

abbrev s_m_append_kind : Stmt := inClass (topS 2) 13
theorem sc_m_append_kind : FnScope ["self", "agent", "valuation", "profile"] ["self", "agent", "valuation"] (defScope s_m_append_kind) := ⟨rfl, rfl, rfl, by decide +kernel, rfl, by decide +kernel, by decide +kernel⟩
theorem ok_m_append_kind {f : Addr} {fd : FuncData} (F : Fun K "append_kind" "Instance.append_kind" s_m_append_kind f fd) (T : Txt K mg CW CI aS) (G_m_profiles : C8.Met P w K mg base 1 CI "profiles" (sp_profiles CI) []) : FnOk P w K mg base CX0 2 f fd ["self", "agent", "valuation"] (sp_append_kind CI) := by
  have nd := sc_m_append_kind.nd
  refine F.ok sc_m_append_kind (fun vs H Q E h => ?_) (fun cdv A outer s H vs Q E hr h => ⟨_, (pss_cons (ps_expr (pe_bm PySem.F.plainAttrs_list PySem.F.slot_list_append PySem.F.type_list_append mt_append (pe_ix (ixL (K := K) rfl) (pe_fld (pv 0) rfl) (pv 1) (fun _ _ => rfl)) (pa_cons (pe_callTy (call_list1 (K := K) rfl) (by rfl) T.b_list (by decide +kernel) (pa_cons (pv 2) pa_nil)) pa_nil)))
  (pss_one (ps_fld (pv 0) (pe_lc (own := [("profile", 3)]) rfl nd (pi_list (C8.pe_mt0 G_m_profiles hr (by decide) (pv 0))) (blkOk_by (N := ["self", "agent", "valuation", "profile"]) (sc := defScope s_m_append_kind) (by decide +kernel)) (fun _ _ _ _ _ => (pg_name (i := 3) nd rfl (Or.inl rfl))) (fun _ _ _ _ _ => pts_nil) (fun _ _ _ _ _ => pe_int)) rfl))), ?_⟩)
  · obtain ⟨F, p, i, q, a, us, rfl, hW, hi, hq, wf2, hul, k⟩ := h
    rfl
  · obtain ⟨F, p, i, q, a, us, rfl, hW, hi, hq, wf2, hul, k⟩ := h
    obtain ⟨⟨g, hI, f1, f2, f3, f4, f5⟩, fr⟩ := hW
    have hc4 := count_le hI.wf i
    obtain ⟨kk, g1, g2, g3, g4⟩ := hI.kind hi
    refine Evl.q_appL (xs := kk.2.map V.ref) (ys := us.map V.int) g2 (ev_valuations_at T hI g1 (Evl.ev_var rfl) (Evl.ev_var rfl)) (Evl.el_list (Evl.ev_var rfl) (Evl.sq_of hq)) ?_ fun c H1 hc e1 hl => ?_
    · rw [List.length_map, g3]
      omega
    obtain ⟨hV, sK⟩ := inst_add hI g1 hi hc e1 hl wf2
    have k1 : Keep F H (upd H1 kk.1 (.lst (kk.2.map V.ref ++ [.ref c]))) := Keep.ex e1 (f3 i kk g1)
    generalize upd H1 kk.1 (.lst (kk.2.map V.ref ++ [.ref c])) = H2 at hV k1
    have wfl := prof_le wf2
    refine s_fldL (xs := ((addT a i us).allocation).map nV) (el_lcP (ep_mV hV (fun _ _ _ _ => fs_profiles) (Evl.ev_var rfl) Evl.ea_nil (v_profilesV hV)) (fun _ => rfl) fun v H3 e3 b => ?_) (Evl.ev_var rfl) hV.ob T.cl T.nAll (by show 4 < 1000; decide) fun la H3 hla e3 hl3 => ?_
    · obtain ⟨qp, rfl, hqp⟩ := b H3 (Ex.refl _)
      obtain ⟨ps, p1, p2, p3⟩ := hqp
      refine ⟨qp, ps.map V.ref, fun _ => true, fun _ => .int 0, rfl, p1, ?_, fun _ _ _ => et_yes, fun _ _ _ _ => Evl.ev_c, ?_⟩
      · rw [List.length_map, p2]
        omega
      · rw [given_all, List.length_map, p2]
        show _ = (List.replicate _ 0).map nV
        rw [List.map_replicate, List.map_const', List.length_range]
        rfl
    · rw [put_al]
      have hI3 := inst_put (al := (addT a i us).allocation) hV sK hla e3 hl3 wf2
      have look : ∀ (j : Nat) k', (g.ks.set i (kk.1, kk.2 ++ [c]))[j]? = some k' → (i = j ∧ k' = (kk.1, kk.2 ++ [c])) ∨ g.ks[j]? = some k' := fun j k' hk' => by
        by_cases cc : i = j
        · subst cc
          rw [List.getElem?_set_self (List.getElem?_eq_some_iff.mp g1).1] at hk'
          exact Or.inl ⟨rfl, (Option.some.inj hk').symm⟩
        · rw [List.getElem?_set_ne cc] at hk'
          exact Or.inr hk'
      refine k _ _ (k1.trans (Keep.ex e3 f1)) ⟨_, hI3, f1, (fr.keep k1) la hla, fun j k' hk' => ?_, f4, fun j k' j2 q2 hk' hq2 => ?_⟩
      · rcases look j k' hk' with ⟨_, z⟩ | z
        · rw [z]
          exact f3 i kk g1
        · exact f3 j k' z
      · rcases look j k' hk' with ⟨_, z⟩ | z
        · rw [z] at hq2
          have hq2 : (kk.2 ++ [c])[j2]? = some q2 := hq2
          by_cases d : j2 < kk.2.length
          · rw [List.getElem?_append_left d] at hq2
            exact f5 i kk j2 q2 g1 hq2
          · rw [List.getElem?_append_right (by omega)] at hq2
            have h2 : q2 = c := by simpa using List.mem_of_getElem? hq2
            rw [h2]
            exact fr c hc
        · exact f5 j k' j2 q2 z hq2

abbrev s_allocate_best : Stmt := topS 23
theorem sc_allocate_best : FnScope ["instance", "weights", "boosts", "profile"] ["instance", "weights", "boosts"] (defScope s_allocate_best) := ⟨rfl, rfl, rfl, by decide +kernel, rfl, by decide +kernel, by decide +kernel⟩
theorem ok_allocate_best {f : Addr} {fd : FuncData} (F : Fun K "allocate_best" "allocate_best" s_allocate_best f fd) (T : Txt K mg CW CI aS) (G_best_alternative : C8.Cal P w K mg base 4 "best_alternative" (sp_best_alternative CI) []) (G_m_profiles : C8.Met P w K mg base 1 CI "profiles" (sp_profiles CI) []) : FnOk P w K mg base CX0 5 f fd ["instance", "weights", "boosts"] (sp_allocate_best CI) := by
  have nd := sc_allocate_best.nd
  refine F.ok sc_allocate_best (fun vs H Q E h => ?_) (fun cdv A outer s H vs Q E hr h => ⟨_, (pss_one (ps_fld (pv 0) (pe_lc (own := [("profile", 3)]) rfl nd (pi_list (C8.pe_mt0 G_m_profiles hr (by decide) (pv 0))) (blkOk_by (N := ["instance", "weights", "boosts", "profile"]) (sc := defScope s_allocate_best) (by decide +kernel)) (fun _ _ _ _ _ => (pg_name (i := 3) nd rfl (Or.inl rfl))) (fun _ _ _ _ _ => pts_nil) (fun _ _ _ _ _ => (C8.pe_c G_best_alternative hr (by decide) rfl (pa_cons (pv 0) (pa_cons (pv 1) (pa_cons (pv 2) (pa_cons (pv 3) pa_nil))))))) rfl)), ?_⟩)
  · obtain ⟨F, p, ww, b, a, ws, bs, rfl, hW, hw, hwl, hwb, hb, hbl, k⟩ := h
    rfl
  · obtain ⟨F, p, ww, b, a, ws, bs, rfl, hW, hw, hwl, hwb, hb, hbl, k⟩ := h
    obtain ⟨⟨g, hI, f1, f2, f3, f4, f5⟩, fr⟩ := hW
    have wf := hI.wf
    have wfl := prof_le wf
    have hI0 : Inst CI H p a := ⟨g, hI⟩
    refine s_fldL (xs := ((ruleS a ws bs).allocation).map nV) (el_lcP (ep_m hI0 (fun _ _ _ _ => fs_profiles) (Evl.ev_var rfl) Evl.ea_nil (v_profiles hI0)) (fun _ => rfl) fun v H3 e3 bx => ?_) (Evl.ev_var rfl) hI.ob T.cl T.nAll (by show 4 < 1000; decide) fun la H3 hla e3 hl3 => ?_
    · obtain ⟨qp, rfl, hqp⟩ := bx H3 (Ex.refl _)
      obtain ⟨ps, p1, p2, p3⟩ := hqp
      refine ⟨qp, ps.map V.ref, fun _ => true, fun j => nV (Su196.argmax a.alternatives (scoreS a ws bs (a.profiles.getD j []))), rfl, p1, ?_, fun _ _ _ => et_yes, fun j x hx _ => ?_, ?_⟩
      · rw [List.length_map, p2]
        omega
      · obtain ⟨qt, d1, rfl⟩ := map_at' hx
        have hj : j < a.profiles.length := by
          rw [← p2]
          exact (List.getElem?_eq_some_iff.mp d1).1
        have d2 : a.profiles[j]? = some (a.profiles.getD j []) := at_getD [] hj
        have hp := prof_mem wf (List.mem_of_getElem? d2)
        have d3 := p3 j qt _ d1 d2
        exact ev_call (Evl.ea_cons (Evl.ev_var rfl) (Evl.ea_cons (Evl.ev_var rfl) (Evl.ea_cons (Evl.ev_var rfl) (Evl.ea_cons (Evl.ev_var rfl) Evl.ea_nil)))) (v_best ⟨hI0.mono e3, hw.mono e3, hwl, hwb, hb.mono e3, hbl, d3, hp⟩)
      · rw [given_all, List.length_map, p2]
        show _ = (a.profiles.map fun t => Su196.argmax a.alternatives (scoreS a ws bs t)).map nV
        rw [List.map_map]
        apply List.ext_getElem?
        intro j
        by_cases c : j < a.profiles.length
        · rw [List.getElem?_map, List.getElem?_range c, List.getElem?_map, at_getD [] c]
          rfl
        · rw [List.getElem?_eq_none (by simp; omega), List.getElem?_eq_none (by simp; omega)]
    · rw [put_al]
      have hI3 := inst_put (al := (ruleS a ws bs).allocation) hI.toInstV hI.sk hla e3 hl3 (wf_ruleS wf ws bs)
      exact k _ _ (Keep.ex e3 f1) ⟨_, hI3, f1, fr la hla, f3, f4, f5⟩

abbrev s_create : Stmt := topS 27
theorem sc_create : FnScope ["workbench", "agent_count", "alternative_count"] ["workbench", "agent_count", "alternative_count"] (defScope s_create) := ⟨rfl, rfl, rfl, by decide +kernel, rfl, by decide +kernel, by decide +kernel⟩
theorem ok_create {f : Addr} {fd : FuncData} (F : Fun K "create" "create" s_create f fd) (T : Txt K mg CW CI aS) (G_Instance : C8.Mak P w K mg base 1 "Instance" CI (sp_Instance CI) []) : FnOk P w K mg base CX0 3 f fd ["workbench", "agent_count", "alternative_count"] (sp_create CW CI) := by
  have nd := sc_create.nd
  refine F.ok sc_create (fun vs H Q E h => ?_) (fun cdv A outer s H vs Q E hr h => ⟨_, (pss_cons (ps_if (pt_not (pt_chain opLe opLe (C8.pe_gc rfl T.g_FEWEST_AGENTS) (pv 1) (C8.pe_gc rfl T.g_MOST_AGENTS)))
   (pss_one (ps_ret (pe_lst (pa_cons (C8.pe_gc rfl T.g_INVALID) pa_nil)))) pss_nil)
  (pss_cons (ps_if (pt_not (pt_chain opLe opLe (C8.pe_gc rfl T.g_FEWEST_ALTERNATIVES) (pv 2) (C8.pe_gc rfl T.g_MOST_ALTERNATIVES)))
   (pss_one (ps_ret (pe_lst (pa_cons (C8.pe_gc rfl T.g_INVALID) pa_nil)))) pss_nil)
  (pss_cons (ps_fld (pv 0) (C8.pe_mk G_Instance hr (by decide) rfl (pa_cons (pv 1) (pa_cons (pv 2) pa_nil))) rfl)
  (pss_one (ps_ret (pe_lst (pa_cons pe_int pa_nil))))))), ?_⟩)
  · obtain ⟨F, pw, s, n, m, rfl, hW, fr, npw, k⟩ := h
    rfl
  · obtain ⟨F, pw, s, n, m, rfl, hW, fr, npw, k⟩ := h
    rw [step_create] at k
    refine Evl.q_when (Evl.et_not (Evl.et_test (ev_chainLL Evl.ev_c (Evl.ev_var rfl) Evl.ev_c))) (fun hb H1 e1 => ?_) (fun hb H1 e1 => ?_)
    · rw [if_neg (fun z => by simp at hb; omega)] at k
      exact ret_B fr k (Keep.of e1) (hW.mono e1) rfl Evl.ev_c rfl
    have hn : 1 ≤ n ∧ n ≤ 3 := by
      simp at hb
      omega
    refine Evl.q_when (Evl.et_not (Evl.et_test (ev_chainLL Evl.ev_c (Evl.ev_var rfl) Evl.ev_c))) (fun hb2 H2 e2 => ?_) (fun hb2 H2 e2 => ?_)
    · rw [if_neg (fun z => by simp at hb2; omega)] at k
      exact ret_B fr k (Keep.of (e1.trans e2)) (hW.mono (e1.trans e2)) rfl Evl.ev_c rfl
    have hm : 2 ≤ m ∧ m ≤ 4 := by
      simp at hb2
      omega
    rw [if_pos ⟨hn.1, hn.2, hm.1, hm.2⟩] at k
    have e12 := e1.trans e2
    obtain ⟨dx, v, h1, h2⟩ := (hW.mono e12).ex
    have fr2 := fr.ex e12
    refine q_fldR (t_make (Evl.ea_cons (Evl.ev_var rfl) (Evl.ea_cons (Evl.ev_var rfl) Evl.ea_nil)) fun H3 e3 x dx' hx hdx hne => ?_)
    have e4 : Ex H3 (upd (upd H3 dx' (.own x)) x (.ins CI dx' [])) := by
      refine (Ex.new hdx).trans (Ex.new ?_)
      rw [upd_ne fun z => hne z.symm]
      exact hx
    refine ⟨x, dx', n, m, rfl, upd_same, hn.1, hn.2, hm.1, hm.2, fun H5 g k5 hI5 hla hks hlv hqs => ⟨rfl, ?_⟩⟩
    have fr4 := (fr2.ex e3).ex e4
    have hpw3 : H3 pw = some (.ins CW dx [("instance", v)]) := e3 _ _ h1
    have xpw : x ≠ pw := ne_new hpw3 hx
    have hpw5 : H5 pw = some (.ins CW dx [("instance", v)]) := k5 _ _ (e4 _ _ hpw3) (fun z => xpw z.symm)
    refine contF_at (Evl.ev_var rfl) hpw5 T.clW T.nW (by show 1 < 1000; decide) fun H6 e6 => ?_
    rw [put_in]
    have fx : F x := (fr2.ex e3) x hx
    have kk : Keep (fun y => F y ∨ y = pw) H (upd H6 pw (.ins CW dx [("instance", .ref x)])) := by
      refine ((Keep.of ((e12.trans e3).trans e4)).trans (k5.weak fun y hy => Or.inl (hy ▸ fx))).trans (Keep.ex e6 (Or.inr rfl))
    have hF6 : InstF F CI H6 x (Su196.create n m) := ⟨g, hI5.mono e6, fx, fr4 _ hla, fun i kq hk => fr4 _ (hks i kq hk), fr4 _ hlv, fun i kq j q hk hq => fr4 _ (hqs i kq j q hk hq)⟩
    have hF7 : InstF F CI (upd H6 pw (.ins CW dx [("instance", .ref x)])) x (Su196.create n m) := hF6.keepF fun y o fy hy => by
      rw [upd_ne fun z => npw (by rw [← z]; exact fy)]
      exact hy
    exact ret_B fr k kk ⟨dx, _, upd_same, x, rfl, hF7⟩ rfl Evl.ev_c rfl

abbrev s_add_kind : Stmt := topS 28
theorem sc_add_kind : FnScope ["instance", "agent", "valuation", "number"] ["instance", "agent", "valuation"] (defScope s_add_kind) := ⟨rfl, rfl, rfl, by decide +kernel, rfl, by decide +kernel, by decide +kernel⟩
theorem ok_add_kind {f : Addr} {fd : FuncData} (F : Fun K "add_kind" "add_kind" s_add_kind f fd) (T : Txt K mg CW CI aS) (G_fits : C8.Cal P w K mg base 1 "fits" sp_fits []) (G_m_append_kind : C8.Met P w K mg base 2 CI "append_kind" (sp_append_kind CI) []) (G_m_has_agent : C8.Met P w K mg base 1 CI "has_agent" (sp_has_agent CI) []) (G_m_kind_count : C8.Met P w K mg base 1 CI "kind_count" (sp_kind_count CI) []) : FnOk P w K mg base CX0 3 f fd ["instance", "agent", "valuation"] (sp_add_kind CI) := by
  have nd := sc_add_kind.nd
  refine F.ok sc_add_kind (fun vs H Q E h => ?_) (fun cdv A outer s H vs Q E hr h => ⟨_, (pss_cons (ps_if (pt_not (pt_val (C8.pe_mt G_m_has_agent hr (by decide) (pv 0) (by exact (pa_cons (pv 1) pa_nil)))))
   (pss_one (ps_ret (pe_lst (pa_cons (C8.pe_gc rfl T.g_NO_SUCH_MEMBER) pa_nil)))) pss_nil)
  (pss_cons (ps_if (pt_not (pt_val (C8.pe_c G_fits hr (by decide) rfl (pa_cons (pv 2) (pa_cons (pe_fld (pv 0) rfl) (pa_cons (C8.pe_gc rfl T.g_GREATEST_VALUE) pa_nil))))))
   (pss_one (ps_ret (pe_lst (pa_cons (C8.pe_gc rfl T.g_INVALID) pa_nil)))) pss_nil)
  (pss_cons (ps_set (i := 3) nd rfl (Or.inl rfl) (C8.pe_mt G_m_kind_count hr (by decide) (pv 0) (by exact (pa_cons (pv 1) pa_nil))))
  (pss_cons (ps_if (pt_cmpR opGe (pv 3) (C8.pe_gc rfl T.g_MOST_KINDS) (nomark _))
   (pss_one (ps_ret (pe_lst (pa_cons (C8.pe_gc rfl T.g_TOO_MANY_KINDS) pa_nil)))) pss_nil)
  (pss_cons (ps_expr (C8.pe_mt G_m_append_kind hr (by decide) (pv 0) (by exact (pa_cons (pv 1) (pa_cons (pv 2) pa_nil)))))
  (pss_one (ps_ret (pe_lst (pa_cons (pv 3) pa_nil))))))))), ?_⟩)
  · obtain ⟨F, p, i, q, a, us, rfl, hW, hq, hl, k⟩ := h
    rfl
  · obtain ⟨F, p, i, q, a, us, rfl, hW, hq, hl, k⟩ := h
    rw [x_add] at k
    have hI := hW.inst.inst
    have wf := hI.wf
    refine Evl.q_when (Evl.et_not (Evl.et_B (ev_m hI (fun _ _ _ _ => fs_has_agent) (Evl.ev_var rfl) (Evl.ea_cons (Evl.ev_var rfl) Evl.ea_nil) (v_has_agent hI)))) (fun hb H1 e1 => ?_) (fun hb H1 e1 => ?_)
    · rw [if_neg (of_decide_eq_false (not_t hb))] at k
      exact ret_W hW.fr k (Keep.of e1) (hW.inst.mono e1) rfl Evl.ev_c rfl
    have hi : i < a.agentCount := of_decide_eq_true (not_f hb)
    rw [if_pos hi] at k
    have hI1 := hI.mono e1
    refine Evl.q_when (Evl.et_not (Evl.et_B (ev_call (Evl.ea_cons (Evl.ev_var rfl) (Evl.ea_cons (ev_lc T hI1 (Evl.ev_var rfl)) (Evl.ea_cons Evl.ev_c Evl.ea_nil))) (v_fits (hq.mono e1) hl)))) (fun hb H2 e2 => ?_) (fun hb H2 e2 => ?_)
    · rw [if_neg (by rw [not_t hb]; decide)] at k
      exact ret_W hW.fr k (Keep.of (e1.trans e2)) (hW.inst.mono (e1.trans e2)) rfl Evl.ev_c rfl
    rw [if_pos (not_f hb)] at k
    obtain ⟨y1, y2, _⟩ := fits_yes (not_f hb)
    have hI2 := hI1.mono e2
    refine Evl.q_asg (ev_m hI2 (fun _ _ _ _ => fs_kind_count) (Evl.ev_var rfl) (Evl.ea_cons (Evl.ev_var rfl) Evl.ea_nil) (v_kind_count hI2 hi)) fun H3 e3 => ?_
    refine Evl.q_when (Evl.et_test (ev_ge (Evl.ev_var rfl) Evl.ev_c)) (fun hb H4 e4 => ?_) (fun hb H4 e4 => ?_)
    · have := of_decide_eq_true hb
      rw [if_pos (by omega)] at k
      exact ret_W hW.fr k (Keep.of (((e1.trans e2).trans e3).trans e4)) (hW.inst.mono (((e1.trans e2).trans e3).trans e4)) rfl Evl.ev_c rfl
    have hc := of_decide_eq_false hb
    rw [if_neg (by omega)] at k
    have e14 := ((e1.trans e2).trans e3).trans e4
    obtain ⟨g, hg, _⟩ := (hW.inst.mono e14).ex
    refine q_dropM (Evl.ev_var rfl) hg.ob fs_append_kind (eap_of (Evl.ea_cons (Evl.ev_var rfl) (Evl.ea_cons (Evl.ev_var rfl) Evl.ea_nil))) ?_
    rintro vs H5 e5 rfl
    refine ⟨F, p, i, q, a, us, rfl, (hW.mono e14).mono e5, hi, hq.mono (e14.trans e5), wf_addT wf hi (by omega) y1 y2, hl, fun v H6 k6 hI6 => ?_⟩
    exact ret_W hW.fr k ((Keep.of (e14.trans e5)).trans k6) hI6 rfl (Evl.ev_var rfl) rfl

abbrev s_set_allocation : Stmt := topS 29
theorem sc_set_allocation : FnScope ["instance", "alternative", "profile", "former"] ["instance", "alternative", "profile"] (defScope s_set_allocation) := ⟨rfl, rfl, rfl, by decide +kernel, rfl, by decide +kernel, by decide +kernel⟩
theorem ok_set_allocation {f : Addr} {fd : FuncData} (F : Fun K "set_allocation" "set_allocation" s_set_allocation f fd) (T : Txt K mg CW CI aS) (G_m_allocated : C8.Met P w K mg base 2 CI "allocated" (sp_allocated CI) []) (G_m_has_alternative : C8.Met P w K mg base 1 CI "has_alternative" (sp_has_alternative CI) []) (G_m_is_profile : C8.Met P w K mg base 3 CI "is_profile" (sp_is_profile CI) []) (G_m_place : C8.Met P w K mg base 1 CI "place" (sp_place CI) []) : FnOk P w K mg base CX0 4 f fd ["instance", "alternative", "profile"] (sp_set_allocation CI) := by
  have nd := sc_set_allocation.nd
  refine F.ok sc_set_allocation (fun vs H Q E h => ?_) (fun cdv A outer s H vs Q E hr h => ⟨_, (pss_cons (ps_if (PW.pt (pw_or (pt_not (pt_val (C8.pe_mt G_m_has_alternative hr (by decide) (pv 0) (by exact (pa_cons (pv 1) pa_nil))))) (pw_or1 (pt_not (pt_val (C8.pe_mt G_m_is_profile hr (by decide) (pv 0) (by exact (pa_cons (pv 2) pa_nil))))))))
   (pss_one (ps_ret (pe_lst (pa_cons (C8.pe_gc rfl T.g_INVALID) pa_nil)))) pss_nil)
  (pss_cons (ps_set (i := 3) nd rfl (Or.inl rfl) (C8.pe_mt G_m_allocated hr (by decide) (pv 0) (by exact (pa_cons (pv 2) pa_nil))))
  (pss_cons (ps_asg (pv 1) (pg_sub (pe_fld (pv 0) rfl) (C8.pe_mt G_m_place hr (by decide) (pv 0) (by exact (pa_cons (pv 2) pa_nil))) set_list))
  (pss_one (ps_ret (pe_lst (pa_cons (pv 3) pa_nil))))))), ?_⟩)
  · obtain ⟨F, p, x, q, a, t, rfl, hW, hr, hq, hl, k⟩ := h
    rfl
  · obtain ⟨F, p, x, q, a, t, rfl, hW, hr, hq, hl, k⟩ := h
    rw [x_set hr] at k
    have hI := hW.inst.inst
    have wf := hI.wf
    refine Evl.q_when (Evl.et_or (Evl.et_not (Evl.et_B (ev_m hI (fun _ _ _ _ => fs_has_alternative) (Evl.ev_var rfl) (Evl.ea_cons (Evl.ev_var rfl) Evl.ea_nil) (v_has_alternative hI)))) fun _ => Evl.et_not (Evl.et_B (ev_m hI (fun _ _ _ _ => fs_is_profile) (Evl.ev_var rfl) (Evl.ea_cons (Evl.ev_var rfl) Evl.ea_nil) (v_is_profile hI hq hl)))) (fun hb H1 e1 => ?_) (fun hb H1 e1 => ?_)
    · rw [if_neg (fun z => by rw [decide_eq_true z.1, z.2] at hb; cases hb)] at k
      exact ret_W hW.fr k (Keep.of e1) (hW.inst.mono e1) rfl Evl.ev_c rfl
    rw [Bool.or_eq_false_iff] at hb
    have hx : x < a.alternativeCount := of_decide_eq_true (not_f hb.1)
    have hp := isP_of (not_f hb.2)
    rw [if_pos ⟨hx, not_f hb.2⟩] at k
    have hI1 := hI.mono e1
    have hq1 := hq.mono e1
    refine Evl.q_asg (ev_m hI1 (fun _ _ _ _ => fs_allocated) (Evl.ev_var rfl) (Evl.ea_cons (Evl.ev_var rfl) Evl.ea_nil) (v_allocated hI1 hq1 hp)) fun H2 e2 => ?_
    have hW2 := hW.mono (e1.trans e2)
    obtain ⟨g, hg, f1, f2, f3, f4, f5⟩ := hW2.inst.ex
    refine Evl.q_setL (xs := a.allocation.map nV) (v := nV x) (j := a.profileIndex t) hg.al (Evl.ev_var rfl) (ev_al T hg (Evl.ev_var rfl)) (ev_m hW2.inst.inst (fun _ _ _ _ => fs_place) (Evl.ev_var rfl) (Evl.ea_cons (Evl.ev_var rfl) Evl.ea_nil) (v_place hW2.inst.inst (hq1.mono e2) hp)) (by rw [List.length_map]; exact index_lt wf hp) fun H3 e3 => ?_
    rw [← List.map_set]
    have hg3 := inst_set (al := a.allocation.set (a.profileIndex t) x) (hg.mono e3) (wf_set wf hx)
    exact ret_W hW.fr k ((Keep.of (e1.trans e2)).trans (Keep.ex e3 f2)) ⟨g, hg3, f1, f2, f3, f4, f5⟩ rfl (Evl.ev_var rfl) rfl

abbrev s_use_welfare_maximizer : Stmt := topS 30
theorem sc_use_welfare_maximizer : FnScope ["instance"] ["instance"] (defScope s_use_welfare_maximizer) := ⟨rfl, rfl, rfl, by decide +kernel, rfl, by decide +kernel, by decide +kernel⟩
theorem ok_use_welfare_maximizer {f : Addr} {fd : FuncData} (F : Fun K "use_welfare_maximizer" "use_welfare_maximizer" s_use_welfare_maximizer f fd) (T : Txt K mg CW CI aS) (G_allocate_best : C8.Cal P w K mg base 5 "allocate_best" (sp_allocate_best CI) []) : FnOk P w K mg base CX0 6 f fd ["instance"] (sp_use_welfare_maximizer CI) := by
  have nd := sc_use_welfare_maximizer.nd
  refine F.ok sc_use_welfare_maximizer (fun vs H Q E h => ?_) (fun cdv A outer s H vs Q E hr h => ⟨_, (pss_cons (ps_expr (C8.pe_c G_allocate_best hr (by decide) rfl (pa_cons (pv 0) (pa_cons (pe_op op_rep (pe_lst (pa_cons pe_int pa_nil)) (pe_fld (pv 0) rfl)) (pa_cons (pe_op op_rep (pe_lst (pa_cons pe_int pa_nil)) (pe_fld (pv 0) rfl)) pa_nil)))))
  (pss_one (ps_ret (pe_lst (pa_cons pe_int pa_nil))))), ?_⟩)
  · obtain ⟨F, p, a, rfl, hW, hr, k⟩ := h
    rfl
  · obtain ⟨F, p, a, rfl, hW, hr, k⟩ := h
    have hI := hW.inst.inst
    have wf := hI.wf
    have := wf.n3
    have := wf.m4
    rw [x_welfare wf hr] at k
    refine q_dropC (eap_cons (ep_of (Evl.ev_var rfl)) (eap_cons (ep_X (evX_L (el_rep Evl.ev_c (ev_ac T hI (Evl.ev_var rfl)) (by omega)))) (eap_cons (ep_X (evX_L (el_rep Evl.ev_c (ev_lc T hI (Evl.ev_var rfl)) (by omega)))) (eap_of Evl.ea_nil)))) ?_
    rintro vs H1 e1 ⟨v1, r1, rfl, rfl, v2, r2, rfl, ⟨c2, rfl, h2⟩, v3, r3, rfl, ⟨c3, rfl, h3⟩, rfl⟩
    rw [rep_int] at h2 h3
    refine ⟨F, p, c2, c3, a, _, _, rfl, hW.mono e1, h2, List.length_replicate, fun x hx => by rw [List.eq_of_mem_replicate hx]; omega, h3, List.length_replicate, fun v H2 k2 hI2 => ?_⟩
    exact ret_W hW.fr k ((Keep.of e1).trans k2) hI2 rfl Evl.ev_c rfl

abbrev s_use_affine_maximizer : Stmt := topS 31
theorem sc_use_affine_maximizer : FnScope ["instance", "weights_and_boosts", "weights"] ["instance", "weights_and_boosts"] (defScope s_use_affine_maximizer) := ⟨rfl, rfl, rfl, by decide +kernel, rfl, by decide +kernel, by decide +kernel⟩
theorem ok_use_affine_maximizer {f : Addr} {fd : FuncData} (F : Fun K "use_affine_maximizer" "use_affine_maximizer" s_use_affine_maximizer f fd) (T : Txt K mg CW CI aS) (G_allocate_best : C8.Cal P w K mg base 5 "allocate_best" (sp_allocate_best CI) []) (G_fits : C8.Cal P w K mg base 1 "fits" sp_fits []) : FnOk P w K mg base CX0 6 f fd ["instance", "weights_and_boosts"] (sp_use_affine_maximizer CI) := by
  have nd := sc_use_affine_maximizer.nd
  refine F.ok sc_use_affine_maximizer (fun vs H Q E h => ?_) (fun cdv A outer s H vs Q E hr h => ⟨_, (pss_cons (ps_if (pt_not (pt_val (C8.pe_c G_fits hr (by decide) rfl (pa_cons (pv 1) (pa_cons (pe_op opAdd (pe_fld (pv 0) rfl) (pe_fld (pv 0) rfl)) (pa_cons (C8.pe_gc rfl T.g_GREATEST_FACTOR) pa_nil))))))
   (pss_one (ps_ret (pe_lst (pa_cons (C8.pe_gc rfl T.g_INVALID) pa_nil)))) pss_nil)
  (pss_cons (ps_set (i := 2) nd rfl (Or.inl rfl) (pe_slice sl_list (pv 1) po_none (po_some (pe_fld (pv 0) rfl))))
  (pss_cons (ps_expr (C8.pe_c G_allocate_best hr (by decide) rfl (pa_cons (pv 0) (pa_cons (pv 2) (pa_cons (pe_slice sl_list (pv 1) (po_some (pe_fld (pv 0) rfl)) po_none) pa_nil)))))
  (pss_one (ps_ret (pe_lst (pa_cons pe_int pa_nil))))))), ?_⟩)
  · obtain ⟨F, p, q, a, t, rfl, hW, hr, hq, hl, k⟩ := h
    rfl
  · obtain ⟨F, p, q, a, t, rfl, hW, hr, hq, hl, k⟩ := h
    have hI := hW.inst.inst
    have wf := hI.wf
    have hn3 := wf.n3
    have hm4 := wf.m4
    rw [x_affine wf hr] at k
    have hqi : LI H q (t.map Int.ofNat) := by
      unfold LI
      rw [List.map_map]
      exact hq
    refine Evl.q_when (Evl.et_not (Evl.et_B (ev_call (Evl.ea_cons (Evl.ev_var rfl) (Evl.ea_cons (Evl.ev_is (ev_add (ev_ac T hI (Evl.ev_var rfl)) (ev_lc T hI (Evl.ev_var rfl))) (addW _ _)) (Evl.ea_cons Evl.ev_c Evl.ea_nil))) (v_fits (c := a.agentCount + a.alternativeCount) (gr := 99) hqi (by rw [List.length_map]; exact hl))))) (fun hb H1 e1 => ?_) (fun hb H1 e1 => ?_)
    · rw [if_neg (by rw [not_t hb]; decide)] at k
      exact ret_W hW.fr k (Keep.of e1) (hW.inst.mono e1) rfl Evl.ev_c rfl
    rw [if_pos (not_f hb)] at k
    obtain ⟨y1, y2, _⟩ := fits_yes (not_f hb)
    rw [List.length_map] at y1
    have hI1 := hI.mono e1
    refine Evl.q_asgL (Evl.el_sl (Evl.ev_var rfl) Evl.eo_none (Evl.eo_some (ev_ac T hI1 (Evl.ev_var rfl))) (Evl.sq_of (e1 _ _ hq))) fun cw H2 hc e2 hcw => ?_
    rw [cut_take] at hcw
    have hI2 := hI1.mono e2
    refine q_dropC (eap_cons (ep_of (Evl.ev_var rfl)) (eap_cons (ep_of (Evl.ev_var rfl)) (eap_cons (ep_X (evX_L (Evl.el_sl (Evl.ev_var rfl) (Evl.eo_some (ev_ac T hI2 (Evl.ev_var rfl))) Evl.eo_none (Evl.sq_of (e2 _ _ (e1 _ _ hq)))))) (eap_of Evl.ea_nil)))) ?_
    rintro vs H3 e3 ⟨v1, r1, rfl, rfl, v2, r2, rfl, rfl, v3, r3, rfl, ⟨c3, rfl, h3⟩, rfl⟩
    rw [cut_drop] at h3
    have e123 := (e1.trans e2).trans e3
    have w1 : LI H3 cw ((t.take a.agentCount).map Int.ofNat) := by
      unfold LI
      rw [List.map_map, e3 _ _ hcw, List.map_take]
      rfl
    have w2 : LI H3 c3 ((t.drop a.agentCount).map Int.ofNat) := by
      unfold LI
      rw [List.map_map, h3, List.map_drop]
      rfl
    refine ⟨F, p, cw, c3, a, _, _, rfl, hW.mono e123, w1, by rw [List.length_map, List.length_take]; omega, fun x hx => ?_, w2, by rw [List.length_map, List.length_drop]; omega, fun v H4 k4 hI4 => ?_⟩
    · obtain ⟨u, hu, rfl⟩ := List.mem_map.mp hx
      have := y2 (Int.ofNat u) (List.mem_map.mpr ⟨u, List.mem_of_mem_take hu, rfl⟩)
      exact ⟨Int.natCast_nonneg u, this.2⟩
    · exact ret_W hW.fr k ((Keep.of e123).trans k4) hI4 rfl Evl.ev_c rfl

abbrev s_use_agent_maximizer : Stmt := topS 32
theorem sc_use_agent_maximizer : FnScope ["instance", "agent", "weights"] ["instance", "agent"] (defScope s_use_agent_maximizer) := ⟨rfl, rfl, rfl, by decide +kernel, rfl, by decide +kernel, by decide +kernel⟩
theorem ok_use_agent_maximizer {f : Addr} {fd : FuncData} (F : Fun K "use_agent_maximizer" "use_agent_maximizer" s_use_agent_maximizer f fd) (T : Txt K mg CW CI aS) (G_allocate_best : C8.Cal P w K mg base 5 "allocate_best" (sp_allocate_best CI) []) (G_m_has_agent : C8.Met P w K mg base 1 CI "has_agent" (sp_has_agent CI) []) : FnOk P w K mg base CX0 6 f fd ["instance", "agent"] (sp_use_agent_maximizer CI) := by
  have nd := sc_use_agent_maximizer.nd
  refine F.ok sc_use_agent_maximizer (fun vs H Q E h => ?_) (fun cdv A outer s H vs Q E hr h => ⟨_, (pss_cons (ps_if (pt_not (pt_val (C8.pe_mt G_m_has_agent hr (by decide) (pv 0) (by exact (pa_cons (pv 1) pa_nil)))))
   (pss_one (ps_ret (pe_lst (pa_cons (C8.pe_gc rfl T.g_NO_SUCH_MEMBER) pa_nil)))) pss_nil)
  (pss_cons (ps_set (i := 2) nd rfl (Or.inl rfl) (pe_op op_rep (pe_lst (pa_cons pe_int pa_nil)) (pe_fld (pv 0) rfl)))
  (pss_cons (ps_asg pe_int (pg_sub (pv 2) (pv 1) set_list))
  (pss_cons (ps_expr (C8.pe_c G_allocate_best hr (by decide) rfl (pa_cons (pv 0) (pa_cons (pv 2) (pa_cons (pe_op op_rep (pe_lst (pa_cons pe_int pa_nil)) (pe_fld (pv 0) rfl)) pa_nil)))))
  (pss_one (ps_ret (pe_lst (pa_cons pe_int pa_nil)))))))), ?_⟩)
  · obtain ⟨F, p, i, a, rfl, hW, hr, k⟩ := h
    rfl
  · obtain ⟨F, p, i, a, rfl, hW, hr, k⟩ := h
    have hI := hW.inst.inst
    have wf := hI.wf
    have hn3 := wf.n3
    have hm4 := wf.m4
    rw [x_agent wf hr] at k
    refine Evl.q_when (Evl.et_not (Evl.et_B (ev_m hI (fun _ _ _ _ => fs_has_agent) (Evl.ev_var rfl) (Evl.ea_cons (Evl.ev_var rfl) Evl.ea_nil) (v_has_agent hI)))) (fun hb H1 e1 => ?_) (fun hb H1 e1 => ?_)
    · rw [if_neg (of_decide_eq_false (not_t hb))] at k
      exact ret_W hW.fr k (Keep.of e1) (hW.inst.mono e1) rfl Evl.ev_c rfl
    have hi : i < a.agentCount := of_decide_eq_true (not_f hb)
    rw [if_pos hi] at k
    have hI1 := hI.mono e1
    refine Evl.q_asgL (el_rep Evl.ev_c (ev_ac T hI1 (Evl.ev_var rfl)) (by omega)) fun c H2 hc e2 hl => ?_
    refine Evl.q_setL hl Evl.ev_c (Evl.ev_var rfl) (Evl.ev_var rfl) (by rw [List.length_replicate]; exact hi) fun H3 e3 => ?_
    have e4 : Ex H1 (upd H3 c (.lst ((List.replicate a.agentCount (V.int 0)).set i (.int 1)))) := Evl.Ex.mut (e2.trans e3) hc
    have hI4 := hI1.mono e4
    refine q_dropC (eap_cons (ep_of (Evl.ev_var rfl)) (eap_cons (ep_X (evX_R (Evl.ev_var rfl) upd_same)) (eap_cons (ep_X (evX_L (el_rep Evl.ev_c (ev_lc T hI4 (Evl.ev_var rfl)) (by omega)))) (eap_of Evl.ea_nil)))) ?_
    rintro vs H5 e5 ⟨v1, r1, rfl, rfl, v2, r2, rfl, ⟨c2, rfl, h2⟩, v3, r3, rfl, ⟨c3, rfl, h3⟩, rfl⟩
    rw [rep_int, ← List.map_set] at h2
    rw [rep_int] at h3
    have e15 := (e1.trans e4).trans e5
    refine ⟨F, p, c2, c3, a, _, _, rfl, hW.mono e15, h2, by rw [List.length_set, List.length_replicate], fun x hx => by
      rcases List.mem_or_eq_of_mem_set hx with z | z
      · rw [List.eq_of_mem_replicate z]; omega
      · omega, h3, List.length_replicate, fun v H6 k6 hI6 => ?_⟩
    exact ret_W hW.fr k ((Keep.of e15).trans k6) hI6 rfl Evl.ev_c rfl

end
end Tp

namespace Tp
open PySem PySem.Spec PyProof.Rows L2
open Su196 (Instance)
open Evl (Ex Ev EvL EvT EvA EvO RetL RetV SpV SpL)
section
variable {P : Program} {w : World} {K : PySem.W.Frag} {mg : Str → Option Value} {base : Heap} {CW CI aS : Addr}

open Su196 (execute)
/-- the table of shapes, as the top has written it -/
structure Sh (K : PySem.W.Frag) (aS : Addr) : Prop where
  ex : ∃ ss : List Addr, (∀ H, SqT K H aS (ss.map V.ref)) ∧ ∀ (i : Nat) s, shapeL[i]? = some s → ∃ q, ss[i]? = some q ∧ ∀ H, SqT K H q [nV s.1, nV s.2]
section
variable {K : PySem.W.Frag} {σ : L2.St} {H H' H1 H2 H3 : Hp} {ta tb : TE} {tt : TA} {xs : List V} {v : V} {p q : Addr}
theorem ev_ixS {i : Nat} (ha : Ev ta σ H (.ref p)) (hb : Ev tb σ H (.int (i : Int))) (hp : SqL K H p xs) (hx : xs[i]? = some v) : Ev (tOp (rIxL K) ta tb) σ H v := Evl.ev_op ha hb (Evl.rv_ixL hp (atI_nat hx))
theorem ev_ixT {i : Nat} (ha : Ev ta σ H (.ref p)) (hb : Ev tb σ H (.int (i : Int))) (hp : SqT K H p xs) (hx : xs[i]? = some v) : Ev (tOp (rIxT K) ta tb) σ H v := Evl.ev_op ha hb (Evl.rv_ixT hp (atI_nat hx))
def SpLL (sp : Sp) (vs : List V) (H : Hp) (yss : List (List V)) : Prop := ∀ H1, Ex H H1 → ∀ Q : VK, (∀ p ps H2, NewLL H1 yss p ps H2 → Q (.ref p) H2) → ∀ E : XK, sp vs H1 Q E
theorem ell_call {sp : Sp} {E : XK} {vs : List V} {yss : List (List V)} (ha : EvA tt σ H vs) (hs : SpLL sp vs H yss) : EvLL (tCall sp [] E tt) σ H yss := fun H1 e Q q =>
  ha H1 e _ fun H2 e2 => by
    rw [List.append_nil]
    exact hs H2 (e.trans e2) Q (fun p ps H3 nw => q p ps H3 (nw.back e2)) E
theorem NewLL.more {yss : List (List V)} {ys : List V} {ps : List Addr} (h : NewLL H1 yss p ps H2) (e : Ex H2 H3) (hq : H2 q = none) (h3 : H3 q = some (.lst ys)) : NewLL H1 (yss ++ [ys]) p (ps ++ [q]) (upd H3 p (.lst (ps.map V.ref ++ [.ref q]))) := by
  obtain ⟨p1, p2, p3, p4, p5⟩ := h
  have qp : q ≠ p := ne_new p3 hq
  refine ⟨p1, Evl.Ex.mut (p2.trans e) p1, ?_, ?_, ?_⟩
  · rw [List.map_append]
    exact upd_same
  · rw [List.length_append, List.length_append, p4]
    rfl
  · intro k q' ys' hk hy
    by_cases c : k < ps.length
    · rw [List.getElem?_append_left c] at hk
      rw [List.getElem?_append_left (by rw [← p4]; exact c)] at hy
      obtain ⟨g1, g2, g3⟩ := p5 k q' ys' hk hy
      refine ⟨g1, g2, ?_⟩
      rw [upd_ne g2]
      exact e _ _ g3
    · have hk' := (List.getElem?_eq_some_iff.mp hk).1
      rw [List.length_append] at hk'
      have e0 : k = ps.length := by
        have : ([q] : List Addr).length = 1 := rfl
        omega
      subst e0
      rw [List.getElem?_append_right (Nat.le_refl _), Nat.sub_self] at hk
      rw [p4, List.getElem?_append_right (Nat.le_refl _), Nat.sub_self] at hy
      cases hk
      cases hy
      refine ⟨Evl.fresh_back p2 hq, qp, ?_⟩
      rw [upd_ne qp]
      exact h3
end
theorem cut_mid (xs : List V) (i j : Nat) (hi : i ≤ xs.length) (hj : j ≤ xs.length) : cutV xs (some (i : Int)) (some (j : Int)) = (xs.drop i).take (j - i) := by
  unfold cutV
  rw [sIx_n, sIx_n, Nat.min_eq_left hi, Nat.min_eq_left hj]
theorem drop_at {l r : List Int} {i : Nat} {n : Int} (h : l.drop i = n :: r) : l[i]? = some n ∧ r = l.drop (i + 1) ∧ i < l.length ∧ r.length + i + 1 = l.length := by
  have h0 : i < l.length := by
    by_cases c : i < l.length
    · exact c
    · rw [List.drop_eq_nil_of_le (by omega)] at h
      cases h
  have h1 := List.drop_eq_getElem_cons h0
  rw [h1] at h
  have h2 := List.cons.inj h
  refine ⟨?_, h2.2.symm, h0, ?_⟩
  · rw [List.getElem?_eq_getElem h0, h2.1]
  · rw [← h2.2, List.length_drop]
    omega
theorem rows_span : ∀ {k : Nat} {r : List Int} {xs : List (List Int)} {t : List Int}, PyFlat.rows k r = some (xs, t) → t = r.drop (span xs) ∧ span xs ≤ r.length
  | 0, r, xs, t, h => by
    have h3 := Prod.mk.inj (Option.some.inj h)
    rw [← h3.1, ← h3.2]
    exact ⟨rfl, Nat.zero_le _⟩
  | k + 1, r, xs, t, h => by
    obtain ⟨x, s, ys, h1, h2, rfl⟩ := rows_succ h
    obtain ⟨n, r', rfl, g1, g2, rfl, rfl⟩ := row_is h1
    obtain ⟨i1, i2⟩ := rows_span h2
    have e : span (r'.take n.toNat :: ys) = 1 + n.toNat + span ys := by
      unfold span
      rw [List.map_cons, List.sum_cons, List.length_take, Nat.min_eq_left g2]
    rw [List.length_drop] at i2
    refine ⟨?_, ?_⟩
    · rw [i1, e, List.drop_drop]
      have : 1 + n.toNat + span ys = (n.toNat + span ys) + 1 := by omega
      rw [this, List.drop_succ_cons]
    · rw [e, List.length_cons]
      omega
theorem span_int : ∀ xs : List (List Int), (xs.map fun x => (1 + (x.length : Int))).sum = (span xs : Int)
  | [] => rfl
  | x :: r => by
    rw [List.map_cons, List.sum_cons, span_int r]
    unfold span
    rw [List.map_cons, List.sum_cons]
    omega
theorem range_getDL (xs : List (List Int)) (g : List Int → V) : (List.range xs.length).map (fun i => g (xs.getD i [])) = xs.map g := by
  apply List.ext_getElem?
  intro i
  by_cases c : i < xs.length
  · rw [List.getElem?_map, List.getElem?_range c, List.getElem?_map, List.getElem?_eq_getElem c]
    simp [List.getD, c]
  · rw [List.getElem?_eq_none (by simp; omega), List.getElem?_eq_none (by simp; omega)]
/-- a call in the heap: its tuple, its numbers, its rows; N: what holds of all their places -/
def CallAt (N : Addr → Prop) (H : Hp) (q : Addr) (c : List (List Int)) : Prop := ∃ (z : Int) (ns : List Int) (rs : List (List Int)) (qn qr : Addr) (ps : List Addr), c = (z :: ns) :: rs ∧ N q ∧ N qn ∧ N qr ∧ H q = some (.tup [.int z, .ref qn, .ref qr]) ∧ LI H qn ns ∧ H qr = some (.lst (ps.map V.ref)) ∧ ps.length = rs.length ∧ ∀ (i : Nat) x y, ps[i]? = some x → rs[i]? = some y → N x ∧ LI H x y
theorem CallAt.keep {N M : Addr → Prop} {H H' : Hp} {q : Addr} {c : List (List Int)} (h : CallAt N H q c) (nm : ∀ x, N x → M x) (k : ∀ x o, N x → H x = some o → H' x = some o) : CallAt M H' q c := by
  obtain ⟨z, ns, rs, qn, qr, ps, h1, h2, h3, h4, h5, h6, h7, h8, h9⟩ := h
  exact ⟨z, ns, rs, qn, qr, ps, h1, nm _ h2, nm _ h3, nm _ h4, k _ _ h2 h5, k _ _ h3 h6, k _ _ h4 h7, h8, fun i x y a b => ⟨nm _ (h9 i x y a b).1, k _ _ (h9 i x y a b).1 (h9 i x y a b).2⟩⟩
def CallsAt (N : Addr → Prop) (H : Hp) (p : Addr) (raw : List (List (List Int))) : Prop := ∃ ps : List Addr, H p = some (.lst (ps.map V.ref)) ∧ ps.length = raw.length ∧ ∀ (i : Nat) q c, ps[i]? = some q → raw[i]? = some c → CallAt N H q c
def sp_read_rows (K : PySem.W.Frag) : Sp := fun vs H Q _ => ∃ (q : Addr) (l : List Int) (at_ k : Nat) (xs : List (List Int)) (t : List Int), vs = [.ref q, nV at_, nV k] ∧ SqL K H q (l.map V.int) ∧ at_ ≤ l.length ∧ k ≤ 100 ∧ PyFlat.rows k (l.drop at_) = some (xs, t) ∧ ∀ p ps H', NewLL H (xs.map fun x => x.map V.int) p ps H' → Q (.ref p) H'
theorem v_read_rows {K : PySem.W.Frag} {H : Hp} {q : Addr} {l : List Int} {at_ k : Nat} {xs : List (List Int)} {t : List Int} (h : SqL K H q (l.map V.int)) (ha : at_ ≤ l.length) (hk : k ≤ 100) (hr : PyFlat.rows k (l.drop at_) = some (xs, t)) : SpLL (sp_read_rows K) [.ref q, nV at_, nV k] H (xs.map fun x => x.map V.int) := fun _ e _ z _ => ⟨q, l, at_, k, xs, t, rfl, Evl.ex_l e h, ha, hk, hr, z⟩
def sp_read_calls (K : PySem.W.Frag) : Sp := fun vs H Q _ => ∃ (q : Addr) (l : List Int) (f : Nat) (raw : List (List (List Int))), vs = [.ref q] ∧ SqL K H q (l.map V.int) ∧ raw.length ≤ 1000 ∧ PyFlat.calls PySu196.shape f l = some raw ∧ ∀ p H', Ex H H' → H p = none → CallsAt (fun x => H x = none) H' p raw → Q (.ref p) H'

abbrev s_read_rows : Stmt := topS 72
theorem sc_read_rows : FnScope ["calls", "at", "count", "rows", "number", "start"] ["calls", "at", "count"] (defScope s_read_rows) := ⟨rfl, rfl, rfl, by decide +kernel, rfl, by decide +kernel, by decide +kernel⟩
theorem ok_read_rows {f : Addr} {fd : FuncData} (F : Fun K "read_rows" "read_rows" s_read_rows f fd) (T : Txt K mg CW CI aS) : FnOk P w K mg base CX0 1 f fd ["calls", "at", "count"] (sp_read_rows K) := by
  have nd := sc_read_rows.nd
  refine F.ok sc_read_rows (fun vs H Q E h => ?_) (fun cdv A outer s H vs Q E hr h => ⟨_, (pss_cons (ps_set (i := 3) nd rfl (Or.inl rfl) (pe_lst pa_nil))
  (pss_cons (ps_for PassesOwn.never rfl (pi_range1 (by rfl) T.b_range (pa_cons (pv 2) pa_nil)) (pg_name (i := 4) nd rfl (Or.inl rfl))
   (pss_cons (ps_set (i := 5) nd rfl (Or.inl rfl) (pe_op opAdd (pv 1) pe_int))
  (pss_cons (ps_set (i := 1) nd rfl (Or.inl rfl) (pe_op opAdd (pv 5) (pe_ix (ixL (K := K) rfl) (pv 0) (pv 1) (fun _ _ => rfl))))
  (pss_one (ps_expr (pe_bm PySem.F.plainAttrs_list PySem.F.slot_list_append PySem.F.type_list_append mt_append (pv 3) (pa_cons (pe_slice sl_list (pv 0) (po_some (pv 5)) (po_some (pv 1))) pa_nil)))))))
  (pss_one (ps_ret (pv 3))))), ?_⟩)
  · obtain ⟨q, l, at_, kn, xs, t, rfl, hq, ha, hk, hr, k⟩ := h
    rfl
  · obtain ⟨q, l, at_, kn, xs, t, rfl, hq, ha, hk, hr, k⟩ := h
    have hxl := rows_len hr
    refine Evl.q_asgL (Evl.el_lst Evl.ea_nil (by show 0 ≤ 100000; decide)) fun rw_ H1 hrw e1 hl => ?_
    refine Evl.q_forR1 (n := (kn : Int)) (Evl.ea_cons (Evl.ev_var rfl) Evl.ea_nil) ⟨by omega, by omega⟩
      (fun j σ' H' => ∃ aj v4 v5 nps, NewLL H ((xs.take j).map fun x => x.map V.int) rw_ nps H' ∧ aj ≤ l.length ∧ PyFlat.rows (kn - j) (l.drop aj) = some (xs.drop j, t) ∧ σ' = [some (.ref q), some (nV aj), some (nV kn), some (.ref rw_), v4, v5])
      (fun H2 e2 => ⟨at_, none, none, [], ⟨hrw, e1.trans e2, e2 _ _ hl, rfl, fun k q ys hk _ => by simp at hk⟩, ha, hr, rfl⟩) ?_ ?_
    · rintro j σ' H2 hj ⟨aj, v4, v5, nps, nw, haj, hrj, rfl⟩
      have hj' : j < kn := by omega
      have e0 : kn - j = (kn - (j + 1)) + 1 := by omega
      rw [e0] at hrj
      obtain ⟨x, s, ys, r1, r2, r3⟩ := rows_succ hrj
      obtain ⟨n, r, g0, g1, g2, rfl, rfl⟩ := row_is r1
      obtain ⟨d1, rfl, d3, d4⟩ := drop_at g0
      have hqn : SqL K H2 q (l.map V.int) := Evl.ex_l nw.2.1 hq
      have hn : n = (n.toNat : Int) := (Int.toNat_of_nonneg g1).symm
      refine Evl.q_asg (Evl.ev_is (ev_add (Evl.ev_var rfl) Evl.ev_c) (show V.int ((aj : Int) + 1) = nV (aj + 1) from rfl)) fun H3 e3 => ?_
      refine Evl.q_asg (Evl.ev_is (ev_add (Evl.ev_var rfl) (ev_ixS (Evl.ev_var rfl) (Evl.ev_var rfl) (Evl.ex_l e3 hqn) (map_at d1))) (show V.int (((aj + 1 : Nat) : Int) + n) = nV (aj + 1 + n.toNat) from by rw [hn]; rfl)) fun H4 e4 => ?_
      have e34 := e3.trans e4
      have hcut : cutV (l.map V.int) (some ((aj + 1 : Nat) : Int)) (some ((aj + 1 + n.toNat : Nat) : Int)) = ((l.drop (aj + 1)).take n.toNat).map V.int := by
        rw [cut_mid _ _ _ (by rw [List.length_map]; omega) (by rw [List.length_map]; omega), Nat.add_sub_cancel_left, List.map_take, List.map_drop]
      refine Evl.s_appL (xs := nps.map V.ref) (ys := ((l.drop (aj + 1)).take n.toNat).map V.int) (e34 _ _ nw.2.2.1) (Evl.ev_var rfl) (el_is (Evl.el_sl (Evl.ev_var rfl) (Evl.eo_some (Evl.ev_var rfl)) (Evl.eo_some (Evl.ev_var rfl)) (Evl.ex_l e34 hqn)) hcut) ?_ fun qn H5 hq5 e5 hn5 => ⟨aj + 1 + n.toNat, _, _, nps ++ [qn], ?_, by omega, ?_, rfl⟩
      · rw [List.length_map, nw.2.2.2.1, List.length_map, List.length_take]
        omega
      · have e6 : xs.take (j + 1) = xs.take j ++ [(l.drop (aj + 1)).take n.toNat] := by
          have h7 : xs[j]? = some ((l.drop (aj + 1)).take n.toNat) := by
            have h8 : (xs.drop j)[0]? = some ((l.drop (aj + 1)).take n.toNat) := by
              rw [r3]
              rfl
            rw [List.getElem?_drop] at h8
            exact h8
          rw [List.take_add_one, h7]
          rfl
        rw [e6, List.map_append]
        exact nw.more (e34.trans e5) (Evl.fresh_back e34 hq5) hn5
      · have e7 : xs.drop (j + 1) = ys := by
          have h8 : (xs.drop j).drop 1 = ys := by
            rw [r3]
            rfl
          rw [List.drop_drop] at h8
          exact h8
        rw [e7, ← r2, List.drop_drop]
    · rintro σ' H2 ⟨aj, v4, v5, nps, nw, haj, hrj, rfl⟩
      rw [Int.toNat_natCast, List.take_of_length_le (by omega)] at nw
      exact Evl.s_ret (Evl.ev_var rfl) fun H3 e3 => k _ nps H3 ⟨nw.1, nw.2.1.trans e3, e3 _ _ nw.2.2.1, nw.2.2.2.1, fun i q ys a b => ⟨(nw.2.2.2.2 i q ys a b).1, (nw.2.2.2.2 i q ys a b).2.1, e3 _ _ (nw.2.2.2.2 i q ys a b).2.2⟩⟩

abbrev s_read_calls : Stmt := topS 71
theorem sc_read_calls : FnScope ["calls", "found", "at", "operation", "shape", "start", "numbers", "rows", "row"] ["calls"] (defScope s_read_calls) := ⟨rfl, rfl, rfl, by decide +kernel, rfl, by decide +kernel, by decide +kernel⟩
theorem ok_read_calls {f : Addr} {fd : FuncData} (F : Fun K "read_calls" "read_calls" s_read_calls f fd) (T : Txt K mg CW CI aS) (S : Sh K aS) (G_read_rows : C8.Cal P w K mg base 1 "read_rows" (sp_read_rows K) []) : FnOk P w K mg base CX0 2 f fd ["calls"] (sp_read_calls K) := by
  have nd := sc_read_calls.nd
  refine F.ok sc_read_calls (fun vs H Q E h => ?_) (fun cdv A outer s H vs Q E hr h => ⟨_, (pss_cons (ps_set (i := 1) nd rfl (Or.inl rfl) (pe_lst pa_nil))
  (pss_cons (ps_set (i := 2) nd rfl (Or.inl rfl) pe_int)
  (pss_cons (ps_while PassesOwn.never (pt_cmpR opLt (pv 2) (pe_callB (call_len1 (K := K) rfl) (by rfl) T.b_len PySem.boot_len (pa_cons (pv 0) pa_nil)) (nomark _))
   (pss_cons (ps_set (i := 3) nd rfl (Or.inl rfl) (pe_ix (ixL (K := K) rfl) (pv 0) (pv 2) (fun _ _ => rfl)))
  (pss_cons (ps_set (i := 4) nd rfl (Or.inl rfl) (pe_ix (ixT (K := K) rfl) (pe_glob (v := .ref aS) rfl T.g_SHAPES rfl) (pv 3) (fun _ _ => rfl)))
  (pss_cons (ps_set (i := 5) nd rfl (Or.inl rfl) (pe_op opAdd (pv 2) pe_int))
  (pss_cons (ps_set (i := 2) nd rfl (Or.inl rfl) (pe_op opAdd (pv 5) (pe_ix (ixT (K := K) rfl) (pv 4) pe_int (fun _ _ => rfl))))
  (pss_cons (ps_set (i := 6) nd rfl (Or.inl rfl) (pe_slice sl_list (pv 0) (po_some (pv 5)) (po_some (pv 2))))
  (pss_cons (ps_set (i := 7) nd rfl (Or.inl rfl) (C8.pe_c G_read_rows hr (by decide) rfl (pa_cons (pv 0) (pa_cons (pv 2) (pa_cons (pe_ix (ixT (K := K) rfl) (pv 4) pe_int (fun _ _ => rfl)) pa_nil)))))
  (pss_cons (ps_aug (i := 2) nd rfl (Or.inl rfl) (pe_callB (cr_sum rfl) (by rfl) T.b_sum (by decide +kernel) (pa_cons (pe_lc (own := [("row", 8)]) rfl nd (pi_list (pv 7)) (blkOk_by (N := ["calls", "found", "at", "operation", "shape", "start", "numbers", "rows", "row"]) (sc := defScope s_read_calls) (by decide +kernel)) (fun _ _ _ _ _ => (pg_name (i := 8) nd rfl (Or.inl rfl))) (fun _ _ _ _ _ => pts_nil) (fun _ _ _ _ _ => (pe_op opAdd pe_int (pe_callB (call_len1 (K := K) rfl) (by rfl) T.b_len PySem.boot_len (pa_cons (pv 8) pa_nil))))) pa_nil)) ip_add)
  (pss_one (ps_expr (pe_bm PySem.F.plainAttrs_list PySem.F.slot_list_append PySem.F.type_list_append mt_append (pv 1) (pa_cons (pe_tup (pa_cons (pv 3) (pa_cons (pv 6) (pa_cons (pv 7) pa_nil)))) pa_nil))))))))))))
  (pss_one (ps_ret (pv 1)))))), ?_⟩)
  · obtain ⟨q, l, f, raw, rfl, hq, hrl, hc, k⟩ := h
    rfl
  · obtain ⟨q, l, f, raw, rfl, hq, hrl, hc, k⟩ := h
    obtain ⟨ss, s1, s2⟩ := S.ex
    refine Evl.q_asgL (Evl.el_lst Evl.ea_nil (by show 0 ≤ 100000; decide)) fun fa H1 hfa e1 hf => ?_
    refine Evl.q_asg Evl.ev_c fun H2 e2 => ?_
    let N : Addr → Prop := fun x => H x = none ∧ x ≠ fa
    refine Evl.q_while (fun m σ' H' => ∃ kk aj g v3 v4 v5 v6 v7, m + kk = raw.length ∧ Ex H H' ∧ aj ≤ l.length ∧ PyFlat.calls PySu196.shape g (l.drop aj) = some (raw.drop kk) ∧ CallsAt N H' fa (raw.take kk) ∧ σ' = [some (.ref q), some (.ref fa), some (nV aj), v3, v4, v5, v6, v7, none]) raw.length
      ⟨0, 0, f, none, none, none, none, none, rfl, e1.trans e2, Nat.zero_le _, hc, ⟨[], e2 _ _ hf, rfl, fun i q c a _ => by simp at a⟩, rfl⟩ ?_
    rintro m σ' H3 ⟨kk, aj, g, v3, v4, v5, v6, v7, hm, e3, haj, hcj, hfd, rfl⟩
    refine ⟨decide (aj < l.length), Evl.et_is (Evl.et_test (ev_lt (Evl.ev_var rfl) (Evl.ev_len (Evl.ev_var rfl) (Evl.ex_l e3 hq)))) ?_, fun hb H4 e4 => ?_, fun hb H4 e4 => ?_⟩
    · rw [List.length_map]
      exact decide_eq_decide.mpr Int.ofNat_lt
    · have hlt : aj < l.length := of_decide_eq_true hb
      rw [List.drop_eq_getElem_cons hlt] at hcj
      obtain ⟨g', c, t, ds, c1, c2, c3⟩ := calls_cons hcj
      obtain ⟨z, n, kc, r, xs, h1, h2, h3, h4, rfl⟩ := call_is c1
      rw [← List.drop_eq_getElem_cons hlt] at h1
      obtain ⟨d1, rfl, _, d4⟩ := drop_at h1
      obtain ⟨t1, t2⟩ := rows_span h4
      rw [List.drop_drop] at h4 t1
      rw [List.length_drop, List.length_drop] at t2
      have hkk : kk < raw.length := by
        by_cases cc : kk < raw.length
        · exact cc
        · rw [List.drop_eq_nil_of_le (by omega)] at c3
          cases c3
      obtain ⟨qs, q1, q2⟩ := s2 z _ h2
      have hkc : kc ≤ 100 := by
        have := rows_len h4
        have hz : z < 15 := by
          have := (List.getElem?_eq_some_iff.mp h2).1
          exact this
        match z, hz, h2 with
        | 0, _, h2 => cases h2; decide
        | 1, _, h2 => cases h2; decide
        | 2, _, h2 => cases h2; decide
        | 3, _, h2 => cases h2; decide
        | 4, _, h2 => cases h2; decide
        | 5, _, h2 => cases h2; decide
        | 6, _, h2 => cases h2; decide
        | 7, _, h2 => cases h2; decide
        | 8, _, h2 => cases h2; decide
        | 9, _, h2 => cases h2; decide
        | 10, _, h2 => cases h2; decide
        | 11, _, h2 => cases h2; decide
        | 12, _, h2 => cases h2; decide
        | 13, _, h2 => cases h2; decide
        | 14, _, h2 => cases h2; decide
      refine ⟨fun σ2 H' => ∃ kk aj g v3 v4 v5 v6 v7, (m - 1) + kk = raw.length ∧ Ex H H' ∧ aj ≤ l.length ∧ PyFlat.calls PySu196.shape g (l.drop aj) = some (raw.drop kk) ∧ CallsAt N H' fa (raw.take kk) ∧ σ2 = [some (.ref q), some (.ref fa), some (nV aj), v3, v4, v5, v6, v7, none], fun σ2 H2 h => ⟨m - 1, by omega, h⟩, ?_⟩
      have e34 := e3.trans e4
      refine Evl.q_asg (ev_ixS (Evl.ev_var rfl) (Evl.ev_var rfl) (Evl.ex_l e34 hq) (map_at d1)) fun H5 e5 => ?_
      refine Evl.q_asg (ev_ixT (i := z) Evl.ev_c (Evl.ev_var rfl) (s1 _) (map_at (f := V.ref) q1)) fun H6 e6 => ?_
      refine Evl.q_asg (Evl.ev_is (ev_add (Evl.ev_var rfl) Evl.ev_c) (show V.int ((aj : Int) + 1) = nV (aj + 1) from rfl)) fun H7 e7 => ?_
      refine Evl.q_asg (Evl.ev_is (ev_add (Evl.ev_var rfl) (ev_ixT (i := 0) (Evl.ev_var rfl) Evl.ev_c (q2 _) rfl)) (show V.int (((aj + 1 : Nat) : Int) + (n : Int)) = nV (aj + 1 + n) from rfl)) fun H8 e8 => ?_
      have e38 := e34.trans (e5.trans (e6.trans (e7.trans e8)))
      have hcut : cutV (l.map V.int) (some ((aj + 1 : Nat) : Int)) (some ((aj + 1 + n : Nat) : Int)) = ((l.drop (aj + 1)).take n).map V.int := by
        rw [cut_mid _ _ _ (by rw [List.length_map]; omega) (by rw [List.length_map]; omega), Nat.add_sub_cancel_left, List.map_take, List.map_drop]
      refine Evl.q_asgL (el_is (Evl.el_sl (Evl.ev_var rfl) (Evl.eo_some (Evl.ev_var rfl)) (Evl.eo_some (Evl.ev_var rfl)) (Evl.ex_l e38 hq)) hcut) fun qn H9 hqn e9 hln => ?_
      refine q_asgLL (ell_call (Evl.ea_cons (Evl.ev_var rfl) (Evl.ea_cons (Evl.ev_var rfl) (Evl.ea_cons (ev_ixT (i := 1) (Evl.ev_var rfl) Evl.ev_c (q2 _) rfl) Evl.ea_nil))) (v_read_rows (Evl.ex_l (e38.trans e9) hq) (by omega) hkc h4)) fun qr nps H10 nw => ?_
      refine Evl.q_aug (a := ((aj + 1 + n : Nat) : Int)) rfl (ev_sum (ns := (List.range xs.length).map fun i => (1 + ((xs.getD i []).length : Int))) (evX_L (el_is (Evl.el_lcL (xs := nps.map V.ref) (fun _ => true) (fun i => V.int (1 + ((xs.getD i []).length : Int))) (Evl.ev_var rfl) (Evl.sq_of nw.2.2.1) ?_ (fun _ => rfl) (fun i x H11 e11 hx => et_yes) (fun i x H11 e11 hx _ => ?_)) ?_))) fun H11 e11 => ?_
      · rw [List.length_map, nw.2.2.2.1, List.length_map]
        have := rows_len h4
        omega
      · obtain ⟨qx, x1, rfl⟩ := map_at' hx
        have hil : i < xs.length := by
          have := (List.getElem?_eq_some_iff.mp x1).1
          rw [nw.2.2.2.1, List.length_map] at this
          exact this
        have x2 : (xs.map fun x => x.map V.int)[i]? = some ((xs.getD i []).map V.int) := by
          rw [List.getElem?_map, at_getD [] hil]
          rfl
        have x3 := (nw.2.2.2.2 i qx _ x1 x2).2.2
        refine Evl.ev_is (ev_add Evl.ev_c (Evl.ev_len (Evl.ev_var rfl) (Evl.sq_of (e11 _ _ x3)))) ?_
        rw [List.length_map]
      · rw [given_all, List.length_map, nw.2.2.2.1, List.length_map, List.map_map]
        rfl
      obtain ⟨fs, a1, a2, a3⟩ := hfd
      have e10 := (e5.trans (e6.trans (e7.trans (e8.trans e9)))).trans nw.2.1
      have hfa4 := e4 _ _ a1
      have hfa11 := e11 _ _ (e10 _ _ hfa4)
      refine Evl.s_appU (xs := fs.map V.ref) (ys := [.int (z : Int), .ref qn, .ref qr]) hfa11 (Evl.ev_var rfl) (Evl.eu_tup (Evl.ea_cons (Evl.ev_var rfl) (Evl.ea_cons (Evl.ev_var rfl) (Evl.ea_cons (Evl.ev_var rfl) Evl.ea_nil))) (by show 3 ≤ 100000; decide)) ?_ fun qt H12 hqt e12 htt => ?_
      · rw [List.length_map, a2, List.length_take]
        omega
      have e8x := e34.trans (e5.trans (e6.trans (e7.trans e8)))
      have e9x := e8x.trans e9
      have e11x := (e9x.trans nw.2.1).trans e11
      have fa8 := (e5.trans (e6.trans (e7.trans e8))) _ _ hfa4
      have fa9 := e9 _ _ fa8
      have nqn : N qn := ⟨Evl.fresh_back e8x hqn, ne_new fa8 hqn⟩
      have nqr : N qr := ⟨Evl.fresh_back e9x nw.1, ne_new fa9 nw.1⟩
      have nqt : N qt := ⟨Evl.fresh_back e11x hqt, ne_new hfa11 hqt⟩
      have up : ∀ {x : Addr} {o : HO}, N x → H12 x = some o → upd H12 fa (.lst (fs.map V.ref ++ [.ref qt])) x = some o := fun {x o} nx hx => by
        rw [upd_ne nx.2]
        exact hx
      have e312 : Ex H3 H12 := e4.trans ((e10.trans e11).trans e12)
      refine ⟨kk + 1, aj + 1 + n + span xs, g', some (.int (z : Int)), some (.ref qs), some (nV (aj + 1)), some (.ref qn), some (.ref qr), by omega, Evl.Ex.mut (e3.trans e312) hfa, by omega, ?_, ?_, ?_⟩
      · have e7 : raw.drop (kk + 1) = ds := by
          have h8 : (raw.drop kk).drop 1 = ds := by
            rw [c3]
            rfl
          rw [List.drop_drop] at h8
          exact h8
        rw [e7, ← c2, t1, List.drop_drop]
        congr 2
        omega
      · have h7 : raw[kk]? = some (((z : Int) :: (l.drop (aj + 1)).take n) :: xs) := by
          have h8 : (raw.drop kk)[0]? = some (((z : Int) :: (l.drop (aj + 1)).take n) :: xs) := by
            rw [c3]
            rfl
          rw [List.getElem?_drop] at h8
          exact h8
        have e8 : raw.take (kk + 1) = raw.take kk ++ [((z : Int) :: (l.drop (aj + 1)).take n) :: xs] := by
          rw [List.take_add_one, h7]
          rfl
        rw [e8]
        refine ⟨fs ++ [qt], ?_, ?_, fun i q' c' b1 b2 => ?_⟩
        · rw [List.map_append]
          exact upd_same
        · rw [List.length_append, List.length_append, a2]
          rfl
        · by_cases cc : i < fs.length
          · rw [List.getElem?_append_left cc] at b1
            rw [List.getElem?_append_left (by rw [← a2]; exact cc)] at b2
            exact (a3 i q' c' b1 b2).keep (fun _ h => h) fun x o nx hx => up nx (e312 _ _ hx)
          · have hi := (List.getElem?_eq_some_iff.mp b1).1
            rw [List.length_append] at hi
            have e0 : i = fs.length := by
              have : ([qt] : List Addr).length = 1 := rfl
              omega
            subst e0
            rw [List.getElem?_append_right (Nat.le_refl _), Nat.sub_self] at b1
            rw [a2, List.getElem?_append_right (Nat.le_refl _), Nat.sub_self] at b2
            cases b1
            cases b2
            have m12 := e11.trans e12
            refine ⟨(z : Int), _, xs, qn, qr, nps, rfl, nqt, nqn, nqr, up nqt htt, up nqn (m12 _ _ (nw.2.1 _ _ hln)), up nqr (m12 _ _ nw.2.2.1), ?_, fun i x y b1 b2 => ?_⟩
            · rw [nw.2.2.2.1, List.length_map]
            · have y2 : (xs.map fun x => x.map V.int)[i]? = some (y.map V.int) := by
                rw [List.getElem?_map, b2]
                rfl
              obtain ⟨w1, w2, w3⟩ := nw.2.2.2.2 i x _ b1 y2
              have nx : N x := ⟨Evl.fresh_back e9x w1, ne_new fa9 w1⟩
              exact ⟨nx, up nx (m12 _ _ w3)⟩
      · have e9 : ((List.range xs.length).map fun i => (1 + ((xs.getD i []).length : Int))).sum = (span xs : Int) := by
          rw [← span_int]
          congr 1
          apply List.ext_getElem?
          intro i
          by_cases c : i < xs.length
          · rw [List.getElem?_map, List.getElem?_range c, List.getElem?_map, at_getD [] c]
            rfl
          · rw [List.getElem?_eq_none (by simp; omega), List.getElem?_eq_none (by simp; omega)]
        rw [e9]
        rfl
    · have hge : l.length ≤ aj := by
        have := of_decide_eq_false hb
        omega
      rw [List.drop_eq_nil_of_le hge] at hcj
      have hd := calls_nil hcj
      have hkk : raw.length ≤ kk := by
        by_cases c : raw.length ≤ kk
        · exact c
        · have := List.drop_eq_nil_iff.mp hd
          exact this
      rw [List.take_of_length_le hkk] at hfd
      obtain ⟨fs, a1, a2, a3⟩ := hfd
      exact Evl.s_ret (Evl.ev_var rfl) fun H5 e5 => k _ H5 ((e3.trans e4).trans e5) hfa ⟨fs, e5 _ _ (e4 _ _ a1), a2, fun i q c b1 b2 => (a3 i q c b1 b2).keep (fun _ h => h.1) fun x o _ hx => e5 _ _ (e4 _ _ hx)⟩

end
end Tp

namespace Tp
open PySem PySem.Spec PyProof.Rows L2
open Su196 (Instance)
open Evl (Ex Ev EvL EvT EvA EvO RetL RetV SpV SpL)
section
variable {P : Program} {w : World} {K : PySem.W.Frag} {mg : Str → Option Value} {base : Heap} {CW CI aS : Addr}

open Su196 (execute)
open Su196 (Operation)
structure Rq (H : Hp) (qn qr : Addr) (c : Nat) (op : Operation) (ns : List Int) (rs : List (List Int)) : Prop where
  ln : LI H qn ns
  lr : LLI H qr rs
  ic : IsCall c ns rs op
theorem Rq.mono {H H' : Hp} {qn qr : Addr} {c : Nat} {op : Operation} {ns : List Int} {rs : List (List Int)} (h : Rq H qn qr c op ns rs) (e : Ex H H') : Rq H' qn qr c op ns rs := ⟨h.ln.mono e, h.lr.mono e, h.ic⟩
def sp_ask (CI : Addr) : Sp := fun vs H Q _ => ∃ p c qn qr a op ns rs, vs = [.ref p, nV c, .ref qn, .ref qr] ∧ Inst CI H p a ∧ a.isReady = true ∧ Rq H qn qr c op ns rs ∧ (c ≠ 0 ∧ c ≠ 1 ∧ c ≠ 2 ∧ c ≠ 4 ∧ c ≠ 5 ∧ c ≠ 6 ∧ c ≠ 14) ∧ RetI (res (execute a op).2) H Q
def sp_perform_when_ready (CI : Addr) : Sp := fun vs H Q _ => ∃ F p c qn qr a op ns rs, vs = [.ref p, nV c, .ref qn, .ref qr] ∧ SW F CI H p a ∧ a.isReady = true ∧ Rq H qn qr c op ns rs ∧ (c ≠ 0 ∧ c ≠ 1 ∧ c ≠ 14) ∧ RetW F CI p (execute a op) H Q
def sp_perform (CW CI : Addr) : Sp := fun vs H Q _ => ∃ F pw s c qn qr op ns rs, vs = [.ref pw, nV c, .ref qn, .ref qr] ∧ WbF F CW CI H pw s ∧ Fr F H ∧ ¬ F pw ∧ Rq H qn qr c op ns rs ∧ RetB F CW CI pw (Su196.step s op) H Q
/-! the promises of the questions, as what a call gives -/
section
variable {CI : Addr} {H : Hp} {p q r : Addr} {a : Instance} {i l : Nat} {t : List Nat} {ps : List Int}
theorem v_allocation (h : Inst CI H p a) (hr : a.isReady = true) (hq : LN H q t) (hl : t.length ≤ 100) : SpL (sp_allocation CI) [.ref p, .ref q] H ((res (execute a (.allocation t)).2).map V.int) := fun _ e _ z _ => ⟨p, q, a, t, rfl, h.mono e, hr, hq.mono e, hl, z⟩
theorem v_misreport (h : Inst CI H p a) (hr : a.isReady = true) (hq : LN H q t) (hl : t.length ≤ 100) : SpL (sp_misreport_loss CI) [.ref p, nV i, nV l, .ref q] H ((res (execute a (.misreportLoss i l t)).2).map V.int) := fun _ e _ z _ => ⟨p, i, l, q, a, t, rfl, h.mono e, hr, hq.mono e, hl, z⟩
theorem v_cyclic (h : Inst CI H p a) (hr : a.isReady = true) : SpL (sp_is_cyclically_monotonic CI) [.ref p] H ((res (execute a .isCyclicallyMonotonic).2).map V.int) := fun _ e _ z _ => ⟨p, a, rfl, h.mono e, hr, z⟩
theorem v_weak (h : Inst CI H p a) (hr : a.isReady = true) : SpL (sp_is_weakly_monotonic CI) [.ref p] H ((res (execute a .isWeaklyMonotonic).2).map V.int) := fun _ e _ z _ => ⟨p, a, rfl, h.mono e, hr, z⟩
theorem v_bounds (h : Inst CI H p a) (hr : a.isReady = true) (hq : LN H q t) (hl : t.length ≤ 100) : SpL (sp_payment_bounds CI) [.ref p, nV i, .ref q] H ((res (execute a (.paymentBounds i t)).2).map V.int) := fun _ e _ z _ => ⟨p, i, q, a, t, rfl, h.mono e, hr, hq.mono e, hl, z⟩
theorem v_truthful (h : Inst CI H p a) (hr : a.isReady = true) (hq : LN H q t) (hl : t.length ≤ 100) (hp : LI H r ps) (hpl : ps.length ≤ 100) : SpL (sp_are_truthful_payments CI) [.ref p, nV i, .ref q, .ref r] H ((res (execute a (.areTruthfulPayments i t ps)).2).map V.int) := fun _ e _ z _ => ⟨p, i, q, r, a, t, ps, rfl, h.mono e, hr, hq.mono e, hl, hp.mono e, hpl, z⟩
theorem v_pivots (h : Inst CI H p a) (hr : a.isReady = true) (hq : LN H q t) (hl : t.length ≤ 100) : SpL (sp_pivot_payments CI) [.ref p, .ref q] H ((res (execute a (.pivotPayments t)).2).map V.int) := fun _ e _ z _ => ⟨p, q, a, t, rfl, h.mono e, hr, hq.mono e, hl, z⟩
theorem v_welfare (h : Inst CI H p a) (hr : a.isReady = true) (hq : LN H q t) (hl : t.length ≤ 100) : SpL (sp_welfare CI) [.ref p, .ref q] H ((res (execute a (.welfare t)).2).map V.int) := fun _ e _ z _ => ⟨p, q, a, t, rfl, h.mono e, hr, hq.mono e, hl, z⟩
theorem v_describe (h : Inst CI H p a) : SpL (sp_describe CI) [.ref p] H ((res (execute a .describe).2).map V.int) := fun _ e _ z _ => ⟨p, a, rfl, h.mono e, z⟩
theorem v_ask {c : Nat} {op : Operation} {ns : List Int} {rs : List (List Int)} {qn qr : Addr} (h : Inst CI H p a) (hr : a.isReady = true) (hq : Rq H qn qr c op ns rs) (hc : c ≠ 0 ∧ c ≠ 1 ∧ c ≠ 2 ∧ c ≠ 4 ∧ c ≠ 5 ∧ c ≠ 6 ∧ c ≠ 14) : SpL (sp_ask CI) [.ref p, nV c, .ref qn, .ref qr] H ((res (execute a op).2).map V.int) := fun _ e _ z _ => ⟨p, c, qn, qr, a, op, ns, rs, rfl, h.mono e, hr, hq.mono e, hc, z⟩
end
section
variable {K : PySem.W.Frag} {σ : L2.St} {H H' : Hp} {te tc : TE} {D : Ends} {tu tz : TS}
theorem q_code {c d : Nat} (h : Ev te σ H (nV c)) (hc : Ev tc σ H (.int (d : Int))) (k1 : c = d → ∀ H1, Ex H H1 → tu { D with nx := tz D } σ H1) (k2 : c ≠ d → ∀ H1, Ex H H1 → tz D σ H1) : tSeq (tIfS (tTest (tOp rEq te tc)) tu tNext) tz D σ H :=
  Evl.q_when (Evl.et_test (ev_eqI h hc)) (fun hb H1 e1 => k1 (by have := of_decide_eq_true hb; omega) H1 e1) (fun hb H1 e1 => k2 (by have := of_decide_eq_false hb; omega) H1 e1)
theorem ln_of {q : Addr} {t : List Nat} (h : LI H q (t.map Int.ofNat)) : LN H q t := by
  unfold LI at h
  rw [List.map_map] at h
  exact h
theorem row1 {q : Addr} {x : List Int} (h : LLI H q [x]) : ∃ (ps : List Addr) (q0 : Addr), H q = some (.lst (ps.map V.ref)) ∧ ps[0]? = some q0 ∧ LI H q0 x := by
  obtain ⟨ps, p1, p2, p3⟩ := LR.at h
  obtain ⟨q0, z1, z2⟩ := p3 0 x rfl
  exact ⟨ps, q0, p1, z1, z2⟩
theorem row2 {q : Addr} {x y : List Int} (h : LLI H q [x, y]) : ∃ (ps : List Addr) (q0 q1 : Addr), H q = some (.lst (ps.map V.ref)) ∧ ps[0]? = some q0 ∧ LI H q0 x ∧ ps[1]? = some q1 ∧ LI H q1 y := by
  obtain ⟨ps, p1, p2, p3⟩ := LR.at h
  obtain ⟨q0, z1, z2⟩ := p3 0 x rfl
  obtain ⟨q1, y1, y2⟩ := p3 1 y rfl
  exact ⟨ps, q0, q1, p1, z1, z2, y1, y2⟩
theorem ev_num0 {q : Addr} {x : Nat} {r : List Int} (h : Ev te σ H (.ref q)) (hq : LI H q ((x : Int) :: r)) : Ev (tOp (rIxL K) te (tC (.int 0))) σ H (nV x) := ev_ixL (i := 0) h Evl.ev_c hq rfl
theorem ev_num1 {q : Addr} {x y : Nat} {r : List Int} (h : Ev te σ H (.ref q)) (hq : LI H q ((x : Int) :: (y : Int) :: r)) : Ev (tOp (rIxL K) te (tC (.int 1))) σ H (nV y) := ev_ixL (i := 1) h Evl.ev_c hq rfl
theorem ev_row0 {q q0 : Addr} {ps : List Addr} (h : Ev te σ H (.ref q)) (hq : H q = some (.lst (ps.map V.ref))) (h0 : ps[0]? = some q0) : Ev (tOp (rIxL K) te (tC (.int 0))) σ H (.ref q0) := ev_ixL (i := 0) h Evl.ev_c hq (map_at (f := V.ref) h0)
theorem ev_row1 {q q0 : Addr} {ps : List Addr} (h : Ev te σ H (.ref q)) (hq : H q = some (.lst (ps.map V.ref))) (h0 : ps[1]? = some q0) : Ev (tOp (rIxL K) te (tC (.int 1))) σ H (.ref q0) := ev_ixL (i := 1) h Evl.ev_c hq (map_at (f := V.ref) h0)
theorem RetI.back {xs : List Int} {Q : VK} (k : RetI xs H Q) (e : Ex H H') : RetI xs H' Q := fun p H2 hp e2 h2 => Evl.RetL.go k e hp e2 h2
theorem RetW.back {F : Addr → Prop} {CI p : Addr} {z : Instance × Su196.Result} {Q : VK} (k : RetW F CI p z H Q) (e : Ex H H') : RetW F CI p z H' Q := fun c H2 fc kp hi hl => k c H2 fc ((Keep.of e).trans kp) hi hl
theorem RetB.back {F : Addr → Prop} {CW CI pw : Addr} {z : Option Instance × Su196.Result} {Q : VK} (k : RetB F CW CI pw z H Q) (e : Ex H H') : RetB F CW CI pw z H' Q := fun c H2 fc kp hi hl => k c H2 fc ((Keep.of e).trans kp) hi hl
/-- a question leaves the instance as it is -/
theorem RetW.read {F : Addr → Prop} {CI p : Addr} {a : Instance} {z : Instance × Su196.Result} {Q : VK} (k : RetW F CI p z H Q) (fr : Fr F H) (hi : InstF F CI H p a) (hz : z.1 = a) : RetI (res z.2) H Q := fun c H2 hc e2 h2 => k c H2 (fr c hc) (Keep.of e2) (by rw [hz]; exact hi.mono e2) h2
theorem RetB.read {F : Addr → Prop} {CW CI pw : Addr} {s : Option Instance} {z : Option Instance × Su196.Result} {Q : VK} (k : RetB F CW CI pw z H Q) (fr : Fr F H) (hi : WbF F CW CI H pw s) (hz : z.1 = s) : RetI (res z.2) H Q := fun c H2 hc e2 h2 => k c H2 (fr c hc) (Keep.of e2) (by rw [hz]; exact hi.mono e2) h2
end
theorem q_same {a : Instance} {c : Nat} {op : Operation} {ns : List Int} {rs : List (List Int)} (h : IsCall c ns rs op) (hc : c ≠ 0 ∧ c ≠ 1 ∧ c ≠ 2 ∧ c ≠ 4 ∧ c ≠ 5 ∧ c ≠ 6) : (execute a op).1 = a := by
  obtain ⟨c0, c1, c2, c4, c5, c6⟩ := hc
  cases h with
  | create n m => exact absurd rfl c0
  | addType i vs _ => exact absurd rfl c1
  | setAllocation x t _ => exact absurd rfl c2
  | welfareMax => exact absurd rfl c4
  | affineMax t _ => exact absurd rfl c5
  | agentMax i => exact absurd rfl c6
  | allocation t _ => simp only [execute]; (repeat' split) <;> rfl
  | misreport i l t _ => simp only [execute]; (repeat' split) <;> rfl
  | cyclic => simp only [execute]; (repeat' split) <;> rfl
  | weak => simp only [execute]; (repeat' split) <;> rfl
  | bounds i t _ => simp only [execute]; (repeat' split) <;> rfl
  | truthful i t ps _ _ => simp only [execute]; (repeat' split) <;> rfl
  | pivots t _ => simp only [execute]; (repeat' split) <;> rfl
  | welfare t _ => simp only [execute]; (repeat' split) <;> rfl
  | describe => rfl
theorem x_notready {a : Instance} {c : Nat} {op : Operation} {ns : List Int} {rs : List (List Int)} (h : IsCall c ns rs op) (hc : c ≠ 0 ∧ c ≠ 1 ∧ c ≠ 14) (hr : a.isReady = false) : execute a op = (a, Su196.error (-16)) := by
  obtain ⟨c0, c1, c2⟩ := hc
  cases h with
  | create n m => exact absurd rfl c0
  | addType i vs _ => exact absurd rfl c1
  | describe => exact absurd rfl c2
  | _ => simp only [execute]; rw [if_pos hr]
theorem step_none {c : Nat} {op : Operation} {ns : List Int} {rs : List (List Int)} (h : IsCall c ns rs op) (hc : c ≠ 0) : Su196.step none op = (none, Su196.error (-11)) := by
  cases h with
  | create n m => exact absurd rfl hc
  | _ => rfl
theorem step_some (a : Instance) (op : Operation) : Su196.step (some a) op = (some (execute a op).1, (execute a op).2) := rfl
/-- a call that works on the instance, seen from the workbench -/
theorem wb_inst {F : Addr → Prop} {CW CI : Addr} {H : Hp} {pw p : Addr} {dx : Addr} {z : Instance × Su196.Result} {Q : VK} (k : RetB F CW CI pw (some z.1, z.2) H Q) (hp : H pw = some (.ins CW dx [("instance", .ref p)])) (n : ¬ F pw) : RetW F CI p z H Q := fun c H2 fc kp hi hl =>
  k c H2 fc (kp.weak fun _ h => Or.inl h) ⟨dx, .ref p, kp _ _ hp n, p, rfl, hi⟩ hl
theorem ev_inst {K : PySem.W.Frag} {mg : Str → Option Value} {CW CI aS : Addr} {σ : L2.St} {H : Hp} {pw dx : Addr} {v : V} {to : TE} (T : Txt K mg CW CI aS) (hp : H pw = some (.ins CW dx [("instance", v)])) (ho : Ev to σ H (.ref pw)) : Ev (tFld K to "instance") σ H v := ev_fld ho hp T.clW T.nW lk_here

abbrev s_ask : Stmt := topS 77
theorem sc_ask : FnScope ["instance", "operation", "numbers", "rows"] ["instance", "operation", "numbers", "rows"] (defScope s_ask) := ⟨rfl, rfl, rfl, by decide +kernel, rfl, by decide +kernel, by decide +kernel⟩
theorem ok_ask {f : Addr} {fd : FuncData} (F : Fun K "ask" "ask" s_ask f fd) (T : Txt K mg CW CI aS) (G_allocation : C8.Cal P w K mg base 4 "allocation" (sp_allocation CI) []) (G_are_truthful_payments : C8.Cal P w K mg base 5 "are_truthful_payments" (sp_are_truthful_payments CI) []) (G_is_cyclically_monotonic : C8.Cal P w K mg base 7 "is_cyclically_monotonic" (sp_is_cyclically_monotonic CI) []) (G_is_weakly_monotonic : C8.Cal P w K mg base 7 "is_weakly_monotonic" (sp_is_weakly_monotonic CI) []) (G_misreport_loss : C8.Cal P w K mg base 5 "misreport_loss" (sp_misreport_loss CI) []) (G_payment_bounds : C8.Cal P w K mg base 5 "payment_bounds" (sp_payment_bounds CI) []) (G_pivot_payments : C8.Cal P w K mg base 6 "pivot_payments" (sp_pivot_payments CI) []) (G_welfare : C8.Cal P w K mg base 5 "welfare" (sp_welfare CI) []) : FnOk P w K mg base CX0 8 f fd ["instance", "operation", "numbers", "rows"] (sp_ask CI) := by
  have nd := sc_ask.nd
  refine F.ok sc_ask (fun vs H Q E h => ?_) (fun cdv A outer s H vs Q E hr h => ⟨_, (pss_cons (ps_if (pt_cmpR op_eq (pv 1) (C8.pe_gc rfl T.g_ALLOCATION) (nomark _))
   (pss_one (ps_ret (C8.pe_c G_allocation hr (by decide) rfl (pa_cons (pv 0) (pa_cons (pe_ix (ixL (K := K) rfl) (pv 3) pe_int (fun _ _ => rfl)) pa_nil))))) pss_nil)
  (pss_cons (ps_if (pt_cmpR op_eq (pv 1) (C8.pe_gc rfl T.g_MISREPORT_LOSS) (nomark _))
   (pss_one (ps_ret (C8.pe_c G_misreport_loss hr (by decide) rfl (pa_cons (pv 0) (pa_cons (pe_ix (ixL (K := K) rfl) (pv 2) pe_int (fun _ _ => rfl)) (pa_cons (pe_ix (ixL (K := K) rfl) (pv 2) pe_int (fun _ _ => rfl)) (pa_cons (pe_ix (ixL (K := K) rfl) (pv 3) pe_int (fun _ _ => rfl)) pa_nil))))))) pss_nil)
  (pss_cons (ps_if (pt_cmpR op_eq (pv 1) (C8.pe_gc rfl T.g_IS_CYCLICALLY_MONOTONIC) (nomark _))
   (pss_one (ps_ret (C8.pe_c G_is_cyclically_monotonic hr (by decide) rfl (pa_cons (pv 0) pa_nil)))) pss_nil)
  (pss_cons (ps_if (pt_cmpR op_eq (pv 1) (C8.pe_gc rfl T.g_IS_WEAKLY_MONOTONIC) (nomark _))
   (pss_one (ps_ret (C8.pe_c G_is_weakly_monotonic hr (by decide) rfl (pa_cons (pv 0) pa_nil)))) pss_nil)
  (pss_cons (ps_if (pt_cmpR op_eq (pv 1) (C8.pe_gc rfl T.g_PAYMENT_BOUNDS) (nomark _))
   (pss_one (ps_ret (C8.pe_c G_payment_bounds hr (by decide) rfl (pa_cons (pv 0) (pa_cons (pe_ix (ixL (K := K) rfl) (pv 2) pe_int (fun _ _ => rfl)) (pa_cons (pe_ix (ixL (K := K) rfl) (pv 3) pe_int (fun _ _ => rfl)) pa_nil)))))) pss_nil)
  (pss_cons (ps_if (pt_cmpR op_eq (pv 1) (C8.pe_gc rfl T.g_ARE_TRUTHFUL_PAYMENTS) (nomark _))
   (pss_one (ps_ret (C8.pe_c G_are_truthful_payments hr (by decide) rfl (pa_cons (pv 0) (pa_cons (pe_ix (ixL (K := K) rfl) (pv 2) pe_int (fun _ _ => rfl)) (pa_cons (pe_ix (ixL (K := K) rfl) (pv 3) pe_int (fun _ _ => rfl)) (pa_cons (pe_ix (ixL (K := K) rfl) (pv 3) pe_int (fun _ _ => rfl)) pa_nil))))))) pss_nil)
  (pss_cons (ps_if (pt_cmpR op_eq (pv 1) (C8.pe_gc rfl T.g_PIVOT_PAYMENTS) (nomark _))
   (pss_one (ps_ret (C8.pe_c G_pivot_payments hr (by decide) rfl (pa_cons (pv 0) (pa_cons (pe_ix (ixL (K := K) rfl) (pv 3) pe_int (fun _ _ => rfl)) pa_nil))))) pss_nil)
  (pss_one (ps_ret (C8.pe_c G_welfare hr (by decide) rfl (pa_cons (pv 0) (pa_cons (pe_ix (ixL (K := K) rfl) (pv 3) pe_int (fun _ _ => rfl)) pa_nil)))))))))))), ?_⟩)
  · obtain ⟨p, c, qn, qr, a, op, ns, rs, rfl, hI, hr, hq, hc, k⟩ := h
    rfl
  · obtain ⟨p, c, qn, qr, a, op, ns, rs, rfl, hI, hr, hq, hc, k⟩ := h
    refine q_code (d := 3) (Evl.ev_var rfl) Evl.ev_c (fun hd H1 e1 => ?_) (fun n3 H1 e1 => ?_)
    · subst hd
      have k := k.back e1
      have hI := hI.mono e1
      obtain ⟨ln, lr, ic⟩ := hq.mono e1
      cases ic with
      | allocation t hl =>
        obtain ⟨ps, q0, p1, p2, p3⟩ := row1 lr
        exact Evl.s_retL (el_call (Evl.ea_cons (Evl.ev_var rfl) (Evl.ea_cons (ev_row0 (Evl.ev_var rfl) p1 p2) Evl.ea_nil)) (v_allocation hI hr (ln_of p3) hl)) k
    have k := k.back e1
    have hI := hI.mono e1
    have hq := hq.mono e1
    refine q_code (d := 7) (Evl.ev_var rfl) Evl.ev_c (fun hd H2 e2 => ?_) (fun n7 H2 e2 => ?_)
    · subst hd
      have k := k.back e2
      have hI := hI.mono e2
      obtain ⟨ln, lr, ic⟩ := hq.mono e2
      cases ic with
      | misreport i l t hl =>
        obtain ⟨ps, q0, p1, p2, p3⟩ := row1 lr
        exact Evl.s_retL (el_call (Evl.ea_cons (Evl.ev_var rfl) (Evl.ea_cons (ev_num0 (Evl.ev_var rfl) ln) (Evl.ea_cons (ev_num1 (Evl.ev_var rfl) ln) (Evl.ea_cons (ev_row0 (Evl.ev_var rfl) p1 p2) Evl.ea_nil)))) (v_misreport hI hr (ln_of p3) hl)) k
    have k := k.back e2
    have hI := hI.mono e2
    have hq := hq.mono e2
    refine q_code (d := 8) (Evl.ev_var rfl) Evl.ev_c (fun hd H3 e3 => ?_) (fun n8 H3 e3 => ?_)
    · subst hd
      have k := k.back e3
      have hI := hI.mono e3
      obtain ⟨ln, lr, ic⟩ := hq.mono e3
      cases ic with
      | cyclic => exact Evl.s_retL (el_call (Evl.ea_cons (Evl.ev_var rfl) Evl.ea_nil) (v_cyclic hI hr)) k
    have k := k.back e3
    have hI := hI.mono e3
    have hq := hq.mono e3
    refine q_code (d := 9) (Evl.ev_var rfl) Evl.ev_c (fun hd H4 e4 => ?_) (fun n9 H4 e4 => ?_)
    · subst hd
      have k := k.back e4
      have hI := hI.mono e4
      obtain ⟨ln, lr, ic⟩ := hq.mono e4
      cases ic with
      | weak => exact Evl.s_retL (el_call (Evl.ea_cons (Evl.ev_var rfl) Evl.ea_nil) (v_weak hI hr)) k
    have k := k.back e4
    have hI := hI.mono e4
    have hq := hq.mono e4
    refine q_code (d := 10) (Evl.ev_var rfl) Evl.ev_c (fun hd H5 e5 => ?_) (fun n10 H5 e5 => ?_)
    · subst hd
      have k := k.back e5
      have hI := hI.mono e5
      obtain ⟨ln, lr, ic⟩ := hq.mono e5
      cases ic with
      | bounds i t hl =>
        obtain ⟨ps, q0, p1, p2, p3⟩ := row1 lr
        exact Evl.s_retL (el_call (Evl.ea_cons (Evl.ev_var rfl) (Evl.ea_cons (ev_num0 (Evl.ev_var rfl) ln) (Evl.ea_cons (ev_row0 (Evl.ev_var rfl) p1 p2) Evl.ea_nil))) (v_bounds hI hr (ln_of p3) hl)) k
    have k := k.back e5
    have hI := hI.mono e5
    have hq := hq.mono e5
    refine q_code (d := 11) (Evl.ev_var rfl) Evl.ev_c (fun hd H6 e6 => ?_) (fun n11 H6 e6 => ?_)
    · subst hd
      have k := k.back e6
      have hI := hI.mono e6
      obtain ⟨ln, lr, ic⟩ := hq.mono e6
      cases ic with
      | truthful i t us hl hul =>
        obtain ⟨ps, q0, q1, p1, p2, p3, p4, p5⟩ := row2 lr
        exact Evl.s_retL (el_call (Evl.ea_cons (Evl.ev_var rfl) (Evl.ea_cons (ev_num0 (Evl.ev_var rfl) ln) (Evl.ea_cons (ev_row0 (Evl.ev_var rfl) p1 p2) (Evl.ea_cons (ev_row1 (Evl.ev_var rfl) p1 p4) Evl.ea_nil)))) (v_truthful hI hr (ln_of p3) hl p5 hul)) k
    have k := k.back e6
    have hI := hI.mono e6
    have hq := hq.mono e6
    refine q_code (d := 12) (Evl.ev_var rfl) Evl.ev_c (fun hd H7 e7 => ?_) (fun n12 H7 e7 => ?_)
    · subst hd
      have k := k.back e7
      have hI := hI.mono e7
      obtain ⟨ln, lr, ic⟩ := hq.mono e7
      cases ic with
      | pivots t hl =>
        obtain ⟨ps, q0, p1, p2, p3⟩ := row1 lr
        exact Evl.s_retL (el_call (Evl.ea_cons (Evl.ev_var rfl) (Evl.ea_cons (ev_row0 (Evl.ev_var rfl) p1 p2) Evl.ea_nil)) (v_pivots hI hr (ln_of p3) hl)) k
    have k := k.back e7
    have hI := hI.mono e7
    obtain ⟨ln, lr, ic⟩ := hq.mono e7
    obtain ⟨c0, c1, c2, c4, c5, c6, c14⟩ := hc
    cases ic with
    | welfare t hl =>
      obtain ⟨ps, q0, p1, p2, p3⟩ := row1 lr
      exact Evl.s_retL (el_call (Evl.ea_cons (Evl.ev_var rfl) (Evl.ea_cons (ev_row0 (Evl.ev_var rfl) p1 p2) Evl.ea_nil)) (v_welfare hI hr (ln_of p3) hl)) k
    | create n m => exact absurd rfl c0
    | addType i vs _ => exact absurd rfl c1
    | setAllocation x t _ => exact absurd rfl c2
    | allocation t _ => exact absurd rfl n3
    | welfareMax => exact absurd rfl c4
    | affineMax t _ => exact absurd rfl c5
    | agentMax i => exact absurd rfl c6
    | misreport i l t _ => exact absurd rfl n7
    | cyclic => exact absurd rfl n8
    | weak => exact absurd rfl n9
    | bounds i t _ => exact absurd rfl n10
    | truthful i t us _ _ => exact absurd rfl n11
    | pivots t _ => exact absurd rfl n12
    | describe => exact absurd rfl c14

abbrev s_perform_when_ready : Stmt := topS 76
theorem sc_perform_when_ready : FnScope ["instance", "operation", "numbers", "rows"] ["instance", "operation", "numbers", "rows"] (defScope s_perform_when_ready) := ⟨rfl, rfl, rfl, by decide +kernel, rfl, by decide +kernel, by decide +kernel⟩
theorem ok_perform_when_ready {f : Addr} {fd : FuncData} (F : Fun K "perform_when_ready" "perform_when_ready" s_perform_when_ready f fd) (T : Txt K mg CW CI aS) (G_ask : C8.Cal P w K mg base 8 "ask" (sp_ask CI) []) (G_set_allocation : C8.Cal P w K mg base 4 "set_allocation" (sp_set_allocation CI) []) (G_use_affine_maximizer : C8.Cal P w K mg base 6 "use_affine_maximizer" (sp_use_affine_maximizer CI) []) (G_use_agent_maximizer : C8.Cal P w K mg base 6 "use_agent_maximizer" (sp_use_agent_maximizer CI) []) (G_use_welfare_maximizer : C8.Cal P w K mg base 6 "use_welfare_maximizer" (sp_use_welfare_maximizer CI) []) : FnOk P w K mg base CX0 9 f fd ["instance", "operation", "numbers", "rows"] (sp_perform_when_ready CI) := by
  have nd := sc_perform_when_ready.nd
  refine F.ok sc_perform_when_ready (fun vs H Q E h => ?_) (fun cdv A outer s H vs Q E hr h => ⟨_, (pss_cons (ps_if (pt_cmpR op_eq (pv 1) (C8.pe_gc rfl T.g_SET_ALLOCATION) (nomark _))
   (pss_one (ps_ret (C8.pe_c G_set_allocation hr (by decide) rfl (pa_cons (pv 0) (pa_cons (pe_ix (ixL (K := K) rfl) (pv 2) pe_int (fun _ _ => rfl)) (pa_cons (pe_ix (ixL (K := K) rfl) (pv 3) pe_int (fun _ _ => rfl)) pa_nil)))))) pss_nil)
  (pss_cons (ps_if (pt_cmpR op_eq (pv 1) (C8.pe_gc rfl T.g_USE_WELFARE_MAXIMIZER) (nomark _))
   (pss_one (ps_ret (C8.pe_c G_use_welfare_maximizer hr (by decide) rfl (pa_cons (pv 0) pa_nil)))) pss_nil)
  (pss_cons (ps_if (pt_cmpR op_eq (pv 1) (C8.pe_gc rfl T.g_USE_AFFINE_MAXIMIZER) (nomark _))
   (pss_one (ps_ret (C8.pe_c G_use_affine_maximizer hr (by decide) rfl (pa_cons (pv 0) (pa_cons (pe_ix (ixL (K := K) rfl) (pv 3) pe_int (fun _ _ => rfl)) pa_nil))))) pss_nil)
  (pss_cons (ps_if (pt_cmpR op_eq (pv 1) (C8.pe_gc rfl T.g_USE_AGENT_MAXIMIZER) (nomark _))
   (pss_one (ps_ret (C8.pe_c G_use_agent_maximizer hr (by decide) rfl (pa_cons (pv 0) (pa_cons (pe_ix (ixL (K := K) rfl) (pv 2) pe_int (fun _ _ => rfl)) pa_nil))))) pss_nil)
  (pss_one (ps_ret (C8.pe_c G_ask hr (by decide) rfl (pa_cons (pv 0) (pa_cons (pv 1) (pa_cons (pv 2) (pa_cons (pv 3) pa_nil))))))))))), ?_⟩)
  · obtain ⟨F, p, c, qn, qr, a, op, ns, rs, rfl, hW, hr, hq, hc, k⟩ := h
    rfl
  · obtain ⟨F, p, c, qn, qr, a, op, ns, rs, rfl, hW, hr, hq, hc, k⟩ := h
    refine q_code (d := 2) (Evl.ev_var rfl) Evl.ev_c (fun hd H1 e1 => ?_) (fun n2 H1 e1 => ?_)
    · subst hd
      have k := k.back e1
      have hW := hW.mono e1
      obtain ⟨ln, lr, ic⟩ := hq.mono e1
      cases ic with
      | setAllocation x t hl =>
        obtain ⟨ps, q0, p1, p2, p3⟩ := row1 lr
        refine s_retC (eap_of (Evl.ea_cons (Evl.ev_var rfl) (Evl.ea_cons (ev_num0 (Evl.ev_var rfl) ln) (Evl.ea_cons (ev_row0 (Evl.ev_var rfl) p1 p2) Evl.ea_nil)))) ?_
        rintro vs H2 e2 rfl
        exact ⟨F, p, x, q0, a, t, rfl, hW.mono e2, hr, (ln_of p3).mono e2, hl, k.back e2⟩
    have k := k.back e1
    have hW := hW.mono e1
    have hq := hq.mono e1
    refine q_code (d := 4) (Evl.ev_var rfl) Evl.ev_c (fun hd H2 e2 => ?_) (fun n4 H2 e2 => ?_)
    · subst hd
      have k := k.back e2
      have hW := hW.mono e2
      obtain ⟨ln, lr, ic⟩ := hq.mono e2
      cases ic with
      | welfareMax =>
        refine s_retC (eap_of (Evl.ea_cons (Evl.ev_var rfl) Evl.ea_nil)) ?_
        rintro vs H3 e3 rfl
        exact ⟨F, p, a, rfl, hW.mono e3, hr, k.back e3⟩
    have k := k.back e2
    have hW := hW.mono e2
    have hq := hq.mono e2
    refine q_code (d := 5) (Evl.ev_var rfl) Evl.ev_c (fun hd H3 e3 => ?_) (fun n5 H3 e3 => ?_)
    · subst hd
      have k := k.back e3
      have hW := hW.mono e3
      obtain ⟨ln, lr, ic⟩ := hq.mono e3
      cases ic with
      | affineMax t hl =>
        obtain ⟨ps, q0, p1, p2, p3⟩ := row1 lr
        refine s_retC (eap_of (Evl.ea_cons (Evl.ev_var rfl) (Evl.ea_cons (ev_row0 (Evl.ev_var rfl) p1 p2) Evl.ea_nil))) ?_
        rintro vs H4 e4 rfl
        exact ⟨F, p, q0, a, t, rfl, hW.mono e4, hr, (ln_of p3).mono e4, hl, k.back e4⟩
    have k := k.back e3
    have hW := hW.mono e3
    have hq := hq.mono e3
    refine q_code (d := 6) (Evl.ev_var rfl) Evl.ev_c (fun hd H4 e4 => ?_) (fun n6 H4 e4 => ?_)
    · subst hd
      have k := k.back e4
      have hW := hW.mono e4
      obtain ⟨ln, lr, ic⟩ := hq.mono e4
      cases ic with
      | agentMax i =>
        refine s_retC (eap_of (Evl.ea_cons (Evl.ev_var rfl) (Evl.ea_cons (ev_num0 (Evl.ev_var rfl) ln) Evl.ea_nil))) ?_
        rintro vs H5 e5 rfl
        exact ⟨F, p, i, a, rfl, hW.mono e5, hr, k.back e5⟩
    have k := k.back e4
    have hW := hW.mono e4
    have hq := hq.mono e4
    exact Evl.s_retL (el_call (Evl.ea_cons (Evl.ev_var rfl) (Evl.ea_cons (Evl.ev_var rfl) (Evl.ea_cons (Evl.ev_var rfl) (Evl.ea_cons (Evl.ev_var rfl) Evl.ea_nil)))) (v_ask hW.inst.inst hr hq ⟨hc.1, hc.2.1, n2, n4, n5, n6, hc.2.2⟩)) (k.read hW.fr hW.inst (q_same hq.ic ⟨hc.1, hc.2.1, n2, n4, n5, n6⟩))

abbrev s_perform : Stmt := topS 75
theorem sc_perform : FnScope ["workbench", "operation", "numbers", "rows", "instance"] ["workbench", "operation", "numbers", "rows"] (defScope s_perform) := ⟨rfl, rfl, rfl, by decide +kernel, rfl, by decide +kernel, by decide +kernel⟩
theorem ok_perform {f : Addr} {fd : FuncData} (F : Fun K "perform" "perform" s_perform f fd) (T : Txt K mg CW CI aS) (G_add_kind : C8.Cal P w K mg base 3 "add_kind" (sp_add_kind CI) []) (G_create : C8.Cal P w K mg base 3 "create" (sp_create CW CI) []) (G_describe : C8.Cal P w K mg base 2 "describe" (sp_describe CI) []) (G_m_is_ready : C8.Met P w K mg base 1 CI "is_ready" (sp_is_ready CI) []) (G_perform_when_ready : C8.Cal P w K mg base 9 "perform_when_ready" (sp_perform_when_ready CI) []) : FnOk P w K mg base CX0 10 f fd ["workbench", "operation", "numbers", "rows"] (sp_perform CW CI) := by
  have nd := sc_perform.nd
  refine F.ok sc_perform (fun vs H Q E h => ?_) (fun cdv A outer s H vs Q E hr h => ⟨_, (pss_cons (ps_if (pt_cmpR op_eq (pv 1) (C8.pe_gc rfl T.g_CREATE) (nomark _))
   (pss_one (ps_ret (C8.pe_c G_create hr (by decide) rfl (pa_cons (pv 0) (pa_cons (pe_ix (ixL (K := K) rfl) (pv 2) pe_int (fun _ _ => rfl)) (pa_cons (pe_ix (ixL (K := K) rfl) (pv 2) pe_int (fun _ _ => rfl)) pa_nil)))))) pss_nil)
  (pss_cons (ps_set (i := 4) nd rfl (Or.inl rfl) (pe_fld (pv 0) rfl))
  (pss_cons (ps_if (pt_cmpR opIsN (pv 4) pe_non (nomark _))
   (pss_one (ps_ret (pe_lst (pa_cons (C8.pe_gc rfl T.g_NO_INSTANCE) pa_nil)))) pss_nil)
  (pss_cons (ps_if (pt_cmpR op_eq (pv 1) (C8.pe_gc rfl T.g_ADD_KIND) (nomark _))
   (pss_one (ps_ret (C8.pe_c G_add_kind hr (by decide) rfl (pa_cons (pv 4) (pa_cons (pe_ix (ixL (K := K) rfl) (pv 2) pe_int (fun _ _ => rfl)) (pa_cons (pe_ix (ixL (K := K) rfl) (pv 3) pe_int (fun _ _ => rfl)) pa_nil)))))) pss_nil)
  (pss_cons (ps_if (pt_cmpR op_eq (pv 1) (C8.pe_gc rfl T.g_DESCRIBE) (nomark _))
   (pss_one (ps_ret (C8.pe_c G_describe hr (by decide) rfl (pa_cons (pv 4) pa_nil)))) pss_nil)
  (pss_cons (ps_if (pt_not (pt_val (C8.pe_mt0 G_m_is_ready hr (by decide) (pv 4))))
   (pss_one (ps_ret (pe_lst (pa_cons (C8.pe_gc rfl T.g_NOT_READY) pa_nil)))) pss_nil)
  (pss_one (ps_ret (C8.pe_c G_perform_when_ready hr (by decide) rfl (pa_cons (pv 4) (pa_cons (pv 1) (pa_cons (pv 2) (pa_cons (pv 3) pa_nil))))))))))))), ?_⟩)
  · obtain ⟨F, pw, s, c, qn, qr, op, ns, rs, rfl, hW, fr, npw, hq, k⟩ := h
    rfl
  · obtain ⟨F, pw, s, c, qn, qr, op, ns, rs, rfl, hW, fr, npw, hq, k⟩ := h
    refine q_code (d := 0) (Evl.ev_var rfl) Evl.ev_c (fun hd H1 e1 => ?_) (fun n0 H1 e1 => ?_)
    · subst hd
      have k := k.back e1
      have hW := hW.mono e1
      obtain ⟨ln, lr, ic⟩ := hq.mono e1
      cases ic with
      | create n m =>
        refine s_retC (eap_of (Evl.ea_cons (Evl.ev_var rfl) (Evl.ea_cons (ev_num0 (Evl.ev_var rfl) ln) (Evl.ea_cons (ev_num1 (Evl.ev_var rfl) ln) Evl.ea_nil)))) ?_
        rintro vs H2 e2 rfl
        exact ⟨F, pw, s, n, m, rfl, hW.mono e2, (fr.ex e1).ex e2, npw, k.back e2⟩
    have k := k.back e1
    have hW := hW.mono e1
    have hq := hq.mono e1
    have fr := fr.ex e1
    obtain ⟨dx, v, h1, h2⟩ := hW.ex
    refine Evl.q_asg (ev_inst T h1 (Evl.ev_var rfl)) fun H2 e2 => ?_
    have k := k.back e2
    have hq := hq.mono e2
    have fr := fr.ex e2
    cases s with
    | none =>
      have h3 : v = .non := h2
      subst h3
      refine Evl.q_when (Evl.et_is (Evl.et_test (ev_isN (Evl.ev_var rfl))) (b := true) rfl) (fun _ H3 e3 => ?_) (fun hb => by cases hb)
      have hz := step_none hq.ic n0
      rw [hz] at k
      exact ret_B fr k (Keep.of e3) ((hW.mono e2).mono e3) rfl Evl.ev_c rfl
    | some a =>
      obtain ⟨p, rfl, hF⟩ := h2
      refine Evl.q_when (Evl.et_is (Evl.et_test (ev_isN (Evl.ev_var rfl))) (b := false) rfl) (fun hb => by cases hb) (fun _ H3 e3 => ?_)
      rw [step_some] at k
      have hpw3 := e3 _ _ (e2 _ _ h1)
      have k : RetW F CI p (execute a op) H3 Q := wb_inst (k.back e3) hpw3 npw
      have hq := hq.mono e3
      have hS : SW F CI H3 p a := ⟨(hF.mono e2).mono e3, fr.ex e3⟩
      refine q_code (d := 1) (Evl.ev_var rfl) Evl.ev_c (fun hd H4 e4 => ?_) (fun n1 H4 e4 => ?_)
      · subst hd
        have k := k.back e4
        have hS := hS.mono e4
        obtain ⟨ln, lr, ic⟩ := hq.mono e4
        cases ic with
        | addType i us hl =>
          obtain ⟨ps, q0, p1, p2, p3⟩ := row1 lr
          refine s_retC (eap_of (Evl.ea_cons (Evl.ev_var rfl) (Evl.ea_cons (ev_num0 (Evl.ev_var rfl) ln) (Evl.ea_cons (ev_row0 (Evl.ev_var rfl) p1 p2) Evl.ea_nil)))) ?_
          rintro vs H5 e5 rfl
          exact ⟨F, p, i, q0, a, us, rfl, hS.mono e5, p3.mono e5, hl, k.back e5⟩
      have k := k.back e4
      have hS := hS.mono e4
      have hq := hq.mono e4
      refine q_code (d := 14) (Evl.ev_var rfl) Evl.ev_c (fun hd H5 e5 => ?_) (fun n14 H5 e5 => ?_)
      · subst hd
        have k := k.back e5
        have hS := hS.mono e5
        obtain ⟨ln, lr, ic⟩ := hq.mono e5
        cases ic with
        | describe => exact Evl.s_retL (el_call (Evl.ea_cons (Evl.ev_var rfl) Evl.ea_nil) (v_describe hS.inst.inst)) (k.read hS.fr hS.inst rfl)
      have k := k.back e5
      have hS := hS.mono e5
      have hq := hq.mono e5
      refine Evl.q_when (Evl.et_not (Evl.et_B (ev_m hS.inst.inst (fun _ _ _ _ => fs_is_ready) (Evl.ev_var rfl) Evl.ea_nil (v_is_ready hS.inst.inst)))) (fun hb H6 e6 => ?_) (fun hb H6 e6 => ?_)
      · rw [x_notready hq.ic ⟨n0, n1, n14⟩ (not_t hb)] at k
        exact ret_W hS.fr k (Keep.of e6) (hS.inst.mono e6) rfl Evl.ev_c rfl
      · refine s_retC (eap_of (Evl.ea_cons (Evl.ev_var rfl) (Evl.ea_cons (Evl.ev_var rfl) (Evl.ea_cons (Evl.ev_var rfl) (Evl.ea_cons (Evl.ev_var rfl) Evl.ea_nil))))) ?_
        rintro vs H7 e7 rfl
        exact ⟨F, p, c, qn, qr, a, op, ns, rs, rfl, (hS.mono e6).mono e7, not_f hb, (hq.mono e6).mono e7, ⟨n0, n1, n14⟩, (k.back e6).back e7⟩

end
end Tp

namespace Tp
open PySem PySem.Spec PyProof.Rows L2
open Su196 (Instance)
open Evl (Ex Ev EvL EvT EvA EvO RetL RetV SpV SpL)
section
variable {P : Program} {w : World} {K : PySem.W.Frag} {mg : Str → Option Value} {base : Heap} {CW CI aS : Addr}

open Su196 (Operation)
def sp_answers (K : PySem.W.Frag) : Sp := fun vs H Q _ => ∃ (q : Addr) (l : List Int), vs = [.ref q] ∧ SqL K H q (l.map V.int) ∧ PySu196.answers_asked l = true ∧ ∀ H' p, H' p = some (.lst ((PySu196.answers l).map V.int)) → Q (.ref p) H'
section
variable {K : PySem.W.Frag} {σ : L2.St} {H : Hp} {te : TE} {tt : TA} {D : Ends} {tu tz : TS}
theorem q_asgQ {i : Nat} (h : te σ H fun v H1 => tz D (σ.set i (some v)) H1) : tSeq (tAsg te (gName i)) tz D σ H := h
theorem t_call {sp : Sp} {E : XK} {vs : List V} {Q : VK} (ha : EvA tt σ H vs) (k : ∀ H1, Ex H H1 → sp vs H1 Q E) : tCall sp [] E tt σ H Q := ha H (Ex.refl H) _ fun H1 e1 => by
  rw [List.append_nil]
  exact k H1 e1
theorem q_forC {g : TG} {Cond : Addr → Hp → Prop} (h : ∀ Q : VK, (∀ p H1, Cond p H1 → Q (.ref p) H1) → te σ H Q)
    (k : ∀ p H1, Cond p H1 → ∃ (xs : List V) (Pv : Nat → L2.St → Hp → Prop), H1 p = some (.lst xs) ∧ Pv 0 σ H1 ∧ (∀ i σ' H', Pv i σ' H' → H' p = some (.lst xs)) ∧
      (∀ i x σ' H', xs[i]? = some x → Pv i σ' H' → g x σ' H' fun σ2 H2 => tu { D with nx := Pv (i + 1), ct := Pv (i + 1), bk := tz D } σ2 H2) ∧ (∀ σ' H', Pv xs.length σ' H' → tz D σ' H')) : tSeq (tFor (iList K te) g tu) tz D σ H :=
  h _ fun p H1 hc => by
    obtain ⟨xs, Pv, hx, h0, hl, hs, hd⟩ := k p H1 hc
    exact ⟨p, rfl, ⟨xs, Evl.sq_of hx⟩, for_list (D := { D with nx := tz D }) Pv h0 (fun i σ' H' _ p => Evl.sq_of (hl i σ' H' p)) hs hd⟩
end
theorem played_len {s : Option Instance} (h : ∀ a, s = some a → WF a) : ∀ (raw : List (List (List Int))), (∀ c ∈ raw, Good c) → (∀ n a, stAfter s ((raw.take n).map opOf) = some a → WF a) → ∀ n, (PyFlat.told (playOps s ((raw.take n).map opOf))).length ≤ 21 * n := by
  intro raw hg hw n
  induction n with
  | zero =>
    rw [List.take_zero]
    exact Nat.zero_le _
  | succ n ih =>
    by_cases c : n < raw.length
    · have e : raw[n]? = some raw[n] := List.getElem?_eq_getElem c
      obtain ⟨z, ns, rs, _, ic, _⟩ := hg _ (List.mem_of_getElem? e)
      rw [List.take_add_one, e, List.map_append]
      show (PyFlat.told (playOps s ((raw.take n).map opOf ++ [opOf raw[n]]))).length ≤ _
      rw [play_snoc, told_snoc, List.length_append, List.length_cons]
      have := step_len (s := stAfter s ((raw.take n).map opOf)) (hw n) ic
      omega
    · rw [List.take_of_length_le (by omega)]
      rw [List.take_of_length_le (by omega)] at ih
      omega

/-- the workbench stays where all of F and itself stay -/
theorem wb_keep {F : Addr → Prop} {CW CI : Addr} {H H' : Hp} {pw : Addr} {s : Option Instance} (h : WbF F CW CI H pw s) (k : ∀ y o, ¬ ¬ F y → H y = some o → H' y = some o) (kp : ∀ {o : HO}, H pw = some o → H' pw = some o) : WbF F CW CI H' pw s := by
  obtain ⟨dx, v, h1, h2⟩ := h.ex
  refine ⟨dx, v, kp h1, ?_⟩
  cases s with
  | none => exact h2
  | some a =>
    obtain ⟨p, rfl, h3⟩ := h2
    exact ⟨p, rfl, h3.keepF fun x o fx hx => k x o (fun n => n fx) hx⟩

abbrev s_answers : Stmt := topS 74
theorem sc_answers : FnScope ["calls", "given", "workbench", "operation", "numbers", "rows", "answer"] ["calls"] (defScope s_answers) := ⟨rfl, rfl, rfl, by decide +kernel, rfl, by decide +kernel, by decide +kernel⟩
theorem ok_answers {f : Addr} {fd : FuncData} (F : Fun K "answers" "answers" s_answers f fd) (T : Txt K mg CW CI aS) {fW : Addr} {fdW : FuncData} (M_Workbench : Mk K CW fW) (G_Workbench_init : FnOk P w K mg base CX0 1 fW fdW ["self"] (sp_Workbench CW)) (b_Workbench_init : Binds K fdW ["self"] []) (G_perform : C8.Cal P w K mg base 10 "perform" (sp_perform CW CI) []) (G_read_calls : C8.Cal P w K mg base 2 "read_calls" (sp_read_calls K) []) : FnOk P w K mg base CX0 11 f fd ["calls"] (sp_answers K) := by
  have nd := sc_answers.nd
  refine F.ok sc_answers (fun vs H Q E h => ?_) (fun cdv A outer s H vs Q E hr h => ⟨_, (pss_cons (ps_set (i := 1) nd rfl (Or.inl rfl) (pe_lst pa_nil))
  (pss_cons (ps_set (i := 2) nd rfl (Or.inl rfl) (pe_make0 M_Workbench G_Workbench_init (hr.mono (by decide)) rfl T.c_Workbench b_Workbench_init .nil pass0))
  (pss_cons (ps_for PassesOwn.never rfl (pi_list (C8.pe_c G_read_calls hr (by decide) rfl (pa_cons (pv 0) pa_nil))) (pg_trip (K := K) (i := 3) (j := 4) (k := 5) rfl rfl nd rfl (by first | exact Or.inl rfl | exact Or.inr rfl) (by first | exact Or.inl rfl | exact Or.inr rfl) rfl (by first | exact Or.inl rfl | exact Or.inr rfl) (by first | exact Or.inl rfl | exact Or.inr rfl) rfl (by first | exact Or.inl rfl | exact Or.inr rfl) (by first | exact Or.inl rfl | exact Or.inr rfl))
   (pss_cons (ps_set (i := 6) nd rfl (Or.inl rfl) (C8.pe_c G_perform hr (by decide) rfl (pa_cons (pv 2) (pa_cons (pv 3) (pa_cons (pv 4) (pa_cons (pv 5) pa_nil))))))
  (pss_cons (ps_expr (pe_bm PySem.F.plainAttrs_list PySem.F.slot_list_append PySem.F.type_list_append mt_append (pv 1) (pa_cons (pe_callB (call_len1 (K := K) rfl) (by rfl) T.b_len PySem.boot_len (pa_cons (pv 6) pa_nil)) pa_nil)))
  (pss_one (ps_expr (pe_bm PySem.F.plainAttrs_list PySem.F.slot_list_extend PySem.F.type_list_extend mt_extend (pv 1) (pa_cons (pv 6) pa_nil)))))))
  (pss_one (ps_ret (pv 1)))))), ?_⟩)
  · obtain ⟨q, l, rfl, hq, hask, k⟩ := h
    rfl
  · obtain ⟨q, l, rfl, hq, hask, k⟩ := h
    obtain ⟨raw, hc, hrl, hgood, hans⟩ := asked_is hask
    refine Evl.q_asgL (Evl.el_lst Evl.ea_nil (by show 0 ≤ 100000; decide)) fun g H1 hg e1 hlg => ?_
    refine q_asgQ (t_make Evl.ea_nil fun H2 e2 pw dx hx hdx hne => ⟨pw, dx, rfl, upd_same, fun H3 k3 h3 => ⟨rfl, ?_⟩⟩)
    have en : Ex H2 (upd (upd H2 dx (.own pw)) pw (.ins CW dx [])) := by
      refine (Ex.new hdx).trans (Ex.new ?_)
      rw [upd_ne fun z => hne z.symm]
      exact hx
    have e3 : Ex H2 H3 := fun y o hy => k3 y o (en y o hy) fun z => by
      have z : y = pw := z
      rw [z, hx] at hy
      cases hy
    have hg3 : H3 g = some (.lst []) := e3 _ _ (e2 _ _ hlg)
    have gpw : g ≠ pw := fun z => by
      rw [z, h3] at hg3
      cases hg3
    have e03 : Ex H H3 := (e1.trans e2).trans e3
    refine q_forC (Cond := fun p H' => ∃ H0, Ex H3 H0 ∧ H3 p = none ∧ Ex H0 H' ∧ CallsAt (fun y => H3 y = none) H0 p raw) (fun Q hQ => t_call (Evl.ea_cons (Evl.ev_var rfl) Evl.ea_nil) fun H4 e4 => ⟨q, l, l.length, raw, rfl, Evl.ex_l (e03.trans e4) hq, by omega, hc, fun p H5 e5 hp hca => hQ p H5 ⟨H5, e4.trans e5, Evl.fresh_back e4 hp, Ex.refl _, ?_⟩⟩) ?_
    · obtain ⟨fs, f1, f2, f3⟩ := hca
      exact ⟨fs, f1, f2, fun i q' c' b1 b2 => (f3 i q' c' b1 b2).keep (fun y hy => Evl.fresh_back e4 hy) fun y o _ hy => hy⟩
    rintro p H0 ⟨H0', e0, hp, e0b, hca0⟩
    have hca : CallsAt (fun y => H3 y = none) H0 p raw := by
      obtain ⟨fs, f1, f2, f3⟩ := hca0
      exact ⟨fs, e0b _ _ f1, f2, fun i q' c' b1 b2 => (f3 i q' c' b1 b2).keep (fun _ h => h) fun y o _ hy => e0b _ _ hy⟩
    have e30 : Ex H3 H0 := e0.trans e0b
    clear hca0
    obtain ⟨fs, f1, f2, f3⟩ := hca
    let F : Addr → Prop := fun y => H0 y = none
    have hg0 : H0 g = some (.lst []) := e30 _ _ hg3
    have hpw0 : H0 pw = some (.ins CW dx [("instance", .non)]) := e30 _ _ h3
    have npw : ¬ F pw := fun z => by
      have z : H0 pw = none := z
      rw [hpw0] at z
      cases z
    have ng : ¬ F g := fun z => by
      have z : H0 g = none := z
      rw [hg0] at z
      cases z
    have old : ∀ {y : Addr} {o : HO} {H' : Hp}, Keep (fun y => F y ∨ y = pw ∨ y = g) H0 H' → H3 y = none → H0 y = some o → H' y = some o := fun {y o H'} kp n h => kp y o h fun z => by
      rcases z with z | z | z
      · have z : H0 y = none := z
        rw [h] at z
        cases z
      · rw [z, h3] at n
        cases n
      · rw [z, hg3] at n
        cases n
    refine ⟨fs.map V.ref, fun i σ' H' => ∃ v3 v4 v5 v6, σ' = [some (.ref q), some (.ref g), some (.ref pw), v3, v4, v5, v6] ∧ Keep (fun y => F y ∨ y = pw ∨ y = g) H0 H' ∧ LI H' g (PyFlat.told (playOps none ((raw.take i).map opOf))) ∧ WbF F CW CI H' pw (stAfter none ((raw.take i).map opOf)) ∧ i ≤ raw.length ∧ ∀ n a, n ≤ i → stAfter none ((raw.take n).map opOf) = some a → WF a, f1, ?_, ?_, ?_, ?_⟩
    · refine ⟨none, none, none, none, rfl, Keep.of (Ex.refl _), hg0, ⟨dx, .non, hpw0, rfl⟩, Nat.zero_le _, fun n a hn h => ?_⟩
      have e : n = 0 := by omega
      subst e
      cases h
    · rintro i σ' H' ⟨v3, v4, v5, v6, rfl, kp, _⟩
      exact old kp hp f1
    · rintro i x σ' H' hx ⟨v3, v4, v5, v6, rfl, kp, hl, hw, hi, hwf⟩
      obtain ⟨qt, x1, rfl⟩ := map_at' hx
      have hir : i < raw.length := by
        rw [← f2]
        exact (List.getElem?_eq_some_iff.mp x1).1
      have x2 : raw[i]? = some raw[i] := List.getElem?_eq_getElem hir
      have hca := f3 i qt _ x1 x2
      have hgd := hgood _ (List.mem_of_getElem? x2)
      generalize raw[i] = c at x2 hca hgd
      obtain ⟨z, ns, rs, ec, ic, _⟩ := hgd
      obtain ⟨z', ns', rs', qn, qr, ps, ec', nt, nn, nr, ht, hn, hr, hpl, hps⟩ := hca
      rw [ec] at ec'
      injection ec' with ea er
      injection ea with ez en'
      subst ez
      subst en'
      subst er
      have hlen : (PyFlat.told (playOps none ((raw.take i).map opOf))).length ≤ 21 * i := by
        have h2 := played_len (s := none) (fun a h => by cases h) (raw.take i) (fun c hc => hgood c (List.mem_of_mem_take hc)) (fun n a h => by
          rw [List.take_take] at h
          exact hwf (min n i) a (Nat.min_le_right ..) h) i
        rw [List.take_take, Nat.min_self] at h2
        exact h2
      have hsl := step_len (s := stAfter none ((raw.take i).map opOf)) (fun a h => hwf i a (Nat.le_refl _) h) ic
      refine ⟨qt, .int (z : Int), .ref qn, .ref qr, rfl, Evl.st_of (old kp nt ht), ?_⟩
      refine q_asgQ (t_call (Evl.ea_cons (Evl.ev_var rfl) (Evl.ea_cons (Evl.ev_var rfl) (Evl.ea_cons (Evl.ev_var rfl) (Evl.ea_cons (Evl.ev_var rfl) Evl.ea_nil)))) fun H4 e4 => ⟨F, pw, stAfter none ((raw.take i).map opOf), z, qn, qr, opOf c, ns, rs, rfl, hw.mono e4, ?_, npw, ⟨LI.mono (old kp nn hn) e4, ⟨ps, e4 _ _ (old kp nr hr), hpl, fun j x y a b => LI.mono (old kp (hps j x y a b).1 (hps j x y a b).2) e4⟩, ic⟩, fun r H5 fr5 k5 hw5 hl5 => ?_⟩)
      · intro y hy
        have hy' := Evl.fresh_back e4 hy
        by_cases cF : F y
        · exact cF
        · cases h0 : H0 y with
          | none => exact h0
          | some o =>
            by_cases c1 : y = pw
            · obtain ⟨dx', v', w1, _⟩ := hw.ex
              rw [c1, w1] at hy'
              cases hy'
            · by_cases c2 : y = g
              · have hl' : H' g = some _ := hl
                rw [c2, hl'] at hy'
                cases hy'
              · have := kp y o h0 (by
                  rintro (z | z | z)
                  · exact cF z
                  · exact c1 z
                  · exact c2 z)
                rw [this] at hy'
                cases hy'
      · have hg5 : H5 g = some (.lst ((PyFlat.told (playOps none ((raw.take i).map opOf))).map V.int)) := k5 _ _ (e4 _ _ hl) (by
          rintro (z | z)
          · exact ng z
          · exact gpw z)
        have rg : r ≠ g := fun z => ng (by rw [← z]; exact fr5)
        refine Evl.q_app (v := .int (((res (Su196.step (stAfter none ((raw.take i).map opOf)) (opOf c)).2).length : Nat) : Int)) hg5 (Evl.ev_var rfl) (Evl.ev_is (Evl.ev_len (Evl.ev_var rfl) (Evl.sq_of hl5)) (by rw [List.length_map])) (by rw [List.length_map]; omega) fun H6 e6 => ?_
        have hr6 : upd H6 g (.lst ((PyFlat.told (playOps none ((raw.take i).map opOf))).map V.int ++ [.int (((res (Su196.step (stAfter none ((raw.take i).map opOf)) (opOf c)).2).length : Nat) : Int)])) r = some (.lst ((res (Su196.step (stAfter none ((raw.take i).map opOf)) (opOf c)).2).map V.int)) := by
          rw [upd_ne rg]
          exact e6 _ _ hl5
        refine s_ext upd_same (Evl.ev_var rfl) (evX_R (Evl.ev_var rfl) hr6) (by rw [List.length_append, List.length_map, List.length_map]; show _ + 1 + _ ≤ 100000; omega) fun H7 e7 => ?_
        have etake : (raw.take (i + 1)).map opOf = (raw.take i).map opOf ++ [opOf c] := by
          rw [List.take_add_one, x2, List.map_append]
          rfl
        have hpw7 : ∀ {y : Addr} {o : HO}, y ≠ g → H5 y = some o → upd H7 g (.lst (((PyFlat.told (playOps none ((raw.take i).map opOf))).map V.int ++ [.int (((res (Su196.step (stAfter none ((raw.take i).map opOf)) (opOf c)).2).length : Nat) : Int)]) ++ (res (Su196.step (stAfter none ((raw.take i).map opOf)) (opOf c)).2).map V.int)) y = some o := fun {y o} n h => by
          rw [upd_ne n]
          refine e7 _ _ ?_
          rw [upd_ne n]
          exact e6 _ _ h
        have hw7 : WbF F CW CI (upd H7 g (.lst (((PyFlat.told (playOps none ((raw.take i).map opOf))).map V.int ++ [.int (((res (Su196.step (stAfter none ((raw.take i).map opOf)) (opOf c)).2).length : Nat) : Int)]) ++ (res (Su196.step (stAfter none ((raw.take i).map opOf)) (opOf c)).2).map V.int))) pw (stAfter none ((raw.take (i + 1)).map opOf)) := by
          rw [etake, st_snoc]
          exact wb_keep hw5 (fun y o n h => hpw7 (fun z => n (by rw [z]; exact ng)) h) (hpw7 (fun z => gpw z.symm))
        refine ⟨_, _, _, _, rfl, fun y o hy hn => ?_, ?_, hw7, hir, fun n a hn h => ?_⟩
        · refine hpw7 (fun z => hn (Or.inr (Or.inr z))) (k5 y o (e4 _ _ (kp y o hy hn)) ?_)
          rintro (z | z)
          · exact hn (Or.inl z)
          · exact hn (Or.inr (Or.inl z))
        · rw [etake, play_snoc, told_snoc]
          unfold LI
          rw [upd_same, List.map_append, List.map_cons, List.append_assoc]
          rfl
        · by_cases cn : n ≤ i
          · exact hwf n a cn h
          · have en : n = i + 1 := by omega
            subst en
            obtain ⟨dx', v', w1, w2⟩ := hw7.ex
            rw [h] at w2
            obtain ⟨pi, _, w3⟩ := w2
            exact w3.wf
    · rintro σ' H' ⟨v3, v4, v5, v6, rfl, kp, hl, hw, hi, hwf⟩
      rw [List.length_map, f2, List.take_of_length_le (Nat.le_refl _), ← hans] at hl
      exact Evl.s_ret (Evl.ev_var rfl) fun H5 e5 => k _ _ (e5 _ _ hl)

end
end Tp

namespace Tp
open PySem PySem.Spec PyProof.Rows L2
open Su196 (Instance)
open Evl (Ex Ev EvL EvT EvA EvO RetL RetV SpV SpL)
section
variable {P : Program} {w : World} {K : PySem.W.Frag} {mg : Str → Option Value} {base : Heap} {CW CI aS : Addr}
end
end Tp
namespace Tp
open PySem PySem.Spec PyProof.Rows L2
open Su196 (Instance)
/-! # The end: what the top has written -/
structure ND (K : PySem.W.Frag) (x : Str) (st : Stmt) (f : Addr) : Prop where
  at_ : PySem.W.nsIn K mainGlobals x = some (some (.ref f))
  fn : ∃ fd, Fun K x x st f fd
structure MD (K : PySem.W.Frag) (C : Addr) (m qual : Str) (st : Stmt) (f : Addr) : Prop where
  at_ : PySem.W.findIn K (.ref C) m = some (some (.ref f))
  isf : PySem.W.isFn K (.ref f) = true
  fn : ∃ fd, Fun K m qual st f fd
theorem nd_mk {K : PySem.W.Frag} {x : Str} {st : Stmt} {f : Addr} {oc : Value} {od an : Option Addr} {osl : Array (Option Value)} {kV doc pm cdv ct : Value} (a : PySem.W.nsIn K mainGlobals x = some (some (.ref f))) (l : K.lookup f = some ⟨oc, od, .func (PySem.W.fnOf x x (defArgs st) (defBody st) (defScope st) .none kV doc pm an cdv ct), osl⟩)
    (c : PySem.W.codeIn K cdv x = true) (k : PySem.W.keepIn K (.ref f) = true) : ∃ f, ND K x st f := ⟨f, a, _, fun_mk l c k⟩
theorem md_mk {K : PySem.W.Frag} {C : Addr} {m qual : Str} {st : Stmt} {f : Addr} {oc : Value} {od an : Option Addr} {osl : Array (Option Value)} {kV doc pm cdv ct : Value} (a : PySem.W.findIn K (.ref C) m = some (some (.ref f))) (i : PySem.W.isFn K (.ref f) = true) (l : K.lookup f = some ⟨oc, od, .func (PySem.W.fnOf m qual (defArgs st) (defBody st) (defScope st) .none kV doc pm an cdv ct), osl⟩)
    (c : PySem.W.codeIn K cdv qual = true) (k : PySem.W.keepIn K (.ref f) = true) : ∃ f, MD K C m qual st f := ⟨f, a, i, _, fun_mk l c k⟩
theorem tup_mk {K : PySem.W.Frag} {a : Addr} {od : Option Addr} {osl : Array (Option Value)} {n : Nat} {us : Array Value} {xs : List V} (l : K.lookup a = some ⟨.type "tuple", od, .seq us n, osl⟩) (hz : us.size ≤ 100) (hv : Vals xs us.toList) : ∀ H, SqT K H a xs := fun _ =>
  Or.inr ⟨_, us, n, l, rfl, rfl, Nat.le_trans hz (by decide), hv⟩
section
variable {P : Program} {w : World} {K : PySem.W.Frag} {mg : Str → Option Value} {base h : Heap} {CW CI aS : Addr}
theorem cal_mk {x : Str} {st : Stmt} {ps : List Str} {sp : Sp} {k : Nat} (X : K.In h) (G : h.Ns mainGlobals mg) (n : ∃ f, ND K x st f) (b : ∀ (kV doc pm : Value) (an : Option Addr) (cdv ct : Value) (us : List Value), us.length = ps.length → bindArgs (PySem.W.fnOf x x (defArgs st) (defBody st) (defScope st) .none kV doc pm an cdv ct) ⟨us, []⟩ = pure (ps.zip us))
    (ok : ∀ f fd, Fun K x x st f fd → FnOk P w K mg base CX0 k f fd ps sp) : C8.Cal P w K mg base k x sp [] := by
  obtain ⟨f, n, fd, F⟩ := n
  exact ⟨f, fd, ps, [], ok f fd F, PySem.W.mg_of X G n, F.kp, F.binds b, .nil⟩
theorem met_mk {m qual : Str} {st : Stmt} {ps : List Str} {sp : Sp} {k : Nat} (c : Cls K CI) (n : ∃ f, MD K CI m qual st f) (b : ∀ (kV doc pm : Value) (an : Option Addr) (cdv ct : Value) (us : List Value), us.length = ps.length → bindArgs (PySem.W.fnOf m qual (defArgs st) (defBody st) (defScope st) .none kV doc pm an cdv ct) ⟨us, []⟩ = pure (ps.zip us))
    (ok : ∀ f fd, Fun K m qual st f fd → FnOk P w K mg base CX0 k f fd ps sp) : C8.Met P w K mg base k CI m sp [] := by
  obtain ⟨f, n, i, fd, F⟩ := n
  exact ⟨f, fd, ps, [], c, ⟨n, i, F.kp⟩, ok f fd F, F.binds b, .nil⟩
end
theorem answers_ok {P : Program} {w : World} {K : PySem.W.Frag} {mg : Str → Option Value} {base h : Heap} {CW CI aS : Addr} (X : K.In h) (G : h.Ns mainGlobals mg) (T : Txt K mg CW CI aS) (S : Sh K aS) (mkW : PySem.W.makesIn K CW = true) (kW : PySem.W.keepIn K (.ref CW) = true) (mkI : PySem.W.makesIn K CI = true) (kI : PySem.W.keepIn K (.ref CI) = true)
    (n_fits : ∃ f, ND K "fits" s_fits f)
    (n_score : ∃ f, ND K "score" s_score f)
    (n_scores : ∃ f, ND K "scores" s_scores f)
    (n_best_alternative : ∃ f, ND K "best_alternative" s_best_alternative f)
    (n_allocate_best : ∃ f, ND K "allocate_best" s_allocate_best f)
    (n_total_values : ∃ f, ND K "total_values" s_total_values f)
    (n_others_values : ∃ f, ND K "others_values" s_others_values f)
    (n_create : ∃ f, ND K "create" s_create f)
    (n_add_kind : ∃ f, ND K "add_kind" s_add_kind f)
    (n_set_allocation : ∃ f, ND K "set_allocation" s_set_allocation f)
    (n_use_welfare_maximizer : ∃ f, ND K "use_welfare_maximizer" s_use_welfare_maximizer f)
    (n_use_affine_maximizer : ∃ f, ND K "use_affine_maximizer" s_use_affine_maximizer f)
    (n_use_agent_maximizer : ∃ f, ND K "use_agent_maximizer" s_use_agent_maximizer f)
    (n_cycles_of : ∃ f, ND K "cycles_of" s_cycles_of f)
    (n_cycle_length : ∃ f, ND K "cycle_length" s_cycle_length f)
    (n_first_negative : ∃ f, ND K "first_negative" s_first_negative f)
    (n_base_profiles : ∃ f, ND K "base_profiles" s_base_profiles f)
    (n_first_violation : ∃ f, ND K "first_violation" s_first_violation f)
    (n_are_truthful : ∃ f, ND K "are_truthful" s_are_truthful f)
    (n_distances : ∃ f, ND K "distances" s_distances f)
    (n_shortened : ∃ f, ND K "shortened" s_shortened f)
    (n_pivot_payment : ∃ f, ND K "pivot_payment" s_pivot_payment f)
    (n_allocation : ∃ f, ND K "allocation" s_allocation f)
    (n_misreport_loss : ∃ f, ND K "misreport_loss" s_misreport_loss f)
    (n_is_cyclically_monotonic : ∃ f, ND K "is_cyclically_monotonic" s_is_cyclically_monotonic f)
    (n_is_weakly_monotonic : ∃ f, ND K "is_weakly_monotonic" s_is_weakly_monotonic f)
    (n_is_monotonic : ∃ f, ND K "is_monotonic" s_is_monotonic f)
    (n_payment_bounds : ∃ f, ND K "payment_bounds" s_payment_bounds f)
    (n_are_truthful_payments : ∃ f, ND K "are_truthful_payments" s_are_truthful_payments f)
    (n_pivot_payments : ∃ f, ND K "pivot_payments" s_pivot_payments f)
    (n_welfare : ∃ f, ND K "welfare" s_welfare f)
    (n_describe : ∃ f, ND K "describe" s_describe f)
    (n_read_calls : ∃ f, ND K "read_calls" s_read_calls f)
    (n_read_rows : ∃ f, ND K "read_rows" s_read_rows f)
    (n_answers : ∃ f, ND K "answers" s_answers f)
    (n_perform : ∃ f, ND K "perform" s_perform f)
    (n_perform_when_ready : ∃ f, ND K "perform_when_ready" s_perform_when_ready f)
    (n_ask : ∃ f, ND K "ask" s_ask f)
    (n_m_is_ready : ∃ f, MD K CI "is_ready" "Instance.is_ready" s_m_is_ready f)
    (n_m_has_agent : ∃ f, MD K CI "has_agent" "Instance.has_agent" s_m_has_agent f)
    (n_m_kind_count : ∃ f, MD K CI "kind_count" "Instance.kind_count" s_m_kind_count f)
    (n_m_has_kind : ∃ f, MD K CI "has_kind" "Instance.has_kind" s_m_has_kind f)
    (n_m_has_alternative : ∃ f, MD K CI "has_alternative" "Instance.has_alternative" s_m_has_alternative f)
    (n_m_is_profile : ∃ f, MD K CI "is_profile" "Instance.is_profile" s_m_is_profile f)
    (n_m_profiles : ∃ f, MD K CI "profiles" "Instance.profiles" s_m_profiles f)
    (n_m_place : ∃ f, MD K CI "place" "Instance.place" s_m_place f)
    (n_m_value : ∃ f, MD K CI "value" "Instance.value" s_m_value f)
    (n_m_allocated : ∃ f, MD K CI "allocated" "Instance.allocated" s_m_allocated f)
    (n_m_allocated_if : ∃ f, MD K CI "allocated_if" "Instance.allocated_if" s_m_allocated_if f)
    (n_m_losses : ∃ f, MD K CI "losses" "Instance.losses" s_m_losses f)
    (n_m_append_kind : ∃ f, MD K CI "append_kind" "Instance.append_kind" s_m_append_kind f)
    (n_Instance_init : ∃ f, MD K CI "__init__" "Instance.__init__" s_Instance_init f)
    (n_Workbench_init : ∃ f, MD K CW "__init__" "Workbench.__init__" s_Workbench_init f) :
    ∀ f fd, Fun K "answers" "answers" s_answers f fd → FnOk P w K mg base CX0 11 f fd ["calls"] (sp_answers K) := by
  have G_Instance : C8.Mak P w K mg base 1 "Instance" CI (sp_Instance CI) [] := by
    obtain ⟨f, n, i, fd, F⟩ := n_Instance_init
    exact ⟨f, fd, ["self", "agent_count", "alternative_count"], [], ⟨mkI, n, i, kI⟩, ok_Instance_init F T, T.c_Instance, F.binds (fun _ _ _ _ _ _ us hl => match us, hl with | [_, _, _], _ => rfl), .nil⟩
  have G_m_is_ready : C8.Met P w K mg base 1 CI "is_ready" (sp_is_ready CI) [] := met_mk (ps := ["self"]) T.cl n_m_is_ready (fun _ _ _ _ _ _ us hl => match us, hl with | [_], _ => rfl) fun f fd F => ok_m_is_ready F T
  have G_m_has_agent : C8.Met P w K mg base 1 CI "has_agent" (sp_has_agent CI) [] := met_mk (ps := ["self", "agent"]) T.cl n_m_has_agent (fun _ _ _ _ _ _ us hl => match us, hl with | [_, _], _ => rfl) fun f fd F => ok_m_has_agent F T
  have G_m_kind_count : C8.Met P w K mg base 1 CI "kind_count" (sp_kind_count CI) [] := met_mk (ps := ["self", "agent"]) T.cl n_m_kind_count (fun _ _ _ _ _ _ us hl => match us, hl with | [_, _], _ => rfl) fun f fd F => ok_m_kind_count F T
  have G_m_has_alternative : C8.Met P w K mg base 1 CI "has_alternative" (sp_has_alternative CI) [] := met_mk (ps := ["self", "alternative"]) T.cl n_m_has_alternative (fun _ _ _ _ _ _ us hl => match us, hl with | [_, _], _ => rfl) fun f fd F => ok_m_has_alternative F T
  have G_m_profiles : C8.Met P w K mg base 1 CI "profiles" (sp_profiles CI) [] := met_mk (ps := ["self"]) T.cl n_m_profiles (fun _ _ _ _ _ _ us hl => match us, hl with | [_], _ => rfl) fun f fd F => ok_m_profiles F T
  have G_m_place : C8.Met P w K mg base 1 CI "place" (sp_place CI) [] := met_mk (ps := ["self", "profile"]) T.cl n_m_place (fun _ _ _ _ _ _ us hl => match us, hl with | [_, _], _ => rfl) fun f fd F => ok_m_place F T
  have G_m_value : C8.Met P w K mg base 1 CI "value" (sp_value CI) [] := met_mk (ps := ["self", "agent", "kind", "alternative"]) T.cl n_m_value (fun _ _ _ _ _ _ us hl => match us, hl with | [_, _, _, _], _ => rfl) fun f fd F => ok_m_value F T
  have G_fits : C8.Cal P w K mg base 1 "fits" sp_fits [] := cal_mk (ps := ["numbers", "count", "greatest"]) X G n_fits (fun _ _ _ _ _ _ us hl => match us, hl with | [_, _, _], _ => rfl) fun f fd F => ok_fits F T
  have G_cycles_of : C8.Cal P w K mg base 1 "cycles_of" sp_cycles_of [] := cal_mk (ps := ["count", "most"]) X G n_cycles_of (fun _ _ _ _ _ _ us hl => match us, hl with | [_, _], _ => rfl) fun f fd F => ok_cycles_of F T
  have G_cycle_length : C8.Cal P w K mg base 1 "cycle_length" sp_cycle_length [] := cal_mk (ps := ["losses", "cycle"]) X G n_cycle_length (fun _ _ _ _ _ _ us hl => match us, hl with | [_, _], _ => rfl) fun f fd F => ok_cycle_length F T
  have G_are_truthful : C8.Cal P w K mg base 1 "are_truthful" sp_are_truthful [] := cal_mk (ps := ["losses", "payments"]) X G n_are_truthful (fun _ _ _ _ _ _ us hl => match us, hl with | [_, _], _ => rfl) fun f fd F => ok_are_truthful F T
  have G_shortened : C8.Cal P w K mg base 1 "shortened" sp_shortened [] := cal_mk (ps := ["lengths", "half", "rest"]) X G n_shortened (fun _ _ _ _ _ _ us hl => match us, hl with | [_, _, _], _ => rfl) fun f fd F => ok_shortened F T
  have G_read_rows : C8.Cal P w K mg base 1 "read_rows" (sp_read_rows K) [] := cal_mk (ps := ["calls", "at", "count"]) X G n_read_rows (fun _ _ _ _ _ _ us hl => match us, hl with | [_, _, _], _ => rfl) fun f fd F => ok_read_rows F T
  have G_m_has_kind : C8.Met P w K mg base 2 CI "has_kind" (sp_has_kind CI) [] := met_mk (ps := ["self", "agent", "kind"]) T.cl n_m_has_kind (fun _ _ _ _ _ _ us hl => match us, hl with | [_, _, _], _ => rfl) fun f fd F => ok_m_has_kind F T G_m_kind_count
  have G_m_allocated : C8.Met P w K mg base 2 CI "allocated" (sp_allocated CI) [] := met_mk (ps := ["self", "profile"]) T.cl n_m_allocated (fun _ _ _ _ _ _ us hl => match us, hl with | [_, _], _ => rfl) fun f fd F => ok_m_allocated F T G_m_place
  have G_m_append_kind : C8.Met P w K mg base 2 CI "append_kind" (sp_append_kind CI) [] := met_mk (ps := ["self", "agent", "valuation"]) T.cl n_m_append_kind (fun _ _ _ _ _ _ us hl => match us, hl with | [_, _, _], _ => rfl) fun f fd F => ok_m_append_kind F T G_m_profiles
  have G_score : C8.Cal P w K mg base 2 "score" (sp_score CI) [] := cal_mk (ps := ["instance", "weights", "boosts", "profile", "alternative"]) X G n_score (fun _ _ _ _ _ _ us hl => match us, hl with | [_, _, _, _, _], _ => rfl) fun f fd F => ok_score F T G_m_value
  have G_first_negative : C8.Cal P w K mg base 2 "first_negative" sp_first_negative [] := cal_mk (ps := ["losses", "cycles"]) X G n_first_negative (fun _ _ _ _ _ _ us hl => match us, hl with | [_, _], _ => rfl) fun f fd F => ok_first_negative F T G_cycle_length
  have G_base_profiles : C8.Cal P w K mg base 2 "base_profiles" (sp_base_profiles CI) [] := cal_mk (ps := ["instance", "agent"]) X G n_base_profiles (fun _ _ _ _ _ _ us hl => match us, hl with | [_, _], _ => rfl) fun f fd F => ok_base_profiles F T G_m_profiles
  have G_distances : C8.Cal P w K mg base 2 "distances" sp_distances [] := cal_mk (ps := ["losses"]) X G n_distances (fun _ _ _ _ _ _ us hl => match us, hl with | [_], _ => rfl) fun f fd F => ok_distances F T G_shortened
  have G_describe : C8.Cal P w K mg base 2 "describe" (sp_describe CI) [] := cal_mk (ps := ["instance"]) X G n_describe (fun _ _ _ _ _ _ us hl => match us, hl with | [_], _ => rfl) fun f fd F => ok_describe F T G_m_kind_count
  have G_read_calls : C8.Cal P w K mg base 2 "read_calls" (sp_read_calls K) [] := cal_mk (ps := ["calls"]) X G n_read_calls (fun _ _ _ _ _ _ us hl => match us, hl with | [_], _ => rfl) fun f fd F => ok_read_calls F T S G_read_rows
  have G_m_is_profile : C8.Met P w K mg base 3 CI "is_profile" (sp_is_profile CI) [] := met_mk (ps := ["self", "profile"]) T.cl n_m_is_profile (fun _ _ _ _ _ _ us hl => match us, hl with | [_, _], _ => rfl) fun f fd F => ok_m_is_profile F T G_m_has_kind
  have G_m_allocated_if : C8.Met P w K mg base 3 CI "allocated_if" (sp_allocated_if CI) [] := met_mk (ps := ["self", "agent", "kind", "profile"]) T.cl n_m_allocated_if (fun _ _ _ _ _ _ us hl => match us, hl with | [_, _, _, _], _ => rfl) fun f fd F => ok_m_allocated_if F T G_m_allocated
  have G_scores : C8.Cal P w K mg base 3 "scores" (sp_scores CI) [] := cal_mk (ps := ["instance", "weights", "boosts", "profile"]) X G n_scores (fun _ _ _ _ _ _ us hl => match us, hl with | [_, _, _, _], _ => rfl) fun f fd F => ok_scores F T G_score
  have G_create : C8.Cal P w K mg base 3 "create" (sp_create CW CI) [] := cal_mk (ps := ["workbench", "agent_count", "alternative_count"]) X G n_create (fun _ _ _ _ _ _ us hl => match us, hl with | [_, _, _], _ => rfl) fun f fd F => ok_create F T G_Instance
  have G_add_kind : C8.Cal P w K mg base 3 "add_kind" (sp_add_kind CI) [] := cal_mk (ps := ["instance", "agent", "valuation"]) X G n_add_kind (fun _ _ _ _ _ _ us hl => match us, hl with | [_, _, _], _ => rfl) fun f fd F => ok_add_kind F T G_fits G_m_append_kind G_m_has_agent G_m_kind_count
  have G_m_losses : C8.Met P w K mg base 4 CI "losses" (sp_losses CI) [] := met_mk (ps := ["self", "agent", "profile"]) T.cl n_m_losses (fun _ _ _ _ _ _ us hl => match us, hl with | [_, _, _], _ => rfl) fun f fd F => ok_m_losses F T G_m_allocated_if G_m_kind_count
  have G_best_alternative : C8.Cal P w K mg base 4 "best_alternative" (sp_best_alternative CI) [] := cal_mk (ps := ["instance", "weights", "boosts", "profile"]) X G n_best_alternative (fun _ _ _ _ _ _ us hl => match us, hl with | [_, _, _, _], _ => rfl) fun f fd F => ok_best_alternative F T G_scores
  have G_total_values : C8.Cal P w K mg base 4 "total_values" (sp_total_values CI) [] := cal_mk (ps := ["instance", "profile"]) X G n_total_values (fun _ _ _ _ _ _ us hl => match us, hl with | [_, _], _ => rfl) fun f fd F => ok_total_values F T G_scores
  have G_others_values : C8.Cal P w K mg base 4 "others_values" (sp_others_values CI) [] := cal_mk (ps := ["instance", "agent", "profile"]) X G n_others_values (fun _ _ _ _ _ _ us hl => match us, hl with | [_, _, _], _ => rfl) fun f fd F => ok_others_values F T G_scores
  have G_set_allocation : C8.Cal P w K mg base 4 "set_allocation" (sp_set_allocation CI) [] := cal_mk (ps := ["instance", "alternative", "profile"]) X G n_set_allocation (fun _ _ _ _ _ _ us hl => match us, hl with | [_, _, _], _ => rfl) fun f fd F => ok_set_allocation F T G_m_allocated G_m_has_alternative G_m_is_profile G_m_place
  have G_allocation : C8.Cal P w K mg base 4 "allocation" (sp_allocation CI) [] := cal_mk (ps := ["instance", "profile"]) X G n_allocation (fun _ _ _ _ _ _ us hl => match us, hl with | [_, _], _ => rfl) fun f fd F => ok_allocation F T G_m_allocated G_m_is_profile
  have G_allocate_best : C8.Cal P w K mg base 5 "allocate_best" (sp_allocate_best CI) [] := cal_mk (ps := ["instance", "weights", "boosts"]) X G n_allocate_best (fun _ _ _ _ _ _ us hl => match us, hl with | [_, _, _], _ => rfl) fun f fd F => ok_allocate_best F T G_best_alternative G_m_profiles
  have G_first_violation : C8.Cal P w K mg base 5 "first_violation" (sp_first_violation CI) [] := cal_mk (ps := ["instance", "most"]) X G n_first_violation (fun _ _ _ _ _ _ us hl => match us, hl with | [_, _], _ => rfl) fun f fd F => ok_first_violation F T G_base_profiles G_cycles_of G_first_negative G_m_kind_count G_m_losses
  have G_pivot_payment : C8.Cal P w K mg base 5 "pivot_payment" (sp_pivot_payment CI) [] := cal_mk (ps := ["instance", "agent", "profile"]) X G n_pivot_payment (fun _ _ _ _ _ _ us hl => match us, hl with | [_, _, _], _ => rfl) fun f fd F => ok_pivot_payment F T G_m_allocated G_others_values
  have G_misreport_loss : C8.Cal P w K mg base 5 "misreport_loss" (sp_misreport_loss CI) [] := cal_mk (ps := ["instance", "agent", "reported", "profile"]) X G n_misreport_loss (fun _ _ _ _ _ _ us hl => match us, hl with | [_, _, _, _], _ => rfl) fun f fd F => ok_misreport_loss F T G_m_has_agent G_m_has_kind G_m_is_profile G_m_losses
  have G_payment_bounds : C8.Cal P w K mg base 5 "payment_bounds" (sp_payment_bounds CI) [] := cal_mk (ps := ["instance", "agent", "profile"]) X G n_payment_bounds (fun _ _ _ _ _ _ us hl => match us, hl with | [_, _, _], _ => rfl) fun f fd F => ok_payment_bounds F T G_cycles_of G_distances G_first_negative G_m_has_agent G_m_is_profile G_m_losses
  have G_are_truthful_payments : C8.Cal P w K mg base 5 "are_truthful_payments" (sp_are_truthful_payments CI) [] := cal_mk (ps := ["instance", "agent", "profile", "payments"]) X G n_are_truthful_payments (fun _ _ _ _ _ _ us hl => match us, hl with | [_, _, _, _], _ => rfl) fun f fd F => ok_are_truthful_payments F T G_are_truthful G_fits G_m_has_agent G_m_is_profile G_m_kind_count G_m_losses
  have G_welfare : C8.Cal P w K mg base 5 "welfare" (sp_welfare CI) [] := cal_mk (ps := ["instance", "profile"]) X G n_welfare (fun _ _ _ _ _ _ us hl => match us, hl with | [_, _], _ => rfl) fun f fd F => ok_welfare F T G_m_allocated G_m_is_profile G_total_values
  have G_use_welfare_maximizer : C8.Cal P w K mg base 6 "use_welfare_maximizer" (sp_use_welfare_maximizer CI) [] := cal_mk (ps := ["instance"]) X G n_use_welfare_maximizer (fun _ _ _ _ _ _ us hl => match us, hl with | [_], _ => rfl) fun f fd F => ok_use_welfare_maximizer F T G_allocate_best
  have G_use_affine_maximizer : C8.Cal P w K mg base 6 "use_affine_maximizer" (sp_use_affine_maximizer CI) [] := cal_mk (ps := ["instance", "weights_and_boosts"]) X G n_use_affine_maximizer (fun _ _ _ _ _ _ us hl => match us, hl with | [_, _], _ => rfl) fun f fd F => ok_use_affine_maximizer F T G_allocate_best G_fits
  have G_use_agent_maximizer : C8.Cal P w K mg base 6 "use_agent_maximizer" (sp_use_agent_maximizer CI) [] := cal_mk (ps := ["instance", "agent"]) X G n_use_agent_maximizer (fun _ _ _ _ _ _ us hl => match us, hl with | [_, _], _ => rfl) fun f fd F => ok_use_agent_maximizer F T G_allocate_best G_m_has_agent
  have G_is_monotonic : C8.Cal P w K mg base 6 "is_monotonic" (sp_is_monotonic CI) [] := cal_mk (ps := ["instance", "most"]) X G n_is_monotonic (fun _ _ _ _ _ _ us hl => match us, hl with | [_, _], _ => rfl) fun f fd F => ok_is_monotonic F T G_first_violation
  have G_pivot_payments : C8.Cal P w K mg base 6 "pivot_payments" (sp_pivot_payments CI) [] := cal_mk (ps := ["instance", "profile"]) X G n_pivot_payments (fun _ _ _ _ _ _ us hl => match us, hl with | [_, _], _ => rfl) fun f fd F => ok_pivot_payments F T G_m_is_profile G_pivot_payment
  have G_is_cyclically_monotonic : C8.Cal P w K mg base 7 "is_cyclically_monotonic" (sp_is_cyclically_monotonic CI) [] := cal_mk (ps := ["instance"]) X G n_is_cyclically_monotonic (fun _ _ _ _ _ _ us hl => match us, hl with | [_], _ => rfl) fun f fd F => ok_is_cyclically_monotonic F T G_is_monotonic
  have G_is_weakly_monotonic : C8.Cal P w K mg base 7 "is_weakly_monotonic" (sp_is_weakly_monotonic CI) [] := cal_mk (ps := ["instance"]) X G n_is_weakly_monotonic (fun _ _ _ _ _ _ us hl => match us, hl with | [_], _ => rfl) fun f fd F => ok_is_weakly_monotonic F T G_is_monotonic
  have G_ask : C8.Cal P w K mg base 8 "ask" (sp_ask CI) [] := cal_mk (ps := ["instance", "operation", "numbers", "rows"]) X G n_ask (fun _ _ _ _ _ _ us hl => match us, hl with | [_, _, _, _], _ => rfl) fun f fd F => ok_ask F T G_allocation G_are_truthful_payments G_is_cyclically_monotonic G_is_weakly_monotonic G_misreport_loss G_payment_bounds G_pivot_payments G_welfare
  have G_perform_when_ready : C8.Cal P w K mg base 9 "perform_when_ready" (sp_perform_when_ready CI) [] := cal_mk (ps := ["instance", "operation", "numbers", "rows"]) X G n_perform_when_ready (fun _ _ _ _ _ _ us hl => match us, hl with | [_, _, _, _], _ => rfl) fun f fd F => ok_perform_when_ready F T G_ask G_set_allocation G_use_affine_maximizer G_use_agent_maximizer G_use_welfare_maximizer
  have G_perform : C8.Cal P w K mg base 10 "perform" (sp_perform CW CI) [] := cal_mk (ps := ["workbench", "operation", "numbers", "rows"]) X G n_perform (fun _ _ _ _ _ _ us hl => match us, hl with | [_, _, _, _], _ => rfl) fun f fd F => ok_perform F T G_add_kind G_create G_describe G_m_is_ready G_perform_when_ready
  obtain ⟨fW, nW, iW, fdW, FW⟩ := n_Workbench_init
  exact fun f fd F => ok_answers F T ⟨mkW, nW, iW, kW⟩ (ok_Workbench_init FW T) (FW.binds (ps := ["self"]) (fun _ _ _ _ _ _ us hl => match us, hl with | [_], _ => rfl)) G_perform G_read_calls
theorem const_mk {K : PySem.W.Frag} {x : Str} {i : Int} {t : Tok} (a : PySem.W.nsIn K mainGlobals x = some (some (.int i t))) : ∃ t, PySem.W.nsIn K mainGlobals x = some (some (.int i t)) := ⟨t, a⟩
theorem sh_mk {K : PySem.W.Frag} {aS a0 a1 a2 a3 a4 a5 a6 a7 a8 a9 a10 a11 a12 a13 a14 : Addr} (t : ∀ H, SqT K H aS ([a0, a1, a2, a3, a4, a5, a6, a7, a8, a9, a10, a11, a12, a13, a14].map V.ref)) (t0 : ∀ H, SqT K H a0 [.int 2, .int 0]) (t1 : ∀ H, SqT K H a1 [.int 1, .int 1]) (t2 : ∀ H, SqT K H a2 [.int 1, .int 1]) (t3 : ∀ H, SqT K H a3 [.int 0, .int 1]) (t4 : ∀ H, SqT K H a4 [.int 0, .int 0]) (t5 : ∀ H, SqT K H a5 [.int 0, .int 1]) (t6 : ∀ H, SqT K H a6 [.int 1, .int 0]) (t7 : ∀ H, SqT K H a7 [.int 2, .int 1]) (t8 : ∀ H, SqT K H a8 [.int 0, .int 0]) (t9 : ∀ H, SqT K H a9 [.int 0, .int 0]) (t10 : ∀ H, SqT K H a10 [.int 1, .int 1]) (t11 : ∀ H, SqT K H a11 [.int 1, .int 2]) (t12 : ∀ H, SqT K H a12 [.int 0, .int 1]) (t13 : ∀ H, SqT K H a13 [.int 0, .int 1]) (t14 : ∀ H, SqT K H a14 [.int 0, .int 0]) : ∃ a0 a1 a2 a3 a4 a5 a6 a7 a8 a9 a10 a11 a12 a13 a14 : Addr, (∀ H, SqT K H aS ([a0, a1, a2, a3, a4, a5, a6, a7, a8, a9, a10, a11, a12, a13, a14].map V.ref)) ∧ (∀ H, SqT K H a0 [.int 2, .int 0]) ∧ (∀ H, SqT K H a1 [.int 1, .int 1]) ∧ (∀ H, SqT K H a2 [.int 1, .int 1]) ∧ (∀ H, SqT K H a3 [.int 0, .int 1]) ∧ (∀ H, SqT K H a4 [.int 0, .int 0]) ∧ (∀ H, SqT K H a5 [.int 0, .int 1]) ∧ (∀ H, SqT K H a6 [.int 1, .int 0]) ∧ (∀ H, SqT K H a7 [.int 2, .int 1]) ∧ (∀ H, SqT K H a8 [.int 0, .int 0]) ∧ (∀ H, SqT K H a9 [.int 0, .int 0]) ∧ (∀ H, SqT K H a10 [.int 1, .int 1]) ∧ (∀ H, SqT K H a11 [.int 1, .int 2]) ∧ (∀ H, SqT K H a12 [.int 0, .int 1]) ∧ (∀ H, SqT K H a13 [.int 0, .int 1]) ∧ (∀ H, SqT K H a14 [.int 0, .int 0]) := ⟨a0, a1, a2, a3, a4, a5, a6, a7, a8, a9, a10, a11, a12, a13, a14, t, t0, t1, t2, t3, t4, t5, t6, t7, t8, t9, t10, t11, t12, t13, t14⟩
theorem const_of {K : PySem.W.Frag} {h : Heap} {mg : Str → Option Value} (X : K.In h) (G : h.Ns mainGlobals mg) {x : Str} {i : Int} (c : ∃ t, PySem.W.nsIn K mainGlobals x = some (some (.int i t))) : ∃ u, mg x = some u ∧ RelV (.int i) u := by
  obtain ⟨t, c⟩ := c
  exact ⟨_, PySem.W.mg_of X G c, t, rfl⟩
theorem all_mk {P : Program} {w : World} {K : PySem.W.Frag} {h : Heap} {mg : Str → Option Value} {fa CW CI aS : Addr} (X : K.In h) (G : h.Ns mainGlobals mg) (hfa : mg "answers" = some (.ref fa))
    (aW : PySem.W.nsIn K mainGlobals "Workbench" = some (some (.ref CW))) (aI : PySem.W.nsIn K mainGlobals "Instance" = some (some (.ref CI)))
    (pgW : PySem.W.plainGet K CW Str.empty = true) (hdW : PySem.W.hasDictIn K CW = true) (poW : PySem.W.plainOver K CW = true) (saW : PySem.W.findIn K (.ref CW) "__setattr__" = some (some (.builtin "object.__setattr__"))) (mkW : PySem.W.makesIn K CW = true) (kW : PySem.W.keepIn K (.ref CW) = true)
    (pgI : PySem.W.plainGet K CI Str.empty = true) (hdI : PySem.W.hasDictIn K CI = true) (poI : PySem.W.plainOver K CI = true) (saI : PySem.W.findIn K (.ref CI) "__setattr__" = some (some (.builtin "object.__setattr__"))) (mkI : PySem.W.makesIn K CI = true) (kI : PySem.W.keepIn K (.ref CI) = true)
    (nW : PySem.W.findIn K (.ref CW) "instance" = some none) (nAC : PySem.W.findIn K (.ref CI) "agent_count" = some none) (nLC : PySem.W.findIn K (.ref CI) "alternative_count" = some none) (nVal : PySem.W.findIn K (.ref CI) "valuations" = some none) (nAll : PySem.W.findIn K (.ref CI) "allocation" = some none)
    (c_NO_SUCH_MEMBER : ∃ t, PySem.W.nsIn K mainGlobals "NO_SUCH_MEMBER" = some (some (.int (-2) t))) (c_NO_INSTANCE : ∃ t, PySem.W.nsIn K mainGlobals "NO_INSTANCE" = some (some (.int (-11) t))) (c_NOT_READY : ∃ t, PySem.W.nsIn K mainGlobals "NOT_READY" = some (some (.int (-16) t))) (c_INVALID : ∃ t, PySem.W.nsIn K mainGlobals "INVALID" = some (some (.int (-22) t))) (c_TOO_MANY_KINDS : ∃ t, PySem.W.nsIn K mainGlobals "TOO_MANY_KINDS" = some (some (.int (-28) t))) (c_NO_TRUTHFUL_PAYMENTS : ∃ t, PySem.W.nsIn K mainGlobals "NO_TRUTHFUL_PAYMENTS" = some (some (.int (-33) t))) (c_FEWEST_AGENTS : ∃ t, PySem.W.nsIn K mainGlobals "FEWEST_AGENTS" = some (some (.int (1) t))) (c_MOST_AGENTS : ∃ t, PySem.W.nsIn K mainGlobals "MOST_AGENTS" = some (some (.int (3) t))) (c_FEWEST_ALTERNATIVES : ∃ t, PySem.W.nsIn K mainGlobals "FEWEST_ALTERNATIVES" = some (some (.int (2) t))) (c_MOST_ALTERNATIVES : ∃ t, PySem.W.nsIn K mainGlobals "MOST_ALTERNATIVES" = some (some (.int (4) t))) (c_MOST_KINDS : ∃ t, PySem.W.nsIn K mainGlobals "MOST_KINDS" = some (some (.int (4) t))) (c_GREATEST_VALUE : ∃ t, PySem.W.nsIn K mainGlobals "GREATEST_VALUE" = some (some (.int (50) t))) (c_GREATEST_FACTOR : ∃ t, PySem.W.nsIn K mainGlobals "GREATEST_FACTOR" = some (some (.int (99) t))) (c_GREATEST_PAYMENT : ∃ t, PySem.W.nsIn K mainGlobals "GREATEST_PAYMENT" = some (some (.int (1000) t))) (c_CREATE : ∃ t, PySem.W.nsIn K mainGlobals "CREATE" = some (some (.int (0) t))) (c_ADD_KIND : ∃ t, PySem.W.nsIn K mainGlobals "ADD_KIND" = some (some (.int (1) t))) (c_SET_ALLOCATION : ∃ t, PySem.W.nsIn K mainGlobals "SET_ALLOCATION" = some (some (.int (2) t))) (c_ALLOCATION : ∃ t, PySem.W.nsIn K mainGlobals "ALLOCATION" = some (some (.int (3) t))) (c_USE_WELFARE_MAXIMIZER : ∃ t, PySem.W.nsIn K mainGlobals "USE_WELFARE_MAXIMIZER" = some (some (.int (4) t))) (c_USE_AFFINE_MAXIMIZER : ∃ t, PySem.W.nsIn K mainGlobals "USE_AFFINE_MAXIMIZER" = some (some (.int (5) t))) (c_USE_AGENT_MAXIMIZER : ∃ t, PySem.W.nsIn K mainGlobals "USE_AGENT_MAXIMIZER" = some (some (.int (6) t))) (c_MISREPORT_LOSS : ∃ t, PySem.W.nsIn K mainGlobals "MISREPORT_LOSS" = some (some (.int (7) t))) (c_IS_CYCLICALLY_MONOTONIC : ∃ t, PySem.W.nsIn K mainGlobals "IS_CYCLICALLY_MONOTONIC" = some (some (.int (8) t))) (c_IS_WEAKLY_MONOTONIC : ∃ t, PySem.W.nsIn K mainGlobals "IS_WEAKLY_MONOTONIC" = some (some (.int (9) t))) (c_PAYMENT_BOUNDS : ∃ t, PySem.W.nsIn K mainGlobals "PAYMENT_BOUNDS" = some (some (.int (10) t))) (c_ARE_TRUTHFUL_PAYMENTS : ∃ t, PySem.W.nsIn K mainGlobals "ARE_TRUTHFUL_PAYMENTS" = some (some (.int (11) t))) (c_PIVOT_PAYMENTS : ∃ t, PySem.W.nsIn K mainGlobals "PIVOT_PAYMENTS" = some (some (.int (12) t))) (c_DESCRIBE : ∃ t, PySem.W.nsIn K mainGlobals "DESCRIBE" = some (some (.int (14) t)))
    (b_len : PySem.W.nsIn K mainGlobals "len" = some none) (b_all : PySem.W.nsIn K mainGlobals "all" = some none) (b_enumerate : PySem.W.nsIn K mainGlobals "enumerate" = some none) (b_range : PySem.W.nsIn K mainGlobals "range" = some none) (b_zip : PySem.W.nsIn K mainGlobals "zip" = some none) (b_list : PySem.W.nsIn K mainGlobals "list" = some none) (b_sum : PySem.W.nsIn K mainGlobals "sum" = some none) (b_max : PySem.W.nsIn K mainGlobals "max" = some none) (b_min : PySem.W.nsIn K mainGlobals "min" = some none) (b_abs : PySem.W.nsIn K mainGlobals "abs" = some none)
    (aSh : PySem.W.nsIn K mainGlobals "SHAPES" = some (some (.ref aS)))
    (sh : ∃ a0 a1 a2 a3 a4 a5 a6 a7 a8 a9 a10 a11 a12 a13 a14 : Addr, (∀ H, SqT K H aS ([a0, a1, a2, a3, a4, a5, a6, a7, a8, a9, a10, a11, a12, a13, a14].map V.ref)) ∧ (∀ H, SqT K H a0 [.int 2, .int 0]) ∧ (∀ H, SqT K H a1 [.int 1, .int 1]) ∧ (∀ H, SqT K H a2 [.int 1, .int 1]) ∧ (∀ H, SqT K H a3 [.int 0, .int 1]) ∧ (∀ H, SqT K H a4 [.int 0, .int 0]) ∧ (∀ H, SqT K H a5 [.int 0, .int 1]) ∧ (∀ H, SqT K H a6 [.int 1, .int 0]) ∧ (∀ H, SqT K H a7 [.int 2, .int 1]) ∧ (∀ H, SqT K H a8 [.int 0, .int 0]) ∧ (∀ H, SqT K H a9 [.int 0, .int 0]) ∧ (∀ H, SqT K H a10 [.int 1, .int 1]) ∧ (∀ H, SqT K H a11 [.int 1, .int 2]) ∧ (∀ H, SqT K H a12 [.int 0, .int 1]) ∧ (∀ H, SqT K H a13 [.int 0, .int 1]) ∧ (∀ H, SqT K H a14 [.int 0, .int 0]))
    (n_fits : ∃ f, ND K "fits" s_fits f)
    (n_score : ∃ f, ND K "score" s_score f)
    (n_scores : ∃ f, ND K "scores" s_scores f)
    (n_best_alternative : ∃ f, ND K "best_alternative" s_best_alternative f)
    (n_allocate_best : ∃ f, ND K "allocate_best" s_allocate_best f)
    (n_total_values : ∃ f, ND K "total_values" s_total_values f)
    (n_others_values : ∃ f, ND K "others_values" s_others_values f)
    (n_create : ∃ f, ND K "create" s_create f)
    (n_add_kind : ∃ f, ND K "add_kind" s_add_kind f)
    (n_set_allocation : ∃ f, ND K "set_allocation" s_set_allocation f)
    (n_use_welfare_maximizer : ∃ f, ND K "use_welfare_maximizer" s_use_welfare_maximizer f)
    (n_use_affine_maximizer : ∃ f, ND K "use_affine_maximizer" s_use_affine_maximizer f)
    (n_use_agent_maximizer : ∃ f, ND K "use_agent_maximizer" s_use_agent_maximizer f)
    (n_cycles_of : ∃ f, ND K "cycles_of" s_cycles_of f)
    (n_cycle_length : ∃ f, ND K "cycle_length" s_cycle_length f)
    (n_first_negative : ∃ f, ND K "first_negative" s_first_negative f)
    (n_base_profiles : ∃ f, ND K "base_profiles" s_base_profiles f)
    (n_first_violation : ∃ f, ND K "first_violation" s_first_violation f)
    (n_are_truthful : ∃ f, ND K "are_truthful" s_are_truthful f)
    (n_distances : ∃ f, ND K "distances" s_distances f)
    (n_shortened : ∃ f, ND K "shortened" s_shortened f)
    (n_pivot_payment : ∃ f, ND K "pivot_payment" s_pivot_payment f)
    (n_allocation : ∃ f, ND K "allocation" s_allocation f)
    (n_misreport_loss : ∃ f, ND K "misreport_loss" s_misreport_loss f)
    (n_is_cyclically_monotonic : ∃ f, ND K "is_cyclically_monotonic" s_is_cyclically_monotonic f)
    (n_is_weakly_monotonic : ∃ f, ND K "is_weakly_monotonic" s_is_weakly_monotonic f)
    (n_is_monotonic : ∃ f, ND K "is_monotonic" s_is_monotonic f)
    (n_payment_bounds : ∃ f, ND K "payment_bounds" s_payment_bounds f)
    (n_are_truthful_payments : ∃ f, ND K "are_truthful_payments" s_are_truthful_payments f)
    (n_pivot_payments : ∃ f, ND K "pivot_payments" s_pivot_payments f)
    (n_welfare : ∃ f, ND K "welfare" s_welfare f)
    (n_describe : ∃ f, ND K "describe" s_describe f)
    (n_read_calls : ∃ f, ND K "read_calls" s_read_calls f)
    (n_read_rows : ∃ f, ND K "read_rows" s_read_rows f)
    (n_answers : ∃ f, ND K "answers" s_answers f)
    (n_perform : ∃ f, ND K "perform" s_perform f)
    (n_perform_when_ready : ∃ f, ND K "perform_when_ready" s_perform_when_ready f)
    (n_ask : ∃ f, ND K "ask" s_ask f)
    (n_m_is_ready : ∃ f, MD K CI "is_ready" "Instance.is_ready" s_m_is_ready f)
    (n_m_has_agent : ∃ f, MD K CI "has_agent" "Instance.has_agent" s_m_has_agent f)
    (n_m_kind_count : ∃ f, MD K CI "kind_count" "Instance.kind_count" s_m_kind_count f)
    (n_m_has_kind : ∃ f, MD K CI "has_kind" "Instance.has_kind" s_m_has_kind f)
    (n_m_has_alternative : ∃ f, MD K CI "has_alternative" "Instance.has_alternative" s_m_has_alternative f)
    (n_m_is_profile : ∃ f, MD K CI "is_profile" "Instance.is_profile" s_m_is_profile f)
    (n_m_profiles : ∃ f, MD K CI "profiles" "Instance.profiles" s_m_profiles f)
    (n_m_place : ∃ f, MD K CI "place" "Instance.place" s_m_place f)
    (n_m_value : ∃ f, MD K CI "value" "Instance.value" s_m_value f)
    (n_m_allocated : ∃ f, MD K CI "allocated" "Instance.allocated" s_m_allocated f)
    (n_m_allocated_if : ∃ f, MD K CI "allocated_if" "Instance.allocated_if" s_m_allocated_if f)
    (n_m_losses : ∃ f, MD K CI "losses" "Instance.losses" s_m_losses f)
    (n_m_append_kind : ∃ f, MD K CI "append_kind" "Instance.append_kind" s_m_append_kind f)
    (n_Instance_init : ∃ f, MD K CI "__init__" "Instance.__init__" s_Instance_init f)
    (n_Workbench_init : ∃ f, MD K CW "__init__" "Workbench.__init__" s_Workbench_init f) :
    ∃ fd : FuncData, (∀ (s : Shared) (us : List Value), us.length = (["calls"] : List Str).length → BindsTo s fd ⟨us, []⟩ ((["calls"] : List Str).zip us)) ∧ ∀ base : Heap, K.In base → base.Ns mainGlobals mg → FnOk P w K mg base CX0 11 fa fd ["calls"] (sp_answers K) := by
  have T : Txt K mg CW CI aS := ⟨⟨pgW, hdW, poW, saW⟩, ⟨pgI, hdI, poI, saI⟩, nW, nAC, nLC, nVal, nAll, PySem.W.mg_of X G aW, PySem.W.mg_of X G aI, PySem.W.mg_of X G aSh, const_of X G c_NO_SUCH_MEMBER, const_of X G c_NO_INSTANCE, const_of X G c_NOT_READY, const_of X G c_INVALID, const_of X G c_TOO_MANY_KINDS, const_of X G c_NO_TRUTHFUL_PAYMENTS, const_of X G c_FEWEST_AGENTS, const_of X G c_MOST_AGENTS, const_of X G c_FEWEST_ALTERNATIVES, const_of X G c_MOST_ALTERNATIVES, const_of X G c_MOST_KINDS, const_of X G c_GREATEST_VALUE, const_of X G c_GREATEST_FACTOR, const_of X G c_GREATEST_PAYMENT, const_of X G c_CREATE, const_of X G c_ADD_KIND, const_of X G c_SET_ALLOCATION, const_of X G c_ALLOCATION, const_of X G c_USE_WELFARE_MAXIMIZER, const_of X G c_USE_AFFINE_MAXIMIZER, const_of X G c_USE_AGENT_MAXIMIZER, const_of X G c_MISREPORT_LOSS, const_of X G c_IS_CYCLICALLY_MONOTONIC, const_of X G c_IS_WEAKLY_MONOTONIC, const_of X G c_PAYMENT_BOUNDS, const_of X G c_ARE_TRUTHFUL_PAYMENTS, const_of X G c_PIVOT_PAYMENTS, const_of X G c_DESCRIBE, PySem.W.mg_none_of X G b_len, PySem.W.mg_none_of X G b_all, PySem.W.mg_none_of X G b_enumerate, PySem.W.mg_none_of X G b_range, PySem.W.mg_none_of X G b_zip, PySem.W.mg_none_of X G b_list, PySem.W.mg_none_of X G b_sum, PySem.W.mg_none_of X G b_max, PySem.W.mg_none_of X G b_min, PySem.W.mg_none_of X G b_abs⟩
  have S : Sh K aS := by
    obtain ⟨a0, a1, a2, a3, a4, a5, a6, a7, a8, a9, a10, a11, a12, a13, a14, t, t0, t1, t2, t3, t4, t5, t6, t7, t8, t9, t10, t11, t12, t13, t14⟩ := sh
    refine ⟨[a0, a1, a2, a3, a4, a5, a6, a7, a8, a9, a10, a11, a12, a13, a14], t, fun i s hs => ?_⟩
    match i, hs with
    | 0, hs => cases hs; exact ⟨a0, rfl, t0⟩
    | 1, hs => cases hs; exact ⟨a1, rfl, t1⟩
    | 2, hs => cases hs; exact ⟨a2, rfl, t2⟩
    | 3, hs => cases hs; exact ⟨a3, rfl, t3⟩
    | 4, hs => cases hs; exact ⟨a4, rfl, t4⟩
    | 5, hs => cases hs; exact ⟨a5, rfl, t5⟩
    | 6, hs => cases hs; exact ⟨a6, rfl, t6⟩
    | 7, hs => cases hs; exact ⟨a7, rfl, t7⟩
    | 8, hs => cases hs; exact ⟨a8, rfl, t8⟩
    | 9, hs => cases hs; exact ⟨a9, rfl, t9⟩
    | 10, hs => cases hs; exact ⟨a10, rfl, t10⟩
    | 11, hs => cases hs; exact ⟨a11, rfl, t11⟩
    | 12, hs => cases hs; exact ⟨a12, rfl, t12⟩
    | 13, hs => cases hs; exact ⟨a13, rfl, t13⟩
    | 14, hs => cases hs; exact ⟨a14, rfl, t14⟩
    | i + 15, hs => cases hs
  have A := fun base : Heap => answers_ok (P := P) (w := w) (base := base) X G T S mkW kW mkI kI n_fits n_score n_scores n_best_alternative n_allocate_best n_total_values n_others_values n_create n_add_kind n_set_allocation n_use_welfare_maximizer n_use_affine_maximizer n_use_agent_maximizer n_cycles_of n_cycle_length n_first_negative n_base_profiles n_first_violation n_are_truthful n_distances n_shortened n_pivot_payment n_allocation n_misreport_loss n_is_cyclically_monotonic n_is_weakly_monotonic n_is_monotonic n_payment_bounds n_are_truthful_payments n_pivot_payments n_welfare n_describe n_read_calls n_read_rows n_answers n_perform n_perform_when_ready n_ask n_m_is_ready n_m_has_agent n_m_kind_count n_m_has_kind n_m_has_alternative n_m_is_profile n_m_profiles n_m_place n_m_value n_m_allocated n_m_allocated_if n_m_losses n_m_append_kind n_Instance_init n_Workbench_init
  obtain ⟨f, n, fd, F⟩ := n_answers
  have e := hfa.symm.trans (PySem.W.mg_of X G n)
  cases e
  have b := F.binds (ps := ["calls"]) (fun _ _ _ _ _ _ us hl => match us, hl with | [_], _ => rfl)
  refine ⟨fd, fun s us hu => ?_, fun base _ _ => A base _ fd F⟩
  obtain ⟨oc, od, kV, doc, pm, an, cdv, ct, osl, rfl, _, _⟩ := F.ex
  match us, hu with
  | [_], _ => exact .of_eq rfl
section
end
end Tp

open PySem PySem.W PyProof.Rows
set_option maxRecDepth 100000 in
set_option maxHeartbeats 16000000 in
theorem PySem.Challenge.cw_truthfulpay_s01_answers_holds : PySem.Challenge.rw_truthfulpay_s01_answers.Holds := by
  w_on; k_headS; (case hw => exact ⟨[.list [.int 14]], by decide +kernel, by decide +kernel⟩)
  k_fillS
  refine L2.walk_specK (r := PySem.Challenge.rw_truthfulpay_s01_answers) (k := 11) (CX := L2.CX0) (ps := ["calls"]) (sp := Tp.sp_answers) (by decide +kernel) rfl rfl ⟨rfl, by decide, by decide⟩ (fun w h Y => PySem.W.kIn_of Y) ?F ?S (fun _ _ _ _ z => z)
  case F =>
    intro w mg fa h Y KX G hmg
    refine' Tp.all_mk KX G hmg ?aW ?aI ?pgW ?hdW ?poW ?saW ?mkW ?kW ?pgI ?hdI ?poI ?saI ?mkI ?kI ?nW ?nAC ?nLC ?nVal ?nAll ?c_NO_SUCH_MEMBER ?c_NO_INSTANCE ?c_NOT_READY ?c_INVALID ?c_TOO_MANY_KINDS ?c_NO_TRUTHFUL_PAYMENTS ?c_FEWEST_AGENTS ?c_MOST_AGENTS ?c_FEWEST_ALTERNATIVES ?c_MOST_ALTERNATIVES ?c_MOST_KINDS ?c_GREATEST_VALUE ?c_GREATEST_FACTOR ?c_GREATEST_PAYMENT ?c_CREATE ?c_ADD_KIND ?c_SET_ALLOCATION ?c_ALLOCATION ?c_USE_WELFARE_MAXIMIZER ?c_USE_AFFINE_MAXIMIZER ?c_USE_AGENT_MAXIMIZER ?c_MISREPORT_LOSS ?c_IS_CYCLICALLY_MONOTONIC ?c_IS_WEAKLY_MONOTONIC ?c_PAYMENT_BOUNDS ?c_ARE_TRUTHFUL_PAYMENTS ?c_PIVOT_PAYMENTS ?c_DESCRIBE ?b_len ?b_all ?b_enumerate ?b_range ?b_zip ?b_list ?b_sum ?b_max ?b_min ?b_abs ?aSh ?sh ?n_fits ?n_score ?n_scores ?n_best_alternative ?n_allocate_best ?n_total_values ?n_others_values ?n_create ?n_add_kind ?n_set_allocation ?n_use_welfare_maximizer ?n_use_affine_maximizer ?n_use_agent_maximizer ?n_cycles_of ?n_cycle_length ?n_first_negative ?n_base_profiles ?n_first_violation ?n_are_truthful ?n_distances ?n_shortened ?n_pivot_payment ?n_allocation ?n_misreport_loss ?n_is_cyclically_monotonic ?n_is_weakly_monotonic ?n_is_monotonic ?n_payment_bounds ?n_are_truthful_payments ?n_pivot_payments ?n_welfare ?n_describe ?n_read_calls ?n_read_rows ?n_answers ?n_perform ?n_perform_when_ready ?n_ask ?n_m_is_ready ?n_m_has_agent ?n_m_kind_count ?n_m_has_kind ?n_m_has_alternative ?n_m_is_profile ?n_m_profiles ?n_m_place ?n_m_value ?n_m_allocated ?n_m_allocated_if ?n_m_losses ?n_m_append_kind ?n_Instance_init ?n_Workbench_init
    (case aW => k_is)
    (case aI => k_is)
    (case pgW => k_is)
    (case hdW => k_is)
    (case poW => k_is)
    (case saW => k_is)
    (case mkW => k_is)
    (case kW => k_is)
    (case pgI => k_is)
    (case hdI => k_is)
    (case poI => k_is)
    (case saI => k_is)
    (case mkI => k_is)
    (case kI => k_is)
    (case nW => k_is)
    (case nAC => k_is)
    (case nLC => k_is)
    (case nVal => k_is)
    (case nAll => k_is)
    (case c_NO_SUCH_MEMBER => refine' Tp.const_mk ?a; (case a => k_is))
    (case c_NO_INSTANCE => refine' Tp.const_mk ?a; (case a => k_is))
    (case c_NOT_READY => refine' Tp.const_mk ?a; (case a => k_is))
    (case c_INVALID => refine' Tp.const_mk ?a; (case a => k_is))
    (case c_TOO_MANY_KINDS => refine' Tp.const_mk ?a; (case a => k_is))
    (case c_NO_TRUTHFUL_PAYMENTS => refine' Tp.const_mk ?a; (case a => k_is))
    (case c_FEWEST_AGENTS => refine' Tp.const_mk ?a; (case a => k_is))
    (case c_MOST_AGENTS => refine' Tp.const_mk ?a; (case a => k_is))
    (case c_FEWEST_ALTERNATIVES => refine' Tp.const_mk ?a; (case a => k_is))
    (case c_MOST_ALTERNATIVES => refine' Tp.const_mk ?a; (case a => k_is))
    (case c_MOST_KINDS => refine' Tp.const_mk ?a; (case a => k_is))
    (case c_GREATEST_VALUE => refine' Tp.const_mk ?a; (case a => k_is))
    (case c_GREATEST_FACTOR => refine' Tp.const_mk ?a; (case a => k_is))
    (case c_GREATEST_PAYMENT => refine' Tp.const_mk ?a; (case a => k_is))
    (case c_CREATE => refine' Tp.const_mk ?a; (case a => k_is))
    (case c_ADD_KIND => refine' Tp.const_mk ?a; (case a => k_is))
    (case c_SET_ALLOCATION => refine' Tp.const_mk ?a; (case a => k_is))
    (case c_ALLOCATION => refine' Tp.const_mk ?a; (case a => k_is))
    (case c_USE_WELFARE_MAXIMIZER => refine' Tp.const_mk ?a; (case a => k_is))
    (case c_USE_AFFINE_MAXIMIZER => refine' Tp.const_mk ?a; (case a => k_is))
    (case c_USE_AGENT_MAXIMIZER => refine' Tp.const_mk ?a; (case a => k_is))
    (case c_MISREPORT_LOSS => refine' Tp.const_mk ?a; (case a => k_is))
    (case c_IS_CYCLICALLY_MONOTONIC => refine' Tp.const_mk ?a; (case a => k_is))
    (case c_IS_WEAKLY_MONOTONIC => refine' Tp.const_mk ?a; (case a => k_is))
    (case c_PAYMENT_BOUNDS => refine' Tp.const_mk ?a; (case a => k_is))
    (case c_ARE_TRUTHFUL_PAYMENTS => refine' Tp.const_mk ?a; (case a => k_is))
    (case c_PIVOT_PAYMENTS => refine' Tp.const_mk ?a; (case a => k_is))
    (case c_DESCRIBE => refine' Tp.const_mk ?a; (case a => k_is))
    (case b_len => k_is)
    (case b_all => k_is)
    (case b_enumerate => k_is)
    (case b_range => k_is)
    (case b_zip => k_is)
    (case b_list => k_is)
    (case b_sum => k_is)
    (case b_max => k_is)
    (case b_min => k_is)
    (case b_abs => k_is)
    (case aSh => k_is)
    (case sh => refine' Tp.sh_mk (Tp.tup_mk ?l ?z ?v) (Tp.tup_mk ?l0 ?z0 ?v0) (Tp.tup_mk ?l1 ?z1 ?v1) (Tp.tup_mk ?l2 ?z2 ?v2) (Tp.tup_mk ?l3 ?z3 ?v3) (Tp.tup_mk ?l4 ?z4 ?v4) (Tp.tup_mk ?l5 ?z5 ?v5) (Tp.tup_mk ?l6 ?z6 ?v6) (Tp.tup_mk ?l7 ?z7 ?v7) (Tp.tup_mk ?l8 ?z8 ?v8) (Tp.tup_mk ?l9 ?z9 ?v9) (Tp.tup_mk ?l10 ?z10 ?v10) (Tp.tup_mk ?l11 ?z11 ?v11) (Tp.tup_mk ?l12 ?z12 ?v12) (Tp.tup_mk ?l13 ?z13 ?v13) (Tp.tup_mk ?l14 ?z14 ?v14); (case l => k_is); (case z => decide +kernel); (case v => exact .cons rfl (.cons rfl (.cons rfl (.cons rfl (.cons rfl (.cons rfl (.cons rfl (.cons rfl (.cons rfl (.cons rfl (.cons rfl (.cons rfl (.cons rfl (.cons rfl (.cons rfl .nil))))))))))))))); (case l0 => k_is); (case z0 => decide +kernel); (case v0 => exact .cons ⟨_, rfl⟩ (.cons ⟨_, rfl⟩ .nil)); (case l1 => k_is); (case z1 => decide +kernel); (case v1 => exact .cons ⟨_, rfl⟩ (.cons ⟨_, rfl⟩ .nil)); (case l2 => k_is); (case z2 => decide +kernel); (case v2 => exact .cons ⟨_, rfl⟩ (.cons ⟨_, rfl⟩ .nil)); (case l3 => k_is); (case z3 => decide +kernel); (case v3 => exact .cons ⟨_, rfl⟩ (.cons ⟨_, rfl⟩ .nil)); (case l4 => k_is); (case z4 => decide +kernel); (case v4 => exact .cons ⟨_, rfl⟩ (.cons ⟨_, rfl⟩ .nil)); (case l5 => k_is); (case z5 => decide +kernel); (case v5 => exact .cons ⟨_, rfl⟩ (.cons ⟨_, rfl⟩ .nil)); (case l6 => k_is); (case z6 => decide +kernel); (case v6 => exact .cons ⟨_, rfl⟩ (.cons ⟨_, rfl⟩ .nil)); (case l7 => k_is); (case z7 => decide +kernel); (case v7 => exact .cons ⟨_, rfl⟩ (.cons ⟨_, rfl⟩ .nil)); (case l8 => k_is); (case z8 => decide +kernel); (case v8 => exact .cons ⟨_, rfl⟩ (.cons ⟨_, rfl⟩ .nil)); (case l9 => k_is); (case z9 => decide +kernel); (case v9 => exact .cons ⟨_, rfl⟩ (.cons ⟨_, rfl⟩ .nil)); (case l10 => k_is); (case z10 => decide +kernel); (case v10 => exact .cons ⟨_, rfl⟩ (.cons ⟨_, rfl⟩ .nil)); (case l11 => k_is); (case z11 => decide +kernel); (case v11 => exact .cons ⟨_, rfl⟩ (.cons ⟨_, rfl⟩ .nil)); (case l12 => k_is); (case z12 => decide +kernel); (case v12 => exact .cons ⟨_, rfl⟩ (.cons ⟨_, rfl⟩ .nil)); (case l13 => k_is); (case z13 => decide +kernel); (case v13 => exact .cons ⟨_, rfl⟩ (.cons ⟨_, rfl⟩ .nil)); (case l14 => k_is); (case z14 => decide +kernel); (case v14 => exact .cons ⟨_, rfl⟩ (.cons ⟨_, rfl⟩ .nil)))
    (case n_fits => refine' Tp.nd_mk ?a ?l ?c ?k; (case a => k_is); (case l => k_is); (case c => k_is); (case k => k_is))
    (case n_score => refine' Tp.nd_mk ?a ?l ?c ?k; (case a => k_is); (case l => k_is); (case c => k_is); (case k => k_is))
    (case n_scores => refine' Tp.nd_mk ?a ?l ?c ?k; (case a => k_is); (case l => k_is); (case c => k_is); (case k => k_is))
    (case n_best_alternative => refine' Tp.nd_mk ?a ?l ?c ?k; (case a => k_is); (case l => k_is); (case c => k_is); (case k => k_is))
    (case n_allocate_best => refine' Tp.nd_mk ?a ?l ?c ?k; (case a => k_is); (case l => k_is); (case c => k_is); (case k => k_is))
    (case n_total_values => refine' Tp.nd_mk ?a ?l ?c ?k; (case a => k_is); (case l => k_is); (case c => k_is); (case k => k_is))
    (case n_others_values => refine' Tp.nd_mk ?a ?l ?c ?k; (case a => k_is); (case l => k_is); (case c => k_is); (case k => k_is))
    (case n_create => refine' Tp.nd_mk ?a ?l ?c ?k; (case a => k_is); (case l => k_is); (case c => k_is); (case k => k_is))
    (case n_add_kind => refine' Tp.nd_mk ?a ?l ?c ?k; (case a => k_is); (case l => k_is); (case c => k_is); (case k => k_is))
    (case n_set_allocation => refine' Tp.nd_mk ?a ?l ?c ?k; (case a => k_is); (case l => k_is); (case c => k_is); (case k => k_is))
    (case n_use_welfare_maximizer => refine' Tp.nd_mk ?a ?l ?c ?k; (case a => k_is); (case l => k_is); (case c => k_is); (case k => k_is))
    (case n_use_affine_maximizer => refine' Tp.nd_mk ?a ?l ?c ?k; (case a => k_is); (case l => k_is); (case c => k_is); (case k => k_is))
    (case n_use_agent_maximizer => refine' Tp.nd_mk ?a ?l ?c ?k; (case a => k_is); (case l => k_is); (case c => k_is); (case k => k_is))
    (case n_cycles_of => refine' Tp.nd_mk ?a ?l ?c ?k; (case a => k_is); (case l => k_is); (case c => k_is); (case k => k_is))
    (case n_cycle_length => refine' Tp.nd_mk ?a ?l ?c ?k; (case a => k_is); (case l => k_is); (case c => k_is); (case k => k_is))
    (case n_first_negative => refine' Tp.nd_mk ?a ?l ?c ?k; (case a => k_is); (case l => k_is); (case c => k_is); (case k => k_is))
    (case n_base_profiles => refine' Tp.nd_mk ?a ?l ?c ?k; (case a => k_is); (case l => k_is); (case c => k_is); (case k => k_is))
    (case n_first_violation => refine' Tp.nd_mk ?a ?l ?c ?k; (case a => k_is); (case l => k_is); (case c => k_is); (case k => k_is))
    (case n_are_truthful => refine' Tp.nd_mk ?a ?l ?c ?k; (case a => k_is); (case l => k_is); (case c => k_is); (case k => k_is))
    (case n_distances => refine' Tp.nd_mk ?a ?l ?c ?k; (case a => k_is); (case l => k_is); (case c => k_is); (case k => k_is))
    (case n_shortened => refine' Tp.nd_mk ?a ?l ?c ?k; (case a => k_is); (case l => k_is); (case c => k_is); (case k => k_is))
    (case n_pivot_payment => refine' Tp.nd_mk ?a ?l ?c ?k; (case a => k_is); (case l => k_is); (case c => k_is); (case k => k_is))
    (case n_allocation => refine' Tp.nd_mk ?a ?l ?c ?k; (case a => k_is); (case l => k_is); (case c => k_is); (case k => k_is))
    (case n_misreport_loss => refine' Tp.nd_mk ?a ?l ?c ?k; (case a => k_is); (case l => k_is); (case c => k_is); (case k => k_is))
    (case n_is_cyclically_monotonic => refine' Tp.nd_mk ?a ?l ?c ?k; (case a => k_is); (case l => k_is); (case c => k_is); (case k => k_is))
    (case n_is_weakly_monotonic => refine' Tp.nd_mk ?a ?l ?c ?k; (case a => k_is); (case l => k_is); (case c => k_is); (case k => k_is))
    (case n_is_monotonic => refine' Tp.nd_mk ?a ?l ?c ?k; (case a => k_is); (case l => k_is); (case c => k_is); (case k => k_is))
    (case n_payment_bounds => refine' Tp.nd_mk ?a ?l ?c ?k; (case a => k_is); (case l => k_is); (case c => k_is); (case k => k_is))
    (case n_are_truthful_payments => refine' Tp.nd_mk ?a ?l ?c ?k; (case a => k_is); (case l => k_is); (case c => k_is); (case k => k_is))
    (case n_pivot_payments => refine' Tp.nd_mk ?a ?l ?c ?k; (case a => k_is); (case l => k_is); (case c => k_is); (case k => k_is))
    (case n_welfare => refine' Tp.nd_mk ?a ?l ?c ?k; (case a => k_is); (case l => k_is); (case c => k_is); (case k => k_is))
    (case n_describe => refine' Tp.nd_mk ?a ?l ?c ?k; (case a => k_is); (case l => k_is); (case c => k_is); (case k => k_is))
    (case n_read_calls => refine' Tp.nd_mk ?a ?l ?c ?k; (case a => k_is); (case l => k_is); (case c => k_is); (case k => k_is))
    (case n_read_rows => refine' Tp.nd_mk ?a ?l ?c ?k; (case a => k_is); (case l => k_is); (case c => k_is); (case k => k_is))
    (case n_answers => refine' Tp.nd_mk ?a ?l ?c ?k; (case a => k_is); (case l => k_is); (case c => k_is); (case k => k_is))
    (case n_perform => refine' Tp.nd_mk ?a ?l ?c ?k; (case a => k_is); (case l => k_is); (case c => k_is); (case k => k_is))
    (case n_perform_when_ready => refine' Tp.nd_mk ?a ?l ?c ?k; (case a => k_is); (case l => k_is); (case c => k_is); (case k => k_is))
    (case n_ask => refine' Tp.nd_mk ?a ?l ?c ?k; (case a => k_is); (case l => k_is); (case c => k_is); (case k => k_is))
    (case n_m_is_ready => refine' Tp.md_mk ?a ?i ?l ?c ?k; (case a => k_is); (case i => k_is); (case l => k_is); (case c => k_is); (case k => k_is))
    (case n_m_has_agent => refine' Tp.md_mk ?a ?i ?l ?c ?k; (case a => k_is); (case i => k_is); (case l => k_is); (case c => k_is); (case k => k_is))
    (case n_m_kind_count => refine' Tp.md_mk ?a ?i ?l ?c ?k; (case a => k_is); (case i => k_is); (case l => k_is); (case c => k_is); (case k => k_is))
    (case n_m_has_kind => refine' Tp.md_mk ?a ?i ?l ?c ?k; (case a => k_is); (case i => k_is); (case l => k_is); (case c => k_is); (case k => k_is))
    (case n_m_has_alternative => refine' Tp.md_mk ?a ?i ?l ?c ?k; (case a => k_is); (case i => k_is); (case l => k_is); (case c => k_is); (case k => k_is))
    (case n_m_is_profile => refine' Tp.md_mk ?a ?i ?l ?c ?k; (case a => k_is); (case i => k_is); (case l => k_is); (case c => k_is); (case k => k_is))
    (case n_m_profiles => refine' Tp.md_mk ?a ?i ?l ?c ?k; (case a => k_is); (case i => k_is); (case l => k_is); (case c => k_is); (case k => k_is))
    (case n_m_place => refine' Tp.md_mk ?a ?i ?l ?c ?k; (case a => k_is); (case i => k_is); (case l => k_is); (case c => k_is); (case k => k_is))
    (case n_m_value => refine' Tp.md_mk ?a ?i ?l ?c ?k; (case a => k_is); (case i => k_is); (case l => k_is); (case c => k_is); (case k => k_is))
    (case n_m_allocated => refine' Tp.md_mk ?a ?i ?l ?c ?k; (case a => k_is); (case i => k_is); (case l => k_is); (case c => k_is); (case k => k_is))
    (case n_m_allocated_if => refine' Tp.md_mk ?a ?i ?l ?c ?k; (case a => k_is); (case i => k_is); (case l => k_is); (case c => k_is); (case k => k_is))
    (case n_m_losses => refine' Tp.md_mk ?a ?i ?l ?c ?k; (case a => k_is); (case i => k_is); (case l => k_is); (case c => k_is); (case k => k_is))
    (case n_m_append_kind => refine' Tp.md_mk ?a ?i ?l ?c ?k; (case a => k_is); (case i => k_is); (case l => k_is); (case c => k_is); (case k => k_is))
    (case n_Instance_init => refine' Tp.md_mk ?a ?i ?l ?c ?k; (case a => k_is); (case i => k_is); (case l => k_is); (case c => k_is); (case k => k_is))
    (case n_Workbench_init => refine' Tp.md_mk ?a ?i ?l ?c ?k; (case a => k_is); (case i => k_is); (case l => k_is); (case c => k_is); (case k => k_is))
  case S =>
    intro K H xs a hO hwi hask hx
    cases hx with
    | cons h1 h2 =>
      cases h2
      cases h1 with
      | lst hs ha =>
        have e := L2.ints_dw a.1 _ ha
        subst e
        exact ⟨_, a.1, rfl, hs, hask, fun H' p hp => .lst (L2.SqL.of hp) (L2.dw_ints _)⟩

