import PyProof.Rows.All
import Wide.All
import OpenK.AllK
import Wide.FinOn
import HandS.ForMost
import HandS.SortInts
import HandS.TupAny
import HandS.IsInst
import HandS.Wide
import HandS.Conv
import HandS.Gcd
import HandS.Property
import HandS.Codes
import HandS.Walk
import KE.GoesMore
import KE.KMathGC
import HandS.Exc
import HandS.ExcOwn
import HandS.TryOnly
import HandS.ExcIs
import HandS.WordsExc
import HandS.WideBits
import HandS.SetFor
import HandS.Strs
import HandS.SetBool
import PyProof.LongRange
import HandS.DictComp
import HandS.Deep
import HandS.TupSets
import PySem.Challenge.RW_restlots_k32_rests_surely_told
set_option Elab.async false
set_option linter.all false
set_option maxRecDepth 100000
set_option maxHeartbeats 4000000
set_option exponentiation.threshold 6000
namespace R
open PySem PySem.Spec PyProof.Rows L2
/-! the text by places -/
def top (i : Nat) : Stmt := (PySem.Challenge.pw_restlots_k32_rests_surely_told.main.body).getD i (.Pass ⟨0, 0, 0, 0⟩)
abbrev s_p_is_integer : Stmt := top 7
abbrev s_p_integer_within : Stmt := top 8
abbrev s_p_is_number : Stmt := top 9
abbrev s_p_is_pair : Stmt := top 10
abbrev s_p_check_moduli : Stmt := top 16
abbrev s_p_is_sight : Stmt := top 17
abbrev s_p_check_seen : Stmt := top 18
abbrev s_p_marks_of : Stmt := top 19
abbrev s_p_held_marks : Stmt := top 20
abbrev s_p_unheld_marks : Stmt := top 21
abbrev s_p_rests_at : Stmt := top 22
abbrev s_p_sure_rests : Stmt := top 23
abbrev s_l_draws : Stmt := top 25
abbrev s_l_pick : Stmt := top 26
abbrev s_l_rows : Stmt := top 27
abbrev s_l_has : Stmt := top 28
abbrev s_l_told_there : Stmt := top 29
abbrev s_law : Stmt := top 30
theorem sc_p_is_integer : FnScope ["value"] ["value"] (defScope s_p_is_integer) := ⟨rfl, rfl, rfl, by decide +kernel, rfl, by decide +kernel, by decide +kernel⟩
theorem sc_p_integer_within : FnScope ["value", "least", "greatest"] ["value", "least", "greatest"] (defScope s_p_integer_within) := ⟨rfl, rfl, rfl, by decide +kernel, rfl, by decide +kernel, by decide +kernel⟩
theorem sc_p_is_number : FnScope ["value"] ["value"] (defScope s_p_is_number) := ⟨rfl, rfl, rfl, by decide +kernel, rfl, by decide +kernel, by decide +kernel⟩
theorem sc_p_is_pair : FnScope ["value"] ["value"] (defScope s_p_is_pair) := ⟨rfl, rfl, rfl, by decide +kernel, rfl, by decide +kernel, by decide +kernel⟩
theorem sc_p_check_moduli : FnScope ["moduli", "index", "modulus"] ["moduli"] (defScope s_p_check_moduli) := ⟨rfl, rfl, rfl, by decide +kernel, rfl, by decide +kernel, by decide +kernel⟩
theorem sc_p_is_sight : FnScope ["value"] ["value"] (defScope s_p_is_sight) := ⟨rfl, rfl, rfl, by decide +kernel, rfl, by decide +kernel, by decide +kernel⟩
theorem sc_p_check_seen : FnScope ["seen", "unfit", "index", "sight"] ["seen"] (defScope s_p_check_seen) := ⟨rfl, rfl, rfl, by decide +kernel, rfl, by decide +kernel, by decide +kernel⟩
theorem sc_p_marks_of : FnScope ["moduli", "number", "index", "modulus"] ["moduli", "number"] (defScope s_p_marks_of) := ⟨rfl, rfl, rfl, by decide +kernel, rfl, by decide +kernel, by decide +kernel⟩
theorem sc_p_held_marks : FnScope ["moduli", "seen", "number", "does", "mark"] ["moduli", "seen"] (defScope s_p_held_marks) := ⟨rfl, rfl, rfl, by decide +kernel, rfl, by decide +kernel, by decide +kernel⟩
theorem sc_p_unheld_marks : FnScope ["moduli", "seen", "held", "number", "does", "mark"] ["moduli", "seen"] (defScope s_p_unheld_marks) := ⟨rfl, rfl, rfl, by decide +kernel, rfl, by decide +kernel, by decide +kernel⟩
theorem sc_p_rests_at : FnScope ["marks", "index", "place", "rest"] ["marks", "index"] (defScope s_p_rests_at) := ⟨rfl, rfl, rfl, by decide +kernel, rfl, by decide +kernel, by decide +kernel⟩
theorem sc_p_sure_rests : FnScope ["moduli", "seen", "held", "unheld", "barred", "marks", "index"] ["moduli", "seen"] (defScope s_p_sure_rests) := ⟨rfl, rfl, rfl, by decide +kernel, rfl, by decide +kernel, by decide +kernel⟩
theorem sc_l_draws : FnScope ["_law_script"] ["_law_script"] (defScope s_l_draws) := ⟨rfl, rfl, rfl, by decide +kernel, rfl, by decide +kernel, by decide +kernel⟩
theorem sc_l_pick : FnScope ["_law_row", "_law_many", "_law_cell", "_law_found"] ["_law_row", "_law_many"] (defScope s_l_pick) := ⟨rfl, rfl, rfl, by decide +kernel, rfl, by decide +kernel, by decide +kernel⟩
theorem sc_l_rows : FnScope ["_law_moduli", "_law_rests_there", "_law_k", "_law_found", "_law_one", "_law_rest", "_law_some"] ["_law_moduli"] (defScope s_l_rows) := ⟨rfl, rfl, rfl, by decide +kernel, rfl, by decide +kernel, by decide +kernel⟩
theorem sc_l_has : FnScope ["_law_moduli", "_law_some", "_law_number", "_law_k"] ["_law_moduli", "_law_some", "_law_number"] (defScope s_l_has) := ⟨rfl, rfl, rfl, by decide +kernel, rfl, by decide +kernel, by decide +kernel⟩
theorem sc_l_told_there : FnScope ["_law_moduli", "_law_seen", "_law_told_there_here", "e"] ["_law_moduli", "_law_seen"] (defScope s_l_told_there) := ⟨rfl, rfl, rfl, by decide +kernel, rfl, by decide +kernel, by decide +kernel⟩
theorem sc_law : FnScope ["_law_script", "_law_row", "_law_moduli", "_law_k", "_law_seen", "_law_good", "_law_some", "_law_due", "_law_sure", "_law_number", "_law_does", "_law_rest"] ["_law_script"] (defScope s_law) := ⟨rfl, rfl, rfl, by decide +kernel, rfl, by decide +kernel, by decide +kernel⟩
/-! what stands behind the top -/
structure Txt (K : PySem.W.Frag) (mg : Str → Option Value) where
  f_p_is_integer : Addr
  fd_p_is_integer : FuncData
  F_p_is_integer : Fun K "is_integer" "is_integer" s_p_is_integer f_p_is_integer fd_p_is_integer
  b_p_is_integer : Binds K fd_p_is_integer ["value"] []
  g_p_is_integer : mg "is_integer" = some (.ref f_p_is_integer)
  f_p_integer_within : Addr
  fd_p_integer_within : FuncData
  F_p_integer_within : Fun K "integer_within" "integer_within" s_p_integer_within f_p_integer_within fd_p_integer_within
  b_p_integer_within : Binds K fd_p_integer_within ["value", "least", "greatest"] []
  g_p_integer_within : mg "integer_within" = some (.ref f_p_integer_within)
  f_p_is_number : Addr
  fd_p_is_number : FuncData
  F_p_is_number : Fun K "is_number" "is_number" s_p_is_number f_p_is_number fd_p_is_number
  b_p_is_number : Binds K fd_p_is_number ["value"] []
  g_p_is_number : mg "is_number" = some (.ref f_p_is_number)
  f_p_is_pair : Addr
  fd_p_is_pair : FuncData
  F_p_is_pair : Fun K "is_pair" "is_pair" s_p_is_pair f_p_is_pair fd_p_is_pair
  b_p_is_pair : Binds K fd_p_is_pair ["value"] []
  g_p_is_pair : mg "is_pair" = some (.ref f_p_is_pair)
  f_p_check_moduli : Addr
  fd_p_check_moduli : FuncData
  F_p_check_moduli : Fun K "check_moduli" "check_moduli" s_p_check_moduli f_p_check_moduli fd_p_check_moduli
  b_p_check_moduli : Binds K fd_p_check_moduli ["moduli"] []
  g_p_check_moduli : mg "check_moduli" = some (.ref f_p_check_moduli)
  f_p_is_sight : Addr
  fd_p_is_sight : FuncData
  F_p_is_sight : Fun K "is_sight" "is_sight" s_p_is_sight f_p_is_sight fd_p_is_sight
  b_p_is_sight : Binds K fd_p_is_sight ["value"] []
  g_p_is_sight : mg "is_sight" = some (.ref f_p_is_sight)
  f_p_check_seen : Addr
  fd_p_check_seen : FuncData
  F_p_check_seen : Fun K "check_seen" "check_seen" s_p_check_seen f_p_check_seen fd_p_check_seen
  b_p_check_seen : Binds K fd_p_check_seen ["seen"] []
  g_p_check_seen : mg "check_seen" = some (.ref f_p_check_seen)
  f_p_marks_of : Addr
  fd_p_marks_of : FuncData
  F_p_marks_of : Fun K "marks_of" "marks_of" s_p_marks_of f_p_marks_of fd_p_marks_of
  b_p_marks_of : Binds K fd_p_marks_of ["moduli", "number"] []
  g_p_marks_of : mg "marks_of" = some (.ref f_p_marks_of)
  f_p_held_marks : Addr
  fd_p_held_marks : FuncData
  F_p_held_marks : Fun K "held_marks" "held_marks" s_p_held_marks f_p_held_marks fd_p_held_marks
  b_p_held_marks : Binds K fd_p_held_marks ["moduli", "seen"] []
  g_p_held_marks : mg "held_marks" = some (.ref f_p_held_marks)
  f_p_unheld_marks : Addr
  fd_p_unheld_marks : FuncData
  F_p_unheld_marks : Fun K "unheld_marks" "unheld_marks" s_p_unheld_marks f_p_unheld_marks fd_p_unheld_marks
  b_p_unheld_marks : Binds K fd_p_unheld_marks ["moduli", "seen"] []
  g_p_unheld_marks : mg "unheld_marks" = some (.ref f_p_unheld_marks)
  f_p_rests_at : Addr
  fd_p_rests_at : FuncData
  F_p_rests_at : Fun K "rests_at" "rests_at" s_p_rests_at f_p_rests_at fd_p_rests_at
  b_p_rests_at : Binds K fd_p_rests_at ["marks", "index"] []
  g_p_rests_at : mg "rests_at" = some (.ref f_p_rests_at)
  f_p_sure_rests : Addr
  fd_p_sure_rests : FuncData
  F_p_sure_rests : Fun K "sure_rests" "sure_rests" s_p_sure_rests f_p_sure_rests fd_p_sure_rests
  b_p_sure_rests : Binds K fd_p_sure_rests ["moduli", "seen"] []
  g_p_sure_rests : mg "sure_rests" = some (.ref f_p_sure_rests)
  f_l_draws : Addr
  fd_l_draws : FuncData
  F_l_draws : Fun K "_law_draws" "_law_draws" s_l_draws f_l_draws fd_l_draws
  b_l_draws : Binds K fd_l_draws ["_law_script"] []
  g_l_draws : mg "_law_draws" = some (.ref f_l_draws)
  f_l_pick : Addr
  fd_l_pick : FuncData
  F_l_pick : Fun K "_law_pick" "_law_pick" s_l_pick f_l_pick fd_l_pick
  b_l_pick : Binds K fd_l_pick ["_law_row", "_law_many"] []
  g_l_pick : mg "_law_pick" = some (.ref f_l_pick)
  f_l_rows : Addr
  fd_l_rows : FuncData
  F_l_rows : Fun K "_law_rows" "_law_rows" s_l_rows f_l_rows fd_l_rows
  b_l_rows : Binds K fd_l_rows ["_law_moduli"] []
  g_l_rows : mg "_law_rows" = some (.ref f_l_rows)
  f_l_has : Addr
  fd_l_has : FuncData
  F_l_has : Fun K "_law_has" "_law_has" s_l_has f_l_has fd_l_has
  b_l_has : Binds K fd_l_has ["_law_moduli", "_law_some", "_law_number"] []
  g_l_has : mg "_law_has" = some (.ref f_l_has)
  f_l_told_there : Addr
  fd_l_told_there : FuncData
  F_l_told_there : Fun K "_law_told_there" "_law_told_there" s_l_told_there f_l_told_there fd_l_told_there
  b_l_told_there : Binds K fd_l_told_there ["_law_moduli", "_law_seen"] []
  g_l_told_there : mg "_law_told_there" = some (.ref f_l_told_there)
  f_law : Addr
  fd_law : FuncData
  F_law : Fun K "law" "law" s_law f_law fd_law
  b_law : Binds K fd_law ["_law_script"] []
  g_law : mg "law" = some (.ref f_law)
  z_len : mg "len" = none
  z_sum : mg "sum" = none
  z_range : mg "range" = none
  z_int : mg "int" = none
  z_list : mg "list" = none
  z_tuple : mg "tuple" = none
  z_sorted : mg "sorted" = none
  z_isinstance : mg "isinstance" = none
  z_enumerate : mg "enumerate" = none
  z_bool : mg "bool" = none
  z_any : mg "any" = none
  z_all : mg "all" = none
  c_GREATEST_NUMBER : ∃ t, mg "GREATEST_NUMBER" = some (.int 1000000000000000000000000000000 t)
  c_MOST_MODULI : ∃ t, mg "MOST_MODULI" = some (.int 4 t)
  c_GREATEST_TOLD_BY : ∃ t, mg "GREATEST_TOLD_BY" = some (.int 30 t)
  c_MOST_SEEN : ∃ t, mg "MOST_SEEN" = some (.int 20 t)
  c_MOST_UNFIT : ∃ t, mg "MOST_UNFIT" = some (.int 8 t)
  C_RestError : Addr
  g_RestError : mg "RestError" = some (.ref C_RestError)
  C_Nothing : Addr
  g_Nothing : mg "Nothing" = some (.ref C_Nothing)
  x_Nothing : PySem.W.excIn K C_Nothing [.type "ValueError", .type "Exception", .type "BaseException", .type "object"] "ValueError.__new__" = true
  k_Nothing : PySem.W.keepIn K (.ref C_Nothing) = true
  b_Nothing : PySem.W.subIn K (.ref C_Nothing) (.type "BaseException") = some true
  t_Nothing : PySem.W.typeIn K (.ref C_Nothing) = some (.type "type")
  e_Nothing : PySem.W.exmOne K (.ref C_Nothing) (.ref C_Nothing) = some true
  E_Nothing : ExcC K C_Nothing
  r_Nothing : PySem.W.kitOne K (.ref C_Nothing) (.ref C_RestError) = some true

end R
namespace R
open PySem PySem.Spec PyProof.Rows L2
/-! ## heaps: what stays -/
/-- every object but the one at r is as it was -/
def Kp (r : Addr) (H H' : Hp) : Prop := ∀ b o, b ≠ r → H b = some o → H' b = some o
theorem Kp.refl (r : Addr) (H : Hp) : Kp r H H := fun _ _ _ h => h
theorem Kp.trans {r : Addr} {H H1 H2 : Hp} (a : Kp r H H1) (b : Kp r H1 H2) : Kp r H H2 := fun c o n h => b c o n (a c o n h)
theorem Kp.of {r : Addr} {H H' : Hp} (s : Same H H') : Kp r H H' := fun b o _ h => s b o h
theorem Kp.at_ {r : Addr} {H : Hp} {o : HO} : Kp r H (upd H r o) := fun b u n h => by rw [upd_ne n]; exact h
theorem Kp.new {r p : Addr} {H : Hp} {o : HO} (h : H p = none) : Kp r H (upd H p o) := fun b u _ e => by rw [upd_ne (ne_of_none e h)]; exact e
theorem Kp.add {r p : Addr} {H H' : Hp} {o : HO} (s : Kp r H H') (h : H p = none) : Kp r H (upd H' p o) := fun b u n e => by rw [upd_ne (ne_of_none e h)]; exact s b u n e
/-- an address that is free stays no matter of the frame: what the frame keeps is not there -/
theorem Kp.none {r p : Addr} {H H' : Hp} (s : Kp r H H') (hp : p ≠ r) (h : H' p = Option.none) : H p = Option.none := by
  cases q : H p with
  | none => rfl
  | some o => rw [s p o hp q] at h; cases h
theorem Kp.rd {r a : Addr} {H H' : Hp} {u : HO} (s : Kp r H H') (n : a ≠ r) (h : Rd H a u) : Rd H' a u := by
  rcases h with h | ⟨o, h⟩
  · exact .inl (s _ _ n h)
  · exact .inr ⟨o, s _ _ n h⟩
theorem Kp.seqT {K : PySem.W.Frag} {r a : Addr} {H H' : Hp} {xs zs : List V} (s : Kp r H H') (hr : H r = some (.lst zs)) (h : SqT K H a xs) : SqT K H' a xs := by
  rcases h with h | h
  · refine .inl (s.rd ?_ h)
    rintro rfl
    rcases h with h | ⟨o, h⟩
    · rw [hr] at h; cases h
    · rw [hr] at h; cases h
  · exact .inr h
theorem Kp.seqL {K : PySem.W.Frag} {r a : Addr} {H H' : Hp} {xs : List V} (s : Kp r H H') (n : a ≠ r) (h : SqL K H a xs) : SqL K H' a xs := by
  rcases h with h | h
  · exact .inl (s.rd n h)
  · exact .inr h
theorem same_upd {H : Hp} {p : Addr} {o : HO} (h : H p = none) : Same H (upd H p o) := fun b x e => by
  rw [upd_ne (ne_of_none e h)]; exact e
theorem Same.seqTT {K : PySem.W.Frag} {H H' : Hp} {a : Addr} {xs : List V} (e : Same H H') (h : SqT K H a xs) : SqT K H' a xs := by
  rcases h with (h | ⟨o, h⟩) | h
  · exact .inl (.inl (e _ _ h))
  · exact .inl (.inr ⟨o, e _ _ h⟩)
  · exact .inr h
theorem tupOf {K : PySem.W.Frag} {H : Hp} {a : Addr} {xs : List V} (h : H a = some (.tup xs)) : SqT K H a xs := .inl (.inl h)
theorem lstOf {K : PySem.W.Frag} {H : Hp} {a : Addr} {xs : List V} (h : H a = some (.lst xs)) : SqL K H a xs := .inl (.inl h)
theorem getMapInt {ns : List Int} {i : Nat} (h : i < ns.length) : (ns.map V.int)[i]? = some (.int ns[i]) := by
  rw [List.getElem?_map, List.getElem?_eq_getElem h]; rfl
theorem getMapInt' {ns : List Int} {i : Nat} {x : V} (h : (ns.map V.int)[i]? = some x) : ∃ n, ns[i]? = some n ∧ x = .int n := by
  rw [List.getElem?_map] at h
  cases e : ns[i]? with
  | none => rw [e] at h; cases h
  | some n => rw [e] at h; exact ⟨n, rfl, (Option.some.inj h).symm⟩
theorem flatInts (ns : List Int) : (ns.map V.int).all flatV = true := by
  rw [List.all_eq_true]
  intro x hx
  obtain ⟨n, _, rfl⟩ := List.mem_map.mp hx
  rfl
theorem sizeOk {n : Nat} (h : n ≤ 100000) : n ≤ sizeLine := Nat.le_trans h (by decide)
theorem sizeLt {n : Nat} (h : n ≤ 100000) : n < sizeLine := Nat.lt_of_le_of_lt h (by decide)

/-- len by its wish, told over the written part alone -/
def rLenK (K : PySem.W.Frag) : List V → Hp → VK → Prop := fun xs H Q => ∃ p ys, xs = [.ref p] ∧ (SqL K H p ys ∨ SqT K H p ys) ∧ Q (.int ys.length) H
/-! ## bars -/
abbrev Bar := Int × List Int
/-- a lot: ascending rests by m -/
structure LotOk (m : Int) (l : List Int) : Prop where
  up : l.Pairwise (· < ·)
  ge : ∀ r ∈ l, 0 ≤ r
  lt : ∀ r ∈ l, r < m
  few : l.length ≤ 60
structure BarOk (b : Bar) : Prop where
  pos : 1 ≤ b.1
  most : b.1 ≤ 1000000
  lot : LotOk b.1 b.2
/-- the least common multiple of the moduli -/
def wh (bs : List Bar) : Nat := bs.foldl (fun w b => Nat.lcm w b.1.natAbs) 1
def choices (bs : List Bar) : Nat := bs.foldl (fun c b => c * max 1 b.2.length) 1
structure SvOk (bs : List Bar) : Prop where
  six : bs.length ≤ 6
  bar : ∀ b ∈ bs, BarOk b
  great : wh bs ≤ 10 ^ 30
  many : choices bs ≤ 2000
def fitsB (bs : List Bar) (x : Int) : Bool := bs.all fun b => decide (x % b.1 ∈ b.2)
/-- the numbers from 0 to whole - 1 that fit -/
def cls (bs : List Bar) : List Int := ((List.range (wh bs)).map fun i : Nat => (i : Int)).filter (fitsB bs)

/-! ## bars on the heap -/
structure LotAt (K : PySem.W.Frag) (H : Hp) (v : V) (l : List Int) : Prop where
  ex : ∃ a, v = .ref a ∧ SqT K H a (l.map V.int)
structure BarAt (K : PySem.W.Frag) (H : Hp) (v : V) (b : Bar) : Prop where
  ex : ∃ a x, v = .ref a ∧ SqT K H a [.int b.1, x] ∧ LotAt K H x b.2
structure BarsAt (K : PySem.W.Frag) (H : Hp) (v : V) (bs : List Bar) : Prop where
  ex : ∃ a xs, v = .ref a ∧ SqT K H a xs ∧ xs.length = bs.length ∧ ∀ (i : Nat) x b, xs[i]? = some x → bs[i]? = some b → BarAt K H x b
section
variable {K : PySem.W.Frag} {H H' : Hp} {v : V} {l : List Int} {b : Bar} {bs : List Bar}
/-- all tuples that may be read are as they were -/
def TupsStay (K : PySem.W.Frag) (H H' : Hp) : Prop := ∀ a xs, SqT K H a xs → SqT K H' a xs
theorem TupsStay.same (s : Same H H') : TupsStay K H H' := fun _ _ h => Same.seqTT s h
theorem TupsStay.sx {r : Addr} {zs : List V} (s : Kp r H H') (hr : H r = some (.lst zs)) : TupsStay K H H' := fun _ _ h => s.seqT hr h
theorem LotAt.stay (t : TupsStay K H H') (h : LotAt K H v l) : LotAt K H' v l := let ⟨a, e, q⟩ := h.ex; ⟨a, e, t _ _ q⟩
theorem BarAt.stay (t : TupsStay K H H') (h : BarAt K H v b) : BarAt K H' v b := let ⟨a, x, e, q, z⟩ := h.ex; ⟨a, x, e, t _ _ q, z.stay t⟩
theorem BarsAt.stay (t : TupsStay K H H') (h : BarsAt K H v bs) : BarsAt K H' v bs := let ⟨a, xs, e, q, n, z⟩ := h.ex; ⟨a, xs, e, t _ _ q, n, fun i x b h1 h2 => (z i x b h1 h2).stay t⟩
end

end R
namespace R
open PySem PySem.Spec PyProof.Rows L2
/-! ## rules of my own: enumerate over a tuple, lcm of great numbers -/
abbrev itTup (t : Addr) : Obj := { cls := .type "tuple_iterator", data := .fields #[.ref t, .int 0 0] }
abbrev enObj (i : Addr) : Obj := { cls := .type "enumerate", data := .fields #[.none, .bool false, .ref i, rawInt 0, .none, .none] }
abbrev enHeap (h : Heap) (t : Addr) : Heap := (h.push (itTup t)).push (enObj h.objs.size)
theorem meets_enT (t : Addr) (items : Array Value) : Meets (Builtin.«enumerate.__new__» ⟨[.type "enumerate", .ref t], []⟩)
    (fun _ R s => s.heap.IsTuple t items ∧ R (.ok (.ret (.ref (s.heap.push (itTup t)).objs.size))) { s with heap := enHeap s.heap t }) := by
  refine .of_wp fun prog w A R s ⟨ht, h⟩ => ?_
  obtain ⟨hp, g, d, tk, os⟩ := s
  have sub_ := PySem.sub_enumerate
  have it_ : ∀ {A' : Around} {E : Value → Shared → Prop} {Q : Value → Shared → Prop}, Q (.ref hp.objs.size) ⟨hp.push (itTup t), g, d, tk, os⟩ → wpAny (model prog w) A' (pyIter (.ref t)) Q E ⟨hp, g, d, tk, os⟩ :=
    fun q => wpAny_pyIter_tuple ht q
  wp_walk using it_
  refine wpAny_stack_any fun st => wpAny_pure ?_
  split
  · rename_i c _ _ _ _ _
    cases (c == Value.type "enumerate") <;> (wp_walk using it_; exact ⟨_, rfl, h⟩)
  · (wp_walk using it_; exact ⟨_, rfl, h⟩)
theorem call_enT {prog : Program} {w : World} {A : Around} {E : Value → Shared → Prop} {s : Shared} {t : Addr} {items : Array Value} {Q : Value → Shared → Prop} (ht : s.heap.IsTuple t items)
    (h : ∀ h', IsEnum h' (s.heap.objs.size + 1) s.heap.objs.size 0 .none → h'.IsTupleIter s.heap.objs.size t 0 → (∀ b o, s.heap.get? b = some o → h'.get? b = some o) → Q (.ref (s.heap.objs.size + 1)) { s with heap := h' }) :
    wpAny (model prog w) A (call (.type "enumerate") [.ref t]) Q E s := by
  have sz : (s.heap.push (itTup t)).objs.size = s.heap.objs.size + 1 := Heap.size_push ..
  have he : IsEnum (enHeap s.heap t) (s.heap.objs.size + 1) s.heap.objs.size 0 .none := by
    have q := Heap.get?_push_size (s.heap.push (itTup t)) (o := enObj s.heap.objs.size) rfl
    rw [sz] at q
    exact q
  have kp : ∀ b o, s.heap.get? b = some o → (enHeap s.heap t).get? b = some o := fun b o x => Heap.get?_push_of_some _ (Heap.get?_push_of_some _ x)
  refine callType_new F.called_enumerate (by decide) (F.typeCall_enumerate_1 _) (F.newCall_enumerate_1 _) (fun obj => F.args_object_init_2 obj _) F.entry_enumerate_new (meets_enT t items) ⟨ht, ?_⟩
  show _ ∧ _
  rw [sz]
  exact ⟨⟨_, he, rfl⟩, h _ he ⟨_, Heap.get?_push_of_some _ (Heap.get?_push_size _ rfl), rfl, rfl⟩ kp⟩
/-- the tuple at a, each item in a new pair with its place -/
def IteT (K : PySem.W.Frag) (a : Addr) : It :=
  ⟨fun i H => ∃ (xs : List V) (x : V), SqT K H a xs ∧ xs[i]? = some x,
   fun i H v H' => ∃ T x, v = .ref T ∧ H T = none ∧ H' = upd H T (.tup [.int (i : Nat), x]) ∧ ∀ xs, SqT K H a xs → xs[i]? = some x,
   fun i H => ∃ xs : List V, SqT K H a xs ∧ xs.length ≤ i⟩
theorem turn_enT {P : Program} {w : World} {K : PySem.W.Frag} {elts : List Expr} {kk : Nat} {tpos : Pos} (a e it : Addr) :
    Turn P w K (.Tuple elts kk tpos) (IteT K a) [e, it] e (fun i h => (∃ old, IsEnum h e it ((i : Nat) : Int) old) ∧ h.IsTupleIter it a i ∧ e ≠ it) where
  mem := List.mem_cons_self ..
  obj := fun i h ⟨⟨old, he⟩, ⟨o, ho, _, hd⟩, _⟩ b hb => by
    rcases List.mem_cons.mp hb with rfl | hb
    · exact ⟨_, he, fun v q => nomatch q⟩
    · rw [List.mem_singleton.mp hb]
      exact ⟨o, ho, fun v q => by rw [hd] at q; cases q⟩
  keep := fun i h h' ⟨⟨old, he⟩, hi, hne⟩ k => ⟨⟨old, k e (by simp) _ he⟩, hi.at fun o q => k it (by simp) o q, hne⟩
  item := by
    intro X hP hw hK hc i pins s σ H E I hf ⟨⟨old, he⟩, hit, hne⟩ ⟨xs, x, hq, hx⟩
    subst hP hw hK
    obtain ⟨its, rv, p, hz⟩ := I.tuple hq
    have hT : s.heap.IsTuple a its.toArray := p
    have nta : a ≠ it := fun z => by
      subst z
      obtain ⟨o, e1, c1, _⟩ := hT
      obtain ⟨o2, e2, c2, _⟩ := hit
      rw [e1] at e2
      cases e2
      rw [c1] at c2
      exact absurd c2 (by decide)
    have nea : e ≠ a := fun z => by
      subst z
      obtain ⟨o, e1, c1, _⟩ := hT
      rw [he] at e1
      cases e1
      exact absurd (show Value.type "enumerate" = Value.type "tuple" from c1) (by decide)
    have el : e < s.heap.objs.size := Heap.lt_size he
    have il : it < s.heap.objs.size := by obtain ⟨_, q, _⟩ := hit; exact Heap.lt_size q
    have hlt : i < its.toArray.size := by
      have := (List.getElem?_eq_some_iff.mp hx).1
      rw [rv.length] at this
      rw [List.size_toArray]
      exact this
    refine wpAny_pyNext_enum_itemD (Draws.tuple (A := X.A.in1) (I.ok.hd hc) it a nta its.toArray) he ⟨hit, hT⟩ hlt hne (by simp [hne, nea]) fun u h' tk hP ho st' ht' hsz hk => ?_
    obtain ⟨u', hu', ru⟩ := rv.get hx
    have eu : u = u' := by
      rw [List.getElem?_toArray] at hP
      exact Option.some.inj (hP.symm.trans hu')
    subst eu
    refine ⟨_, rfl, wpAny_letOwnedTupleGo_enum (s := { s with heap := h', toks := tk + 1 }) ho fun h2 he2 sb => ?_⟩
    have t2 := (sb.2 _ (Nat.ne_of_gt el)).trans ht'
    have new : ObjOk X.prog X.w (upd H s.heap.objs.size (.tup [.int (i : Nat), x])) h2 s.heap.objs.size (.tup [.int (i : Nat), x]) :=
      ⟨sizeOk (by show (2 : Nat) ≤ 100000; decide), [.int i tk, u], .cons ⟨_, rfl⟩ (.cons ru .nil), _, t2, rfl, _, rfl⟩
    have I1 : Inv X pins σ (upd H s.heap.objs.size (.tup [.int (i : Nat), x])) { s with heap := h2, toks := tk + 1 } := by
      refine I.turnedNew (ch := [e, it]) (fun b ob hb q => ?_) hf (Nat.le_refl _) new
      have hbe : b ≠ e := fun z => hb (by simp [z])
      exact (sb.2 b hbe).trans (hk b ob hbe (fun z => hb (by simp [z])) q)
    refine ⟨.ref s.heap.objs.size, _, I1, rfl, ⟨_, x, rfl, I.hok.fresh (Nat.le_refl _), rfl, fun ys hy => by rw [I.tuple_inj hy hq]; exact hx⟩, ⟨⟨u, ?_⟩, st'.1.at fun o q => (sb.2 it (Ne.symm hne)).trans q, hne⟩, fun b hb => ?_⟩
    · rw [show ((i + 1 : Nat) : Int) = (i : Int) + 1 from rfl]
      exact he2
    · have lt : b < s.heap.objs.size := by
        rcases List.mem_cons.mp hb with rfl | hb
        · exact el
        · rw [List.mem_singleton.mp hb]; exact il
      rw [upd_ne (Nat.ne_of_lt lt)]
      exact (hf b hb).1
  done := by
    intro X hP hw hK hc i pins s σ H E I hf ⟨⟨old, he⟩, hit, hne⟩ ⟨xs, hq, hx⟩
    subst hP hw hK
    obtain ⟨its, rv, p, hz⟩ := I.tuple hq
    have hT : s.heap.IsTuple a its.toArray := p
    obtain ⟨f0, f1, f2, f3, f4, f5⟩ := hf it (by simp)
    have hT' : s.TypeIs (.ref e) "enumerate" := ⟨_, he, rfl⟩
    unfold pyNext
    refine wpAny_bind (wpAny_attempt (wpAny_callSpecial?_slot (name := Str.ofString "__next__") hT' F.slot_enumerate_next (wpAny_call_entry F.slot_enumerate_next hT' F.entry_enumerate_next ?_ (F.args_enumerate_next_1 _))))
    show wpAny _ _ (field (.ref e) 2 >>= _) _ _ _
    refine wpAny_bind (wpAny_field he rfl (x := .ref it) rfl ?_)
    refine wpAny_bind (PySem.wpAny_nextOf_tuple_end (I.ok.hd hc) hit hT (Array.getElem?_eq_none (by rw [List.size_toArray, ← rv.length]; exact hx)) fun h' y eb hy => ?_)
    obtain ⟨o, ho, hcl⟩ := hy
    refine wpAny_bind (wpAny_isInstance (T := "StopIteration") (b := true) ⟨o, ho, hcl⟩ isSubtype_stop ?_)
    exact wpAny_pure ⟨rfl, I.turned (t' := s.toks) (fun b o hb q => eb b o hb q) f0 f1 f3 f4 f5⟩
  self := fun A i s Q E ⟨⟨_, he⟩, _⟩ h => wpAny_pyIter_enum he h
def iEnT (K : PySem.W.Frag) (ta : TA) : TI := fun σ H R => ta σ H fun vs H1 => ∃ a xs, vs = [.ref a] ∧ SqT K H1 a xs ∧ R (IteT K a) H1
theorem pi_enT {X : Cx} {e : Expr} {ta : TA} {p pos tpos : Pos} {elts : List Expr} {kk : Nat} (hg : Gl X "enumerate") (hm : X.mg "enumerate" = none) (ha : PA X [e] ta)
    (hs : starEach [e] X.env = [(false, eval e X.env)] := by rfl) : PI X (.Tuple elts kk tpos) (.Call (.Name "enumerate" p) [e] [] pos) (iEnT X.K ta) := by
  refine ⟨fun pins s σ H R I h => Call_ (ld_blt I hg hm boot_enumerate (PyProof.Rows.callWith_type1 (thn (ha.run pos pins s σ H _ I h) fun us s1 ⟨vs, H1, I1, r1, a, xs, ex, hq, q⟩ => ?_) hs rfl))⟩
  subst ex
  obtain ⟨u, us', rfl⟩ : ∃ u us', us = u :: us' := by
    cases r1 with
    | cons r rr => exact ⟨_, _, rfl⟩
  cases r1 with
  | cons r rr =>
    cases rr
    cases r
    obtain ⟨its, rv, p', hz⟩ := I1.tuple hq
    refine call_enT (show s1.heap.IsTuple a its.toArray from p') fun h' he hit hk => wpAny_pyIter_enum he ?_
    have I2 : Inv X pins σ H1 { s1 with heap := h' } := I1.kept (t' := s1.toks) hk
    refine ⟨s1.heap.objs.size + 1, [s1.heap.objs.size + 1, s1.heap.objs.size], _, _, H1, rfl, I2, turn_enT a _ _, ⟨⟨.none, he⟩, hit, Nat.succ_ne_self _⟩, fun b hb => ?_, q⟩
    have hle : s1.heap.objs.size ≤ b := by
      rcases List.mem_cons.mp hb with rfl | hb
      · exact Nat.le_succ _
      · rw [List.mem_singleton.mp hb]; exact Nat.le_refl _
    exact I1.fpOk hle (I1.hok.fresh hle)
theorem walk_enT {K : PySem.W.Frag} {a : Addr} {xs : List V} : Walk (IteT K a) xs.length (fun H => SqT K H a xs) (YPair (fun i => some (.int (i : Nat))) (fun i => xs[i]?)) := by
  refine ⟨fun i H hi hG => ⟨xs, xs[i], hG, by simp [hi]⟩, fun H hG => ⟨xs, hG, Nat.le_refl _⟩, fun i H x H' hi hG ⟨T, y, h1, h2, h3, h4⟩ => ?_⟩
  exact ⟨T, .int (i : Nat), y, h1, h2, h3, rfl, h4 xs hG⟩
/-- lcm of two numbers below 2 ^ 5000 -/
def rLcmW : List V → Hp → VK → Prop := fun vs H Q => ∃ a b : Nat, vs = [.int a, .int b] ∧ a < 2 ^ 5000 ∧ b < 2 ^ 5000 ∧ Q (.int (Nat.lcm a b : Nat)) H
theorem logLe {n k : Nat} (h : n < 2 ^ (k + 1)) : n.log2 ≤ k := PySem.W.mg_log h
theorem cr_lcmW {X : Cx} : CallR X (.builtin "math.lcm") rLcmW := by
  intro pins s σ H vs us Q I r ⟨a, b, e, ha, hb, q⟩
  subst e
  obtain ⟨t, u, rfl⟩ := Vals.int2 r
  have h1 : (max 1 (a : Int).natAbs).log2 ≤ 4999 := logLe (by rw [Int.natAbs_natCast]; show max 1 a < 2 ^ 5000; have : 1 < 2 ^ 5000 := by decide
                                                              omega)
  have h2 : (max (a : Int).natAbs (b : Int).natAbs).log2 ≤ 4999 := logLe (by rw [Int.natAbs_natCast, Int.natAbs_natCast]; show max a b < 2 ^ 5000; omega)
  have ee : (((Nat.lcm 1 (a : Int).natAbs).lcm (b : Int).natAbs : Nat) : Int) = ((Nat.lcm a b : Nat) : Int) := by
    rw [Int.natAbs_natCast, Int.natAbs_natCast, PySem.W.mc_lcm_one]
  have hm : Nat.lcm a b < 2 ^ 10000 := by
    have h3 : Nat.lcm a b ≤ a * b := Nat.div_le_self _ _
    have h4 : a * b < 2 ^ 5000 * 2 ^ 5000 := Nat.mul_lt_mul'' ha hb
    rw [← Nat.pow_add] at h4
    exact Nat.lt_of_le_of_lt h3 h4
  have hz : ((((Nat.lcm 1 (a : Int).natAbs).lcm (b : Int).natAbs : Nat) : Int)).natAbs.log2 < bitsLine := by
    rw [ee, Int.natAbs_natCast]
    have h5 : (Nat.lcm a b).log2 ≤ 9999 := logLe hm
    rw [PySem.bitsLine_eq]
    omega
  have g := PySem.W.mg_run_lcm a t b u (by omega) (by omega) hz
  rw [ee] at g
  exact PySem.call_function_meets PySem.W.MGF.kind_lcm PySem.W.MGF.plain_lcm PySem.W.MGF.entry_lcm (PySem.W.MGF.args_lcm _ _) g.meets ⟨.int _, H, I.tok _, ⟨_, rfl⟩, q⟩
theorem tyTup {K : PySem.W.Frag} {H : Hp} {a : Addr} {xs : List V} (h : SqT K H a xs) : TyX K H (.ref a) (.type "tuple") := by
  rcases h with (h | ⟨o, h⟩) | ⟨o, its, n, e, c, _⟩
  · exact .base (.tup h)
  · exact .fTuple h
  · exact .kTuple e c

end R
namespace R
open PySem PySem.Spec PyProof.Rows L2
/-! ## an exception that a suite holds -/
def rIsE' (K : PySem.W.Frag) (D a : Addr) (cls : Value) (d : Option Addr) : List V → Hp → VK → Prop := fun xs H Q => cls = .ref D ∧ d = none ∧ rIsE K D a xs H Q
theorem call_isE' {X : Cx} {a D : Addr} {oe : Obj} {pn : List (Addr × Obj)} {cls : Value} {d : Option Addr} (C : ExcC X.K D) (hz : Zc cls d oe) (hf : ∃ vs, oe.data = .fields vs) :
    CallR (X.suite a ((a, oe) :: pn)) (.builtin "isinstance") (rIsE' X.K D a cls d) := by
  intro pins s σ H xs us Q I r h
  obtain ⟨h1, h2, h3⟩ := h
  subst h1 h2
  exact call_isE C hz hf pins s σ H xs us Q I r h3
/-! ## try with several clauses that name the exception -/
abbrev Suites := List (Value × (Addr → Value → Option Addr → TS))
/-- what the clauses wish, one behind the other; the name's slot is i -/
def wAsM (K : PySem.W.Frag) (i : Nat) (Wout : WX) (D : Ends) : Suites → WX
  | [] => Wout
  | p :: r => fun cls d σ H => ∃ b, PySem.W.exmOne K cls p.1 = some b ∧
      (b = true → ∀ a, H a = none → p.2 a cls d ⟨fun τ G => D.nx (τ.set i none) G, D.rt, fun τ G => D.bk (τ.set i none) G, fun τ G => D.ct (τ.set i none) G⟩ (σ.set i (some (.ref a))) H) ∧ (b = false → wAsM K i Wout D r cls d σ H)
/-- the clauses, each «except x as n», with their suites' readings -/
inductive HdsAs (X : Cx) (n : Str) : List ExceptHandler → Suites → Prop
  | nil : HdsAs X n [] []
  | cons {x : Str} {c : Value} {ts : Addr → Value → Option Addr → TS} {b0 : Stmt} {su : List Stmt} {p1 p2 : Pos} {hds : List ExceptHandler} {l : Suites} (hc : Names X x c)
      (hsu : ∀ (a : Addr) (oe : Obj) (cls : Value) (d : Option Addr) (pn : List (Addr × Obj)), Zc cls d oe → (∃ vs, oe.data = .fields vs) → PSs (X.suite a ((a, oe) :: pn)) (b0 :: su) (ts a cls d)) (r : HdsAs X n hds l) :
      HdsAs X n (.ExceptHandler (some (.Name x p1)) (some n) (b0 :: su) p2 :: hds) ((c, ts) :: l)
/-- what is done where the body let an exception out -/
theorem hds_run {X : Cx} {n : Str} {i : Nat} {pins : List (Addr × Obj)} {τ : L2.St} {G : Hp} {D : Ends} {Wout : WX} {e0 : Addr} {B h3 : Heap} {sJ s2 : Shared} {cls : Value} {d : Option Addr} (ok : X.Ok)
    (hst : X.stack = X.env :: X.outer) (hfr : X.env.frame = some X.env.locals) (nod : X.N.Nodup) (hi : X.N[i]? = some n) (hloc : X.env.kindOf n = some .local) (tk : Takes X Wout) (J : Inv X pins τ G sJ)
    (nb : ∀ b o, sJ.heap.get? b = some o → b ∉ frs X.stack → B.get? b = some o) (up : sJ.heap.UpToSlots s2.heap) (up3 : s2.heap.UpToSlots h3) (na : G e0 = none) (os : s2.os = sJ.os) (ag : AllBare s2.gens)
    (fl : HandSPX.FlyingZ B (X.env :: X.outer) e0 (Zc cls d) h3) : ∀ {hds : List ExceptHandler} {l : Suites}, HdsAs X n hds l → wAsM X.K i Wout D l cls d τ G →
      wpAny (model X.prog X.w) X.A (handleBy (.ref e0) X.env hds) (SP X pins D) X.xe { s2 with heap := h3 } := by
  have J3 : Inv X pins τ G { s2 with heap := h3 } := J.landed nb fl.1 (up.trans up3) os ag
  obtain ⟨ob, vb, he3, hz3, hd3⟩ := fl.there
  have out : e0 ∉ frs (X.env :: X.outer) := fun hm => by
    obtain ⟨_, o2, q1, q2⟩ := fl.2.2.1.mem hm
    rw [he3] at q1
    cases q1
    exact q2 _ hd3
  have nL : e0 ≠ X.env.locals := fun z => out (List.mem_filterMap.mpr ⟨_, List.mem_cons_self, z ▸ hfr⟩)
  have nF : e0 ∉ X.fs := fun hm => let ⟨q1, q2, q3⟩ := List.mem_filterMap.mp hm; out (List.mem_filterMap.mpr ⟨q1, List.mem_cons_of_mem _ q2, q3⟩)
  have S3 := J3.suite he3 hd3 na nL nF
  intro hds l hk
  induction hk with
  | nil =>
    intro w
    refine wpAny_handleBy_nil ?_
    obtain ⟨_, _, _, o1, v1, tb, _, _, g1, _, g3, g4, _⟩ := id fl
    unfold PySem.passOn
    refine wpAny_bind (wpAny_field g1 g3 g4 ?_)
    rw [if_neg (by simp : ¬ ((Value.ref tb == Value.none) = true))]
    have last : wpAny (model X.prog X.w) X.A (setFlight (.ref e0) X.env.frame) (fun _ s4 => wpAny (model X.prog X.w) X.A (throw (.ref e0) : Sem Flow) (SP X pins D) X.xe s4) X.xe { s2 with heap := h3 } := by
      rw [hfr]
      refine HandSPX.setFlight_upZ fl fun h4 hh4 up4 => wpAny_throw (tk _ _ ⟨e0, B, sJ, pins, τ, G, cls, d, rfl, J, nb, (up.trans up3).trans up4, .inr (.inr ?_), na, os, ag, w⟩)
      rw [hst]
      exact hh4
    first | exact wpAny_bind (wpAny_pure (wpAny_bind last)) | exact wpAny_bind last
  | @cons x c ts b0 su p1 p2 hds2 l2 hc hsu r ih =>
    rintro ⟨b, hb1, yes, no⟩
    refine wpAny_handleBy_cons (codeAny_handlers_test ?_) (by intro q; cases q)
    have LM := PySem.W.exm_one (M := model X.prog X.w) J3.kIn (fun A Q E s k q => wpAny_typeOf_ref (k _ _ he3) (by rw [hz3.1]; exact q)) hb1
    have named : ∀ {Q E : Value → Shared → Prop}, Q c { s2 with heap := h3 } → wpAny (model X.prog X.w) (X.A.mark (some (.ref e0))) (eval (.Name x p1) X.env) Q E { s2 with heap := h3 } := by
      intro Q E q
      obtain ⟨k1, k2, k3 | ⟨k3, k4, k5⟩⟩ := hc
      · exact ld_glob (X := X.suite e0 ((e0, ob) :: (X.pn ++ pins))) S3 k1 k3 q k2
      · exact ld_blt (X := X.suite e0 ((e0, ob) :: (X.pn ++ pins))) S3 k1 k3 k4 q k5 k2
    refine named (LM.here ?_)
    cases b with
    | false => exact ih (no rfl)
    | true =>
      refine codeAny_handlers_suite_as (HandSPX.lands_againZ fl fun h4 fl4 up4 => ?_)
      have J4 : Inv X pins τ G { s2 with heap := h4 } := J.landed nb fl4.1 ((up.trans up3).trans up4) os ag
      obtain ⟨o4, v4, he4, hz4, hd4⟩ := fl4.there
      refine store_ok (X := X.suite e0 ((e0, o4) :: (X.pn ++ pins))) (v := .ref e0) (J4.suite he4 hd4 na nL nF) nod hi (.inl hloc) rfl (fun s5 S5 => ?_) (.inr hloc)
      refine wpAny_mono ((hsu e0 o4 cls d (X.pn ++ pins) hz4 ⟨_, hd4⟩).run [] s5 _ G _ S5 (yes rfl e0 na)) (fun f s6 sp => ?_) (fun _ _ z => z.elim)
      have close : ∀ {τ6 : L2.St} {G6 : Hp} {Q : Shared → Prop}, Inv (X.suite e0 ((e0, o4) :: (X.pn ++ pins))) [] τ6 G6 s6 → (∀ s7, Inv X pins (τ6.set i none) G6 s7 → Q s7) →
          wpAny (model X.prog X.w) X.A (do bindName X.env n .none; unbindBehindTheSuite X.env n p2) (fun _ s7 => Q s7) X.xe s6 := fun S6 k => gone_ok (S6.unsuite ok) nod hi hloc k
      cases f with
      | ret u => obtain ⟨_, _, _, S6, r6, q6⟩ := sp; exact close S6 fun s7 J7 => ⟨_, _, _, J7, r6, q6⟩
      | next => obtain ⟨_, _, S6, q6⟩ := sp; exact close S6 fun s7 J7 => ⟨_, _, J7, q6⟩
      | brk => obtain ⟨_, _, S6, q6⟩ := sp; exact close S6 fun s7 J7 => ⟨_, _, J7, q6⟩
      | cont => obtain ⟨_, _, S6, q6⟩ := sp; exact close S6 fun s7 J7 => ⟨_, _, J7, q6⟩
theorem ps_try_asM {X : Cx} {n : Str} {i : Nat} {body : List Stmt} {hd : ExceptHandler} {hds : List ExceptHandler} {l : Suites} {pos : Pos} {tb : WX → TS} {Wout : WX} (hst : X.stack = X.env :: X.outer)
    (hfr : X.env.frame = some X.env.locals) (nod : X.N.Nodup) (hi : X.N[i]? = some n) (hloc : X.env.kindOf n = some .local) (tk : Takes X Wout)
    (hb : ∀ (W : WX) (pn : List (Addr × Obj)) (xe : Value → Shared → Prop), Takes (X.tr pn xe) W → PassesOwn (model X.prog X.w) X.A X.env xe → PSs (X.tr pn xe) body (tb W))
    (hh : HdsAs X n (hd :: hds) l) : PS X (.Try body (hd :: hds) [] [] pos) (fun D σ H => tb (wAsM X.K i Wout D l) D σ H) := by
  refine ⟨fun pins s σ H D I h => wpAny_Try_except ?_⟩
  have ok := I.ok
  have fr : X.A.frames = some (X.env :: X.outer) := ok.frames.trans (congrArg some hst)
  let caught : Value → Shared → Prop := fun e s1 => wpAny (model X.prog X.w) X.A (noteFrame e X.env) (fun _ s2 => wpAny (model X.prog X.w) X.A (setFlight e none)
    (fun _ s3 => wpAny (model X.prog X.w) X.A (handleBy e X.env (hd :: hds)) (SP X pins D) X.xe s3) X.xe s2) X.xe s1
  have takes : Takes (X.tr (X.pn ++ pins) caught) (wAsM X.K i Wout D l) := by
    rintro _ s' ⟨a, B, sI, pins', σ', H', cls, d, rfl, J', nb, up, sky, na, os, ag, w⟩
    have sky' : Sky B (X.env :: X.outer) a (Zc cls d) X.env.locals s'.heap := hst ▸ sky
    show wpAny (model X.prog X.w) X.A (noteFrame (.ref a) X.env) _ _ _
    exact Sky.land Zc.steady fr hfr sky' fun h3 fl3 up3 => hds_run ok hst hfr nod hi hloc tk (J'.ofTry ok) nb up up3 na os ag fl3 hh w
  refine wpAny_mono ((hb _ (X.pn ++ pins) caught takes PassesOwn.looking).run [] s σ H D (I.toTry _) h) (fun f s1 sp => ?_) (fun e s1 he => he)
  cases f with
  | ret u => obtain ⟨v, τ, G, J', r, q⟩ := sp; exact ⟨v, τ, G, J'.ofTry ok, r, q⟩
  | next => obtain ⟨τ, G, J', q⟩ := sp; exact wpAny_execs_nil ⟨τ, G, J'.ofTry ok, q⟩
  | brk => obtain ⟨τ, G, J', q⟩ := sp; exact ⟨τ, G, J'.ofTry ok, q⟩
  | cont => obtain ⟨τ, G, J', q⟩ := sp; exact ⟨τ, G, J'.ofTry ok, q⟩

end R
namespace R
open PySem PySem.Spec PyProof.Rows L2
/-! ## the law's draws -/
/-- the row of a law's draws: the script's copy (at L), how far it is read, two numbers -/
structure RowAt (H : Hp) (r L : Addr) : Prop where
  ex : ∃ (ns : List Int) (i : Nat) (b s : Int), H r = some (.lst [.ref L, .int i, .int b, .int s]) ∧ H L = some (.lst (ns.map V.int)) ∧ 0 ≤ b
  ne : L ≠ r
section
variable {H H' : Hp} {r L p : Addr} {o : HO}
theorem RowAt.lst (h : RowAt H r L) : ∃ zs, H r = some (.lst zs) := let ⟨_, _, _, _, e, _⟩ := h.ex; ⟨_, e⟩
theorem RowAt.stay (h : RowAt H r L) (s : Same H H') : RowAt H' r L := by
  obtain ⟨ns, i, b, z, e, q, n⟩ := h.ex
  exact ⟨⟨ns, i, b, z, s _ _ e, s _ _ q, n⟩, h.ne⟩
theorem RowAt.tups {K : PySem.W.Frag} (h : RowAt H r L) (s : Kp r H H') : TupsStay K H H' := let ⟨_, e⟩ := h.lst; .sx s e
theorem RowAt.new (h : RowAt H r L) (hp : H p = none) : p ≠ r ∧ p ≠ L := by
  obtain ⟨ns, i, b, z, e, q, n⟩ := h.ex
  exact ⟨(ne_of_none e hp).symm, (ne_of_none q hp).symm⟩
theorem RowAt.upd (h : RowAt H r L) (n : p ≠ r ∧ p ≠ L) : RowAt (upd H p o) r L := by
  obtain ⟨ns, i, b, z, e, q, h0⟩ := h.ex
  exact ⟨⟨ns, i, b, z, by rw [upd_ne n.1.symm]; exact e, by rw [upd_ne n.2.symm]; exact q, h0⟩, h.ne⟩
end
def sp_l_draws (K : PySem.W.Frag) : Sp := fun vs H Q _ => ∃ (a : Addr) (ns : List Int), vs = [.ref a] ∧ SqL K H a (ns.map V.int) ∧ ∀ r L H', Same H H' → RowAt H' r L → Q (.ref r) H'
def sp_l_pick : Sp := fun vs H Q _ => ∃ (r L : Addr) (m : Int), vs = [.ref r, .int m] ∧ RowAt H r L ∧ 0 < m ∧ m.natAbs < 2 ^ 200 ∧
  ∀ v H', 0 ≤ v → v < m → Kp r H H' → RowAt H' r L → Q (.int v) H'
section
variable {P : Program} {w : World} {K : PySem.W.Frag} {mg : Str → Option Value} {base : Heap}
theorem ok_l_draws (T : Txt K mg) : FnOk P w K mg base CX0 2 T.f_l_draws T.fd_l_draws ["_law_script"] (sp_l_draws K) := by
  refine T.F_l_draws.ok sc_l_draws (fun vs H Q E h => ?_) (fun cdv A outer s H vs Q E hr h => ?_)
  · obtain ⟨a, ns, rfl, _⟩ := h
    rfl
  · obtain ⟨a, ns, rfl, hS, q⟩ := h
    refine ⟨_, (pss_one (ps_ret (pe_lst (pa_cons (pe_callTy call_list_of (by rfl) T.z_list (by decide +kernel) (pa_cons (pv 0) pa_nil)) (pa_cons pe_int (pa_cons pe_int (pa_cons pe_int pa_nil))))))), ?_⟩
    refine ⟨_, rfl, a, _, rfl, .inl hS, fun L nL => ⟨sizeOk (by show (4 : Nat) ≤ 100000; decide), fun r nr => ?_⟩⟩
    have n1 : L ≠ r := fun e => by
      subst e
      rw [upd_same] at nr
      cases nr
    refine q r L _ (Same.trans (same_upd nL) (same_upd nr)) ⟨⟨ns, 0, 0, 7, upd_same, ?_, Int.le_refl 0⟩, n1⟩
    rw [upd_ne n1, upd_same]
theorem ok_l_pick (T : Txt K mg) : FnOk P w K mg base CX0 2 T.f_l_pick T.fd_l_pick ["_law_row", "_law_many"] sp_l_pick := by
  refine T.F_l_pick.ok sc_l_pick (fun vs H Q E h => ?_) (fun cdv A outer s H vs Q E hr h => ?_)
  · obtain ⟨r, L, m, rfl, _⟩ := h
    rfl
  · obtain ⟨r, L, m, rfl, ⟨⟨ns, i, b, z, hr0, hL0, hb⟩, hLr⟩, hm, hm2, q⟩ := h
    have hL : SqL K H L (ns.map V.int) := lstOf hL0
    have S : SqL K H r [.ref L, .int i, .int b, .int z] := lstOf hr0
    refine ⟨_, (C8.pss_cut (ps_if (pt_cmpR op_eq (pe_ix ix_list (pv 0) pe_int (fun _ _ => rfl)) pe_int (nomark _)) (pss_one (ps_if (pt_cmpR op_lt (pe_ix ix_list (pv 0) pe_int (fun _ _ => rfl)) (pe_callB call_len_seq (by rfl) T.z_len (by decide +kernel) (pa_cons (pe_ix ix_list (pv 0) pe_int (fun _ _ => rfl)) pa_nil)) (nomark _)) (pss_cons (ps_set (i := 2) sc_l_pick.nd rfl (by first | exact .inl rfl | exact .inr rfl) (pe_ix ix_list (pe_ix ix_list (pv 0) pe_int (fun _ _ => rfl)) (pe_ix ix_list (pv 0) pe_int (fun _ _ => rfl)) (fun _ _ => rfl)))
      (pss_cons (ps_asg (pe_op op_add (pe_ix ix_list (pv 0) pe_int (fun _ _ => rfl)) pe_int) (pg_sub (pv 0) pe_int set_list))
      (pss_one (ps_if (pt_cmpR op_ge (pv 2) (pe_op op_pow pe_int pe_int) (nomark _)) (pss_one (ps_asg (pv 2) (pg_sub (pv 0) pe_int set_list))) (pss_one (ps_asg (pe_op op_mod (pe_callTy call_int1 (by rfl) T.z_int (by decide +kernel) (pa_cons (pe_op op_add (pe_op op_add (pe_op op_mul (pe_ix ix_list (pv 0) pe_int (fun _ _ => rfl)) pe_int) (pe_op op_mul (pv 2) pe_int)) pe_int) pa_nil)) pe_int) (pg_sub (pv 0) pe_int set_list))))))) (pss_one (ps_asg (pe_op op_mod (pe_callTy call_int1 (by rfl) T.z_int (by decide +kernel) (pa_cons (pe_op op_add (pe_op op_mul (pe_ix ix_list (pv 0) pe_int (fun _ _ => rfl)) pe_int) pe_int) pa_nil)) pe_int) (pg_sub (pv 0) pe_int set_list))))) pss_nil)
      (pss_cons (ps_if (pt_cmpR op_gt (pe_ix ix_list (pv 0) pe_int (fun _ _ => rfl)) pe_int (nomark _)) (pss_cons (ps_set (i := 3) sc_l_pick.nd rfl (by first | exact .inl rfl | exact .inr rfl) (pe_op op_mod (pe_callTy call_int1 (by rfl) T.z_int (by decide +kernel) (pa_cons (pe_ix ix_list (pv 0) pe_int (fun _ _ => rfl)) pa_nil)) (pv 1)))
      (pss_cons (ps_asg (pe_op op_fdivW (pe_ix ix_list (pv 0) pe_int (fun _ _ => rfl)) (pv 1)) (pg_sub (pv 0) pe_int set_list))
      (pss_one (ps_ret (pv 3))))) pss_nil)
      (pss_one (ps_ret (pe_op op_mod (pe_op op_mod (pe_callTy call_int1 (by rfl) T.z_int (by decide +kernel) (pa_cons (pe_op op_mul (pe_ix ix_list (pv 0) pe_int (fun _ _ => rfl)) pe_int) pa_nil)) pe_int) (pv 1)))))), ?_⟩
    refine ⟨fun σ H' => ∃ (c : Option V) (i' : Nat) (b' z' : Int), σ = [some (.ref r), some (.int m), c, none] ∧ Kp r H H' ∧ H' r = some (.lst [.ref L, .int i', .int b', .int z']) ∧ 0 ≤ b', ?_, ?_⟩
    · refine ⟨_, rfl, r, _, 2, _, rfl, rfl, S, atI_nat (j := 2) rfl, rfl, _, rfl, ite2 (fun _ => ?_) (fun _ => ?_)⟩
      · refine ⟨_, rfl, r, _, 1, _, rfl, rfl, S, atI_nat (j := 1) rfl, _, rfl, r, _, 0, _, rfl, rfl, S, atI_nat (j := 0) rfl, L, _, rfl, .inl hL, _, _, rfl, rfl, _, rfl, ite2 (fun e => ?_) (fun e => ?_)⟩
        · have hi : i < ns.length := by
            have e' := of_decide_eq_true e
            rw [List.length_map] at e'
            omega
          refine ⟨_, rfl, r, _, 0, _, rfl, rfl, S, atI_nat (j := 0) rfl, _, rfl, r, _, 1, _, rfl, rfl, S, atI_nat (j := 1) rfl, L, _, i, .int ns[i], rfl, rfl, hL, atI_nat (j := i) (getMapInt hi), ?_⟩
          refine ⟨_, rfl, r, _, 1, _, rfl, rfl, S, atI_nat (j := 1) rfl, _, _, rfl, rfl, _, rfl, r, _, 1, 1, rfl, rfl, hr0, rfl, ?_⟩
          have hr1 : (upd H r (.lst [.ref L, .int ((i : Int) + 1), .int b, .int z])) r = some (.lst [.ref L, .int ((i + 1 : Nat) : Int), .int b, .int z]) := upd_same
          have S1 : SqL K (upd H r (.lst [.ref L, .int ((i : Int) + 1), .int b, .int z])) r _ := lstOf hr1
          have x1 : Kp r H (upd H r (.lst [.ref L, .int ((i : Int) + 1), .int b, .int z])) := Kp.at_
          refine ⟨_, rfl, _, _, rfl, rfl, ⟨by decide, by decide, by decide⟩, _, _, rfl, rfl, _, rfl, ite2 (fun e2 => ?_) (fun e2 => ?_)⟩
          · refine ⟨_, rfl, _, rfl, r, _, 2, 2, rfl, rfl, hr1, rfl, ?_⟩
            refine ⟨_, i + 1, ns[i], z, rfl, fun b o n h => ?_, upd_same, ?_⟩
            · rw [upd_ne n]; exact x1 b o n h
            · have := of_decide_eq_true e2
              have : (0 : Int) ≤ 10 ^ (18 : Int).toNat := by decide
              omega
          · refine ⟨_, rfl, r, _, 3, _, rfl, rfl, S1, atI_nat (j := 3) rfl, _, _, rfl, rfl, .inr (by decide), _, rfl, _, _, rfl, rfl, .inr (by decide), _, _, rfl, rfl, _, _, rfl, rfl, .inl ⟨_, rfl, _, _, rfl, rfl, (show (0 : Int) < 2147483647 by decide), ?_⟩⟩
            refine ⟨_, rfl, r, _, 3, 3, rfl, rfl, hr1, rfl, ?_⟩
            refine ⟨_, i + 1, b, _, rfl, fun b o n h => ?_, upd_same, hb⟩
            rw [upd_ne n]; exact x1 b o n h
        · refine ⟨_, rfl, r, _, 3, _, rfl, rfl, S, atI_nat (j := 3) rfl, _, _, rfl, rfl, .inr (by decide), _, _, rfl, rfl, .inl ⟨_, rfl, _, _, rfl, rfl, (show (0 : Int) < 2147483647 by decide), ?_⟩⟩
          refine ⟨_, rfl, r, _, 3, 3, rfl, rfl, hr0, rfl, ?_⟩
          exact ⟨_, i, b, _, rfl, Kp.at_, upd_same, hb⟩
      · exact ⟨_, i, b, z, rfl, Kp.refl r H, hr0, hb⟩
    · rintro σ H' ⟨c, i', b', z', rfl, sx, hr', hb'⟩
      have S' : SqL K H' r [.ref L, .int i', .int b', .int z'] := lstOf hr'
      have hL' : H' L = some (.lst (ns.map V.int)) := sx _ _ hLr hL0
      refine ⟨_, rfl, r, _, 2, _, rfl, rfl, S', atI_nat (j := 2) rfl, _, _, rfl, rfl, _, rfl, ite2 (fun e => ?_) (fun e => ?_)⟩
      · have e' := of_decide_eq_true e
        refine ⟨_, rfl, r, _, 2, _, rfl, rfl, S', atI_nat (j := 2) rfl, .inl ⟨_, rfl, _, rfl, _, _, rfl, rfl, hm, ?_⟩⟩
        refine ⟨_, rfl, r, _, 2, _, rfl, rfl, S', atI_nat (j := 2) rfl, _, rfl, _, _, rfl, rfl, wide_div hm hm2 (by decide) (by decide), _, rfl, r, _, 2, 2, rfl, rfl, hr', rfl, ?_⟩
        refine ⟨_, rfl, q _ _ (Int.emod_nonneg _ (by omega)) (Int.emod_lt_of_pos _ hm) (fun c o n h => ?_) ⟨⟨ns, i', b' / m, z', upd_same, ?_, Int.ediv_nonneg hb' (by omega)⟩, hLr⟩⟩
        · rw [upd_ne n]; exact sx c o n h
        · rw [upd_ne hLr]; exact hL'
      · refine ⟨_, rfl, r, _, 3, _, rfl, rfl, S', atI_nat (j := 3) rfl, _, _, rfl, rfl, .inr (by decide), .inl ⟨_, rfl, _, _, rfl, rfl, (show (0 : Int) < 2147483629 by decide), _, rfl, _, _, rfl, rfl, hm, ?_⟩⟩
        exact q _ _ (Int.emod_nonneg _ (by omega)) (Int.emod_lt_of_pos _ hm) sx ⟨⟨ns, i', b', z', hr', hL', hb'⟩, hLr⟩
end

end R
namespace R
open PySem PySem.Spec PyProof.Rows L2
/-! ## small facts -/
theorem snocInd {α : Type} {p : List α → Prop} (h0 : p []) (hs : ∀ l x, p l → p (l ++ [x])) : ∀ l, p l := by
  intro l
  rw [← List.reverse_reverse l]
  induction l.reverse with
  | nil => exact h0
  | cons x r ih =>
    rw [List.reverse_cons]
    exact hs _ _ ih
theorem takeSucc {α : Type} {l : List α} {i : Nat} {x : α} (h : l[i]? = some x) : l.take (i + 1) = l.take i ++ [x] := by
  rw [List.take_add_one, h]
  rfl

theorem inVInt (x : Int) (l : List Int) : inV (.int x) (l.map V.int) = decide (x ∈ l) := by
  unfold inV
  rw [List.any_map]
  by_cases h : x ∈ l
  · rw [decide_eq_true h]
    exact List.any_eq_true.mpr ⟨x, h, by show (x == x) = true; exact beq_self_eq_true x⟩
  · rw [decide_eq_false h]
    refine List.any_eq_false.mpr fun y hy e => h ?_
    have e' : (y == x) = true := e
    rw [← beq_iff_eq.mp e']
    exact hy
theorem samePut {H H' : Hp} {p : Addr} {o : HO} (s : Same H H') (h : H p = none) : Same H (upd H' p o) := fun b u e => by
  rw [upd_ne (ne_of_none e h)]
  exact s b u e
theorem freshOf {H H' : Hp} {p : Addr} (s : Same H H') (h : H' p = none) : H p = none := s.free h
def okD (n : Nat) (d : PyData) : Prop := d.canLay0 = true ∧ d.depth ≤ n
theorem okD.shaped {n : Nat} {d : PyData} (h : okD n d) (hn : n ≤ 64) : SeqAt.shaped d = true := by
  unfold SeqAt.shaped
  rw [h.1, decide_eq_true (Nat.le_trans h.2 hn)]
  rfl
theorem okD.eqv {n : Nat} {d : PyData} (h : okD n d) : PyData.eqv d d = true := SeqAt.eqv_refl d h.1
theorem okD.int (i : Int) : okD 0 (.int i) := ⟨rfl, Nat.le_refl _⟩
theorem okD.all {n : Nat} : ∀ {ds : List PyData}, (∀ d ∈ ds, okD n d) → PyData.canLayAll0 ds = true ∧ PyData.depthAll ds ≤ n
  | [], _ => ⟨rfl, Nat.zero_le _⟩
  | d :: ds, h => by
    obtain ⟨a, b⟩ := h d List.mem_cons_self
    obtain ⟨c, e⟩ := okD.all fun x hx => h x (List.mem_cons_of_mem d hx)
    refine ⟨?_, ?_⟩
    · rw [PyData.canLayAll0, a, c]
      rfl
    · rw [PyData.depthAll]
      omega
theorem okD.tup {n : Nat} {ds : List PyData} (h : ∀ d ∈ ds, okD n d) : okD (n + 1) (.tuple ds) := by
  obtain ⟨a, b⟩ := okD.all h
  refine ⟨?_, ?_⟩
  · rw [PyData.canLay0]
    exact a
  · rw [PyData.depth]
    omega
theorem okD.lst {n : Nat} {ds : List PyData} (h : ∀ d ∈ ds, okD n d) : okD (n + 1) (.list ds) := by
  obtain ⟨a, b⟩ := okD.all h
  refine ⟨?_, ?_⟩
  · rw [PyData.canLay0]
    exact a
  · rw [PyData.depth]
    omega
theorem dpInts {K : PySem.W.Frag} {H : Hp} : ∀ l : List Int, DpAll K H (l.map V.int) (l.map PyData.int)
  | [] => .nil
  | i :: l => .cons (.int i) (dpInts l)
theorem dpTup {K : PySem.W.Frag} {H : Hp} {a : Addr} {l : List Int} (h : SqT K H a (l.map V.int)) : Dp K H (.ref a) (.tuple (l.map PyData.int)) := .tup h (dpInts l)
theorem dpLst {K : PySem.W.Frag} {H : Hp} {a : Addr} {l : List Int} (h : SqL K H a (l.map V.int)) : Dp K H (.ref a) (.list (l.map PyData.int)) := .lst h (dpInts l)
theorem okInts (l : List Int) : ∀ d ∈ l.map PyData.int, okD 0 d := fun d h => by
  obtain ⟨i, _, rfl⟩ := List.mem_map.mp h
  exact .int i
theorem eqvNil (l : List Int) : PyData.eqv (.list (l.map PyData.int)) (.list []) = decide (l = []) := by
  rw [PyData.eqv]
  cases l with
  | nil => rfl
  | cons x r => rfl
theorem eqvNilT (l : List Int) : PyData.eqv (.tuple (l.map PyData.int)) (.tuple []) = decide (l = []) := by
  rw [PyData.eqv]
  cases l with
  | nil => rfl
  | cons x r => rfl
theorem lstTups {K : PySem.W.Frag} {H : Hp} {D : Addr} {ys zs : List V} (e : H D = some (.lst ys)) : TupsStay K H (upd H D (.lst zs)) := fun b xs h => by
  rcases h with (h | ⟨o, h⟩) | h
  · exact .inl (.inl (by rw [upd_ne (ne_of h e (by intro z; cases z))]; exact h))
  · exact .inl (.inr ⟨o, by rw [upd_ne (ne_of h e (by intro z; cases z))]; exact h⟩)
  · exact .inr h
/-! ## sum(xs) of a tuple of ints -/
def rSumT (K : PySem.W.Frag) : List V → Hp → VK → Prop := fun vs H Q => ∃ (a : Addr) (ns : List Int), vs = [V.ref a] ∧ SqT K H a (ns.map V.int) ∧ Q (.int ns.sum) H
theorem cr_sumT {X : Cx} (hc : X.calm = true) : CallR X (.builtin "sum") (rSumT X.K) := by
  intro pn st σ H vs us Q I r h
  obtain ⟨a, ns, rfl, ha, q⟩ := h
  rw [Vals.ref1 r]
  obtain ⟨its, rv, p, _⟩ := I.tuple ha
  obtain ⟨o, ga, ec, n, ed⟩ := id p
  have hit : IntsAre its ns := ints_of_vals rv
  have size_ : its.length = ns.length := by
    have := rv.length
    rw [List.length_map] at this
    exact this.symm
  have lt : a < st.heap.objs.size := Heap.lt_size ga
  refine call_sum_walkG (wpAny_pyIter_tuple p ?_)
  have tp : ∀ it : Obj, (st.heap.push it).IsTuple a its.toArray := fun it => ⟨o, Heap.get?_push_of_some _ ga, ec, n, ed⟩
  refine ⟨_, _, _, _, _, _, fun i => ns.getD i 0, rfl, Walks.tuple (A := X.A.in1) (by have := I.ok.hd hc; simpa using this) _ a (Nat.ne_of_lt lt) its.toArray, ⟨⟨_, Heap.get?_push_size _ rfl, rfl, rfl⟩, tp _⟩, fun b hb => ?_, fun i v hv => ?_, fun h' tk t' keep => ?_⟩
  · rw [Heap.size_push]
    rcases List.mem_cons.mp hb with rfl | hb
    · exact Nat.lt_succ_self _
    · rw [List.mem_singleton.mp hb]
      exact Nat.lt_succ_of_lt lt
  · have hi : i < ns.length := by
      have := (Array.getElem?_eq_some_iff.mp hv).1
      rw [List.size_toArray] at this
      omega
    obtain ⟨t, e⟩ := PyProof.Rows.IntsAre.int_at hit i v (by rw [← List.getElem?_toArray]; exact hv)
    exact ⟨t, e⟩
  · have e : preSum (fun i => ns.getD i 0) its.toArray.size = ns.sum := by
      rw [preSum_getD, List.size_toArray, size_, List.take_length]
    refine ⟨.int ns.sum, H, I.kept (t' := tk) fun b u hb => ?_, ⟨t', by rw [e]⟩, q⟩
    have b0 := Heap.lt_size hb
    exact keep b u (by rw [List.mem_singleton]; exact Nat.ne_of_lt b0) (Heap.get?_push_of_some _ hb)
theorem in2u {k : Nat} {A : Around} (hr : Room k A) : A.in1.in1.units < cLine := by
  have := hr.un
  show A.units + 1 + 1 < cLine
  omega
theorem un65 {k : Nat} {A : Around} (hr : Room k A) : A.units + 65 < cLine := by
  have := hr.un
  omega
theorem eqvInts : ∀ xs ys : List Int, PyData.eqvAll (xs.map PyData.int) (ys.map PyData.int) = decide (xs = ys)
  | [], [] => by
    show PyData.eqvAll [] [] = _
    rw [PyData.eqvAll]
    rfl
  | [], y :: ys => by
    show PyData.eqvAll [] (_ :: _) = _
    rw [PyData.eqvAll] <;> first | rfl | simp
  | x :: xs, [] => by
    show PyData.eqvAll (_ :: _) [] = _
    rw [PyData.eqvAll] <;> first | rfl | simp
  | x :: xs, y :: ys => by
    show PyData.eqvAll (PyData.int x :: xs.map PyData.int) (PyData.int y :: ys.map PyData.int) = _
    rw [PyData.eqvAll, eqvInts xs ys, PyData.eqv]
    by_cases h : x = y
    · subst h
      by_cases h2 : xs = ys
      · subst h2
        simp
      · simp [h2]
    · simp [h]
theorem eqvIntsT (xs ys : List Int) : PyData.eqv (.tuple (xs.map PyData.int)) (.tuple (ys.map PyData.int)) = decide (xs = ys) := by
  rw [PyData.eqv]
  exact eqvInts xs ys
theorem eqvIntsL (xs ys : List Int) : PyData.eqv (.list (xs.map PyData.int)) (.list (ys.map PyData.int)) = decide (xs = ys) := by
  rw [PyData.eqv]
  exact eqvInts xs ys

end R
namespace R
open PySem PySem.Spec PyProof.Rows L2
/-! ## what any value is: integers, lots, bars -/
def kOdd (K : PySem.W.Frag) (H : Hp) (x : V) : Prop := (∃ b, x = .bl b) ∨ ∃ t, TyX K H x (.type t) ∧ kitB t "int" = some false
theorem kOdd.ni {K : PySem.W.Frag} {H : Hp} {x : V} (h : kOdd K H x) (i : Int) : x ≠ .int i := by
  rintro rfl
  rcases h with ⟨b, e⟩ | ⟨t, h1, h2⟩
  · cases e
  · cases h1 with
    | base h =>
      cases h
      exact absurd h2 (by decide +kernel)
/-- an integer or something else whose kind is known -/
def Itm (K : PySem.W.Frag) (H : Hp) (x : V) : Prop := (∃ i, x = .int i) ∨ kOdd K H x
def NotTup (K : PySem.W.Frag) (H : Hp) (x : V) : Prop := ∃ t, TyX K H x (.type t) ∧ kitB t "tuple" = some false
def ascV (m : Int) : Int → List V → Bool
  | _, [] => true
  | lo, .int i :: r => (decide (lo ≤ i) && decide (i ≤ m - 1)) && ascV m (i + 1) r
  | _, _ :: _ => false
theorem ascV_ni {m lo : Int} {x : V} {r : List V} (h : ∀ i, x ≠ .int i) : ascV m lo (x :: r) = false := by
  cases x with
  | int i => exact absurd rfl (h i)
  | _ => rfl
theorem ascV_int {m lo i : Int} {r : List V} : ascV m lo (.int i :: r) = ((decide (lo ≤ i) && decide (i ≤ m - 1)) && ascV m (i + 1) r) := rfl
theorem ascV_iff {m : Int} : ∀ {l : List Int} {lo : Int}, ascV m lo (l.map V.int) = true ↔ l.Pairwise (· < ·) ∧ (∀ r ∈ l, lo ≤ r) ∧ ∀ r ∈ l, r < m
  | [], lo => ⟨fun _ => ⟨.nil, fun r h => by simp at h, fun r h => by simp at h⟩, fun _ => rfl⟩
  | x :: l, lo => by
    show ((decide (lo ≤ x) && decide (x ≤ m - 1)) && ascV m (x + 1) (l.map V.int)) = true ↔ _
    rw [Bool.and_eq_true, Bool.and_eq_true, decide_eq_true_iff, decide_eq_true_iff, ascV_iff (l := l) (lo := x + 1)]
    constructor
    · rintro ⟨⟨h1, h2⟩, h3, h4, h5⟩
      refine ⟨List.pairwise_cons.mpr ⟨fun z hz => by have := h4 z hz; omega, h3⟩, fun r hr => ?_, fun r hr => ?_⟩
      · rcases List.mem_cons.mp hr with rfl | hr
        · exact h1
        · have := h4 r hr
          omega
      · rcases List.mem_cons.mp hr with rfl | hr
        · omega
        · exact h5 r hr
    · rintro ⟨h1, h2, h3⟩
      obtain ⟨h4, h5⟩ := List.pairwise_cons.mp h1
      have := h3 x List.mem_cons_self
      exact ⟨⟨h2 x List.mem_cons_self, by omega⟩, h5, fun r hr => by have := h4 r hr; omega, fun r hr => h3 r (List.mem_cons_of_mem _ hr)⟩
theorem LotOk.asc {m : Int} {l : List Int} (h : LotOk m l) : ascV m 0 (l.map V.int) = true := ascV_iff.mpr ⟨h.up, h.ge, h.lt⟩
def barV : V → List V → Bool
  | .int m, zs => (decide (1 ≤ m) && decide (m ≤ 1000000)) && (ascV m 0 zs && decide (zs.length ≤ 60))
  | _, _ => false
theorem barV_ni {x : V} {r : List V} (h : ∀ i, x ≠ .int i) : barV x r = false := by
  cases x with
  | int i => exact absurd rfl (h i)
  | _ => rfl
theorem itmInts {K : PySem.W.Frag} {H : Hp} (l : List Int) : ∀ y ∈ l.map V.int, Itm K H y := fun y h => by
  obtain ⟨i, _, rfl⟩ := List.mem_map.mp h
  exact .inl ⟨i, rfl⟩
def sp_p_is_integer (K : PySem.W.Frag) : Sp := fun vs H Q _ => ∃ x : V, vs = [x] ∧ ((∃ i, x = .int i ∧ Q (.bl true) H) ∨ (kOdd K H x ∧ Q (.bl false) H))
def sp_p_integer_within (K : PySem.W.Frag) : Sp := fun vs H Q _ => ∃ (x : V) (lo hi : Int), vs = [x, .int lo, .int hi] ∧ ((∃ i, x = .int i ∧ Q (.bl (decide (lo ≤ i) && decide (i ≤ hi))) H) ∨ (kOdd K H x ∧ Q (.bl false) H))
def sp_p_is_ascending (K : PySem.W.Frag) : Sp := fun vs H Q _ => ∃ (x : V) (m : Int), vs = [x, .int m] ∧ ((NotTup K H x ∧ Q (.bl false) H) ∨ ∃ a xs, x = .ref a ∧ SqT K H a xs ∧ (∀ y ∈ xs, Itm K H y) ∧ Q (.bl (ascV m 0 xs)) H)
def sp_p_is_lot (K : PySem.W.Frag) : Sp := fun vs H Q _ => ∃ (x : V) (m : Int), vs = [x, .int m] ∧ ((NotTup K H x ∧ Q (.bl false) H) ∨ ∃ a xs, x = .ref a ∧ SqT K H a xs ∧ (∀ y ∈ xs, Itm K H y) ∧ Q (.bl (ascV m 0 xs && decide (xs.length ≤ 60))) H)
def sp_p_is_pair (K : PySem.W.Frag) : Sp := fun vs H Q _ => ∃ x : V, vs = [x] ∧ ((NotTup K H x ∧ Q (.bl false) H) ∨ ∃ a xs, x = .ref a ∧ SqT K H a xs ∧ Q (.bl (decide (xs.length = 2))) H)
def sp_p_is_bar (K : PySem.W.Frag) : Sp := fun vs H Q _ => ∃ x : V, vs = [x] ∧ ((NotTup K H x ∧ Q (.bl false) H) ∨ ∃ a xs, x = .ref a ∧ SqT K H a xs ∧ ((xs.length ≠ 2 ∧ Q (.bl false) H) ∨
  ∃ y z, xs = [y, z] ∧ Itm K H y ∧ ((NotTup K H z ∧ Q (.bl false) H) ∨ ∃ c zs, z = .ref c ∧ SqT K H c zs ∧ (∀ u ∈ zs, Itm K H u) ∧ Q (.bl (barV y zs)) H)))
section
variable {P : Program} {w : World} {K : PySem.W.Frag} {mg : Str → Option Value} {base : Heap}
theorem ok_p_is_integer (T : Txt K mg) : FnOk P w K mg base CX0 2 T.f_p_is_integer T.fd_p_is_integer ["value"] (sp_p_is_integer K) := by
  refine T.F_p_is_integer.ok sc_p_is_integer (fun vs H Q E h => ?_) (fun cdv A outer s H vs Q E hr h => ?_)
  · obtain ⟨x, rfl, _⟩ := h
    rfl
  · obtain ⟨x, rfl, h⟩ := h
    refine ⟨_, (pss_one (ps_ret (pe_and (pe_callB call_isi (by rfl) T.z_isinstance (by decide +kernel) (pa_cons (pv 0) (pa_cons (pe_bltn (v := .ty "int") (by rfl) T.z_int (by decide +kernel) rfl) pa_nil))) (pe_one (pe_not (pe_callB call_isi (by rfl) T.z_isinstance (by decide +kernel) (pa_cons (pv 0) (pa_cons (pe_bltn (v := .ty "bool") (by rfl) T.z_bool (by decide +kernel) rfl) pa_nil)))))))), ?_⟩
    rcases h with ⟨x, rfl, q⟩ | ⟨⟨b, rfl⟩ | ⟨t, ht, hk⟩, q⟩
    · refine ⟨_, rfl, _, _, _, _, _, rfl, .ty "int", .base (.int x), kit_ty (r := true) (by decide +kernel), true, rfl, iteT ?_⟩
      exact ⟨_, rfl, _, _, _, _, _, rfl, .ty "bool", .base (.int x), kit_ty (r := false) (by decide +kernel), false, rfl, q⟩
    · refine ⟨_, rfl, _, _, _, _, _, rfl, .ty "int", .base (.bl b), kit_ty (r := true) (by decide +kernel), true, rfl, iteT ?_⟩
      exact ⟨_, rfl, _, _, _, _, _, rfl, .ty "bool", .base (.bl b), kit_ty (r := true) (by decide +kernel), true, rfl, q⟩
    · exact ⟨_, rfl, _, _, _, _, _, rfl, .ty "int", ht, kit_ty (r := false) hk, false, rfl, iteF q⟩
theorem ok_p_integer_within (T : Txt K mg) : FnOk P w K mg base CX0 3 T.f_p_integer_within T.fd_p_integer_within ["value", "least", "greatest"] (sp_p_integer_within K) := by
  refine T.F_p_integer_within.ok sc_p_integer_within (fun vs H Q E h => ?_) (fun cdv A outer s H vs Q E hr h => ?_)
  · obtain ⟨x, lo, hi, rfl, _⟩ := h
    rfl
  · obtain ⟨x, lo, hi, rfl, h⟩ := h
    refine ⟨_, (pss_one (ps_ret (pe_and (pe_call (ok_p_is_integer T) (hr.mono (by decide)) (by rfl) T.g_p_is_integer T.F_p_is_integer.kp T.b_p_is_integer .nil pass0 (pa_cons (pv 0) pa_nil)) (pe_one (pe_chain op_le op_le (pv 1) (pv 0) (pv 2)))))), ?_⟩
    rcases h with ⟨x, rfl, q⟩ | ⟨o, q⟩
    · refine ⟨_, rfl, _, rfl, .inl ⟨x, rfl, true, rfl, iteT ⟨_, rfl, _, rfl, _, _, rfl, rfl, _, rfl, ?_⟩⟩⟩
      by_cases h : lo ≤ x
      · rw [decide_eq_true h] at q ⊢
        exact iteT ⟨_, rfl, _, _, rfl, rfl, q⟩
      · rw [decide_eq_false h] at q ⊢
        exact iteF q
    · exact ⟨_, rfl, _, rfl, .inr ⟨o, false, rfl, iteF q⟩⟩
theorem ok_p_is_pair (T : Txt K mg) : FnOk P w K mg base CX0 2 T.f_p_is_pair T.fd_p_is_pair ["value"] (sp_p_is_pair K) := by
  refine T.F_p_is_pair.ok sc_p_is_pair (fun vs H Q E h => ?_) (fun cdv A outer s H vs Q E hr h => ?_)
  · obtain ⟨v, rfl, _⟩ := h
    rfl
  · obtain ⟨v, rfl, h⟩ := h
    refine ⟨_, (pss_one (ps_ret (pe_and (pe_callB call_isi (by rfl) T.z_isinstance (by decide +kernel) (pa_cons (pv 0) (pa_cons (pe_bltn (v := .ty "tuple") (by rfl) T.z_tuple (by decide +kernel) rfl) pa_nil))) (pe_one (pe_cmpR op_eq (pe_callB call_len_seq (by rfl) T.z_len (by decide +kernel) (pa_cons (pv 0) pa_nil)) pe_int (nomark _)))))), ?_⟩
    rcases h with ⟨⟨t, ht, hk⟩, q⟩ | ⟨a, xs, rfl, ta, q⟩
    · exact ⟨_, rfl, _, _, _, _, _, rfl, .ty "tuple", ht, kit_ty (r := false) hk, false, rfl, iteF q⟩
    · refine ⟨_, rfl, _, _, _, _, _, rfl, .ty "tuple", tyTup ta, kit_ty (r := true) (by decide +kernel), true, rfl, iteT ?_⟩
      refine ⟨_, rfl, a, _, rfl, .inr ta, rfl, ?_⟩
      have e2 : decide (V.int (xs.length : Int) = V.int 2) = decide (xs.length = 2) := by
        rw [Bool.eq_iff_iff, decide_eq_true_iff, decide_eq_true_iff]
        exact ⟨fun h => by have := V.int.inj h; omega, fun h => by rw [h]; rfl⟩
      show Q (.bl (decide (V.int (xs.length : Int) = V.int 2))) H
      rw [e2]
      exact q
end

end R
namespace R
open PySem PySem.Spec PyProof.Rows L2
/-! ## values that are no numbers -/
/-- a value that is no number, index or the like: no integer, or one that is too great -/
def OddV (K : PySem.W.Frag) (H : Hp) (x : V) : Prop := kOdd K H x ∨ x = .int (10 ^ 30 + 1) ∨ x = .int (0 - 10 ^ 30 - 1)
theorem tyKeep {K : PySem.W.Frag} {H H' : Hp} {r L : Addr} {x : V} {t : Value} (h : TyX K H x t) (R : RowAt H r L) (s : Kp r H H') (R' : RowAt H' r L) : TyX K H' x t := by
  obtain ⟨ns, i, b, z, e, _⟩ := R.ex
  obtain ⟨ns', i', b', z', e', _⟩ := R'.ex
  have ne : ∀ {a : Addr} {o : HO}, H a = some o → (∀ zs, o ≠ .lst zs) → a ≠ r := fun {a o} h1 h2 w => by
    subst w
    rw [e] at h1
    exact h2 _ (Option.some.inj h1).symm
  cases h with
  | base h => cases h with
    | non => exact .base .non
    | bl b => exact .base (.bl b)
    | int i => exact .base (.int i)
    | str x => exact .base (.str x)
    | flt x => exact .base (.flt x)
    | lst h =>
      rename_i a xs
      by_cases w : a = r
      · subst w
        exact .base (.lst e')
      · exact .base (.lst (s _ _ w h))
    | frz h => exact .base (.frz (s _ _ (ne h (fun _ w => nomatch w)) h))
    | tup h => exact .base (.tup (s _ _ (ne h (fun _ w => nomatch w)) h))
    | dK h => exact .base (.dK (s _ _ (ne h (fun _ w => nomatch w)) h))
    | dT h => exact .base (.dT (s _ _ (ne h (fun _ w => nomatch w)) h))
    | ins h c1 c2 c3 c4 c5 => exact .base (.ins (s _ _ (ne h (fun _ w => nomatch w)) h) c1 c2 c3 c4 c5)
  | byt b => exact .byt b
  | set h => exact .set (s _ _ (ne h (fun _ w => nomatch w)) h)
  | kList e c => exact .kList e c
  | kTuple e c => exact .kTuple e c
  | kDict e c => exact .kDict e c
  | fTuple h => exact .fTuple (s _ _ (ne h (fun _ w => nomatch w)) h)
  | fDict h => exact .fDict (s _ _ (ne h (fun _ w => nomatch w)) h)
theorem tySame {K : PySem.W.Frag} {H H' : Hp} {x : V} {t : Value} (h : TyX K H x t) (s : Same H H') : TyX K H' x t := by
  cases h with
  | base h => cases h with
    | non => exact .base .non
    | bl b => exact .base (.bl b)
    | int i => exact .base (.int i)
    | str x => exact .base (.str x)
    | flt x => exact .base (.flt x)
    | lst h => exact .base (.lst (s _ _ h))
    | frz h => exact .base (.frz (s _ _ h))
    | tup h => exact .base (.tup (s _ _ h))
    | dK h => exact .base (.dK (s _ _ h))
    | dT h => exact .base (.dT (s _ _ h))
    | ins h c1 c2 c3 c4 c5 => exact .base (.ins (s _ _ h) c1 c2 c3 c4 c5)
  | byt b => exact .byt b
  | set h => exact .set (s _ _ h)
  | kList e c => exact .kList e c
  | kTuple e c => exact .kTuple e c
  | kDict e c => exact .kDict e c
  | fTuple h => exact .fTuple (s _ _ h)
  | fDict h => exact .fDict (s _ _ h)
theorem OddV.keep {K : PySem.W.Frag} {H H' : Hp} {r L : Addr} {x : V} (h : OddV K H x) (R : RowAt H r L) (s : Kp r H H') (R' : RowAt H' r L) : OddV K H' x := by
  rcases h with (h | ⟨t, h1, h2⟩) | h
  · exact .inl (.inl h)
  · exact .inl (.inr ⟨t, tyKeep h1 R s R', h2⟩)
  · exact .inr h
theorem OddV.same {K : PySem.W.Frag} {H H' : Hp} {x : V} (h : OddV K H x) (s : Same H H') : OddV K H' x := by
  rcases h with (h | ⟨t, h1, h2⟩) | h
  · exact .inl (.inl h)
  · exact .inl (.inr ⟨t, tySame h1 s, h2⟩)
  · exact .inr h

end R
namespace R
open PySem PySem.Spec PyProof.Rows L2
/-! ## numbers judged -/
def IsNum (x : Int) : Prop := -1000000000000000000000000000000 ≤ x ∧ x ≤ 1000000000000000000000000000000
theorem IsNum.size {x : Int} (h : IsNum x) : x.natAbs < 2 ^ 200 := by
  have : x.natAbs ≤ 1000000000000000000000000000000 := by
    unfold IsNum at h
    omega
  exact Nat.lt_of_le_of_lt this (by decide)
/-- what may be asked of any value: a number, an integer that is none, or something else -/
theorem OddV.cases {K : PySem.W.Frag} {H : Hp} {x : V} (h : OddV K H x) : kOdd K H x ∨ ∃ i, x = .int i ∧ ¬ IsNum i := by
  rcases h with h | rfl | rfl
  · exact .inl h
  · exact .inr ⟨_, rfl, by unfold IsNum; omega⟩
  · exact .inr ⟨_, rfl, by unfold IsNum; omega⟩
def sp_p_is_number (K : PySem.W.Frag) : Sp := fun vs H Q _ => ∃ x : V, vs = [x] ∧ ((∃ i, x = .int i ∧ IsNum i ∧ Q (.bl true) H) ∨ (OddV K H x ∧ Q (.bl false) H))
section
variable {P : Program} {w : World} {K : PySem.W.Frag} {mg : Str → Option Value} {base : Heap}
theorem ok_p_is_number (T : Txt K mg) : FnOk P w K mg base CX0 4 T.f_p_is_number T.fd_p_is_number ["value"] (sp_p_is_number K) := by
  refine T.F_p_is_number.ok sc_p_is_number (fun vs H Q E h => ?_) (fun cdv A outer s H vs Q E hr h => ?_)
  · obtain ⟨x, rfl, _⟩ := h
    rfl
  · obtain ⟨x, rfl, h⟩ := h
    refine ⟨_, (pss_one (ps_ret (pe_call (ok_p_integer_within T) (hr.mono (by decide)) (by rfl) T.g_p_integer_within T.F_p_integer_within.kp T.b_p_integer_within .nil pass0 (pa_cons (pv 0) (pa_cons (pe_un un_neg (pe_glob (v := .int 1000000000000000000000000000000) (by rfl) T.c_GREATEST_NUMBER.choose_spec ⟨_, rfl⟩)) (pa_cons (pe_glob (v := .int 1000000000000000000000000000000) (by rfl) T.c_GREATEST_NUMBER.choose_spec ⟨_, rfl⟩) pa_nil)))))), ?_⟩
    rcases h with ⟨i, rfl, hi, q⟩ | ⟨o, q⟩
    · refine ⟨_, rfl, _, rfl, _, _, _, rfl, .inl ⟨_, rfl, ?_⟩⟩
      rw [decide_eq_true hi.1, decide_eq_true hi.2]
      exact q
    · rcases o.cases with o | ⟨i, rfl, hi⟩
      · exact ⟨_, rfl, _, rfl, _, _, _, rfl, .inr ⟨o, q⟩⟩
      · refine ⟨_, rfl, _, rfl, _, _, _, rfl, .inl ⟨_, rfl, ?_⟩⟩
        have e : (decide (-1000000000000000000000000000000 ≤ i) && decide (i ≤ 1000000000000000000000000000000)) = false := by
          rw [← Bool.decide_and, decide_eq_false]
          exact hi
        show Q (.bl (decide (-1000000000000000000000000000000 ≤ i) && decide (i ≤ 1000000000000000000000000000000))) H
        rw [e]
        exact q
end

end R
namespace R
open PySem PySem.Spec PyProof.Rows L2
/-! ## walks within a comprehension's block, told over the written part alone -/
theorem pi_tupK {X : Cx} {K : PySem.W.Frag} {tg e : Expr} {te : TE} (hK : X.K = K) (he : PE X e te) : PI X tg e (iTup K te) := by
  subst hK
  exact pi_tup he
theorem pi_listK {X : Cx} {K : PySem.W.Frag} {tg e : Expr} {te : TE} (hK : X.K = K) (he : PE X e te) : PI X tg e (iList K te) := by
  subst hK
  exact pi_list he
def rTupOf (K : PySem.W.Frag) : List V → Hp → VK → Prop := fun vs H Q => ∃ p ys, vs = [.ref p] ∧ ((SqL K H p ys ∧ ∀ l, H l = none → Q (.ref l) (upd H l (.tup ys))) ∨ (SqT K H p ys ∧ Q (.ref p) H))

end R
namespace R
open PySem PySem.Spec PyProof.Rows L2
/-! ## an empty set -/
abbrev noSet (w : World) : Obj := { cls := .type "set", dict := none, data := .set #[] 0 (.fresh 0 0 (!w.params.followText "set-order")) }

end R
namespace R
open PySem PySem.Spec PyProof.Rows L2
/-! ## {e for t in it if ..}, e an int -/
open PpSet in
/-- D the new set; W by the turn and a measure -/
def tScI (w : World) (wi : TI) (g : TG) (tt : TT) (te : TE) (vs : List Nat) : TE := fun σ H Q => wi σ H fun J H1 => ∀ D, H1 D = none →
  ∃ W : Nat → Nat → Hp → Prop, (∃ m, W 0 m (upd H1 D (SetO w D (fun _ => false) 0))) ∧ ∀ i m H, W i m H → (J.stop i H ∧ Q (.ref D) H) ∨
    (J.go i H ∧ ∃ Nx : Hp → Prop, (∀ H', Nx H' → ∃ m', m' < m ∧ W (i + 1) m' H') ∧ ∀ x H', J.yld i H x H' → g x (wipe σ vs) H' fun σ2 H2 => wipe σ2 vs = wipe σ vs ∧ tt σ2 H2 fun b H3 =>
      if b = true then te σ2 H3 fun y H4 => ∃ (c : Int) (S : Int → Bool) (n : Nat), y = .int c ∧ H4 D = some (SetO w D S n) ∧ n + 1 < scanBound ∧ Nx (upd H4 D (SetO w D (fun j => S j || decide (j = c)) (if S c = true then n else n + 1))) else Nx H3)
open PpSet in
theorem addI_ok {X : Cx} {pins : List (Addr × Obj)} {σ : L2.St} {H : Hp} {s : Shared} {E : Value → Shared → Prop} {D : Addr} {S : Int → Bool} {n : Nat} {y : Int} {tk : Tok} {Q : Value → Shared → Prop} (I : Inv X pins σ H s)
    (hD : H D = some (SetO X.w D S n)) (room : n + 1 < scanBound) (h : ∀ s', Inv X pins σ (upd H D (SetO X.w D (fun j => S j || decide (j = y)) (if S y = true then n else n + 1))) s' → Q .none s') :
    wpAny (model X.prog X.w) X.A (call (.builtin "set.add") [.ref D, .int y tk]) Q E s := by
  refine setR_add (setO_get I hD) room fun h' sb new => h _ ?_
  obtain ⟨o, _, _, _, ho, _⟩ := id new
  exact I.write (e := D) (t' := s.toks + 1) (by rw [hD]; trivial) (.inl rfl) (fun b u hb hu => (sb.2 b hb).trans hu) ⟨o, ho⟩ (setO_new new)
open PpSet in
set_option maxHeartbeats 8000000 in
theorem scI_core {X : Cx} {pins : List (Addr × Obj)} {s : Shared} {σ : L2.St} {H : Hp} {Q : VK} {elt tg iter : Expr} {ifs : List Expr} {scope : Scope} {own : List (PySem.Str × Nat)} {pos pos' : Pos} {wi : TI} {g : TG} {tt : TT} {te : TE}
    {use : Option (Value → Sem Unit)} {Qf : Value → Shared → Prop} (hc : X.calm = true) (hN : X.N.Nodup) (I : Inv X pins σ H s) (hi : PI X tg iter wi) (ok : BlkOk X.N X.env.scope scope own)
    (hg : ∀ (s : Shared) (H : Hp) (C : Addr) (cl : List (PySem.Str × Addr)) (fp : List Addr), PG (X.blk s H scope (compEnvC scope cl C X.env) fp) tg g)
    (ht : ∀ (s : Shared) (H : Hp) (C : Addr) (cl : List (PySem.Str × Addr)) (fp : List Addr), PTs (X.blk s H scope (compEnvC scope cl C X.env) fp) ifs tt)
    (he : ∀ (s : Shared) (H : Hp) (C : Addr) (cl : List (PySem.Str × Addr)) (fp : List Addr), PE (X.blk s H scope (compEnvC scope cl C X.env) fp) elt te) (hs : ∀ x, foldedSetIterable iter X.env x = pure x)
    (h : tScI X.w wi g tt te (own.map (·.2)) σ H Q)
    (last : ∀ D C s' m H', Inv X pins σ H' s' → Q (.ref D) H' → s'.heap.Ns C m → FpOk X pins H' C → compPost (model X.prog X.w) X.A X.xe use Qf (.ref D) C (.ok .next) s') :
    wpAny (model X.prog X.w) X.A (comprehension (.SetComp elt [⟨tg, iter, ifs, 0⟩] scope pos) scope X.env pos' (newSet (.type "set")) false (eval iter X.env) use) Qf X.xe s := by
  have cap : ∀ y ∈ scope.names, y.2 = .free → ∃ c, X.env.cells.lookup y.1 = some c := fun y hy e => I.ok.has _ (ok.free y hy e)
  refine wpAny_comprehension_free (use := use) rfl hs (closure_ok cap) ok.kind (fun y hy e => by rw [ok.uniq y hy, e]) (thn (hi.run pins s σ H _ I h) fun xv s1 hx => thn hx fun itv s2 h2 => ?_)
  obtain ⟨it, fp, tn, J, H2, e, I2, T, st2, f2, q⟩ := h2
  subst e
  refine newSet_ok (newEnv_comp ?_)
  generalize hD : s2.heap.objs.size = D
  have fresh := I2.hok.fresh (Nat.le_of_eq hD)
  obtain ⟨W, ⟨m0, w0⟩, turn⟩ := q D fresh
  generalize hs3 : ({ s2 with heap := s2.heap.push (noSet X.w) } : Shared) = s3
  have h3 : s3.heap = s2.heap.push (noSet X.w) := hs3 ▸ rfl
  have I3 : Inv X pins σ (upd H2 D (SetO X.w D (fun _ => false) 0)) s3 := by
    rw [← hs3]
    refine I2.laid (t' := s2.toks) (fun b o e => Heap.get?_push_of_some _ e) (Nat.le_of_eq hD) ?_
    subst hD
    exact setO_new (setR_fresh X.w)
  have old : ∀ b ∈ fp, b < s2.heap.objs.size := fun b hb => let ⟨_, e, _⟩ := T.obj _ _ st2 b hb; Heap.lt_size e
  have f3 : ∀ b ∈ fp, FpOk X pins (upd H2 D (SetO X.w D (fun _ => false) 0)) b ∧ b < s3.heap.objs.size := fun b hb => by
    have lt := old b hb
    refine ⟨⟨?_, (f2 b hb).2⟩, h3 ▸ (by rw [Heap.size_push]; exact Nat.lt_succ_of_lt lt)⟩
    rw [upd_ne (hD ▸ Nat.ne_of_lt lt)]
    exact (f2 b hb).1
  have st3 : tn 0 s3.heap := T.keep _ _ _ st2 fun b _ o e => h3 ▸ Heap.get?_push_of_some _ e
  have I4 := block_start I3 ok hN f3
  have pg := hg s3 (upd H2 D (SetO X.w D (fun _ => false) 0)) s3.heap.objs.size (cellsFrom (s3.heap.objs.size + 1) scope.names (cloFrom X.env.cells scope.names [])) fp
  have pt := ht s3 (upd H2 D (SetO X.w D (fun _ => false) 0)) s3.heap.objs.size (cellsFrom (s3.heap.objs.size + 1) scope.names (cloFrom X.env.cells scope.names [])) fp
  have pe := he s3 (upd H2 D (SetO X.w D (fun _ => false) 0)) s3.heap.objs.size (cellsFrom (s3.heap.objs.size + 1) scope.names (cloFrom X.env.cells scope.names [])) fp
  show codeAny _ _ (.compStart (.SetComp elt [⟨tg, iter, ifs, 0⟩] scope pos) 0 (.ref it) (.ref D) (compEnvC scope (cellsFrom (s3.heap.objs.size + 1) scope.names (cloFrom X.env.cells scope.names [])) s3.heap.objs.size X.env))
    (compPost (model X.prog X.w) X.A X.xe use Qf (.ref D) s3.heap.objs.size) { s3 with heap := pushCells (s3.heap.push { cls := .type "dict", data := .dict #[] }) scope.names }
  have none3 : ∀ b ∈ fp, (upd H2 D (SetO X.w D (fun _ => false) 0)) b = none := fun b hb => (f3 b hb).1.1
  generalize hce : compEnvC scope (cellsFrom (s3.heap.objs.size + 1) scope.names (cloFrom X.env.cells scope.names [])) s3.heap.objs.size X.env = ce at I4 pg pt pe ⊢
  have cL : ce.locals = s3.heap.objs.size := hce ▸ rfl
  generalize hH3 : upd H2 D (SetO X.w D (fun _ => false) 0) = H3 at I3 I4 pg pt pe w0 none3 f3
  generalize hs4 : ({ s3 with heap := pushCells (s3.heap.push { cls := .type "dict", data := .dict #[] }) scope.names } : Shared) = s4 at I4 ⊢
  have st4 : tn 0 s4.heap := T.keep _ _ _ st3 fun b _ o e => hs4 ▸ pushCells_keeps _ _ _ _ (Heap.get?_push_of_some _ e)
  have still : ∀ {σ' : L2.St} {H' : Hp} {s' : Shared}, Inv (X.blk s3 H3 scope ce fp) [] σ' H' s' → (∀ b ∈ fp, H' b = none) → ∀ b ∈ fp, FpOk (X.blk s3 H3 scope ce fp) [] H' b := by
    intro σ' H' s' I' hn b hb
    obtain ⟨x1, x2⟩ := I'.ok.exf b hb
    exact ⟨hn b hb, x1, I'.ok.exfs b hb, .inl hb, x2, fun p hp => absurd (show p ∈ ([] : List (Addr × Obj)) ++ [] from hp) (by simp)⟩
  have loop : codeAny (model X.prog X.w) X.A (.compLoop (.SetComp elt [⟨tg, iter, ifs, 0⟩] scope pos) 0 (.ref it) (.ref D) ce) (compPost (model X.prog X.w) X.A X.xe use Qf (.ref D) s3.heap.objs.size) s4 := by
    refine compLoopS_any (fun n s' => ∃ i H', Inv (X.blk s3 H3 scope ce fp) [] (wipe σ (own.map (·.2))) H' s' ∧ tn i s'.heap ∧ (∀ b ∈ fp, H' b = none) ∧ W i n H') ?_ m0 ⟨0, H3, I4, st4, none3, w0⟩
    rintro n s5 ⟨i, H5, I5, st5, n5, w5⟩
    rcases turn i n H5 w5 with ⟨stop, done⟩ | ⟨go, Nx, hNx, step⟩
    · refine thnF (T.done (X.blk s3 H3 scope ce fp) rfl rfl rfl hc i [] s5 _ H5 (fun _ _ => False) I5 (still I5 n5) st5 stop) fun r s6 ⟨hr, I6⟩ => ?_
      subst hr
      have I7 : Inv X pins σ H5 s6 := I3.call' (ch := fp) I6.os I6.base I6.hok I6.bare fun b hb => let z := (f3 b hb).1.2; ⟨z.2.2.1, z.1, z.2.2.2.1, z.2.2.2.2⟩
      have gone : H5 s3.heap.objs.size = none := cL ▸ (show H5 ce.locals = none from I6.free)
      obtain ⟨m, hm, _⟩ := I6.loc
      have hm' : s6.heap.Ns ce.locals m := hm
      rw [cL] at hm'
      exact last D s3.heap.objs.size s6 m H5 I7 done hm' (I3.fpOk (Nat.le_refl _) gone)
    · refine thnF (T.item (X.blk s3 H3 scope ce fp) rfl rfl rfl hc i [] s5 _ H5 (fun _ _ => False) I5 (still I5 n5) st5 go) fun r s6 ⟨u, hr, h6⟩ => ?_
      subst hr
      refine thnF h6 fun _ s7 ⟨x, H7, I7, r7, y7, st7, n7⟩ => ?_
      have I7' := I7.pinned (still I7 n7) (T.obj _ _ st7)
      refine thnF (pg.run _ s7 _ H7 x u _ I7' r7 (step x H7 y7)) fun _ s8 ⟨σ8, H8, I8, hw8, q8⟩ => ?_
      refine thnF (pt.run _ s8 σ8 H8 _ I8 q8) fun b s9 ⟨H9, I9, q9⟩ => ?_
      have fin : ∀ {s' : Shared} {H' : Hp}, Inv (X.blk s3 H3 scope ce fp) ([] ++ pinsAt fp s7.heap) σ8 H' s' → Nx H' →
          ∃ m, m < n ∧ ∃ i H', Inv (X.blk s3 H3 scope ce fp) [] (wipe σ (own.map (·.2))) H' s' ∧ tn i s'.heap ∧ (∀ b ∈ fp, H' b = none) ∧ W i m H' := by
        intro s' H' I' nx
        obtain ⟨m', hm, w'⟩ := hNx H' nx
        have pinned : ∀ b ∈ fp, ∀ o, s7.heap.get? b = some o → s'.heap.get? b = some o ∧ H' b = none := fun b hb o e => by
          have z := I'.pin (b, o) (List.mem_append_right _ (List.mem_append_right _ (mem_pinsAt hb e)))
          exact ⟨z.1, z.2.1⟩
        have len : (wipe σ (own.map (·.2))).length = σ8.length := by rw [← hw8, wipe_length]
        refine ⟨m', hm, i + 1, H', (I'.unpinned (pins := [])).weak len (fun j v e => (wipe_some (hw8 ▸ e)).1), T.keep _ _ _ st7 fun b hb o e => (pinned b hb o e).1, fun b hb => ?_, w'⟩
        obtain ⟨o, e, _⟩ := T.obj _ _ st7 b hb
        exact (pinned b hb o e).2
      cases b with
      | false =>
        rw [if_neg Bool.false_ne_true] at q9 ⊢
        exact fin I9 q9
      | true =>
        rw [if_pos rfl] at q9 ⊢
        refine thnF (pe.run _ s9 σ8 H9 _ I9 q9) fun z s10 ⟨yv, H10, I10, r10, c, S0, n0, ey, hD10, room, nx⟩ => ?_
        subst ey
        obtain ⟨tk, rfl⟩ : ∃ t, z = Value.int c t := r10
        exact addI_ok (X := X.blk s3 H3 scope ce fp) I10 hD10 room fun s11 I11 => fin I11 nx
  exact codeAny_compStart_set loop (T.self X.A 0 _ _ _ st4 loop)
open PpSet in
theorem pe_scI {X : Cx} {elt tg iter : Expr} {ifs : List Expr} {scope : Scope} {own : List (PySem.Str × Nat)} {pos : Pos} {wi : TI} {g : TG} {tt : TT} {te : TE} (hc : X.calm = true) (hN : X.N.Nodup) (hi : PI X tg iter wi)
    (ok : BlkOk X.N X.env.scope scope own) (hg : ∀ (s : Shared) (H : Hp) (C : Addr) (cl : List (PySem.Str × Addr)) (fp : List Addr), PG (X.blk s H scope (compEnvC scope cl C X.env) fp) tg g)
    (ht : ∀ (s : Shared) (H : Hp) (C : Addr) (cl : List (PySem.Str × Addr)) (fp : List Addr), PTs (X.blk s H scope (compEnvC scope cl C X.env) fp) ifs tt)
    (he : ∀ (s : Shared) (H : Hp) (C : Addr) (cl : List (PySem.Str × Addr)) (fp : List Addr), PE (X.blk s H scope (compEnvC scope cl C X.env) fp) elt te) (hs : ∀ x, foldedSetIterable iter X.env x = pure x := by intro _; rfl) :
    PE X (.SetComp elt [⟨tg, iter, ifs, 0⟩] scope pos) (tScI X.w wi g tt te (own.map (·.2))) := by
  refine ⟨fun pins s σ H Q I h => ?_⟩
  rw [eval_SetComp]
  refine scI_core hc hN I hi ok hg ht he hs h fun D C s' m H' I' q hn f => ⟨m, hn, fun h'' sb => ⟨.ref D, H', ?_, rfl, q⟩⟩
  exact I'.turned (t' := s'.toks) (fun b o hb e => (sb.2 b hb).trans e) f.1 f.2.1 f.2.2.2.1 f.2.2.2.2.1 f.2.2.2.2.2
/-- over a tuple that stands still -/
theorem scI_tup {w : World} {K : PySem.W.Frag} {a : Addr} {xs : List V} {g : TG} {tt : TT} {te : TE} {vs : List Nat} {σ : L2.St} {H1 : Hp} {D : Addr} {Qd : Hp → Prop} (Pv : Nat → Hp → Prop) (h0 : Pv 0 (upd H1 D (SetO w D (fun _ => false) 0)))
    (hl : ∀ i H, i ≤ xs.length → Pv i H → SqT K H a xs)
    (hs : ∀ i x H, xs[i]? = some x → Pv i H → g x (wipe σ vs) H fun σ2 H2 => wipe σ2 vs = wipe σ vs ∧ tt σ2 H2 fun b H3 => if b = true then te σ2 H3 fun y H4 =>
      ∃ (c : Int) (S : Int → Bool) (n : Nat), y = .int c ∧ H4 D = some (SetO w D S n) ∧ n + 1 < scanBound ∧ Pv (i + 1) (upd H4 D (SetO w D (fun j => S j || decide (j = c)) (if S c = true then n else n + 1))) else Pv (i + 1) H3)
    (hd : ∀ H, Pv xs.length H → Qd H) : ∃ W : Nat → Nat → Hp → Prop, (∃ m, W 0 m (upd H1 D (SetO w D (fun _ => false) 0))) ∧ ∀ i m H, W i m H → ((Itt K a).stop i H ∧ Qd H) ∨
      ((Itt K a).go i H ∧ ∃ Nx : Hp → Prop, (∀ H', Nx H' → ∃ m', m' < m ∧ W (i + 1) m' H') ∧ ∀ x H', (Itt K a).yld i H x H' → g x (wipe σ vs) H' fun σ2 H2 => wipe σ2 vs = wipe σ vs ∧ tt σ2 H2 fun b H3 =>
        if b = true then te σ2 H3 fun y H4 => ∃ (c : Int) (S : Int → Bool) (n : Nat), y = .int c ∧ H4 D = some (SetO w D S n) ∧ n + 1 < scanBound ∧ Nx (upd H4 D (SetO w D (fun j => S j || decide (j = c)) (if S c = true then n else n + 1))) else Nx H3) := by
  refine ⟨fun i m H => m = xs.length - i ∧ i ≤ xs.length ∧ Pv i H, ⟨_, rfl, Nat.zero_le _, h0⟩, ?_⟩
  rintro i _ H ⟨rfl, hi, p⟩
  by_cases lt : i < xs.length
  · refine .inr ⟨⟨xs, xs[i], hl i H hi p, by simp [lt]⟩, Pv (i + 1), fun H' p' => ⟨xs.length - (i + 1), by omega, rfl, lt, p'⟩, fun x H' ⟨e, y⟩ => ?_⟩
    subst e
    exact hs i x _ (y xs (hl i _ hi p)) p
  · obtain rfl : i = xs.length := by omega
    exact .inl ⟨⟨xs, hl _ H hi p, Nat.le_refl _⟩, hd H p⟩

end R
namespace R
open PySem PySem.Spec PyProof.Rows L2
/-! ## a set of tuples of ints, one added -/
theorem check_set_add {P : Program} {w : World} {A : Around} {s : Shared} {a : Addr} {o : Obj} {x : Value} (ga : s.heap.get? a = some o) (hc : o.cls = .type "set") (Q : Unit → Shared → Prop) (E : Value → Shared → Prop) (q : Q () s) :
    wpAny (model P w) A (checkBuiltinCall "set.add" { pos := [.ref a, x] }) Q E s := by
  have iv : PySem.W.Looks (model P w) s.heap (isInstance (.ref a) (.type "set")) true := (PySem.W.Looks.andThen ((PySem.W.Looks.ld ga).andThen .now) (PySem.W.Looks.of_pure (by rw [hc]; exact PySem.F.sub_set_set)))
  have bk : builtinKind "set.add" = some Manifest.AttrKind.method := by decide +kernel
  have bs : splitId "set.add" = some ("set", "add") := by decide +kernel
  have ao := PySem.F.args_set_add_2 (.ref a) x
  unfold argsOk at ao
  unfold checkBuiltinCall
  simp only [bk, bs]
  refine wpAny_bind (iv A _ _ s (fun b o e => e) ?_)
  simp only [Bool.not_true, Bool.false_eq_true, if_false]
  cases hs : Manifest.signature? "set.add" with
  | none => exact wpAny_pure q
  | some sig =>
    rw [hs] at ao
    have ao' : Bind.checkArgs "set.add" sig { pos := [.ref a, x] } = pure () := ao
    show wpAny (model P w) A (Bind.checkArgs "set.add" sig { pos := [.ref a, x] }) _ _ _
    rw [ao']
    exact wpAny_pure q
theorem addT_call {P : Program} {w : World} {A : Around} {E : Value → Shared → Prop} {s : Shared} {a : Addr} {L : List (Addr × List Int)} {es : Array (Int × Value)} {ep : Nat} {t : SetTable} {x : Addr} {k : List Int} {Q : Value → Shared → Prop}
    (R : SetTR P w s.heap a L es ep t) (hx : IsT P w s.heap k x) (hu : A.in1.units < cLine) (few : L.length + 1 < 64)
    (h : ∀ (h' : Heap) (tk : Nat) (L' : List (Addr × List Int)) (es' : Array (Int × Value)) (ep' : Nat) (t' : SetTable), Heap.SameBut a s.heap h' → SetTR P w h' a L' es' ep' t' → (k ∈ L.map (·.2) → L' = L) → (k ∉ L.map (·.2) → L'.Perm ((x, k) :: L)) →
      Q .none { heap := h', gens := s.gens, drawn := s.drawn, toks := tk, os := s.os }) :
    wpAny (model P w) A (call (.builtin "set.add") [.ref a, .ref x]) Q E s := by
  obtain ⟨o, ga, ex, eo⟩ := R.ob
  refine wpAny_call (codeAny_call_builtin (by decide +kernel) PySem.F.entry_set_add (check_set_add ga ex.1 _ _ ?_))
  unfold Builtin.«set.add» Builtin.Frozenset.oneOther Builtin.Frozenset.addrOf setAdd
  simp only [List.isEmpty_nil]
  refine wpAny_bind (wpAny_bind (wpAny_pure (wpAny_pure ?_)))
  refine wpAny_bind (wpAny_holding (wpAny_bind (wpAny_pyHash_tuple hu hx ?_)))
  refine add_at (s := { s with toks := s.toks + (k.length + 1) }) R hx hu few fun b h' L' es' ep' t' sb R' m1 m2 => ?_
  exact wpAny_pure (h h' _ L' es' ep' t' sb R' m1 m2)
theorem under_cl (A : Around) (elt : Expr) (gs : List Comprehension) (scope : Scope) (pos : Pos) (d : Nat) (it acc : Value) (env : Env) : A.under (Code.compLoop (.SetComp elt gs scope pos) d it acc env) = A := by
  cases A
  rfl
theorem under_cs (A : Around) (elt : Expr) (gs : List Comprehension) (scope : Scope) (pos : Pos) (d : Nat) (it acc : Value) (env : Env) : A.under (Code.compStart (.SetComp elt gs scope pos) d it acc env) = A := by
  cases A
  rfl
theorem clTurn {prog : Program} {w : World} {A : Around} {R : Result → Shared → Prop} {s : Shared} {elt : Expr} {gs : List Comprehension} {scope : Scope} {pos : Pos} {it acc : Value} {env : Env} {d : Nat}
    (h : wpAny (model prog w) A (compTurn (.SetComp elt gs scope pos) d it acc env) (fun fin s' => match fin with
      | Fin.done f => R (Except.ok f) s'
      | Fin.again c' => c'.quiet = true ∧ codeAny (model prog w) A c' R s') (notedBy (model prog w) A env fun x s' => R (Except.error x) s') s) : codeAny (model prog w) A (Code.compLoop (.SetComp elt gs scope pos) d it acc env) R s := by
  refine codeAny_of_tree ?_
  rw [under_cl]
  exact wpAny_noted h
theorem clTurn1 {prog : Program} {w : World} {A : Around} {R : Result → Shared → Prop} {s : Shared} {elt t0 i0 t1 i1 : Expr} {ifs0 ifs1 : List Expr} {scope : Scope} {pos : Pos} {it acc : Value} {env : Env}
    (h : wpAny (model prog w) A (pyNext it) (fun r s₁ => match r with
      | none => R (Except.ok Flow.next) s₁
      | some v => wpAny (model prog w) A (letOwnedTupleGo t1 it v) (fun x s₁' => wpAny (model prog w) A (assign t1 env v) (fun x s₂ =>
          wpAny (model prog w) A (forIn ifs1 true fun c r => if r = true then do
              let ok ← PySem.isTrue c env (eval c env)
              pure (ForInStep.yield ok)
            else pure (ForInStep.yield r)) (fun ok s₃ => if ok = true then wpAny (model prog w) A (eval elt env) (fun x s₄ => wpAny (model prog w) A (call (Value.builtin "set.add") [acc, x])
                  (fun x s₅ => codeAny (model prog w) A (Code.compLoop (.SetComp elt [⟨t0, i0, ifs0, 0⟩, ⟨t1, i1, ifs1, 0⟩] scope pos) 1 it acc env) R s₅)
                  (notedBy (model prog w) A env fun e s' => R (Except.error e) s') s₄) (notedBy (model prog w) A env fun e s' => R (Except.error e) s') s₃
              else codeAny (model prog w) A (Code.compLoop (.SetComp elt [⟨t0, i0, ifs0, 0⟩, ⟨t1, i1, ifs1, 0⟩] scope pos) 1 it acc env) R s₃)
            (notedBy (model prog w) A env fun e s' => R (Except.error e) s') s₂) (notedBy (model prog w) A env fun e s' => R (Except.error e) s') s₁') (notedBy (model prog w) A env fun e s' => R (Except.error e) s') s₁)
      (notedBy (model prog w) A env fun e s' => R (Except.error e) s') s) :
    codeAny (model prog w) A (Code.compLoop (.SetComp elt [⟨t0, i0, ifs0, 0⟩, ⟨t1, i1, ifs1, 0⟩] scope pos) 1 it acc env) R s := by
  refine clTurn ?_
  unfold compTurn
  refine wpAny_bind (wpAny_standAt ?_)
  refine wpAny_bind (thn h ?_)
  rintro r s1 hr
  cases r with
  | none => exact wpAny_pure hr
  | some v =>
    refine wpAny_bind (thn hr fun _ s2 h2 => ?_)
    refine wpAny_bind (thn h2 fun _ s3 h3 => ?_)
    refine wpAny_bind (thn h3 fun ok s4 h4 => ?_)
    cases ok with
    | false =>
      rw [if_neg Bool.false_ne_true] at h4
      exact wpAny_pure ⟨rfl, h4⟩
    | true =>
      rw [if_pos rfl] at h4
      refine wpAny_bind (wpAny_bind (thn h4 fun x s5 h5 => ?_))
      refine wpAny_bind (wpAny_standAt (wpAny_bind (thn h5 fun _ s6 h6 => wpAny_pure ?_)))
      exact wpAny_pure ⟨rfl, h6⟩
theorem markNone (A : Around) : A.mark none = A := by
  cases A
  rfl
theorem clTurn0 {prog : Program} {w : World} {A : Around} {R : Result → Shared → Prop} {s : Shared} {elt t0 i0 t1 i1 : Expr} {ifs0 ifs1 : List Expr} {scope : Scope} {pos : Pos} {it acc : Value} {env : Env} (hs : ∀ x, foldedSetIterable i1 env x = pure x)
    (h : wpAny (model prog w) A (pyNext it) (fun r s₁ => match r with
      | none => R (Except.ok Flow.next) s₁
      | some v => wpAny (model prog w) A (letOwnedTupleGo t0 it v) (fun _ s₁' => wpAny (model prog w) A (assign t0 env v) (fun _ s₂ =>
          wpAny (model prog w) A (forIn ifs0 true fun c r => if r = true then do
              let ok ← PySem.isTrue c env (eval c env)
              pure (ForInStep.yield ok)
            else pure (ForInStep.yield r)) (fun ok s₃ => if ok = true then wpAny (model prog w) A (eval i1 env) (fun x s₄ => wpAny (model prog w) A (pyIter x)
                  (fun it1 s₅ => codeAny (model prog w) A (Code.compStart (.SetComp elt [⟨t0, i0, ifs0, 0⟩, ⟨t1, i1, ifs1, 0⟩] scope pos) 1 it1 acc env) (fun r s' => match r with
                    | Except.ok _ => codeAny (model prog w) A (Code.compLoop (.SetComp elt [⟨t0, i0, ifs0, 0⟩, ⟨t1, i1, ifs1, 0⟩] scope pos) 0 it acc env) R s'
                    | Except.error _ => False) s₅)
                  (notedBy (model prog w) A env fun e s' => R (Except.error e) s') s₄) (notedBy (model prog w) A env fun e s' => R (Except.error e) s') s₃
              else codeAny (model prog w) A (Code.compLoop (.SetComp elt [⟨t0, i0, ifs0, 0⟩, ⟨t1, i1, ifs1, 0⟩] scope pos) 0 it acc env) R s₃)
            (notedBy (model prog w) A env fun e s' => R (Except.error e) s') s₂) (notedBy (model prog w) A env fun e s' => R (Except.error e) s') s₁') (notedBy (model prog w) A env fun e s' => R (Except.error e) s') s₁)
      (notedBy (model prog w) A env fun e s' => R (Except.error e) s') s) :
    codeAny (model prog w) A (Code.compLoop (.SetComp elt [⟨t0, i0, ifs0, 0⟩, ⟨t1, i1, ifs1, 0⟩] scope pos) 0 it acc env) R s := by
  refine clTurn ?_
  unfold compTurn
  refine wpAny_bind (wpAny_standAt ?_)
  refine wpAny_bind (thn h ?_)
  rintro r s1 hr
  cases r with
  | none => exact wpAny_pure hr
  | some v =>
    refine wpAny_bind (thn hr fun _ s2 h2 => ?_)
    refine wpAny_bind (thn h2 fun _ s3 h3 => ?_)
    refine wpAny_bind (thn h3 fun ok s4 h4 => ?_)
    cases ok with
    | false =>
      rw [if_neg Bool.false_ne_true] at h4
      exact wpAny_pure ⟨rfl, h4⟩
    | true =>
      rw [if_pos rfl] at h4
      refine wpAny_bind (thn h4 fun x s5 h5 => ?_)
      refine wpAny_bind (wpAny_standAt ?_)
      refine wpAny_bind ?_
      show wpAny (model prog w) A (foldedSetIterable i1 env x) _ _ _
      rw [hs x]
      refine wpAny_pure (wpAny_bind (wpAny_holding (thn h5 fun it1 s6 h6 => ?_)))
      refine wpAny_bind (wpAny_runOwn (h := none) ?_ (by intro z; cases z))
      rw [markNone]
      refine codeAny_mono h6 fun r s7 h7 => ?_
      cases r with
      | error e => exact h7.elim
      | ok fl => exact wpAny_pure ⟨rfl, h7⟩
theorem csStart1 {prog : Program} {w : World} {A : Around} {R : Result → Shared → Prop} {s : Shared} {elt t0 i0 t1 i1 : Expr} {ifs0 ifs1 : List Expr} {scope : Scope} {pos : Pos} {it acc : Value} {env : Env}
    (h : codeAny (model prog w) A (Code.compLoop (.SetComp elt [⟨t0, i0, ifs0, 0⟩, ⟨t1, i1, ifs1, 0⟩] scope pos) 1 it acc env) R s)
    (h2 : wpAny (model prog w) A (pyIter it) (fun it' s' => codeAny (model prog w) A (Code.compLoop (.SetComp elt [⟨t0, i0, ifs0, 0⟩, ⟨t1, i1, ifs1, 0⟩] scope pos) 1 it' acc env) R s') (notedBy (model prog w) A env fun x s' => R (Except.error x) s') s) :
    codeAny (model prog w) A (Code.compStart (.SetComp elt [⟨t0, i0, ifs0, 0⟩, ⟨t1, i1, ifs1, 0⟩] scope pos) 1 it acc env) R s := by
  refine codeAny_of_tree ?_
  rw [under_cs]
  refine wpAny_notedAt ?_
  unfold compStart
  rw [if_neg (show ¬ ((clausesOf (.SetComp elt [⟨t0, i0, ifs0, 0⟩, ⟨t1, i1, ifs1, 0⟩] scope pos))[1]?.elim false fun x => x.is_async != 0) = true from fun z => by
    have z' : ((0 : Int) != 0) = true := z
    exact absurd z' (by decide))]
  refine wpAny_bind (wpAny_askSetting ?_)
  split
  · exact wpAny_pure ⟨rfl, h⟩
  · refine wpAny_bind (wpAny_rule ?_)
    refine wpAny_bind (wpAny_standAt ?_)
    exact wpAny_bind (thn h2 fun it' s' h' => wpAny_pure ⟨rfl, h'⟩)
/-- such a set in a state -/
theorem setTR_of {X : Cx} {pins : List (Addr × Obj)} {σ : L2.St} {H : Hp} {s : Shared} {D : Addr} {L : List (Addr × List Int)} (I : Inv X pins σ H s) (hD : H D = some (SetTO X.prog X.w D L)) (tl : ∀ p ∈ L, SqT X.K H p.1 (p.2.map V.int)) :
    ∃ es ep t, SetTR X.prog X.w s.heap D L es ep t := by
  have z : SetT0 X.prog X.w s.heap D L := by
    have z := I.hok _ _ hD
    unfold SetTO at z
    rw [ObjOk] at z
    first | exact z | exact z.1 | exact z.2
  obtain ⟨es, ep, t, o, r, tb, nd, pl, led, room, few⟩ := z.ex
  exact ⟨es, ep, t, o, r, tb, nd, fun p hp => I.isT (tl p hp), pl, led, room, few⟩
theorem addT_ok {X : Cx} {pins : List (Addr × Obj)} {σ : L2.St} {H : Hp} {s : Shared} {E : Value → Shared → Prop} {D c : Addr} {L : List (Addr × List Int)} {k : List Int} {Q : Value → Shared → Prop} (I : Inv X pins σ H s) (hD : H D = some (SetTO X.prog X.w D L))
    (tl : ∀ p ∈ L, SqT X.K H p.1 (p.2.map V.int)) (tc : SqT X.K H c (k.map V.int)) (hu : X.A.in1.in1.units < cLine) (few : L.length + 1 < 64)
    (h : ∀ s' L', (k ∈ L.map (·.2) → L' = L) → (k ∉ L.map (·.2) → L'.Perm ((c, k) :: L)) → Inv X pins σ (upd H D (SetTO X.prog X.w D L')) s' → Q .none s') :
    wpAny (model X.prog X.w) X.A (call (.builtin "set.add") [.ref D, .ref c]) Q E s := by
  obtain ⟨es, ep, t, R⟩ := setTR_of I hD tl
  refine addT_call R (I.isT tc) (Nat.lt_of_succ_lt hu) few fun h' tk L' es' ep' t' sb R' m1 m2 => h _ L' m1 m2 ?_
  obtain ⟨o, ho, _⟩ := R'.ob
  exact I.write (e := D) (t' := tk) (by rw [hD]; trivial) (.inl rfl) (fun b u hb hu => (sb.2 b hb).trans hu) ⟨o, ho⟩ (setTO_new R'.t0)
theorem wipe_keep {i : Nat} {v : V} : ∀ {vs : List Nat} {σ : L2.St}, σ[i]? = some (some v) → i ∉ vs → (wipe σ vs)[i]? = some (some v)
  | [], _, h, _ => h
  | j :: vs, σ, h, n => by
    have ne : j ≠ i := fun z => n (z ▸ List.mem_cons_self)
    show ((wipe σ vs).set j none)[i]? = some (some v)
    rw [List.getElem?_set_ne ne]
    exact wipe_keep h fun z => n (List.mem_cons_of_mem _ z)
/-- D the new set; W by the turn and a measure; within a turn W1 -/
def tScT2 (P : Program) (w : World) (K : PySem.W.Frag) (wi : TI) (g : TG) (tt : TT) (wi1 : TI) (g1 : TG) (tt1 : TT) (te : TE) (vs vs1 : List Nat) : TE := fun σ H Q => wi σ H fun J H1 => ∀ D, H1 D = none →
  ∃ W : Nat → Nat → Hp → Prop, (∃ m, W 0 m (upd H1 D (SetTO P w D []))) ∧ ∀ i m H, W i m H → (J.stop i H ∧ Q (.ref D) H) ∨
    (J.go i H ∧ ∃ Nx : Hp → Prop, (∀ H', Nx H' → ∃ m', m' < m ∧ W (i + 1) m' H') ∧ ∀ x H', J.yld i H x H' → g x (wipe σ vs) H' fun σ2 H2 => wipe σ2 vs = wipe σ vs ∧ tt σ2 H2 fun b H3 =>
      if b = true then wi1 σ2 H3 fun J1 H4 => ∃ W1 : Nat → Nat → Hp → Prop, (∃ m, W1 0 m H4) ∧ ∀ j k H, W1 j k H → (J1.stop j H ∧ Nx H) ∨
        (J1.go j H ∧ ∃ Nx1 : Hp → Prop, (∀ H', Nx1 H' → ∃ k', k' < k ∧ W1 (j + 1) k' H') ∧ ∀ x H', J1.yld j H x H' → g1 x (wipe σ2 vs1) H' fun σ3 H5 => wipe σ3 vs1 = wipe σ2 vs1 ∧ tt1 σ3 H5 fun b H6 =>
          if b = true then te σ3 H6 fun y H7 => ∃ (c : Addr) (k : List Int) (L : List (Addr × List Int)), y = .ref c ∧ SqT K H7 c (k.map V.int) ∧ H7 D = some (SetTO P w D L) ∧ (∀ p ∈ L, SqT K H7 p.1 (p.2.map V.int)) ∧ L.length + 1 < 64 ∧
            ∀ L', (k ∈ L.map (·.2) → L' = L) → (k ∉ L.map (·.2) → L'.Perm ((c, k) :: L)) → Nx1 (upd H7 D (SetTO P w D L')) else Nx1 H6) else Nx H3)
open PpSet in
set_option maxHeartbeats 8000000 in
theorem sc2_core {X : Cx} {pins : List (Addr × Obj)} {s : Shared} {σ : L2.St} {H : Hp} {Q : VK} {elt tg iter tg1 iter1 : Expr} {ifs ifs1 : List Expr} {scope : Scope} {own : List (PySem.Str × Nat)} {vs1 : List Nat} {pos pos' : Pos} {wi wi1 : TI} {g g1 : TG} {tt tt1 : TT} {te : TE}
    {use : Option (Value → Sem Unit)} {Qf : Value → Shared → Prop} (hc : X.calm = true) (hu : X.A.in1.in1.units < cLine) (hN : X.N.Nodup) (I : Inv X pins σ H s) (hi : PI X tg iter wi) (ok : BlkOk X.N X.env.scope scope own) (sub : ∀ i ∈ vs1, i ∈ own.map (·.2))
    (hg : ∀ (s : Shared) (H : Hp) (C : Addr) (cl : List (PySem.Str × Addr)) (fp : List Addr), PG (X.blk s H scope (compEnvC scope cl C X.env) fp) tg g)
    (ht : ∀ (s : Shared) (H : Hp) (C : Addr) (cl : List (PySem.Str × Addr)) (fp : List Addr), PTs (X.blk s H scope (compEnvC scope cl C X.env) fp) ifs tt)
    (hi1 : ∀ (s : Shared) (H : Hp) (C : Addr) (cl : List (PySem.Str × Addr)) (fp : List Addr), PI (X.blk s H scope (compEnvC scope cl C X.env) fp) tg1 iter1 wi1)
    (hg1 : ∀ (s : Shared) (H : Hp) (C : Addr) (cl : List (PySem.Str × Addr)) (fp : List Addr), PG (X.blk s H scope (compEnvC scope cl C X.env) fp) tg1 g1)
    (ht1 : ∀ (s : Shared) (H : Hp) (C : Addr) (cl : List (PySem.Str × Addr)) (fp : List Addr), PTs (X.blk s H scope (compEnvC scope cl C X.env) fp) ifs1 tt1)
    (he : ∀ (s : Shared) (H : Hp) (C : Addr) (cl : List (PySem.Str × Addr)) (fp : List Addr), PE (X.blk s H scope (compEnvC scope cl C X.env) fp) elt te) (hs : ∀ x, foldedSetIterable iter X.env x = pure x) (hs1 : ∀ env x, foldedSetIterable iter1 env x = pure x)
    (h : tScT2 X.prog X.w X.K wi g tt wi1 g1 tt1 te (own.map (·.2)) vs1 σ H Q)
    (last : ∀ D C s' m H', Inv X pins σ H' s' → Q (.ref D) H' → s'.heap.Ns C m → FpOk X pins H' C → compPost (model X.prog X.w) X.A X.xe use Qf (.ref D) C (.ok .next) s') :
    wpAny (model X.prog X.w) X.A (comprehension (.SetComp elt [⟨tg, iter, ifs, 0⟩, ⟨tg1, iter1, ifs1, 0⟩] scope pos) scope X.env pos' (newSet (.type "set")) false (eval iter X.env) use) Qf X.xe s := by
  have cap : ∀ y ∈ scope.names, y.2 = .free → ∃ c, X.env.cells.lookup y.1 = some c := fun y hy e => I.ok.has _ (ok.free y hy e)
  refine wpAny_comprehension_free (use := use) rfl hs (closure_ok cap) ok.kind (fun y hy e => by rw [ok.uniq y hy, e]) (thn (hi.run pins s σ H _ I h) fun xv s1 hx => thn hx fun itv s2 h2 => ?_)
  obtain ⟨it, fp, tn, J, H2, e, I2, T, st2, f2, q⟩ := h2
  subst e
  refine newSet_ok (newEnv_comp ?_)
  generalize hD : s2.heap.objs.size = D
  have fresh := I2.hok.fresh (Nat.le_of_eq hD)
  obtain ⟨W, ⟨m0, w0⟩, turn⟩ := q D fresh
  generalize hs3 : ({ s2 with heap := s2.heap.push (noSet X.w) } : Shared) = s3
  have h3 : s3.heap = s2.heap.push (noSet X.w) := hs3 ▸ rfl
  have I3 : Inv X pins σ (upd H2 D (SetTO X.prog X.w D [])) s3 := by
    rw [← hs3]
    refine I2.laid (t' := s2.toks) (fun b o e => Heap.get?_push_of_some _ e) (Nat.le_of_eq hD) ?_
    subst hD
    exact setTO_new (setTR_fresh (Heap.get?_push_size _ rfl)).t0
  have old : ∀ b ∈ fp, b < s2.heap.objs.size := fun b hb => let ⟨_, e, _⟩ := T.obj _ _ st2 b hb; Heap.lt_size e
  have f3 : ∀ b ∈ fp, FpOk X pins (upd H2 D (SetTO X.prog X.w D [])) b ∧ b < s3.heap.objs.size := fun b hb => by
    have lt := old b hb
    refine ⟨⟨?_, (f2 b hb).2⟩, h3 ▸ (by rw [Heap.size_push]; exact Nat.lt_succ_of_lt lt)⟩
    rw [upd_ne (hD ▸ Nat.ne_of_lt lt)]
    exact (f2 b hb).1
  have st3 : tn 0 s3.heap := T.keep _ _ _ st2 fun b _ o e => h3 ▸ Heap.get?_push_of_some _ e
  have I4 := block_start I3 ok hN f3
  have pg := hg s3 (upd H2 D (SetTO X.prog X.w D [])) s3.heap.objs.size (cellsFrom (s3.heap.objs.size + 1) scope.names (cloFrom X.env.cells scope.names [])) fp
  have pt := ht s3 (upd H2 D (SetTO X.prog X.w D [])) s3.heap.objs.size (cellsFrom (s3.heap.objs.size + 1) scope.names (cloFrom X.env.cells scope.names [])) fp
  have pi1 := hi1 s3 (upd H2 D (SetTO X.prog X.w D [])) s3.heap.objs.size (cellsFrom (s3.heap.objs.size + 1) scope.names (cloFrom X.env.cells scope.names [])) fp
  have pg1 := hg1 s3 (upd H2 D (SetTO X.prog X.w D [])) s3.heap.objs.size (cellsFrom (s3.heap.objs.size + 1) scope.names (cloFrom X.env.cells scope.names [])) fp
  have pt1 := ht1 s3 (upd H2 D (SetTO X.prog X.w D [])) s3.heap.objs.size (cellsFrom (s3.heap.objs.size + 1) scope.names (cloFrom X.env.cells scope.names [])) fp
  have pe := he s3 (upd H2 D (SetTO X.prog X.w D [])) s3.heap.objs.size (cellsFrom (s3.heap.objs.size + 1) scope.names (cloFrom X.env.cells scope.names [])) fp
  show codeAny _ _ (.compStart (.SetComp elt [⟨tg, iter, ifs, 0⟩, ⟨tg1, iter1, ifs1, 0⟩] scope pos) 0 (.ref it) (.ref D) (compEnvC scope (cellsFrom (s3.heap.objs.size + 1) scope.names (cloFrom X.env.cells scope.names [])) s3.heap.objs.size X.env))
    (compPost (model X.prog X.w) X.A X.xe use Qf (.ref D) s3.heap.objs.size) { s3 with heap := pushCells (s3.heap.push { cls := .type "dict", data := .dict #[] }) scope.names }
  have none3 : ∀ b ∈ fp, (upd H2 D (SetTO X.prog X.w D [])) b = none := fun b hb => (f3 b hb).1.1
  generalize hce : compEnvC scope (cellsFrom (s3.heap.objs.size + 1) scope.names (cloFrom X.env.cells scope.names [])) s3.heap.objs.size X.env = ce at I4 pg pt pi1 pg1 pt1 pe ⊢
  have cL : ce.locals = s3.heap.objs.size := hce ▸ rfl
  generalize hH3 : upd H2 D (SetTO X.prog X.w D []) = H3 at I3 I4 pg pt pi1 pg1 pt1 pe w0 none3 f3
  generalize hs4 : ({ s3 with heap := pushCells (s3.heap.push { cls := .type "dict", data := .dict #[] }) scope.names } : Shared) = s4 at I4 ⊢
  have st4 : tn 0 s4.heap := T.keep _ _ _ st3 fun b _ o e => hs4 ▸ pushCells_keeps _ _ _ _ (Heap.get?_push_of_some _ e)
  have still : ∀ {σ' : L2.St} {H' : Hp} {s' : Shared}, Inv (X.blk s3 H3 scope ce fp) [] σ' H' s' → (∀ b ∈ fp, H' b = none) → ∀ b ∈ fp, FpOk (X.blk s3 H3 scope ce fp) [] H' b := by
    intro σ' H' s' I' hn b hb
    obtain ⟨x1, x2⟩ := I'.ok.exf b hb
    exact ⟨hn b hb, x1, I'.ok.exfs b hb, .inl hb, x2, fun p hp => absurd (show p ∈ ([] : List (Addr × Obj)) ++ [] from hp) (by simp)⟩
  have loop : ∀ n s', (∃ i H', Inv (X.blk s3 H3 scope ce fp) [] (wipe σ (own.map (·.2))) H' s' ∧ tn i s'.heap ∧ (∀ b ∈ fp, H' b = none) ∧ W i n H') →
      codeAny (model X.prog X.w) X.A (.compLoop (.SetComp elt [⟨tg, iter, ifs, 0⟩, ⟨tg1, iter1, ifs1, 0⟩] scope pos) 0 (.ref it) (.ref D) ce) (compPost (model X.prog X.w) X.A X.xe use Qf (.ref D) s3.heap.objs.size) s' := by
    intro n
    induction n using Nat.strongRecOn with
    | _ n ih =>
    rintro s5 ⟨i, H5, I5, st5, n5, w5⟩
    refine clTurn0 (hs1 _) ?_
    rcases turn i n H5 w5 with ⟨stop, done⟩ | ⟨go, Nx, hNx, step⟩
    · refine thnF (T.done (X.blk s3 H3 scope ce fp) rfl rfl rfl hc i [] s5 _ H5 (fun _ _ => False) I5 (still I5 n5) st5 stop) fun r s6 ⟨hr, I6⟩ => ?_
      subst hr
      have I7 : Inv X pins σ H5 s6 := I3.call' (ch := fp) I6.os I6.base I6.hok I6.bare fun b hb => let z := (f3 b hb).1.2; ⟨z.2.2.1, z.1, z.2.2.2.1, z.2.2.2.2⟩
      have gone : H5 s3.heap.objs.size = none := cL ▸ (show H5 ce.locals = none from I6.free)
      obtain ⟨m, hm, _⟩ := I6.loc
      have hm' : s6.heap.Ns ce.locals m := hm
      rw [cL] at hm'
      exact last D s3.heap.objs.size s6 m H5 I7 done hm' (I3.fpOk (Nat.le_refl _) gone)
    · refine thnF (T.item (X.blk s3 H3 scope ce fp) rfl rfl rfl hc i [] s5 _ H5 (fun _ _ => False) I5 (still I5 n5) st5 go) fun r s6 ⟨u, hr, h6⟩ => ?_
      subst hr
      refine thnF h6 fun _ s7 ⟨x, H7, I7, r7, y7, st7, n7⟩ => ?_
      have I7' := I7.pinned (still I7 n7) (T.obj _ _ st7)
      refine thnF (pg.run _ s7 _ H7 x u _ I7' r7 (step x H7 y7)) fun _ s8 ⟨σ8, H8, I8, hw8, q8⟩ => ?_
      refine thnF (pt.run _ s8 σ8 H8 _ I8 q8) fun b s9 ⟨H9, I9, q9⟩ => ?_
      have fin : ∀ {s' : Shared} {σ' : L2.St} {H' : Hp}, Inv (X.blk s3 H3 scope ce fp) ([] ++ pinsAt fp s7.heap) σ' H' s' → σ'.length = σ8.length → (∀ (j : Nat) (v : V), (wipe σ (own.map (·.2)))[j]? = some (some v) → σ'[j]? = some (some v)) → Nx H' →
          ∃ m, m < n ∧ ∃ i H', Inv (X.blk s3 H3 scope ce fp) [] (wipe σ (own.map (·.2))) H' s' ∧ tn i s'.heap ∧ (∀ b ∈ fp, H' b = none) ∧ W i m H' := by
        intro s' σ' H' I' len' sm nx
        obtain ⟨m', hm, w'⟩ := hNx H' nx
        have pinned : ∀ b ∈ fp, ∀ o, s7.heap.get? b = some o → s'.heap.get? b = some o ∧ H' b = none := fun b hb o e => by
          have z := I'.pin (b, o) (List.mem_append_right _ (List.mem_append_right _ (mem_pinsAt hb e)))
          exact ⟨z.1, z.2.1⟩
        have len : (wipe σ (own.map (·.2))).length = σ'.length := by rw [len', ← hw8, wipe_length]
        refine ⟨m', hm, i + 1, H', (I'.unpinned (pins := [])).weak len sm, T.keep _ _ _ st7 fun b hb o e => (pinned b hb o e).1, fun b hb => ?_, w'⟩
        obtain ⟨o, e, _⟩ := T.obj _ _ st7 b hb
        exact (pinned b hb o e).2
      have sm8 : ∀ (j : Nat) (v : V), (wipe σ (own.map (·.2)))[j]? = some (some v) → σ8[j]? = some (some v) := fun j v e => (wipe_some (hw8 ▸ e)).1
      cases b with
      | false =>
        rw [if_neg Bool.false_ne_true] at q9 ⊢
        obtain ⟨m, hm, r⟩ := fin I9 rfl sm8 q9
        exact ih m hm _ r
      | true =>
        rw [if_pos rfl] at q9 ⊢
        refine thnF (pi1.run _ s9 σ8 H9 _ I9 q9) fun xv s10 hx => thnF hx fun itv s11 h11 => ?_
        obtain ⟨it1, fp1, tn1, J1, H11, e, I11, T1, st11, f11, W1, ⟨m1, w1⟩, turn1⟩ := h11
        subst e
        have still1 : ∀ {H' : Hp}, (∀ b ∈ fp1, H' b = none) → ∀ b ∈ fp1, FpOk (X.blk s3 H3 scope ce fp) ([] ++ pinsAt fp s7.heap) H' b := fun hn b hb => ⟨hn b hb, (f11 b hb).2⟩
        have wl : (wipe σ8 vs1).length = σ8.length := wipe_length _ _
        have smW : ∀ (j : Nat) (v : V), (wipe σ (own.map (·.2)))[j]? = some (some v) → (wipe σ8 vs1)[j]? = some (some v) := fun j v e => by
          obtain ⟨e1, no⟩ := wipe_some (show (wipe σ8 (own.map (·.2)))[j]? = some (some v) from hw8 ▸ e)
          exact wipe_keep e1 fun hj => no (sub j hj)
        have inner : ∀ k s', (∃ j H', Inv (X.blk s3 H3 scope ce fp) ([] ++ pinsAt fp s7.heap) (wipe σ8 vs1) H' s' ∧ tn1 j s'.heap ∧ (∀ b ∈ fp1, H' b = none) ∧ W1 j k H') →
            codeAny (model X.prog X.w) X.A (.compLoop (.SetComp elt [⟨tg, iter, ifs, 0⟩, ⟨tg1, iter1, ifs1, 0⟩] scope pos) 1 (.ref it1) (.ref D) ce) (fun r s' => match r with
              | Except.ok _ => codeAny (model X.prog X.w) X.A (.compLoop (.SetComp elt [⟨tg, iter, ifs, 0⟩, ⟨tg1, iter1, ifs1, 0⟩] scope pos) 0 (.ref it) (.ref D) ce) (compPost (model X.prog X.w) X.A X.xe use Qf (.ref D) s3.heap.objs.size) s'
              | Except.error _ => False) s' := by
          intro k
          induction k using Nat.strongRecOn with
          | _ k ih1 =>
          rintro s12 ⟨j, H12, I12, st12, n12, w12⟩
          refine clTurn1 ?_
          rcases turn1 j k H12 w12 with ⟨stop1, nx⟩ | ⟨go1, Nx1, hNx1, step1⟩
          · refine thnF (T1.done (X.blk s3 H3 scope ce fp) rfl rfl rfl hc j _ s12 _ H12 (fun _ _ => False) I12 (still1 n12) st12 stop1) fun r s13 ⟨hr, I13⟩ => ?_
            subst hr
            obtain ⟨m, hm, r⟩ := fin I13 wl smW nx
            exact ih m hm _ r
          · refine thnF (T1.item (X.blk s3 H3 scope ce fp) rfl rfl rfl hc j _ s12 _ H12 (fun _ _ => False) I12 (still1 n12) st12 go1) fun r s13 ⟨u1, hr, h13⟩ => ?_
            subst hr
            refine thnF h13 fun _ s14 ⟨x1, H14, I14, r14, y14, st14, n14⟩ => ?_
            have I14' := I14.pinned (still1 n14) (T1.obj _ _ st14)
            refine thnF (pg1.run _ s14 _ H14 x1 u1 _ I14' r14 (step1 x1 H14 y14)) fun _ s15 ⟨σ15, H15, I15, hw15, q15⟩ => ?_
            refine thnF (pt1.run _ s15 σ15 H15 _ I15 q15) fun b s16 ⟨H16, I16, q16⟩ => ?_
            have fin1 : ∀ {s' : Shared} {H' : Hp}, Inv (X.blk s3 H3 scope ce fp) (([] ++ pinsAt fp s7.heap) ++ pinsAt fp1 s14.heap) σ15 H' s' → Nx1 H' →
                ∃ m, m < k ∧ ∃ j H', Inv (X.blk s3 H3 scope ce fp) ([] ++ pinsAt fp s7.heap) (wipe σ8 vs1) H' s' ∧ tn1 j s'.heap ∧ (∀ b ∈ fp1, H' b = none) ∧ W1 j m H' := by
              intro s' H' I' nx
              obtain ⟨m', hm, w'⟩ := hNx1 H' nx
              have pinned : ∀ b ∈ fp1, ∀ o, s14.heap.get? b = some o → s'.heap.get? b = some o ∧ H' b = none := fun b hb o e => by
                have z := I'.pin (b, o) (List.mem_append_right _ (List.mem_append_right _ (mem_pinsAt hb e)))
                exact ⟨z.1, z.2.1⟩
              have len : (wipe σ8 vs1).length = σ15.length := by rw [← hw15, wipe_length]
              refine ⟨m', hm, j + 1, H', (I'.unpinned).weak len (fun j v e => (wipe_some (hw15 ▸ e)).1), T1.keep _ _ _ st14 fun b hb o e => (pinned b hb o e).1, fun b hb => ?_, w'⟩
              obtain ⟨o, e, _⟩ := T1.obj _ _ st14 b hb
              exact (pinned b hb o e).2
            cases b with
            | false =>
              rw [if_neg Bool.false_ne_true] at q16 ⊢
              obtain ⟨m, hm, r⟩ := fin1 I16 q16
              exact ih1 m hm _ r
            | true =>
              rw [if_pos rfl] at q16 ⊢
              refine thnF (pe.run _ s16 σ15 H16 _ I16 q16) fun z s17 ⟨yv, H17, I17, r17, c, kk, L, ey, tc, hD17, tl, few, nx⟩ => ?_
              subst ey
              obtain rfl : z = Value.ref c := r17
              refine addT_ok (X := X.blk s3 H3 scope ce fp) I17 hD17 tl tc hu few fun s18 L' m1 m2 I18 => ?_
              obtain ⟨m, hm, r⟩ := fin1 I18 (nx L' m1 m2)
              exact ih1 m hm _ r
        have start := inner m1 s11 ⟨0, H11, I11.weak wl (fun j v e => (wipe_some e).1), st11, fun b hb => (f11 b hb).1, w1⟩
        exact csStart1 start (T1.self X.A 0 _ _ _ st11 start)
  have first := loop m0 s4 ⟨0, H3, I4, st4, none3, w0⟩
  exact codeAny_compStart_set first (T.self X.A 0 _ _ _ st4 first)
open PpSet in
theorem pe_scT2 {X : Cx} {elt tg iter tg1 iter1 : Expr} {ifs ifs1 : List Expr} {scope : Scope} {own : List (PySem.Str × Nat)} {vs1 : List Nat} {pos : Pos} {wi wi1 : TI} {g g1 : TG} {tt tt1 : TT} {te : TE} (hc : X.calm = true) (hu : X.A.in1.in1.units < cLine) (hN : X.N.Nodup) (hi : PI X tg iter wi)
    (ok : BlkOk X.N X.env.scope scope own) (sub : ∀ i ∈ vs1, i ∈ own.map (·.2)) (hg : ∀ (s : Shared) (H : Hp) (C : Addr) (cl : List (PySem.Str × Addr)) (fp : List Addr), PG (X.blk s H scope (compEnvC scope cl C X.env) fp) tg g)
    (ht : ∀ (s : Shared) (H : Hp) (C : Addr) (cl : List (PySem.Str × Addr)) (fp : List Addr), PTs (X.blk s H scope (compEnvC scope cl C X.env) fp) ifs tt)
    (hi1 : ∀ (s : Shared) (H : Hp) (C : Addr) (cl : List (PySem.Str × Addr)) (fp : List Addr), PI (X.blk s H scope (compEnvC scope cl C X.env) fp) tg1 iter1 wi1)
    (hg1 : ∀ (s : Shared) (H : Hp) (C : Addr) (cl : List (PySem.Str × Addr)) (fp : List Addr), PG (X.blk s H scope (compEnvC scope cl C X.env) fp) tg1 g1)
    (ht1 : ∀ (s : Shared) (H : Hp) (C : Addr) (cl : List (PySem.Str × Addr)) (fp : List Addr), PTs (X.blk s H scope (compEnvC scope cl C X.env) fp) ifs1 tt1)
    (he : ∀ (s : Shared) (H : Hp) (C : Addr) (cl : List (PySem.Str × Addr)) (fp : List Addr), PE (X.blk s H scope (compEnvC scope cl C X.env) fp) elt te) (hs : ∀ x, foldedSetIterable iter X.env x = pure x := by intro _; rfl) (hs1 : ∀ env x, foldedSetIterable iter1 env x = pure x := by intro _ _; rfl) :
    PE X (.SetComp elt [⟨tg, iter, ifs, 0⟩, ⟨tg1, iter1, ifs1, 0⟩] scope pos) (tScT2 X.prog X.w X.K wi g tt wi1 g1 tt1 te (own.map (·.2)) vs1) := by
  refine ⟨fun pins s σ H Q I h => ?_⟩
  rw [eval_SetComp]
  refine sc2_core hc hu hN I hi ok sub hg ht hi1 hg1 ht1 he hs hs1 h fun D C s' m H' I' q hn f => ⟨m, hn, fun h'' sb => ⟨.ref D, H', ?_, rfl, q⟩⟩
  exact I'.turned (t' := s'.toks) (fun b o hb e => (sb.2 b hb).trans e) f.1 f.2.1 f.2.2.2.1 f.2.2.2.2.1 f.2.2.2.2.2

end R
namespace R
open PySem PySem.Spec PyProof.Rows L2
/-! ## lists of tuples of ints -/
/-- a list of tuples of ints -/
structure TupsAt (K : PySem.W.Frag) (H : Hp) (D : Addr) (LL : List (List Int)) : Prop where
  ex : ∃ ts : List Addr, H D = some (.lst (ts.map V.ref)) ∧ ts.length = LL.length ∧ ∀ (i : Nat) t l, ts[i]? = some t → LL[i]? = some l → SqT K H t (l.map V.int)
theorem TupsAt.stay {K : PySem.W.Frag} {H H' : Hp} {D : Addr} {LL : List (List Int)} (h : TupsAt K H D LL) (s : Same H H') : TupsAt K H' D LL :=
  let ⟨ts, e, n, f⟩ := h.ex
  ⟨ts, s _ _ e, n, fun i t l a b => Same.seqTT s (f i t l a b)⟩
theorem TupsAt.nil {K : PySem.W.Frag} {H : Hp} {D : Addr} (h : H D = some (.lst [])) : TupsAt K H D [] := ⟨[], h, rfl, fun i t l a _ => by simp at a⟩
theorem TupsAt.add {K : PySem.W.Frag} {H : Hp} {D t : Addr} {ts : List Addr} {LL : List (List Int)} {l : List Int} (e : H D = some (.lst (ts.map V.ref ++ [V.ref t]))) (n : ts.length = LL.length)
    (f : ∀ (i : Nat) t l, ts[i]? = some t → LL[i]? = some l → SqT K H t (l.map V.int)) (ht : SqT K H t (l.map V.int)) : TupsAt K H D (LL ++ [l]) := by
  refine ⟨ts ++ [t], by rw [e, List.map_append]; rfl, by rw [List.length_append, List.length_append, n]; rfl, fun i u k a b => ?_⟩
  by_cases h : i < ts.length
  · rw [List.getElem?_append_left h] at a
    rw [List.getElem?_append_left (by omega)] at b
    exact f i u k a b
  · rw [List.getElem?_append_right (by omega)] at a
    rw [List.getElem?_append_right (by omega), ← n] at b
    cases z : i - ts.length with
    | zero =>
      rw [z] at a b
      cases Option.some.inj a
      cases Option.some.inj b
      exact ht
    | succ j => rw [z] at a; simp at a
theorem dpTups {K : PySem.W.Frag} {H : Hp} : ∀ {ts : List Addr} {LL : List (List Int)}, ts.length = LL.length → (∀ (i : Nat) t l, ts[i]? = some t → LL[i]? = some l → SqT K H t (l.map V.int)) → DpAll K H (ts.map V.ref) (LL.map fun l => .tuple (l.map PyData.int))
  | [], [], _, _ => .nil
  | [], _ :: _, h, _ => by cases h
  | _ :: _, [], h, _ => by cases h
  | t :: ts, l :: LL, h, f => .cons (dpTup (f 0 t l rfl rfl)) (dpTups (Nat.succ.inj h) fun i u k a b => f (i + 1) u k a b)
theorem TupsAt.dp {K : PySem.W.Frag} {H : Hp} {D : Addr} {LL : List (List Int)} (h : TupsAt K H D LL) : Dp K H (.ref D) (.list (LL.map fun l => .tuple (l.map PyData.int))) := by
  obtain ⟨ts, e, n, f⟩ := h.ex
  exact .lst (lstOf e) (dpTups n f)
theorem okTups (LL : List (List Int)) : okD 2 (.list (LL.map fun l => .tuple (l.map PyData.int))) := okD.lst fun d hd => by
  obtain ⟨l, _, rfl⟩ := List.mem_map.mp hd
  exact okD.tup (okInts l)

end R
namespace R
open PySem PySem.Spec PyProof.Rows L2
/-! ## rows of moduli and what was seen -/
theorem TupsAt.push {K : PySem.W.Frag} {H : Hp} {D t : Addr} {LL : List (List Int)} {l : List Int} (h : TupsAt K H D LL) (ht : SqT K H t (l.map V.int)) :
    ∃ ts : List Addr, H D = some (.lst (ts.map V.ref)) ∧ ts.length = LL.length ∧ TupsAt K (upd H D (.lst (ts.map V.ref ++ [V.ref t]))) D (LL ++ [l]) := by
  obtain ⟨ts, e, n, f⟩ := h.ex
  have up := lstTups (K := K) (zs := ts.map V.ref ++ [V.ref t]) e
  exact ⟨ts, e, n, TupsAt.add upd_same n (fun i u k a b => up _ _ (f i u k a b)) (up _ _ ht)⟩
theorem tupsBut {K : PySem.W.Frag} {H H' : Hp} {g : Addr} {zs : List V} (e : H g = some (.lst zs)) (kp : ∀ b o, b ≠ g → H b = some o → H' b = some o) : TupsStay K H H' := fun a xs q => by
  rcases q with (q | ⟨o, q⟩) | q
  · exact .inl (.inl (kp _ _ (fun z => by rw [z, e] at q; cases q) q))
  · exact .inl (.inr ⟨o, kp _ _ (fun z => by rw [z, e] at q; cases q) q⟩)
  · exact .inr q
theorem takeFilter {α : Type} {p : α → Bool} {xs : List α} {j : Nat} {x : α} (h : xs[j]? = some x) : (xs.take (j + 1)).filter p = (xs.take j).filter p ++ (if p x = true then [x] else []) := by
  rw [takeSucc h, List.filter_append]
  by_cases e : p x = true
  · rw [if_pos e, List.filter_cons_of_pos e]
    rfl
  · rw [if_neg e, List.filter_cons_of_neg e]
    rfl
theorem okTupsS (LL : List (List Int)) : SeqAt.shaped (.list (LL.map fun l => PyData.tuple (l.map PyData.int))) = true := (okTups LL).shaped (by decide)
theorem eqvTupsNil (LL : List (List Int)) : PyData.eqv (.list (LL.map fun l => PyData.tuple (l.map PyData.int))) (.list []) = decide (LL = []) := by
  cases LL with
  | nil => rfl
  | cons a r =>
    rw [decide_eq_false (List.cons_ne_nil _ _)]
    show PyData.eqv (.list (_ :: _)) (.list []) = false
    rw [PyData.eqv, PyData.eqvAll] <;> first | rfl | simp
structure MOk (ms : List Int) : Prop where
  one : 1 ≤ ms.length
  four : ms.length ≤ 4
  mod : ∀ m ∈ ms, 1 ≤ m ∧ m ≤ 30
/-- the marks of a number -/
def marksL (ms : List Int) (x : Int) : List (List Int) := (List.range ms.length).map fun i => [((i : Nat) : Int), x % ms.getD i 1]
def marksTo (ms : List Int) (x : Int) (n : Nat) : List (List Int) := (List.range n).map fun i => [((i : Nat) : Int), x % ms.getD i 1]
theorem marksTo_succ (ms : List Int) (x : Int) (n : Nat) : marksTo ms x (n + 1) = marksTo ms x n ++ [[((n : Nat) : Int), x % ms.getD n 1]] := by
  unfold marksTo
  rw [List.range_succ, List.map_append]
  rfl
theorem marks_nodup (ms : List Int) (x : Int) : (marksL ms x).Nodup := by
  unfold marksL
  rw [List.nodup_iff_pairwise_ne, List.pairwise_map]
  refine List.pairwise_lt_range.imp fun {a b} h e => ?_
  have := (List.cons.inj e).1
  omega
theorem marks_two {ms : List Int} {x : Int} : ∀ z ∈ marksL ms x, ∃ (i : Nat) (r : Int), z = [(i : Int), r] ∧ i < ms.length ∧ r = x % ms.getD i 1 := fun z hz => by
  obtain ⟨i, hi, rfl⟩ := List.mem_map.mp hz
  exact ⟨i, _, rfl, List.mem_range.mp hi, rfl⟩
/-- what was seen -/
structure SeenAt (K : PySem.W.Frag) (H : Hp) (a : Addr) (sl : List (Int × Bool)) : Prop where
  ex : ∃ xs : List V, (H a = some (.lst xs) ∨ SqT K H a xs) ∧ xs.length = sl.length ∧ ∀ (i : Nat) x p, xs[i]? = some x → sl[i]? = some p → ∃ t, x = .ref t ∧ SqT K H t [.int p.1, .bl p.2]
theorem SeenAt.stay {K : PySem.W.Frag} {H H' : Hp} {a : Addr} {sl : List (Int × Bool)} (h : SeenAt K H a sl) (s : Same H H') : SeenAt K H' a sl :=
  let ⟨xs, e, n, f⟩ := h.ex
  ⟨xs, e.imp (fun q => s _ _ q) (fun q => Same.seqTT s q), n, fun i x p a b => let ⟨t, e, q⟩ := f i x p a b; ⟨t, e, Same.seqTT s q⟩⟩
def unfitTo (sl : List (Int × Bool)) (n : Nat) : Nat := ((sl.take n).filter fun p => !p.2).length
structure SOk (sl : List (Int × Bool)) : Prop where
  few : sl.length ≤ 20
  num : ∀ p ∈ sl, IsNum p.1
  unfit : ∀ n, unfitTo sl n ≤ 8
theorem unfit_succ {sl : List (Int × Bool)} {n : Nat} {p : Int × Bool} (h : sl[n]? = some p) : unfitTo sl (n + 1) = unfitTo sl n + (if p.2 = true then 0 else 1) := by
  unfold unfitTo
  rw [takeSucc h, List.filter_append, List.length_append]
  cases e : p.2 with
  | true =>
    rw [List.filter_cons_of_neg (by rw [e]; decide), if_pos rfl]
    rfl
  | false =>
    rw [List.filter_cons_of_pos (by rw [e]; rfl), if_neg Bool.false_ne_true]
    rfl
structure HeldIs (ms : List Int) (sl : List (Int × Bool)) (hl : List (List Int)) : Prop where
  nd : hl.Nodup
  mem : ∀ z, z ∈ hl ↔ ∃ p ∈ sl, p.2 = true ∧ z ∈ marksL ms p.1
/-- the marks of one that does not fit, the held ones left out -/
def leftOf (ms : List Int) (hl : List (List Int)) (x : Int) : List (List Int) := (marksL ms x).filter fun z => decide (z ∉ hl)
def unheldL (ms : List Int) (hl : List (List Int)) (sl : List (Int × Bool)) : List (List (List Int)) := (sl.filter fun p => !p.2).map fun p => leftOf ms hl p.1
/-- a list of lists of tuples -/
structure LLAt (K : PySem.W.Frag) (H : Hp) (D : Addr) (ul : List (List (List Int))) : Prop where
  ex : ∃ as_ : List Addr, H D = some (.lst (as_.map V.ref)) ∧ as_.length = ul.length ∧ ∀ (i : Nat) b u, as_[i]? = some b → ul[i]? = some u → TupsAt K H b u
theorem LLAt.stay {K : PySem.W.Frag} {H H' : Hp} {D : Addr} {ul : List (List (List Int))} (h : LLAt K H D ul) (s : Same H H') : LLAt K H' D ul :=
  let ⟨as_, e, n, f⟩ := h.ex
  ⟨as_, s _ _ e, n, fun i b u x y => (f i b u x y).stay s⟩
/-- the members of a set of tuples -/
structure Mem (K : PySem.W.Frag) (H : Hp) (L : List (Addr × List Int)) (S : List Int → Prop) : Prop where
  at_ : ∀ p ∈ L, SqT K H p.1 (p.2.map V.int)
  nd : (L.map (·.2)).Nodup
  mem : ∀ z, z ∈ L.map (·.2) ↔ S z
theorem Mem.nil {K : PySem.W.Frag} {H : Hp} : Mem K H [] fun _ => False := ⟨fun p h => (by cases h), List.nodup_nil, fun z => ⟨fun h => (by cases h), fun h => h.elim⟩⟩
theorem Mem.stay {K : PySem.W.Frag} {H H' : Hp} {L : List (Addr × List Int)} {S : List Int → Prop} (h : Mem K H L S) (t : TupsStay K H H') : Mem K H' L S := ⟨fun p hp => t _ _ (h.at_ p hp), h.nd, h.mem⟩
theorem Mem.add {K : PySem.W.Frag} {H : Hp} {L L' : List (Addr × List Int)} {S : List Int → Prop} {c : Addr} {k : List Int} (h : Mem K H L S) (tc : SqT K H c (k.map V.int)) (m1 : k ∈ L.map (·.2) → L' = L) (m2 : k ∉ L.map (·.2) → L'.Perm ((c, k) :: L)) : Mem K H L' fun z => S z ∨ z = k := by
  by_cases e : k ∈ L.map (·.2)
  · rw [m1 e]
    refine ⟨h.at_, h.nd, fun z => ⟨fun hz => .inl ((h.mem z).mp hz), fun hz => ?_⟩⟩
    rcases hz with hz | rfl
    · exact (h.mem z).mpr hz
    · exact e
  · have pm := m2 e
    refine ⟨fun p hp => ?_, (pm.map (·.2)).nodup_iff.mpr (List.nodup_cons.mpr ⟨e, h.nd⟩), fun z => ?_⟩
    · rcases List.mem_cons.mp (pm.mem_iff.mp hp) with rfl | hp
      · exact tc
      · exact h.at_ p hp
    · rw [(pm.map (·.2)).mem_iff, List.map_cons, List.mem_cons, h.mem]
      exact ⟨fun z => z.elim .inr .inl, fun z => z.elim .inr .inl⟩
theorem sub_len : ∀ {xs ys : List (List Int)}, xs.Nodup → (∀ x ∈ xs, x ∈ ys) → xs.length ≤ ys.length
  | [], _, _, _ => Nat.zero_le _
  | x :: xs, ys, nd, sub => by
    obtain ⟨n1, n2⟩ := List.nodup_cons.mp nd
    have m := sub x List.mem_cons_self
    have := sub_len (xs := xs) (ys := ys.erase x) n2 fun y hy => by
      exact (List.mem_erase_of_ne (fun e : y = x => n1 (by rw [← e]; exact hy))).mpr (sub y (List.mem_cons_of_mem _ hy))
    rw [List.length_erase_of_mem m] at this
    have : 0 < ys.length := List.length_pos_of_mem m
    rw [List.length_cons]
    omega
theorem Mem.congr {K : PySem.W.Frag} {H : Hp} {L : List (Addr × List Int)} {S S' : List Int → Prop} (h : Mem K H L S) (e : ∀ z, S z ↔ S' z) : Mem K H L S' := ⟨h.at_, h.nd, fun z => (h.mem z).trans (e z)⟩
theorem Mem.few {K : PySem.W.Frag} {H : Hp} {L : List (Addr × List Int)} {S : List Int → Prop} {U : List (List Int)} (h : Mem K H L S) (u : ∀ z, S z → z ∈ U) : L.length ≤ U.length := by
  have := sub_len h.nd (ys := U) fun z hz => u z ((h.mem z).mp hz)
  rw [List.length_map] at this
  exact this
def tD (l : List Int) : PyData := .tuple (l.map PyData.int)
theorem inTup (z : List Int) : ∀ hl : List (List Int), ((hl.map tD).any fun y => PyData.eqv y (tD z)) = decide (z ∈ hl)
  | [] => by simp
  | a :: hl => by
    rw [List.map_cons, List.any_cons, inTup z hl, show PyData.eqv (tD a) (tD z) = decide (a = z) from eqvIntsT a z, ← Bool.decide_or]
    exact decide_eq_decide.mpr (by rw [List.mem_cons]; exact or_congr_left ⟨fun e => e.symm, fun e => e.symm⟩)

end R
namespace R
open PySem PySem.Spec PyProof.Rows L2
/-! ## a walk over a list or a tuple -/
/-- a walk over a list or a tuple -/
def iEither (K : PySem.W.Frag) (te : TE) : TI := fun σ H R => te σ H fun x H1 => ∃ a, x = .ref a ∧ (((∃ xs, SqL K H1 a xs) ∧ R (Itl K a) H1) ∨ ((∃ xs, SqT K H1 a xs) ∧ R (Itt K a) H1))
theorem pi_either {X : Cx} {tg l : Expr} {tl : TE} (hl : PE X l tl) : PI X tg l (iEither X.K tl) := ⟨fun pins s σ H R I h => thn (hl.run pins s σ H _ I h) fun v s1 ⟨x, H1, I1, r1, a, e, q1⟩ => by
  subst e
  cases r1
  have new : ∀ b ∈ [s1.heap.objs.size], FpOk X pins H1 b := fun b hb => by
    rw [List.mem_singleton.mp hb]
    exact I1.fpOk (Nat.le_refl _) (I1.hok.fresh (Nat.le_refl _))
  rcases q1 with ⟨⟨xs, hq⟩, q⟩ | ⟨⟨xs, hq⟩, q⟩
  · obtain ⟨its, rv, pl, hz⟩ := I1.list hq
    exact wpAny_pyIter_list pl.isList ⟨_, _, _, _, _, rfl, I1.kept (t' := s1.toks) fun b o e => Heap.get?_push_of_some _ e, turn_list a _, ⟨_, Heap.get?_push_size _ rfl, rfl, rfl⟩, new, q⟩
  · obtain ⟨its, rv, pl, hz⟩ := I1.tuple hq
    exact wpAny_pyIter_tuple (show s1.heap.IsTuple a its.toArray from pl) ⟨_, _, _, _, _, rfl, I1.kept (t' := s1.toks) fun b o e => Heap.get?_push_of_some _ e, turn_tuple a _, ⟨_, Heap.get?_push_size _ rfl, rfl, rfl⟩, new, q⟩⟩

end R
namespace R
open PySem PySem.Spec PyProof.Rows L2
/-! ## checks of moduli and of what was seen, marks -/
/-- enumerate(xs) of a name that holds a list or a tuple -/
def iEnE (K : PySem.W.Frag) (i : Nat) : TI := fun σ H R => ∃ a, σ[i]? = some (some (.ref a)) ∧ (((∃ xs, SqL K H a xs) ∧ R (Ite K a) H) ∨ ((∃ xs, SqT K H a xs) ∧ R (IteT K a) H))
theorem pi_enumE {X : Cx} {e : Expr} {i : Nat} {p pos tpos : Pos} {elts : List Expr} {kk : Nat} (hg : Gl X "enumerate") (hm : X.mg "enumerate" = none) (ha : PA X [e] (tCons (tVar i) tNil))
    (hs : starEach [e] X.env = [(false, eval e X.env)] := by rfl) : PI X (.Tuple elts kk tpos) (.Call (.Name "enumerate" p) [e] [] pos) (iEnE X.K i) := by
  refine ⟨fun pins s σ H R I h => ?_⟩
  obtain ⟨a, hv, ⟨⟨xs, hq⟩, q⟩ | ⟨⟨xs, hq⟩, q⟩⟩ := h
  · exact (pi_enum hg hm ha hs).run pins s σ H R I ⟨_, hv, a, xs, rfl, hq, q⟩
  · exact (pi_enT hg hm ha hs).run pins s σ H R I ⟨_, hv, a, xs, rfl, hq, q⟩
theorem kit_ls {K : PySem.W.Frag} : PySem.W.kitAny K (.type "list") [.type "list", .type "tuple"] = some true := by
  unfold PySem.W.kitAny
  rw [kit_ty (r := true) (by decide +kernel)]
theorem kit_tp {K : PySem.W.Frag} : PySem.W.kitAny K (.type "tuple") [.type "list", .type "tuple"] = some true := by
  unfold PySem.W.kitAny
  rw [kit_ty (r := false) (by decide +kernel)]
  unfold PySem.W.kitAny
  rw [kit_ty (r := true) (by decide +kernel)]
def sp_p_check_moduli (K : PySem.W.Frag) : Sp := fun vs H Q _ => ∃ (a : Addr) (ms : List Int), vs = [.ref a] ∧ SqT K H a (ms.map V.int) ∧ MOk ms ∧ ∀ H', Same H H' → Q .non H'
def sp_p_is_sight (K : PySem.W.Frag) : Sp := fun vs H Q _ => ∃ (t : Addr) (p : Int × Bool), vs = [.ref t] ∧ SqT K H t [.int p.1, .bl p.2] ∧ IsNum p.1 ∧ Q (.bl true) H
def sp_p_check_seen (K : PySem.W.Frag) : Sp := fun vs H Q _ => ∃ (a : Addr) (sl : List (Int × Bool)), vs = [.ref a] ∧ SeenAt K H a sl ∧ SOk sl ∧ ∀ H', Same H H' → Q .non H'
def sp_p_marks_of (K : PySem.W.Frag) : Sp := fun vs H Q _ => ∃ (a : Addr) (ms : List Int) (x : Int), vs = [.ref a, .int x] ∧ SqT K H a (ms.map V.int) ∧ MOk ms ∧ ∀ D H', Same H H' → H D = none → TupsAt K H' D (marksL ms x) → Q (.ref D) H'
section
variable {P : Program} {w : World} {K : PySem.W.Frag} {mg : Str → Option Value} {base : Heap}
theorem ok_p_check_moduli (T : Txt K mg) : FnOk P w K mg base CX0 4 T.f_p_check_moduli T.fd_p_check_moduli ["moduli"] (sp_p_check_moduli K) := by
  refine T.F_p_check_moduli.ok sc_p_check_moduli (fun vs H Q E h => ?_) (fun cdv A outer s H vs Q E hr h => ?_)
  · obtain ⟨a, ms, rfl, _⟩ := h
    rfl
  · obtain ⟨a, ms, rfl, ta, M, q⟩ := h
    refine ⟨_, (pss_cons (ps_if (PW.pt (pw_or (pt_not (pt_val (pe_callB call_isi (by rfl) T.z_isinstance (by decide +kernel) (pa_cons (pv 0) (pa_cons (pe_bltn (v := .ty "tuple") (by rfl) T.z_tuple (by decide +kernel) rfl) pa_nil))))) (pw_or1 (pt_not (pt_chain op_le op_le pe_int (pe_callB call_len_seq (by rfl) T.z_len (by decide +kernel) (pa_cons (pv 0) pa_nil)) (pe_glob (v := .int 4) (by rfl) T.c_MOST_MODULI.choose_spec ⟨_, rfl⟩)))))) (pss_one ps_never) pss_nil)
      (pss_one (ps_for PassesOwn.never rfl (pi_enT (by rfl) T.z_enumerate (pa_cons (pv 0) pa_nil)) (pg_tup (by rfl) (pgs_cons (pg_name (i := 1) sc_p_check_moduli.nd rfl (by first | exact .inl rfl | exact .inr rfl)) (pgs_cons (pg_name (i := 2) sc_p_check_moduli.nd rfl (by first | exact .inl rfl | exact .inr rfl)) pgs_nil))) (pss_one (ps_if (pt_not (pt_val (pe_call (ok_p_integer_within T) (hr.mono (by decide)) (by rfl) T.g_p_integer_within T.F_p_integer_within.kp T.b_p_integer_within .nil pass0 (pa_cons (pv 2) (pa_cons pe_int (pa_cons (pe_glob (v := .int 30) (by rfl) T.c_GREATEST_TOLD_BY.choose_spec ⟨_, rfl⟩) pa_nil)))))) (pss_one ps_never) pss_nil))))), ?_⟩
    have h1 := M.one
    have h4 := M.four
    refine ⟨_, rfl, _, _, _, _, _, rfl, .ty "tuple", tyTup ta, kit_ty (r := true) (by decide +kernel), true, rfl, iteF ?_⟩
    refine ⟨_, rfl, a, _, rfl, .inr ta, _, _, rfl, rfl, _, rfl, ?_⟩
    rw [List.length_map, decide_eq_true (by omega)]
    refine iteT ⟨_, _, rfl, rfl, _, rfl, ?_⟩
    rw [decide_eq_true (by omega)]
    refine iteF ⟨_, rfl, a, _, rfl, ta, for_it (walk_enT (K := K) (a := a) (xs := ms.map V.int)) (fun i σ H2 => ∃ (x y : Option V), σ = [some (.ref a), x, y] ∧ Same H H2) ⟨none, none, rfl, Same.refl _⟩ (fun i σ H2 _ ⟨_, _, _, s2⟩ => Same.seqTT s2 ta) ?_ ?_⟩
    · rintro i y σ H2 H3 hi ⟨x1, x2, rfl, s2⟩ ⟨p, z1, z2, rfl, np, rfl, e1, e2⟩
      have s3 := s2.trans (same_upd np (o := .tup [z1, z2]))
      obtain ⟨m, hm, rfl⟩ := getMapInt' e2
      have mm := M.mod m (List.mem_of_getElem? hm)
      refine ⟨p, _, rfl, tupOf upd_same, rfl, _, _, rfl, _, _, rfl, rfl, ?_⟩
      refine ⟨_, rfl, _, _, _, rfl, .inl ⟨m, rfl, _, rfl, ?_⟩⟩
      rw [decide_eq_true mm.1, decide_eq_true mm.2]
      exact iteF ⟨_, _, rfl, s3⟩
    · rintro σ H2 ⟨x1, x2, rfl, s2⟩
      exact q _ s2
theorem ok_p_is_sight (T : Txt K mg) : FnOk P w K mg base CX0 5 T.f_p_is_sight T.fd_p_is_sight ["value"] (sp_p_is_sight K) := by
  refine T.F_p_is_sight.ok sc_p_is_sight (fun vs H Q E h => ?_) (fun cdv A outer s H vs Q E hr h => ?_)
  · obtain ⟨t, p, rfl, _⟩ := h
    rfl
  · obtain ⟨t, p, rfl, tt, hn, q⟩ := h
    refine ⟨_, (pss_one (ps_ret (pe_and (pe_call (ok_p_is_pair T) (hr.mono (by decide)) (by rfl) T.g_p_is_pair T.F_p_is_pair.kp T.b_p_is_pair .nil pass0 (pa_cons (pv 0) pa_nil)) (pe_and (pe_call (ok_p_is_number T) (hr.mono (by decide)) (by rfl) T.g_p_is_number T.F_p_is_number.kp T.b_p_is_number .nil pass0 (pa_cons (pe_ix ix_tup (pv 0) pe_int (fun _ _ => rfl)) pa_nil)) (pe_one (pe_callB call_isi (by rfl) T.z_isinstance (by decide +kernel) (pa_cons (pe_ix ix_tup (pv 0) pe_int (fun _ _ => rfl)) (pa_cons (pe_bltn (v := .ty "bool") (by rfl) T.z_bool (by decide +kernel) rfl) pa_nil)))))))), ?_⟩
    refine ⟨_, rfl, _, rfl, .inr ⟨t, _, rfl, tt, true, rfl, iteT ?_⟩⟩
    refine ⟨_, rfl, t, _, _, _, rfl, rfl, tt, atI_nat (j := 0) rfl, _, rfl, .inl ⟨p.1, rfl, hn, true, rfl, iteT ?_⟩⟩
    exact ⟨_, rfl, t, _, _, _, rfl, rfl, tt, atI_nat (j := 1) rfl, _, _, _, _, _, rfl, .ty "bool", .base (.bl p.2), kit_ty (r := true) (by decide +kernel), q⟩
theorem ok_p_check_seen (T : Txt K mg) : FnOk P w K mg base CX0 6 T.f_p_check_seen T.fd_p_check_seen ["seen"] (sp_p_check_seen K) := by
  refine T.F_p_check_seen.ok sc_p_check_seen (fun vs H Q E h => ?_) (fun cdv A outer s H vs Q E hr h => ?_)
  · obtain ⟨a, sl, rfl, _⟩ := h
    rfl
  · obtain ⟨a, sl, rfl, S, O, q⟩ := h
    refine ⟨_, (pss_cons (ps_if (PW.pt (pw_or (pt_not (pt_val (pe_callB call_isiT (by rfl) T.z_isinstance (by decide +kernel) (pa_cons (pv 0) (pa_cons (pe_tup (pa_cons (pe_bltn (v := .ty "list") (by rfl) T.z_list (by decide +kernel) rfl) (pa_cons (pe_bltn (v := .ty "tuple") (by rfl) T.z_tuple (by decide +kernel) rfl) pa_nil))) pa_nil))))) (pw_or1 (pt_cmpR op_gt (pe_callB call_len_seq (by rfl) T.z_len (by decide +kernel) (pa_cons (pv 0) pa_nil)) (pe_glob (v := .int 20) (by rfl) T.c_MOST_SEEN.choose_spec ⟨_, rfl⟩) (nomark _))))) (pss_one ps_never) pss_nil)
      (pss_cons (ps_set (i := 1) sc_p_check_seen.nd rfl (by first | exact .inl rfl | exact .inr rfl) pe_int)
      (pss_one (ps_for PassesOwn.never rfl (pi_enumE (i := 0) (by rfl) T.z_enumerate (pa_cons (pv 0) pa_nil)) (pg_tup (by rfl) (pgs_cons (pg_name (i := 2) sc_p_check_seen.nd rfl (by first | exact .inl rfl | exact .inr rfl)) (pgs_cons (pg_name (i := 3) sc_p_check_seen.nd rfl (by first | exact .inl rfl | exact .inr rfl)) pgs_nil))) (pss_cons (ps_if (pt_not (pt_val (pe_call (ok_p_is_sight T) (hr.mono (by decide)) (by rfl) T.g_p_is_sight T.F_p_is_sight.kp T.b_p_is_sight .nil pass0 (pa_cons (pv 3) pa_nil)))) (pss_one ps_never) pss_nil)
      (C8.pss_cut (ps_if (pt_not (pt_val (pe_ix ix_tup (pv 3) pe_int (fun _ _ => rfl)))) (pss_one (ps_aug (i := 1) sc_p_check_seen.nd rfl (.inl rfl) pe_int ip_add)) pss_nil)
      (pss_one (ps_if (pt_cmpR op_gt (pv 1) (pe_glob (v := .int 8) (by rfl) T.c_MOST_UNFIT.choose_spec ⟨_, rfl⟩) (nomark _)) (pss_one ps_never) pss_nil)))))))), ?_⟩
    obtain ⟨xs, hx, nx, fx⟩ := S.ex
    have f20 := O.few
    refine ⟨_, rfl, sizeOk (by show (2 : Nat) ≤ 100000; decide), fun tp ntp => ?_⟩
    have s1 := same_upd ntp (o := .tup [.ty "list", .ty "tuple"])
    have e1 := upd_same (H := H) (a := tp) (o := .tup [.ty "list", .ty "tuple"])
    generalize upd H tp (.tup [.ty "list", .ty "tuple"]) = H1 at s1 e1 ⊢
    have hx1 : H1 a = some (.lst xs) ∨ SqT K H1 a xs := hx.imp (fun q => s1 _ _ q) (fun q => Same.seqTT s1 q)
    obtain ⟨tt, ht, hk⟩ : ∃ tt, TyX K H1 (.ref a) tt ∧ PySem.W.kitAny K tt [.type "list", .type "tuple"] = some true := by
      rcases hx1 with hl | ht
      · exact ⟨.type "list", .base (.lst hl), kit_ls⟩
      · exact ⟨.type "tuple", tyTup ht, kit_tp⟩
    refine ⟨_, tp, _, tt, _, true, rfl, e1, .cons (.ty "list") (.cons (.ty "tuple") .nil), ht, hk, true, rfl, iteF ?_⟩
    refine ⟨_, rfl, a, xs, rfl, hx1.imp lstOf id, _, _, rfl, rfl, _, rfl, ite2 (fun e => ?_) (fun e => ?_)⟩
    · have := of_decide_eq_true e
      omega
    refine ⟨a, rfl, ?_⟩
    rcases hx1 with hl | ht
    · refine .inl ⟨⟨_, lstOf hl⟩, for_it (walk_enum (K := K) (a := a) (xs := xs)) (fun i σ H2 => ∃ x2 x3 : Option V, σ = [some (.ref a), some (.int (unfitTo sl i : Nat)), x2, x3] ∧ Same H1 H2) ⟨_, _, rfl, Same.refl _⟩ (fun i σ H2 _ ⟨_, _, _, s2⟩ => lstOf (s2 _ _ hl)) ?_ ?_⟩
      · rintro i y σ H2 H3 hi ⟨x2, x3, rfl, s2⟩ ⟨p, z1, z2, rfl, np, rfl, e1', e2⟩
        have s3 := s2.trans (same_upd np (o := .tup [z1, z2]))
        have il : i < sl.length := by omega
        have hsl : sl[i]? = some sl[i] := List.getElem?_eq_getElem il
        obtain ⟨t, rfl, qt⟩ := fx i z2 _ e2 hsl
        have qt3 := Same.seqTT (s1.trans s3) qt
        refine ⟨p, _, rfl, tupOf upd_same, rfl, _, _, rfl, _, _, rfl, rfl, ?_⟩
        refine ⟨_, rfl, t, sl[i], rfl, qt3, O.num _ (List.getElem_mem il), true, rfl, iteF ?_⟩
        have u8 := O.unfit (i + 1)
        have us := unfit_succ hsl
        refine ⟨fun σ H' => ∃ x2 x3 : Option V, σ = [some (.ref a), some (.int (unfitTo sl (i + 1) : Nat)), x2, x3] ∧ Same H1 H', ?_, ?_⟩
        · refine ⟨_, rfl, t, _, _, _, rfl, rfl, qt3, atI_nat (j := 1) rfl, _, rfl, ?_⟩
          cases e : sl[i].2 with
          | true =>
            rw [e, if_pos rfl] at us
            exact iteF ⟨some z1, some (.ref t), by rw [us]; rfl, s3⟩
          | false =>
            rw [e, if_neg Bool.false_ne_true] at us
            exact iteT ⟨_, rfl, _, _, rfl, rfl, some z1, some (.ref t), by rw [us]; rfl, s3⟩
        · rintro σ H4 ⟨x2, x3, rfl, s4⟩
          refine ⟨_, rfl, _, _, rfl, rfl, _, rfl, ite2 (fun e => ?_) (fun e => ?_)⟩
          · have := of_decide_eq_true e
            omega
          · exact ⟨_, _, rfl, s4⟩
      · rintro σ H2 ⟨x2, x3, rfl, s2⟩
        exact q _ (s1.trans s2)
    · refine .inr ⟨⟨_, ht⟩, for_it (walk_enT (K := K) (a := a) (xs := xs)) (fun i σ H2 => ∃ x2 x3 : Option V, σ = [some (.ref a), some (.int (unfitTo sl i : Nat)), x2, x3] ∧ Same H1 H2) ⟨_, _, rfl, Same.refl _⟩ (fun i σ H2 _ ⟨_, _, _, s2⟩ => Same.seqTT s2 ht) ?_ ?_⟩
      · rintro i y σ H2 H3 hi ⟨x2, x3, rfl, s2⟩ ⟨p, z1, z2, rfl, np, rfl, e1', e2⟩
        have s3 := s2.trans (same_upd np (o := .tup [z1, z2]))
        have il : i < sl.length := by omega
        have hsl : sl[i]? = some sl[i] := List.getElem?_eq_getElem il
        obtain ⟨t, rfl, qt⟩ := fx i z2 _ e2 hsl
        have qt3 := Same.seqTT (s1.trans s3) qt
        refine ⟨p, _, rfl, tupOf upd_same, rfl, _, _, rfl, _, _, rfl, rfl, ?_⟩
        refine ⟨_, rfl, t, sl[i], rfl, qt3, O.num _ (List.getElem_mem il), true, rfl, iteF ?_⟩
        have u8 := O.unfit (i + 1)
        have us := unfit_succ hsl
        refine ⟨fun σ H' => ∃ x2 x3 : Option V, σ = [some (.ref a), some (.int (unfitTo sl (i + 1) : Nat)), x2, x3] ∧ Same H1 H', ?_, ?_⟩
        · refine ⟨_, rfl, t, _, _, _, rfl, rfl, qt3, atI_nat (j := 1) rfl, _, rfl, ?_⟩
          cases e : sl[i].2 with
          | true =>
            rw [e, if_pos rfl] at us
            exact iteF ⟨some z1, some (.ref t), by rw [us]; rfl, s3⟩
          | false =>
            rw [e, if_neg Bool.false_ne_true] at us
            exact iteT ⟨_, rfl, _, _, rfl, rfl, some z1, some (.ref t), by rw [us]; rfl, s3⟩
        · rintro σ H4 ⟨x2, x3, rfl, s4⟩
          refine ⟨_, rfl, _, _, rfl, rfl, _, rfl, ite2 (fun e => ?_) (fun e => ?_)⟩
          · have := of_decide_eq_true e
            omega
          · exact ⟨_, _, rfl, s4⟩
      · rintro σ H2 ⟨x2, x3, rfl, s2⟩
        exact q _ (s1.trans s2)
theorem ok_p_marks_of (T : Txt K mg) : FnOk P w K mg base CX0 2 T.f_p_marks_of T.fd_p_marks_of ["moduli", "number"] (sp_p_marks_of K) := by
  refine T.F_p_marks_of.ok sc_p_marks_of (fun vs H Q E h => ?_) (fun cdv A outer s H vs Q E hr h => ?_)
  · obtain ⟨a, ms, x, rfl, _⟩ := h
    rfl
  · obtain ⟨a, ms, x, rfl, ta, M, q⟩ := h
    refine ⟨_, (pss_one (ps_ret (pe_lc (own := [("index", 2), ("modulus", 3)]) (g := gTup K 2 (gCons (gName 2) (gCons (gName 3) (gNil)))) rfl sc_p_marks_of.nd (pi_enT (by rfl) T.z_enumerate (pa_cons (pv 0) pa_nil)) (blkOk_by (N := ["moduli", "number", "index", "modulus"]) (sc := defScope s_p_marks_of) (by decide +kernel)) (fun _ _ _ _ _ => (pg_tup (by rfl) (pgs_cons (pg_name (i := 2) sc_p_marks_of.nd rfl (by first | exact .inl rfl | exact .inr rfl)) (pgs_cons (pg_name (i := 3) sc_p_marks_of.nd rfl (by first | exact .inl rfl | exact .inr rfl)) pgs_nil)))) (fun _ _ _ _ _ => pts_nil) (fun _ _ _ _ _ => (pe_tup (pa_cons (pv 2) (pa_cons (pe_op op_mod (pv 1) (pv 3)) pa_nil))))))), ?_⟩
    refine ⟨_, rfl, a, _, rfl, ta, fun D nD => ?_⟩
    have l4 := M.four
    refine lc_it (walk_enT (K := K) (a := a) (xs := ms.map V.int)) (fun j Hj => TupsAt K Hj D (marksTo ms x j) ∧ Same H Hj) ⟨TupsAt.nil upd_same, same_upd nD⟩ (fun j Hj _ ⟨_, sj⟩ => Same.seqTT sj ta) ?_ ?_
    · rintro j y Hj H2 hj ⟨TD, sj⟩ ⟨p, z1, z2, rfl, np, rfl, e1, e2⟩
      obtain ⟨m, hm, rfl⟩ := getMapInt' e2
      have mm := M.mod m (List.mem_of_getElem? hm)
      cases Option.some.inj e1
      have sp := same_upd np (o := .tup [.int (j : Nat), .int m])
      have TD2 := TD.stay sp
      refine ⟨p, _, rfl, tupOf upd_same, rfl, _, _, rfl, _, _, rfl, rfl, rfl, _, rfl, _, rfl, _, rfl, _, _, rfl, rfl, by show (0 : Int) < m; omega, sizeOk (by show (2 : Nat) ≤ 100000; decide), fun u nu => ?_⟩
      have su := same_upd nu (o := .tup [.int (j : Nat), .int (x % m)])
      obtain ⟨us, eu, lu, Tn⟩ := (TD2.stay su).push (t := u) (l := [((j : Nat) : Int), x % m]) (tupOf upd_same)
      refine ⟨_, eu, ?_, ?_, samePut (sj.trans (sp.trans su)) nD⟩
      · rw [List.length_map, lu]
        unfold marksTo
        rw [List.length_map, List.length_range]
        rw [List.length_map] at hj
        exact sizeLt (by omega)
      · rw [marksTo_succ, show ms.getD j 1 = m by rw [List.getD_eq_getElem?_getD, hm]; rfl]
        exact Tn
    · rintro H2 ⟨TD, s2⟩
      rw [List.length_map] at TD
      exact q D _ s2 nD TD
end

end R
namespace R
open PySem PySem.Spec PyProof.Rows L2
/-! ## walks of a set comprehension of two fors -/
section
variable {P : Program} {w : World} {K : PySem.W.Frag}
/-- the inner walk -/
def Inner (P : Program) (w : World) (K : PySem.W.Frag) (g1 : TG) (tt1 : TT) (te : TE) (vs1 : List Nat) (σ2 : L2.St) (D : Addr) (J1 : It) (H4 : Hp) (Nx : Hp → Prop) : Prop :=
  ∃ W1 : Nat → Nat → Hp → Prop, (∃ m, W1 0 m H4) ∧ ∀ j k H, W1 j k H → (J1.stop j H ∧ Nx H) ∨
        (J1.go j H ∧ ∃ Nx1 : Hp → Prop, (∀ H', Nx1 H' → ∃ k', k' < k ∧ W1 (j + 1) k' H') ∧ ∀ x H', J1.yld j H x H' → g1 x (wipe σ2 vs1) H' fun σ3 H5 => wipe σ3 vs1 = wipe σ2 vs1 ∧ tt1 σ3 H5 fun b H6 =>
          if b = true then te σ3 H6 fun y H7 => ∃ (c : Addr) (k : List Int) (L : List (Addr × List Int)), y = .ref c ∧ SqT K H7 c (k.map V.int) ∧ H7 D = some (SetTO P w D L) ∧ (∀ p ∈ L, SqT K H7 p.1 (p.2.map V.int)) ∧ L.length + 1 < 64 ∧
            ∀ L', (k ∈ L.map (·.2) → L' = L) → (k ∉ L.map (·.2) → L'.Perm ((c, k) :: L)) → Nx1 (upd H7 D (SetTO P w D L')) else Nx1 H6)
theorem inner_list {g1 : TG} {tt1 : TT} {te : TE} {vs1 : List Nat} {σ2 : L2.St} {D a : Addr} {xs : List V} {H4 : Hp} {Nx : Hp → Prop} (Pv : Nat → Hp → Prop) (h0 : Pv 0 H4) (hl : ∀ j H, j ≤ xs.length → Pv j H → SqL K H a xs)
    (hs : ∀ j x H, xs[j]? = some x → Pv j H → g1 x (wipe σ2 vs1) H fun σ3 H5 => wipe σ3 vs1 = wipe σ2 vs1 ∧ tt1 σ3 H5 fun b H6 =>
          if b = true then te σ3 H6 fun y H7 => ∃ (c : Addr) (k : List Int) (L : List (Addr × List Int)), y = .ref c ∧ SqT K H7 c (k.map V.int) ∧ H7 D = some (SetTO P w D L) ∧ (∀ p ∈ L, SqT K H7 p.1 (p.2.map V.int)) ∧ L.length + 1 < 64 ∧
            ∀ L', (k ∈ L.map (·.2) → L' = L) → (k ∉ L.map (·.2) → L'.Perm ((c, k) :: L)) → Pv (j + 1) (upd H7 D (SetTO P w D L')) else Pv (j + 1) H6)
    (hd : ∀ H, Pv xs.length H → Nx H) : Inner P w K g1 tt1 te vs1 σ2 D (Itl K a) H4 Nx := by
  refine ⟨fun j m H => m = xs.length - j ∧ j ≤ xs.length ∧ Pv j H, ⟨_, rfl, Nat.zero_le _, h0⟩, ?_⟩
  rintro j _ H ⟨rfl, hj, p⟩
  by_cases lt : j < xs.length
  · refine .inr ⟨⟨xs, xs[j], hl j H hj p, by simp [lt]⟩, Pv (j + 1), fun H' p' => ⟨xs.length - (j + 1), by omega, rfl, lt, p'⟩, fun x H' ⟨e, y⟩ => ?_⟩
    subst e
    exact hs j x _ (y xs (hl j _ hj p)) p
  · obtain rfl : j = xs.length := by omega
    exact .inl ⟨⟨xs, hl _ H hj p, Nat.le_refl _⟩, hd H p⟩
theorem scT2_run {wi1 : TI} {g g1 : TG} {tt tt1 : TT} {te : TE} {vs vs1 : List Nat} {σ : L2.St} {H1 : Hp} {D : Addr} {Qd : Hp → Prop} {J : It} {xs : List V} (Pv : Nat → Hp → Prop) (h0 : Pv 0 (upd H1 D (SetTO P w D [])))
    (go : ∀ i H, i < xs.length → Pv i H → J.go i H) (stop : ∀ H, Pv xs.length H → J.stop xs.length H) (yld : ∀ i H x H', i < xs.length → Pv i H → J.yld i H x H' → H' = H ∧ xs[i]? = some x)
    (hs : ∀ i x H, xs[i]? = some x → Pv i H → g x (wipe σ vs) H fun σ2 H2 => wipe σ2 vs = wipe σ vs ∧ tt σ2 H2 fun b H3 => if b = true then wi1 σ2 H3 fun J1 H4 => Inner P w K g1 tt1 te vs1 σ2 D J1 H4 (Pv (i + 1)) else Pv (i + 1) H3)
    (hd : ∀ H, Pv xs.length H → Qd H) : ∃ W : Nat → Nat → Hp → Prop, (∃ m, W 0 m (upd H1 D (SetTO P w D []))) ∧ ∀ i m H, W i m H → (J.stop i H ∧ Qd H) ∨
    (J.go i H ∧ ∃ Nx : Hp → Prop, (∀ H', Nx H' → ∃ m', m' < m ∧ W (i + 1) m' H') ∧ ∀ x H', J.yld i H x H' → g x (wipe σ vs) H' fun σ2 H2 => wipe σ2 vs = wipe σ vs ∧ tt σ2 H2 fun b H3 =>
      if b = true then wi1 σ2 H3 fun J1 H4 => ∃ W1 : Nat → Nat → Hp → Prop, (∃ m, W1 0 m H4) ∧ ∀ j k H, W1 j k H → (J1.stop j H ∧ Nx H) ∨
        (J1.go j H ∧ ∃ Nx1 : Hp → Prop, (∀ H', Nx1 H' → ∃ k', k' < k ∧ W1 (j + 1) k' H') ∧ ∀ x H', J1.yld j H x H' → g1 x (wipe σ2 vs1) H' fun σ3 H5 => wipe σ3 vs1 = wipe σ2 vs1 ∧ tt1 σ3 H5 fun b H6 =>
          if b = true then te σ3 H6 fun y H7 => ∃ (c : Addr) (k : List Int) (L : List (Addr × List Int)), y = .ref c ∧ SqT K H7 c (k.map V.int) ∧ H7 D = some (SetTO P w D L) ∧ (∀ p ∈ L, SqT K H7 p.1 (p.2.map V.int)) ∧ L.length + 1 < 64 ∧
            ∀ L', (k ∈ L.map (·.2) → L' = L) → (k ∉ L.map (·.2) → L'.Perm ((c, k) :: L)) → Nx1 (upd H7 D (SetTO P w D L')) else Nx1 H6) else Nx H3) := by
  refine ⟨fun i m H => m = xs.length - i ∧ i ≤ xs.length ∧ Pv i H, ⟨_, rfl, Nat.zero_le _, h0⟩, ?_⟩
  rintro i _ H ⟨rfl, hi, p⟩
  by_cases lt : i < xs.length
  · refine .inr ⟨go i H lt p, Pv (i + 1), fun H' p' => ⟨xs.length - (i + 1), by omega, rfl, lt, p'⟩, fun x H' y => ?_⟩
    obtain ⟨rfl, hx⟩ := yld i H x H' lt p y
    exact hs i x _ hx p
  · obtain rfl : i = xs.length := by omega
    exact .inl ⟨stop H p, hd H p⟩
end

end R
namespace R
open PySem PySem.Spec PyProof.Rows L2
/-! ## held marks -/
def sp_p_held_marks (K : PySem.W.Frag) : Sp := fun vs H Q _ => ∃ (a b : Addr) (ms : List Int) (sl : List (Int × Bool)) (U : List (List Int)), vs = [.ref a, .ref b] ∧ SqT K H a (ms.map V.int) ∧ MOk ms ∧ SeenAt K H b sl ∧ U.length ≤ 60 ∧ (∀ p ∈ sl, p.2 = true → ∀ z ∈ marksL ms p.1, z ∈ U) ∧
  ∀ D hl H', Same H H' → H D = none → TupsAt K H' D hl → HeldIs ms sl hl → Q (.ref D) H'
/-- the marks of the first i that fit, and the first j marks of the next -/
def InHeld (ms : List Int) (sl : List (Int × Bool)) (i : Nat) (z : List Int) : Prop := ∃ p ∈ sl.take i, p.2 = true ∧ z ∈ marksL ms p.1
theorem marksL_at {ms : List Int} {x : Int} {j : Nat} {z : List Int} (h : (marksL ms x)[j]? = some z) : (marksL ms x).take (j + 1) = (marksL ms x).take j ++ [z] := takeSucc h
section
variable {P : Program} {w : World} {K : PySem.W.Frag} {mg : Str → Option Value} {base : Heap}
set_option maxHeartbeats 1600000 in
theorem ok_p_held_marks (T : Txt K mg) : FnOk P w K mg base CX0 3 T.f_p_held_marks T.fd_p_held_marks ["moduli", "seen"] (sp_p_held_marks K) := by
  refine T.F_p_held_marks.ok sc_p_held_marks (fun vs H Q E h => ?_) (fun cdv A outer s H vs Q E hr h => ?_)
  · obtain ⟨a, b, ms, sl, U, rfl, _⟩ := h
    rfl
  · obtain ⟨a, b, ms, sl, U, rfl, ta, M, S, u60, hU, q⟩ := h
    refine ⟨_, (pss_one (ps_ret (pe_callB (cr_sortedT rfl) (by rfl) T.z_sorted (by decide +kernel) (pa_cons (pe_scT2 (own := [("number", 2), ("does", 3), ("mark", 4)]) (vs1 := [4]) (g := gTup K 2 (gCons (gName 2) (gCons (gName 3) (gNil)))) rfl (in2u hr) sc_p_held_marks.nd (pi_either (pv 1)) (blkOk_by (N := ["moduli", "seen", "number", "does", "mark"]) (sc := defScope s_p_held_marks) (by decide +kernel)) (by decide) (fun _ _ _ _ _ => (pg_tup (by rfl) (pgs_cons (pg_name (i := 2) sc_p_held_marks.nd rfl (by first | exact .inl rfl | exact .inr rfl)) (pgs_cons (pg_name (i := 3) sc_p_held_marks.nd rfl (by first | exact .inl rfl | exact .inr rfl)) pgs_nil)))) (fun _ _ _ _ _ => (pts_one (pt_val (pv 3)))) (fun _ _ _ _ _ => (pi_listK (K := K) rfl (pe_call (ok_p_marks_of T) (hr.mono (by decide)) (by rfl) T.g_p_marks_of T.F_p_marks_of.kp T.b_p_marks_of .nil pass0 (pa_cons (pv 0) (pa_cons (pv 2) pa_nil))))) (fun _ _ _ _ _ => (pg_name (i := 4) sc_p_held_marks.nd rfl (by first | exact .inl rfl | exact .inr rfl))) (fun _ _ _ _ _ => pts_nil) (fun _ _ _ _ _ => (pv 4))) pa_nil)))), ?_⟩
    obtain ⟨xs, hx, nx, fx⟩ := S.ex
    refine ⟨_, rfl, b, rfl, ?_⟩
    have tail : ∀ (D : Addr) (H2 : Hp) (L : List (Addr × List Int)), H D = none → H2 D = some (SetTO P w D L) → Mem K H2 L (InHeld ms sl sl.length) → (∀ c o, c ≠ D → H c = some o → H2 c = some o) →
        rSortedT K P w [.ref D] H2 Q := fun D H2 L nD eD mm kp => by
      refine ⟨D, L, 2, 64, rfl, eD, mm.at_, by decide, fun p hp => ?_, fun L' p' pm nd lt up np => ?_⟩
      · obtain ⟨s0, hs0, d0, hz⟩ := (mm.mem p.2).mp (List.mem_map.mpr ⟨p, hp, rfl⟩)
        obtain ⟨i, r, e, il, er⟩ := marks_two _ hz
        rw [e]
        have mi := M.mod (ms.getD i 1) (by rw [List.getD_eq_getElem?_getD, List.getElem?_eq_getElem il]; exact List.getElem_mem il)
        have r0 := Int.emod_nonneg s0.1 (show ms.getD i 1 ≠ 0 by omega)
        have r1 := Int.emod_lt_of_pos s0.1 (show (0 : Int) < ms.getD i 1 by omega)
        have h4 := M.four
        refine ⟨rfl, fun m hm => ?_⟩
        rcases List.mem_cons.mp hm with rfl | hm
        · omega
        · rw [List.mem_singleton.mp hm, er]
          omega
      · have sp := same_upd np (o := .lst (L'.map fun q => V.ref q.1))
        have hD : ∀ c o, H c = some o → c ≠ D := fun c o e z => by rw [z, nD] at e; cases e
        refine q p' (L'.map (·.2)) _ (fun c o e => sp _ _ (kp c o (hD c o e) e)) ?_ ⟨L'.map (·.1), by rw [upd_same, List.map_map]; rfl, by rw [List.length_map, List.length_map], fun i t l h1 h2 => ?_⟩ ⟨nd, fun z => ?_⟩
        · cases e : H p' with
          | none => rfl
          | some o =>
            have := kp p' o (hD p' o e) e
            rw [np] at this
            cases this
        · rw [List.getElem?_map] at h1 h2
          obtain ⟨z1, g1, rfl⟩ := Option.map_eq_some_iff.mp h1
          rw [g1] at h2
          cases h2
          exact Same.seqTT sp (mm.at_ z1 (pm.mem_iff.mp (List.mem_of_getElem? g1)))
        · rw [(pm.map (·.2)).mem_iff, mm.mem]
          unfold InHeld
          rw [List.take_length]
    rcases hx with hl | ht
    · refine .inl ⟨⟨_, lstOf hl⟩, fun D nD => ?_⟩
      have bD : b ≠ D := fun z => by rw [z, nD] at hl; cases hl
      refine scT2_run (K := K) (xs := xs) (fun i Hi => ∃ L, Hi D = some (SetTO P w D L) ∧ Mem K Hi L (InHeld ms sl i) ∧ ∀ c o, c ≠ D → H c = some o → Hi c = some o) ⟨[], upd_same, Mem.nil.congr fun z => ⟨fun h => h.elim, fun ⟨p, hp, _⟩ => by rw [List.take_zero] at hp; cases hp⟩, fun c o n e => by rw [upd_ne n]; exact e⟩ ?_ ?_ ?_ ?_ ?_
      · intro i Hi hi ⟨L, eD, mm, kp⟩
        exact ⟨xs, xs[i], lstOf (kp _ _ bD hl), by simp [hi]⟩
      · intro Hi ⟨L, eD, mm, kp⟩
        exact ⟨xs, lstOf (kp _ _ bD hl), Nat.le_refl _⟩
      · rintro i Hi x H' hi ⟨L, eD, mm, kp⟩ ⟨e, y⟩
        exact ⟨e, y xs (lstOf (kp _ _ bD hl))⟩
      · rintro i x Hi hx ⟨L, eD, mm, kp⟩
        have il : i < sl.length := by
          have := (List.getElem?_eq_some_iff.mp hx).1
          omega
        have hsl : sl[i]? = some sl[i] := List.getElem?_eq_getElem il
        obtain ⟨t, rfl, qt⟩ := fx i x _ hx hsl
        have keepT : ∀ {Hj : Hp}, (∀ c o, c ≠ D → H c = some o → Hj c = some o) → TupsStay K H Hj := fun kj c ys h => by
          rcases h with (h | ⟨o, h⟩) | h
          · exact .inl (.inl (kj _ _ (fun z => by rw [z, nD] at h; cases h) h))
          · exact .inl (.inr ⟨o, kj _ _ (fun z => by rw [z, nD] at h; cases h) h⟩)
          · exact .inr h
        refine ⟨t, [_, _], rfl, keepT kp _ _ qt, rfl, _, _, rfl, _, _, rfl, rfl, rfl, _, rfl, _, rfl, ?_⟩
        have hm := List.getElem_mem il
        have tk := takeSucc hsl
        generalize sl[i] = p at hsl qt hm tk
        obtain ⟨x, d⟩ := p
        cases d with
        | false =>
          refine iteF ⟨L, eD, mm.congr fun z => ?_, kp⟩
          unfold InHeld
          rw [tk]
          constructor
          · rintro ⟨p, hp, h⟩
            exact ⟨p, List.mem_append_left _ hp, h⟩
          · rintro ⟨p, hp, h1, h2⟩
            rcases List.mem_append.mp hp with hp | hp
            · exact ⟨p, hp, h1, h2⟩
            · rw [List.mem_singleton.mp hp] at h1
              cases h1
        | true =>
          refine iteT ⟨_, rfl, _, rfl, a, ms, x, rfl, keepT kp _ _ ta, M, fun D1 H5 s5 n5 T5 => ?_⟩
          obtain ⟨ts, e5, lt5, at5⟩ := T5.ex
          have DD : D1 ≠ D := fun z => by rw [z, eD] at n5; cases n5
          refine ⟨D1, rfl, ⟨_, lstOf e5⟩, inner_list (K := K) (xs := ts.map V.ref) (fun j Hj => ∃ L, Hj D = some (SetTO P w D L) ∧ Mem K Hj L (fun z => InHeld ms sl i z ∨ z ∈ (marksL ms x).take j) ∧ ∀ c o, c ≠ D → H5 c = some o → Hj c = some o)
            ⟨L, s5 _ _ eD, (mm.stay (.same s5)).congr fun z => ⟨.inl, fun h => h.elim id fun h => by rw [List.take_zero] at h; cases h⟩, fun c o _ e => e⟩ ?_ ?_ ?_⟩
          · rintro j Hj hj ⟨L, eD, mm, kj⟩
            exact lstOf (kj _ _ DD e5)
          · rintro j y Hj hj ⟨L, eDj, mj, kj⟩
            rw [List.getElem?_map] at hj
            obtain ⟨tz, htz, rfl⟩ := Option.map_eq_some_iff.mp hj
            have jl := (List.getElem?_eq_some_iff.mp htz).1
            obtain ⟨z, hz⟩ : ∃ z, (marksL ms x)[j]? = some z := ⟨_, List.getElem?_eq_getElem (by omega)⟩
            have keep5 : ∀ {Hk : Hp}, (∀ c o, c ≠ D → H5 c = some o → Hk c = some o) → TupsStay K H5 Hk := fun kj c ys h => by
              have e5D := s5 _ _ eD
              rcases h with (h | ⟨o, h⟩) | h
              · exact .inl (.inl (kj _ _ (fun z => by rw [z, e5D] at h; cases h) h))
              · exact .inl (.inr ⟨o, kj _ _ (fun z => by rw [z, e5D] at h; cases h) h⟩)
              · exact .inr h
            have sq := keep5 kj _ _ (at5 j tz z htz hz)
            have few := mj.few (U := U) fun z hz => by
              rcases hz with ⟨p, hp, h1, h2⟩ | hz
              · exact hU p (List.mem_of_mem_take hp) h1 z h2
              · exact hU _ hm rfl z (List.mem_of_mem_take hz)
            refine ⟨rfl, _, rfl, tz, z, L, rfl, sq, eDj, mj.at_, by omega, fun L' m1 m2 => ⟨L', upd_same, ?_, fun c o n e => by rw [upd_ne n]; exact kj c o n e⟩⟩
            have stay : TupsStay K Hj (upd Hj D (SetTO P w D L')) := fun c ys h => by
              rcases h with (h | ⟨o, h⟩) | h
              · exact .inl (.inl (by rw [upd_ne (fun z => by rw [z, eDj] at h; cases h)]; exact h))
              · exact .inl (.inr ⟨o, by rw [upd_ne (fun z => by rw [z, eDj] at h; cases h)]; exact h⟩)
              · exact .inr h
            refine ((mj.add sq m1 m2).stay stay).congr fun y => ?_
            rw [takeSucc hz, List.mem_append, List.mem_singleton, or_assoc]
          · rintro Hj ⟨L, eDj, mj, kj⟩
            rw [List.length_map, lt5, List.take_length] at mj
            refine ⟨L, eDj, mj.congr fun z => ?_, fun c o n e => kj c o n (s5 _ _ (kp c o n e))⟩
            unfold InHeld
            rw [tk]
            constructor
            · rintro (⟨p, hp, h⟩ | h)
              · exact ⟨p, List.mem_append_left _ hp, h⟩
              · exact ⟨_, List.mem_append_right _ (List.mem_singleton.mpr rfl), rfl, h⟩
            · rintro ⟨p, hp, h1, h2⟩
              rcases List.mem_append.mp hp with hp | hp
              · exact .inl ⟨p, hp, h1, h2⟩
              · rw [List.mem_singleton.mp hp] at h2
                exact .inr h2
      · rintro Hi ⟨L, eD, mm, kp⟩
        rw [nx] at mm
        exact tail D Hi L nD eD mm kp
    · refine .inr ⟨⟨_, ht⟩, fun D nD => ?_⟩
      have kT : ∀ {Hj : Hp}, (∀ c o, c ≠ D → H c = some o → Hj c = some o) → SqT K Hj b xs := fun kj => by
        rcases ht with (h | ⟨o, h⟩) | h
        · exact .inl (.inl (kj _ _ (fun z => by rw [z, nD] at h; cases h) h))
        · exact .inl (.inr ⟨o, kj _ _ (fun z => by rw [z, nD] at h; cases h) h⟩)
        · exact .inr h
      refine scT2_run (K := K) (xs := xs) (fun i Hi => ∃ L, Hi D = some (SetTO P w D L) ∧ Mem K Hi L (InHeld ms sl i) ∧ ∀ c o, c ≠ D → H c = some o → Hi c = some o) ⟨[], upd_same, Mem.nil.congr fun z => ⟨fun h => h.elim, fun ⟨p, hp, _⟩ => by rw [List.take_zero] at hp; cases hp⟩, fun c o n e => by rw [upd_ne n]; exact e⟩ ?_ ?_ ?_ ?_ ?_
      · intro i Hi hi ⟨L, eD, mm, kp⟩
        exact ⟨xs, xs[i], kT kp, by simp [hi]⟩
      · intro Hi ⟨L, eD, mm, kp⟩
        exact ⟨xs, kT kp, Nat.le_refl _⟩
      · rintro i Hi x H' hi ⟨L, eD, mm, kp⟩ ⟨e, y⟩
        exact ⟨e, y xs (kT kp)⟩
      · rintro i x Hi hx ⟨L, eD, mm, kp⟩
        have il : i < sl.length := by
          have := (List.getElem?_eq_some_iff.mp hx).1
          omega
        have hsl : sl[i]? = some sl[i] := List.getElem?_eq_getElem il
        obtain ⟨t, rfl, qt⟩ := fx i x _ hx hsl
        have keepT : ∀ {Hj : Hp}, (∀ c o, c ≠ D → H c = some o → Hj c = some o) → TupsStay K H Hj := fun kj c ys h => by
          rcases h with (h | ⟨o, h⟩) | h
          · exact .inl (.inl (kj _ _ (fun z => by rw [z, nD] at h; cases h) h))
          · exact .inl (.inr ⟨o, kj _ _ (fun z => by rw [z, nD] at h; cases h) h⟩)
          · exact .inr h
        refine ⟨t, [_, _], rfl, keepT kp _ _ qt, rfl, _, _, rfl, _, _, rfl, rfl, rfl, _, rfl, _, rfl, ?_⟩
        have hm := List.getElem_mem il
        have tk := takeSucc hsl
        generalize sl[i] = p at hsl qt hm tk
        obtain ⟨x, d⟩ := p
        cases d with
        | false =>
          refine iteF ⟨L, eD, mm.congr fun z => ?_, kp⟩
          unfold InHeld
          rw [tk]
          constructor
          · rintro ⟨p, hp, h⟩
            exact ⟨p, List.mem_append_left _ hp, h⟩
          · rintro ⟨p, hp, h1, h2⟩
            rcases List.mem_append.mp hp with hp | hp
            · exact ⟨p, hp, h1, h2⟩
            · rw [List.mem_singleton.mp hp] at h1
              cases h1
        | true =>
          refine iteT ⟨_, rfl, _, rfl, a, ms, x, rfl, keepT kp _ _ ta, M, fun D1 H5 s5 n5 T5 => ?_⟩
          obtain ⟨ts, e5, lt5, at5⟩ := T5.ex
          have DD : D1 ≠ D := fun z => by rw [z, eD] at n5; cases n5
          refine ⟨D1, rfl, ⟨_, lstOf e5⟩, inner_list (K := K) (xs := ts.map V.ref) (fun j Hj => ∃ L, Hj D = some (SetTO P w D L) ∧ Mem K Hj L (fun z => InHeld ms sl i z ∨ z ∈ (marksL ms x).take j) ∧ ∀ c o, c ≠ D → H5 c = some o → Hj c = some o)
            ⟨L, s5 _ _ eD, (mm.stay (.same s5)).congr fun z => ⟨.inl, fun h => h.elim id fun h => by rw [List.take_zero] at h; cases h⟩, fun c o _ e => e⟩ ?_ ?_ ?_⟩
          · rintro j Hj hj ⟨L, eD, mm, kj⟩
            exact lstOf (kj _ _ DD e5)
          · rintro j y Hj hj ⟨L, eDj, mj, kj⟩
            rw [List.getElem?_map] at hj
            obtain ⟨tz, htz, rfl⟩ := Option.map_eq_some_iff.mp hj
            have jl := (List.getElem?_eq_some_iff.mp htz).1
            obtain ⟨z, hz⟩ : ∃ z, (marksL ms x)[j]? = some z := ⟨_, List.getElem?_eq_getElem (by omega)⟩
            have keep5 : ∀ {Hk : Hp}, (∀ c o, c ≠ D → H5 c = some o → Hk c = some o) → TupsStay K H5 Hk := fun kj c ys h => by
              have e5D := s5 _ _ eD
              rcases h with (h | ⟨o, h⟩) | h
              · exact .inl (.inl (kj _ _ (fun z => by rw [z, e5D] at h; cases h) h))
              · exact .inl (.inr ⟨o, kj _ _ (fun z => by rw [z, e5D] at h; cases h) h⟩)
              · exact .inr h
            have sq := keep5 kj _ _ (at5 j tz z htz hz)
            have few := mj.few (U := U) fun z hz => by
              rcases hz with ⟨p, hp, h1, h2⟩ | hz
              · exact hU p (List.mem_of_mem_take hp) h1 z h2
              · exact hU _ hm rfl z (List.mem_of_mem_take hz)
            refine ⟨rfl, _, rfl, tz, z, L, rfl, sq, eDj, mj.at_, by omega, fun L' m1 m2 => ⟨L', upd_same, ?_, fun c o n e => by rw [upd_ne n]; exact kj c o n e⟩⟩
            have stay : TupsStay K Hj (upd Hj D (SetTO P w D L')) := fun c ys h => by
              rcases h with (h | ⟨o, h⟩) | h
              · exact .inl (.inl (by rw [upd_ne (fun z => by rw [z, eDj] at h; cases h)]; exact h))
              · exact .inl (.inr ⟨o, by rw [upd_ne (fun z => by rw [z, eDj] at h; cases h)]; exact h⟩)
              · exact .inr h
            refine ((mj.add sq m1 m2).stay stay).congr fun y => ?_
            rw [takeSucc hz, List.mem_append, List.mem_singleton, or_assoc]
          · rintro Hj ⟨L, eDj, mj, kj⟩
            rw [List.length_map, lt5, List.take_length] at mj
            refine ⟨L, eDj, mj.congr fun z => ?_, fun c o n e => kj c o n (s5 _ _ (kp c o n e))⟩
            unfold InHeld
            rw [tk]
            constructor
            · rintro (⟨p, hp, h⟩ | h)
              · exact ⟨p, List.mem_append_left _ hp, h⟩
              · exact ⟨_, List.mem_append_right _ (List.mem_singleton.mpr rfl), rfl, h⟩
            · rintro ⟨p, hp, h1, h2⟩
              rcases List.mem_append.mp hp with hp | hp
              · exact .inl ⟨p, hp, h1, h2⟩
              · rw [List.mem_singleton.mp hp] at h2
                exact .inr h2
      · rintro Hi ⟨L, eD, mm, kp⟩
        rw [nx] at mm
        exact tail D Hi L nD eD mm kp
end

end R
namespace R
open PySem PySem.Spec PyProof.Rows L2
/-! ## unheld marks -/
def sp_p_unheld_marks (K : PySem.W.Frag) : Sp := fun vs H Q _ => ∃ (a b : Addr) (ms : List Int) (sl : List (Int × Bool)) (U : List (List Int)), vs = [.ref a, .ref b] ∧ SqT K H a (ms.map V.int) ∧ MOk ms ∧ SeenAt K H b sl ∧ sl.length ≤ 20 ∧ U.length ≤ 60 ∧ (∀ p ∈ sl, p.2 = true → ∀ z ∈ marksL ms p.1, z ∈ U) ∧
  ∀ D hl H', Same H H' → H D = none → LLAt K H' D (unheldL ms hl sl) → HeldIs ms sl hl → Q (.ref D) H'
def unheldTo (ms : List Int) (hl : List (List Int)) (sl : List (Int × Bool)) (n : Nat) : List (List (List Int)) := unheldL ms hl (sl.take n)
theorem unheldTo_succ {ms : List Int} {hl : List (List Int)} {sl : List (Int × Bool)} {n : Nat} {p : Int × Bool} (h : sl[n]? = some p) : unheldTo ms hl sl (n + 1) = unheldTo ms hl sl n ++ (if p.2 = true then [] else [leftOf ms hl p.1]) := by
  unfold unheldTo unheldL
  rw [takeSucc h, List.filter_append, List.map_append]
  cases e : p.2 with
  | true =>
    rw [List.filter_cons_of_neg (by rw [e]; decide), if_pos rfl]
    rfl
  | false =>
    rw [List.filter_cons_of_pos (by rw [e]; rfl), if_neg Bool.false_ne_true]
    rfl
theorem LLAt.nil {K : PySem.W.Frag} {H : Hp} {D : Addr} (h : H D = some (.lst [])) : LLAt K H D [] := ⟨[], h, rfl, fun i b u a _ => by simp at a⟩
theorem LLAt.push {K : PySem.W.Frag} {H : Hp} {D t : Addr} {LL : List (List (List Int))} {l : List (List Int)} (h : LLAt K H D LL) (ht : TupsAt K H t l) (ne : t ≠ D) (old : ∀ (as_ : List Addr), H D = some (.lst (as_.map V.ref)) → D ∉ as_) :
    ∃ as_ : List Addr, H D = some (.lst (as_.map V.ref)) ∧ as_.length = LL.length ∧ LLAt K (upd H D (.lst (as_.map V.ref ++ [V.ref t]))) D (LL ++ [l]) := by
  obtain ⟨as_, e, n, f⟩ := h.ex
  have no := old as_ e
  have other : ∀ {b : Addr} {u : List (List Int)}, b ≠ D → TupsAt K H b u → TupsAt K (upd H D (.lst (as_.map V.ref ++ [V.ref t]))) b u := fun {b u} nb hb => by
    obtain ⟨ts, e1, n1, f1⟩ := hb.ex
    exact ⟨ts, by rw [upd_ne nb]; exact e1, n1, fun i t' l' x y => lstTups e _ _ (f1 i t' l' x y)⟩
  refine ⟨as_, e, n, as_ ++ [t], by rw [upd_same, List.map_append]; rfl, by rw [List.length_append, List.length_append, n]; rfl, fun i b u a c => ?_⟩
  by_cases hi : i < as_.length
  · rw [List.getElem?_append_left hi] at a
    rw [List.getElem?_append_left (by omega)] at c
    exact other (fun z => no (z ▸ List.mem_of_getElem? a)) (f i b u a c)
  · rw [List.getElem?_append_right (by omega)] at a
    rw [List.getElem?_append_right (by omega), ← n] at c
    cases z : i - as_.length with
    | zero =>
      rw [z] at a c
      cases Option.some.inj a
      cases Option.some.inj c
      exact other ne ht
    | succ j => rw [z] at a; simp at a
theorem nilNot {H : Hp} {D : Addr} {as_ : List Addr} (e : upd H D (.lst []) D = some (.lst (as_.map V.ref))) : D ∉ as_ := fun hm => by
  rw [upd_same] at e
  have e0 : ([] : List V) = as_.map V.ref := HO.lst.inj (Option.some.inj e)
  rw [List.map_eq_nil_iff.mp e0.symm] at hm
  cases hm
section
variable {P : Program} {w : World} {K : PySem.W.Frag} {mg : Str → Option Value} {base : Heap}
set_option maxHeartbeats 1600000 in
theorem ok_p_unheld_marks (T : Txt K mg) : FnOk P w K mg base CX0 4 T.f_p_unheld_marks T.fd_p_unheld_marks ["moduli", "seen"] (sp_p_unheld_marks K) := by
  refine T.F_p_unheld_marks.ok sc_p_unheld_marks (fun vs H Q E h => ?_) (fun cdv A outer s H vs Q E hr h => ?_)
  · obtain ⟨a, b, ms, sl, U, rfl, _⟩ := h
    rfl
  · obtain ⟨a, b, ms, sl, U, rfl, ta, M, S, s20, u60, hU, q⟩ := h
    refine ⟨_, (pss_cons (ps_set (i := 2) sc_p_unheld_marks.nd rfl (by first | exact .inl rfl | exact .inr rfl) (pe_call (ok_p_held_marks T) (hr.mono (by decide)) (by rfl) T.g_p_held_marks T.F_p_held_marks.kp T.b_p_held_marks .nil pass0 (pa_cons (pv 0) (pa_cons (pv 1) pa_nil))))
      (pss_one (ps_ret (pe_lc (own := [("number", 3), ("does", 4)]) (g := gTup K 2 (gCons (gName 3) (gCons (gName 4) (gNil)))) rfl sc_p_unheld_marks.nd (pi_either (pv 1)) (blkOk_by (N := ["moduli", "seen", "held", "number", "does", "mark"]) (sc := defScope s_p_unheld_marks) (by decide +kernel)) (fun _ _ _ _ _ => (pg_tup (by rfl) (pgs_cons (pg_name (i := 3) sc_p_unheld_marks.nd rfl (by first | exact .inl rfl | exact .inr rfl)) (pgs_cons (pg_name (i := 4) sc_p_unheld_marks.nd rfl (by first | exact .inl rfl | exact .inr rfl)) pgs_nil)))) (fun _ _ _ _ _ => (pts_one (pt_not (pt_val (pv 4))))) (fun _ _ _ _ _ => (by exact (pe_lc (own := [("mark", 5)]) rfl sc_p_unheld_marks.nd (pi_listK (K := K) rfl (pe_call (ok_p_marks_of T) (hr.mono (by decide)) (by rfl) T.g_p_marks_of T.F_p_marks_of.kp T.b_p_marks_of .nil pass0 (pa_cons (pv 0) (pa_cons (pv 3) pa_nil)))) (blkOk_by (N := ["moduli", "seen", "held", "number", "does", "mark"]) (by kernel_rfl)) (fun _ _ _ _ _ => (pg_name (i := 5) sc_p_unheld_marks.nd rfl (by first | exact .inl rfl | exact .inr rfl))) (fun _ _ _ _ _ => (pts_one (pt_cmpR (r := rNotInD K) (op_notInD (un65 hr)) (pv 5) (pv 2) (by rfl)))) (fun _ _ _ _ _ => (pv 5))))))))), ?_⟩
    refine ⟨_, rfl, _, rfl, a, b, ms, sl, U, rfl, ta, M, S, u60, hU, fun D0 hl H1 s1 n1 T1 HI => ?_⟩
    have ta1 := Same.seqTT s1 ta
    obtain ⟨xs, hx, nx, fx⟩ := (S.stay s1).ex
    refine ⟨_, rfl, b, rfl, ?_⟩
    rcases hx with hb | hb
    · refine .inl ⟨⟨_, lstOf hb⟩, fun D nD => ?_⟩
      refine lc_list (K := K) (a := b) (xs := xs) (fun i Hi => LLAt K Hi D (unheldTo ms hl sl i) ∧ (∀ (as_ : List Addr), Hi D = some (.lst (as_.map V.ref)) → D ∉ as_) ∧ Same H1 Hi) ⟨LLAt.nil upd_same, fun as_ e => nilNot e, same_upd nD⟩ (fun i Hi _ ⟨_, _, si⟩ => lstOf (si _ _ hb)) ?_ ?_
      · rintro i x Hi hx' ⟨LD, nD', si⟩
        have il : i < sl.length := by
          have := (List.getElem?_eq_some_iff.mp hx').1
          omega
        have hsl : sl[i]? = some sl[i] := List.getElem?_eq_getElem il
        obtain ⟨t, rfl, qt⟩ := fx i x _ hx' hsl
        refine ⟨t, [_, _], rfl, Same.seqTT si qt, rfl, _, _, rfl, _, _, rfl, rfl, rfl, _, rfl, _, rfl, ?_⟩
        have us := unheldTo_succ (ms := ms) (hl := hl) hsl
        have ul : (unheldTo ms hl sl i).length ≤ 20 := by
          unfold unheldTo unheldL
          rw [List.length_map]
          have := List.length_filter_le (fun p : Int × Bool => !p.2) (sl.take i)
          rw [List.length_take] at this
          omega
        generalize sl[i] = p at us qt
        obtain ⟨x, d⟩ := p
        cases d with
        | true =>
          refine iteF ⟨?_, nD', si⟩
          rw [us, if_pos rfl, List.append_nil]
          exact LD
        | false =>
          refine iteT ⟨_, rfl, _, rfl, a, ms, x, rfl, Same.seqTT si ta1, M, fun D2 H5 s5 n5 T5 => ⟨D2, rfl, ?_⟩⟩
          obtain ⟨ts, e5, lt5, at5⟩ := T5.ex
          refine ⟨⟨_, lstOf e5⟩, fun G nG => ?_⟩
          refine lc_list (K := K) (a := D2) (xs := ts.map V.ref) (fun j Hj => TupsAt K Hj G (((marksL ms x).take j).filter fun z => decide (z ∉ hl)) ∧ Same H5 Hj) ⟨TupsAt.nil upd_same, same_upd nG⟩ (fun j Hj _ ⟨_, sj⟩ => lstOf (sj _ _ e5)) ?_ ?_
          · rintro j y Hj hj ⟨TG, sj⟩
            rw [List.getElem?_map] at hj
            obtain ⟨tz, htz, rfl⟩ := Option.map_eq_some_iff.mp hj
            have jl := (List.getElem?_eq_some_iff.mp htz).1
            obtain ⟨z, hz⟩ : ∃ z, (marksL ms x)[j]? = some z := ⟨_, List.getElem?_eq_getElem (by omega)⟩
            have sq := Same.seqTT sj (at5 j tz z htz hz)
            have T1j := ((T1.stay (si.trans s5)).stay sj)
            refine ⟨rfl, _, rfl, _, rfl, tD z, hl.map tD, dpTup sq, T1j.dp, (okD.tup (okInts _)).shaped (by decide), okTupsS _, _, rfl, ?_⟩
            show if (!((hl.map tD).any fun y => PyData.eqv y (tD z))) = true then _ else _
            rw [inTup, ← decide_not]
            refine ite2 (fun e => ?_) (fun e => ?_)
            · obtain ⟨us', eu, lu, Tn⟩ := TG.push sq
              refine ⟨_, rfl, _, eu, ?_, ?_, samePut sj nG⟩
              · have := List.length_filter_le (fun z => decide (z ∉ hl)) ((marksL ms x).take j)
                rw [List.length_take] at this
                have m4 := M.four
                have ml : (marksL ms x).length = ms.length := by
                  unfold marksL
                  rw [List.length_map, List.length_range]
                rw [List.length_map, lu]
                exact sizeLt (by omega)
              · rw [takeFilter hz, if_pos e]
                exact Tn
            · refine ⟨?_, sj⟩
              rw [takeFilter hz, if_neg e, List.append_nil]
              exact TG
          · rintro Hj ⟨TG, sj⟩
            rw [List.length_map, lt5, List.take_length] at TG
            have s5j := s5.trans sj
            have LDj := LD.stay s5j
            have GD : G ≠ D := fun z => by
              obtain ⟨as_, e, _⟩ := LD.ex
              have := s5 _ _ e
              rw [z, this] at nG
              cases nG
            obtain ⟨as_, ea, la, LN⟩ := LDj.push TG GD fun as' e hm => nD' as' (by
              obtain ⟨as2, e2, _⟩ := LD.ex
              have e3 := s5j _ _ e2
              rw [e] at e3
              have : as'.map V.ref = as2.map V.ref := HO.lst.inj (Option.some.inj e3)
              rw [e2, this]) hm
            refine ⟨_, ea, ?_, ?_, ?_, samePut (si.trans s5j) nD⟩
            · rw [List.length_map, la]
              exact sizeLt (by omega)
            · rw [us, if_neg Bool.false_ne_true]
              exact LN
            · intro as' e hm
              rw [upd_same] at e
              have e4 : as_.map V.ref ++ [V.ref G] = as'.map V.ref := HO.lst.inj (Option.some.inj e)
              have hm' : V.ref D ∈ as'.map V.ref := List.mem_map.mpr ⟨D, hm, rfl⟩
              rw [← e4] at hm'
              rcases List.mem_append.mp hm' with h | h
              · obtain ⟨c, hc, ec⟩ := List.mem_map.mp h
                cases ec
                obtain ⟨as2, e2, _⟩ := LD.ex
                have e3 := s5j _ _ e2
                rw [ea] at e3
                have : as_.map V.ref = as2.map V.ref := HO.lst.inj (Option.some.inj e3)
                rw [(List.map_inj_right (fun x y h => V.ref.inj h)).mp this] at hc
                exact nD' as2 e2 hc
              · rw [List.mem_singleton] at h
                cases h
                exact GD rfl
      · rintro Hi ⟨LD, nD', si⟩
        rw [nx] at LD
        refine q D hl Hi (s1.trans si) ?_ ?_ HI
        · exact s1.free (by exact nD)
        · have : unheldTo ms hl sl sl.length = unheldL ms hl sl := by
            unfold unheldTo
            rw [List.take_length]
          rw [← this]
          exact LD
    · refine .inr ⟨⟨_, hb⟩, fun D nD => ?_⟩
      refine lc_tup (K := K) (a := b) (xs := xs) (fun i Hi => LLAt K Hi D (unheldTo ms hl sl i) ∧ (∀ (as_ : List Addr), Hi D = some (.lst (as_.map V.ref)) → D ∉ as_) ∧ Same H1 Hi) ⟨LLAt.nil upd_same, fun as_ e => nilNot e, same_upd nD⟩ (fun i Hi _ ⟨_, _, si⟩ => Same.seqTT si hb) ?_ ?_
      · rintro i x Hi hx' ⟨LD, nD', si⟩
        have il : i < sl.length := by
          have := (List.getElem?_eq_some_iff.mp hx').1
          omega
        have hsl : sl[i]? = some sl[i] := List.getElem?_eq_getElem il
        obtain ⟨t, rfl, qt⟩ := fx i x _ hx' hsl
        refine ⟨t, [_, _], rfl, Same.seqTT si qt, rfl, _, _, rfl, _, _, rfl, rfl, rfl, _, rfl, _, rfl, ?_⟩
        have us := unheldTo_succ (ms := ms) (hl := hl) hsl
        have ul : (unheldTo ms hl sl i).length ≤ 20 := by
          unfold unheldTo unheldL
          rw [List.length_map]
          have := List.length_filter_le (fun p : Int × Bool => !p.2) (sl.take i)
          rw [List.length_take] at this
          omega
        generalize sl[i] = p at us qt
        obtain ⟨x, d⟩ := p
        cases d with
        | true =>
          refine iteF ⟨?_, nD', si⟩
          rw [us, if_pos rfl, List.append_nil]
          exact LD
        | false =>
          refine iteT ⟨_, rfl, _, rfl, a, ms, x, rfl, Same.seqTT si ta1, M, fun D2 H5 s5 n5 T5 => ⟨D2, rfl, ?_⟩⟩
          obtain ⟨ts, e5, lt5, at5⟩ := T5.ex
          refine ⟨⟨_, lstOf e5⟩, fun G nG => ?_⟩
          refine lc_list (K := K) (a := D2) (xs := ts.map V.ref) (fun j Hj => TupsAt K Hj G (((marksL ms x).take j).filter fun z => decide (z ∉ hl)) ∧ Same H5 Hj) ⟨TupsAt.nil upd_same, same_upd nG⟩ (fun j Hj _ ⟨_, sj⟩ => lstOf (sj _ _ e5)) ?_ ?_
          · rintro j y Hj hj ⟨TG, sj⟩
            rw [List.getElem?_map] at hj
            obtain ⟨tz, htz, rfl⟩ := Option.map_eq_some_iff.mp hj
            have jl := (List.getElem?_eq_some_iff.mp htz).1
            obtain ⟨z, hz⟩ : ∃ z, (marksL ms x)[j]? = some z := ⟨_, List.getElem?_eq_getElem (by omega)⟩
            have sq := Same.seqTT sj (at5 j tz z htz hz)
            have T1j := ((T1.stay (si.trans s5)).stay sj)
            refine ⟨rfl, _, rfl, _, rfl, tD z, hl.map tD, dpTup sq, T1j.dp, (okD.tup (okInts _)).shaped (by decide), okTupsS _, _, rfl, ?_⟩
            show if (!((hl.map tD).any fun y => PyData.eqv y (tD z))) = true then _ else _
            rw [inTup, ← decide_not]
            refine ite2 (fun e => ?_) (fun e => ?_)
            · obtain ⟨us', eu, lu, Tn⟩ := TG.push sq
              refine ⟨_, rfl, _, eu, ?_, ?_, samePut sj nG⟩
              · have := List.length_filter_le (fun z => decide (z ∉ hl)) ((marksL ms x).take j)
                rw [List.length_take] at this
                have m4 := M.four
                have ml : (marksL ms x).length = ms.length := by
                  unfold marksL
                  rw [List.length_map, List.length_range]
                rw [List.length_map, lu]
                exact sizeLt (by omega)
              · rw [takeFilter hz, if_pos e]
                exact Tn
            · refine ⟨?_, sj⟩
              rw [takeFilter hz, if_neg e, List.append_nil]
              exact TG
          · rintro Hj ⟨TG, sj⟩
            rw [List.length_map, lt5, List.take_length] at TG
            have s5j := s5.trans sj
            have LDj := LD.stay s5j
            have GD : G ≠ D := fun z => by
              obtain ⟨as_, e, _⟩ := LD.ex
              have := s5 _ _ e
              rw [z, this] at nG
              cases nG
            obtain ⟨as_, ea, la, LN⟩ := LDj.push TG GD fun as' e hm => nD' as' (by
              obtain ⟨as2, e2, _⟩ := LD.ex
              have e3 := s5j _ _ e2
              rw [e] at e3
              have : as'.map V.ref = as2.map V.ref := HO.lst.inj (Option.some.inj e3)
              rw [e2, this]) hm
            refine ⟨_, ea, ?_, ?_, ?_, samePut (si.trans s5j) nD⟩
            · rw [List.length_map, la]
              exact sizeLt (by omega)
            · rw [us, if_neg Bool.false_ne_true]
              exact LN
            · intro as' e hm
              rw [upd_same] at e
              have e4 : as_.map V.ref ++ [V.ref G] = as'.map V.ref := HO.lst.inj (Option.some.inj e)
              have hm' : V.ref D ∈ as'.map V.ref := List.mem_map.mpr ⟨D, hm, rfl⟩
              rw [← e4] at hm'
              rcases List.mem_append.mp hm' with h | h
              · obtain ⟨c, hc, ec⟩ := List.mem_map.mp h
                cases ec
                obtain ⟨as2, e2, _⟩ := LD.ex
                have e3 := s5j _ _ e2
                rw [ea] at e3
                have : as_.map V.ref = as2.map V.ref := HO.lst.inj (Option.some.inj e3)
                rw [(List.map_inj_right (fun x y h => V.ref.inj h)).mp this] at hc
                exact nD' as2 e2 hc
              · rw [List.mem_singleton] at h
                cases h
                exact GD rfl
      · rintro Hi ⟨LD, nD', si⟩
        rw [nx] at LD
        refine q D hl Hi (s1.trans si) ?_ ?_ HI
        · exact s1.free (by exact nD)
        · have : unheldTo ms hl sl sl.length = unheldL ms hl sl := by
            unfold unheldTo
            rw [List.take_length]
          rw [← this]
          exact LD
end

end R
namespace R
open PySem PySem.Spec PyProof.Rows L2
/-! ## rows, and all marks -/
/-- how many rows of T places hold all of hl and none of the others whole -/
def rowsW (T : Nat) (hl : List (List Int)) : List (List (List Int)) → Int
  | [] => 2 ^ (T - hl.length)
  | u :: us => rowsW T hl us - rowsW T (hl ++ u.filter fun z => decide (z ∉ hl)) us
structure RowsIn (U : List (List Int)) (hl : List (List Int)) (ul : List (List (List Int))) : Prop where
  nd : hl.Nodup
  sub : ∀ z ∈ hl, z ∈ U
  each : ∀ u ∈ ul, u.Nodup ∧ ∀ z ∈ u, z ∈ U
theorem RowsIn.len {U hl : List (List Int)} {ul : List (List (List Int))} (h : RowsIn U hl ul) : hl.length ≤ U.length := sub_len h.nd h.sub
theorem RowsIn.tail {U hl : List (List Int)} {u : List (List Int)} {ul : List (List (List Int))} (h : RowsIn U hl (u :: ul)) : RowsIn U hl ul := ⟨h.nd, h.sub, fun v hv => h.each v (List.mem_cons_of_mem _ hv)⟩
theorem RowsIn.more {U hl : List (List Int)} {u : List (List Int)} {ul : List (List (List Int))} (h : RowsIn U hl (u :: ul)) : RowsIn U (hl ++ u.filter fun z => decide (z ∉ hl)) ul := by
  obtain ⟨u1, u2⟩ := h.each u List.mem_cons_self
  refine ⟨?_, fun z hz => ?_, h.tail.each⟩
  · rw [List.nodup_append]
    refine ⟨h.nd, u1.filter _, fun a ha b hb e => ?_⟩
    subst e
    exact of_decide_eq_true (List.mem_filter.mp hb).2 ha
  · rcases List.mem_append.mp hz with hz | hz
    · exact h.sub z hz
    · exact u2 z (List.mem_filter.mp hz).1
def uniL (ms : List Int) : List (List Int) := (List.range ms.length).flatMap fun i => (List.range (ms.getD i 1).toNat).map fun r => [((i : Nat) : Int), ((r : Nat) : Int)]
def uniTo (ms : List Int) (n : Nat) : List (List Int) := (List.range n).flatMap fun i => (List.range (ms.getD i 1).toNat).map fun r => [((i : Nat) : Int), ((r : Nat) : Int)]
theorem uniTo_succ (ms : List Int) (n : Nat) : uniTo ms (n + 1) = uniTo ms n ++ (List.range (ms.getD n 1).toNat).map fun r => [((n : Nat) : Int), ((r : Nat) : Int)] := by
  unfold uniTo
  rw [List.range_succ, List.flatMap_append]
  simp
theorem uniTo_len {ms : List Int} (h : ∀ m ∈ ms, 1 ≤ m ∧ m ≤ 30) : ∀ n, n ≤ ms.length → ((uniTo ms n).length : Int) = (ms.take n).sum ∧ (uniTo ms n).length ≤ 30 * n
  | 0, _ => ⟨rfl, Nat.zero_le _⟩
  | n + 1, hn => by
    obtain ⟨h1, h2⟩ := uniTo_len h n (by omega)
    have hm : ms[n]? = some ms[n] := List.getElem?_eq_getElem (by omega)
    have mm := h _ (List.getElem_mem (show n < ms.length by omega))
    have e : ms.getD n 1 = ms[n] := by rw [List.getD_eq_getElem?_getD, hm]; rfl
    rw [uniTo_succ, List.length_append, List.length_map, List.length_range, takeSucc hm, List.sum_append, e]
    refine ⟨?_, by omega⟩
    rw [Int.natCast_add, h1]
    simp
    omega
theorem uni_len {ms : List Int} (M : MOk ms) : ((uniL ms).length : Int) = ms.sum ∧ (uniL ms).length ≤ 120 := by
  obtain ⟨h1, h2⟩ := uniTo_len M.mod ms.length (Nat.le_refl _)
  rw [List.take_length] at h1
  have := M.four
  exact ⟨h1, Nat.le_trans h2 (by omega)⟩
theorem mem_uni {ms : List Int} {z : List Int} : z ∈ uniL ms ↔ ∃ (i : Nat) (r : Nat), z = [(i : Int), (r : Int)] ∧ i < ms.length ∧ r < (ms.getD i 1).toNat := by
  unfold uniL
  rw [List.mem_flatMap]
  constructor
  · rintro ⟨i, hi, h⟩
    obtain ⟨r, hr, rfl⟩ := List.mem_map.mp h
    exact ⟨i, r, rfl, List.mem_range.mp hi, List.mem_range.mp hr⟩
  · rintro ⟨i, r, rfl, hi, hr⟩
    exact ⟨i, List.mem_range.mpr hi, List.mem_map.mpr ⟨r, List.mem_range.mpr hr, rfl⟩⟩
theorem marks_uni {ms : List Int} (M : MOk ms) {x : Int} {z : List Int} (h : z ∈ marksL ms x) : z ∈ uniL ms := by
  obtain ⟨i, r, rfl, il, er⟩ := marks_two z h
  have mi := M.mod (ms.getD i 1) (by rw [List.getD_eq_getElem?_getD, List.getElem?_eq_getElem il]; exact List.getElem_mem il)
  have r0 := Int.emod_nonneg x (show ms.getD i 1 ≠ 0 by omega)
  have r1 := Int.emod_lt_of_pos x (show (0 : Int) < ms.getD i 1 by omega)
  exact mem_uni.mpr ⟨i, r.toNat, by rw [Int.toNat_of_nonneg (by omega)], il, by omega⟩
theorem uni_nodup (ms : List Int) : (uniL ms).Nodup := by
  unfold uniL
  rw [List.nodup_iff_pairwise_ne, List.pairwise_flatMap]
  refine ⟨fun i _ => ?_, List.pairwise_lt_range.imp fun {i j} h x hx y hy e => ?_⟩
  · rw [List.pairwise_map]
    refine List.pairwise_lt_range.imp fun {a b} h e => ?_
    have := (List.cons.inj (List.cons.inj e).2).1
    omega
  · obtain ⟨a, _, rfl⟩ := List.mem_map.mp hx
    obtain ⟨b, _, rfl⟩ := List.mem_map.mp hy
    have := (List.cons.inj e).1
    omega
theorem rows_in {ms : List Int} (M : MOk ms) {sl : List (Int × Bool)} {hl hl2 : List (List Int)} (h : HeldIs ms sl hl) : RowsIn (uniL ms) hl (unheldL ms hl2 sl) := by
  refine ⟨h.nd, fun z hz => ?_, fun u hu => ?_⟩
  · obtain ⟨p, _, _, hz⟩ := (h.mem z).mp hz
    exact marks_uni M hz
  · obtain ⟨p, _, rfl⟩ := List.mem_map.mp hu
    exact ⟨(marks_nodup ms p.1).filter _, fun z hz => marks_uni M (List.mem_filter.mp hz).1⟩
theorem eqvLLnil (d : PyData) (ds : List PyData) : PyData.eqv (.list (d :: ds)) (.list []) = false := by
  rw [PyData.eqv, PyData.eqvAll]
theorem dpLL {K : PySem.W.Frag} {H : Hp} : ∀ {as_ : List Addr} {ul : List (List (List Int))}, as_.length = ul.length → (∀ (i : Nat) b u, as_[i]? = some b → ul[i]? = some u → TupsAt K H b u) → DpAll K H (as_.map V.ref) (ul.map fun u => .list (u.map tD))
  | [], [], _, _ => .nil
  | [], _ :: _, h, _ => by cases h
  | _ :: _, [], h, _ => by cases h
  | b :: as_, u :: ul, h, f => .cons (f 0 b u rfl rfl).dp (dpLL (Nat.succ.inj h) fun i c v x y => f (i + 1) c v x y)
theorem LLAt.dp {K : PySem.W.Frag} {H : Hp} {D : Addr} {ul : List (List (List Int))} (h : LLAt K H D ul) : Dp K H (.ref D) (.list (ul.map fun u => .list (u.map tD))) := by
  obtain ⟨as_, e, n, f⟩ := h.ex
  exact .lst (lstOf e) (dpLL n f)
theorem okLL (ul : List (List (List Int))) : okD 3 (.list (ul.map fun u => .list (u.map tD))) := okD.lst fun d hd => by
  obtain ⟨u, _, rfl⟩ := List.mem_map.mp hd
  exact okTups u

end R
namespace R
open PySem PySem.Spec PyProof.Rows L2
/-! ## set(xs) of a list of ints, sorted(set(xs)) -/
/-- how many members such a set may have -/
def Capped (w : World) (ns : List Int) (cap : Nat) : Prop := ∀ (i : Nat) (h : Heap) (a : Addr) (c : Nat), SetR w h a (fun j => decide (j ∈ ns.take i)) c → c ≤ cap
theorem nodup_le : ∀ {xs ys : List Int}, xs.Nodup → (∀ x ∈ xs, x ∈ ys) → xs.length ≤ ys.length
  | [], _, _, _ => Nat.zero_le _
  | x :: xs, ys, nd, sub => by
    obtain ⟨n1, n2⟩ := List.nodup_cons.mp nd
    have hx : x ∈ ys := sub x List.mem_cons_self
    have e := nodup_le (ys := ys.erase x) n2 fun z hz => (List.mem_erase_of_ne fun q => n1 (by rw [← q]; exact hz)).mpr (sub z (List.mem_cons_of_mem _ hz))
    rw [List.length_erase_of_mem hx] at e
    have := List.length_pos_of_mem hx
    show xs.length + 1 ≤ ys.length
    omega
theorem capBy {w : World} {ns ys : List Int} (sub : ∀ x ∈ ns, x ∈ ys) : Capped w ns ys.length := by
  rintro i h a c ⟨o, es, ep, t, _, _, _, _, nd, mem, _, _, cnt, _⟩
  have e := nodup_le nd fun x hx => sub x (List.mem_of_mem_take (of_decide_eq_true ((mem x).mpr hx)))
  rw [List.length_map, Array.length_toList, cnt] at e
  exact e
theorem capRange {w : World} {ns : List Int} {m : Nat} (h : ∀ x ∈ ns, 0 ≤ x ∧ x < (m : Int)) : Capped w ns m := by
  have e := capBy (w := w) (ns := ns) (ys := (List.range m).map fun i : Nat => (i : Int)) fun x hx => by
    obtain ⟨h1, h2⟩ := h x hx
    exact List.mem_map.mpr ⟨x.toNat, List.mem_range.mpr (by omega), by omega⟩
  rw [List.length_map, List.length_range] at e
  exact e
theorem capLen {w : World} (ns : List Int) : Capped w ns ns.length := capBy fun _ h => h
/-- the walk of set.update over ints -/
theorem upd_ints {P : Program} {w : World} {A : Around} {I : Addr} {fp wr : List Addr} {G : Array GenState → Array GenState → Prop} {n : Nat} {Pv : Nat → Value → Prop} {St : Nat → Shared → Prop} {R : Result → Shared → Prop}
    (W : WalksS P w A.in1 I fp wr G n Pv St) (S : Addr) (far : S ∉ fp) (ns : List Int) (hn : n = ns.length) (cap : Nat) (few : cap + 1 < scanBound) (cp : Capped w ns cap) (val : ∀ i v, Pv i v → ∃ k t, ns[i]? = some k ∧ v = .int k t) :
    ∀ (k i : Nat) (s : Shared), n - i = k → i ≤ n → St i s → (∃ c, SetR w s.heap S (fun j => decide (j ∈ ns.take i)) c) →
      (∀ s' c, Moved (S :: wr) G s s' → c ≤ cap → SetR w s'.heap S (fun j => decide (j ∈ ns)) c → R (.ok (.ret .none)) s') →
      codeAny (model P w) A (.builtin "set.update.loop" ⟨[.ref S, .ref I], []⟩) R s := by
  have farW : S ∉ wr := fun z => far (W.sub _ z)
  have more : ∀ b ∈ wr, b ∈ S :: wr := fun b z => List.mem_cons_of_mem _ z
  intro k
  induction k with
  | zero =>
    rintro i s ek le st ⟨c, hS⟩ hR
    obtain rfl : i = n := by omega
    refine codeAny_builtin F.entry_set_update_loop ?_
    rw [Around.under_plainId F.plain_set_update_loop _]
    show wpAny _ A.in1 (pyNext (.ref I) >>= _) _ _ s
    refine wpAny_bind (W.done s _ _ st fun s' mv => ?_)
    show wpAny _ A.in1 (ret Value.none) _ _ s'
    rw [List.take_of_length_le (by omega)] at hS
    have hS' := hS.at (h' := s'.heap) fun o e => mv.heap S o farW e
    exact wpAny_pure (hR s' c (mv.mono more) (cp ns.length _ S c (by rw [List.take_length]; exact hS')) hS')
  | succ k ih =>
    rintro i s ek le st ⟨c, hS⟩ hR
    have lt : i < n := by omega
    refine codeAny_builtin F.entry_set_update_loop ?_
    rw [Around.under_plainId F.plain_set_update_loop _]
    show wpAny _ A.in1 (pyNext (.ref I) >>= _) _ _ s
    refine wpAny_bind (W.item i s _ _ lt st fun v s' pv st' mv => ?_)
    obtain ⟨z, t, hz, rfl⟩ := val i v pv
    have hS1 : SetR w s'.heap S (fun j => decide (j ∈ ns.take i)) c := hS.at fun o e => mv.heap S o farW e
    have hc := cp i _ S c hS1
    show wpAny _ A.in1 (holding [Value.int z t] (setAdd S (.int z t)) >>= _) _ _ s'
    refine wpAny_bind (wpAny_holding ?_)
    unfold setAdd
    refine wpAny_holding (wpAny_bind ((intKind P w).pyHash (k := z) (intKind_is _ _ _ _) ?_))
    refine setR_add_hashed (s := { s' with toks := s'.toks + 1 }) hS1 (by omega) fun h' sb hS2 => ?_
    have hS3 := hS2.congr (S' := fun j => decide (j ∈ ns.take (i + 1))) fun j => by
      rw [List.take_add_one, hz]
      simp [List.mem_append]
    refine wpAny_pure ⟨plainId_quiet F.plain_set_update_loop _, ih (i + 1) _ (by omega) lt (W.frame _ s' _ _ st' (Nat.le_succ _) fun b hb o e => ?_) ⟨_, hS3⟩ fun s2 c2 mv2 hc2 hS4 => ?_⟩
    · rw [sb.2 b (fun q : b = S => far (by rw [← q]; exact hb))]; exact e
    · refine hR s2 c2 (Moved.trans W.gtrans ((mv.mono more).then_heap (Nat.le_succ _) fun b o hb e => ?_) mv2) hc2 hS4
      rw [sb.2 b (fun q : b = S => hb (by rw [q]; exact List.mem_cons_self))]; exact e
set_option maxHeartbeats 8000000 in
theorem call_setG {P : Program} {w : World} {A : Around} {E : Value → Shared → Prop} {s : Shared} {l : Addr} {items : Array Value} (ns : List Int) {Q : Value → Shared → Prop} (hh : A.handled = none) (hl : s.heap.IsList l items)
    (hit : IntsAre items.toList ns) (cap : Nat) (few : cap + 1 < scanBound) (cp : Capped w ns cap)
    (h : ∀ (h' : Heap) (tk c : Nat), c ≤ cap → SetR w h' s.heap.objs.size (fun j => decide (j ∈ ns)) c → (∀ b o, s.heap.get? b = some o → h'.get? b = some o) → Q (.ref s.heap.objs.size) { s with heap := h', toks := tk }) :
    wpAny (model P w) A (call (.type "set") [.ref l]) Q E s := by
  have size_ : items.size = ns.length := Array.length_toList.symm.trans (IntsAre.length hit)
  obtain ⟨c, tl, hmro⟩ := F.called_set.mro
  have m1 := F.called_set.made
  have m2 := F.called_set.sub
  refine wpAny_call (codeAny_of_tree (show wpAny _ _ (callAny (.type "set") _) _ _ _ from wpAny_pure ⟨Code.quiet_builtin _ (by decide +kernel), codeAny_builtin F.entry_type_call ?_⟩))
  rw [Around.under_plain (weight_type_call_type "set" [.ref l] []) rfl]
  have m3 := F.called_set.notType
  have m4 := F.called_set.canCreate
  have m5 := F.typeCall_set_1 (.ref l)
  repeat (any_goals (first | assumption | wp_step))
  refine codeAny_mono (code_set_led1 (.ref l) (E := E) (Q₁ := fun ob s1 => ob = .ref s.heap.objs.size ∧ s1 = { s with heap := s.heap.push (noSet w) }) ⟨rfl, rfl⟩) fun r s1 hr => ?_
  cases r with
  | error e => exact hr
  | ok fl =>
    cases fl with
    | ret ob =>
      obtain ⟨rfl, rfl⟩ := hr
      have gS : (s.heap.push (noSet w)).get? s.heap.objs.size = some (noSet w) := Heap.get?_push_size _ rfl
      have tS : Shared.TypeIs { s with heap := s.heap.push (noSet w) } (.ref s.heap.objs.size) "set" := ⟨_, gS, rfl⟩
      have m6 := F.called_set.init.lookup
      have m7 := F.called_set.init.bind (.ref s.heap.objs.size)
      repeat (any_goals (first | assumption | wp_step))
      refine codeAny_mono (codeAny_call_builtin (R := wants (fun r s2 => r = .none ∧ ∃ h' tk c, s2 = { s with heap := h', toks := tk } ∧ c ≤ cap ∧ SetR w h' s.heap.objs.size (fun j => decide (j ∈ ns)) c ∧ (∀ b o, s.heap.get? b = some o → h'.get? b = some o)) E)
        F.called_set.init.plain F.entry_set_init (check_set_init_1 tS ?_)) fun r2 s2 hr2 => ?_
      · obtain ⟨⟨oc, od, odt, osl⟩, gL, e1, nl, e2⟩ := hl
        dsimp only at e1 e2
        subst e1 e2
        have gL' : (s.heap.push (noSet w)).get? l = some { cls := .type "list", dict := od, data := .seq items nl, slots := osl } := Heap.get?_push_of_some _ gL
        have n1 := F.sub_list_set
        have n2 := F.sub_list_frozenset
        have n3 : (Value.type "list" == Value.type "dict") = false := by decide
        have lL : (s.heap.push (noSet w)).IsList l items := ⟨_, gL', rfl, nl, rfl⟩
        unfold Builtin.«set.__init__» noKeywords Builtin.Frozenset.updateFrom
        generalize iter_ : pyIter = PI
        wp_walk
        subst iter_
        refine wpAny_pyIter_list lL (wpAny_bind (wpAny_runValue ?_))
        have lt : l < s.heap.objs.size := Heap.lt_size gL
        have sz : (s.heap.push (noSet w)).objs.size = s.heap.objs.size + 1 := Heap.size_push ..
        have far : l ≠ (s.heap.push (noSet w)).objs.size := by rw [sz]; exact Nat.ne_of_lt (Nat.lt_succ_of_lt lt)
        have out : s.heap.objs.size ∉ [(s.heap.push (noSet w)).objs.size, l] := by
          rw [sz]
          simp only [List.mem_cons, List.not_mem_nil, or_false, not_or]
          exact ⟨Nat.ne_of_lt (Nat.lt_succ_self _), Nat.ne_of_gt lt⟩
        have val : ∀ (i : Nat) (v : Value), items[i]? = some v → ∃ k t, ns[i]? = some k ∧ v = .int k t := fun i v hv => by
          have hi : i < ns.length := size_ ▸ (Array.getElem?_eq_some_iff.mp hv).1
          obtain ⟨t, e⟩ := PyProof.Rows.IntsAre.int_at hit i v (by rw [Array.getElem?_toList]; exact hv)
          exact ⟨ns[i], t, List.getElem?_eq_getElem hi, by rw [e, List.getD_eq_getElem?_getD, List.getElem?_eq_getElem hi]; rfl⟩
        refine upd_ints ((Walks.list (A := A.in1.in1.in1) (by simp [hh]) _ l far items).toS) s.heap.objs.size out ns size_ cap few cp val (items.size - 0) 0 _ (by omega) (Nat.zero_le _)
          ⟨⟨_, Heap.get?_push_size _ rfl, rfl, rfl⟩, lL.push _⟩ ⟨0, setR_new_at (Heap.get?_push_of_some _ gS)⟩ fun s' c' mv hc' hS' => ?_
        obtain ⟨h', g2, d', tk', os'⟩ := s'
        obtain rfl : g2 = s.gens := mv.gens
        obtain rfl : d' = s.drawn := mv.drawn
        obtain rfl : os' = s.os := mv.os
        refine wpAny_pure (show wpAny _ _ (ret Value.none) _ _ _ from wpAny_pure ⟨rfl, h', tk', c', rfl, hc', hS', fun b o e => ?_⟩)
        have b0 : b < s.heap.objs.size := Heap.lt_size e
        refine mv.heap b o ?_ (Heap.get?_push_of_some _ (Heap.get?_push_of_some _ e))
        rw [sz]
        simp only [List.mem_cons, List.not_mem_nil, or_false, not_or]
        exact ⟨Nat.ne_of_lt b0, Nat.ne_of_lt (Nat.lt_succ_of_lt b0)⟩
      · cases r2 with
        | error e => exact hr2
        | ok fl2 =>
          cases fl2 with
          | ret r =>
            obtain ⟨rfl, h', tk, c', rfl, hc', hS', hk'⟩ := hr2
            repeat (any_goals (first | assumption | wp_step))
            exact h _ _ _ hc' hS' hk'
          | _ => exact hr2.elim
    | _ => exact hr.elim
/-- set(xs), xs a list of ints -/
def rSetG (K : PySem.W.Frag) (w : World) : List V → Hp → VK → Prop := fun vs H Q => ∃ (a : Addr) (ns : List Int) (cap : Nat), vs = [.ref a] ∧ SqL K H a (ns.map V.int) ∧ Capped w ns cap ∧ cap ≤ 4000 ∧
  ∀ p c, c ≤ cap → H p = none → Q (.ref p) (upd H p (SetO w p (fun j => decide (j ∈ ns)) c))
theorem cr_setG {X : Cx} (hc : X.calm = true) : CallR X (.type "set") (rSetG X.K X.w) := by
  intro pn st σ H vs us Q I r h
  obtain ⟨a, ns, cap, rfl, ha, cp, few, q⟩ := h
  rw [Vals.ref1 r]
  obtain ⟨its, rv, p, _⟩ := I.list ha
  have new : H st.heap.objs.size = none := I.hok.fresh (Nat.le_refl _)
  have b4 : (4001 : Nat) < scanBound := by decide
  refine call_setG ns (I.ok.hd hc) p.isList (by simpa using ints_of_vals rv) cap (by omega) cp fun h' tk c hc R k => ?_
  exact ⟨.ref _, _, I.laid (t' := tk) k (Nat.le_refl _) (setO_new R), rfl, q _ _ hc new⟩

end R
namespace R
open PySem PySem.Spec PyProof.Rows L2
/-! ## sorted of a set of ints, any number of them -/
theorem run_sortedS {P : Program} {w : World} {A : Around} {E : Value → Shared → Prop} {st : Shared} {a : Addr} {S : Int → Bool} {n : Nat} {Q : Value → Shared → Prop} (R : SetR w st.heap a S n) (nh : A.handled = none)
    (fin : ∀ s' p (out : Array Value) (c : Nat) (ns : List Int), (∀ b o, st.heap.get? b = some o → s'.heap.get? b = some o) → s'.gens = st.gens → s'.os = st.os → st.heap.objs.size ≤ p →
      s'.heap.get? p = some (seqObj "list" out c) → IntsAre out.toList ns → ns.Pairwise (· < ·) ∧ (∀ k, k ∈ ns ↔ S k = true) ∧ ns.length = n → Q (.ref p) s') :
    wpAny (model P w) A (call (.builtin "sorted") [.ref a]) Q E st := by
  obtain ⟨o, es, ep, t, ho, hex, hd, g, nd, mem, bound, fit, cnt, ris, led⟩ := R
  refine Calls.call_function_entry PyProof.Rows.kind_sorted PyProof.Rows.plain_sorted PyProof.Rows.entry_sorted (PyProof.Rows.args_sorted1 _) ?_
  unfold Builtin.«sorted»
  refine wpAny_bind (m := checkCount "sorted" 1 1 _) <| wpAny_pure ?_
  refine wpAny_bind (collect_set (A := A.in1) nh ⟨o, ho, hex.1, hd⟩ fit bound ris led fun s1 vs kp sz gn os pm => ?_)
  have lv : vs.length = n := by rw [pm.length_eq, List.length_map, Array.length_toList, cnt]
  have iv : IntsAre vs (vs.map Builtin.Re.reRawOf) := L2.ints_of vs fun v hv => by
    obtain ⟨e, he, ev⟩ := List.mem_map.mp (pm.mem_iff.mp hv)
    obtain ⟨k, tk, ek, _⟩ := g e he
    exact ⟨k, tk, ev ▸ ek⟩
  have kk : (vs.map Builtin.Re.reRawOf).Perm (es.toList.map keyOf) := by
    have q := pm.map Builtin.Re.reRawOf
    rw [List.map_map] at q
    exact q
  have small : vs.length ≤ sizeLine := by
    rw [lv, ← cnt]
    exact fits_of_scanBound bound
  refine wpAny_bind (wpAny_newList ?_ small)
  have at1 : (s1.heap.push (seqObj "list" vs.toArray 0)).get? s1.heap.objs.size = some (seqObj "list" vs.toArray 0) := Heap.get?_push_size _ rfl
  refine wpAny_bind (wpAny_holding (wpAny_call_entry PyProof.Rows.slot_list_sort ⟨_, at1, rfl⟩ PyProof.Rows.entry_list_sort
    (SrtO.list_sort_ord SrtO.swo_int at1 small (fun two => SrtO.ints_sortable iv two) fun out o1 o2 => ⟨_, rfl, ?_⟩) (PyProof.Rows.args_list_sort _)))
  obtain ⟨c, hc⟩ := PyProof.Rows.sortedHeap_at (vs := vs) (out := out.toArray) at1
  obtain ⟨k1, k2, k3⟩ := SrtO.ints_out iv o1 o2
  have pn := k2.trans kk
  refine wpAny_pure ⟨_, rfl, fin _ s1.heap.objs.size out.toArray c (out.map SrtO.iv) (fun b u e => ?_) gn os sz hc k1 ⟨L2.lt_of_le_nodup _ k3 (pn.nodup_iff.mpr nd), fun k => by rw [pn.mem_iff, ← mem k], ?_⟩⟩
  · have q := kp b u e
    have lt := Heap.lt_size q
    show (PyProof.Rows.sortedHeap (s1.heap.push (seqObj "list" vs.toArray 0)) s1.heap.objs.size vs out.toArray).get? b = some u
    rw [PyProof.Rows.sortedHeap_old (Nat.ne_of_lt lt) (by rw [size_push']; exact Nat.lt_succ_of_lt lt)]
    exact Heap.get?_push_of_some _ q
  · rw [pn.length_eq, List.length_map, Array.length_toList]; exact cnt
def rSortedSL (w : World) : List V → Hp → VK → Prop := fun vs H Q => ∃ (a : Addr) (S : Int → Bool) (n : Nat), vs = [V.ref a] ∧ H a = some (SetO w a S n) ∧ n ≤ 100000 ∧
  ∀ (ns : List Int) (p : Addr), ns.Pairwise (· < ·) → (∀ k : Int, k ∈ ns ↔ S k = true) → ns.length = n → H p = none → Q (.ref p) (upd H p (.lst (ns.map V.int)))
theorem cr_sortedSL {X : Cx} (hc : X.calm = true) : CallR X (.builtin "sorted") (rSortedSL X.w) := by
  intro pn st σ H vs us Q I r h
  obtain ⟨a, S, n, rfl, ha, few, q⟩ := h
  rw [Vals.ref1 r]
  refine run_sortedS (setO_get I ha) (I.ok.hd hc) fun s' p out c ns k g o hp hg hi ⟨h1, h2, h3⟩ => ?_
  have new : H p = none := I.hok.fresh hp
  have small : (ns.map V.int).length ≤ sizeLine := by rw [List.length_map, h3]; exact sizeOk few
  have J : Inv X pn σ (upd H p (.lst (ns.map V.int))) { st with heap := s'.heap, gens := s'.gens, drawn := s'.drawn, toks := s'.toks } :=
    I.call (ch := []) (Un.laid k hp new) (I.hok.laid k hp ⟨small, out.toList, c, vals_of_ints hi, hg⟩) (by rw [g]; exact I.bare) fun _ z => nomatch z
  have e : s' = { st with heap := s'.heap, gens := s'.gens, drawn := s'.drawn, toks := s'.toks } := by
    cases s'
    cases st
    cases o
    rfl
  rw [e]
  exact ⟨.ref p, _, J, rfl, q ns p h1 h2 h3 new⟩

end R
namespace R
open PySem PySem.Spec PyProof.Rows L2
/-! ## rests_at -/
theorem scI_list {w : World} {K : PySem.W.Frag} {a : Addr} {xs : List V} {g : TG} {tt : TT} {te : TE} {vs : List Nat} {σ : L2.St} {H1 : Hp} {D : Addr} {Qd : Hp → Prop} (Pv : Nat → Hp → Prop) (h0 : Pv 0 (upd H1 D (SetO w D (fun _ => false) 0)))
    (hl : ∀ i H, i ≤ xs.length → Pv i H → SqL K H a xs)
    (hs : ∀ i x H, xs[i]? = some x → Pv i H → g x (wipe σ vs) H fun σ2 H2 => wipe σ2 vs = wipe σ vs ∧ tt σ2 H2 fun b H3 => if b = true then te σ2 H3 fun y H4 =>
      ∃ (c : Int) (S : Int → Bool) (n : Nat), y = .int c ∧ H4 D = some (SetO w D S n) ∧ n + 1 < scanBound ∧ Pv (i + 1) (upd H4 D (SetO w D (fun j => S j || decide (j = c)) (if S c = true then n else n + 1))) else Pv (i + 1) H3)
    (hd : ∀ H, Pv xs.length H → Qd H) : ∃ W : Nat → Nat → Hp → Prop, (∃ m, W 0 m (upd H1 D (SetO w D (fun _ => false) 0))) ∧ ∀ i m H, W i m H → ((Itl K a).stop i H ∧ Qd H) ∨
      ((Itl K a).go i H ∧ ∃ Nx : Hp → Prop, (∀ H', Nx H' → ∃ m', m' < m ∧ W (i + 1) m' H') ∧ ∀ x H', (Itl K a).yld i H x H' → g x (wipe σ vs) H' fun σ2 H2 => wipe σ2 vs = wipe σ vs ∧ tt σ2 H2 fun b H3 =>
        if b = true then te σ2 H3 fun y H4 => ∃ (c : Int) (S : Int → Bool) (n : Nat), y = .int c ∧ H4 D = some (SetO w D S n) ∧ n + 1 < scanBound ∧ Nx (upd H4 D (SetO w D (fun j => S j || decide (j = c)) (if S c = true then n else n + 1))) else Nx H3) := by
  refine ⟨fun i m H => m = xs.length - i ∧ i ≤ xs.length ∧ Pv i H, ⟨_, rfl, Nat.zero_le _, h0⟩, ?_⟩
  rintro i _ H ⟨rfl, hi, p⟩
  by_cases lt : i < xs.length
  · refine .inr ⟨⟨xs, xs[i], hl i H hi p, by simp [lt]⟩, Pv (i + 1), fun H' p' => ⟨xs.length - (i + 1), by omega, rfl, lt, p'⟩, fun x H' ⟨e, y⟩ => ?_⟩
    subst e
    exact hs i x _ (y xs (hl i _ hi p)) p
  · obtain rfl : i = xs.length := by omega
    exact .inl ⟨⟨xs, hl _ H hi p, Nat.le_refl _⟩, hd H p⟩
/-- the rests at a place, of some marks -/
def rAt (hl : List (List Int)) (i : Int) : List Int := (hl.filter fun z => decide (z.getD 0 0 = i)).map fun z => z.getD 1 0
def sp_p_rests_at (K : PySem.W.Frag) : Sp := fun vs H Q _ => ∃ (a : Addr) (hl : List (List Int)) (i : Int), vs = [.ref a, .int i] ∧ TupsAt K H a hl ∧ (∀ z ∈ hl, z.length = 2) ∧ hl.length ≤ 100 ∧
  ∀ (D : Addr) (rl : List Int) (H' : Hp), Same H H' → H D = none → H' D = some (.lst (rl.map V.int)) → rl.Pairwise (· < ·) → (∀ r, r ∈ rl ↔ r ∈ rAt hl i) → Q (.ref D) H'
section
variable {P : Program} {w : World} {K : PySem.W.Frag} {mg : Str → Option Value} {base : Heap}
theorem ok_p_rests_at (T : Txt K mg) : FnOk P w K mg base CX0 2 T.f_p_rests_at T.fd_p_rests_at ["marks", "index"] (sp_p_rests_at K) := by
  refine T.F_p_rests_at.ok sc_p_rests_at (fun vs H Q E h => ?_) (fun cdv A outer s H vs Q E hr h => ?_)
  · obtain ⟨a, hl, i, rfl, _⟩ := h
    rfl
  · obtain ⟨a, hl, idx, rfl, ta, two, few, q⟩ := h
    refine ⟨_, (pss_one (ps_ret (pe_callB (cr_sortedSL rfl) (by rfl) T.z_sorted (by decide +kernel) (pa_cons (pe_scI (own := [("place", 2), ("rest", 3)]) (g := gTup K 2 (gCons (gName 2) (gCons (gName 3) (gNil)))) rfl sc_p_rests_at.nd (pi_list (pv 0)) (blkOk_by (N := ["marks", "index", "place", "rest"]) (sc := defScope s_p_rests_at) (by decide +kernel)) (fun _ _ _ _ _ => (pg_tup (by rfl) (pgs_cons (pg_name (i := 2) sc_p_rests_at.nd rfl (by first | exact .inl rfl | exact .inr rfl)) (pgs_cons (pg_name (i := 3) sc_p_rests_at.nd rfl (by first | exact .inl rfl | exact .inr rfl)) pgs_nil)))) (fun _ _ _ _ _ => (pts_one (pt_cmpR op_eq (pv 2) (pv 1) (nomark _)))) (fun _ _ _ _ _ => (pv 3))) pa_nil)))), ?_⟩
    obtain ⟨ts, ea, la, fa⟩ := ta.ex
    refine ⟨_, rfl, a, rfl, ⟨_, lstOf ea⟩, fun D nD => ?_⟩
    refine scI_list (K := K) (a := a) (xs := ts.map V.ref) (fun i Hi => ∃ n, n ≤ i ∧ Hi D = some (SetO w D (fun j => decide (j ∈ rAt (hl.take i) idx)) n) ∧ Same H Hi)
      ⟨0, Nat.le_refl _, by rw [upd_same]; exact congrArg some (congrArg (SetO w D · 0) (funext fun j => (decide_eq_false (by unfold rAt; simp)).symm)), same_upd nD⟩ (fun i Hi _ ⟨_, _, _, si⟩ => lstOf (si _ _ ea)) ?_ ?_
    · rintro i y Hi hi ⟨n, ni, ei, si⟩
      rw [List.getElem?_map] at hi
      obtain ⟨t, ht, rfl⟩ := Option.map_eq_some_iff.mp hi
      have il := (List.getElem?_eq_some_iff.mp ht).1
      obtain ⟨z, hz⟩ : ∃ z, hl[i]? = some z := ⟨_, List.getElem?_eq_getElem (by omega)⟩
      have sq := Same.seqTT si (fa i t z ht hz)
      have l2 := two z (List.mem_of_getElem? hz)
      obtain ⟨x0, x1, rfl⟩ : ∃ x0 x1, z = [x0, x1] := by
        match z, l2 with
        | [x0, x1], _ => exact ⟨x0, x1, rfl⟩
      refine ⟨t, [_, _], rfl, sq, rfl, _, _, rfl, _, _, rfl, rfl, rfl, _, rfl, _, rfl, rfl, _, rfl, ite2 (fun e => ?_) (fun e => ?_)⟩
      · have e' : x0 = idx := V.int.inj (of_decide_eq_true e)
        refine ⟨_, rfl, x1, _, n, rfl, ei, Nat.lt_of_le_of_lt (show n + 1 ≤ 2001 by omega) (by decide), (if decide (x1 ∈ rAt (hl.take i) idx) = true then n else n + 1), ?_, ?_, samePut si nD⟩
        · split <;> omega
        · rw [upd_same, takeSucc hz]
          refine congrArg some (congrArg (SetO w D · _) (funext fun j => ?_))
          unfold rAt
          rw [← Bool.decide_or, List.filter_append, List.map_append, show List.filter (fun z : List Int => decide (z.getD 0 0 = idx)) [[x0, x1]] = [[x0, x1]] from List.filter_cons_of_pos (decide_eq_true e')]
          exact decide_eq_decide.mpr (by rw [List.mem_append]; exact or_congr_right ⟨fun h => List.mem_singleton.mpr h, fun h => List.mem_singleton.mp h⟩)
      · have e' : ¬ x0 = idx := fun h => e (decide_eq_true (congrArg V.int h))
        refine ⟨n, by omega, ?_, si⟩
        rw [ei, takeSucc hz]
        refine congrArg some (congrArg (SetO w D · _) (funext fun j => ?_))
        unfold rAt
        rw [List.filter_append, show List.filter (fun z : List Int => decide (z.getD 0 0 = idx)) [[x0, x1]] = [] from List.filter_cons_of_neg (by rw [decide_eq_true_iff]; exact e'), List.append_nil]
    · rintro H1 ⟨n, nn, e1, s1⟩
      rw [List.length_map, la, List.take_length] at e1
      rw [List.length_map] at nn
      refine ⟨D, _, n, rfl, e1, by omega, fun ns p up mem len np => ?_⟩
      have sp := same_upd np (o := .lst (ns.map V.int))
      exact q p ns _ (s1.trans sp) (s1.free np) upd_same up fun r => ⟨fun h => of_decide_eq_true ((mem r).mp h), fun h => (mem r).mpr (decide_eq_true h)⟩
end

end R
namespace R
open PySem PySem.Spec PyProof.Rows L2
/-! ## sure_rests -/
/-- rows of two lists of ints -/
structure PLAt (H : Hp) (xs : List V) (rows : List (List Int × List Int)) : Prop where
  len : xs.length = rows.length
  at_ : ∀ (i : Nat) x p, xs[i]? = some x → rows[i]? = some p → ∃ t d e, x = .ref t ∧ H t = some (.tup [.ref d, .ref e]) ∧ H d = some (.lst (p.1.map V.int)) ∧ H e = some (.lst (p.2.map V.int))
def rowD (p : List Int × List Int) : PyData := .tuple [.list (p.1.map PyData.int), .list (p.2.map PyData.int)]
theorem PLAt.same {H H' : Hp} {xs : List V} {rows : List (List Int × List Int)} (h : PLAt H xs rows) (s : Same H H') : PLAt H' xs rows :=
  ⟨h.len, fun i x p a b => let ⟨t, d, e, h1, h2, h3, h4⟩ := h.at_ i x p a b; ⟨t, d, e, h1, s _ _ h2, s _ _ h3, s _ _ h4⟩⟩
theorem PLAt.add {H : Hp} {xs : List V} {rows : List (List Int × List Int)} {t d e : Addr} {p : List Int × List Int} (h : PLAt H xs rows) (h2 : H t = some (.tup [.ref d, .ref e])) (h3 : H d = some (.lst (p.1.map V.int))) (h4 : H e = some (.lst (p.2.map V.int))) : PLAt H (xs ++ [.ref t]) (rows ++ [p]) := by
  refine ⟨by rw [List.length_append, List.length_append, h.len]; rfl, fun i x q a b => ?_⟩
  by_cases l : i < xs.length
  · rw [List.getElem?_append_left l] at a
    rw [List.getElem?_append_left (by rw [← h.len]; exact l)] at b
    exact h.at_ i x q a b
  · rw [List.getElem?_append_right (by omega)] at a
    rw [List.getElem?_append_right (by rw [← h.len]; omega), ← h.len] at b
    cases z : i - xs.length with
    | zero =>
      rw [z] at a b
      cases Option.some.inj a
      cases Option.some.inj b
      exact ⟨t, d, e, rfl, h2, h3, h4⟩
    | succ j => rw [z] at a; simp at a
theorem PLAt.dp {K : PySem.W.Frag} {H : Hp} : ∀ {xs : List V} {rows : List (List Int × List Int)}, PLAt H xs rows → DpAll K H xs (rows.map rowD)
  | [], [], _ => .nil
  | [], p :: ps, h => nomatch h.len
  | x :: xs, [], h => nomatch h.len
  | x :: xs, p :: ps, h => by
    obtain ⟨t, d, e, rfl, h2, h3, h4⟩ := h.at_ 0 x p rfl rfl
    exact .cons (.tup (tupOf h2) (.cons (dpLst (lstOf h3)) (.cons (dpLst (lstOf h4)) .nil))) (PLAt.dp ⟨Nat.succ.inj h.len, fun i y n a b => h.at_ (i + 1) y n a b⟩)
theorem PLAt.off {H : Hp} {Z : Addr} {xs : List V} {rows : List (List Int × List Int)} (h : PLAt (upd H Z (.tup [])) xs rows) : PLAt H xs rows := by
  have no : ∀ {c : Addr} {o : HO}, upd H Z (.tup []) c = some o → o ≠ .tup [] → H c = some o := fun {c o} e ne => by
    by_cases z : c = Z
    · subst z
      rw [upd_same] at e
      exact absurd (Option.some.inj e).symm ne
    · rw [upd_ne z] at e
      exact e
  refine ⟨h.len, fun i x p a b => ?_⟩
  obtain ⟨t, d, e, h1, h2, h3, h4⟩ := h.at_ i x p a b
  exact ⟨t, d, e, h1, no h2 (by intro z; cases z), no h3 (by intro z; cases z), no h4 (by intro z; cases z)⟩
theorem sameUpd {H H' : Hp} {Z : Addr} {o : HO} (s : Same H H') : Same (upd H Z o) (upd H' Z o) := fun b u e => by
  by_cases z : b = Z
  · subst z
    rw [upd_same] at e ⊢
    exact e
  · rw [upd_ne z] at e ⊢
    exact s b u e
theorem okRows (rows : List (List Int × List Int)) : okD 3 (.list (rows.map rowD)) := okD.lst fun d hd => by
  obtain ⟨p, _, rfl⟩ := List.mem_map.mp hd
  refine okD.tup fun d hd => ?_
  rcases List.mem_cons.mp hd with rfl | hd
  · exact okD.lst (okInts _)
  · rw [List.mem_singleton.mp hd]
    exact okD.lst (okInts _)
/-- what is sure at a place -/
structure RowOk (hl : List (List Int)) (ul : List (List (List Int))) (i : Nat) (p : List Int × List Int) : Prop where
  up1 : p.1.Pairwise (· < ·)
  mem1 : ∀ r, r ∈ p.1 ↔ [(i : Int), r] ∈ hl
  up2 : p.2.Pairwise (· < ·)
  mem2 : ∀ r, r ∈ p.2 ↔ [[(i : Int), r]] ∈ ul
def sp_p_sure_rests (K : PySem.W.Frag) (B : Addr) : Sp := fun vs H Q E => ∃ (a b : Addr) (ms : List Int) (sl : List (Int × Bool)) (U : List (List Int)), vs = [.ref a, .ref b] ∧ SqT K H a (ms.map V.int) ∧ MOk ms ∧ SeenAt K H b sl ∧ SOk sl ∧ U.length ≤ 60 ∧ (∀ p ∈ sl, p.2 = true → ∀ z ∈ marksL ms p.1, z ∈ U) ∧
  ∀ hl hl2, HeldIs ms sl hl → HeldIs ms sl hl2 → (([] ∈ unheldL ms hl2 sl ∧ ∀ H', Same H H' → E (.ref B) none H') ∨
    ([] ∉ unheldL ms hl2 sl ∧ ∀ (D : Addr) (xs : List V) (rows : List (List Int × List Int)) (H' : Hp), Same H H' → H' D = some (.lst xs) → PLAt H' xs rows → rows.length = ms.length → (∀ i p, rows[i]? = some p → RowOk hl (unheldL ms hl2 sl) i p) → Q (.ref D) H'))
theorem inNil (ul : List (List (List Int))) : ((ul.map fun u => PyData.list (u.map tD)).any fun y => PyData.eqv y (.list [])) = decide ([] ∈ ul) := by
  induction ul with
  | nil => simp
  | cons u ul ih =>
    rw [List.map_cons, List.any_cons, ih]
    cases u with
    | nil =>
      rw [show PyData.eqv (.list (([] : List (List Int)).map tD)) (.list []) = true from by rw [List.map_nil, PyData.eqv, PyData.eqvAll]]
      simp
    | cons z zs =>
      rw [show PyData.eqv (.list ((z :: zs).map tD)) (.list []) = false from eqvLLnil _ _]
      simp
def barredL (ul : List (List (List Int))) : List (List Int) := (ul.filter fun u => decide (u.length = 1)).map fun u => u.getD 0 []
theorem barred_iff {ul : List (List (List Int))} {z : List Int} : z ∈ barredL ul ↔ [z] ∈ ul := by
  unfold barredL
  rw [List.mem_map]
  constructor
  · rintro ⟨u, hu, rfl⟩
    obtain ⟨h1, h2⟩ := List.mem_filter.mp hu
    have h2' := of_decide_eq_true h2
    match u, h2' with
    | [y], _ => exact h1
  · intro h
    exact ⟨[z], List.mem_filter.mpr ⟨h, rfl⟩, rfl⟩
theorem rAt_iff {hl : List (List Int)} (two : ∀ z ∈ hl, z.length = 2) {i r : Int} : r ∈ rAt hl i ↔ [i, r] ∈ hl := by
  unfold rAt
  rw [List.mem_map]
  constructor
  · rintro ⟨z, hz, rfl⟩
    obtain ⟨h1, h2⟩ := List.mem_filter.mp hz
    have l2 := two z h1
    match z, l2, h1, of_decide_eq_true h2 with
    | [x0, x1], _, h1, h2 =>
      have e : x0 = i := h2
      subst e
      exact h1
  · intro h
    exact ⟨[i, r], List.mem_filter.mpr ⟨h, decide_eq_true rfl⟩, rfl⟩
section
variable {P : Program} {w : World} {K : PySem.W.Frag} {mg : Str → Option Value} {base : Heap}
set_option maxHeartbeats 1600000 in
theorem ok_p_sure_rests (T : Txt K mg) : FnOk P w K mg base (L2.CX P w) 7 T.f_p_sure_rests T.fd_p_sure_rests ["moduli", "seen"] (sp_p_sure_rests K T.C_Nothing) := by
  refine T.F_p_sure_rests.okX sc_p_sure_rests (fun vs H Q E h => ?_) (fun cdv A outer s H vs Q E hr h => ?_)
  · obtain ⟨a, b, ms, sl, U, rfl, _⟩ := h
    rfl
  · obtain ⟨a, b, ms, sl, U, rfl, ta, M, S, O, u60, hU, h⟩ := h
    refine ⟨_, (pss_cons (ps_expr (pe_call (ok_p_check_moduli T) (hr.mono (by decide)) (by rfl) T.g_p_check_moduli T.F_p_check_moduli.kp T.b_p_check_moduli .nil pass0 (pa_cons (pv 0) pa_nil)))
      (pss_cons (ps_expr (pe_call (ok_p_check_seen T) (hr.mono (by decide)) (by rfl) T.g_p_check_seen T.F_p_check_seen.kp T.b_p_check_seen .nil pass0 (pa_cons (pv 1) pa_nil)))
      (pss_cons (ps_set (i := 2) sc_p_sure_rests.nd rfl (by first | exact .inl rfl | exact .inr rfl) (pe_call (ok_p_held_marks T) (hr.mono (by decide)) (by rfl) T.g_p_held_marks T.F_p_held_marks.kp T.b_p_held_marks .nil pass0 (pa_cons (pv 0) (pa_cons (pv 1) pa_nil))))
      (pss_cons (ps_set (i := 3) sc_p_sure_rests.nd rfl (by first | exact .inl rfl | exact .inr rfl) (pe_call (ok_p_unheld_marks T) (hr.mono (by decide)) (by rfl) T.g_p_unheld_marks T.F_p_unheld_marks.kp T.b_p_unheld_marks .nil pass0 (pa_cons (pv 0) (pa_cons (pv 1) pa_nil))))
      (pss_cons (ps_if (pt_cmpR (op_inD (un65 hr)) (pe_lst pa_nil) (pv 3) (by rfl)) (pss_one (ps_raise rfl (takes_of rfl rfl rfl rfl) (pmk_own PySem.F.excBase_ValueError T.x_Nothing T.g_Nothing T.k_Nothing (raises_own T.b_Nothing T.t_Nothing) (by rfl)))) pss_nil)
      (pss_cons (ps_set (i := 4) sc_p_sure_rests.nd rfl (by first | exact .inl rfl | exact .inr rfl) (pe_lc (own := [("marks", 5)]) rfl sc_p_sure_rests.nd (pi_list (pv 3)) (blkOk_by (N := ["moduli", "seen", "held", "unheld", "barred", "marks", "index"]) (sc := defScope s_p_sure_rests) (by decide +kernel)) (fun _ _ _ _ _ => (pg_name (i := 5) sc_p_sure_rests.nd rfl (by first | exact .inl rfl | exact .inr rfl))) (fun _ _ _ _ _ => (pts_one (pt_cmpR op_eq (pe_callB (r := rLenK K) call_len_seq (by rfl) T.z_len (by decide +kernel) (pa_cons (pv 5) pa_nil)) pe_int (nomark _)))) (fun _ _ _ _ _ => (pe_ix (r := rIxL K) ix_list (pv 5) pe_int (fun _ _ => rfl)))))
      (pss_one (ps_ret (pe_lc (own := [("index", 6)]) rfl sc_p_sure_rests.nd (pi_range1 (by rfl) T.z_range (pa_cons (pe_callB (r := rLenK K) call_len_seq (by rfl) T.z_len (by decide +kernel) (pa_cons (pv 0) pa_nil)) pa_nil)) (blkOk_by (N := ["moduli", "seen", "held", "unheld", "barred", "marks", "index"]) (sc := defScope s_p_sure_rests) (by decide +kernel)) (fun _ _ _ _ _ => (pg_name (i := 6) sc_p_sure_rests.nd rfl (by first | exact .inl rfl | exact .inr rfl))) (fun _ _ _ _ _ => pts_nil) (fun _ _ _ _ _ => (pe_tup (pa_cons (pe_call (ok_p_rests_at T) (hr.mono (by decide)) (by rfl) T.g_p_rests_at T.F_p_rests_at.kp T.b_p_rests_at .nil pass0 (pa_cons (pv 2) (pa_cons (pv 6) pa_nil))) (pa_cons (pe_call (ok_p_rests_at T) (hr.mono (by decide)) (by rfl) T.g_p_rests_at T.F_p_rests_at.kp T.b_p_rests_at .nil pass0 (pa_cons (pv 4) (pa_cons (pv 6) pa_nil))) pa_nil))))))))))))), ?_⟩
    refine ⟨_, rfl, a, ms, rfl, ta, M, fun H1 s1 => ?_⟩
    refine ⟨_, rfl, b, sl, rfl, S.stay s1, O, fun H2 s2 => ?_⟩
    have s12 := s1.trans s2
    refine ⟨_, rfl, _, rfl, a, b, ms, sl, U, rfl, Same.seqTT s12 ta, M, S.stay s12, u60, hU, fun D hl H3 s3 n3 T3 h3 => ?_⟩
    have s13 := s12.trans s3
    refine ⟨_, rfl, _, rfl, a, b, ms, sl, U, rfl, Same.seqTT s13 ta, M, S.stay s13, O.few, u60, hU, fun D2 hl2 H4 s4 n4 L4 h4 => ?_⟩
    have s14 := s13.trans s4
    refine ⟨Nat.zero_le _, fun e0 ne0 => ?_⟩
    have s5 := same_upd ne0 (o := .lst [])
    have L5 := L4.stay s5
    have T5 := (T3.stay s4).stay s5
    have s15 := s14.trans s5
    refine ⟨_, rfl, .list [], _, .lst (lstOf upd_same) .nil, L5.dp, by decide, (okLL _).shaped (by decide), _, rfl, ?_⟩
    rw [inNil]
    generalize upd H4 e0 (.lst []) = H5 at s5 L5 T5 s15 ⊢
    have ulen : (unheldL ms hl2 sl).length ≤ 20 := by
      unfold unheldL
      rw [List.length_map]
      exact Nat.le_trans (List.length_filter_le _ _) O.few
    have hlen : hl.length ≤ 60 := Nat.le_trans (sub_len h3.nd fun z hz => by
      obtain ⟨p, hp, p2, hz⟩ := (h3.mem z).mp hz
      exact hU p hp p2 z hz) u60
    have htwo : ∀ z ∈ hl, z.length = 2 := fun z hz => by
      obtain ⟨p, _, _, hz⟩ := (h3.mem z).mp hz
      obtain ⟨_, _, rfl, _⟩ := marks_two z hz
      rfl
    have utwo : ∀ u ∈ unheldL ms hl2 sl, ∀ z ∈ u, z.length = 2 := fun u hu z hz => by
      obtain ⟨p, _, rfl⟩ := List.mem_map.mp hu
      obtain ⟨_, _, rfl, _⟩ := marks_two z (List.mem_filter.mp hz).1
      rfl
    rcases h hl hl2 h3 h4 with ⟨c, q⟩ | ⟨c, q⟩
    · rw [decide_eq_true c]
      refine iteT (q _ s15)
    · rw [decide_eq_false c]
      generalize unheldL ms hl2 sl = ul at q L5 c ulen utwo ⊢
      obtain ⟨as_, ea, la, fa⟩ := L5.ex
      refine iteF ⟨_, rfl, D2, rfl, ⟨_, lstOf ea⟩, fun G nG => ?_⟩
      refine lc_list (K := K) (a := D2) (xs := as_.map V.ref) (fun i Hi => TupsAt K Hi G (barredL (ul.take i)) ∧ Same H5 Hi) ⟨TupsAt.nil upd_same, same_upd nG⟩ (fun i Hi _ ⟨_, si⟩ => lstOf (si _ _ ea)) ?_ ?_
      · rintro i y Hi hi ⟨TG, si⟩
        rw [List.getElem?_map] at hi
        obtain ⟨tz, htz, rfl⟩ := Option.map_eq_some_iff.mp hi
        have il := (List.getElem?_eq_some_iff.mp htz).1
        obtain ⟨z, hz⟩ : ∃ z, ul[i]? = some z := ⟨_, List.getElem?_eq_getElem (by omega)⟩
        have tu := (fa i tz z htz hz).stay si
        obtain ⟨us, eu, lu, fu⟩ := tu.ex
        have bs : barredL (ul.take (i + 1)) = barredL (ul.take i) ++ (if decide (z.length = 1) = true then [z.getD 0 []] else []) := by
          unfold barredL
          rw [takeFilter hz, List.map_append]
          split <;> rfl
        refine ⟨rfl, _, rfl, tz, us.map V.ref, rfl, .inl (lstOf eu), ?_⟩
        refine ⟨rfl, _, rfl, ite2 (fun e => ?_) (fun e => ?_)⟩
        · rw [List.length_map, lu] at e
          have e1 : z.length = 1 := by
            have := V.int.inj (of_decide_eq_true e)
            omega
          rw [bs, if_pos (decide_eq_true e1)]
          obtain ⟨y, rfl⟩ : ∃ y, z = [y] := by
            match z, e1 with
            | [y], _ => exact ⟨y, rfl⟩
          obtain ⟨t0, rfl⟩ : ∃ t0, us = [t0] := by
            match us, lu with
            | [t0], _ => exact ⟨t0, rfl⟩
          obtain ⟨ts, et, lt, Tn⟩ := TG.push (fu 0 t0 y rfl rfl)
          refine ⟨_, rfl, tz, _, _, _, rfl, rfl, lstOf eu, atI_nat (j := 0) rfl, _, et, ?_, Tn, samePut si nG⟩
          have : (barredL (ul.take i)).length ≤ i := by
            unfold barredL
            rw [List.length_map]
            exact Nat.le_trans (List.length_filter_le _ _) (by rw [List.length_take]; omega)
          rw [List.length_map, lt]
          exact sizeLt (by omega)
        · rw [List.length_map, lu] at e
          have e1 : ¬ z.length = 1 := fun h => e (decide_eq_true (congrArg V.int (by rw [h]; rfl)))
          rw [bs, if_neg (by rw [decide_eq_true_iff]; exact e1), List.append_nil]
          exact ⟨TG, si⟩
      · rintro Hi ⟨TG, si⟩
        rw [List.length_map, la, List.take_length] at TG
        have ml := M.four
        have btwo : ∀ z ∈ barredL ul, z.length = 2 := fun z hz => utwo _ (barred_iff.mp hz) z (List.mem_singleton.mpr rfl)
        have blen : (barredL ul).length ≤ 20 := by
          unfold barredL
          rw [List.length_map]
          exact Nat.le_trans (List.length_filter_le _ _) ulen
        refine ⟨_, rfl, a, _, rfl, .inr (Same.seqTT (s15.trans si) ta), _, rfl, by omega, by rw [List.length_map]; omega, fun Z nZ => ?_⟩
        rw [List.length_map, Int.toNat_natCast]
        refine lc_range (lo := 0) (n := ms.length) (fun j Hj => ∃ xs rows, Hj Z = some (.lst xs) ∧ PLAt (upd Hj Z (.tup [])) xs rows ∧ rows.length = j ∧ (∀ i p, rows[i]? = some p → RowOk hl ul i p) ∧ Same Hi Hj)
          ⟨[], [], upd_same, ⟨rfl, fun i x p a _ => by simp at a⟩, rfl, fun i p a => by simp at a, same_upd nZ⟩ ?_ ?_
        · rintro j Hj hj ⟨xs, rows, eZ, PL, lj, ok, sj⟩
          have T5j := (T5.stay si).stay sj
          have TGj := TG.stay sj
          refine ⟨rfl, _, rfl, _, rfl, D, hl, (0 + (j : Nat) : Int), rfl, T5j, htwo, by omega, fun D1 r1 H6 s6 n6 e6 up6 mem6 => ?_⟩
          refine ⟨_, rfl, _, rfl, G, barredL ul, (0 + (j : Nat) : Int), rfl, TGj.stay s6, btwo, by omega, fun D7 r2 H7 s7 n7 e7 up7 mem7 => ?_⟩
          refine ⟨sizeOk (by show (2 : Nat) ≤ 100000; decide), fun t nt => ?_⟩
          have s67 := s6.trans s7
          have eZ7 := s67 _ _ eZ
          have st := same_upd nt (o := .tup [.ref D1, .ref D7])
          have tZ : t ≠ Z := fun z => by rw [z, eZ7] at nt; cases nt
          have d1 : D1 ≠ Z := fun z => by rw [z, eZ] at n6; cases n6
          have d7 : D7 ≠ Z := fun z => by rw [z, s6 _ _ eZ] at n7; cases n7
          have t1 : t ≠ D1 := fun z => by rw [z, s7 _ _ e6] at nt; cases nt
          have t7 : t ≠ D7 := fun z => by rw [z, e7] at nt; cases nt
          refine ⟨_, st _ _ eZ7, ?_, xs ++ [.ref t], rows ++ [(r1, r2)], upd_same, ?_, by rw [List.length_append, lj]; rfl, fun i p hp => ?_, samePut ((sj.trans s67).trans st) nZ⟩
          · rw [PL.len, lj]
            exact sizeLt (by omega)
          · rw [upd_upd]
            refine PLAt.add (t := t) (d := D1) (e := D7) (p := (r1, r2)) (PL.same (sameUpd (s67.trans st))) ?_ ?_ ?_
            · rw [upd_ne tZ, upd_same]
            · rw [upd_ne d1, upd_ne (Ne.symm t1), s7 _ _ e6]
            · rw [upd_ne d7, upd_ne (Ne.symm t7), e7]
          · by_cases hi : i < rows.length
            · rw [List.getElem?_append_left hi] at hp
              exact ok i p hp
            · rw [List.getElem?_append_right (by omega)] at hp
              cases z : i - rows.length with
              | zero =>
                rw [z] at hp
                cases Option.some.inj hp
                have ij : i = j := by omega
                subst ij
                rw [Int.zero_add] at mem6 mem7
                exact ⟨up6, fun r => (mem6 r).trans (rAt_iff htwo), up7, fun r => (mem7 r).trans ((rAt_iff btwo).trans barred_iff)⟩
              | succ k => rw [z] at hp; simp at hp
        · rintro Hj ⟨xs, rows, eZ, PL, lj, ok, sj⟩
          exact q Z xs rows Hj (s15.trans (si.trans sj)) eZ PL.off lj ok
end

end R
namespace R
open PySem PySem.Spec PyProof.Rows L2
/-! ## rows counted -/
/-- all rows of some of the marks -/
def subsL : List (List Int) → List (List (List Int)) := fun es => es.foldl (fun f e => f ++ f.map fun s => s ++ [e]) [[]]
theorem subsL_add (es : List (List Int)) (e : List Int) : subsL (es ++ [e]) = subsL es ++ (subsL es).map fun s => s ++ [e] := by
  unfold subsL
  rw [List.foldl_append]
  rfl
def has (S hl : List (List Int)) : Bool := hl.all fun z => decide (z ∈ S)
theorem has_iff {S hl : List (List Int)} : has S hl = true ↔ ∀ z ∈ hl, z ∈ S := by
  unfold has
  rw [List.all_eq_true]
  exact ⟨fun h z hz => of_decide_eq_true (h z hz), fun h z hz => decide_eq_true (h z hz)⟩
theorem subsL_sub : ∀ es : List (List Int), ∀ S ∈ subsL es, ∀ z ∈ S, z ∈ es := by
  refine snocInd (fun S hS z hz => ?_) fun es e ih S hS z hz => ?_
  · rw [List.mem_singleton.mp (show S ∈ [[]] from hS)] at hz
    cases hz
  · rw [subsL_add] at hS
    rcases List.mem_append.mp hS with hS | hS
    · exact List.mem_append_left _ (ih S hS z hz)
    · obtain ⟨S', hS', rfl⟩ := List.mem_map.mp hS
      rcases List.mem_append.mp hz with hz | hz
      · exact List.mem_append_left _ (ih S' hS' z hz)
      · exact List.mem_append_right _ hz
theorem subsL_len : ∀ es : List (List Int), (subsL es).length = 2 ^ es.length := by
  refine snocInd rfl fun es e ih => ?_
  rw [subsL_add, List.length_append, List.length_map, ih, List.length_append, Nat.pow_add]
  show 2 ^ es.length + 2 ^ es.length = 2 ^ es.length * 2 ^ 1
  omega
theorem base_count : ∀ es : List (List Int), es.Nodup → ∀ hl : List (List Int), hl.Nodup → (∀ z ∈ hl, z ∈ es) → ((subsL es).filter fun S => has S hl).length = 2 ^ (es.length - hl.length) := by
  refine snocInd (fun _ hl _ sub => ?_) fun es e ih nd hl nh sub => ?_
  · have : hl = [] := by
      cases hl with
      | nil => rfl
      | cons a r => cases sub a List.mem_cons_self
    subst this
    rfl
  · rw [List.nodup_append] at nd
    obtain ⟨n1, _, n3⟩ := nd
    have ne : e ∉ es := fun h => n3 e h e (List.mem_singleton.mpr rfl) rfl
    have ll := sub_len nh sub
    rw [List.length_append, List.length_singleton] at ll
    rw [subsL_add, List.filter_append, List.length_append, List.filter_map, List.length_map, List.length_append, List.length_singleton]
    by_cases he : e ∈ hl
    · have z0 : (subsL es).filter (fun S => has S hl) = [] := List.filter_eq_nil_iff.mpr fun S hS h => ne (subsL_sub es S hS e (has_iff.mp h e he))
      have e1 : (subsL es).filter ((fun S => has S hl) ∘ fun s => s ++ [e]) = (subsL es).filter fun S => has S (hl.erase e) := List.filter_congr fun S hS => by
        show has (S ++ [e]) hl = has S (hl.erase e)
        rw [Bool.eq_iff_iff, has_iff, has_iff]
        constructor
        · intro h z hz
          have nz : z ≠ e := fun x => by
            rw [x] at hz
            exact (List.Nodup.not_mem_erase nh) hz
          rcases List.mem_append.mp (h z (List.mem_of_mem_erase hz)) with h | h
          · exact h
          · exact absurd (List.mem_singleton.mp h) nz
        · intro h z hz
          by_cases nz : z = e
          · exact List.mem_append_right _ (List.mem_singleton.mpr nz)
          · exact List.mem_append_left _ (h z ((List.mem_erase_of_ne nz).mpr hz))
      have le : (hl.erase e).length = hl.length - 1 := List.length_erase_of_mem he
      have h0 : 0 < hl.length := List.length_pos_of_mem he
      rw [z0, e1, ih n1 (hl.erase e) (nh.erase e) fun z hz => ?_, le, List.length_nil, Nat.zero_add]
      · congr 1
        omega
      · have nz : z ≠ e := fun x => by
          rw [x] at hz
          exact (List.Nodup.not_mem_erase nh) hz
        rcases List.mem_append.mp (sub z (List.mem_of_mem_erase hz)) with h | h
        · exact h
        · exact absurd (List.mem_singleton.mp h) nz
    · have sub' : ∀ z ∈ hl, z ∈ es := fun z hz => by
        rcases List.mem_append.mp (sub z hz) with h | h
        · exact h
        · exact absurd (List.mem_singleton.mp h ▸ hz) he
      have e1 : (subsL es).filter ((fun S => has S hl) ∘ fun s => s ++ [e]) = (subsL es).filter fun S => has S hl := List.filter_congr fun S hS => by
        show has (S ++ [e]) hl = has S hl
        rw [Bool.eq_iff_iff, has_iff, has_iff]
        constructor
        · intro h z hz
          rcases List.mem_append.mp (h z hz) with h | h
          · exact h
          · exact absurd (List.mem_singleton.mp h ▸ hz) he
        · exact fun h z hz => List.mem_append_left _ (h z hz)
      have l2 := sub_len nh sub'
      rw [e1, ih n1 hl nh sub', show es.length + 1 - hl.length = es.length - hl.length + 1 by omega, Nat.pow_succ]
      omega
/-- the rows that hold all of hl, and none of the others whole -/
def goodR (hl : List (List Int)) (ul : List (List (List Int))) (S : List (List Int)) : Bool := has S hl && ul.all fun u => !has S u
theorem split_len {α : Type} (p q : α → Bool) (l : List α) : (l.filter p).length = (l.filter fun x => p x && q x).length + (l.filter fun x => p x && !q x).length := by
  induction l with
  | nil => rfl
  | cons a l ih =>
    cases hp : p a <;> cases hq : q a <;> simp [List.filter_cons, hp, hq] <;> omega
theorem rows_count {U : List (List Int)} (nu : U.Nodup) : ∀ (ul : List (List (List Int))) (hl : List (List Int)), RowsIn U hl ul → rowsW U.length hl ul = (((subsL U).filter (goodR hl ul)).length : Int)
  | [], hl, R => by
    have e : (subsL U).filter (goodR hl []) = (subsL U).filter fun S => has S hl := List.filter_congr fun S _ => by
      unfold goodR
      rw [List.all_nil, Bool.and_true]
    rw [e, base_count U nu hl R.nd R.sub]
    show (2 : Int) ^ (U.length - hl.length) = _
    rw [Int.natCast_pow]
    rfl
  | u :: us, hl, R => by
    show rowsW U.length hl us - rowsW U.length (hl ++ u.filter fun z => decide (z ∉ hl)) us = _
    rw [rows_count nu us hl R.tail, rows_count nu us _ R.more]
    have sp := split_len (goodR hl us) (fun S => has S u) (subsL U)
    have e1 : (subsL U).filter (fun S => goodR hl us S && has S u) = (subsL U).filter (goodR (hl ++ u.filter fun z => decide (z ∉ hl)) us) := List.filter_congr fun S _ => by
      unfold goodR
      have : (has S hl && has S u) = has S (hl ++ u.filter fun z => decide (z ∉ hl)) := by
        rw [Bool.eq_iff_iff, Bool.and_eq_true, has_iff, has_iff, has_iff]
        constructor
        · rintro ⟨h1, h2⟩ z hz
          rcases List.mem_append.mp hz with hz | hz
          · exact h1 z hz
          · exact h2 z (List.mem_filter.mp hz).1
        · intro h
          refine ⟨fun z hz => h z (List.mem_append_left _ hz), fun z hz => ?_⟩
          by_cases e : z ∈ hl
          · exact h z (List.mem_append_left _ e)
          · exact h z (List.mem_append_right _ (List.mem_filter.mpr ⟨hz, decide_eq_true e⟩))
      rw [← this, Bool.and_right_comm]
    have e2 : (subsL U).filter (fun S => goodR hl us S && !has S u) = (subsL U).filter (goodR hl (u :: us)) := List.filter_congr fun S _ => by
      unfold goodR
      rw [List.all_cons, Bool.and_assoc, Bool.and_comm (us.all _)]
    rw [e1, e2] at sp
    omega
/-- what was seen holds for a row -/
def holds (ms : List Int) (sl : List (Int × Bool)) (S : List (List Int)) : Bool := sl.all fun p => decide (has S (marksL ms p.1) = p.2)
theorem holds_good {ms : List Int} {sl : List (Int × Bool)} {hl hl2 : List (List Int)} (h : HeldIs ms sl hl) (h2 : HeldIs ms sl hl2) (S : List (List Int)) : holds ms sl S = goodR hl (unheldL ms hl2 sl) S := by
  unfold holds goodR
  rw [Bool.eq_iff_iff, List.all_eq_true, Bool.and_eq_true, has_iff, List.all_eq_true]
  constructor
  · intro hh
    have all_ : ∀ z ∈ hl, z ∈ S := fun z hz => by
      obtain ⟨p, hp, pt, hm⟩ := (h.mem z).mp hz
      have := of_decide_eq_true (hh p hp)
      rw [pt] at this
      exact has_iff.mp this z hm
    refine ⟨all_, fun u hu => ?_⟩
    obtain ⟨p, hp, rfl⟩ := List.mem_map.mp hu
    obtain ⟨hp, pf⟩ := List.mem_filter.mp hp
    have pf' : p.2 = false := by
      cases e : p.2 with
      | false => rfl
      | true => rw [e] at pf; cases pf
    have := of_decide_eq_true (hh p hp)
    rw [pf'] at this
    cases e : has S (leftOf ms hl2 p.1) with
    | false => rfl
    | true =>
      have : has S (marksL ms p.1) = true := has_iff.mpr fun z hz => by
        by_cases zh : z ∈ hl2
        · exact all_ z ((h.mem z).mpr ((h2.mem z).mp zh))
        · exact has_iff.mp e z (List.mem_filter.mpr ⟨hz, decide_eq_true zh⟩)
      simp_all
  · rintro ⟨h1, h3⟩ p hp
    refine decide_eq_true ?_
    cases e : p.2 with
    | true => exact has_iff.mpr fun z hz => h1 z ((h.mem z).mpr ⟨p, hp, e, hz⟩)
    | false =>
      have hu : leftOf ms hl2 p.1 ∈ unheldL ms hl2 sl := List.mem_map.mpr ⟨p, List.mem_filter.mpr ⟨hp, by rw [e]; rfl⟩, rfl⟩
      have := h3 _ hu
      cases e2 : has S (marksL ms p.1) with
      | false => rfl
      | true =>
        have : has S (leftOf ms hl2 p.1) = true := has_iff.mpr fun z hz => has_iff.mp e2 z (List.mem_filter.mp hz).1
        simp_all

end R
namespace R
open PySem PySem.Spec PyProof.Rows L2
/-! ## a row has a number -/
/-- a tuple of tuples of ints -/
structure TLAt (K : PySem.W.Frag) (H : Hp) (t : Addr) (S : List (List Int)) : Prop where
  ex : ∃ ts : List Addr, SqT K H t (ts.map V.ref) ∧ ts.length = S.length ∧ ∀ (i : Nat) c z, ts[i]? = some c → S[i]? = some z → SqT K H c (z.map V.int)
theorem TLAt.stay {K : PySem.W.Frag} {H H' : Hp} {t : Addr} {S : List (List Int)} (h : TLAt K H t S) (s : TupsStay K H H') : TLAt K H' t S :=
  let ⟨ts, e, n, f⟩ := h.ex
  ⟨ts, s _ _ e, n, fun i c z a b => s _ _ (f i c z a b)⟩
def rInT (K : PySem.W.Frag) : R2 := fun x y H Q => ∃ (c t : Addr) (z : List Int) (S : List (List Int)), x = .ref c ∧ y = .ref t ∧ SqT K H c (z.map V.int) ∧ TLAt K H t S ∧ Q (.bl (decide (z ∈ S))) H
theorem op_inT {X : Cx} (hu : X.A.units + 65 < cLine) : OpR X (compareOp CmpOp.In) (rInT X.K) := by
  classical
  intro pins s σ H x y v u Q I rx ry h
  obtain ⟨c, t, z, S, rfl, rfl, hc, TS, q⟩ := h
  obtain ⟨ts, et, lt, ft⟩ := TS.ex
  obtain rfl : v = .ref c := rx
  obtain rfl : u = .ref t := ry
  obtain ⟨its, rv, p, _⟩ := I.tuple et
  have hits : its = ts.map Value.ref := by
    have := refs_of_vals (ks := ts.map fun a => (a, ([] : List Int))) (us := its) (by rw [List.map_map]; exact rv)
    rw [List.map_map] at this
    exact this
  let e : Value → Bool := fun y => match y with
    | .ref c' => decide (∃ i : Nat, ts[i]? = some c' ∧ S[i]? = some z)
    | _ => false
  have inj : ∀ {a b : List Int}, a.map V.int = b.map V.int → a = b := fun {a b} h => (List.map_inj_right fun x y h => V.int.inj h).mp h
  refine SeqAt.in_tupleAt e (show s.heap.IsTuple t its.toArray from p) (fun y hy => ?_) ?_
  · rw [hits, List.mem_toArray] at hy
    obtain ⟨c', hc', rfl⟩ := List.mem_map.mp hy
    obtain ⟨i, hi⟩ := List.getElem?_of_mem hc'
    have il := (List.getElem?_eq_some_iff.mp hi).1
    obtain ⟨l, hl⟩ : ∃ l, S[i]? = some l := ⟨_, List.getElem?_eq_getElem (by omega)⟩
    have hl' := ft i c' l hi hl
    obtain ⟨as, r1⟩ := Dp.reads I (tD l) (.ref c') (.ref c') (dpTup hl') rfl
    obtain ⟨bs, r2⟩ := Dp.reads I (tD z) (.ref c) (.ref c) (dpTup hc) rfl
    have o1 : okD 1 (tD l) := okD.tup (okInts l)
    have o2 : okD 1 (tD z) := okD.tup (okInts z)
    have ea := SeqAt.eqAt_reads (tD l) (tD z) X.A.in1 s (.ref c') (.ref c) as bs r1 r2 o1.1 o2.1 (by
      have := o1.2
      show X.A.units + 1 + _ < cLine
      omega)
    have ee : e (.ref c') = PyData.eqv (tD l) (tD z) := by
      rw [show PyData.eqv (tD l) (tD z) = decide (l = z) from eqvIntsT l z]
      show decide _ = decide _
      refine decide_eq_decide.mpr ⟨fun ⟨j, h1, h2⟩ => ?_, fun h => ⟨i, hi, h ▸ hl⟩⟩
      exact inj (I.tuple_inj hl' (ft j c' z h1 h2))
    rw [ee]
    exact ea
  · have ea : its.toArray.any e = decide (z ∈ S) := by
      rw [hits, List.any_toArray, List.any_map, Bool.eq_iff_iff, List.any_eq_true, decide_eq_true_iff]
      constructor
      · rintro ⟨c', _, h⟩
        obtain ⟨i, _, h2⟩ := of_decide_eq_true h
        exact List.mem_of_getElem? h2
      · intro h
        obtain ⟨i, hi⟩ := List.getElem?_of_mem h
        have il := (List.getElem?_eq_some_iff.mp hi).1
        exact ⟨ts[i]'(by omega), List.getElem_mem _, decide_eq_true ⟨i, List.getElem?_eq_getElem (by omega), hi⟩⟩
    rw [ea]
    exact ⟨.bl (decide (z ∈ S)), H, I, rfl, q⟩
def sp_l_has (K : PySem.W.Frag) : Sp := fun vs H Q _ => ∃ (a t : Addr) (ms : List Int) (x : Int) (S : List (List Int)), vs = [.ref a, .ref t, .int x] ∧ SqT K H a (ms.map V.int) ∧ MOk ms ∧ TLAt K H t S ∧ ∀ H', Same H H' → Q (.bl (has S (marksL ms x))) H'
section
variable {P : Program} {w : World} {K : PySem.W.Frag} {mg : Str → Option Value} {base : Heap}
theorem ok_l_has (T : Txt K mg) : FnOk P w K mg base CX0 2 T.f_l_has T.fd_l_has ["_law_moduli", "_law_some", "_law_number"] (sp_l_has K) := by
  refine T.F_l_has.ok sc_l_has (fun vs H Q E h => ?_) (fun cdv A outer s H vs Q E hr h => ?_)
  · obtain ⟨a, t, ms, x, S, rfl, _⟩ := h
    rfl
  · obtain ⟨a, t, ms, x, S, rfl, ta, M, TS, q⟩ := h
    refine ⟨_, (pss_one (ps_ret (pe_callB (cr_all rfl) (by rfl) T.z_all (by decide +kernel) (pa_cons (pe_lc (own := [("_law_k", 3)]) rfl sc_l_has.nd (pi_range1 (by rfl) T.z_range (pa_cons (pe_callB (r := rLenK K) call_len_seq (by rfl) T.z_len (by decide +kernel) (pa_cons (pv 0) pa_nil)) pa_nil)) (blkOk_by (N := ["_law_moduli", "_law_some", "_law_number", "_law_k"]) (sc := defScope s_l_has) (by decide +kernel)) (fun _ _ _ _ _ => (pg_name (i := 3) sc_l_has.nd rfl (by first | exact .inl rfl | exact .inr rfl))) (fun _ _ _ _ _ => pts_nil) (fun _ _ _ _ _ => (pe_cmpR (r := rInT K) (op_inT (un65 hr)) (pe_tup (pa_cons (pv 3) (pa_cons (pe_op op_mod (pv 2) (pe_ix (r := rIxT K) ix_tup (pv 0) (pv 3) (fun _ _ => rfl))) pa_nil))) (pv 1) (by rfl)))) pa_nil)))), ?_⟩
    have m4 := M.four
    refine ⟨_, rfl, a, _, rfl, .inr ta, _, rfl, by omega, by rw [List.length_map]; omega, fun D nD => ?_⟩
    rw [List.length_map, Int.toNat_natCast]
    refine lc_range (lo := 0) (n := ms.length) (fun k Hk => Hk D = some (.lst (((marksTo ms x k).map fun z => decide (z ∈ S)).map V.bl)) ∧ Same H Hk) ⟨upd_same, same_upd nD⟩ ?_ ?_
    · rintro k Hk hk ⟨ek, sk⟩
      have hm : ms[k]? = some ms[k] := List.getElem?_eq_getElem hk
      have mm := M.mod _ (List.getElem_mem hk)
      refine ⟨rfl, _, rfl, _, rfl, _, rfl, _, rfl, a, _, _, _, rfl, rfl, Same.seqTT sk ta, by rw [Int.zero_add]; exact atI_nat (j := k) (by rw [List.getElem?_map, hm]; rfl), _, _, rfl, rfl, by show (0 : Int) < ms[k]; omega, sizeOk (by show (2 : Nat) ≤ 100000; decide), fun u nu => ?_⟩
      have su := same_upd nu (o := .tup [.int (0 + (k : Int)), .int (x % ms[k])])
      refine ⟨_, rfl, u, t, [((k : Nat) : Int), x % ms[k]], S, rfl, rfl, tupOf (by rw [upd_same, Int.zero_add]; rfl), TS.stay (.same (sk.trans su)), ?_⟩
      refine ⟨_, su _ _ ek, ?_, ?_, samePut (sk.trans su) nD⟩
      · rw [List.length_map, List.length_map]
        unfold marksTo
        rw [List.length_map, List.length_range]
        exact sizeLt (by omega)
      · rw [upd_same, marksTo_succ, List.map_append, List.map_append, show ms.getD k 1 = ms[k] by rw [List.getD_eq_getElem?_getD, hm]; rfl]
        rfl
    · rintro H1 ⟨e1, s1⟩
      refine ⟨D, _, rfl, lstOf e1, ?_⟩
      have e : ((marksTo ms x ms.length).map fun z => decide (z ∈ S)).all id = has S (marksL ms x) := by
        rw [List.all_map]
        rfl
      rw [e]
      exact q _ s1
end
def sp_law (K : PySem.W.Frag) : Sp := fun vs H Q _ => ∃ (a : Addr) (ns : List Int), vs = [.ref a] ∧ SqL K H a (ns.map V.int) ∧ ns.length ≤ 63 ∧ ∀ H', Q (.bl true) H'

end R
namespace R
open PySem PySem.Spec PyProof.Rows L2
/-! ## all rows -/
/-- a list of tuples of tuples of ints -/
structure SubsAt (K : PySem.W.Frag) (H : Hp) (D : Addr) (LS : List (List (List Int))) : Prop where
  ex : ∃ ts : List Addr, H D = some (.lst (ts.map V.ref)) ∧ ts.length = LS.length ∧ ∀ (i : Nat) t S, ts[i]? = some t → LS[i]? = some S → TLAt K H t S
theorem SubsAt.stay {K : PySem.W.Frag} {H H' : Hp} {D : Addr} {LS : List (List (List Int))} (h : SubsAt K H D LS) (s : Same H H') : SubsAt K H' D LS :=
  let ⟨ts, e, n, f⟩ := h.ex
  ⟨ts, s _ _ e, n, fun i t S a b => (f i t S a b).stay (.same s)⟩
theorem SubsAt.push {K : PySem.W.Frag} {H : Hp} {D t : Addr} {LS : List (List (List Int))} {S : List (List Int)} (h : SubsAt K H D LS) (ht : TLAt K H t S) :
    ∃ ts : List Addr, H D = some (.lst (ts.map V.ref)) ∧ ts.length = LS.length ∧ SubsAt K (upd H D (.lst (ts.map V.ref ++ [V.ref t]))) D (LS ++ [S]) := by
  obtain ⟨ts, e, n, f⟩ := h.ex
  have up := lstTups (K := K) (zs := ts.map V.ref ++ [V.ref t]) e
  refine ⟨ts, e, n, ts ++ [t], by rw [upd_same, List.map_append]; rfl, by rw [List.length_append, List.length_append, n]; rfl, fun i b S' a c => ?_⟩
  by_cases hi : i < ts.length
  · rw [List.getElem?_append_left hi] at a
    rw [List.getElem?_append_left (by omega)] at c
    exact (f i b S' a c).stay up
  · rw [List.getElem?_append_right (by omega)] at a
    rw [List.getElem?_append_right (by omega), ← n] at c
    cases z : i - ts.length with
    | zero =>
      rw [z] at a c
      cases Option.some.inj a
      cases Option.some.inj c
      exact ht.stay up
    | succ j => rw [z] at a; simp at a
def sp_l_rows (K : PySem.W.Frag) : Sp := fun vs H Q _ => ∃ (a : Addr) (ms : List Int), vs = [.ref a] ∧ SqT K H a (ms.map V.int) ∧ MOk ms ∧ (uniL ms).length ≤ 9 ∧ ∀ D H', Same H H' → SubsAt K H' D (subsL (uniL ms)) → Q (.ref D) H'
theorem subsL_few (es : List (List Int)) : ∀ S ∈ subsL es, S.length ≤ es.length := by
  refine snocInd (p := fun es => ∀ S ∈ subsL es, S.length ≤ es.length) (fun S hS => ?_) (fun es e ih S hS => ?_) es
  · rw [List.mem_singleton.mp (show S ∈ [[]] from hS)]
    exact Nat.le_refl _
  · rw [subsL_add] at hS
    rw [List.length_append, List.length_singleton]
    rcases List.mem_append.mp hS with hS | hS
    · exact Nat.le_succ_of_le (ih S hS)
    · obtain ⟨S', hS', rfl⟩ := List.mem_map.mp hS
      rw [List.length_append]
      exact Nat.succ_le_succ (ih S' hS')
section
variable {P : Program} {w : World} {K : PySem.W.Frag} {mg : Str → Option Value} {base : Heap}
set_option maxHeartbeats 1600000 in
theorem ok_l_rows (T : Txt K mg) : FnOk P w K mg base CX0 2 T.f_l_rows T.fd_l_rows ["_law_moduli"] (sp_l_rows K) := by
  refine T.F_l_rows.ok sc_l_rows (fun vs H Q E h => ?_) (fun cdv A outer s H vs Q E hr h => ?_)
  · obtain ⟨a, ms, rfl, _⟩ := h
    rfl
  · obtain ⟨a, ms, rfl, ta, M, u9, q⟩ := h
    refine ⟨_, (pss_cons (ps_set (i := 1) sc_l_rows.nd rfl (by first | exact .inl rfl | exact .inr rfl) (pe_lst pa_nil))
      (pss_cons (ps_for PassesOwn.never rfl (pi_range1 (by rfl) T.z_range (pa_cons (pe_callB call_len_seq (by rfl) T.z_len (by decide +kernel) (pa_cons (pv 0) pa_nil)) pa_nil)) (pg_name (i := 2) sc_l_rows.nd rfl (by first | exact .inl rfl | exact .inr rfl)) (pss_one (ps_set (i := 1) sc_l_rows.nd rfl (by first | exact .inl rfl | exact .inr rfl) (pe_op op_cat (pv 1) (pe_lc (own := [("_law_rest", 5)]) rfl sc_l_rows.nd (pi_range1 (by rfl) T.z_range (pa_cons (pe_ix (r := rIxT K) ix_tup (pv 0) (pv 2) (fun _ _ => rfl)) pa_nil)) (blkOk_by (N := ["_law_moduli", "_law_rests_there", "_law_k", "_law_found", "_law_one", "_law_rest", "_law_some"]) (sc := defScope s_l_rows) (by decide +kernel)) (fun _ _ _ _ _ => (pg_name (i := 5) sc_l_rows.nd rfl (by first | exact .inl rfl | exact .inr rfl))) (fun _ _ _ _ _ => pts_nil) (fun _ _ _ _ _ => (pe_tup (pa_cons (pv 2) (pa_cons (pv 5) pa_nil)))))))))
      (pss_cons (ps_set (i := 3) sc_l_rows.nd rfl (by first | exact .inl rfl | exact .inr rfl) (pe_lst (pa_cons (pe_tup pa_nil) pa_nil)))
      (pss_cons (ps_for PassesOwn.never rfl (pi_list (pv 1)) (pg_name (i := 4) sc_l_rows.nd rfl (by first | exact .inl rfl | exact .inr rfl)) (pss_one (ps_set (i := 3) sc_l_rows.nd rfl (by first | exact .inl rfl | exact .inr rfl) (pe_op op_cat (pv 3) (pe_lc (own := [("_law_some", 6)]) rfl sc_l_rows.nd (pi_list (pv 3)) (blkOk_by (N := ["_law_moduli", "_law_rests_there", "_law_k", "_law_found", "_law_one", "_law_rest", "_law_some"]) (sc := defScope s_l_rows) (by decide +kernel)) (fun _ _ _ _ _ => (pg_name (i := 6) sc_l_rows.nd rfl (by first | exact .inl rfl | exact .inr rfl))) (fun _ _ _ _ _ => pts_nil) (fun _ _ _ _ _ => (pe_op (r := rCatA K) op_catA (pv 6) (pe_tup (pa_cons (pv 4) pa_nil)))))))))
      (pss_one (ps_ret (pv 3))))))), ?_⟩
    have m4 := M.four
    refine ⟨Nat.zero_le _, fun l0 nl0 => ?_⟩
    have s0 := same_upd nl0 (o := .lst [])
    refine ⟨_, rfl, a, _, rfl, .inr (Same.seqTT s0 ta), _, rfl, by omega, by rw [List.length_map]; omega, ?_⟩
    rw [List.length_map, Int.toNat_natCast]
    refine for_range (lo := 0) (n := ms.length) (fun k σ Hk => ∃ (l : Addr) (x2 : Option V), σ = [some (.ref a), some (.ref l), x2, none, none, none, none] ∧ TupsAt K Hk l (uniTo ms k) ∧ Same H Hk) ⟨l0, none, rfl, TupsAt.nil upd_same, s0⟩ ?_ ?_
    · rintro k σ Hk hk ⟨l, x2, rfl, TL, sk⟩
      have hm : ms[k]? = some ms[k] := List.getElem?_eq_getElem hk
      have mm := M.mod _ (List.getElem_mem hk)
      have ul := (uniTo_len M.mod k (by omega)).2
      have eg : ms.getD k 1 = ms[k] := by rw [List.getD_eq_getElem?_getD, hm]; rfl
      refine ⟨_, rfl, _, rfl, _, rfl, a, _, _, _, rfl, rfl, Same.seqTT sk ta, by rw [Int.zero_add]; exact atI_nat (j := k) (by rw [List.getElem?_map, hm]; rfl), _, rfl, by omega, by omega, fun G nG => ?_⟩
      refine lc_range (lo := 0) (n := ms[k].toNat) (fun j Hj => TupsAt K Hj G ((List.range j).map fun r => [((k : Nat) : Int), ((r : Nat) : Int)]) ∧ Same Hk Hj) ⟨TupsAt.nil upd_same, same_upd nG⟩ ?_ ?_
      · rintro j Hj hj ⟨TG, sj⟩
        refine ⟨rfl, _, rfl, _, rfl, sizeOk (by show (2 : Nat) ≤ 100000; decide), fun u nu => ?_⟩
        have su := same_upd nu (o := .tup [.int (0 + (k : Int)), .int (0 + (j : Int))])
        obtain ⟨us, eu, lu, Tn⟩ := (TG.stay su).push (t := u) (l := [((k : Nat) : Int), ((j : Nat) : Int)]) (tupOf (by rw [upd_same, Int.zero_add, Int.zero_add]; rfl))
        refine ⟨_, eu, ?_, ?_, samePut (sj.trans su) nG⟩
        · rw [List.length_map, lu, List.length_map, List.length_range]
          exact sizeLt (by omega)
        · rw [List.range_succ, List.map_append]
          exact Tn
      · rintro H2 ⟨TG, s2⟩
        obtain ⟨ts, e1, n1, f1⟩ := TL.ex
        obtain ⟨gs, e2, n2, f2⟩ := TG.ex
        rw [List.length_map, List.length_range] at n2
        refine ⟨l, G, _, _, rfl, rfl, s2 _ _ e1, e2, by rw [List.length_map, List.length_map, n1, n2]; exact sizeOk (by omega), fun l2 nl2 => ?_⟩
        have s3 := same_upd nl2 (o := .lst (ts.map V.ref ++ gs.map V.ref))
        refine ⟨l2, _, rfl, ?_, sk.trans (s2.trans s3)⟩
        rw [uniTo_succ, eg]
        refine ⟨ts ++ gs, by rw [upd_same, List.map_append], by rw [List.length_append, List.length_append, n1, n2, List.length_map, List.length_range], fun i t l h1 h2 => ?_⟩
        by_cases hi : i < ts.length
        · rw [List.getElem?_append_left hi] at h1
          rw [List.getElem?_append_left (by omega)] at h2
          exact Same.seqTT (s2.trans s3) (f1 i t l h1 h2)
        · rw [List.getElem?_append_right (by omega)] at h1
          rw [List.getElem?_append_right (by omega), ← n1] at h2
          exact Same.seqTT s3 (f2 _ t l h1 h2)
    · rintro σ H1 ⟨l, x2, rfl, TL, s1⟩
      have TL' : TupsAt K H1 l (uniL ms) := TL
      obtain ⟨ts, el, nl, fl⟩ := TL'.ex
      refine ⟨sizeOk (by show (0 : Nat) ≤ 100000; decide), fun t0 nt0 => ⟨sizeOk (by show (1 : Nat) ≤ 100000; decide), fun D0 nD0 => ?_⟩⟩
      have q1 := same_upd nt0 (o := .tup [])
      have q2 := same_upd nD0 (o := .lst [.ref t0])
      have s2 := q1.trans q2
      have S0 : SubsAt K (upd (upd H1 t0 (.tup [])) D0 (.lst [.ref t0])) D0 (subsL []) := ⟨[t0], upd_same, rfl, fun i t S a b => by
        cases i with
        | zero =>
          cases Option.some.inj a
          cases Option.some.inj b
          exact ⟨[], tupOf (q2 _ _ upd_same), rfl, fun i c z h => by simp at h⟩
        | succ i => simp at a⟩
      generalize upd (upd H1 t0 (.tup [])) D0 (.lst [.ref t0]) = H2 at s2 S0 ⊢
      have el2 := s2 _ _ el
      refine ⟨_, rfl, l, rfl, ⟨_, lstOf el2⟩, for_list (K := K) (a := l) (xs := ts.map V.ref) (fun j σ Hj => ∃ (D : Addr) (x4 : Option V), σ = [some (.ref a), some (.ref l), x2, some (.ref D), x4, none, none] ∧ SubsAt K Hj D (subsL ((uniL ms).take j)) ∧ Same H2 Hj) ⟨D0, none, rfl, S0, Same.refl _⟩ (fun j σ Hj _ ⟨_, _, _, _, sj⟩ => lstOf (sj _ _ el2)) ?_ ?_⟩
      · rintro j y σ Hj hj ⟨D, x4, rfl, SD, sj⟩
        rw [List.getElem?_map] at hj
        obtain ⟨tz, htz, rfl⟩ := Option.map_eq_some_iff.mp hj
        have jl := (List.getElem?_eq_some_iff.mp htz).1
        obtain ⟨z, hz⟩ : ∃ z, (uniL ms)[j]? = some z := ⟨_, List.getElem?_eq_getElem (by omega)⟩
        have sq := Same.seqTT (s2.trans sj) (fl j tz z htz hz)
        obtain ⟨ds, eD, lD, fD⟩ := SD.ex
        have few : (subsL ((uniL ms).take j)).length ≤ 512 := by
          rw [subsL_len, List.length_take]
          exact Nat.le_trans (Nat.pow_le_pow_right (by decide) (show min j (uniL ms).length ≤ 9 by omega)) (by decide)
        refine ⟨_, rfl, _, rfl, D, rfl, ⟨_, lstOf eD⟩, fun G nG => ?_⟩
        refine lc_list (K := K) (a := D) (xs := ds.map V.ref) (fun i Hi => SubsAt K Hi G (((subsL ((uniL ms).take j)).take i).map fun s => s ++ [z]) ∧ Same Hj Hi) ⟨⟨[], upd_same, rfl, fun i t S a => by simp at a⟩, same_upd nG⟩ (fun i Hi _ ⟨_, si⟩ => lstOf (si _ _ eD)) ?_ ?_
        · rintro i y Hi hi ⟨SG, si⟩
          rw [List.getElem?_map] at hi
          obtain ⟨tt, htt, rfl⟩ := Option.map_eq_some_iff.mp hi
          have il := (List.getElem?_eq_some_iff.mp htt).1
          obtain ⟨S, hS⟩ : ∃ S, (subsL ((uniL ms).take j))[i]? = some S := ⟨_, List.getElem?_eq_getElem (by omega)⟩
          have sl := subsL_few _ S (List.mem_of_getElem? hS)
          rw [List.length_take] at sl
          obtain ⟨cs, ec, lc, fc⟩ := ((fD i tt S htt hS).stay (.same si)).ex
          have sqi := Same.seqTT si sq
          have fin : ∀ (T0 : Addr) (H4 : Hp), Same Hi H4 → TLAt K H4 T0 (S ++ [z]) → ∃ acc, H4 G = some (HO.lst acc) ∧ acc.length < sizeLine ∧ SubsAt K (upd H4 G (HO.lst (acc ++ [V.ref T0]))) G (((subsL ((uniL ms).take j)).take (i + 1)).map fun s => s ++ [z]) ∧ Same Hj (upd H4 G (HO.lst (acc ++ [V.ref T0]))) := fun T0 H4 s4 tl => by
            obtain ⟨us, eu, lu, Sn⟩ := (SG.stay s4).push tl
            refine ⟨_, eu, ?_, ?_, samePut (si.trans s4) nG⟩
            · rw [List.length_map, lu, List.length_map, List.length_take]
              exact sizeLt (by omega)
            · rw [takeSucc hS, List.map_append]
              exact Sn
          refine ⟨rfl, _, rfl, _, rfl, sizeOk (by show (1 : Nat) ≤ 100000; decide), fun u nu => ?_⟩
          have su := same_upd nu (o := .tup [.ref tz])
          have one : ∀ (T0 : Addr) (H4 : Hp), Same Hi H4 → SqT K H4 T0 ((cs ++ [tz]).map V.ref) → TLAt K H4 T0 (S ++ [z]) := fun T0 H4 s4 hq => by
            refine ⟨cs ++ [tz], hq, by rw [List.length_append, List.length_append, lc]; rfl, fun m c y h1 h2 => ?_⟩
            by_cases hm : m < cs.length
            · rw [List.getElem?_append_left hm] at h1
              rw [List.getElem?_append_left (by omega)] at h2
              exact Same.seqTT s4 (fc m c y h1 h2)
            · rw [List.getElem?_append_right (by omega)] at h1
              rw [List.getElem?_append_right (by omega), ← lc] at h2
              cases zz : m - cs.length with
              | zero =>
                rw [zz] at h1 h2
                cases Option.some.inj h1
                cases Option.some.inj h2
                exact Same.seqTT s4 sqi
              | succ m' => rw [zz] at h1; simp at h1
          refine ⟨tt, u, _, _, rfl, rfl, Same.seqTT su ec, tupOf upd_same, ?_, fun e => ?_, fun _ e => absurd e (List.cons_ne_nil _ _), fun _ _ v nv => ?_⟩
          · rw [List.length_map, lc]
            exact sizeOk (by show S.length + 1 ≤ 100000; omega)
          · have c0 : cs = [] := List.map_eq_nil_iff.mp e
            exact fin u _ su (one u _ su (by rw [c0]; exact tupOf upd_same))
          · exact fin v _ (su.trans (same_upd nv)) (one v _ (su.trans (same_upd nv)) (by rw [List.map_append]; exact tupOf upd_same))
        · rintro Hi ⟨SG, si⟩
          rw [List.length_map, lD, List.take_length] at SG
          obtain ⟨gs, eg, lg, fg⟩ := SG.ex
          rw [List.length_map] at lg
          refine ⟨D, G, _, _, rfl, rfl, si _ _ eD, eg, by rw [List.length_map, List.length_map, lD, lg]; exact sizeOk (by omega), fun l2 nl2 => ?_⟩
          have s3 := same_upd nl2 (o := .lst (ds.map V.ref ++ gs.map V.ref))
          refine ⟨l2, _, rfl, ?_, sj.trans (si.trans s3)⟩
          rw [takeSucc hz, subsL_add]
          refine ⟨ds ++ gs, by rw [upd_same, List.map_append], by rw [List.length_append, List.length_append, List.length_map, lD, lg], fun i t S h1 h2 => ?_⟩
          by_cases hi : i < ds.length
          · rw [List.getElem?_append_left hi] at h1
            rw [List.getElem?_append_left (by omega)] at h2
            exact (fD i t S h1 h2).stay (.same (si.trans s3))
          · rw [List.getElem?_append_right (by omega)] at h1
            rw [List.getElem?_append_right (by omega), ← lD] at h2
            exact (fg _ t S h1 h2).stay (.same s3)
      · rintro σ Hj ⟨D, x4, rfl, SD, sj⟩
        rw [List.length_map, nl, List.take_length] at SD
        exact ⟨_, rfl, q D _ (s1.trans (s2.trans sj)) SD⟩
end

end R
namespace R
open PySem PySem.Spec PyProof.Rows L2
/-! ## moduli and sights as they are drawn -/
structure MG (i : Nat) (ms : List Int) : Prop where
  len : ms.length ≤ i
  one : 1 ≤ i → 1 ≤ ms.length
  mod : ∀ m ∈ ms, 1 ≤ m ∧ m ≤ 4
  sum : ms.sum ≤ 9
  nil : i = 0 → ms = []
theorem RowAt.tupK {H H' : Hp} {r L : Addr} (R : RowAt H r L) (k : Kp r H H') : ∀ q u, H q = some (.tup u) → H' q = some (.tup u) := fun q u e => k _ _ (fun z => by
  subst z
  obtain ⟨zs, e'⟩ := R.lst
  rw [e] at e'
  cases e') e
/-- sights as they are drawn -/
structure Drn (H : Hp) (xs : List V) (sl : List (Int × Bool)) : Prop where
  len : xs.length = sl.length
  at_ : ∀ (i : Nat) x p, xs[i]? = some x → sl[i]? = some p → ∃ t, x = .ref t ∧ H t = some (.tup [.int p.1, .bl p.2])
  num : ∀ p ∈ sl, IsNum p.1
theorem Drn.stay {H H' : Hp} {xs : List V} {sl : List (Int × Bool)} (h : Drn H xs sl) (s : ∀ q u, H q = some (.tup u) → H' q = some (.tup u)) : Drn H' xs sl :=
  ⟨h.len, fun i x p a b => let ⟨t, e, q⟩ := h.at_ i x p a b; ⟨t, e, s _ _ q⟩, h.num⟩
theorem Drn.add {H : Hp} {xs : List V} {sl : List (Int × Bool)} {t : Addr} {p : Int × Bool} (h : Drn H xs sl) (ht : H t = some (.tup [.int p.1, .bl p.2])) (hn : IsNum p.1) : Drn H (xs ++ [.ref t]) (sl ++ [p]) := by
  refine ⟨by rw [List.length_append, List.length_append, h.len]; rfl, fun i x q a b => ?_, fun q hq => ?_⟩
  · by_cases l : i < xs.length
    · rw [List.getElem?_append_left l] at a
      rw [List.getElem?_append_left (by rw [← h.len]; exact l)] at b
      exact h.at_ i x q a b
    · rw [List.getElem?_append_right (by omega)] at a
      rw [List.getElem?_append_right (by rw [← h.len]; omega), ← h.len] at b
      cases z : i - xs.length with
      | zero =>
        rw [z] at a b
        cases Option.some.inj a
        cases Option.some.inj b
        exact ⟨t, rfl, ht⟩
      | succ j => rw [z] at a; simp at a
  · rcases List.mem_append.mp hq with hq | hq
    · exact h.num q hq
    · rw [List.mem_singleton.mp hq]
      exact hn

end R
namespace R
open PySem PySem.Spec PyProof.Rows L2
/-! ## what is sure of the good rows -/
theorem filter_in (p : List Int → Bool) : ∀ es : List (List Int), es.filter p ∈ subsL es := by
  refine snocInd (List.mem_singleton.mpr rfl) fun es e ih => ?_
  rw [subsL_add, List.filter_append]
  by_cases h : p e = true
  · rw [List.filter_cons_of_pos h]
    exact List.mem_append_right _ (List.mem_map.mpr ⟨_, ih, rfl⟩)
  · rw [List.filter_cons_of_neg h, List.filter_nil, List.append_nil]
    exact List.mem_append_left _ ih
structure Told (U hl : List (List Int)) (ul : List (List (List Int))) : Prop where
  rin : RowsIn U hl ul
  out : ∀ u ∈ ul, ∀ z ∈ u, z ∉ hl
theorem told_of {ms : List Int} (M : MOk ms) {sl : List (Int × Bool)} {hl hl2 : List (List Int)} (h : HeldIs ms sl hl) (h2 : HeldIs ms sl hl2) : Told (uniL ms) hl (unheldL ms hl2 sl) := by
  refine ⟨rows_in M h, fun u hu z hz hh => ?_⟩
  obtain ⟨p, _, rfl⟩ := List.mem_map.mp hu
  exact of_decide_eq_true (List.mem_filter.mp hz).2 ((h2.mem z).mpr ((h.mem z).mp hh))
theorem good_iff {hl : List (List Int)} {ul : List (List (List Int))} {S : List (List Int)} : goodR hl ul S = true ↔ (∀ z ∈ hl, z ∈ S) ∧ ∀ u ∈ ul, ∃ z ∈ u, z ∉ S := by
  unfold goodR
  rw [Bool.and_eq_true, has_iff, List.all_eq_true]
  refine and_congr_right fun _ => forall_congr' fun u => imp_congr_right fun _ => ?_
  rw [Bool.not_eq_true', ← Bool.not_eq_true, has_iff]
  constructor
  · intro h
    exact Classical.byContradiction fun n => h fun z hz => Classical.byContradiction fun m => n ⟨z, hz, m⟩
  · rintro ⟨z, hz, m⟩ h
    exact m (h z hz)
def least (U hl : List (List Int)) : List (List Int) := U.filter fun z => decide (z ∈ hl)
theorem mem_least {U hl : List (List Int)} (s : ∀ z ∈ hl, z ∈ U) {z : List Int} : z ∈ least U hl ↔ z ∈ hl := by
  unfold least
  rw [List.mem_filter, decide_eq_true_iff]
  exact ⟨fun h => h.2, fun h => ⟨s z h, h⟩⟩
theorem least_good {U hl : List (List Int)} {ul : List (List (List Int))} (T : Told U hl ul) (h : [] ∉ ul) : goodR hl ul (least U hl) = true := by
  rw [good_iff]
  refine ⟨fun z hz => (mem_least T.rin.sub).mpr hz, fun u hu => ?_⟩
  cases u with
  | nil => exact absurd hu h
  | cons z zs => exact ⟨z, List.mem_cons_self, fun m => T.out _ hu z List.mem_cons_self ((mem_least T.rin.sub).mp m)⟩
theorem sure_all {U hl : List (List Int)} {ul : List (List (List Int))} (T : Told U hl ul) (h : [] ∉ ul) (z : List Int) : (∀ S ∈ (subsL U).filter (goodR hl ul), z ∈ S) ↔ z ∈ hl := by
  constructor
  · intro a
    exact (mem_least T.rin.sub).mp (a _ (List.mem_filter.mpr ⟨filter_in _ U, least_good T h⟩))
  · intro hz S hS
    exact (good_iff.mp (List.mem_filter.mp hS).2).1 z hz
theorem sure_none {U hl : List (List Int)} {ul : List (List (List Int))} (T : Told U hl ul) (h : [] ∉ ul) {z : List Int} (zu : z ∈ U) : (∀ S ∈ (subsL U).filter (goodR hl ul), z ∉ S) ↔ [z] ∈ ul := by
  constructor
  · intro a
    have zh : z ∉ hl := fun m => a _ (List.mem_filter.mpr ⟨filter_in _ U, least_good T h⟩) ((mem_least T.rin.sub).mpr m)
    have mz : ∀ y, y ∈ U.filter (fun y => decide (y ∈ hl ∨ y = z)) ↔ (y ∈ hl ∨ y = z) := fun y => by
      rw [List.mem_filter, decide_eq_true_iff]
      refine ⟨fun h => h.2, fun h => ⟨?_, h⟩⟩
      rcases h with h | rfl
      · exact T.rin.sub y h
      · exact zu
    have no : ¬ goodR hl ul (U.filter fun y => decide (y ∈ hl ∨ y = z)) = true := fun g => a _ (List.mem_filter.mpr ⟨filter_in _ U, g⟩) ((mz z).mpr (.inr rfl))
    rw [good_iff] at no
    refine Classical.byContradiction fun nz => no ⟨fun y hy => (mz y).mpr (.inl hy), fun u hu => Classical.byContradiction fun nx => ?_⟩
    have al : ∀ y ∈ u, y = z := fun y hy => by
      have : y ∈ U.filter (fun y => decide (y ∈ hl ∨ y = z)) := Classical.byContradiction fun m => nx ⟨y, hy, m⟩
      exact ((mz y).mp this).resolve_left (T.out u hu y hy)
    have nd := (T.rin.each u hu).1
    match u, hu, al, nd with
    | [], hu, _, _ => exact h hu
    | [y], hu, al, _ =>
      rw [al y List.mem_cons_self] at hu
      exact nz hu
    | y :: y' :: r, _, al, nd =>
      have e : y = y' := (al y List.mem_cons_self).trans (al y' (List.mem_cons_of_mem _ List.mem_cons_self)).symm
      exact (List.nodup_cons.mp nd).1 (e ▸ List.mem_cons_self)
  · intro hz S hS m
    obtain ⟨y, hy, ny⟩ := (good_iff.mp (List.mem_filter.mp hS).2).2 [z] hz
    rw [List.mem_singleton.mp hy] at ny
    exact ny m
theorem good_nil {U hl : List (List Int)} {ul : List (List (List Int))} (T : Told U hl ul) : (subsL U).filter (goodR hl ul) = [] ↔ [] ∈ ul := by
  constructor
  · intro e
    refine Classical.byContradiction fun h => ?_
    have := List.mem_filter.mpr ⟨filter_in (fun z => decide (z ∈ hl)) U, least_good T h⟩
    rw [e] at this
    cases this
  · intro h
    refine List.filter_eq_nil_iff.mpr fun S _ g => ?_
    obtain ⟨z, hz, _⟩ := (good_iff.mp g).2 [] h
    cases hz
/-- the rests of a place that all rows have, and that none has -/
def allOf (gl : List (List (List Int))) (k m : Nat) : List Int := ((List.range m).filter fun (r : Nat) => gl.all fun S => decide ([(k : Int), (r : Int)] ∈ S)).map fun (r : Nat) => (r : Int)
def noneOf (gl : List (List (List Int))) (k m : Nat) : List Int := ((List.range m).filter fun (r : Nat) => !gl.any fun S => decide ([(k : Int), (r : Int)] ∈ S)).map fun (r : Nat) => (r : Int)
theorem upN (p : Nat → Bool) (m : Nat) : (((List.range m).filter p).map fun (r : Nat) => (r : Int)).Pairwise (· < ·) := by
  rw [List.pairwise_map]
  exact (List.pairwise_lt_range.filter p).imp fun h => by omega
theorem asc_same : ∀ {xs ys : List Int}, xs.Pairwise (· < ·) → ys.Pairwise (· < ·) → (∀ r, r ∈ xs ↔ r ∈ ys) → xs = ys
  | [], [], _, _, _ => rfl
  | [], y :: ys, _, _, h => nomatch (h y).mpr List.mem_cons_self
  | x :: xs, [], _, _, h => nomatch (h x).mp List.mem_cons_self
  | x :: xs, y :: ys, hx, hy, h => by
    obtain ⟨x1, x2⟩ := List.pairwise_cons.mp hx
    obtain ⟨y1, y2⟩ := List.pairwise_cons.mp hy
    have e : x = y := by
      rcases List.mem_cons.mp ((h x).mp List.mem_cons_self) with e | hm
      · exact e
      · rcases List.mem_cons.mp ((h y).mpr List.mem_cons_self) with e | hn
        · exact e.symm
        · have := y1 x hm
          have := x1 y hn
          omega
    subst e
    refine congrArg _ (asc_same x2 y2 fun r => ⟨fun hr => ?_, fun hr => ?_⟩)
    · rcases List.mem_cons.mp ((h r).mp (List.mem_cons_of_mem _ hr)) with rfl | q
      · exact absurd (x1 _ hr) (Int.lt_irrefl _)
      · exact q
    · rcases List.mem_cons.mp ((h r).mpr (List.mem_cons_of_mem _ hr)) with rfl | q
      · exact absurd (y1 _ hr) (Int.lt_irrefl _)
      · exact q
theorem all_row {ms : List Int} (M : MOk ms) {hl : List (List Int)} {ul : List (List (List Int))} (T : Told (uniL ms) hl ul) (h : [] ∉ ul) {k : Nat} (hk : k < ms.length) {p : List Int × List Int} (R : RowOk hl ul k p) :
    p = (allOf ((subsL (uniL ms)).filter (goodR hl ul)) k (ms.getD k 1).toNat, noneOf ((subsL (uniL ms)).filter (goodR hl ul)) k (ms.getD k 1).toNat) := by
  have inU : ∀ {r : Int}, [(k : Int), r] ∈ uniL ms → ∃ r' : Nat, r = (r' : Int) ∧ r' < (ms.getD k 1).toNat := fun {r} hm => by
    obtain ⟨i, r', e, _, hr⟩ := mem_uni.mp hm
    have e1 := (List.cons.inj e).1
    have e2 := (List.cons.inj (List.cons.inj e).2).1
    have : k = i := by omega
    subst this
    exact ⟨r', e2, hr⟩
  have ofU : ∀ {r : Nat}, r < (ms.getD k 1).toNat → [(k : Int), (r : Int)] ∈ uniL ms := fun {r} hr => mem_uni.mpr ⟨k, r, rfl, hk, hr⟩
  obtain ⟨p1, p2⟩ := p
  refine (Prod.mk.injEq ..).mpr ⟨asc_same R.up1 (upN _ _) fun r => ?_, asc_same R.up2 (upN _ _) fun r => ?_⟩
  · unfold allOf
    rw [R.mem1, List.mem_map]
    constructor
    · intro hr
      obtain ⟨r', rfl, l⟩ := inU (T.rin.sub _ hr)
      refine ⟨r', List.mem_filter.mpr ⟨List.mem_range.mpr l, List.all_eq_true.mpr fun S hS => decide_eq_true ?_⟩, rfl⟩
      exact (sure_all T h _).mpr hr S hS
    · rintro ⟨r', hr, rfl⟩
      exact (sure_all T h _).mp fun S hS => of_decide_eq_true (List.all_eq_true.mp (List.mem_filter.mp hr).2 S hS)
  · unfold noneOf
    rw [R.mem2, List.mem_map]
    constructor
    · intro hr
      obtain ⟨r', rfl, l⟩ := inU ((T.rin.each _ hr).2 _ (List.mem_singleton.mpr rfl))
      refine ⟨r', List.mem_filter.mpr ⟨List.mem_range.mpr l, ?_⟩, rfl⟩
      rw [Bool.not_eq_true', List.any_eq_false]
      intro S hS e
      exact (sure_none T h (ofU l)).mpr hr S hS (of_decide_eq_true e)
    · rintro ⟨r', hr, rfl⟩
      obtain ⟨l, n⟩ := List.mem_filter.mp hr
      rw [Bool.not_eq_true', List.any_eq_false] at n
      exact (sure_none T h (ofU (List.mem_range.mp l))).mp fun S hS m => n S hS (decide_eq_true m)
theorem allOf_succ (gl : List (List (List Int))) (k m : Nat) : allOf gl k (m + 1) = allOf gl k m ++ (if (gl.all fun S => decide ([(k : Int), (m : Int)] ∈ S)) = true then [(m : Int)] else []) := by
  unfold allOf
  rw [List.range_succ, List.filter_append, List.map_append]
  by_cases e : (gl.all fun S => decide ([(k : Int), (m : Int)] ∈ S)) = true
  · rw [if_pos e, List.filter_cons_of_pos (by exact e)]
    rfl
  · rw [if_neg e, List.filter_cons_of_neg (by exact e)]
    rfl
theorem noneOf_succ (gl : List (List (List Int))) (k m : Nat) : noneOf gl k (m + 1) = noneOf gl k m ++ (if (!gl.any fun S => decide ([(k : Int), (m : Int)] ∈ S)) = true then [(m : Int)] else []) := by
  unfold noneOf
  rw [List.range_succ, List.filter_append, List.map_append]
  by_cases e : (!gl.any fun S => decide ([(k : Int), (m : Int)] ∈ S)) = true
  · rw [if_pos e, List.filter_cons_of_pos (by exact e)]
    rfl
  · rw [if_neg e, List.filter_cons_of_neg (by exact e)]
    rfl
theorem allOf_len (gl : List (List (List Int))) (k m : Nat) : (allOf gl k m).length ≤ m := by
  unfold allOf
  rw [List.length_map]
  exact Nat.le_trans (List.length_filter_le _ _) (by rw [List.length_range]; exact Nat.le_refl _)
theorem noneOf_len (gl : List (List (List Int))) (k m : Nat) : (noneOf gl k m).length ≤ m := by
  unfold noneOf
  rw [List.length_map]
  exact Nat.le_trans (List.length_filter_le _ _) (by rw [List.length_range]; exact Nat.le_refl _)
/-- what the law asks for, up to a place -/
def dueTo (ms : List Int) (gl : List (List (List Int))) (k : Nat) : List (List Int × List Int) := (List.range k).map fun i => (allOf gl i (ms.getD i 1).toNat, noneOf gl i (ms.getD i 1).toNat)
theorem dueTo_succ (ms : List Int) (gl : List (List (List Int))) (k : Nat) : dueTo ms gl (k + 1) = dueTo ms gl k ++ [(allOf gl k (ms.getD k 1).toNat, noneOf gl k (ms.getD k 1).toNat)] := by
  unfold dueTo
  rw [List.range_succ, List.map_append]
  rfl
theorem due_rows {ms : List Int} (M : MOk ms) {sl : List (Int × Bool)} {hl hl2 : List (List Int)} (h1 : HeldIs ms sl hl) (h2 : HeldIs ms sl hl2) (c : [] ∉ unheldL ms hl2 sl) {rows : List (List Int × List Int)} (l : rows.length = ms.length) (ok : ∀ i p, rows[i]? = some p → RowOk hl (unheldL ms hl2 sl) i p) :
    rows = dueTo ms ((subsL (uniL ms)).filter (holds ms sl)) ms.length := by
  have e : (subsL (uniL ms)).filter (holds ms sl) = (subsL (uniL ms)).filter (goodR hl (unheldL ms hl2 sl)) := List.filter_congr fun S _ => holds_good h1 h2 S
  refine List.ext_getElem? fun i => ?_
  by_cases hi : i < ms.length
  · have er : rows[i]? = some (rows[i]'(by omega)) := List.getElem?_eq_getElem (by omega)
    have := all_row M (told_of M h1 h2) c hi (ok i _ er)
    unfold dueTo
    rw [er, this, List.getElem?_map, List.getElem?_range hi, e]
    rfl
  · unfold dueTo
    rw [List.getElem?_eq_none (by omega), List.getElem?_eq_none (by rw [List.length_map, List.length_range]; omega)]
theorem due_nil {ms : List Int} (M : MOk ms) {sl : List (Int × Bool)} {hl hl2 : List (List Int)} (h1 : HeldIs ms sl hl) (h2 : HeldIs ms sl hl2) : (subsL (uniL ms)).filter (holds ms sl) = [] ↔ [] ∈ unheldL ms hl2 sl := by
  have e : (subsL (uniL ms)).filter (holds ms sl) = (subsL (uniL ms)).filter (goodR hl (unheldL ms hl2 sl)) := List.filter_congr fun S _ => holds_good h1 h2 S
  rw [e]
  exact good_nil (told_of M h1 h2)
def subD (S : List (List Int)) : PyData := .tuple (S.map tD)
theorem dpTL {K : PySem.W.Frag} {H : Hp} : ∀ {ts : List Addr} {S : List (List Int)}, ts.length = S.length → (∀ (i : Nat) c z, ts[i]? = some c → S[i]? = some z → SqT K H c (z.map V.int)) → DpAll K H (ts.map V.ref) (S.map tD)
  | [], [], _, _ => .nil
  | [], _ :: _, h, _ => nomatch h
  | _ :: _, [], h, _ => nomatch h
  | t :: ts, z :: S, h, f => .cons (dpTup (f 0 t z rfl rfl)) (dpTL (Nat.succ.inj h) fun i c y a b => f (i + 1) c y a b)
theorem TLAt.dp {K : PySem.W.Frag} {H : Hp} {t : Addr} {S : List (List Int)} (h : TLAt K H t S) : Dp K H (.ref t) (subD S) := by
  obtain ⟨ts, e, n, f⟩ := h.ex
  exact .tup e (dpTL n f)
theorem dpSubs {K : PySem.W.Frag} {H : Hp} : ∀ {ts : List Addr} {L : List (List (List Int))}, ts.length = L.length → (∀ (i : Nat) t S, ts[i]? = some t → L[i]? = some S → TLAt K H t S) → DpAll K H (ts.map V.ref) (L.map subD)
  | [], [], _, _ => .nil
  | [], _ :: _, h, _ => nomatch h
  | _ :: _, [], h, _ => nomatch h
  | t :: ts, z :: S, h, f => .cons (f 0 t z rfl rfl).dp (dpSubs (Nat.succ.inj h) fun i c y a b => f (i + 1) c y a b)
theorem SubsAt.dp {K : PySem.W.Frag} {H : Hp} {D : Addr} {L : List (List (List Int))} (h : SubsAt K H D L) : Dp K H (.ref D) (.list (L.map subD)) := by
  obtain ⟨ts, e, n, f⟩ := h.ex
  exact .lst (lstOf e) (dpSubs n f)
theorem okSubs (L : List (List (List Int))) : okD 3 (.list (L.map subD)) := okD.lst fun d hd => by
  obtain ⟨S, _, rfl⟩ := List.mem_map.mp hd
  refine okD.tup fun d hd => ?_
  obtain ⟨z, _, rfl⟩ := List.mem_map.mp hd
  exact okD.tup (okInts _)
theorem eqvSubs (L : List (List (List Int))) : PyData.eqv (.list (L.map subD)) (.list []) = decide (L = []) := by
  cases L with
  | nil => rfl
  | cons a r =>
    rw [decide_eq_false (List.cons_ne_nil _ _)]
    show PyData.eqv (.list (_ :: _)) (.list []) = false
    rw [PyData.eqv, PyData.eqvAll] <;> first | rfl | simp

end R
namespace R
open PySem PySem.Spec PyProof.Rows L2
/-! ## sure rests, or none -/
def sp_l_told_there (K : PySem.W.Frag) : Sp := fun vs H Q _ => ∃ (a b : Addr) (ms : List Int) (sl : List (Int × Bool)) (U : List (List Int)), vs = [.ref a, .ref b] ∧ SqT K H a (ms.map V.int) ∧ MOk ms ∧ SeenAt K H b sl ∧ SOk sl ∧ U.length ≤ 60 ∧ (∀ p ∈ sl, p.2 = true → ∀ z ∈ marksL ms p.1, z ∈ U) ∧
  ∀ hl hl2, HeldIs ms sl hl → HeldIs ms sl hl2 → (([] ∈ unheldL ms hl2 sl → ∀ H', Same H H' → Q (.str "nothing") H') ∧
    ([] ∉ unheldL ms hl2 sl → ∀ (D : Addr) (xs : List V) (rows : List (List Int × List Int)) (H' : Hp), Same H H' → H' D = some (.lst xs) → PLAt H' xs rows → rows.length = ms.length → (∀ i p, rows[i]? = some p → RowOk hl (unheldL ms hl2 sl) i p) → Q (.ref D) H'))
section
variable {P : Program} {w : World} {K : PySem.W.Frag} {mg : Str → Option Value} {base : Heap}
theorem ok_l_told_there (T : Txt K mg) : FnOk P w K mg base CX0 8 T.f_l_told_there T.fd_l_told_there ["_law_moduli", "_law_seen"] (sp_l_told_there K) := by
  refine T.F_l_told_there.ok sc_l_told_there (fun vs H Q E h => ?_) (fun cdv A outer s H vs Q E hr h => ?_)
  · obtain ⟨a, b, ms, sl, U, rfl, _⟩ := h
    rfl
  · obtain ⟨a, b, ms, sl, U, rfl, ta, M, S, O, u60, hU, h⟩ := h
    refine ⟨_, (pss_cons (ps_set (i := 2) sc_l_told_there.nd rfl (by first | exact .inl rfl | exact .inr rfl) pe_non)
      (pss_cons (ps_try_as (i := 3) rfl rfl sc_l_told_there.nd rfl rfl ⟨by rfl, by decide, .inl T.g_Nothing⟩ takes0 (fun W pn xe tk po => (pss_one (ps_set (i := 2) sc_l_told_there.nd rfl (by first | exact .inl rfl | exact .inr rfl) (pe_callS (ok_p_sure_rests T) (hr.mono (by decide)) (by rfl) T.g_p_sure_rests T.F_p_sure_rests.kp T.b_p_sure_rests (fun σ => passAt tk σ) (pa_cons (pv 0) (pa_cons (pv 1) pa_nil))))))
      (fun a oe cls d pn hz hf => (pss_one (ps_set (i := 2) sc_l_told_there.nd rfl (by first | exact .inl rfl | exact .inr rfl) (pe_ifExp (pt_val (pe_callB (call_isE' T.E_Nothing hz hf) (by rfl) T.z_isinstance (by decide +kernel) (pa_cons (pv 3) (pa_cons (pe_glob (v := .ref T.C_RestError) (by rfl) T.g_RestError rfl) pa_nil)))) pe_str pe_str)))))
      (pss_one (ps_ret (pv 2))))), ?_⟩
    refine ⟨_, rfl, _, rfl, a, b, ms, sl, U, rfl, ta, M, S, O, u60, hU, fun hl hl2 h1 h2 => ?_⟩
    obtain ⟨q1, q2⟩ := h hl hl2 h1 h2
    by_cases c : [] ∈ unheldL ms hl2 sl
    · refine .inl ⟨c, fun H1 s1 => ⟨true, T.e_Nothing, fun _ a na => ?_, fun z => nomatch z⟩⟩
      refine ⟨_, rfl, rfl, rfl, .ref T.C_RestError, _, true, rfl, fun u r => r, T.r_Nothing, true, rfl, iteT ?_⟩
      exact ⟨_, rfl, q1 c _ s1⟩
    · exact .inr ⟨c, fun D xs rows H1 s1 e1 p1 l1 o1 => ⟨_, rfl, q2 c D xs rows _ s1 e1 p1 l1 o1⟩⟩
end

end R
namespace R
open PySem PySem.Spec PyProof.Rows L2
/-! ## the law -/
section
variable {P : Program} {w : World} {K : PySem.W.Frag} {mg : Str → Option Value} {base : Heap}
set_option maxHeartbeats 1600000 in
theorem ok_law (T : Txt K mg) : FnOk P w K mg base CX0 9 T.f_law T.fd_law ["_law_script"] (sp_law K) := by
  refine T.F_law.ok sc_law (fun vs H Q E h => ?_) (fun cdv A outer s H vs Q E hr h => ?_)
  · obtain ⟨a, ns, rfl, _⟩ := h
    rfl
  · obtain ⟨a, ns, rfl, hS, hl, q⟩ := h
    refine ⟨_, (pss_cons (ps_set (i := 1) sc_law.nd rfl (by first | exact .inl rfl | exact .inr rfl) (pe_call (ok_l_draws T) (hr.mono (by decide)) (by rfl) T.g_l_draws T.F_l_draws.kp T.b_l_draws .nil pass0 (pa_cons (pv 0) pa_nil)))
      (pss_cons (ps_set (i := 2) sc_law.nd rfl (by first | exact .inl rfl | exact .inr rfl) (pe_tup pa_nil))
      (pss_cons (ps_for PassesOwn.never rfl (pi_range1 (by rfl) T.z_range (pa_cons (pe_op op_add pe_int (pe_call (ok_l_pick T) (hr.mono (by decide)) (by rfl) T.g_l_pick T.F_l_pick.kp T.b_l_pick .nil pass0 (pa_cons (pv 1) (pa_cons pe_int pa_nil)))) pa_nil)) (pg_name (i := 3) sc_law.nd rfl (by first | exact .inl rfl | exact .inr rfl)) (pss_one (ps_if (pt_cmpR op_lt (pe_callB (cr_sumT rfl) (by rfl) T.z_sum (by decide +kernel) (pa_cons (pv 2) pa_nil)) pe_int (nomark _)) (pss_one (ps_set (i := 2) sc_law.nd rfl (by first | exact .inl rfl | exact .inr rfl) (pe_op op_catA (pv 2) (pe_tup (pa_cons (pe_op op_add pe_int (pe_call (ok_l_pick T) (hr.mono (by decide)) (by rfl) T.g_l_pick T.F_l_pick.kp T.b_l_pick .nil pass0 (pa_cons (pv 1) (pa_cons pe_int pa_nil)))) pa_nil))))) pss_nil)))
      (pss_cons (ps_setLc (i := 4) (own := [("_law_k", 3)]) rfl sc_law.nd rfl rfl (sw_true rfl rfl rfl (by decide +kernel)) (pi_range1 (by rfl) T.z_range (pa_cons (pe_call (ok_l_pick T) (hr.mono (by decide)) (by rfl) T.g_l_pick T.F_l_pick.kp T.b_l_pick .nil pass0 (pa_cons (pv 1) (pa_cons pe_int pa_nil))) pa_nil)) (blkOk_by (N := ["_law_script", "_law_row", "_law_moduli", "_law_k", "_law_seen", "_law_good", "_law_some", "_law_due", "_law_sure", "_law_number", "_law_does", "_law_rest"]) (sc := defScope s_law) (by decide +kernel)) (fun _ _ _ _ _ => (pg_name (i := 3) sc_law.nd rfl (by first | exact .inl rfl | exact .inr rfl))) (fun _ _ _ _ _ => pts_nil) (fun _ _ _ _ _ => (pe_tup (pa_cons (pe_op op_sub (pe_call (ok_l_pick T) (hr.mono (by decide)) (by rfl) T.g_l_pick T.F_l_pick.kp T.b_l_pick .nil pass0 (pa_cons (pv 1) (pa_cons pe_int pa_nil))) pe_int) (pa_cons (pe_cmpR op_gt (pe_call (ok_l_pick T) (hr.mono (by decide)) (by rfl) T.g_l_pick T.F_l_pick.kp T.b_l_pick .nil pass0 (pa_cons (pv 1) (pa_cons pe_int pa_nil))) pe_int (nomark _)) pa_nil)))))
      (pss_cons (ps_set (i := 5) sc_law.nd rfl (by first | exact .inl rfl | exact .inr rfl) (pe_lst pa_nil))
      (pss_cons (ps_for PassesOwn.never rfl (pi_list (pe_call (ok_l_rows T) (hr.mono (by decide)) (by rfl) T.g_l_rows T.F_l_rows.kp T.b_l_rows .nil pass0 (pa_cons (pv 2) pa_nil))) (pg_name (i := 6) sc_law.nd rfl (by first | exact .inl rfl | exact .inr rfl)) (pss_one (ps_if (pt_val (pe_callB (cr_all rfl) (by rfl) T.z_all (by decide +kernel) (pa_cons (pe_lc (own := [("_law_number", 9), ("_law_does", 10)]) (g := gTup K 2 (gCons (gName 9) (gCons (gName 10) (gNil)))) rfl sc_law.nd (pi_list (pv 4)) (blkOk_by (N := ["_law_script", "_law_row", "_law_moduli", "_law_k", "_law_seen", "_law_good", "_law_some", "_law_due", "_law_sure", "_law_number", "_law_does", "_law_rest"]) (sc := defScope s_law) (by decide +kernel)) (fun _ _ _ _ _ => (pg_tup (by rfl) (pgs_cons (pg_name (i := 9) sc_law.nd rfl (by first | exact .inl rfl | exact .inr rfl)) (pgs_cons (pg_name (i := 10) sc_law.nd rfl (by first | exact .inl rfl | exact .inr rfl)) pgs_nil)))) (fun _ _ _ _ _ => pts_nil) (fun _ _ _ _ _ => (pe_cmpR op_eq (pe_call (ok_l_has T) (hr.mono (by decide)) (by rfl) T.g_l_has T.F_l_has.kp T.b_l_has .nil pass0 (pa_cons (pv 2) (pa_cons (pv 6) (pa_cons (pv 9) pa_nil)))) (pv 10) (nomark _)))) pa_nil))) (pss_one (ps_expr (pe_bm PySem.F.plainAttrs_list PySem.F.slot_list_append PySem.F.type_list_append mt_append (pv 5) (pa_cons (pv 6) pa_nil)))) pss_nil)))
      (pss_cons (ps_set (i := 7) sc_law.nd rfl (by first | exact .inl rfl | exact .inr rfl) (pe_lst pa_nil))
      (pss_cons (ps_for PassesOwn.never rfl (pi_range1 (by rfl) T.z_range (pa_cons (pe_callB call_len_seq (by rfl) T.z_len (by decide +kernel) (pa_cons (pv 2) pa_nil)) pa_nil)) (pg_name (i := 3) sc_law.nd rfl (by first | exact .inl rfl | exact .inr rfl)) (pss_cons (ps_setLc (i := 8) (own := [("_law_rest", 11)]) rfl sc_law.nd rfl rfl (sw_true rfl rfl rfl (by decide +kernel)) (pi_range1 (by rfl) T.z_range (pa_cons (pe_ix (r := rIxT K) ix_tup (pv 2) (pv 3) (fun _ _ => rfl)) pa_nil)) (blkOk_by (N := ["_law_script", "_law_row", "_law_moduli", "_law_k", "_law_seen", "_law_good", "_law_some", "_law_due", "_law_sure", "_law_number", "_law_does", "_law_rest"]) (sc := defScope s_law) (by decide +kernel)) (fun _ _ _ _ _ => (pg_name (i := 11) sc_law.nd rfl (by first | exact .inl rfl | exact .inr rfl))) (fun _ _ _ _ _ => (pts_one (pt_val (pe_callB (r := rAll K) (cr_all rfl) (by rfl) T.z_all (by decide +kernel) (pa_cons (by exact (pe_lc (own := [("_law_some", 6)]) rfl sc_law.nd (pi_listK (K := K) rfl (pv 5)) (blkOk_by (N := ["_law_script", "_law_row", "_law_moduli", "_law_k", "_law_seen", "_law_good", "_law_some", "_law_due", "_law_sure", "_law_number", "_law_does", "_law_rest"]) (by kernel_rfl)) (fun _ _ _ _ _ => (pg_name (i := 6) sc_law.nd rfl (by first | exact .inl rfl | exact .inr rfl))) (fun _ _ _ _ _ => pts_nil) (fun _ _ _ _ _ => (pe_cmpR (r := rInT K) (op_inT (un65 hr)) (pe_tup (pa_cons (pv 3) (pa_cons (pv 11) pa_nil))) (pv 6) (by rfl))))) pa_nil))))) (fun _ _ _ _ _ => (pv 11)))
      (pss_one (ps_expr (pe_bm PySem.F.plainAttrs_list PySem.F.slot_list_append PySem.F.type_list_append mt_append (pv 7) (pa_cons (pe_tup (pa_cons (pv 8) (pa_cons (pe_lc (own := [("_law_rest", 11)]) rfl sc_law.nd (pi_range1 (by rfl) T.z_range (pa_cons (pe_ix (r := rIxT K) ix_tup (pv 2) (pv 3) (fun _ _ => rfl)) pa_nil)) (blkOk_by (N := ["_law_script", "_law_row", "_law_moduli", "_law_k", "_law_seen", "_law_good", "_law_some", "_law_due", "_law_sure", "_law_number", "_law_does", "_law_rest"]) (sc := defScope s_law) (by decide +kernel)) (fun _ _ _ _ _ => (pg_name (i := 11) sc_law.nd rfl (by first | exact .inl rfl | exact .inr rfl))) (fun _ _ _ _ _ => (pts_one (pt_not (pt_val (pe_callB (r := rAny K) (cr_any rfl) (by rfl) T.z_any (by decide +kernel) (pa_cons (by exact (pe_lc (own := [("_law_some", 6)]) rfl sc_law.nd (pi_listK (K := K) rfl (pv 5)) (blkOk_by (N := ["_law_script", "_law_row", "_law_moduli", "_law_k", "_law_seen", "_law_good", "_law_some", "_law_due", "_law_sure", "_law_number", "_law_does", "_law_rest"]) (by kernel_rfl)) (fun _ _ _ _ _ => (pg_name (i := 6) sc_law.nd rfl (by first | exact .inl rfl | exact .inr rfl))) (fun _ _ _ _ _ => pts_nil) (fun _ _ _ _ _ => (pe_cmpR (r := rInT K) (op_inT (un65 hr)) (pe_tup (pa_cons (pv 3) (pa_cons (pv 11) pa_nil))) (pv 6) (by rfl))))) pa_nil)))))) (fun _ _ _ _ _ => (pv 11))) pa_nil))) pa_nil))))))
      (pss_one (ps_ret (pe_cmpR (op_eqD hr.units) (pe_call (ok_l_told_there T) (hr.mono (by decide)) (by rfl) T.g_l_told_there T.F_l_told_there.kp T.b_l_told_there .nil pass0 (pa_cons (pv 2) (pa_cons (pv 4) pa_nil))) (pe_ifExp (pt_cmpR (op_neD hr.units) (pv 5) (pe_lst pa_nil) (nomark _)) (pv 7) pe_str) (nomark _)))))))))))), ?_⟩
    refine ⟨_, rfl, a, ns, rfl, hS, fun r L H1 s1 R1 => ?_⟩
    refine ⟨sizeOk (by show (0 : Nat) ≤ 100000; decide), fun p0 np0 => ?_⟩
    have s2 := same_upd np0 (o := .tup [])
    have e2 := upd_same (H := H1) (a := p0) (o := .tup [])
    have R2 := R1.stay s2
    generalize upd H1 p0 (.tup []) = H2 at s2 e2 R2 ⊢
    refine ⟨_, rfl, r, L, 3, rfl, R2, by decide, by decide, fun n H3 n0 n1 k3 R3 => ⟨_, _, rfl, rfl, 1 + n, rfl, by omega, by omega, ?_⟩⟩
    have t3 : SqT K H3 p0 [] := R2.tups k3 _ _ (tupOf e2)
    refine for_range (lo := 0) (n := (1 + n).toNat) (fun i σ Hi => ∃ (p : Addr) (ms : List Int) (x3 : Option V), σ = [some (.ref a), some (.ref r), some (.ref p), x3, none, none, none, none, none, none, none, none] ∧ SqT K Hi p (ms.map V.int) ∧ MG i ms ∧ RowAt Hi r L)
      ⟨p0, [], none, rfl, t3, ⟨Nat.le_refl _, fun h => absurd h (by decide), fun m hm => (by cases hm), by decide, fun _ => rfl⟩, R3⟩ ?_ ?_
    · rintro i σ Hi hi ⟨p, ms, x3, rfl, tp, G, R⟩
      refine ⟨_, rfl, p, ms, rfl, tp, _, _, rfl, rfl, _, rfl, ite2 (fun e => ?_) (fun e => ?_)⟩
      · have e' := of_decide_eq_true e
        refine ⟨_, rfl, _, rfl, r, L, 4, rfl, R, by decide, by decide, fun z H4 z0 z1 k4 R4 => ⟨_, _, rfl, rfl, sizeOk (by show (1 : Nat) ≤ 100000; decide), fun t nt => ?_⟩⟩
        have st := same_upd nt (o := .tup [.int (1 + z)])
        have ml := G.len
        have G2 : MG (i + 1) (ms ++ [1 + z]) := by
          refine ⟨by rw [List.length_append, List.length_singleton]; omega, fun _ => by rw [List.length_append, List.length_singleton]; omega, fun m hm => ?_, ?_, fun h => absurd h (Nat.succ_ne_zero _)⟩
          · rcases List.mem_append.mp hm with hm | hm
            · exact G.mod m hm
            · rw [List.mem_singleton.mp hm]
              omega
          · rw [List.sum_append]
            simp
            omega
        refine ⟨p, t, _, _, rfl, rfl, Same.seqTT st (R.tups k4 _ _ tp), tupOf upd_same, ?_, fun e0 => ?_, fun _ e0 => absurd e0 (List.cons_ne_nil _ _), fun _ _ v nv => ?_⟩
        · rw [List.length_map]
          exact sizeOk (by show ms.length + 1 ≤ 100000; omega)
        · have m0 : ms = [] := List.map_eq_nil_iff.mp e0
          exact ⟨t, ms ++ [1 + z], _, rfl, by rw [m0]; exact tupOf upd_same, G2, R4.stay st⟩
        · exact ⟨v, ms ++ [1 + z], _, rfl, by rw [List.map_append]; exact tupOf upd_same, G2, R4.stay (st.trans (same_upd nv))⟩
      · have e' : ¬ ms.sum < 6 := fun h => e (decide_eq_true h)
        refine ⟨p, ms, _, rfl, tp, ⟨by have := G.len; omega, fun _ => ?_, G.mod, G.sum, fun h => absurd h (Nat.succ_ne_zero _)⟩, R⟩
        cases ms with
        | nil => exact absurd (by decide) e'
        | cons a b => exact Nat.succ_le_succ (Nat.zero_le _)
    · rintro σ H4 ⟨p, ms, x3, rfl, tp, G, R4⟩
      have M : MOk ms := ⟨G.one (by omega), by have := G.len; omega, fun m hm => by have := G.mod m hm; omega⟩
      have u9 : (uniL ms).length ≤ 9 := by
        have := (uni_len M).1
        have := G.sum
        omega
      refine ⟨_, rfl, r, L, 5, rfl, R4, by decide, by decide, fun z H5 z0 z1 k5 R5 => ⟨z, rfl, by omega, by omega, fun D nD => ?_⟩⟩
      have nDr := R5.new nD
      refine lc_range (lo := 0) (n := z.toNat) (fun j Hj => ∃ (xs : List V) (sl : List (Int × Bool)), Hj D = some (.lst xs) ∧ Drn Hj xs sl ∧ sl.length = j ∧ Kp r H5 Hj ∧ RowAt Hj r L) ⟨[], [], upd_same, ⟨rfl, fun i x p h _ => by simp at h, fun p hp => (by cases hp)⟩, rfl, Kp.new nD, R5.upd nDr⟩ ?_ ?_
      · rintro j Hj hj ⟨xs, sl, eD, dr, lj, kj, Rj⟩
        refine ⟨rfl, _, rfl, r, L, 13, rfl, Rj, by decide, by decide, fun v H6 v0 v1 k6 R6 => ⟨_, _, rfl, rfl, _, rfl, r, L, 5, rfl, R6, by decide, by decide, fun y H7 y0 y1 k7 R7 => ?_⟩⟩
        refine ⟨_, _, rfl, rfl, sizeOk (by show (2 : Nat) ≤ 100000; decide), fun t nt => ?_⟩
        have k67 := k6.trans k7
        have e7 := k67 _ _ nDr.1 eD
        have st := same_upd nt (o := .tup [.int (v - 6), .bl (decide (1 < y))])
        have ft := upd_same (H := H7) (a := t) (o := .tup [.int (v - 6), .bl (decide (1 < y))])
        have tD' : t ≠ D := fun z => by rw [z, e7] at nt; cases nt
        have d7 := (dr.stay (Rj.tupK k6)).stay (R6.tupK k7)
        refine ⟨_, st _ _ e7, by rw [dr.len, lj]; exact sizeLt (by omega), xs ++ [.ref t], sl ++ [(v - 6, decide (1 < y))], upd_same, (d7.stay fun a u q => ?_).add ?_ ⟨by omega, by omega⟩, by rw [List.length_append, lj]; rfl, ((kj.trans k67).trans (Kp.of st)).add nD, (R7.stay st).upd nDr⟩
        · rw [upd_ne (fun z => by rw [z, e7] at q; cases q)]
          exact st _ _ q
        · rw [upd_ne tD']
          exact ft
      · rintro H6 ⟨xs, sl, eD, dr, lz, k6, R6⟩
        have tp6 := R5.tups k6 _ _ (R4.tups k5 _ _ tp)
        have SN : SeenAt K H6 D sl := ⟨xs, .inl eD, dr.len, fun i x p a b => let ⟨t, e, q⟩ := dr.at_ i x p a b; ⟨t, e, tupOf q⟩⟩
        have O : SOk sl := ⟨by omega, dr.num, fun n => by
          unfold unfitTo
          have := List.length_filter_le (fun p : Int × Bool => !p.2) (sl.take n)
          rw [List.length_take] at this
          omega⟩
        refine ⟨Nat.zero_le _, fun G nG => ?_⟩
        have sG := same_upd nG (o := .lst [])
        have eG := upd_same (H := H6) (a := G) (o := .lst [])
        have DG : D ≠ G := fun z => by rw [z, nG] at eD; cases eD
        have tpG := Same.seqTT sG tp6
        have SNG := SN.stay sG
        have eDG := sG _ _ eD
        generalize upd H6 G (.lst []) = H6' at sG eG tpG SNG eDG ⊢
        refine ⟨_, rfl, p, ms, rfl, tpG, M, u9, fun DS H7 s7 SD => ?_⟩
        obtain ⟨ds, eDS, lDS, fDS⟩ := SD.ex
        have eD7 := s7 _ _ eDG
        have eG7 := s7 _ _ eG
        have tp7 := Same.seqTT s7 tpG
        have SN7 := SNG.stay s7
        have SG : DS ≠ G := fun z => by
          rw [z, eG7] at eDS
          have : ds = [] := List.map_eq_nil_iff.mp (HO.lst.inj (Option.some.inj eDS)).symm
          rw [this, subsL_len] at lDS
          have := Nat.two_pow_pos (uniL ms).length
          simp at lDS
          omega
        refine ⟨DS, rfl, ⟨_, lstOf eDS⟩, for_list (K := K) (a := DS) (xs := ds.map V.ref) (fun j σ Hj => ∃ x6 : Option V, σ = [some (.ref a), some (.ref r), some (.ref p), x3, some (.ref D), some (.ref G), x6, none, none, none, none, none] ∧ SubsAt K Hj G (((subsL (uniL ms)).take j).filter (holds ms sl)) ∧ Kp G H7 Hj) ⟨none, rfl, ⟨[], eG7, rfl, fun i t S a => by simp at a⟩, Kp.refl _ _⟩ (fun j σ Hj _ ⟨_, _, _, kj⟩ => lstOf (kj _ _ SG eDS)) ?_ ?_⟩
        · rintro j y σ Hj hj ⟨x6, rfl, SGj, kj⟩
          rw [List.getElem?_map] at hj
          obtain ⟨tS, htS, rfl⟩ := Option.map_eq_some_iff.mp hj
          have jl := (List.getElem?_eq_some_iff.mp htS).1
          obtain ⟨S, hS'⟩ : ∃ S, (subsL (uniL ms))[j]? = some S := ⟨_, List.getElem?_eq_getElem (by omega)⟩
          have ts := tupsBut (K := K) eG7 kj
          have TS := (fDS j tS S htS hS').stay ts
          have sl4 : sl.length ≤ 4 := by omega
          have eDj := kj _ _ DG eD7
          refine ⟨_, rfl, D, rfl, ⟨_, lstOf eDj⟩, fun G' nG' => ?_⟩
          refine lc_list (K := K) (a := D) (xs := xs) (fun k Hk => Hk G' = some (.lst (((sl.take k).map fun p => decide (has S (marksL ms p.1) = p.2)).map V.bl)) ∧ Same Hj Hk) ⟨upd_same, same_upd nG'⟩ (fun k Hk _ ⟨_, sk⟩ => lstOf (sk _ _ eDj)) ?_ ?_
          · rintro k y Hk hk ⟨eG', sk⟩
            have kl := (List.getElem?_eq_some_iff.mp hk).1
            rw [dr.len] at kl
            have hsl : sl[k]? = some sl[k] := List.getElem?_eq_getElem kl
            obtain ⟨t, rfl, et⟩ := dr.at_ k y _ hk hsl
            have et' := Same.seqTT sk (ts _ _ (tupOf (s7 _ _ (sG _ _ et))))
            refine ⟨t, [_, _], rfl, et', rfl, _, _, rfl, _, _, rfl, rfl, rfl, _, rfl, _, rfl, _, rfl, p, tS, ms, sl[k].1, S, rfl, Same.seqTT sk (ts _ _ tp7), M, TS.stay (.same sk), fun H8 s8 => ⟨_, rfl, rfl, _, s8 _ _ eG', ?_, ?_, samePut (sk.trans s8) nG'⟩⟩
            · rw [List.length_map, List.length_map, List.length_take]
              exact sizeLt (by omega)
            · rw [upd_same, takeSucc hsl, List.map_append, List.map_append]
              refine congrArg some (congrArg HO.lst (congrArg (_ ++ ·) ?_))
              show [V.bl (decide (V.bl (has S (marksL ms sl[k].1)) = V.bl sl[k].2))] = [V.bl (decide (has S (marksL ms sl[k].1) = sl[k].2))]
              rw [decide_eq_decide.mpr (show V.bl (has S (marksL ms sl[k].1)) = V.bl sl[k].2 ↔ has S (marksL ms sl[k].1) = sl[k].2 from ⟨V.bl.inj, congrArg V.bl⟩)]
          · rintro Hk ⟨eG', sk⟩
            rw [dr.len, List.take_length] at eG'
            have ea : ((sl.map fun p => decide (has S (marksL ms p.1) = p.2))).all id = holds ms sl S := by
              rw [List.all_map]
              rfl
            refine ⟨G', _, rfl, lstOf eG', _, rfl, ?_⟩
            rw [ea]
            have tk : ((subsL (uniL ms)).take (j + 1)).filter (holds ms sl) = ((subsL (uniL ms)).take j).filter (holds ms sl) ++ (if holds ms sl S = true then [S] else []) := takeFilter hS'
            refine ite2 (fun e => ?_) (fun e => ?_)
            · rw [tk, if_pos e]
              obtain ⟨gs, eGk, lGk, SGn⟩ := (SGj.stay sk).push (TS.stay (.same sk))
              refine ⟨_, rfl, .inl ⟨rfl, _, lstOf eGk⟩, _, rfl, G, _, _, rfl, rfl, eGk, ?_, some (.ref tS), rfl, SGn, (kj.trans (Kp.of sk)).trans Kp.at_⟩
              have := List.length_filter_le (holds ms sl) ((subsL (uniL ms)).take j)
              have s5 : (subsL (uniL ms)).length ≤ 512 := by
                rw [subsL_len]
                exact Nat.pow_le_pow_right (by decide) u9
              rw [List.length_take] at this
              rw [List.length_map, lGk]
              exact sizeLt (by omega)
            · refine ⟨some (.ref tS), ?_, ?_, kj.trans (Kp.of sk)⟩
              · rfl
              · rw [tk, if_neg e, List.append_nil]
                exact SGj.stay sk
        · rintro σ Hj ⟨x6, rfl, SGj, kj⟩
          rw [List.length_map, lDS, List.take_length] at SGj
          have hgl : (subsL (uniL ms)).filter (holds ms sl) = (subsL (uniL ms)).filter (holds ms sl) := rfl
          revert hgl SGj
          generalize hgl0 : (subsL (uniL ms)).filter (holds ms sl) = gl
          intro SGj _
          have gl5 : gl.length ≤ 512 := by
            rw [← hgl0]
            refine Nat.le_trans (List.length_filter_le _ _) ?_
            rw [subsL_len]
            exact Nat.pow_le_pow_right (by decide) u9
          have tsj := tupsBut (K := K) eG7 kj
          have tpj := tsj _ _ tp7
          have SNj : SeenAt K Hj D sl := ⟨xs, .inl (kj _ _ DG eD7), dr.len, fun i x p a b => let ⟨t, e, q⟩ := dr.at_ i x p a b; ⟨t, e, tsj _ _ (tupOf (s7 _ _ (sG _ _ q)))⟩⟩
          obtain ⟨gs, eGj, lG, fG⟩ := SGj.ex
          have ml := M.four
          refine ⟨Nat.zero_le _, fun U0 nU => ?_⟩
          refine ⟨_, rfl, p, _, rfl, .inr (Same.seqTT (same_upd nU) tpj), _, rfl, by omega, by rw [List.length_map]; omega, ?_⟩
          rw [List.length_map, Int.toNat_natCast]
          refine for_range (lo := 0) (n := ms.length) (fun k σ Hk => ∃ (x3 x8 : Option V) (ys : List V), σ = [some (.ref a), some (.ref r), some (.ref p), x3, some (.ref D), some (.ref G), x6, some (.ref U0), x8, none, none, none] ∧ Hk U0 = some (.lst ys) ∧ PLAt (upd Hk U0 (.tup [])) ys (dueTo ms gl k) ∧ Same Hj Hk)
            ⟨_, _, [], rfl, upd_same, ⟨rfl, fun i x p a _ => by simp at a⟩, same_upd nU⟩ ?_ ?_
          · rintro k σ Hk hk ⟨x3', x8, ys, rfl, eU, PL, sk⟩
            have hm : ms[k]? = some ms[k] := List.getElem?_eq_getElem hk
            have mm := M.mod _ (List.getElem_mem hk)
            have eg : ms.getD k 1 = ms[k] := by rw [List.getD_eq_getElem?_getD, hm]; rfl
            have tpk := Same.seqTT sk tpj
            have at_ : atI (ms.map V.int) (0 + (k : Int)) = some (V.int ms[k]) := by
              rw [Int.zero_add]
              exact atI_nat (j := k) (by rw [List.getElem?_map, hm]; rfl)
            refine ⟨_, rfl, _, rfl, p, _, _, _, rfl, rfl, tpk, at_, _, rfl, by omega, by omega, fun Z nZ => ?_⟩
            refine lc_range (lo := 0) (n := ms[k].toNat) (fun i Hi => Hi Z = some (.lst ((allOf gl k i).map V.int)) ∧ Same Hk Hi) ⟨upd_same, same_upd nZ⟩ ?_ ?_
            · rintro i Hi hi ⟨eZ, si⟩
              have OTH := si
              refine ⟨rfl, _, rfl, G, rfl, ⟨_, lstOf (si _ _ (sk _ _ eGj))⟩, fun Y nY => ?_⟩
              refine lc_list (K := K) (a := G) (xs := gs.map V.ref) (fun y Hy => Hy Y = some (.lst (((gl.take y).map fun S => decide ([(k : Int), (i : Int)] ∈ S)).map V.bl)) ∧ Same Hi Hy) ⟨upd_same, same_upd nY⟩ (fun y Hy _ ⟨_, sy⟩ => lstOf (sy _ _ (si _ _ (sk _ _ eGj)))) ?_ ?_
              · rintro y x Hy hy ⟨eY, sy⟩
                rw [List.getElem?_map] at hy
                obtain ⟨tS, htS, rfl⟩ := Option.map_eq_some_iff.mp hy
                have yl := (List.getElem?_eq_some_iff.mp htS).1
                obtain ⟨S, hS⟩ : ∃ S, gl[y]? = some S := ⟨_, List.getElem?_eq_getElem (by omega)⟩
                have TS := (fG y tS S htS hS).stay (.same ((sk.trans OTH).trans sy))
                refine ⟨rfl, _, rfl, _, rfl, sizeOk (by show (2 : Nat) ≤ 100000; decide), fun u nu => ?_⟩
                have su := same_upd nu (o := .tup [.int (0 + (k : Int)), .int (0 + (i : Int))])
                refine ⟨_, rfl, u, tS, [(k : Int), (i : Int)], S, rfl, rfl, tupOf (by rw [upd_same, Int.zero_add, Int.zero_add]; rfl), TS.stay (.same su), ?_⟩
                refine ⟨_, su _ _ eY, ?_, ?_, samePut (sy.trans su) nY⟩
                · rw [List.length_map, List.length_map, List.length_take]
                  exact sizeLt (by omega)
                · rw [upd_same, takeSucc hS, List.map_append, List.map_append]
                  rfl
              · rintro Hy ⟨eY, sy⟩
                rw [List.length_map, lG, List.take_length] at eY
                have ea : ((gl.map fun S => decide ([(k : Int), (i : Int)] ∈ S))).all id = gl.all fun S => decide ([(k : Int), (i : Int)] ∈ S) := by
                  rw [List.all_map]
                  rfl
                refine ⟨Y, _, rfl, lstOf eY, _, rfl, ?_⟩
                rw [ea, allOf_succ]
                refine ite2 (fun e => ?_) (fun e => ?_)
                · rw [if_pos e]
                  refine ⟨_, rfl, _, sy _ _ eZ, ?_, ?_, samePut (si.trans sy) nZ⟩
                  · have := allOf_len gl k i
                    rw [List.length_map]
                    exact sizeLt (by omega)
                  · rw [upd_same, List.map_append, Int.zero_add]
                    rfl
                · rw [if_neg e, List.append_nil]
                  exact ⟨sy _ _ eZ, si.trans sy⟩
            · rintro Hz ⟨eZ, sz⟩
              have eUz := sz _ _ eU
              have Gz := sz _ _ (sk _ _ eGj)
              refine ⟨_, rfl, .inl ⟨rfl, _, lstOf eUz⟩, _, rfl, ?_⟩
              refine ⟨_, rfl, _, rfl, p, _, _, _, rfl, rfl, Same.seqTT sz tpk, at_, _, rfl, by omega, by omega, fun Z2 nZ2 => ?_⟩
              refine lc_range (lo := 0) (n := ms[k].toNat) (fun i Hi => Hi Z2 = some (.lst ((noneOf gl k i).map V.int)) ∧ Same Hz Hi) ⟨upd_same, same_upd nZ2⟩ ?_ ?_
              · rintro i Hi hi ⟨eZ2, si⟩
                have OTH := sz.trans si
                refine ⟨rfl, _, rfl, G, rfl, ⟨_, lstOf (si _ _ Gz)⟩, fun Y nY => ?_⟩
                refine lc_list (K := K) (a := G) (xs := gs.map V.ref) (fun y Hy => Hy Y = some (.lst (((gl.take y).map fun S => decide ([(k : Int), (i : Int)] ∈ S)).map V.bl)) ∧ Same Hi Hy) ⟨upd_same, same_upd nY⟩ (fun y Hy _ ⟨_, sy⟩ => lstOf (sy _ _ (si _ _ Gz))) ?_ ?_
                · rintro y x Hy hy ⟨eY, sy⟩
                  rw [List.getElem?_map] at hy
                  obtain ⟨tS, htS, rfl⟩ := Option.map_eq_some_iff.mp hy
                  have yl := (List.getElem?_eq_some_iff.mp htS).1
                  obtain ⟨S, hS⟩ : ∃ S, gl[y]? = some S := ⟨_, List.getElem?_eq_getElem (by omega)⟩
                  have TS := (fG y tS S htS hS).stay (.same ((sk.trans OTH).trans sy))
                  refine ⟨rfl, _, rfl, _, rfl, sizeOk (by show (2 : Nat) ≤ 100000; decide), fun u nu => ?_⟩
                  have su := same_upd nu (o := .tup [.int (0 + (k : Int)), .int (0 + (i : Int))])
                  refine ⟨_, rfl, u, tS, [(k : Int), (i : Int)], S, rfl, rfl, tupOf (by rw [upd_same, Int.zero_add, Int.zero_add]; rfl), TS.stay (.same su), ?_⟩
                  refine ⟨_, su _ _ eY, ?_, ?_, samePut (sy.trans su) nY⟩
                  · rw [List.length_map, List.length_map, List.length_take]
                    exact sizeLt (by omega)
                  · rw [upd_same, takeSucc hS, List.map_append, List.map_append]
                    rfl
                · rintro Hy ⟨eY, sy⟩
                  rw [List.length_map, lG, List.take_length] at eY
                  have ea : ((gl.map fun S => decide ([(k : Int), (i : Int)] ∈ S))).any id = gl.any fun S => decide ([(k : Int), (i : Int)] ∈ S) := by
                    rw [List.any_map]
                    rfl
                  refine ⟨Y, _, rfl, lstOf eY, _, rfl, ?_⟩
                  rw [ea, noneOf_succ]
                  refine ite2 (fun e => ?_) (fun e => ?_)
                  · rw [if_pos e]
                    refine ⟨_, rfl, _, sy _ _ eZ2, ?_, ?_, samePut (si.trans sy) nZ2⟩
                    · have := noneOf_len gl k i
                      rw [List.length_map]
                      exact sizeLt (by omega)
                    · rw [upd_same, List.map_append, Int.zero_add]
                      rfl
                  · rw [if_neg e, List.append_nil]
                    exact ⟨sy _ _ eZ2, si.trans sy⟩
              · rintro Hw ⟨eZ2, sw⟩
                refine ⟨sizeOk (by show (2 : Nat) ≤ 100000; decide), fun t nt => ?_⟩
                have st := same_upd nt (o := .tup [.ref Z, .ref Z2])
                have eUw := sw _ _ eUz
                have eZw := sw _ _ eZ
                have tU : t ≠ U0 := fun z => by rw [z, eUw] at nt; cases nt
                have ZU : Z ≠ U0 := fun z => by rw [z, eU] at nZ; cases nZ
                have Z2U : Z2 ≠ U0 := fun z => by rw [z, eUz] at nZ2; cases nZ2
                have tZ : t ≠ Z := fun z => by rw [z, eZw] at nt; cases nt
                have tZ2 : t ≠ Z2 := fun z => by rw [z, eZ2] at nt; cases nt
                have skw := (sz.trans sw).trans st
                refine ⟨U0, _, _, rfl, rfl, st _ _ eUw, ?_, _, some (.ref Z), ys ++ [.ref t], rfl, upd_same, ?_, samePut (sk.trans skw) nU⟩
                · have := PL.len
                  unfold dueTo at this
                  rw [List.length_map, List.length_range] at this
                  exact sizeLt (by omega)
                · rw [upd_upd, dueTo_succ, eg]
                  refine PLAt.add (t := t) (d := Z) (e := Z2) (p := (allOf gl k ms[k].toNat, noneOf gl k ms[k].toNat)) (PL.same (sameUpd skw)) ?_ ?_ ?_
                  · rw [upd_ne tU, upd_same]
                  · rw [upd_ne ZU, upd_ne (Ne.symm tZ), eZw]
                  · rw [upd_ne Z2U, upd_ne (Ne.symm tZ2), eZ2]
          · rintro σ Hk ⟨x3', x8, ys, rfl, eU, PL, sk⟩
            have PLk := PL.off
            refine ⟨_, rfl, _, rfl, p, D, ms, sl, uniL ms, rfl, Same.seqTT sk tpj, M, SNj.stay sk, O, by omega, fun p _ _ z hz => marks_uni M hz, fun hl hl2 h1 h2 => ⟨fun c H' s' => ?_, fun c D' xs' rows' H' s' e' PL' l' ok' => ?_⟩⟩
            · have gn : gl = [] := hgl0 ▸ (due_nil M h1 h2).mpr c
              refine ⟨_, rfl, Nat.zero_le _, fun y ny => ?_⟩
              have sy := same_upd ny (o := .lst [])
              have SGy := SGj.stay (sk.trans (s'.trans sy))
              refine ⟨_, _, SGy.dp, .lst (lstOf upd_same) .nil, (okSubs _).shaped (by decide), by decide, _, rfl, ?_⟩
              rw [eqvSubs, gn]
              have os : okD 0 (.str (Str.ofString "nothing")) := ⟨by rw [PyData.canLay0] <;> decide +kernel, by rw [PyData.depth]; exact Nat.le_refl _⟩
              refine ⟨_, _, .str _, .str _, os.shaped (by decide), os.shaped (by decide), ?_⟩
              rw [os.eqv]
              exact q _
            · have gn : ¬ gl = [] := fun z => c ((due_nil M h1 h2).mp (hgl0.trans z))
              refine ⟨_, rfl, Nat.zero_le _, fun y ny => ?_⟩
              have sy := same_upd ny (o := .lst [])
              have SGy := SGj.stay (sk.trans (s'.trans sy))
              refine ⟨_, _, SGy.dp, .lst (lstOf upd_same) .nil, (okSubs _).shaped (by decide), by decide, _, rfl, ?_⟩
              rw [eqvSubs, decide_eq_false gn]
              have er : rows' = dueTo ms gl ms.length := hgl0 ▸ due_rows M h1 h2 c l' ok'
              have e1 := sy _ _ e'
              have e2 := sy _ _ (s' _ _ eU)
              refine iteT ⟨_, rfl, _, _, .lst (lstOf e1) (PL'.same sy).dp, .lst (lstOf e2) (PLk.same (s'.trans sy)).dp, (okRows _).shaped (by decide), (okRows _).shaped (by decide), ?_⟩
              rw [er, (okRows _).eqv]
              exact q _
end

end R
namespace R
open PySem PySem.Spec PyProof.Rows L2
theorem kit_ref {K : PySem.W.Frag} {C : Addr} {t : Value} (h1 : PySem.W.hasDictIn K C = true) (h2 : PySem.W.typeIn K (.ref C) = some (.type "type")) (h3 : PySem.W.subIn K t (.ref C) = some true) : PySem.W.kitOne K t (.ref C) = some true := by
  obtain ⟨cd, hc, _⟩ := PySem.W.any_some h1
  unfold PySem.W.kitOne
  split
  · rfl
  · show (if ((PySem.W.clsIn K C).isSome && PySem.W.typeIn K (.ref C) == some (.type "type")) = true then PySem.W.subIn K t (.ref C) else none) = some true
    rw [hc, h2]
    exact h3
theorem all_mk {l : PySem.W.OpenLaw} {w : World} {K : PySem.W.Frag} {h : Heap} {mg : Str → Option Value} {fa : Addr} (X : K.In h) (G : h.Ns mainGlobals mg) (hfa : mg "law" = some (.ref fa))
    {f0 : Addr} {oc0 kV0 dc0 pm0 cd0 ct0 : Value} {od0 an0 : Option Addr} {sl0 : Array (Option Value)}
    (a0 : PySem.W.nsIn K mainGlobals "is_integer" = some (some (.ref f0)))
    {f1 : Addr} {oc1 kV1 dc1 pm1 cd1 ct1 : Value} {od1 an1 : Option Addr} {sl1 : Array (Option Value)}
    (a1 : PySem.W.nsIn K mainGlobals "integer_within" = some (some (.ref f1)))
    {f2 : Addr} {oc2 kV2 dc2 pm2 cd2 ct2 : Value} {od2 an2 : Option Addr} {sl2 : Array (Option Value)}
    (a2 : PySem.W.nsIn K mainGlobals "is_number" = some (some (.ref f2)))
    {f3 : Addr} {oc3 kV3 dc3 pm3 cd3 ct3 : Value} {od3 an3 : Option Addr} {sl3 : Array (Option Value)}
    (a3 : PySem.W.nsIn K mainGlobals "is_pair" = some (some (.ref f3)))
    {f4 : Addr} {oc4 kV4 dc4 pm4 cd4 ct4 : Value} {od4 an4 : Option Addr} {sl4 : Array (Option Value)}
    (a4 : PySem.W.nsIn K mainGlobals "check_moduli" = some (some (.ref f4)))
    {f5 : Addr} {oc5 kV5 dc5 pm5 cd5 ct5 : Value} {od5 an5 : Option Addr} {sl5 : Array (Option Value)}
    (a5 : PySem.W.nsIn K mainGlobals "is_sight" = some (some (.ref f5)))
    {f6 : Addr} {oc6 kV6 dc6 pm6 cd6 ct6 : Value} {od6 an6 : Option Addr} {sl6 : Array (Option Value)}
    (a6 : PySem.W.nsIn K mainGlobals "check_seen" = some (some (.ref f6)))
    {f7 : Addr} {oc7 kV7 dc7 pm7 cd7 ct7 : Value} {od7 an7 : Option Addr} {sl7 : Array (Option Value)}
    (a7 : PySem.W.nsIn K mainGlobals "marks_of" = some (some (.ref f7)))
    {f8 : Addr} {oc8 kV8 dc8 pm8 cd8 ct8 : Value} {od8 an8 : Option Addr} {sl8 : Array (Option Value)}
    (a8 : PySem.W.nsIn K mainGlobals "held_marks" = some (some (.ref f8)))
    {f9 : Addr} {oc9 kV9 dc9 pm9 cd9 ct9 : Value} {od9 an9 : Option Addr} {sl9 : Array (Option Value)}
    (a9 : PySem.W.nsIn K mainGlobals "unheld_marks" = some (some (.ref f9)))
    {f10 : Addr} {oc10 kV10 dc10 pm10 cd10 ct10 : Value} {od10 an10 : Option Addr} {sl10 : Array (Option Value)}
    (a10 : PySem.W.nsIn K mainGlobals "rests_at" = some (some (.ref f10)))
    {f11 : Addr} {oc11 kV11 dc11 pm11 cd11 ct11 : Value} {od11 an11 : Option Addr} {sl11 : Array (Option Value)}
    (a11 : PySem.W.nsIn K mainGlobals "sure_rests" = some (some (.ref f11)))
    {f12 : Addr} {oc12 kV12 dc12 pm12 cd12 ct12 : Value} {od12 an12 : Option Addr} {sl12 : Array (Option Value)}
    (a12 : PySem.W.nsIn K mainGlobals "_law_draws" = some (some (.ref f12)))
    {f13 : Addr} {oc13 kV13 dc13 pm13 cd13 ct13 : Value} {od13 an13 : Option Addr} {sl13 : Array (Option Value)}
    (a13 : PySem.W.nsIn K mainGlobals "_law_pick" = some (some (.ref f13)))
    {f14 : Addr} {oc14 kV14 dc14 pm14 cd14 ct14 : Value} {od14 an14 : Option Addr} {sl14 : Array (Option Value)}
    (a14 : PySem.W.nsIn K mainGlobals "_law_rows" = some (some (.ref f14)))
    {f15 : Addr} {oc15 kV15 dc15 pm15 cd15 ct15 : Value} {od15 an15 : Option Addr} {sl15 : Array (Option Value)}
    (a15 : PySem.W.nsIn K mainGlobals "_law_has" = some (some (.ref f15)))
    {f16 : Addr} {oc16 kV16 dc16 pm16 cd16 ct16 : Value} {od16 an16 : Option Addr} {sl16 : Array (Option Value)}
    (a16 : PySem.W.nsIn K mainGlobals "_law_told_there" = some (some (.ref f16)))
    {f17 : Addr} {oc17 kV17 dc17 pm17 cd17 ct17 : Value} {od17 an17 : Option Addr} {sl17 : Array (Option Value)}
    (a17 : PySem.W.nsIn K mainGlobals "law" = some (some (.ref f17)))
    (l0 : K.lookup f0 = some ⟨oc0, od0, .func (PySem.W.fnOf "is_integer" "is_integer" (defArgs s_p_is_integer) (defBody s_p_is_integer) (defScope s_p_is_integer) .none kV0 dc0 pm0 an0 cd0 ct0), sl0⟩)
    (d0 : PySem.W.codeIn K cd0 "is_integer" = true)
    (k0 : PySem.W.keepIn K (.ref f0) = true)
    (l1 : K.lookup f1 = some ⟨oc1, od1, .func (PySem.W.fnOf "integer_within" "integer_within" (defArgs s_p_integer_within) (defBody s_p_integer_within) (defScope s_p_integer_within) .none kV1 dc1 pm1 an1 cd1 ct1), sl1⟩)
    (d1 : PySem.W.codeIn K cd1 "integer_within" = true)
    (k1 : PySem.W.keepIn K (.ref f1) = true)
    (l2 : K.lookup f2 = some ⟨oc2, od2, .func (PySem.W.fnOf "is_number" "is_number" (defArgs s_p_is_number) (defBody s_p_is_number) (defScope s_p_is_number) .none kV2 dc2 pm2 an2 cd2 ct2), sl2⟩)
    (d2 : PySem.W.codeIn K cd2 "is_number" = true)
    (k2 : PySem.W.keepIn K (.ref f2) = true)
    (l3 : K.lookup f3 = some ⟨oc3, od3, .func (PySem.W.fnOf "is_pair" "is_pair" (defArgs s_p_is_pair) (defBody s_p_is_pair) (defScope s_p_is_pair) .none kV3 dc3 pm3 an3 cd3 ct3), sl3⟩)
    (d3 : PySem.W.codeIn K cd3 "is_pair" = true)
    (k3 : PySem.W.keepIn K (.ref f3) = true)
    (l4 : K.lookup f4 = some ⟨oc4, od4, .func (PySem.W.fnOf "check_moduli" "check_moduli" (defArgs s_p_check_moduli) (defBody s_p_check_moduli) (defScope s_p_check_moduli) .none kV4 dc4 pm4 an4 cd4 ct4), sl4⟩)
    (d4 : PySem.W.codeIn K cd4 "check_moduli" = true)
    (k4 : PySem.W.keepIn K (.ref f4) = true)
    (l5 : K.lookup f5 = some ⟨oc5, od5, .func (PySem.W.fnOf "is_sight" "is_sight" (defArgs s_p_is_sight) (defBody s_p_is_sight) (defScope s_p_is_sight) .none kV5 dc5 pm5 an5 cd5 ct5), sl5⟩)
    (d5 : PySem.W.codeIn K cd5 "is_sight" = true)
    (k5 : PySem.W.keepIn K (.ref f5) = true)
    (l6 : K.lookup f6 = some ⟨oc6, od6, .func (PySem.W.fnOf "check_seen" "check_seen" (defArgs s_p_check_seen) (defBody s_p_check_seen) (defScope s_p_check_seen) .none kV6 dc6 pm6 an6 cd6 ct6), sl6⟩)
    (d6 : PySem.W.codeIn K cd6 "check_seen" = true)
    (k6 : PySem.W.keepIn K (.ref f6) = true)
    (l7 : K.lookup f7 = some ⟨oc7, od7, .func (PySem.W.fnOf "marks_of" "marks_of" (defArgs s_p_marks_of) (defBody s_p_marks_of) (defScope s_p_marks_of) .none kV7 dc7 pm7 an7 cd7 ct7), sl7⟩)
    (d7 : PySem.W.codeIn K cd7 "marks_of" = true)
    (k7 : PySem.W.keepIn K (.ref f7) = true)
    (l8 : K.lookup f8 = some ⟨oc8, od8, .func (PySem.W.fnOf "held_marks" "held_marks" (defArgs s_p_held_marks) (defBody s_p_held_marks) (defScope s_p_held_marks) .none kV8 dc8 pm8 an8 cd8 ct8), sl8⟩)
    (d8 : PySem.W.codeIn K cd8 "held_marks" = true)
    (k8 : PySem.W.keepIn K (.ref f8) = true)
    (l9 : K.lookup f9 = some ⟨oc9, od9, .func (PySem.W.fnOf "unheld_marks" "unheld_marks" (defArgs s_p_unheld_marks) (defBody s_p_unheld_marks) (defScope s_p_unheld_marks) .none kV9 dc9 pm9 an9 cd9 ct9), sl9⟩)
    (d9 : PySem.W.codeIn K cd9 "unheld_marks" = true)
    (k9 : PySem.W.keepIn K (.ref f9) = true)
    (l10 : K.lookup f10 = some ⟨oc10, od10, .func (PySem.W.fnOf "rests_at" "rests_at" (defArgs s_p_rests_at) (defBody s_p_rests_at) (defScope s_p_rests_at) .none kV10 dc10 pm10 an10 cd10 ct10), sl10⟩)
    (d10 : PySem.W.codeIn K cd10 "rests_at" = true)
    (k10 : PySem.W.keepIn K (.ref f10) = true)
    (l11 : K.lookup f11 = some ⟨oc11, od11, .func (PySem.W.fnOf "sure_rests" "sure_rests" (defArgs s_p_sure_rests) (defBody s_p_sure_rests) (defScope s_p_sure_rests) .none kV11 dc11 pm11 an11 cd11 ct11), sl11⟩)
    (d11 : PySem.W.codeIn K cd11 "sure_rests" = true)
    (k11 : PySem.W.keepIn K (.ref f11) = true)
    (l12 : K.lookup f12 = some ⟨oc12, od12, .func (PySem.W.fnOf "_law_draws" "_law_draws" (defArgs s_l_draws) (defBody s_l_draws) (defScope s_l_draws) .none kV12 dc12 pm12 an12 cd12 ct12), sl12⟩)
    (d12 : PySem.W.codeIn K cd12 "_law_draws" = true)
    (k12 : PySem.W.keepIn K (.ref f12) = true)
    (l13 : K.lookup f13 = some ⟨oc13, od13, .func (PySem.W.fnOf "_law_pick" "_law_pick" (defArgs s_l_pick) (defBody s_l_pick) (defScope s_l_pick) .none kV13 dc13 pm13 an13 cd13 ct13), sl13⟩)
    (d13 : PySem.W.codeIn K cd13 "_law_pick" = true)
    (k13 : PySem.W.keepIn K (.ref f13) = true)
    (l14 : K.lookup f14 = some ⟨oc14, od14, .func (PySem.W.fnOf "_law_rows" "_law_rows" (defArgs s_l_rows) (defBody s_l_rows) (defScope s_l_rows) .none kV14 dc14 pm14 an14 cd14 ct14), sl14⟩)
    (d14 : PySem.W.codeIn K cd14 "_law_rows" = true)
    (k14 : PySem.W.keepIn K (.ref f14) = true)
    (l15 : K.lookup f15 = some ⟨oc15, od15, .func (PySem.W.fnOf "_law_has" "_law_has" (defArgs s_l_has) (defBody s_l_has) (defScope s_l_has) .none kV15 dc15 pm15 an15 cd15 ct15), sl15⟩)
    (d15 : PySem.W.codeIn K cd15 "_law_has" = true)
    (k15 : PySem.W.keepIn K (.ref f15) = true)
    (l16 : K.lookup f16 = some ⟨oc16, od16, .func (PySem.W.fnOf "_law_told_there" "_law_told_there" (defArgs s_l_told_there) (defBody s_l_told_there) (defScope s_l_told_there) .none kV16 dc16 pm16 an16 cd16 ct16), sl16⟩)
    (d16 : PySem.W.codeIn K cd16 "_law_told_there" = true)
    (k16 : PySem.W.keepIn K (.ref f16) = true)
    (l17 : K.lookup f17 = some ⟨oc17, od17, .func (PySem.W.fnOf "law" "law" (defArgs s_law) (defBody s_law) (defScope s_law) .none kV17 dc17 pm17 an17 cd17 ct17), sl17⟩)
    (d17 : PySem.W.codeIn K cd17 "law" = true)
    (k17 : PySem.W.keepIn K (.ref f17) = true)
    (z_len : PySem.W.nsIn K mainGlobals "len" = some none)
    (z_sum : PySem.W.nsIn K mainGlobals "sum" = some none)
    (z_range : PySem.W.nsIn K mainGlobals "range" = some none)
    (z_int : PySem.W.nsIn K mainGlobals "int" = some none)
    (z_list : PySem.W.nsIn K mainGlobals "list" = some none)
    (z_tuple : PySem.W.nsIn K mainGlobals "tuple" = some none)
    (z_sorted : PySem.W.nsIn K mainGlobals "sorted" = some none)
    (z_isinstance : PySem.W.nsIn K mainGlobals "isinstance" = some none)
    (z_enumerate : PySem.W.nsIn K mainGlobals "enumerate" = some none)
    (z_bool : PySem.W.nsIn K mainGlobals "bool" = some none)
    (z_any : PySem.W.nsIn K mainGlobals "any" = some none)
    (z_all : PySem.W.nsIn K mainGlobals "all" = some none)
    {t_GREATEST_NUMBER : Tok}
    (c_GREATEST_NUMBER : PySem.W.nsIn K mainGlobals "GREATEST_NUMBER" = some (some (.int 1000000000000000000000000000000 t_GREATEST_NUMBER)))
    {t_MOST_MODULI : Tok}
    (c_MOST_MODULI : PySem.W.nsIn K mainGlobals "MOST_MODULI" = some (some (.int 4 t_MOST_MODULI)))
    {t_GREATEST_TOLD_BY : Tok}
    (c_GREATEST_TOLD_BY : PySem.W.nsIn K mainGlobals "GREATEST_TOLD_BY" = some (some (.int 30 t_GREATEST_TOLD_BY)))
    {t_MOST_SEEN : Tok}
    (c_MOST_SEEN : PySem.W.nsIn K mainGlobals "MOST_SEEN" = some (some (.int 20 t_MOST_SEEN)))
    {t_MOST_UNFIT : Tok}
    (c_MOST_UNFIT : PySem.W.nsIn K mainGlobals "MOST_UNFIT" = some (some (.int 8 t_MOST_UNFIT)))
    {C_RestError : Addr}
    (g_RestError : PySem.W.nsIn K mainGlobals "RestError" = some (some (.ref C_RestError)))
    (hR : PySem.W.hasDictIn K C_RestError = true)
    (tR : PySem.W.typeIn K (.ref C_RestError) = some (.type "type"))
    {C_Nothing : Addr}
    (g_Nothing : PySem.W.nsIn K mainGlobals "Nothing" = some (some (.ref C_Nothing)))
    (x_Nothing : PySem.W.excIn K C_Nothing [.type "ValueError", .type "Exception", .type "BaseException", .type "object"] "ValueError.__new__" = true)
    (k_Nothing : PySem.W.keepIn K (.ref C_Nothing) = true)
    (b_Nothing : PySem.W.subIn K (.ref C_Nothing) (.type "BaseException") = some true)
    (t_Nothing : PySem.W.typeIn K (.ref C_Nothing) = some (.type "type"))
    (e_Nothing : PySem.W.subIn K (.ref C_Nothing) (.ref C_Nothing) = some true)
    (E1_Nothing : PySem.W.findIn K (.ref C_Nothing) "__getattribute__" = some (some (.builtin "BaseException.__getattribute__")))
    (E2_Nothing : PySem.W.findIn K (.ref C_Nothing) "__getattr__" = some none)
    (E3_Nothing : PySem.W.hasDictIn K C_Nothing = true)
    (E4_Nothing : PySem.W.findIn K (.ref C_Nothing) "__class__" = some (some (.builtin "object.__class__")))
    (E5_Nothing : PySem.W.specialIn K (.builtin "object.__class__") "__get__" = some (some (.builtin "getset_descriptor.__get__")))
    (E6_Nothing : PySem.W.takesIn K (.builtin "object.__class__") = some true)
    (E7_Nothing : PySem.W.mroIn K C_Nothing (.type "object") = some true)
    (r_Nothing : PySem.W.subIn K (.ref C_Nothing) (.ref C_RestError) = some true)
    : ∃ fd : FuncData, (∀ (s : Shared) (v : Value), BindsTo s fd ⟨[v], []⟩ [("_law_script", v)]) ∧ ∀ base : Heap, K.In base → base.Ns mainGlobals mg → FnOk l.prog w K mg base CX0 9 fa fd ["_law_script"] (sp_law K) := by
  have e := hfa.symm.trans (PySem.W.mg_of X G a17)
  cases e
  have F0 := fun_mk (st := s_p_is_integer) l0 d0 k0
  have b0 := F0.binds (ps := ["value"]) fun _ _ _ _ _ _ us hl => match us, hl with | [_], _ => rfl
  have F1 := fun_mk (st := s_p_integer_within) l1 d1 k1
  have b1 := F1.binds (ps := ["value", "least", "greatest"]) fun _ _ _ _ _ _ us hl => match us, hl with | [_, _, _], _ => rfl
  have F2 := fun_mk (st := s_p_is_number) l2 d2 k2
  have b2 := F2.binds (ps := ["value"]) fun _ _ _ _ _ _ us hl => match us, hl with | [_], _ => rfl
  have F3 := fun_mk (st := s_p_is_pair) l3 d3 k3
  have b3 := F3.binds (ps := ["value"]) fun _ _ _ _ _ _ us hl => match us, hl with | [_], _ => rfl
  have F4 := fun_mk (st := s_p_check_moduli) l4 d4 k4
  have b4 := F4.binds (ps := ["moduli"]) fun _ _ _ _ _ _ us hl => match us, hl with | [_], _ => rfl
  have F5 := fun_mk (st := s_p_is_sight) l5 d5 k5
  have b5 := F5.binds (ps := ["value"]) fun _ _ _ _ _ _ us hl => match us, hl with | [_], _ => rfl
  have F6 := fun_mk (st := s_p_check_seen) l6 d6 k6
  have b6 := F6.binds (ps := ["seen"]) fun _ _ _ _ _ _ us hl => match us, hl with | [_], _ => rfl
  have F7 := fun_mk (st := s_p_marks_of) l7 d7 k7
  have b7 := F7.binds (ps := ["moduli", "number"]) fun _ _ _ _ _ _ us hl => match us, hl with | [_, _], _ => rfl
  have F8 := fun_mk (st := s_p_held_marks) l8 d8 k8
  have b8 := F8.binds (ps := ["moduli", "seen"]) fun _ _ _ _ _ _ us hl => match us, hl with | [_, _], _ => rfl
  have F9 := fun_mk (st := s_p_unheld_marks) l9 d9 k9
  have b9 := F9.binds (ps := ["moduli", "seen"]) fun _ _ _ _ _ _ us hl => match us, hl with | [_, _], _ => rfl
  have F10 := fun_mk (st := s_p_rests_at) l10 d10 k10
  have b10 := F10.binds (ps := ["marks", "index"]) fun _ _ _ _ _ _ us hl => match us, hl with | [_, _], _ => rfl
  have F11 := fun_mk (st := s_p_sure_rests) l11 d11 k11
  have b11 := F11.binds (ps := ["moduli", "seen"]) fun _ _ _ _ _ _ us hl => match us, hl with | [_, _], _ => rfl
  have F12 := fun_mk (st := s_l_draws) l12 d12 k12
  have b12 := F12.binds (ps := ["_law_script"]) fun _ _ _ _ _ _ us hl => match us, hl with | [_], _ => rfl
  have F13 := fun_mk (st := s_l_pick) l13 d13 k13
  have b13 := F13.binds (ps := ["_law_row", "_law_many"]) fun _ _ _ _ _ _ us hl => match us, hl with | [_, _], _ => rfl
  have F14 := fun_mk (st := s_l_rows) l14 d14 k14
  have b14 := F14.binds (ps := ["_law_moduli"]) fun _ _ _ _ _ _ us hl => match us, hl with | [_], _ => rfl
  have F15 := fun_mk (st := s_l_has) l15 d15 k15
  have b15 := F15.binds (ps := ["_law_moduli", "_law_some", "_law_number"]) fun _ _ _ _ _ _ us hl => match us, hl with | [_, _, _], _ => rfl
  have F16 := fun_mk (st := s_l_told_there) l16 d16 k16
  have b16 := F16.binds (ps := ["_law_moduli", "_law_seen"]) fun _ _ _ _ _ _ us hl => match us, hl with | [_, _], _ => rfl
  have F17 := fun_mk (st := s_law) l17 d17 k17
  have b17 := F17.binds (ps := ["_law_script"]) fun _ _ _ _ _ _ us hl => match us, hl with | [_], _ => rfl
  let T : Txt K mg := {
    f_p_is_integer := _, fd_p_is_integer := _, F_p_is_integer := F0, b_p_is_integer := b0, g_p_is_integer := PySem.W.mg_of X G a0,
    f_p_integer_within := _, fd_p_integer_within := _, F_p_integer_within := F1, b_p_integer_within := b1, g_p_integer_within := PySem.W.mg_of X G a1,
    f_p_is_number := _, fd_p_is_number := _, F_p_is_number := F2, b_p_is_number := b2, g_p_is_number := PySem.W.mg_of X G a2,
    f_p_is_pair := _, fd_p_is_pair := _, F_p_is_pair := F3, b_p_is_pair := b3, g_p_is_pair := PySem.W.mg_of X G a3,
    f_p_check_moduli := _, fd_p_check_moduli := _, F_p_check_moduli := F4, b_p_check_moduli := b4, g_p_check_moduli := PySem.W.mg_of X G a4,
    f_p_is_sight := _, fd_p_is_sight := _, F_p_is_sight := F5, b_p_is_sight := b5, g_p_is_sight := PySem.W.mg_of X G a5,
    f_p_check_seen := _, fd_p_check_seen := _, F_p_check_seen := F6, b_p_check_seen := b6, g_p_check_seen := PySem.W.mg_of X G a6,
    f_p_marks_of := _, fd_p_marks_of := _, F_p_marks_of := F7, b_p_marks_of := b7, g_p_marks_of := PySem.W.mg_of X G a7,
    f_p_held_marks := _, fd_p_held_marks := _, F_p_held_marks := F8, b_p_held_marks := b8, g_p_held_marks := PySem.W.mg_of X G a8,
    f_p_unheld_marks := _, fd_p_unheld_marks := _, F_p_unheld_marks := F9, b_p_unheld_marks := b9, g_p_unheld_marks := PySem.W.mg_of X G a9,
    f_p_rests_at := _, fd_p_rests_at := _, F_p_rests_at := F10, b_p_rests_at := b10, g_p_rests_at := PySem.W.mg_of X G a10,
    f_p_sure_rests := _, fd_p_sure_rests := _, F_p_sure_rests := F11, b_p_sure_rests := b11, g_p_sure_rests := PySem.W.mg_of X G a11,
    f_l_draws := _, fd_l_draws := _, F_l_draws := F12, b_l_draws := b12, g_l_draws := PySem.W.mg_of X G a12,
    f_l_pick := _, fd_l_pick := _, F_l_pick := F13, b_l_pick := b13, g_l_pick := PySem.W.mg_of X G a13,
    f_l_rows := _, fd_l_rows := _, F_l_rows := F14, b_l_rows := b14, g_l_rows := PySem.W.mg_of X G a14,
    f_l_has := _, fd_l_has := _, F_l_has := F15, b_l_has := b15, g_l_has := PySem.W.mg_of X G a15,
    f_l_told_there := _, fd_l_told_there := _, F_l_told_there := F16, b_l_told_there := b16, g_l_told_there := PySem.W.mg_of X G a16,
    f_law := _, fd_law := _, F_law := F17, b_law := b17, g_law := PySem.W.mg_of X G a17,
    z_len := PySem.W.mg_none_of X G z_len,
    z_sum := PySem.W.mg_none_of X G z_sum,
    z_range := PySem.W.mg_none_of X G z_range,
    z_int := PySem.W.mg_none_of X G z_int,
    z_list := PySem.W.mg_none_of X G z_list,
    z_tuple := PySem.W.mg_none_of X G z_tuple,
    z_sorted := PySem.W.mg_none_of X G z_sorted,
    z_isinstance := PySem.W.mg_none_of X G z_isinstance,
    z_enumerate := PySem.W.mg_none_of X G z_enumerate,
    z_bool := PySem.W.mg_none_of X G z_bool,
    z_any := PySem.W.mg_none_of X G z_any,
    z_all := PySem.W.mg_none_of X G z_all,
    c_GREATEST_NUMBER := ⟨t_GREATEST_NUMBER, PySem.W.mg_of X G c_GREATEST_NUMBER⟩,
    c_MOST_MODULI := ⟨t_MOST_MODULI, PySem.W.mg_of X G c_MOST_MODULI⟩,
    c_GREATEST_TOLD_BY := ⟨t_GREATEST_TOLD_BY, PySem.W.mg_of X G c_GREATEST_TOLD_BY⟩,
    c_MOST_SEEN := ⟨t_MOST_SEEN, PySem.W.mg_of X G c_MOST_SEEN⟩,
    c_MOST_UNFIT := ⟨t_MOST_UNFIT, PySem.W.mg_of X G c_MOST_UNFIT⟩,
    C_RestError := _, g_RestError := PySem.W.mg_of X G g_RestError,
    C_Nothing := _, g_Nothing := PySem.W.mg_of X G g_Nothing, x_Nothing := x_Nothing, k_Nothing := k_Nothing, b_Nothing := b_Nothing, t_Nothing := t_Nothing, e_Nothing := PySem.W.exm_ref b_Nothing E3_Nothing t_Nothing e_Nothing, E_Nothing := ⟨E1_Nothing, E2_Nothing, b_Nothing, E3_Nothing, E4_Nothing, E5_Nothing, E6_Nothing, E7_Nothing⟩, r_Nothing := kit_ref hR tR r_Nothing
  }
  exact ⟨PySem.W.fnOf "law" "law" (defArgs s_law) (defBody s_law) (defScope s_law) .none kV17 dc17 pm17 an17 cd17 ct17, fun s v => .of_eq rfl, fun base _ _ => ok_law T⟩
end R
open PySem PySem.W PyProof.Rows
set_option maxHeartbeats 0 in
theorem PySem.Challenge.cw_restlots_k32_rests_surely_told_holds : PySem.Challenge.rw_restlots_k32_rests_surely_told.Holds := by
  w_on; o_law; k_head; (case hw => w_witness2)
  k_fill
  refine L2.walk_of (l := PySem.Challenge.rw_restlots_k32_rests_surely_told) (n := 63) (k := 9) (x := "_law_script") (CX := fun _ => L2.CX0) (sp := fun w => R.sp_law _) rfl (by decide) rfl ⟨rfl, by decide, by decide⟩ (fun w h Y => PySem.W.kIn_of Y) ?F (fun _ _ a ns hl _ hS => ⟨a, ns, rfl, hS, hl, fun _ => rfl⟩) (fun _ _ _ _ _ h => h)
  case F =>
    intro w mg fa h KX G hmg
    refine' R.all_mk KX G hmg ?a0 ?a1 ?a2 ?a3 ?a4 ?a5 ?a6 ?a7 ?a8 ?a9 ?a10 ?a11 ?a12 ?a13 ?a14 ?a15 ?a16 ?a17 ?l0 ?d0 ?k0 ?l1 ?d1 ?k1 ?l2 ?d2 ?k2 ?l3 ?d3 ?k3 ?l4 ?d4 ?k4 ?l5 ?d5 ?k5 ?l6 ?d6 ?k6 ?l7 ?d7 ?k7 ?l8 ?d8 ?k8 ?l9 ?d9 ?k9 ?l10 ?d10 ?k10 ?l11 ?d11 ?k11 ?l12 ?d12 ?k12 ?l13 ?d13 ?k13 ?l14 ?d14 ?k14 ?l15 ?d15 ?k15 ?l16 ?d16 ?k16 ?l17 ?d17 ?k17 ?z_len ?z_sum ?z_range ?z_int ?z_list ?z_tuple ?z_sorted ?z_isinstance ?z_enumerate ?z_bool ?z_any ?z_all ?c_GREATEST_NUMBER ?c_MOST_MODULI ?c_GREATEST_TOLD_BY ?c_MOST_SEEN ?c_MOST_UNFIT ?g_RestError ?hR ?tR ?g_Nothing ?x_Nothing ?k_Nothing ?b_Nothing ?t_Nothing ?e_Nothing ?E1_Nothing ?E2_Nothing ?E3_Nothing ?E4_Nothing ?E5_Nothing ?E6_Nothing ?E7_Nothing ?r_Nothing
    (case a0 => k_is)
    (case a1 => k_is)
    (case a2 => k_is)
    (case a3 => k_is)
    (case a4 => k_is)
    (case a5 => k_is)
    (case a6 => k_is)
    (case a7 => k_is)
    (case a8 => k_is)
    (case a9 => k_is)
    (case a10 => k_is)
    (case a11 => k_is)
    (case a12 => k_is)
    (case a13 => k_is)
    (case a14 => k_is)
    (case a15 => k_is)
    (case a16 => k_is)
    (case a17 => k_is)
    (case l0 => k_is)
    (case d0 => k_is)
    (case k0 => k_is)
    (case l1 => k_is)
    (case d1 => k_is)
    (case k1 => k_is)
    (case l2 => k_is)
    (case d2 => k_is)
    (case k2 => k_is)
    (case l3 => k_is)
    (case d3 => k_is)
    (case k3 => k_is)
    (case l4 => k_is)
    (case d4 => k_is)
    (case k4 => k_is)
    (case l5 => k_is)
    (case d5 => k_is)
    (case k5 => k_is)
    (case l6 => k_is)
    (case d6 => k_is)
    (case k6 => k_is)
    (case l7 => k_is)
    (case d7 => k_is)
    (case k7 => k_is)
    (case l8 => k_is)
    (case d8 => k_is)
    (case k8 => k_is)
    (case l9 => k_is)
    (case d9 => k_is)
    (case k9 => k_is)
    (case l10 => k_is)
    (case d10 => k_is)
    (case k10 => k_is)
    (case l11 => k_is)
    (case d11 => k_is)
    (case k11 => k_is)
    (case l12 => k_is)
    (case d12 => k_is)
    (case k12 => k_is)
    (case l13 => k_is)
    (case d13 => k_is)
    (case k13 => k_is)
    (case l14 => k_is)
    (case d14 => k_is)
    (case k14 => k_is)
    (case l15 => k_is)
    (case d15 => k_is)
    (case k15 => k_is)
    (case l16 => k_is)
    (case d16 => k_is)
    (case k16 => k_is)
    (case l17 => k_is)
    (case d17 => k_is)
    (case k17 => k_is)
    (case z_len => k_is)
    (case z_sum => k_is)
    (case z_range => k_is)
    (case z_int => k_is)
    (case z_list => k_is)
    (case z_tuple => k_is)
    (case z_sorted => k_is)
    (case z_isinstance => k_is)
    (case z_enumerate => k_is)
    (case z_bool => k_is)
    (case z_any => k_is)
    (case z_all => k_is)
    (case c_GREATEST_NUMBER => k_is)
    (case c_MOST_MODULI => k_is)
    (case c_GREATEST_TOLD_BY => k_is)
    (case c_MOST_SEEN => k_is)
    (case c_MOST_UNFIT => k_is)
    (case g_RestError => k_is)
    (case hR => k_is)
    (case tR => k_is)
    (case g_Nothing => k_is)
    (case x_Nothing => k_exc)
    (case k_Nothing => k_is)
    (case b_Nothing => k_is)
    (case t_Nothing => k_is)
    (case e_Nothing => k_is)
    (case E1_Nothing => k_is)
    (case E2_Nothing => k_is)
    (case E3_Nothing => k_is)
    (case E4_Nothing => k_is)
    (case E5_Nothing => k_is)
    (case E6_Nothing => k_is)
    (case E7_Nothing => k_is)
    (case r_Nothing => k_is)
