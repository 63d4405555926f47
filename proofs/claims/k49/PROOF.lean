import PyProof.Rows.All
import Wide.All
import OpenK.AllK
import Wide.FinOn
import HandS.ForMost
import HandS.SortInts
import HandS.TupAny
import HandS.IsInst
import HandS.Wide
import HandS.Conv
import HandS.Gcd
import HandS.Property
import HandS.Codes
import HandS.Walk
import KE.GoesMore
import KE.KMathGC
import HandS.Exc
import HandS.ExcOwn
import HandS.TryOnly
import HandS.ExcIs
import HandS.WordsExc
import HandS.WideBits
import HandS.SetFor
import HandS.Strs
import HandS.SetBool
import PyProof.LongRange
import HandS.DictComp
import HandS.Deep
import HandS.TupSets
import HandS.TupLen
import PySem.Challenge.RW_restlots_k49_great_lots_counted
set_option Elab.async false
set_option linter.all false
set_option maxRecDepth 100000
set_option maxHeartbeats 4000000
set_option exponentiation.threshold 6000
namespace R
open PySem PySem.Spec PyProof.Rows L2
/-! the text by places -/
def top (i : Nat) : Stmt := (PySem.Challenge.pw_restlots_k49_great_lots_counted.main.body).getD i (.Pass ⟨0, 0, 0, 0⟩)
abbrev s_p_is_integer : Stmt := top 7
abbrev s_p_integer_within : Stmt := top 8
abbrev s_p_is_number : Stmt := top 9
abbrev s_p_is_pair : Stmt := top 10
abbrev s_p_check_moduli : Stmt := top 16
abbrev s_p_is_sight : Stmt := top 17
abbrev s_p_check_seen : Stmt := top 18
abbrev s_p_marks_of : Stmt := top 19
abbrev s_p_held_marks : Stmt := top 20
abbrev s_p_unheld_marks : Stmt := top 21
abbrev s_p_rows_with : Stmt := top 22
abbrev s_p_many_lots : Stmt := top 23
abbrev s_p_rests_at : Stmt := top 24
abbrev s_p_sure_rests : Stmt := top 25
abbrev s_l_draws : Stmt := top 27
abbrev s_l_pick : Stmt := top 28
abbrev s_l_far : Stmt := top 29
abbrev s_l_power : Stmt := top 30
abbrev s_l_had : Stmt := top 31
abbrev s_l_told_there : Stmt := top 32
abbrev s_law : Stmt := top 33
theorem sc_p_is_integer : FnScope ["value"] ["value"] (defScope s_p_is_integer) := ⟨rfl, rfl, rfl, by decide +kernel, rfl, by decide +kernel, by decide +kernel⟩
theorem sc_p_integer_within : FnScope ["value", "least", "greatest"] ["value", "least", "greatest"] (defScope s_p_integer_within) := ⟨rfl, rfl, rfl, by decide +kernel, rfl, by decide +kernel, by decide +kernel⟩
theorem sc_p_is_number : FnScope ["value"] ["value"] (defScope s_p_is_number) := ⟨rfl, rfl, rfl, by decide +kernel, rfl, by decide +kernel, by decide +kernel⟩
theorem sc_p_is_pair : FnScope ["value"] ["value"] (defScope s_p_is_pair) := ⟨rfl, rfl, rfl, by decide +kernel, rfl, by decide +kernel, by decide +kernel⟩
theorem sc_p_check_moduli : FnScope ["moduli", "index", "modulus"] ["moduli"] (defScope s_p_check_moduli) := ⟨rfl, rfl, rfl, by decide +kernel, rfl, by decide +kernel, by decide +kernel⟩
theorem sc_p_is_sight : FnScope ["value"] ["value"] (defScope s_p_is_sight) := ⟨rfl, rfl, rfl, by decide +kernel, rfl, by decide +kernel, by decide +kernel⟩
theorem sc_p_check_seen : FnScope ["seen", "unfit", "index", "sight"] ["seen"] (defScope s_p_check_seen) := ⟨rfl, rfl, rfl, by decide +kernel, rfl, by decide +kernel, by decide +kernel⟩
theorem sc_p_marks_of : FnScope ["moduli", "number", "index", "modulus"] ["moduli", "number"] (defScope s_p_marks_of) := ⟨rfl, rfl, rfl, by decide +kernel, rfl, by decide +kernel, by decide +kernel⟩
theorem sc_p_held_marks : FnScope ["moduli", "seen", "number", "does", "mark"] ["moduli", "seen"] (defScope s_p_held_marks) := ⟨rfl, rfl, rfl, by decide +kernel, rfl, by decide +kernel, by decide +kernel⟩
theorem sc_p_unheld_marks : FnScope ["moduli", "seen", "held", "number", "does", "mark"] ["moduli", "seen"] (defScope s_p_unheld_marks) := ⟨rfl, rfl, rfl, by decide +kernel, rfl, by decide +kernel, by decide +kernel⟩
theorem sc_p_rows_with : FnScope ["total", "held", "unheld", "more", "mark"] ["total", "held", "unheld"] (defScope s_p_rows_with) := ⟨rfl, rfl, rfl, by decide +kernel, rfl, by decide +kernel, by decide +kernel⟩
theorem sc_p_many_lots : FnScope ["moduli", "seen"] ["moduli", "seen"] (defScope s_p_many_lots) := ⟨rfl, rfl, rfl, by decide +kernel, rfl, by decide +kernel, by decide +kernel⟩
theorem sc_p_rests_at : FnScope ["marks", "index", "place", "rest"] ["marks", "index"] (defScope s_p_rests_at) := ⟨rfl, rfl, rfl, by decide +kernel, rfl, by decide +kernel, by decide +kernel⟩
theorem sc_p_sure_rests : FnScope ["moduli", "seen", "held", "unheld", "barred", "marks", "index"] ["moduli", "seen"] (defScope s_p_sure_rests) := ⟨rfl, rfl, rfl, by decide +kernel, rfl, by decide +kernel, by decide +kernel⟩
theorem sc_l_draws : FnScope ["_law_script"] ["_law_script"] (defScope s_l_draws) := ⟨rfl, rfl, rfl, by decide +kernel, rfl, by decide +kernel, by decide +kernel⟩
theorem sc_l_pick : FnScope ["_law_row", "_law_many", "_law_cell", "_law_found"] ["_law_row", "_law_many"] (defScope s_l_pick) := ⟨rfl, rfl, rfl, by decide +kernel, rfl, by decide +kernel, by decide +kernel⟩
theorem sc_l_far : FnScope ["_law_row", "_law_wide"] ["_law_row"] (defScope s_l_far) := ⟨rfl, rfl, rfl, by decide +kernel, rfl, by decide +kernel, by decide +kernel⟩
theorem sc_l_power : FnScope ["_law_many", "_law_found", "_law_k"] ["_law_many"] (defScope s_l_power) := ⟨rfl, rfl, rfl, by decide +kernel, rfl, by decide +kernel, by decide +kernel⟩
theorem sc_l_had : FnScope ["_law_moduli", "_law_numbers", "_law_found", "_law_number", "_law_k"] ["_law_moduli", "_law_numbers"] (defScope s_l_had) := ⟨rfl, rfl, rfl, by decide +kernel, rfl, by decide +kernel, by decide +kernel⟩
theorem sc_l_told_there : FnScope ["_law_moduli", "_law_seen", "_law_told_there_here", "e"] ["_law_moduli", "_law_seen"] (defScope s_l_told_there) := ⟨rfl, rfl, rfl, by decide +kernel, rfl, by decide +kernel, by decide +kernel⟩
theorem sc_law : FnScope ["_law_script", "_law_row", "_law_moduli", "_law_good", "_law_a", "_law_b", "_law_had_here", "_law_total", "_law_seen", "_law_one", "_law_two", "_law_found", "_law_free", "_law_due", "_law_k", "_law_sure", "_law_number", "_law_key", "_law_rest", "_law_j"] ["_law_script"] (defScope s_law) := ⟨rfl, rfl, rfl, by decide +kernel, rfl, by decide +kernel, by decide +kernel⟩
/-! what stands behind the top -/
structure Txt (K : PySem.W.Frag) (mg : Str → Option Value) where
  f_p_is_integer : Addr
  fd_p_is_integer : FuncData
  F_p_is_integer : Fun K "is_integer" "is_integer" s_p_is_integer f_p_is_integer fd_p_is_integer
  b_p_is_integer : Binds K fd_p_is_integer ["value"] []
  g_p_is_integer : mg "is_integer" = some (.ref f_p_is_integer)
  f_p_integer_within : Addr
  fd_p_integer_within : FuncData
  F_p_integer_within : Fun K "integer_within" "integer_within" s_p_integer_within f_p_integer_within fd_p_integer_within
  b_p_integer_within : Binds K fd_p_integer_within ["value", "least", "greatest"] []
  g_p_integer_within : mg "integer_within" = some (.ref f_p_integer_within)
  f_p_is_number : Addr
  fd_p_is_number : FuncData
  F_p_is_number : Fun K "is_number" "is_number" s_p_is_number f_p_is_number fd_p_is_number
  b_p_is_number : Binds K fd_p_is_number ["value"] []
  g_p_is_number : mg "is_number" = some (.ref f_p_is_number)
  f_p_is_pair : Addr
  fd_p_is_pair : FuncData
  F_p_is_pair : Fun K "is_pair" "is_pair" s_p_is_pair f_p_is_pair fd_p_is_pair
  b_p_is_pair : Binds K fd_p_is_pair ["value"] []
  g_p_is_pair : mg "is_pair" = some (.ref f_p_is_pair)
  f_p_check_moduli : Addr
  fd_p_check_moduli : FuncData
  F_p_check_moduli : Fun K "check_moduli" "check_moduli" s_p_check_moduli f_p_check_moduli fd_p_check_moduli
  b_p_check_moduli : Binds K fd_p_check_moduli ["moduli"] []
  g_p_check_moduli : mg "check_moduli" = some (.ref f_p_check_moduli)
  f_p_is_sight : Addr
  fd_p_is_sight : FuncData
  F_p_is_sight : Fun K "is_sight" "is_sight" s_p_is_sight f_p_is_sight fd_p_is_sight
  b_p_is_sight : Binds K fd_p_is_sight ["value"] []
  g_p_is_sight : mg "is_sight" = some (.ref f_p_is_sight)
  f_p_check_seen : Addr
  fd_p_check_seen : FuncData
  F_p_check_seen : Fun K "check_seen" "check_seen" s_p_check_seen f_p_check_seen fd_p_check_seen
  b_p_check_seen : Binds K fd_p_check_seen ["seen"] []
  g_p_check_seen : mg "check_seen" = some (.ref f_p_check_seen)
  f_p_marks_of : Addr
  fd_p_marks_of : FuncData
  F_p_marks_of : Fun K "marks_of" "marks_of" s_p_marks_of f_p_marks_of fd_p_marks_of
  b_p_marks_of : Binds K fd_p_marks_of ["moduli", "number"] []
  g_p_marks_of : mg "marks_of" = some (.ref f_p_marks_of)
  f_p_held_marks : Addr
  fd_p_held_marks : FuncData
  F_p_held_marks : Fun K "held_marks" "held_marks" s_p_held_marks f_p_held_marks fd_p_held_marks
  b_p_held_marks : Binds K fd_p_held_marks ["moduli", "seen"] []
  g_p_held_marks : mg "held_marks" = some (.ref f_p_held_marks)
  f_p_unheld_marks : Addr
  fd_p_unheld_marks : FuncData
  F_p_unheld_marks : Fun K "unheld_marks" "unheld_marks" s_p_unheld_marks f_p_unheld_marks fd_p_unheld_marks
  b_p_unheld_marks : Binds K fd_p_unheld_marks ["moduli", "seen"] []
  g_p_unheld_marks : mg "unheld_marks" = some (.ref f_p_unheld_marks)
  f_p_rows_with : Addr
  fd_p_rows_with : FuncData
  F_p_rows_with : Fun K "rows_with" "rows_with" s_p_rows_with f_p_rows_with fd_p_rows_with
  b_p_rows_with : Binds K fd_p_rows_with ["total", "held", "unheld"] []
  g_p_rows_with : mg "rows_with" = some (.ref f_p_rows_with)
  f_p_many_lots : Addr
  fd_p_many_lots : FuncData
  F_p_many_lots : Fun K "many_lots" "many_lots" s_p_many_lots f_p_many_lots fd_p_many_lots
  b_p_many_lots : Binds K fd_p_many_lots ["moduli", "seen"] []
  g_p_many_lots : mg "many_lots" = some (.ref f_p_many_lots)
  f_p_rests_at : Addr
  fd_p_rests_at : FuncData
  F_p_rests_at : Fun K "rests_at" "rests_at" s_p_rests_at f_p_rests_at fd_p_rests_at
  b_p_rests_at : Binds K fd_p_rests_at ["marks", "index"] []
  g_p_rests_at : mg "rests_at" = some (.ref f_p_rests_at)
  f_p_sure_rests : Addr
  fd_p_sure_rests : FuncData
  F_p_sure_rests : Fun K "sure_rests" "sure_rests" s_p_sure_rests f_p_sure_rests fd_p_sure_rests
  b_p_sure_rests : Binds K fd_p_sure_rests ["moduli", "seen"] []
  g_p_sure_rests : mg "sure_rests" = some (.ref f_p_sure_rests)
  f_l_draws : Addr
  fd_l_draws : FuncData
  F_l_draws : Fun K "_law_draws" "_law_draws" s_l_draws f_l_draws fd_l_draws
  b_l_draws : Binds K fd_l_draws ["_law_script"] []
  g_l_draws : mg "_law_draws" = some (.ref f_l_draws)
  f_l_pick : Addr
  fd_l_pick : FuncData
  F_l_pick : Fun K "_law_pick" "_law_pick" s_l_pick f_l_pick fd_l_pick
  b_l_pick : Binds K fd_l_pick ["_law_row", "_law_many"] []
  g_l_pick : mg "_law_pick" = some (.ref f_l_pick)
  f_l_far : Addr
  fd_l_far : FuncData
  F_l_far : Fun K "_law_far" "_law_far" s_l_far f_l_far fd_l_far
  b_l_far : Binds K fd_l_far ["_law_row"] []
  g_l_far : mg "_law_far" = some (.ref f_l_far)
  f_l_power : Addr
  fd_l_power : FuncData
  F_l_power : Fun K "_law_power" "_law_power" s_l_power f_l_power fd_l_power
  b_l_power : Binds K fd_l_power ["_law_many"] []
  g_l_power : mg "_law_power" = some (.ref f_l_power)
  f_l_had : Addr
  fd_l_had : FuncData
  F_l_had : Fun K "_law_had" "_law_had" s_l_had f_l_had fd_l_had
  b_l_had : Binds K fd_l_had ["_law_moduli", "_law_numbers"] []
  g_l_had : mg "_law_had" = some (.ref f_l_had)
  f_l_told_there : Addr
  fd_l_told_there : FuncData
  F_l_told_there : Fun K "_law_told_there" "_law_told_there" s_l_told_there f_l_told_there fd_l_told_there
  b_l_told_there : Binds K fd_l_told_there ["_law_moduli", "_law_seen"] []
  g_l_told_there : mg "_law_told_there" = some (.ref f_l_told_there)
  f_law : Addr
  fd_law : FuncData
  F_law : Fun K "law" "law" s_law f_law fd_law
  b_law : Binds K fd_law ["_law_script"] []
  g_law : mg "law" = some (.ref f_law)
  z_len : mg "len" = none
  z_sum : mg "sum" = none
  z_range : mg "range" = none
  z_int : mg "int" = none
  z_list : mg "list" = none
  z_tuple : mg "tuple" = none
  z_sorted : mg "sorted" = none
  z_isinstance : mg "isinstance" = none
  z_enumerate : mg "enumerate" = none
  z_bool : mg "bool" = none
  c_GREATEST_NUMBER : ∃ t, mg "GREATEST_NUMBER" = some (.int 1000000000000000000000000000000 t)
  c_MOST_MODULI : ∃ t, mg "MOST_MODULI" = some (.int 4 t)
  c_GREATEST_TOLD_BY : ∃ t, mg "GREATEST_TOLD_BY" = some (.int 30 t)
  c_MOST_SEEN : ∃ t, mg "MOST_SEEN" = some (.int 20 t)
  c_MOST_UNFIT : ∃ t, mg "MOST_UNFIT" = some (.int 8 t)
  C_RestError : Addr
  g_RestError : mg "RestError" = some (.ref C_RestError)
  C_Nothing : Addr
  g_Nothing : mg "Nothing" = some (.ref C_Nothing)
  x_Nothing : PySem.W.excIn K C_Nothing [.type "ValueError", .type "Exception", .type "BaseException", .type "object"] "ValueError.__new__" = true
  k_Nothing : PySem.W.keepIn K (.ref C_Nothing) = true
  b_Nothing : PySem.W.subIn K (.ref C_Nothing) (.type "BaseException") = some true
  t_Nothing : PySem.W.typeIn K (.ref C_Nothing) = some (.type "type")
  e_Nothing : PySem.W.exmOne K (.ref C_Nothing) (.ref C_Nothing) = some true
  E_Nothing : ExcC K C_Nothing
  r_Nothing : PySem.W.kitOne K (.ref C_Nothing) (.ref C_RestError) = some true

end R
namespace R
open PySem PySem.Spec PyProof.Rows L2
/-! ## heaps: what stays -/
/-- every object but the one at r is as it was -/
def Kp (r : Addr) (H H' : Hp) : Prop := ∀ b o, b ≠ r → H b = some o → H' b = some o
theorem Kp.refl (r : Addr) (H : Hp) : Kp r H H := fun _ _ _ h => h
theorem Kp.trans {r : Addr} {H H1 H2 : Hp} (a : Kp r H H1) (b : Kp r H1 H2) : Kp r H H2 := fun c o n h => b c o n (a c o n h)
theorem Kp.of {r : Addr} {H H' : Hp} (s : Same H H') : Kp r H H' := fun b o _ h => s b o h
theorem Kp.at_ {r : Addr} {H : Hp} {o : HO} : Kp r H (upd H r o) := fun b u n h => by rw [upd_ne n]; exact h
theorem Kp.new {r p : Addr} {H : Hp} {o : HO} (h : H p = none) : Kp r H (upd H p o) := fun b u _ e => by rw [upd_ne (ne_of_none e h)]; exact e
theorem Kp.add {r p : Addr} {H H' : Hp} {o : HO} (s : Kp r H H') (h : H p = none) : Kp r H (upd H' p o) := fun b u n e => by rw [upd_ne (ne_of_none e h)]; exact s b u n e
/-- an address that is free stays no matter of the frame: what the frame keeps is not there -/
theorem Kp.none {r p : Addr} {H H' : Hp} (s : Kp r H H') (hp : p ≠ r) (h : H' p = Option.none) : H p = Option.none := by
  cases q : H p with
  | none => rfl
  | some o => rw [s p o hp q] at h; cases h
theorem Kp.rd {r a : Addr} {H H' : Hp} {u : HO} (s : Kp r H H') (n : a ≠ r) (h : Rd H a u) : Rd H' a u := by
  rcases h with h | ⟨o, h⟩
  · exact .inl (s _ _ n h)
  · exact .inr ⟨o, s _ _ n h⟩
theorem Kp.seqT {K : PySem.W.Frag} {r a : Addr} {H H' : Hp} {xs zs : List V} (s : Kp r H H') (hr : H r = some (.lst zs)) (h : SqT K H a xs) : SqT K H' a xs := by
  rcases h with h | h
  · refine .inl (s.rd ?_ h)
    rintro rfl
    rcases h with h | ⟨o, h⟩
    · rw [hr] at h; cases h
    · rw [hr] at h; cases h
  · exact .inr h
theorem Kp.seqL {K : PySem.W.Frag} {r a : Addr} {H H' : Hp} {xs : List V} (s : Kp r H H') (n : a ≠ r) (h : SqL K H a xs) : SqL K H' a xs := by
  rcases h with h | h
  · exact .inl (s.rd n h)
  · exact .inr h
theorem same_upd {H : Hp} {p : Addr} {o : HO} (h : H p = none) : Same H (upd H p o) := fun b x e => by
  rw [upd_ne (ne_of_none e h)]; exact e
theorem Same.seqTT {K : PySem.W.Frag} {H H' : Hp} {a : Addr} {xs : List V} (e : Same H H') (h : SqT K H a xs) : SqT K H' a xs := by
  rcases h with (h | ⟨o, h⟩) | h
  · exact .inl (.inl (e _ _ h))
  · exact .inl (.inr ⟨o, e _ _ h⟩)
  · exact .inr h
theorem tupOf {K : PySem.W.Frag} {H : Hp} {a : Addr} {xs : List V} (h : H a = some (.tup xs)) : SqT K H a xs := .inl (.inl h)
theorem lstOf {K : PySem.W.Frag} {H : Hp} {a : Addr} {xs : List V} (h : H a = some (.lst xs)) : SqL K H a xs := .inl (.inl h)
theorem getMapInt {ns : List Int} {i : Nat} (h : i < ns.length) : (ns.map V.int)[i]? = some (.int ns[i]) := by
  rw [List.getElem?_map, List.getElem?_eq_getElem h]; rfl
theorem getMapInt' {ns : List Int} {i : Nat} {x : V} (h : (ns.map V.int)[i]? = some x) : ∃ n, ns[i]? = some n ∧ x = .int n := by
  rw [List.getElem?_map] at h
  cases e : ns[i]? with
  | none => rw [e] at h; cases h
  | some n => rw [e] at h; exact ⟨n, rfl, (Option.some.inj h).symm⟩
theorem flatInts (ns : List Int) : (ns.map V.int).all flatV = true := by
  rw [List.all_eq_true]
  intro x hx
  obtain ⟨n, _, rfl⟩ := List.mem_map.mp hx
  rfl
theorem sizeOk {n : Nat} (h : n ≤ 100000) : n ≤ sizeLine := Nat.le_trans h (by decide)
theorem sizeLt {n : Nat} (h : n ≤ 100000) : n < sizeLine := Nat.lt_of_le_of_lt h (by decide)

/-- len by its wish, told over the written part alone -/
def rLenK (K : PySem.W.Frag) : List V → Hp → VK → Prop := fun xs H Q => ∃ p ys, xs = [.ref p] ∧ (SqL K H p ys ∨ SqT K H p ys) ∧ Q (.int ys.length) H
/-! ## bars -/
abbrev Bar := Int × List Int
/-- a lot: ascending rests by m -/
structure LotOk (m : Int) (l : List Int) : Prop where
  up : l.Pairwise (· < ·)
  ge : ∀ r ∈ l, 0 ≤ r
  lt : ∀ r ∈ l, r < m
  few : l.length ≤ 60
structure BarOk (b : Bar) : Prop where
  pos : 1 ≤ b.1
  most : b.1 ≤ 1000000
  lot : LotOk b.1 b.2
/-- the least common multiple of the moduli -/
def wh (bs : List Bar) : Nat := bs.foldl (fun w b => Nat.lcm w b.1.natAbs) 1
def choices (bs : List Bar) : Nat := bs.foldl (fun c b => c * max 1 b.2.length) 1
structure SvOk (bs : List Bar) : Prop where
  six : bs.length ≤ 6
  bar : ∀ b ∈ bs, BarOk b
  great : wh bs ≤ 10 ^ 30
  many : choices bs ≤ 2000
def fitsB (bs : List Bar) (x : Int) : Bool := bs.all fun b => decide (x % b.1 ∈ b.2)
/-- the numbers from 0 to whole - 1 that fit -/
def cls (bs : List Bar) : List Int := ((List.range (wh bs)).map fun i : Nat => (i : Int)).filter (fitsB bs)

/-! ## bars on the heap -/
structure LotAt (K : PySem.W.Frag) (H : Hp) (v : V) (l : List Int) : Prop where
  ex : ∃ a, v = .ref a ∧ SqT K H a (l.map V.int)
structure BarAt (K : PySem.W.Frag) (H : Hp) (v : V) (b : Bar) : Prop where
  ex : ∃ a x, v = .ref a ∧ SqT K H a [.int b.1, x] ∧ LotAt K H x b.2
structure BarsAt (K : PySem.W.Frag) (H : Hp) (v : V) (bs : List Bar) : Prop where
  ex : ∃ a xs, v = .ref a ∧ SqT K H a xs ∧ xs.length = bs.length ∧ ∀ (i : Nat) x b, xs[i]? = some x → bs[i]? = some b → BarAt K H x b
section
variable {K : PySem.W.Frag} {H H' : Hp} {v : V} {l : List Int} {b : Bar} {bs : List Bar}
/-- all tuples that may be read are as they were -/
def TupsStay (K : PySem.W.Frag) (H H' : Hp) : Prop := ∀ a xs, SqT K H a xs → SqT K H' a xs
theorem TupsStay.same (s : Same H H') : TupsStay K H H' := fun _ _ h => Same.seqTT s h
theorem TupsStay.sx {r : Addr} {zs : List V} (s : Kp r H H') (hr : H r = some (.lst zs)) : TupsStay K H H' := fun _ _ h => s.seqT hr h
theorem LotAt.stay (t : TupsStay K H H') (h : LotAt K H v l) : LotAt K H' v l := let ⟨a, e, q⟩ := h.ex; ⟨a, e, t _ _ q⟩
theorem BarAt.stay (t : TupsStay K H H') (h : BarAt K H v b) : BarAt K H' v b := let ⟨a, x, e, q, z⟩ := h.ex; ⟨a, x, e, t _ _ q, z.stay t⟩
theorem BarsAt.stay (t : TupsStay K H H') (h : BarsAt K H v bs) : BarsAt K H' v bs := let ⟨a, xs, e, q, n, z⟩ := h.ex; ⟨a, xs, e, t _ _ q, n, fun i x b h1 h2 => (z i x b h1 h2).stay t⟩
end

end R
namespace R
open PySem PySem.Spec PyProof.Rows L2
/-! ## rules of my own: enumerate over a tuple, lcm of great numbers -/
abbrev itTup (t : Addr) : Obj := { cls := .type "tuple_iterator", data := .fields #[.ref t, .int 0 0] }
abbrev enObj (i : Addr) : Obj := { cls := .type "enumerate", data := .fields #[.none, .bool false, .ref i, rawInt 0, .none, .none] }
abbrev enHeap (h : Heap) (t : Addr) : Heap := (h.push (itTup t)).push (enObj h.objs.size)
theorem meets_enT (t : Addr) (items : Array Value) : Meets (Builtin.«enumerate.__new__» ⟨[.type "enumerate", .ref t], []⟩)
    (fun _ R s => s.heap.IsTuple t items ∧ R (.ok (.ret (.ref (s.heap.push (itTup t)).objs.size))) { s with heap := enHeap s.heap t }) := by
  refine .of_wp fun prog w A R s ⟨ht, h⟩ => ?_
  obtain ⟨hp, g, d, tk, os⟩ := s
  have sub_ := PySem.sub_enumerate
  have it_ : ∀ {A' : Around} {E : Value → Shared → Prop} {Q : Value → Shared → Prop}, Q (.ref hp.objs.size) ⟨hp.push (itTup t), g, d, tk, os⟩ → wpAny (model prog w) A' (pyIter (.ref t)) Q E ⟨hp, g, d, tk, os⟩ :=
    fun q => wpAny_pyIter_tuple ht q
  wp_walk using it_
  refine wpAny_stack_any fun st => wpAny_pure ?_
  split
  · rename_i c _ _ _ _ _
    cases (c == Value.type "enumerate") <;> (wp_walk using it_; exact ⟨_, rfl, h⟩)
  · (wp_walk using it_; exact ⟨_, rfl, h⟩)
theorem call_enT {prog : Program} {w : World} {A : Around} {E : Value → Shared → Prop} {s : Shared} {t : Addr} {items : Array Value} {Q : Value → Shared → Prop} (ht : s.heap.IsTuple t items)
    (h : ∀ h', IsEnum h' (s.heap.objs.size + 1) s.heap.objs.size 0 .none → h'.IsTupleIter s.heap.objs.size t 0 → (∀ b o, s.heap.get? b = some o → h'.get? b = some o) → Q (.ref (s.heap.objs.size + 1)) { s with heap := h' }) :
    wpAny (model prog w) A (call (.type "enumerate") [.ref t]) Q E s := by
  have sz : (s.heap.push (itTup t)).objs.size = s.heap.objs.size + 1 := Heap.size_push ..
  have he : IsEnum (enHeap s.heap t) (s.heap.objs.size + 1) s.heap.objs.size 0 .none := by
    have q := Heap.get?_push_size (s.heap.push (itTup t)) (o := enObj s.heap.objs.size) rfl
    rw [sz] at q
    exact q
  have kp : ∀ b o, s.heap.get? b = some o → (enHeap s.heap t).get? b = some o := fun b o x => Heap.get?_push_of_some _ (Heap.get?_push_of_some _ x)
  refine callType_new F.called_enumerate (by decide) (F.typeCall_enumerate_1 _) (F.newCall_enumerate_1 _) (fun obj => F.args_object_init_2 obj _) F.entry_enumerate_new (meets_enT t items) ⟨ht, ?_⟩
  show _ ∧ _
  rw [sz]
  exact ⟨⟨_, he, rfl⟩, h _ he ⟨_, Heap.get?_push_of_some _ (Heap.get?_push_size _ rfl), rfl, rfl⟩ kp⟩
/-- the tuple at a, each item in a new pair with its place -/
def IteT (K : PySem.W.Frag) (a : Addr) : It :=
  ⟨fun i H => ∃ (xs : List V) (x : V), SqT K H a xs ∧ xs[i]? = some x,
   fun i H v H' => ∃ T x, v = .ref T ∧ H T = none ∧ H' = upd H T (.tup [.int (i : Nat), x]) ∧ ∀ xs, SqT K H a xs → xs[i]? = some x,
   fun i H => ∃ xs : List V, SqT K H a xs ∧ xs.length ≤ i⟩
theorem turn_enT {P : Program} {w : World} {K : PySem.W.Frag} {elts : List Expr} {kk : Nat} {tpos : Pos} (a e it : Addr) :
    Turn P w K (.Tuple elts kk tpos) (IteT K a) [e, it] e (fun i h => (∃ old, IsEnum h e it ((i : Nat) : Int) old) ∧ h.IsTupleIter it a i ∧ e ≠ it) where
  mem := List.mem_cons_self ..
  obj := fun i h ⟨⟨old, he⟩, ⟨o, ho, _, hd⟩, _⟩ b hb => by
    rcases List.mem_cons.mp hb with rfl | hb
    · exact ⟨_, he, fun v q => nomatch q⟩
    · rw [List.mem_singleton.mp hb]
      exact ⟨o, ho, fun v q => by rw [hd] at q; cases q⟩
  keep := fun i h h' ⟨⟨old, he⟩, hi, hne⟩ k => ⟨⟨old, k e (by simp) _ he⟩, hi.at fun o q => k it (by simp) o q, hne⟩
  item := by
    intro X hP hw hK hc i pins s σ H E I hf ⟨⟨old, he⟩, hit, hne⟩ ⟨xs, x, hq, hx⟩
    subst hP hw hK
    obtain ⟨its, rv, p, hz⟩ := I.tuple hq
    have hT : s.heap.IsTuple a its.toArray := p
    have nta : a ≠ it := fun z => by
      subst z
      obtain ⟨o, e1, c1, _⟩ := hT
      obtain ⟨o2, e2, c2, _⟩ := hit
      rw [e1] at e2
      cases e2
      rw [c1] at c2
      exact absurd c2 (by decide)
    have nea : e ≠ a := fun z => by
      subst z
      obtain ⟨o, e1, c1, _⟩ := hT
      rw [he] at e1
      cases e1
      exact absurd (show Value.type "enumerate" = Value.type "tuple" from c1) (by decide)
    have el : e < s.heap.objs.size := Heap.lt_size he
    have il : it < s.heap.objs.size := by obtain ⟨_, q, _⟩ := hit; exact Heap.lt_size q
    have hlt : i < its.toArray.size := by
      have := (List.getElem?_eq_some_iff.mp hx).1
      rw [rv.length] at this
      rw [List.size_toArray]
      exact this
    refine wpAny_pyNext_enum_itemD (Draws.tuple (A := X.A.in1) (I.ok.hd hc) it a nta its.toArray) he ⟨hit, hT⟩ hlt hne (by simp [hne, nea]) fun u h' tk hP ho st' ht' hsz hk => ?_
    obtain ⟨u', hu', ru⟩ := rv.get hx
    have eu : u = u' := by
      rw [List.getElem?_toArray] at hP
      exact Option.some.inj (hP.symm.trans hu')
    subst eu
    refine ⟨_, rfl, wpAny_letOwnedTupleGo_enum (s := { s with heap := h', toks := tk + 1 }) ho fun h2 he2 sb => ?_⟩
    have t2 := (sb.2 _ (Nat.ne_of_gt el)).trans ht'
    have new : ObjOk X.prog X.w (upd H s.heap.objs.size (.tup [.int (i : Nat), x])) h2 s.heap.objs.size (.tup [.int (i : Nat), x]) :=
      ⟨sizeOk (by show (2 : Nat) ≤ 100000; decide), [.int i tk, u], .cons ⟨_, rfl⟩ (.cons ru .nil), _, t2, rfl, _, rfl⟩
    have I1 : Inv X pins σ (upd H s.heap.objs.size (.tup [.int (i : Nat), x])) { s with heap := h2, toks := tk + 1 } := by
      refine I.turnedNew (ch := [e, it]) (fun b ob hb q => ?_) hf (Nat.le_refl _) new
      have hbe : b ≠ e := fun z => hb (by simp [z])
      exact (sb.2 b hbe).trans (hk b ob hbe (fun z => hb (by simp [z])) q)
    refine ⟨.ref s.heap.objs.size, _, I1, rfl, ⟨_, x, rfl, I.hok.fresh (Nat.le_refl _), rfl, fun ys hy => by rw [I.tuple_inj hy hq]; exact hx⟩, ⟨⟨u, ?_⟩, st'.1.at fun o q => (sb.2 it (Ne.symm hne)).trans q, hne⟩, fun b hb => ?_⟩
    · rw [show ((i + 1 : Nat) : Int) = (i : Int) + 1 from rfl]
      exact he2
    · have lt : b < s.heap.objs.size := by
        rcases List.mem_cons.mp hb with rfl | hb
        · exact el
        · rw [List.mem_singleton.mp hb]; exact il
      rw [upd_ne (Nat.ne_of_lt lt)]
      exact (hf b hb).1
  done := by
    intro X hP hw hK hc i pins s σ H E I hf ⟨⟨old, he⟩, hit, hne⟩ ⟨xs, hq, hx⟩
    subst hP hw hK
    obtain ⟨its, rv, p, hz⟩ := I.tuple hq
    have hT : s.heap.IsTuple a its.toArray := p
    obtain ⟨f0, f1, f2, f3, f4, f5⟩ := hf it (by simp)
    have hT' : s.TypeIs (.ref e) "enumerate" := ⟨_, he, rfl⟩
    unfold pyNext
    refine wpAny_bind (wpAny_attempt (wpAny_callSpecial?_slot (name := Str.ofString "__next__") hT' F.slot_enumerate_next (wpAny_call_entry F.slot_enumerate_next hT' F.entry_enumerate_next ?_ (F.args_enumerate_next_1 _))))
    show wpAny _ _ (field (.ref e) 2 >>= _) _ _ _
    refine wpAny_bind (wpAny_field he rfl (x := .ref it) rfl ?_)
    refine wpAny_bind (PySem.wpAny_nextOf_tuple_end (I.ok.hd hc) hit hT (Array.getElem?_eq_none (by rw [List.size_toArray, ← rv.length]; exact hx)) fun h' y eb hy => ?_)
    obtain ⟨o, ho, hcl⟩ := hy
    refine wpAny_bind (wpAny_isInstance (T := "StopIteration") (b := true) ⟨o, ho, hcl⟩ isSubtype_stop ?_)
    exact wpAny_pure ⟨rfl, I.turned (t' := s.toks) (fun b o hb q => eb b o hb q) f0 f1 f3 f4 f5⟩
  self := fun A i s Q E ⟨⟨_, he⟩, _⟩ h => wpAny_pyIter_enum he h
def iEnT (K : PySem.W.Frag) (ta : TA) : TI := fun σ H R => ta σ H fun vs H1 => ∃ a xs, vs = [.ref a] ∧ SqT K H1 a xs ∧ R (IteT K a) H1
theorem pi_enT {X : Cx} {e : Expr} {ta : TA} {p pos tpos : Pos} {elts : List Expr} {kk : Nat} (hg : Gl X "enumerate") (hm : X.mg "enumerate" = none) (ha : PA X [e] ta)
    (hs : starEach [e] X.env = [(false, eval e X.env)] := by rfl) : PI X (.Tuple elts kk tpos) (.Call (.Name "enumerate" p) [e] [] pos) (iEnT X.K ta) := by
  refine ⟨fun pins s σ H R I h => Call_ (ld_blt I hg hm boot_enumerate (PyProof.Rows.callWith_type1 (thn (ha.run pos pins s σ H _ I h) fun us s1 ⟨vs, H1, I1, r1, a, xs, ex, hq, q⟩ => ?_) hs rfl))⟩
  subst ex
  obtain ⟨u, us', rfl⟩ : ∃ u us', us = u :: us' := by
    cases r1 with
    | cons r rr => exact ⟨_, _, rfl⟩
  cases r1 with
  | cons r rr =>
    cases rr
    cases r
    obtain ⟨its, rv, p', hz⟩ := I1.tuple hq
    refine call_enT (show s1.heap.IsTuple a its.toArray from p') fun h' he hit hk => wpAny_pyIter_enum he ?_
    have I2 : Inv X pins σ H1 { s1 with heap := h' } := I1.kept (t' := s1.toks) hk
    refine ⟨s1.heap.objs.size + 1, [s1.heap.objs.size + 1, s1.heap.objs.size], _, _, H1, rfl, I2, turn_enT a _ _, ⟨⟨.none, he⟩, hit, Nat.succ_ne_self _⟩, fun b hb => ?_, q⟩
    have hle : s1.heap.objs.size ≤ b := by
      rcases List.mem_cons.mp hb with rfl | hb
      · exact Nat.le_succ _
      · rw [List.mem_singleton.mp hb]; exact Nat.le_refl _
    exact I1.fpOk hle (I1.hok.fresh hle)
theorem walk_enT {K : PySem.W.Frag} {a : Addr} {xs : List V} : Walk (IteT K a) xs.length (fun H => SqT K H a xs) (YPair (fun i => some (.int (i : Nat))) (fun i => xs[i]?)) := by
  refine ⟨fun i H hi hG => ⟨xs, xs[i], hG, by simp [hi]⟩, fun H hG => ⟨xs, hG, Nat.le_refl _⟩, fun i H x H' hi hG ⟨T, y, h1, h2, h3, h4⟩ => ?_⟩
  exact ⟨T, .int (i : Nat), y, h1, h2, h3, rfl, h4 xs hG⟩
/-- lcm of two numbers below 2 ^ 5000 -/
def rLcmW : List V → Hp → VK → Prop := fun vs H Q => ∃ a b : Nat, vs = [.int a, .int b] ∧ a < 2 ^ 5000 ∧ b < 2 ^ 5000 ∧ Q (.int (Nat.lcm a b : Nat)) H
theorem logLe {n k : Nat} (h : n < 2 ^ (k + 1)) : n.log2 ≤ k := PySem.W.mg_log h
theorem cr_lcmW {X : Cx} : CallR X (.builtin "math.lcm") rLcmW := by
  intro pins s σ H vs us Q I r ⟨a, b, e, ha, hb, q⟩
  subst e
  obtain ⟨t, u, rfl⟩ := Vals.int2 r
  have h1 : (max 1 (a : Int).natAbs).log2 ≤ 4999 := logLe (by rw [Int.natAbs_natCast]; show max 1 a < 2 ^ 5000; have : 1 < 2 ^ 5000 := by decide
                                                              omega)
  have h2 : (max (a : Int).natAbs (b : Int).natAbs).log2 ≤ 4999 := logLe (by rw [Int.natAbs_natCast, Int.natAbs_natCast]; show max a b < 2 ^ 5000; omega)
  have ee : (((Nat.lcm 1 (a : Int).natAbs).lcm (b : Int).natAbs : Nat) : Int) = ((Nat.lcm a b : Nat) : Int) := by
    rw [Int.natAbs_natCast, Int.natAbs_natCast, PySem.W.mc_lcm_one]
  have hm : Nat.lcm a b < 2 ^ 10000 := by
    have h3 : Nat.lcm a b ≤ a * b := Nat.div_le_self _ _
    have h4 : a * b < 2 ^ 5000 * 2 ^ 5000 := Nat.mul_lt_mul'' ha hb
    rw [← Nat.pow_add] at h4
    exact Nat.lt_of_le_of_lt h3 h4
  have hz : ((((Nat.lcm 1 (a : Int).natAbs).lcm (b : Int).natAbs : Nat) : Int)).natAbs.log2 < bitsLine := by
    rw [ee, Int.natAbs_natCast]
    have h5 : (Nat.lcm a b).log2 ≤ 9999 := logLe hm
    rw [PySem.bitsLine_eq]
    omega
  have g := PySem.W.mg_run_lcm a t b u (by omega) (by omega) hz
  rw [ee] at g
  exact PySem.call_function_meets PySem.W.MGF.kind_lcm PySem.W.MGF.plain_lcm PySem.W.MGF.entry_lcm (PySem.W.MGF.args_lcm _ _) g.meets ⟨.int _, H, I.tok _, ⟨_, rfl⟩, q⟩
theorem tyTup {K : PySem.W.Frag} {H : Hp} {a : Addr} {xs : List V} (h : SqT K H a xs) : TyX K H (.ref a) (.type "tuple") := by
  rcases h with (h | ⟨o, h⟩) | ⟨o, its, n, e, c, _⟩
  · exact .base (.tup h)
  · exact .fTuple h
  · exact .kTuple e c

end R
namespace R
open PySem PySem.Spec PyProof.Rows L2
/-! ## an exception that a suite holds -/
def rIsE' (K : PySem.W.Frag) (D a : Addr) (cls : Value) (d : Option Addr) : List V → Hp → VK → Prop := fun xs H Q => cls = .ref D ∧ d = none ∧ rIsE K D a xs H Q
theorem call_isE' {X : Cx} {a D : Addr} {oe : Obj} {pn : List (Addr × Obj)} {cls : Value} {d : Option Addr} (C : ExcC X.K D) (hz : Zc cls d oe) (hf : ∃ vs, oe.data = .fields vs) :
    CallR (X.suite a ((a, oe) :: pn)) (.builtin "isinstance") (rIsE' X.K D a cls d) := by
  intro pins s σ H xs us Q I r h
  obtain ⟨h1, h2, h3⟩ := h
  subst h1 h2
  exact call_isE C hz hf pins s σ H xs us Q I r h3
/-! ## try with several clauses that name the exception -/
abbrev Suites := List (Value × (Addr → Value → Option Addr → TS))
/-- what the clauses wish, one behind the other; the name's slot is i -/
def wAsM (K : PySem.W.Frag) (i : Nat) (Wout : WX) (D : Ends) : Suites → WX
  | [] => Wout
  | p :: r => fun cls d σ H => ∃ b, PySem.W.exmOne K cls p.1 = some b ∧
      (b = true → ∀ a, H a = none → p.2 a cls d ⟨fun τ G => D.nx (τ.set i none) G, D.rt, fun τ G => D.bk (τ.set i none) G, fun τ G => D.ct (τ.set i none) G⟩ (σ.set i (some (.ref a))) H) ∧ (b = false → wAsM K i Wout D r cls d σ H)
/-- the clauses, each «except x as n», with their suites' readings -/
inductive HdsAs (X : Cx) (n : Str) : List ExceptHandler → Suites → Prop
  | nil : HdsAs X n [] []
  | cons {x : Str} {c : Value} {ts : Addr → Value → Option Addr → TS} {b0 : Stmt} {su : List Stmt} {p1 p2 : Pos} {hds : List ExceptHandler} {l : Suites} (hc : Names X x c)
      (hsu : ∀ (a : Addr) (oe : Obj) (cls : Value) (d : Option Addr) (pn : List (Addr × Obj)), Zc cls d oe → (∃ vs, oe.data = .fields vs) → PSs (X.suite a ((a, oe) :: pn)) (b0 :: su) (ts a cls d)) (r : HdsAs X n hds l) :
      HdsAs X n (.ExceptHandler (some (.Name x p1)) (some n) (b0 :: su) p2 :: hds) ((c, ts) :: l)
/-- what is done where the body let an exception out -/
theorem hds_run {X : Cx} {n : Str} {i : Nat} {pins : List (Addr × Obj)} {τ : L2.St} {G : Hp} {D : Ends} {Wout : WX} {e0 : Addr} {B h3 : Heap} {sJ s2 : Shared} {cls : Value} {d : Option Addr} (ok : X.Ok)
    (hst : X.stack = X.env :: X.outer) (hfr : X.env.frame = some X.env.locals) (nod : X.N.Nodup) (hi : X.N[i]? = some n) (hloc : X.env.kindOf n = some .local) (tk : Takes X Wout) (J : Inv X pins τ G sJ)
    (nb : ∀ b o, sJ.heap.get? b = some o → b ∉ frs X.stack → B.get? b = some o) (up : sJ.heap.UpToSlots s2.heap) (up3 : s2.heap.UpToSlots h3) (na : G e0 = none) (os : s2.os = sJ.os) (ag : AllBare s2.gens)
    (fl : HandSPX.FlyingZ B (X.env :: X.outer) e0 (Zc cls d) h3) : ∀ {hds : List ExceptHandler} {l : Suites}, HdsAs X n hds l → wAsM X.K i Wout D l cls d τ G →
      wpAny (model X.prog X.w) X.A (handleBy (.ref e0) X.env hds) (SP X pins D) X.xe { s2 with heap := h3 } := by
  have J3 : Inv X pins τ G { s2 with heap := h3 } := J.landed nb fl.1 (up.trans up3) os ag
  obtain ⟨ob, vb, he3, hz3, hd3⟩ := fl.there
  have out : e0 ∉ frs (X.env :: X.outer) := fun hm => by
    obtain ⟨_, o2, q1, q2⟩ := fl.2.2.1.mem hm
    rw [he3] at q1
    cases q1
    exact q2 _ hd3
  have nL : e0 ≠ X.env.locals := fun z => out (List.mem_filterMap.mpr ⟨_, List.mem_cons_self, z ▸ hfr⟩)
  have nF : e0 ∉ X.fs := fun hm => let ⟨q1, q2, q3⟩ := List.mem_filterMap.mp hm; out (List.mem_filterMap.mpr ⟨q1, List.mem_cons_of_mem _ q2, q3⟩)
  have S3 := J3.suite he3 hd3 na nL nF
  intro hds l hk
  induction hk with
  | nil =>
    intro w
    refine wpAny_handleBy_nil ?_
    obtain ⟨_, _, _, o1, v1, tb, _, _, g1, _, g3, g4, _⟩ := id fl
    unfold PySem.passOn
    refine wpAny_bind (wpAny_field g1 g3 g4 ?_)
    rw [if_neg (by simp : ¬ ((Value.ref tb == Value.none) = true))]
    have last : wpAny (model X.prog X.w) X.A (setFlight (.ref e0) X.env.frame) (fun _ s4 => wpAny (model X.prog X.w) X.A (throw (.ref e0) : Sem Flow) (SP X pins D) X.xe s4) X.xe { s2 with heap := h3 } := by
      rw [hfr]
      refine HandSPX.setFlight_upZ fl fun h4 hh4 up4 => wpAny_throw (tk _ _ ⟨e0, B, sJ, pins, τ, G, cls, d, rfl, J, nb, (up.trans up3).trans up4, .inr (.inr ?_), na, os, ag, w⟩)
      rw [hst]
      exact hh4
    first | exact wpAny_bind (wpAny_pure (wpAny_bind last)) | exact wpAny_bind last
  | @cons x c ts b0 su p1 p2 hds2 l2 hc hsu r ih =>
    rintro ⟨b, hb1, yes, no⟩
    refine wpAny_handleBy_cons (codeAny_handlers_test ?_) (by intro q; cases q)
    have LM := PySem.W.exm_one (M := model X.prog X.w) J3.kIn (fun A Q E s k q => wpAny_typeOf_ref (k _ _ he3) (by rw [hz3.1]; exact q)) hb1
    have named : ∀ {Q E : Value → Shared → Prop}, Q c { s2 with heap := h3 } → wpAny (model X.prog X.w) (X.A.mark (some (.ref e0))) (eval (.Name x p1) X.env) Q E { s2 with heap := h3 } := by
      intro Q E q
      obtain ⟨k1, k2, k3 | ⟨k3, k4, k5⟩⟩ := hc
      · exact ld_glob (X := X.suite e0 ((e0, ob) :: (X.pn ++ pins))) S3 k1 k3 q k2
      · exact ld_blt (X := X.suite e0 ((e0, ob) :: (X.pn ++ pins))) S3 k1 k3 k4 q k5 k2
    refine named (LM.here ?_)
    cases b with
    | false => exact ih (no rfl)
    | true =>
      refine codeAny_handlers_suite_as (HandSPX.lands_againZ fl fun h4 fl4 up4 => ?_)
      have J4 : Inv X pins τ G { s2 with heap := h4 } := J.landed nb fl4.1 ((up.trans up3).trans up4) os ag
      obtain ⟨o4, v4, he4, hz4, hd4⟩ := fl4.there
      refine store_ok (X := X.suite e0 ((e0, o4) :: (X.pn ++ pins))) (v := .ref e0) (J4.suite he4 hd4 na nL nF) nod hi (.inl hloc) rfl (fun s5 S5 => ?_) (.inr hloc)
      refine wpAny_mono ((hsu e0 o4 cls d (X.pn ++ pins) hz4 ⟨_, hd4⟩).run [] s5 _ G _ S5 (yes rfl e0 na)) (fun f s6 sp => ?_) (fun _ _ z => z.elim)
      have close : ∀ {τ6 : L2.St} {G6 : Hp} {Q : Shared → Prop}, Inv (X.suite e0 ((e0, o4) :: (X.pn ++ pins))) [] τ6 G6 s6 → (∀ s7, Inv X pins (τ6.set i none) G6 s7 → Q s7) →
          wpAny (model X.prog X.w) X.A (do bindName X.env n .none; unbindBehindTheSuite X.env n p2) (fun _ s7 => Q s7) X.xe s6 := fun S6 k => gone_ok (S6.unsuite ok) nod hi hloc k
      cases f with
      | ret u => obtain ⟨_, _, _, S6, r6, q6⟩ := sp; exact close S6 fun s7 J7 => ⟨_, _, _, J7, r6, q6⟩
      | next => obtain ⟨_, _, S6, q6⟩ := sp; exact close S6 fun s7 J7 => ⟨_, _, J7, q6⟩
      | brk => obtain ⟨_, _, S6, q6⟩ := sp; exact close S6 fun s7 J7 => ⟨_, _, J7, q6⟩
      | cont => obtain ⟨_, _, S6, q6⟩ := sp; exact close S6 fun s7 J7 => ⟨_, _, J7, q6⟩
theorem ps_try_asM {X : Cx} {n : Str} {i : Nat} {body : List Stmt} {hd : ExceptHandler} {hds : List ExceptHandler} {l : Suites} {pos : Pos} {tb : WX → TS} {Wout : WX} (hst : X.stack = X.env :: X.outer)
    (hfr : X.env.frame = some X.env.locals) (nod : X.N.Nodup) (hi : X.N[i]? = some n) (hloc : X.env.kindOf n = some .local) (tk : Takes X Wout)
    (hb : ∀ (W : WX) (pn : List (Addr × Obj)) (xe : Value → Shared → Prop), Takes (X.tr pn xe) W → PassesOwn (model X.prog X.w) X.A X.env xe → PSs (X.tr pn xe) body (tb W))
    (hh : HdsAs X n (hd :: hds) l) : PS X (.Try body (hd :: hds) [] [] pos) (fun D σ H => tb (wAsM X.K i Wout D l) D σ H) := by
  refine ⟨fun pins s σ H D I h => wpAny_Try_except ?_⟩
  have ok := I.ok
  have fr : X.A.frames = some (X.env :: X.outer) := ok.frames.trans (congrArg some hst)
  let caught : Value → Shared → Prop := fun e s1 => wpAny (model X.prog X.w) X.A (noteFrame e X.env) (fun _ s2 => wpAny (model X.prog X.w) X.A (setFlight e none)
    (fun _ s3 => wpAny (model X.prog X.w) X.A (handleBy e X.env (hd :: hds)) (SP X pins D) X.xe s3) X.xe s2) X.xe s1
  have takes : Takes (X.tr (X.pn ++ pins) caught) (wAsM X.K i Wout D l) := by
    rintro _ s' ⟨a, B, sI, pins', σ', H', cls, d, rfl, J', nb, up, sky, na, os, ag, w⟩
    have sky' : Sky B (X.env :: X.outer) a (Zc cls d) X.env.locals s'.heap := hst ▸ sky
    show wpAny (model X.prog X.w) X.A (noteFrame (.ref a) X.env) _ _ _
    exact Sky.land Zc.steady fr hfr sky' fun h3 fl3 up3 => hds_run ok hst hfr nod hi hloc tk (J'.ofTry ok) nb up up3 na os ag fl3 hh w
  refine wpAny_mono ((hb _ (X.pn ++ pins) caught takes PassesOwn.looking).run [] s σ H D (I.toTry _) h) (fun f s1 sp => ?_) (fun e s1 he => he)
  cases f with
  | ret u => obtain ⟨v, τ, G, J', r, q⟩ := sp; exact ⟨v, τ, G, J'.ofTry ok, r, q⟩
  | next => obtain ⟨τ, G, J', q⟩ := sp; exact wpAny_execs_nil ⟨τ, G, J'.ofTry ok, q⟩
  | brk => obtain ⟨τ, G, J', q⟩ := sp; exact ⟨τ, G, J'.ofTry ok, q⟩
  | cont => obtain ⟨τ, G, J', q⟩ := sp; exact ⟨τ, G, J'.ofTry ok, q⟩

end R
namespace R
open PySem PySem.Spec PyProof.Rows L2
/-! ## the law's draws -/
/-- the row of a law's draws: the script's copy (at L), how far it is read, two numbers -/
structure RowAt (H : Hp) (r L : Addr) : Prop where
  ex : ∃ (ns : List Int) (i : Nat) (b s : Int), H r = some (.lst [.ref L, .int i, .int b, .int s]) ∧ H L = some (.lst (ns.map V.int)) ∧ 0 ≤ b
  ne : L ≠ r
section
variable {H H' : Hp} {r L p : Addr} {o : HO}
theorem RowAt.lst (h : RowAt H r L) : ∃ zs, H r = some (.lst zs) := let ⟨_, _, _, _, e, _⟩ := h.ex; ⟨_, e⟩
theorem RowAt.stay (h : RowAt H r L) (s : Same H H') : RowAt H' r L := by
  obtain ⟨ns, i, b, z, e, q, n⟩ := h.ex
  exact ⟨⟨ns, i, b, z, s _ _ e, s _ _ q, n⟩, h.ne⟩
theorem RowAt.tups {K : PySem.W.Frag} (h : RowAt H r L) (s : Kp r H H') : TupsStay K H H' := let ⟨_, e⟩ := h.lst; .sx s e
theorem RowAt.new (h : RowAt H r L) (hp : H p = none) : p ≠ r ∧ p ≠ L := by
  obtain ⟨ns, i, b, z, e, q, n⟩ := h.ex
  exact ⟨(ne_of_none e hp).symm, (ne_of_none q hp).symm⟩
theorem RowAt.upd (h : RowAt H r L) (n : p ≠ r ∧ p ≠ L) : RowAt (upd H p o) r L := by
  obtain ⟨ns, i, b, z, e, q, h0⟩ := h.ex
  exact ⟨⟨ns, i, b, z, by rw [upd_ne n.1.symm]; exact e, by rw [upd_ne n.2.symm]; exact q, h0⟩, h.ne⟩
end
def sp_l_draws (K : PySem.W.Frag) : Sp := fun vs H Q _ => ∃ (a : Addr) (ns : List Int), vs = [.ref a] ∧ SqL K H a (ns.map V.int) ∧ ∀ r L H', Same H H' → RowAt H' r L → Q (.ref r) H'
def sp_l_pick : Sp := fun vs H Q _ => ∃ (r L : Addr) (m : Int), vs = [.ref r, .int m] ∧ RowAt H r L ∧ 0 < m ∧ m.natAbs < 2 ^ 200 ∧
  ∀ v H', 0 ≤ v → v < m → Kp r H H' → RowAt H' r L → Q (.int v) H'
section
variable {P : Program} {w : World} {K : PySem.W.Frag} {mg : Str → Option Value} {base : Heap}
theorem ok_l_draws (T : Txt K mg) : FnOk P w K mg base CX0 2 T.f_l_draws T.fd_l_draws ["_law_script"] (sp_l_draws K) := by
  refine T.F_l_draws.ok sc_l_draws (fun vs H Q E h => ?_) (fun cdv A outer s H vs Q E hr h => ?_)
  · obtain ⟨a, ns, rfl, _⟩ := h
    rfl
  · obtain ⟨a, ns, rfl, hS, q⟩ := h
    refine ⟨_, (pss_one (ps_ret (pe_lst (pa_cons (pe_callTy call_list_of (by rfl) T.z_list (by decide +kernel) (pa_cons (pv 0) pa_nil)) (pa_cons pe_int (pa_cons pe_int (pa_cons pe_int pa_nil))))))), ?_⟩
    refine ⟨_, rfl, a, _, rfl, .inl hS, fun L nL => ⟨sizeOk (by show (4 : Nat) ≤ 100000; decide), fun r nr => ?_⟩⟩
    have n1 : L ≠ r := fun e => by
      subst e
      rw [upd_same] at nr
      cases nr
    refine q r L _ (Same.trans (same_upd nL) (same_upd nr)) ⟨⟨ns, 0, 0, 7, upd_same, ?_, Int.le_refl 0⟩, n1⟩
    rw [upd_ne n1, upd_same]
theorem ok_l_pick (T : Txt K mg) : FnOk P w K mg base CX0 2 T.f_l_pick T.fd_l_pick ["_law_row", "_law_many"] sp_l_pick := by
  refine T.F_l_pick.ok sc_l_pick (fun vs H Q E h => ?_) (fun cdv A outer s H vs Q E hr h => ?_)
  · obtain ⟨r, L, m, rfl, _⟩ := h
    rfl
  · obtain ⟨r, L, m, rfl, ⟨⟨ns, i, b, z, hr0, hL0, hb⟩, hLr⟩, hm, hm2, q⟩ := h
    have hL : SqL K H L (ns.map V.int) := lstOf hL0
    have S : SqL K H r [.ref L, .int i, .int b, .int z] := lstOf hr0
    refine ⟨_, (C8.pss_cut (ps_if (pt_cmpR op_eq (pe_ix ix_list (pv 0) pe_int (fun _ _ => rfl)) pe_int (nomark _)) (pss_one (ps_if (pt_cmpR op_lt (pe_ix ix_list (pv 0) pe_int (fun _ _ => rfl)) (pe_callB call_len_seq (by rfl) T.z_len (by decide +kernel) (pa_cons (pe_ix ix_list (pv 0) pe_int (fun _ _ => rfl)) pa_nil)) (nomark _)) (pss_cons (ps_set (i := 2) sc_l_pick.nd rfl (by first | exact .inl rfl | exact .inr rfl) (pe_ix ix_list (pe_ix ix_list (pv 0) pe_int (fun _ _ => rfl)) (pe_ix ix_list (pv 0) pe_int (fun _ _ => rfl)) (fun _ _ => rfl)))
      (pss_cons (ps_asg (pe_op op_add (pe_ix ix_list (pv 0) pe_int (fun _ _ => rfl)) pe_int) (pg_sub (pv 0) pe_int set_list))
      (pss_one (ps_if (pt_cmpR op_ge (pv 2) (pe_op op_pow pe_int pe_int) (nomark _)) (pss_one (ps_asg (pv 2) (pg_sub (pv 0) pe_int set_list))) (pss_one (ps_asg (pe_op op_mod (pe_callTy call_int1 (by rfl) T.z_int (by decide +kernel) (pa_cons (pe_op op_add (pe_op op_add (pe_op op_mul (pe_ix ix_list (pv 0) pe_int (fun _ _ => rfl)) pe_int) (pe_op op_mul (pv 2) pe_int)) pe_int) pa_nil)) pe_int) (pg_sub (pv 0) pe_int set_list))))))) (pss_one (ps_asg (pe_op op_mod (pe_callTy call_int1 (by rfl) T.z_int (by decide +kernel) (pa_cons (pe_op op_add (pe_op op_mul (pe_ix ix_list (pv 0) pe_int (fun _ _ => rfl)) pe_int) pe_int) pa_nil)) pe_int) (pg_sub (pv 0) pe_int set_list))))) pss_nil)
      (pss_cons (ps_if (pt_cmpR op_gt (pe_ix ix_list (pv 0) pe_int (fun _ _ => rfl)) pe_int (nomark _)) (pss_cons (ps_set (i := 3) sc_l_pick.nd rfl (by first | exact .inl rfl | exact .inr rfl) (pe_op op_mod (pe_callTy call_int1 (by rfl) T.z_int (by decide +kernel) (pa_cons (pe_ix ix_list (pv 0) pe_int (fun _ _ => rfl)) pa_nil)) (pv 1)))
      (pss_cons (ps_asg (pe_op op_fdivW (pe_ix ix_list (pv 0) pe_int (fun _ _ => rfl)) (pv 1)) (pg_sub (pv 0) pe_int set_list))
      (pss_one (ps_ret (pv 3))))) pss_nil)
      (pss_one (ps_ret (pe_op op_mod (pe_op op_mod (pe_callTy call_int1 (by rfl) T.z_int (by decide +kernel) (pa_cons (pe_op op_mul (pe_ix ix_list (pv 0) pe_int (fun _ _ => rfl)) pe_int) pa_nil)) pe_int) (pv 1)))))), ?_⟩
    refine ⟨fun σ H' => ∃ (c : Option V) (i' : Nat) (b' z' : Int), σ = [some (.ref r), some (.int m), c, none] ∧ Kp r H H' ∧ H' r = some (.lst [.ref L, .int i', .int b', .int z']) ∧ 0 ≤ b', ?_, ?_⟩
    · refine ⟨_, rfl, r, _, 2, _, rfl, rfl, S, atI_nat (j := 2) rfl, rfl, _, rfl, ite2 (fun _ => ?_) (fun _ => ?_)⟩
      · refine ⟨_, rfl, r, _, 1, _, rfl, rfl, S, atI_nat (j := 1) rfl, _, rfl, r, _, 0, _, rfl, rfl, S, atI_nat (j := 0) rfl, L, _, rfl, .inl hL, _, _, rfl, rfl, _, rfl, ite2 (fun e => ?_) (fun e => ?_)⟩
        · have hi : i < ns.length := by
            have e' := of_decide_eq_true e
            rw [List.length_map] at e'
            omega
          refine ⟨_, rfl, r, _, 0, _, rfl, rfl, S, atI_nat (j := 0) rfl, _, rfl, r, _, 1, _, rfl, rfl, S, atI_nat (j := 1) rfl, L, _, i, .int ns[i], rfl, rfl, hL, atI_nat (j := i) (getMapInt hi), ?_⟩
          refine ⟨_, rfl, r, _, 1, _, rfl, rfl, S, atI_nat (j := 1) rfl, _, _, rfl, rfl, _, rfl, r, _, 1, 1, rfl, rfl, hr0, rfl, ?_⟩
          have hr1 : (upd H r (.lst [.ref L, .int ((i : Int) + 1), .int b, .int z])) r = some (.lst [.ref L, .int ((i + 1 : Nat) : Int), .int b, .int z]) := upd_same
          have S1 : SqL K (upd H r (.lst [.ref L, .int ((i : Int) + 1), .int b, .int z])) r _ := lstOf hr1
          have x1 : Kp r H (upd H r (.lst [.ref L, .int ((i : Int) + 1), .int b, .int z])) := Kp.at_
          refine ⟨_, rfl, _, _, rfl, rfl, ⟨by decide, by decide, by decide⟩, _, _, rfl, rfl, _, rfl, ite2 (fun e2 => ?_) (fun e2 => ?_)⟩
          · refine ⟨_, rfl, _, rfl, r, _, 2, 2, rfl, rfl, hr1, rfl, ?_⟩
            refine ⟨_, i + 1, ns[i], z, rfl, fun b o n h => ?_, upd_same, ?_⟩
            · rw [upd_ne n]; exact x1 b o n h
            · have := of_decide_eq_true e2
              have : (0 : Int) ≤ 10 ^ (18 : Int).toNat := by decide
              omega
          · refine ⟨_, rfl, r, _, 3, _, rfl, rfl, S1, atI_nat (j := 3) rfl, _, _, rfl, rfl, .inr (by decide), _, rfl, _, _, rfl, rfl, .inr (by decide), _, _, rfl, rfl, _, _, rfl, rfl, .inl ⟨_, rfl, _, _, rfl, rfl, (show (0 : Int) < 2147483647 by decide), ?_⟩⟩
            refine ⟨_, rfl, r, _, 3, 3, rfl, rfl, hr1, rfl, ?_⟩
            refine ⟨_, i + 1, b, _, rfl, fun b o n h => ?_, upd_same, hb⟩
            rw [upd_ne n]; exact x1 b o n h
        · refine ⟨_, rfl, r, _, 3, _, rfl, rfl, S, atI_nat (j := 3) rfl, _, _, rfl, rfl, .inr (by decide), _, _, rfl, rfl, .inl ⟨_, rfl, _, _, rfl, rfl, (show (0 : Int) < 2147483647 by decide), ?_⟩⟩
          refine ⟨_, rfl, r, _, 3, 3, rfl, rfl, hr0, rfl, ?_⟩
          exact ⟨_, i, b, _, rfl, Kp.at_, upd_same, hb⟩
      · exact ⟨_, i, b, z, rfl, Kp.refl r H, hr0, hb⟩
    · rintro σ H' ⟨c, i', b', z', rfl, sx, hr', hb'⟩
      have S' : SqL K H' r [.ref L, .int i', .int b', .int z'] := lstOf hr'
      have hL' : H' L = some (.lst (ns.map V.int)) := sx _ _ hLr hL0
      refine ⟨_, rfl, r, _, 2, _, rfl, rfl, S', atI_nat (j := 2) rfl, _, _, rfl, rfl, _, rfl, ite2 (fun e => ?_) (fun e => ?_)⟩
      · have e' := of_decide_eq_true e
        refine ⟨_, rfl, r, _, 2, _, rfl, rfl, S', atI_nat (j := 2) rfl, .inl ⟨_, rfl, _, rfl, _, _, rfl, rfl, hm, ?_⟩⟩
        refine ⟨_, rfl, r, _, 2, _, rfl, rfl, S', atI_nat (j := 2) rfl, _, rfl, _, _, rfl, rfl, wide_div hm hm2 (by decide) (by decide), _, rfl, r, _, 2, 2, rfl, rfl, hr', rfl, ?_⟩
        refine ⟨_, rfl, q _ _ (Int.emod_nonneg _ (by omega)) (Int.emod_lt_of_pos _ hm) (fun c o n h => ?_) ⟨⟨ns, i', b' / m, z', upd_same, ?_, Int.ediv_nonneg hb' (by omega)⟩, hLr⟩⟩
        · rw [upd_ne n]; exact sx c o n h
        · rw [upd_ne hLr]; exact hL'
      · refine ⟨_, rfl, r, _, 3, _, rfl, rfl, S', atI_nat (j := 3) rfl, _, _, rfl, rfl, .inr (by decide), .inl ⟨_, rfl, _, _, rfl, rfl, (show (0 : Int) < 2147483629 by decide), _, rfl, _, _, rfl, rfl, hm, ?_⟩⟩
        exact q _ _ (Int.emod_nonneg _ (by omega)) (Int.emod_lt_of_pos _ hm) sx ⟨⟨ns, i', b', z', hr', hL', hb'⟩, hLr⟩
end

end R
namespace R
open PySem PySem.Spec PyProof.Rows L2
/-! ## far numbers -/
def sp_l_far : Sp := fun vs H Q _ => ∃ (r L : Addr), vs = [.ref r] ∧ RowAt H r L ∧ ∀ v H', -(10 ^ 17) < v → v < 10 ^ 17 → Kp r H H' → RowAt H' r L → Q (.int v) H'
theorem pick4 {v : Int} (h0 : 0 ≤ v) (h1 : v < 4) : v = 0 ∨ v = 1 ∨ v = 2 ∨ v = 3 := by omega
theorem pick3 {v : Int} (h0 : 0 ≤ v) (h1 : v < 3) : v = 0 ∨ v = 1 ∨ v = 2 := by omega
section
variable {P : Program} {w : World} {K : PySem.W.Frag} {mg : Str → Option Value} {base : Heap}
theorem ok_l_far (T : Txt K mg) : FnOk P w K mg base CX0 3 T.f_l_far T.fd_l_far ["_law_row"] sp_l_far := by
  refine T.F_l_far.ok sc_l_far (fun vs H Q E h => ?_) (fun cdv A outer s H vs Q E hr h => ?_)
  · obtain ⟨r, L, rfl, _⟩ := h
    rfl
  · obtain ⟨r, L, rfl, R0, q⟩ := h
    refine ⟨_, (pss_cons (ps_set (i := 1) sc_l_far.nd rfl (by first | exact .inl rfl | exact .inr rfl) (pe_ix ix_list (pe_lst (pa_cons pe_int (pa_cons pe_int (pa_cons pe_int (pa_cons pe_int pa_nil))))) (pe_call (ok_l_pick T) (hr.mono (by decide)) (by rfl) T.g_l_pick T.F_l_pick.kp T.b_l_pick .nil pass0 (pa_cons (pv 0) (pa_cons pe_int pa_nil))) (fun _ _ => rfl)))
      (pss_one (ps_ret (pe_op op_mulW (pe_op op_sub (pe_call (ok_l_pick T) (hr.mono (by decide)) (by rfl) T.g_l_pick T.F_l_pick.kp T.b_l_pick .nil pass0 (pa_cons (pv 0) (pa_cons (pv 1) pa_nil))) (pe_op op_fdivW (pv 1) pe_int)) (pe_ix ix_list (pe_lst (pa_cons pe_int (pa_cons pe_int (pa_cons pe_int pa_nil)))) (pe_call (ok_l_pick T) (hr.mono (by decide)) (by rfl) T.g_l_pick T.F_l_pick.kp T.b_l_pick .nil pass0 (pa_cons (pv 0) (pa_cons pe_int pa_nil))) (fun _ _ => rfl)))))), ?_⟩
    refine ⟨sizeOk (by show (4 : Nat) ≤ 100000; decide), fun p np => ?_⟩
    have k0 : Kp r H (upd H p (.lst [.int 40, .int 3000, .int 1000000, .int 100000000000])) := Kp.new np
    have R1 := R0.stay (same_upd np (o := .lst [.int 40, .int 3000, .int 1000000, .int 100000000000]))
    refine ⟨_, rfl, r, L, 4, rfl, R1, by decide, by decide, fun v H2 v0 v1 k2 R2 => ?_⟩
    have e2 : H2 p = some (.lst [.int 40, .int 3000, .int 1000000, .int 100000000000]) := k2 _ _ (R0.new np).1 upd_same
    obtain ⟨wd, hw0, hw1, hat⟩ : ∃ wd : Int, 40 ≤ wd ∧ wd ≤ 100000000000 ∧ atI [V.int 40, V.int 3000, V.int 1000000, V.int 100000000000] v = some (V.int wd) := by
      rcases pick4 v0 v1 with rfl | rfl | rfl | rfl
      · exact ⟨40, by decide, by decide, atI_nat (j := 0) rfl⟩
      · exact ⟨3000, by decide, by decide, atI_nat (j := 1) rfl⟩
      · exact ⟨1000000, by decide, by decide, atI_nat (j := 2) rfl⟩
      · exact ⟨100000000000, by decide, by decide, atI_nat (j := 3) rfl⟩
    refine ⟨p, _, _, .int wd, rfl, rfl, lstOf e2, hat, ?_⟩
    refine ⟨_, rfl, _, rfl, r, L, wd, rfl, R2, by omega, by omega, fun y H3 y0 y1 k3 R3 => ?_⟩
    refine ⟨_, rfl, _, _, rfl, rfl, wide_div (b := 10) (by decide) (by decide) (by decide) (by decide), _, _, rfl, rfl, ?_⟩
    refine ⟨sizeOk (by show (3 : Nat) ≤ 100000; decide), fun p4 np4 => ?_⟩
    have R4 := R3.stay (same_upd np4 (o := .lst [.int 1, .int 1, .int 1000003]))
    refine ⟨_, rfl, r, L, 3, rfl, R4, by decide, by decide, fun z H5 z0 z1 k5 R5 => ?_⟩
    have e5 : H5 p4 = some (.lst [.int 1, .int 1, .int 1000003]) := k5 _ _ (R3.new np4).1 upd_same
    obtain ⟨f, hf0, hf1, hat2⟩ : ∃ f : Int, (f = 1 ∨ f = 1000003) ∧ True ∧ atI [V.int 1, V.int 1, V.int 1000003] z = some (V.int f) := by
      rcases pick3 z0 z1 with rfl | rfl | rfl
      · exact ⟨1, by omega, trivial, atI_nat (j := 0) rfl⟩
      · exact ⟨1, by omega, trivial, atI_nat (j := 1) rfl⟩
      · exact ⟨1000003, by omega, trivial, atI_nat (j := 2) rfl⟩
    refine ⟨p4, _, _, .int f, rfl, rfl, lstOf e5, hat2, _, _, rfl, rfl, wide_mul (a := 60) (b := 30) (by omega) (by omega) (by decide) (by decide) (by decide), ?_⟩
    refine q _ H5 ?_ ?_ ((k0.trans k2).trans ((k3.trans (Kp.new np4)).trans k5)) R5
    · rcases hf0 with rfl | rfl <;> omega
    · rcases hf0 with rfl | rfl <;> omega
end

end R
namespace R
open PySem PySem.Spec PyProof.Rows L2
/-! ## small facts -/
theorem snocInd {α : Type} {p : List α → Prop} (h0 : p []) (hs : ∀ l x, p l → p (l ++ [x])) : ∀ l, p l := by
  intro l
  rw [← List.reverse_reverse l]
  induction l.reverse with
  | nil => exact h0
  | cons x r ih =>
    rw [List.reverse_cons]
    exact hs _ _ ih
theorem takeSucc {α : Type} {l : List α} {i : Nat} {x : α} (h : l[i]? = some x) : l.take (i + 1) = l.take i ++ [x] := by
  rw [List.take_add_one, h]
  rfl

theorem inVInt (x : Int) (l : List Int) : inV (.int x) (l.map V.int) = decide (x ∈ l) := by
  unfold inV
  rw [List.any_map]
  by_cases h : x ∈ l
  · rw [decide_eq_true h]
    exact List.any_eq_true.mpr ⟨x, h, by show (x == x) = true; exact beq_self_eq_true x⟩
  · rw [decide_eq_false h]
    refine List.any_eq_false.mpr fun y hy e => h ?_
    have e' : (y == x) = true := e
    rw [← beq_iff_eq.mp e']
    exact hy
theorem samePut {H H' : Hp} {p : Addr} {o : HO} (s : Same H H') (h : H p = none) : Same H (upd H' p o) := fun b u e => by
  rw [upd_ne (ne_of_none e h)]
  exact s b u e
theorem freshOf {H H' : Hp} {p : Addr} (s : Same H H') (h : H' p = none) : H p = none := s.free h
def okD (n : Nat) (d : PyData) : Prop := d.canLay0 = true ∧ d.depth ≤ n
theorem okD.shaped {n : Nat} {d : PyData} (h : okD n d) (hn : n ≤ 64) : SeqAt.shaped d = true := by
  unfold SeqAt.shaped
  rw [h.1, decide_eq_true (Nat.le_trans h.2 hn)]
  rfl
theorem okD.eqv {n : Nat} {d : PyData} (h : okD n d) : PyData.eqv d d = true := SeqAt.eqv_refl d h.1
theorem okD.int (i : Int) : okD 0 (.int i) := ⟨rfl, Nat.le_refl _⟩
theorem okD.all {n : Nat} : ∀ {ds : List PyData}, (∀ d ∈ ds, okD n d) → PyData.canLayAll0 ds = true ∧ PyData.depthAll ds ≤ n
  | [], _ => ⟨rfl, Nat.zero_le _⟩
  | d :: ds, h => by
    obtain ⟨a, b⟩ := h d List.mem_cons_self
    obtain ⟨c, e⟩ := okD.all fun x hx => h x (List.mem_cons_of_mem d hx)
    refine ⟨?_, ?_⟩
    · rw [PyData.canLayAll0, a, c]
      rfl
    · rw [PyData.depthAll]
      omega
theorem okD.tup {n : Nat} {ds : List PyData} (h : ∀ d ∈ ds, okD n d) : okD (n + 1) (.tuple ds) := by
  obtain ⟨a, b⟩ := okD.all h
  refine ⟨?_, ?_⟩
  · rw [PyData.canLay0]
    exact a
  · rw [PyData.depth]
    omega
theorem okD.lst {n : Nat} {ds : List PyData} (h : ∀ d ∈ ds, okD n d) : okD (n + 1) (.list ds) := by
  obtain ⟨a, b⟩ := okD.all h
  refine ⟨?_, ?_⟩
  · rw [PyData.canLay0]
    exact a
  · rw [PyData.depth]
    omega
theorem dpInts {K : PySem.W.Frag} {H : Hp} : ∀ l : List Int, DpAll K H (l.map V.int) (l.map PyData.int)
  | [] => .nil
  | i :: l => .cons (.int i) (dpInts l)
theorem dpTup {K : PySem.W.Frag} {H : Hp} {a : Addr} {l : List Int} (h : SqT K H a (l.map V.int)) : Dp K H (.ref a) (.tuple (l.map PyData.int)) := .tup h (dpInts l)
theorem dpLst {K : PySem.W.Frag} {H : Hp} {a : Addr} {l : List Int} (h : SqL K H a (l.map V.int)) : Dp K H (.ref a) (.list (l.map PyData.int)) := .lst h (dpInts l)
theorem okInts (l : List Int) : ∀ d ∈ l.map PyData.int, okD 0 d := fun d h => by
  obtain ⟨i, _, rfl⟩ := List.mem_map.mp h
  exact .int i
theorem eqvNil (l : List Int) : PyData.eqv (.list (l.map PyData.int)) (.list []) = decide (l = []) := by
  rw [PyData.eqv]
  cases l with
  | nil => rfl
  | cons x r => rfl
theorem eqvNilT (l : List Int) : PyData.eqv (.tuple (l.map PyData.int)) (.tuple []) = decide (l = []) := by
  rw [PyData.eqv]
  cases l with
  | nil => rfl
  | cons x r => rfl
theorem lstTups {K : PySem.W.Frag} {H : Hp} {D : Addr} {ys zs : List V} (e : H D = some (.lst ys)) : TupsStay K H (upd H D (.lst zs)) := fun b xs h => by
  rcases h with (h | ⟨o, h⟩) | h
  · exact .inl (.inl (by rw [upd_ne (ne_of h e (by intro z; cases z))]; exact h))
  · exact .inl (.inr ⟨o, by rw [upd_ne (ne_of h e (by intro z; cases z))]; exact h⟩)
  · exact .inr h
/-! ## sum(xs) of a tuple of ints -/
def rSumT (K : PySem.W.Frag) : List V → Hp → VK → Prop := fun vs H Q => ∃ (a : Addr) (ns : List Int), vs = [V.ref a] ∧ SqT K H a (ns.map V.int) ∧ Q (.int ns.sum) H
theorem cr_sumT {X : Cx} (hc : X.calm = true) : CallR X (.builtin "sum") (rSumT X.K) := by
  intro pn st σ H vs us Q I r h
  obtain ⟨a, ns, rfl, ha, q⟩ := h
  rw [Vals.ref1 r]
  obtain ⟨its, rv, p, _⟩ := I.tuple ha
  obtain ⟨o, ga, ec, n, ed⟩ := id p
  have hit : IntsAre its ns := ints_of_vals rv
  have size_ : its.length = ns.length := by
    have := rv.length
    rw [List.length_map] at this
    exact this.symm
  have lt : a < st.heap.objs.size := Heap.lt_size ga
  refine call_sum_walkG (wpAny_pyIter_tuple p ?_)
  have tp : ∀ it : Obj, (st.heap.push it).IsTuple a its.toArray := fun it => ⟨o, Heap.get?_push_of_some _ ga, ec, n, ed⟩
  refine ⟨_, _, _, _, _, _, fun i => ns.getD i 0, rfl, Walks.tuple (A := X.A.in1) (by have := I.ok.hd hc; simpa using this) _ a (Nat.ne_of_lt lt) its.toArray, ⟨⟨_, Heap.get?_push_size _ rfl, rfl, rfl⟩, tp _⟩, fun b hb => ?_, fun i v hv => ?_, fun h' tk t' keep => ?_⟩
  · rw [Heap.size_push]
    rcases List.mem_cons.mp hb with rfl | hb
    · exact Nat.lt_succ_self _
    · rw [List.mem_singleton.mp hb]
      exact Nat.lt_succ_of_lt lt
  · have hi : i < ns.length := by
      have := (Array.getElem?_eq_some_iff.mp hv).1
      rw [List.size_toArray] at this
      omega
    obtain ⟨t, e⟩ := PyProof.Rows.IntsAre.int_at hit i v (by rw [← List.getElem?_toArray]; exact hv)
    exact ⟨t, e⟩
  · have e : preSum (fun i => ns.getD i 0) its.toArray.size = ns.sum := by
      rw [preSum_getD, List.size_toArray, size_, List.take_length]
    refine ⟨.int ns.sum, H, I.kept (t' := tk) fun b u hb => ?_, ⟨t', by rw [e]⟩, q⟩
    have b0 := Heap.lt_size hb
    exact keep b u (by rw [List.mem_singleton]; exact Nat.ne_of_lt b0) (Heap.get?_push_of_some _ hb)
theorem in2u {k : Nat} {A : Around} (hr : Room k A) : A.in1.in1.units < cLine := by
  have := hr.un
  show A.units + 1 + 1 < cLine
  omega
theorem un65 {k : Nat} {A : Around} (hr : Room k A) : A.units + 65 < cLine := by
  have := hr.un
  omega
theorem eqvInts : ∀ xs ys : List Int, PyData.eqvAll (xs.map PyData.int) (ys.map PyData.int) = decide (xs = ys)
  | [], [] => by
    show PyData.eqvAll [] [] = _
    rw [PyData.eqvAll]
    rfl
  | [], y :: ys => by
    show PyData.eqvAll [] (_ :: _) = _
    rw [PyData.eqvAll] <;> first | rfl | simp
  | x :: xs, [] => by
    show PyData.eqvAll (_ :: _) [] = _
    rw [PyData.eqvAll] <;> first | rfl | simp
  | x :: xs, y :: ys => by
    show PyData.eqvAll (PyData.int x :: xs.map PyData.int) (PyData.int y :: ys.map PyData.int) = _
    rw [PyData.eqvAll, eqvInts xs ys, PyData.eqv]
    by_cases h : x = y
    · subst h
      by_cases h2 : xs = ys
      · subst h2
        simp
      · simp [h2]
    · simp [h]
theorem eqvIntsT (xs ys : List Int) : PyData.eqv (.tuple (xs.map PyData.int)) (.tuple (ys.map PyData.int)) = decide (xs = ys) := by
  rw [PyData.eqv]
  exact eqvInts xs ys
theorem eqvIntsL (xs ys : List Int) : PyData.eqv (.list (xs.map PyData.int)) (.list (ys.map PyData.int)) = decide (xs = ys) := by
  rw [PyData.eqv]
  exact eqvInts xs ys

end R
namespace R
open PySem PySem.Spec PyProof.Rows L2
/-! ## what any value is: integers, lots, bars -/
def kOdd (K : PySem.W.Frag) (H : Hp) (x : V) : Prop := (∃ b, x = .bl b) ∨ ∃ t, TyX K H x (.type t) ∧ kitB t "int" = some false
theorem kOdd.ni {K : PySem.W.Frag} {H : Hp} {x : V} (h : kOdd K H x) (i : Int) : x ≠ .int i := by
  rintro rfl
  rcases h with ⟨b, e⟩ | ⟨t, h1, h2⟩
  · cases e
  · cases h1 with
    | base h =>
      cases h
      exact absurd h2 (by decide +kernel)
/-- an integer or something else whose kind is known -/
def Itm (K : PySem.W.Frag) (H : Hp) (x : V) : Prop := (∃ i, x = .int i) ∨ kOdd K H x
def NotTup (K : PySem.W.Frag) (H : Hp) (x : V) : Prop := ∃ t, TyX K H x (.type t) ∧ kitB t "tuple" = some false
def ascV (m : Int) : Int → List V → Bool
  | _, [] => true
  | lo, .int i :: r => (decide (lo ≤ i) && decide (i ≤ m - 1)) && ascV m (i + 1) r
  | _, _ :: _ => false
theorem ascV_ni {m lo : Int} {x : V} {r : List V} (h : ∀ i, x ≠ .int i) : ascV m lo (x :: r) = false := by
  cases x with
  | int i => exact absurd rfl (h i)
  | _ => rfl
theorem ascV_int {m lo i : Int} {r : List V} : ascV m lo (.int i :: r) = ((decide (lo ≤ i) && decide (i ≤ m - 1)) && ascV m (i + 1) r) := rfl
theorem ascV_iff {m : Int} : ∀ {l : List Int} {lo : Int}, ascV m lo (l.map V.int) = true ↔ l.Pairwise (· < ·) ∧ (∀ r ∈ l, lo ≤ r) ∧ ∀ r ∈ l, r < m
  | [], lo => ⟨fun _ => ⟨.nil, fun r h => by simp at h, fun r h => by simp at h⟩, fun _ => rfl⟩
  | x :: l, lo => by
    show ((decide (lo ≤ x) && decide (x ≤ m - 1)) && ascV m (x + 1) (l.map V.int)) = true ↔ _
    rw [Bool.and_eq_true, Bool.and_eq_true, decide_eq_true_iff, decide_eq_true_iff, ascV_iff (l := l) (lo := x + 1)]
    constructor
    · rintro ⟨⟨h1, h2⟩, h3, h4, h5⟩
      refine ⟨List.pairwise_cons.mpr ⟨fun z hz => by have := h4 z hz; omega, h3⟩, fun r hr => ?_, fun r hr => ?_⟩
      · rcases List.mem_cons.mp hr with rfl | hr
        · exact h1
        · have := h4 r hr
          omega
      · rcases List.mem_cons.mp hr with rfl | hr
        · omega
        · exact h5 r hr
    · rintro ⟨h1, h2, h3⟩
      obtain ⟨h4, h5⟩ := List.pairwise_cons.mp h1
      have := h3 x List.mem_cons_self
      exact ⟨⟨h2 x List.mem_cons_self, by omega⟩, h5, fun r hr => by have := h4 r hr; omega, fun r hr => h3 r (List.mem_cons_of_mem _ hr)⟩
theorem LotOk.asc {m : Int} {l : List Int} (h : LotOk m l) : ascV m 0 (l.map V.int) = true := ascV_iff.mpr ⟨h.up, h.ge, h.lt⟩
def barV : V → List V → Bool
  | .int m, zs => (decide (1 ≤ m) && decide (m ≤ 1000000)) && (ascV m 0 zs && decide (zs.length ≤ 60))
  | _, _ => false
theorem barV_ni {x : V} {r : List V} (h : ∀ i, x ≠ .int i) : barV x r = false := by
  cases x with
  | int i => exact absurd rfl (h i)
  | _ => rfl
theorem itmInts {K : PySem.W.Frag} {H : Hp} (l : List Int) : ∀ y ∈ l.map V.int, Itm K H y := fun y h => by
  obtain ⟨i, _, rfl⟩ := List.mem_map.mp h
  exact .inl ⟨i, rfl⟩
def sp_p_is_integer (K : PySem.W.Frag) : Sp := fun vs H Q _ => ∃ x : V, vs = [x] ∧ ((∃ i, x = .int i ∧ Q (.bl true) H) ∨ (kOdd K H x ∧ Q (.bl false) H))
def sp_p_integer_within (K : PySem.W.Frag) : Sp := fun vs H Q _ => ∃ (x : V) (lo hi : Int), vs = [x, .int lo, .int hi] ∧ ((∃ i, x = .int i ∧ Q (.bl (decide (lo ≤ i) && decide (i ≤ hi))) H) ∨ (kOdd K H x ∧ Q (.bl false) H))
def sp_p_is_ascending (K : PySem.W.Frag) : Sp := fun vs H Q _ => ∃ (x : V) (m : Int), vs = [x, .int m] ∧ ((NotTup K H x ∧ Q (.bl false) H) ∨ ∃ a xs, x = .ref a ∧ SqT K H a xs ∧ (∀ y ∈ xs, Itm K H y) ∧ Q (.bl (ascV m 0 xs)) H)
def sp_p_is_lot (K : PySem.W.Frag) : Sp := fun vs H Q _ => ∃ (x : V) (m : Int), vs = [x, .int m] ∧ ((NotTup K H x ∧ Q (.bl false) H) ∨ ∃ a xs, x = .ref a ∧ SqT K H a xs ∧ (∀ y ∈ xs, Itm K H y) ∧ Q (.bl (ascV m 0 xs && decide (xs.length ≤ 60))) H)
def sp_p_is_pair (K : PySem.W.Frag) : Sp := fun vs H Q _ => ∃ x : V, vs = [x] ∧ ((NotTup K H x ∧ Q (.bl false) H) ∨ ∃ a xs, x = .ref a ∧ SqT K H a xs ∧ Q (.bl (decide (xs.length = 2))) H)
def sp_p_is_bar (K : PySem.W.Frag) : Sp := fun vs H Q _ => ∃ x : V, vs = [x] ∧ ((NotTup K H x ∧ Q (.bl false) H) ∨ ∃ a xs, x = .ref a ∧ SqT K H a xs ∧ ((xs.length ≠ 2 ∧ Q (.bl false) H) ∨
  ∃ y z, xs = [y, z] ∧ Itm K H y ∧ ((NotTup K H z ∧ Q (.bl false) H) ∨ ∃ c zs, z = .ref c ∧ SqT K H c zs ∧ (∀ u ∈ zs, Itm K H u) ∧ Q (.bl (barV y zs)) H)))
section
variable {P : Program} {w : World} {K : PySem.W.Frag} {mg : Str → Option Value} {base : Heap}
theorem ok_p_is_integer (T : Txt K mg) : FnOk P w K mg base CX0 2 T.f_p_is_integer T.fd_p_is_integer ["value"] (sp_p_is_integer K) := by
  refine T.F_p_is_integer.ok sc_p_is_integer (fun vs H Q E h => ?_) (fun cdv A outer s H vs Q E hr h => ?_)
  · obtain ⟨x, rfl, _⟩ := h
    rfl
  · obtain ⟨x, rfl, h⟩ := h
    refine ⟨_, (pss_one (ps_ret (pe_and (pe_callB call_isi (by rfl) T.z_isinstance (by decide +kernel) (pa_cons (pv 0) (pa_cons (pe_bltn (v := .ty "int") (by rfl) T.z_int (by decide +kernel) rfl) pa_nil))) (pe_one (pe_not (pe_callB call_isi (by rfl) T.z_isinstance (by decide +kernel) (pa_cons (pv 0) (pa_cons (pe_bltn (v := .ty "bool") (by rfl) T.z_bool (by decide +kernel) rfl) pa_nil)))))))), ?_⟩
    rcases h with ⟨x, rfl, q⟩ | ⟨⟨b, rfl⟩ | ⟨t, ht, hk⟩, q⟩
    · refine ⟨_, rfl, _, _, _, _, _, rfl, .ty "int", .base (.int x), kit_ty (r := true) (by decide +kernel), true, rfl, iteT ?_⟩
      exact ⟨_, rfl, _, _, _, _, _, rfl, .ty "bool", .base (.int x), kit_ty (r := false) (by decide +kernel), false, rfl, q⟩
    · refine ⟨_, rfl, _, _, _, _, _, rfl, .ty "int", .base (.bl b), kit_ty (r := true) (by decide +kernel), true, rfl, iteT ?_⟩
      exact ⟨_, rfl, _, _, _, _, _, rfl, .ty "bool", .base (.bl b), kit_ty (r := true) (by decide +kernel), true, rfl, q⟩
    · exact ⟨_, rfl, _, _, _, _, _, rfl, .ty "int", ht, kit_ty (r := false) hk, false, rfl, iteF q⟩
theorem ok_p_integer_within (T : Txt K mg) : FnOk P w K mg base CX0 3 T.f_p_integer_within T.fd_p_integer_within ["value", "least", "greatest"] (sp_p_integer_within K) := by
  refine T.F_p_integer_within.ok sc_p_integer_within (fun vs H Q E h => ?_) (fun cdv A outer s H vs Q E hr h => ?_)
  · obtain ⟨x, lo, hi, rfl, _⟩ := h
    rfl
  · obtain ⟨x, lo, hi, rfl, h⟩ := h
    refine ⟨_, (pss_one (ps_ret (pe_and (pe_call (ok_p_is_integer T) (hr.mono (by decide)) (by rfl) T.g_p_is_integer T.F_p_is_integer.kp T.b_p_is_integer .nil pass0 (pa_cons (pv 0) pa_nil)) (pe_one (pe_chain op_le op_le (pv 1) (pv 0) (pv 2)))))), ?_⟩
    rcases h with ⟨x, rfl, q⟩ | ⟨o, q⟩
    · refine ⟨_, rfl, _, rfl, .inl ⟨x, rfl, true, rfl, iteT ⟨_, rfl, _, rfl, _, _, rfl, rfl, _, rfl, ?_⟩⟩⟩
      by_cases h : lo ≤ x
      · rw [decide_eq_true h] at q ⊢
        exact iteT ⟨_, rfl, _, _, rfl, rfl, q⟩
      · rw [decide_eq_false h] at q ⊢
        exact iteF q
    · exact ⟨_, rfl, _, rfl, .inr ⟨o, false, rfl, iteF q⟩⟩
theorem ok_p_is_pair (T : Txt K mg) : FnOk P w K mg base CX0 2 T.f_p_is_pair T.fd_p_is_pair ["value"] (sp_p_is_pair K) := by
  refine T.F_p_is_pair.ok sc_p_is_pair (fun vs H Q E h => ?_) (fun cdv A outer s H vs Q E hr h => ?_)
  · obtain ⟨v, rfl, _⟩ := h
    rfl
  · obtain ⟨v, rfl, h⟩ := h
    refine ⟨_, (pss_one (ps_ret (pe_and (pe_callB call_isi (by rfl) T.z_isinstance (by decide +kernel) (pa_cons (pv 0) (pa_cons (pe_bltn (v := .ty "tuple") (by rfl) T.z_tuple (by decide +kernel) rfl) pa_nil))) (pe_one (pe_cmpR op_eq (pe_callB call_len_seq (by rfl) T.z_len (by decide +kernel) (pa_cons (pv 0) pa_nil)) pe_int (nomark _)))))), ?_⟩
    rcases h with ⟨⟨t, ht, hk⟩, q⟩ | ⟨a, xs, rfl, ta, q⟩
    · exact ⟨_, rfl, _, _, _, _, _, rfl, .ty "tuple", ht, kit_ty (r := false) hk, false, rfl, iteF q⟩
    · refine ⟨_, rfl, _, _, _, _, _, rfl, .ty "tuple", tyTup ta, kit_ty (r := true) (by decide +kernel), true, rfl, iteT ?_⟩
      refine ⟨_, rfl, a, _, rfl, .inr ta, rfl, ?_⟩
      have e2 : decide (V.int (xs.length : Int) = V.int 2) = decide (xs.length = 2) := by
        rw [Bool.eq_iff_iff, decide_eq_true_iff, decide_eq_true_iff]
        exact ⟨fun h => by have := V.int.inj h; omega, fun h => by rw [h]; rfl⟩
      show Q (.bl (decide (V.int (xs.length : Int) = V.int 2))) H
      rw [e2]
      exact q
end

end R
namespace R
open PySem PySem.Spec PyProof.Rows L2
/-! ## values that are no numbers -/
/-- a value that is no number, index or the like: no integer, or one that is too great -/
def OddV (K : PySem.W.Frag) (H : Hp) (x : V) : Prop := kOdd K H x ∨ x = .int (10 ^ 30 + 1) ∨ x = .int (0 - 10 ^ 30 - 1)
theorem tyKeep {K : PySem.W.Frag} {H H' : Hp} {r L : Addr} {x : V} {t : Value} (h : TyX K H x t) (R : RowAt H r L) (s : Kp r H H') (R' : RowAt H' r L) : TyX K H' x t := by
  obtain ⟨ns, i, b, z, e, _⟩ := R.ex
  obtain ⟨ns', i', b', z', e', _⟩ := R'.ex
  have ne : ∀ {a : Addr} {o : HO}, H a = some o → (∀ zs, o ≠ .lst zs) → a ≠ r := fun {a o} h1 h2 w => by
    subst w
    rw [e] at h1
    exact h2 _ (Option.some.inj h1).symm
  cases h with
  | base h => cases h with
    | non => exact .base .non
    | bl b => exact .base (.bl b)
    | int i => exact .base (.int i)
    | str x => exact .base (.str x)
    | flt x => exact .base (.flt x)
    | lst h =>
      rename_i a xs
      by_cases w : a = r
      · subst w
        exact .base (.lst e')
      · exact .base (.lst (s _ _ w h))
    | frz h => exact .base (.frz (s _ _ (ne h (fun _ w => nomatch w)) h))
    | tup h => exact .base (.tup (s _ _ (ne h (fun _ w => nomatch w)) h))
    | dK h => exact .base (.dK (s _ _ (ne h (fun _ w => nomatch w)) h))
    | dT h => exact .base (.dT (s _ _ (ne h (fun _ w => nomatch w)) h))
    | ins h c1 c2 c3 c4 c5 => exact .base (.ins (s _ _ (ne h (fun _ w => nomatch w)) h) c1 c2 c3 c4 c5)
  | byt b => exact .byt b
  | set h => exact .set (s _ _ (ne h (fun _ w => nomatch w)) h)
  | kList e c => exact .kList e c
  | kTuple e c => exact .kTuple e c
  | kDict e c => exact .kDict e c
  | fTuple h => exact .fTuple (s _ _ (ne h (fun _ w => nomatch w)) h)
  | fDict h => exact .fDict (s _ _ (ne h (fun _ w => nomatch w)) h)
theorem tySame {K : PySem.W.Frag} {H H' : Hp} {x : V} {t : Value} (h : TyX K H x t) (s : Same H H') : TyX K H' x t := by
  cases h with
  | base h => cases h with
    | non => exact .base .non
    | bl b => exact .base (.bl b)
    | int i => exact .base (.int i)
    | str x => exact .base (.str x)
    | flt x => exact .base (.flt x)
    | lst h => exact .base (.lst (s _ _ h))
    | frz h => exact .base (.frz (s _ _ h))
    | tup h => exact .base (.tup (s _ _ h))
    | dK h => exact .base (.dK (s _ _ h))
    | dT h => exact .base (.dT (s _ _ h))
    | ins h c1 c2 c3 c4 c5 => exact .base (.ins (s _ _ h) c1 c2 c3 c4 c5)
  | byt b => exact .byt b
  | set h => exact .set (s _ _ h)
  | kList e c => exact .kList e c
  | kTuple e c => exact .kTuple e c
  | kDict e c => exact .kDict e c
  | fTuple h => exact .fTuple (s _ _ h)
  | fDict h => exact .fDict (s _ _ h)
theorem OddV.keep {K : PySem.W.Frag} {H H' : Hp} {r L : Addr} {x : V} (h : OddV K H x) (R : RowAt H r L) (s : Kp r H H') (R' : RowAt H' r L) : OddV K H' x := by
  rcases h with (h | ⟨t, h1, h2⟩) | h
  · exact .inl (.inl h)
  · exact .inl (.inr ⟨t, tyKeep h1 R s R', h2⟩)
  · exact .inr h
theorem OddV.same {K : PySem.W.Frag} {H H' : Hp} {x : V} (h : OddV K H x) (s : Same H H') : OddV K H' x := by
  rcases h with (h | ⟨t, h1, h2⟩) | h
  · exact .inl (.inl h)
  · exact .inl (.inr ⟨t, tySame h1 s, h2⟩)
  · exact .inr h

end R
namespace R
open PySem PySem.Spec PyProof.Rows L2
/-! ## numbers judged -/
def IsNum (x : Int) : Prop := -1000000000000000000000000000000 ≤ x ∧ x ≤ 1000000000000000000000000000000
theorem IsNum.size {x : Int} (h : IsNum x) : x.natAbs < 2 ^ 200 := by
  have : x.natAbs ≤ 1000000000000000000000000000000 := by
    unfold IsNum at h
    omega
  exact Nat.lt_of_le_of_lt this (by decide)
/-- what may be asked of any value: a number, an integer that is none, or something else -/
theorem OddV.cases {K : PySem.W.Frag} {H : Hp} {x : V} (h : OddV K H x) : kOdd K H x ∨ ∃ i, x = .int i ∧ ¬ IsNum i := by
  rcases h with h | rfl | rfl
  · exact .inl h
  · exact .inr ⟨_, rfl, by unfold IsNum; omega⟩
  · exact .inr ⟨_, rfl, by unfold IsNum; omega⟩
def sp_p_is_number (K : PySem.W.Frag) : Sp := fun vs H Q _ => ∃ x : V, vs = [x] ∧ ((∃ i, x = .int i ∧ IsNum i ∧ Q (.bl true) H) ∨ (OddV K H x ∧ Q (.bl false) H))
section
variable {P : Program} {w : World} {K : PySem.W.Frag} {mg : Str → Option Value} {base : Heap}
theorem ok_p_is_number (T : Txt K mg) : FnOk P w K mg base CX0 4 T.f_p_is_number T.fd_p_is_number ["value"] (sp_p_is_number K) := by
  refine T.F_p_is_number.ok sc_p_is_number (fun vs H Q E h => ?_) (fun cdv A outer s H vs Q E hr h => ?_)
  · obtain ⟨x, rfl, _⟩ := h
    rfl
  · obtain ⟨x, rfl, h⟩ := h
    refine ⟨_, (pss_one (ps_ret (pe_call (ok_p_integer_within T) (hr.mono (by decide)) (by rfl) T.g_p_integer_within T.F_p_integer_within.kp T.b_p_integer_within .nil pass0 (pa_cons (pv 0) (pa_cons (pe_un un_neg (pe_glob (v := .int 1000000000000000000000000000000) (by rfl) T.c_GREATEST_NUMBER.choose_spec ⟨_, rfl⟩)) (pa_cons (pe_glob (v := .int 1000000000000000000000000000000) (by rfl) T.c_GREATEST_NUMBER.choose_spec ⟨_, rfl⟩) pa_nil)))))), ?_⟩
    rcases h with ⟨i, rfl, hi, q⟩ | ⟨o, q⟩
    · refine ⟨_, rfl, _, rfl, _, _, _, rfl, .inl ⟨_, rfl, ?_⟩⟩
      rw [decide_eq_true hi.1, decide_eq_true hi.2]
      exact q
    · rcases o.cases with o | ⟨i, rfl, hi⟩
      · exact ⟨_, rfl, _, rfl, _, _, _, rfl, .inr ⟨o, q⟩⟩
      · refine ⟨_, rfl, _, rfl, _, _, _, rfl, .inl ⟨_, rfl, ?_⟩⟩
        have e : (decide (-1000000000000000000000000000000 ≤ i) && decide (i ≤ 1000000000000000000000000000000)) = false := by
          rw [← Bool.decide_and, decide_eq_false]
          exact hi
        show Q (.bl (decide (-1000000000000000000000000000000 ≤ i) && decide (i ≤ 1000000000000000000000000000000))) H
        rw [e]
        exact q
end

end R
namespace R
open PySem PySem.Spec PyProof.Rows L2
/-! ## walks within a comprehension's block, told over the written part alone -/
theorem pi_tupK {X : Cx} {K : PySem.W.Frag} {tg e : Expr} {te : TE} (hK : X.K = K) (he : PE X e te) : PI X tg e (iTup K te) := by
  subst hK
  exact pi_tup he
theorem pi_listK {X : Cx} {K : PySem.W.Frag} {tg e : Expr} {te : TE} (hK : X.K = K) (he : PE X e te) : PI X tg e (iList K te) := by
  subst hK
  exact pi_list he
def rTupOf (K : PySem.W.Frag) : List V → Hp → VK → Prop := fun vs H Q => ∃ p ys, vs = [.ref p] ∧ ((SqL K H p ys ∧ ∀ l, H l = none → Q (.ref l) (upd H l (.tup ys))) ∨ (SqT K H p ys ∧ Q (.ref p) H))

end R
namespace R
open PySem PySem.Spec PyProof.Rows L2
/-! ## an empty set -/
abbrev noSet (w : World) : Obj := { cls := .type "set", dict := none, data := .set #[] 0 (.fresh 0 0 (!w.params.followText "set-order")) }

end R
namespace R
open PySem PySem.Spec PyProof.Rows L2
/-! ## {e for t in it if ..}, e an int -/
open PpSet in
/-- D the new set; W by the turn and a measure -/
def tScI (w : World) (wi : TI) (g : TG) (tt : TT) (te : TE) (vs : List Nat) : TE := fun σ H Q => wi σ H fun J H1 => ∀ D, H1 D = none →
  ∃ W : Nat → Nat → Hp → Prop, (∃ m, W 0 m (upd H1 D (SetO w D (fun _ => false) 0))) ∧ ∀ i m H, W i m H → (J.stop i H ∧ Q (.ref D) H) ∨
    (J.go i H ∧ ∃ Nx : Hp → Prop, (∀ H', Nx H' → ∃ m', m' < m ∧ W (i + 1) m' H') ∧ ∀ x H', J.yld i H x H' → g x (wipe σ vs) H' fun σ2 H2 => wipe σ2 vs = wipe σ vs ∧ tt σ2 H2 fun b H3 =>
      if b = true then te σ2 H3 fun y H4 => ∃ (c : Int) (S : Int → Bool) (n : Nat), y = .int c ∧ H4 D = some (SetO w D S n) ∧ n + 1 < scanBound ∧ Nx (upd H4 D (SetO w D (fun j => S j || decide (j = c)) (if S c = true then n else n + 1))) else Nx H3)
open PpSet in
theorem addI_ok {X : Cx} {pins : List (Addr × Obj)} {σ : L2.St} {H : Hp} {s : Shared} {E : Value → Shared → Prop} {D : Addr} {S : Int → Bool} {n : Nat} {y : Int} {tk : Tok} {Q : Value → Shared → Prop} (I : Inv X pins σ H s)
    (hD : H D = some (SetO X.w D S n)) (room : n + 1 < scanBound) (h : ∀ s', Inv X pins σ (upd H D (SetO X.w D (fun j => S j || decide (j = y)) (if S y = true then n else n + 1))) s' → Q .none s') :
    wpAny (model X.prog X.w) X.A (call (.builtin "set.add") [.ref D, .int y tk]) Q E s := by
  refine setR_add (setO_get I hD) room fun h' sb new => h _ ?_
  obtain ⟨o, _, _, _, ho, _⟩ := id new
  exact I.write (e := D) (t' := s.toks + 1) (by rw [hD]; trivial) (.inl rfl) (fun b u hb hu => (sb.2 b hb).trans hu) ⟨o, ho⟩ (setO_new new)
open PpSet in
set_option maxHeartbeats 8000000 in
theorem scI_core {X : Cx} {pins : List (Addr × Obj)} {s : Shared} {σ : L2.St} {H : Hp} {Q : VK} {elt tg iter : Expr} {ifs : List Expr} {scope : Scope} {own : List (PySem.Str × Nat)} {pos pos' : Pos} {wi : TI} {g : TG} {tt : TT} {te : TE}
    {use : Option (Value → Sem Unit)} {Qf : Value → Shared → Prop} (hc : X.calm = true) (hN : X.N.Nodup) (I : Inv X pins σ H s) (hi : PI X tg iter wi) (ok : BlkOk X.N X.env.scope scope own)
    (hg : ∀ (s : Shared) (H : Hp) (C : Addr) (cl : List (PySem.Str × Addr)) (fp : List Addr), PG (X.blk s H scope (compEnvC scope cl C X.env) fp) tg g)
    (ht : ∀ (s : Shared) (H : Hp) (C : Addr) (cl : List (PySem.Str × Addr)) (fp : List Addr), PTs (X.blk s H scope (compEnvC scope cl C X.env) fp) ifs tt)
    (he : ∀ (s : Shared) (H : Hp) (C : Addr) (cl : List (PySem.Str × Addr)) (fp : List Addr), PE (X.blk s H scope (compEnvC scope cl C X.env) fp) elt te) (hs : ∀ x, foldedSetIterable iter X.env x = pure x)
    (h : tScI X.w wi g tt te (own.map (·.2)) σ H Q)
    (last : ∀ D C s' m H', Inv X pins σ H' s' → Q (.ref D) H' → s'.heap.Ns C m → FpOk X pins H' C → compPost (model X.prog X.w) X.A X.xe use Qf (.ref D) C (.ok .next) s') :
    wpAny (model X.prog X.w) X.A (comprehension (.SetComp elt [⟨tg, iter, ifs, 0⟩] scope pos) scope X.env pos' (newSet (.type "set")) false (eval iter X.env) use) Qf X.xe s := by
  have cap : ∀ y ∈ scope.names, y.2 = .free → ∃ c, X.env.cells.lookup y.1 = some c := fun y hy e => I.ok.has _ (ok.free y hy e)
  refine wpAny_comprehension_free (use := use) rfl hs (closure_ok cap) ok.kind (fun y hy e => by rw [ok.uniq y hy, e]) (thn (hi.run pins s σ H _ I h) fun xv s1 hx => thn hx fun itv s2 h2 => ?_)
  obtain ⟨it, fp, tn, J, H2, e, I2, T, st2, f2, q⟩ := h2
  subst e
  refine newSet_ok (newEnv_comp ?_)
  generalize hD : s2.heap.objs.size = D
  have fresh := I2.hok.fresh (Nat.le_of_eq hD)
  obtain ⟨W, ⟨m0, w0⟩, turn⟩ := q D fresh
  generalize hs3 : ({ s2 with heap := s2.heap.push (noSet X.w) } : Shared) = s3
  have h3 : s3.heap = s2.heap.push (noSet X.w) := hs3 ▸ rfl
  have I3 : Inv X pins σ (upd H2 D (SetO X.w D (fun _ => false) 0)) s3 := by
    rw [← hs3]
    refine I2.laid (t' := s2.toks) (fun b o e => Heap.get?_push_of_some _ e) (Nat.le_of_eq hD) ?_
    subst hD
    exact setO_new (setR_fresh X.w)
  have old : ∀ b ∈ fp, b < s2.heap.objs.size := fun b hb => let ⟨_, e, _⟩ := T.obj _ _ st2 b hb; Heap.lt_size e
  have f3 : ∀ b ∈ fp, FpOk X pins (upd H2 D (SetO X.w D (fun _ => false) 0)) b ∧ b < s3.heap.objs.size := fun b hb => by
    have lt := old b hb
    refine ⟨⟨?_, (f2 b hb).2⟩, h3 ▸ (by rw [Heap.size_push]; exact Nat.lt_succ_of_lt lt)⟩
    rw [upd_ne (hD ▸ Nat.ne_of_lt lt)]
    exact (f2 b hb).1
  have st3 : tn 0 s3.heap := T.keep _ _ _ st2 fun b _ o e => h3 ▸ Heap.get?_push_of_some _ e
  have I4 := block_start I3 ok hN f3
  have pg := hg s3 (upd H2 D (SetO X.w D (fun _ => false) 0)) s3.heap.objs.size (cellsFrom (s3.heap.objs.size + 1) scope.names (cloFrom X.env.cells scope.names [])) fp
  have pt := ht s3 (upd H2 D (SetO X.w D (fun _ => false) 0)) s3.heap.objs.size (cellsFrom (s3.heap.objs.size + 1) scope.names (cloFrom X.env.cells scope.names [])) fp
  have pe := he s3 (upd H2 D (SetO X.w D (fun _ => false) 0)) s3.heap.objs.size (cellsFrom (s3.heap.objs.size + 1) scope.names (cloFrom X.env.cells scope.names [])) fp
  show codeAny _ _ (.compStart (.SetComp elt [⟨tg, iter, ifs, 0⟩] scope pos) 0 (.ref it) (.ref D) (compEnvC scope (cellsFrom (s3.heap.objs.size + 1) scope.names (cloFrom X.env.cells scope.names [])) s3.heap.objs.size X.env))
    (compPost (model X.prog X.w) X.A X.xe use Qf (.ref D) s3.heap.objs.size) { s3 with heap := pushCells (s3.heap.push { cls := .type "dict", data := .dict #[] }) scope.names }
  have none3 : ∀ b ∈ fp, (upd H2 D (SetO X.w D (fun _ => false) 0)) b = none := fun b hb => (f3 b hb).1.1
  generalize hce : compEnvC scope (cellsFrom (s3.heap.objs.size + 1) scope.names (cloFrom X.env.cells scope.names [])) s3.heap.objs.size X.env = ce at I4 pg pt pe ⊢
  have cL : ce.locals = s3.heap.objs.size := hce ▸ rfl
  generalize hH3 : upd H2 D (SetO X.w D (fun _ => false) 0) = H3 at I3 I4 pg pt pe w0 none3 f3
  generalize hs4 : ({ s3 with heap := pushCells (s3.heap.push { cls := .type "dict", data := .dict #[] }) scope.names } : Shared) = s4 at I4 ⊢
  have st4 : tn 0 s4.heap := T.keep _ _ _ st3 fun b _ o e => hs4 ▸ pushCells_keeps _ _ _ _ (Heap.get?_push_of_some _ e)
  have still : ∀ {σ' : L2.St} {H' : Hp} {s' : Shared}, Inv (X.blk s3 H3 scope ce fp) [] σ' H' s' → (∀ b ∈ fp, H' b = none) → ∀ b ∈ fp, FpOk (X.blk s3 H3 scope ce fp) [] H' b := by
    intro σ' H' s' I' hn b hb
    obtain ⟨x1, x2⟩ := I'.ok.exf b hb
    exact ⟨hn b hb, x1, I'.ok.exfs b hb, .inl hb, x2, fun p hp => absurd (show p ∈ ([] : List (Addr × Obj)) ++ [] from hp) (by simp)⟩
  have loop : codeAny (model X.prog X.w) X.A (.compLoop (.SetComp elt [⟨tg, iter, ifs, 0⟩] scope pos) 0 (.ref it) (.ref D) ce) (compPost (model X.prog X.w) X.A X.xe use Qf (.ref D) s3.heap.objs.size) s4 := by
    refine compLoopS_any (fun n s' => ∃ i H', Inv (X.blk s3 H3 scope ce fp) [] (wipe σ (own.map (·.2))) H' s' ∧ tn i s'.heap ∧ (∀ b ∈ fp, H' b = none) ∧ W i n H') ?_ m0 ⟨0, H3, I4, st4, none3, w0⟩
    rintro n s5 ⟨i, H5, I5, st5, n5, w5⟩
    rcases turn i n H5 w5 with ⟨stop, done⟩ | ⟨go, Nx, hNx, step⟩
    · refine thnF (T.done (X.blk s3 H3 scope ce fp) rfl rfl rfl hc i [] s5 _ H5 (fun _ _ => False) I5 (still I5 n5) st5 stop) fun r s6 ⟨hr, I6⟩ => ?_
      subst hr
      have I7 : Inv X pins σ H5 s6 := I3.call' (ch := fp) I6.os I6.base I6.hok I6.bare fun b hb => let z := (f3 b hb).1.2; ⟨z.2.2.1, z.1, z.2.2.2.1, z.2.2.2.2⟩
      have gone : H5 s3.heap.objs.size = none := cL ▸ (show H5 ce.locals = none from I6.free)
      obtain ⟨m, hm, _⟩ := I6.loc
      have hm' : s6.heap.Ns ce.locals m := hm
      rw [cL] at hm'
      exact last D s3.heap.objs.size s6 m H5 I7 done hm' (I3.fpOk (Nat.le_refl _) gone)
    · refine thnF (T.item (X.blk s3 H3 scope ce fp) rfl rfl rfl hc i [] s5 _ H5 (fun _ _ => False) I5 (still I5 n5) st5 go) fun r s6 ⟨u, hr, h6⟩ => ?_
      subst hr
      refine thnF h6 fun _ s7 ⟨x, H7, I7, r7, y7, st7, n7⟩ => ?_
      have I7' := I7.pinned (still I7 n7) (T.obj _ _ st7)
      refine thnF (pg.run _ s7 _ H7 x u _ I7' r7 (step x H7 y7)) fun _ s8 ⟨σ8, H8, I8, hw8, q8⟩ => ?_
      refine thnF (pt.run _ s8 σ8 H8 _ I8 q8) fun b s9 ⟨H9, I9, q9⟩ => ?_
      have fin : ∀ {s' : Shared} {H' : Hp}, Inv (X.blk s3 H3 scope ce fp) ([] ++ pinsAt fp s7.heap) σ8 H' s' → Nx H' →
          ∃ m, m < n ∧ ∃ i H', Inv (X.blk s3 H3 scope ce fp) [] (wipe σ (own.map (·.2))) H' s' ∧ tn i s'.heap ∧ (∀ b ∈ fp, H' b = none) ∧ W i m H' := by
        intro s' H' I' nx
        obtain ⟨m', hm, w'⟩ := hNx H' nx
        have pinned : ∀ b ∈ fp, ∀ o, s7.heap.get? b = some o → s'.heap.get? b = some o ∧ H' b = none := fun b hb o e => by
          have z := I'.pin (b, o) (List.mem_append_right _ (List.mem_append_right _ (mem_pinsAt hb e)))
          exact ⟨z.1, z.2.1⟩
        have len : (wipe σ (own.map (·.2))).length = σ8.length := by rw [← hw8, wipe_length]
        refine ⟨m', hm, i + 1, H', (I'.unpinned (pins := [])).weak len (fun j v e => (wipe_some (hw8 ▸ e)).1), T.keep _ _ _ st7 fun b hb o e => (pinned b hb o e).1, fun b hb => ?_, w'⟩
        obtain ⟨o, e, _⟩ := T.obj _ _ st7 b hb
        exact (pinned b hb o e).2
      cases b with
      | false =>
        rw [if_neg Bool.false_ne_true] at q9 ⊢
        exact fin I9 q9
      | true =>
        rw [if_pos rfl] at q9 ⊢
        refine thnF (pe.run _ s9 σ8 H9 _ I9 q9) fun z s10 ⟨yv, H10, I10, r10, c, S0, n0, ey, hD10, room, nx⟩ => ?_
        subst ey
        obtain ⟨tk, rfl⟩ : ∃ t, z = Value.int c t := r10
        exact addI_ok (X := X.blk s3 H3 scope ce fp) I10 hD10 room fun s11 I11 => fin I11 nx
  exact codeAny_compStart_set loop (T.self X.A 0 _ _ _ st4 loop)
open PpSet in
theorem pe_scI {X : Cx} {elt tg iter : Expr} {ifs : List Expr} {scope : Scope} {own : List (PySem.Str × Nat)} {pos : Pos} {wi : TI} {g : TG} {tt : TT} {te : TE} (hc : X.calm = true) (hN : X.N.Nodup) (hi : PI X tg iter wi)
    (ok : BlkOk X.N X.env.scope scope own) (hg : ∀ (s : Shared) (H : Hp) (C : Addr) (cl : List (PySem.Str × Addr)) (fp : List Addr), PG (X.blk s H scope (compEnvC scope cl C X.env) fp) tg g)
    (ht : ∀ (s : Shared) (H : Hp) (C : Addr) (cl : List (PySem.Str × Addr)) (fp : List Addr), PTs (X.blk s H scope (compEnvC scope cl C X.env) fp) ifs tt)
    (he : ∀ (s : Shared) (H : Hp) (C : Addr) (cl : List (PySem.Str × Addr)) (fp : List Addr), PE (X.blk s H scope (compEnvC scope cl C X.env) fp) elt te) (hs : ∀ x, foldedSetIterable iter X.env x = pure x := by intro _; rfl) :
    PE X (.SetComp elt [⟨tg, iter, ifs, 0⟩] scope pos) (tScI X.w wi g tt te (own.map (·.2))) := by
  refine ⟨fun pins s σ H Q I h => ?_⟩
  rw [eval_SetComp]
  refine scI_core hc hN I hi ok hg ht he hs h fun D C s' m H' I' q hn f => ⟨m, hn, fun h'' sb => ⟨.ref D, H', ?_, rfl, q⟩⟩
  exact I'.turned (t' := s'.toks) (fun b o hb e => (sb.2 b hb).trans e) f.1 f.2.1 f.2.2.2.1 f.2.2.2.2.1 f.2.2.2.2.2
/-- over a tuple that stands still -/
theorem scI_tup {w : World} {K : PySem.W.Frag} {a : Addr} {xs : List V} {g : TG} {tt : TT} {te : TE} {vs : List Nat} {σ : L2.St} {H1 : Hp} {D : Addr} {Qd : Hp → Prop} (Pv : Nat → Hp → Prop) (h0 : Pv 0 (upd H1 D (SetO w D (fun _ => false) 0)))
    (hl : ∀ i H, i ≤ xs.length → Pv i H → SqT K H a xs)
    (hs : ∀ i x H, xs[i]? = some x → Pv i H → g x (wipe σ vs) H fun σ2 H2 => wipe σ2 vs = wipe σ vs ∧ tt σ2 H2 fun b H3 => if b = true then te σ2 H3 fun y H4 =>
      ∃ (c : Int) (S : Int → Bool) (n : Nat), y = .int c ∧ H4 D = some (SetO w D S n) ∧ n + 1 < scanBound ∧ Pv (i + 1) (upd H4 D (SetO w D (fun j => S j || decide (j = c)) (if S c = true then n else n + 1))) else Pv (i + 1) H3)
    (hd : ∀ H, Pv xs.length H → Qd H) : ∃ W : Nat → Nat → Hp → Prop, (∃ m, W 0 m (upd H1 D (SetO w D (fun _ => false) 0))) ∧ ∀ i m H, W i m H → ((Itt K a).stop i H ∧ Qd H) ∨
      ((Itt K a).go i H ∧ ∃ Nx : Hp → Prop, (∀ H', Nx H' → ∃ m', m' < m ∧ W (i + 1) m' H') ∧ ∀ x H', (Itt K a).yld i H x H' → g x (wipe σ vs) H' fun σ2 H2 => wipe σ2 vs = wipe σ vs ∧ tt σ2 H2 fun b H3 =>
        if b = true then te σ2 H3 fun y H4 => ∃ (c : Int) (S : Int → Bool) (n : Nat), y = .int c ∧ H4 D = some (SetO w D S n) ∧ n + 1 < scanBound ∧ Nx (upd H4 D (SetO w D (fun j => S j || decide (j = c)) (if S c = true then n else n + 1))) else Nx H3) := by
  refine ⟨fun i m H => m = xs.length - i ∧ i ≤ xs.length ∧ Pv i H, ⟨_, rfl, Nat.zero_le _, h0⟩, ?_⟩
  rintro i _ H ⟨rfl, hi, p⟩
  by_cases lt : i < xs.length
  · refine .inr ⟨⟨xs, xs[i], hl i H hi p, by simp [lt]⟩, Pv (i + 1), fun H' p' => ⟨xs.length - (i + 1), by omega, rfl, lt, p'⟩, fun x H' ⟨e, y⟩ => ?_⟩
    subst e
    exact hs i x _ (y xs (hl i _ hi p)) p
  · obtain rfl : i = xs.length := by omega
    exact .inl ⟨⟨xs, hl _ H hi p, Nat.le_refl _⟩, hd H p⟩

end R
namespace R
open PySem PySem.Spec PyProof.Rows L2
/-! ## a set of tuples of ints, one added -/
theorem check_set_add {P : Program} {w : World} {A : Around} {s : Shared} {a : Addr} {o : Obj} {x : Value} (ga : s.heap.get? a = some o) (hc : o.cls = .type "set") (Q : Unit → Shared → Prop) (E : Value → Shared → Prop) (q : Q () s) :
    wpAny (model P w) A (checkBuiltinCall "set.add" { pos := [.ref a, x] }) Q E s := by
  have iv : PySem.W.Looks (model P w) s.heap (isInstance (.ref a) (.type "set")) true := (PySem.W.Looks.andThen ((PySem.W.Looks.ld ga).andThen .now) (PySem.W.Looks.of_pure (by rw [hc]; exact PySem.F.sub_set_set)))
  have bk : builtinKind "set.add" = some Manifest.AttrKind.method := by decide +kernel
  have bs : splitId "set.add" = some ("set", "add") := by decide +kernel
  have ao := PySem.F.args_set_add_2 (.ref a) x
  unfold argsOk at ao
  unfold checkBuiltinCall
  simp only [bk, bs]
  refine wpAny_bind (iv A _ _ s (fun b o e => e) ?_)
  simp only [Bool.not_true, Bool.false_eq_true, if_false]
  cases hs : Manifest.signature? "set.add" with
  | none => exact wpAny_pure q
  | some sig =>
    rw [hs] at ao
    have ao' : Bind.checkArgs "set.add" sig { pos := [.ref a, x] } = pure () := ao
    show wpAny (model P w) A (Bind.checkArgs "set.add" sig { pos := [.ref a, x] }) _ _ _
    rw [ao']
    exact wpAny_pure q
theorem addT_call {P : Program} {w : World} {A : Around} {E : Value → Shared → Prop} {s : Shared} {a : Addr} {L : List (Addr × List Int)} {es : Array (Int × Value)} {ep : Nat} {t : SetTable} {x : Addr} {k : List Int} {Q : Value → Shared → Prop}
    (R : SetTR P w s.heap a L es ep t) (hx : IsT P w s.heap k x) (hu : A.in1.units < cLine) (few : L.length + 1 < 64)
    (h : ∀ (h' : Heap) (tk : Nat) (L' : List (Addr × List Int)) (es' : Array (Int × Value)) (ep' : Nat) (t' : SetTable), Heap.SameBut a s.heap h' → SetTR P w h' a L' es' ep' t' → (k ∈ L.map (·.2) → L' = L) → (k ∉ L.map (·.2) → L'.Perm ((x, k) :: L)) →
      Q .none { heap := h', gens := s.gens, drawn := s.drawn, toks := tk, os := s.os }) :
    wpAny (model P w) A (call (.builtin "set.add") [.ref a, .ref x]) Q E s := by
  obtain ⟨o, ga, ex, eo⟩ := R.ob
  refine wpAny_call (codeAny_call_builtin (by decide +kernel) PySem.F.entry_set_add (check_set_add ga ex.1 _ _ ?_))
  unfold Builtin.«set.add» Builtin.Frozenset.oneOther Builtin.Frozenset.addrOf setAdd
  simp only [List.isEmpty_nil]
  refine wpAny_bind (wpAny_bind (wpAny_pure (wpAny_pure ?_)))
  refine wpAny_bind (wpAny_holding (wpAny_bind (wpAny_pyHash_tuple hu hx ?_)))
  refine add_at (s := { s with toks := s.toks + (k.length + 1) }) R hx hu few fun b h' L' es' ep' t' sb R' m1 m2 => ?_
  exact wpAny_pure (h h' _ L' es' ep' t' sb R' m1 m2)
theorem under_cl (A : Around) (elt : Expr) (gs : List Comprehension) (scope : Scope) (pos : Pos) (d : Nat) (it acc : Value) (env : Env) : A.under (Code.compLoop (.SetComp elt gs scope pos) d it acc env) = A := by
  cases A
  rfl
theorem under_cs (A : Around) (elt : Expr) (gs : List Comprehension) (scope : Scope) (pos : Pos) (d : Nat) (it acc : Value) (env : Env) : A.under (Code.compStart (.SetComp elt gs scope pos) d it acc env) = A := by
  cases A
  rfl
theorem clTurn {prog : Program} {w : World} {A : Around} {R : Result → Shared → Prop} {s : Shared} {elt : Expr} {gs : List Comprehension} {scope : Scope} {pos : Pos} {it acc : Value} {env : Env} {d : Nat}
    (h : wpAny (model prog w) A (compTurn (.SetComp elt gs scope pos) d it acc env) (fun fin s' => match fin with
      | Fin.done f => R (Except.ok f) s'
      | Fin.again c' => c'.quiet = true ∧ codeAny (model prog w) A c' R s') (notedBy (model prog w) A env fun x s' => R (Except.error x) s') s) : codeAny (model prog w) A (Code.compLoop (.SetComp elt gs scope pos) d it acc env) R s := by
  refine codeAny_of_tree ?_
  rw [under_cl]
  exact wpAny_noted h
theorem clTurn1 {prog : Program} {w : World} {A : Around} {R : Result → Shared → Prop} {s : Shared} {elt t0 i0 t1 i1 : Expr} {ifs0 ifs1 : List Expr} {scope : Scope} {pos : Pos} {it acc : Value} {env : Env}
    (h : wpAny (model prog w) A (pyNext it) (fun r s₁ => match r with
      | none => R (Except.ok Flow.next) s₁
      | some v => wpAny (model prog w) A (letOwnedTupleGo t1 it v) (fun x s₁' => wpAny (model prog w) A (assign t1 env v) (fun x s₂ =>
          wpAny (model prog w) A (forIn ifs1 true fun c r => if r = true then do
              let ok ← PySem.isTrue c env (eval c env)
              pure (ForInStep.yield ok)
            else pure (ForInStep.yield r)) (fun ok s₃ => if ok = true then wpAny (model prog w) A (eval elt env) (fun x s₄ => wpAny (model prog w) A (call (Value.builtin "set.add") [acc, x])
                  (fun x s₅ => codeAny (model prog w) A (Code.compLoop (.SetComp elt [⟨t0, i0, ifs0, 0⟩, ⟨t1, i1, ifs1, 0⟩] scope pos) 1 it acc env) R s₅)
                  (notedBy (model prog w) A env fun e s' => R (Except.error e) s') s₄) (notedBy (model prog w) A env fun e s' => R (Except.error e) s') s₃
              else codeAny (model prog w) A (Code.compLoop (.SetComp elt [⟨t0, i0, ifs0, 0⟩, ⟨t1, i1, ifs1, 0⟩] scope pos) 1 it acc env) R s₃)
            (notedBy (model prog w) A env fun e s' => R (Except.error e) s') s₂) (notedBy (model prog w) A env fun e s' => R (Except.error e) s') s₁') (notedBy (model prog w) A env fun e s' => R (Except.error e) s') s₁)
      (notedBy (model prog w) A env fun e s' => R (Except.error e) s') s) :
    codeAny (model prog w) A (Code.compLoop (.SetComp elt [⟨t0, i0, ifs0, 0⟩, ⟨t1, i1, ifs1, 0⟩] scope pos) 1 it acc env) R s := by
  refine clTurn ?_
  unfold compTurn
  refine wpAny_bind (wpAny_standAt ?_)
  refine wpAny_bind (thn h ?_)
  rintro r s1 hr
  cases r with
  | none => exact wpAny_pure hr
  | some v =>
    refine wpAny_bind (thn hr fun _ s2 h2 => ?_)
    refine wpAny_bind (thn h2 fun _ s3 h3 => ?_)
    refine wpAny_bind (thn h3 fun ok s4 h4 => ?_)
    cases ok with
    | false =>
      rw [if_neg Bool.false_ne_true] at h4
      exact wpAny_pure ⟨rfl, h4⟩
    | true =>
      rw [if_pos rfl] at h4
      refine wpAny_bind (wpAny_bind (thn h4 fun x s5 h5 => ?_))
      refine wpAny_bind (wpAny_standAt (wpAny_bind (thn h5 fun _ s6 h6 => wpAny_pure ?_)))
      exact wpAny_pure ⟨rfl, h6⟩
theorem markNone (A : Around) : A.mark none = A := by
  cases A
  rfl
theorem clTurn0 {prog : Program} {w : World} {A : Around} {R : Result → Shared → Prop} {s : Shared} {elt t0 i0 t1 i1 : Expr} {ifs0 ifs1 : List Expr} {scope : Scope} {pos : Pos} {it acc : Value} {env : Env} (hs : ∀ x, foldedSetIterable i1 env x = pure x)
    (h : wpAny (model prog w) A (pyNext it) (fun r s₁ => match r with
      | none => R (Except.ok Flow.next) s₁
      | some v => wpAny (model prog w) A (letOwnedTupleGo t0 it v) (fun _ s₁' => wpAny (model prog w) A (assign t0 env v) (fun _ s₂ =>
          wpAny (model prog w) A (forIn ifs0 true fun c r => if r = true then do
              let ok ← PySem.isTrue c env (eval c env)
              pure (ForInStep.yield ok)
            else pure (ForInStep.yield r)) (fun ok s₃ => if ok = true then wpAny (model prog w) A (eval i1 env) (fun x s₄ => wpAny (model prog w) A (pyIter x)
                  (fun it1 s₅ => codeAny (model prog w) A (Code.compStart (.SetComp elt [⟨t0, i0, ifs0, 0⟩, ⟨t1, i1, ifs1, 0⟩] scope pos) 1 it1 acc env) (fun r s' => match r with
                    | Except.ok _ => codeAny (model prog w) A (Code.compLoop (.SetComp elt [⟨t0, i0, ifs0, 0⟩, ⟨t1, i1, ifs1, 0⟩] scope pos) 0 it acc env) R s'
                    | Except.error _ => False) s₅)
                  (notedBy (model prog w) A env fun e s' => R (Except.error e) s') s₄) (notedBy (model prog w) A env fun e s' => R (Except.error e) s') s₃
              else codeAny (model prog w) A (Code.compLoop (.SetComp elt [⟨t0, i0, ifs0, 0⟩, ⟨t1, i1, ifs1, 0⟩] scope pos) 0 it acc env) R s₃)
            (notedBy (model prog w) A env fun e s' => R (Except.error e) s') s₂) (notedBy (model prog w) A env fun e s' => R (Except.error e) s') s₁') (notedBy (model prog w) A env fun e s' => R (Except.error e) s') s₁)
      (notedBy (model prog w) A env fun e s' => R (Except.error e) s') s) :
    codeAny (model prog w) A (Code.compLoop (.SetComp elt [⟨t0, i0, ifs0, 0⟩, ⟨t1, i1, ifs1, 0⟩] scope pos) 0 it acc env) R s := by
  refine clTurn ?_
  unfold compTurn
  refine wpAny_bind (wpAny_standAt ?_)
  refine wpAny_bind (thn h ?_)
  rintro r s1 hr
  cases r with
  | none => exact wpAny_pure hr
  | some v =>
    refine wpAny_bind (thn hr fun _ s2 h2 => ?_)
    refine wpAny_bind (thn h2 fun _ s3 h3 => ?_)
    refine wpAny_bind (thn h3 fun ok s4 h4 => ?_)
    cases ok with
    | false =>
      rw [if_neg Bool.false_ne_true] at h4
      exact wpAny_pure ⟨rfl, h4⟩
    | true =>
      rw [if_pos rfl] at h4
      refine wpAny_bind (thn h4 fun x s5 h5 => ?_)
      refine wpAny_bind (wpAny_standAt ?_)
      refine wpAny_bind ?_
      show wpAny (model prog w) A (foldedSetIterable i1 env x) _ _ _
      rw [hs x]
      refine wpAny_pure (wpAny_bind (wpAny_holding (thn h5 fun it1 s6 h6 => ?_)))
      refine wpAny_bind (wpAny_runOwn (h := none) ?_ (by intro z; cases z))
      rw [markNone]
      refine codeAny_mono h6 fun r s7 h7 => ?_
      cases r with
      | error e => exact h7.elim
      | ok fl => exact wpAny_pure ⟨rfl, h7⟩
theorem csStart1 {prog : Program} {w : World} {A : Around} {R : Result → Shared → Prop} {s : Shared} {elt t0 i0 t1 i1 : Expr} {ifs0 ifs1 : List Expr} {scope : Scope} {pos : Pos} {it acc : Value} {env : Env}
    (h : codeAny (model prog w) A (Code.compLoop (.SetComp elt [⟨t0, i0, ifs0, 0⟩, ⟨t1, i1, ifs1, 0⟩] scope pos) 1 it acc env) R s)
    (h2 : wpAny (model prog w) A (pyIter it) (fun it' s' => codeAny (model prog w) A (Code.compLoop (.SetComp elt [⟨t0, i0, ifs0, 0⟩, ⟨t1, i1, ifs1, 0⟩] scope pos) 1 it' acc env) R s') (notedBy (model prog w) A env fun x s' => R (Except.error x) s') s) :
    codeAny (model prog w) A (Code.compStart (.SetComp elt [⟨t0, i0, ifs0, 0⟩, ⟨t1, i1, ifs1, 0⟩] scope pos) 1 it acc env) R s := by
  refine codeAny_of_tree ?_
  rw [under_cs]
  refine wpAny_notedAt ?_
  unfold compStart
  rw [if_neg (show ¬ ((clausesOf (.SetComp elt [⟨t0, i0, ifs0, 0⟩, ⟨t1, i1, ifs1, 0⟩] scope pos))[1]?.elim false fun x => x.is_async != 0) = true from fun z => by
    have z' : ((0 : Int) != 0) = true := z
    exact absurd z' (by decide))]
  refine wpAny_bind (wpAny_askSetting ?_)
  split
  · exact wpAny_pure ⟨rfl, h⟩
  · refine wpAny_bind (wpAny_rule ?_)
    refine wpAny_bind (wpAny_standAt ?_)
    exact wpAny_bind (thn h2 fun it' s' h' => wpAny_pure ⟨rfl, h'⟩)
/-- such a set in a state -/
theorem setTR_of {X : Cx} {pins : List (Addr × Obj)} {σ : L2.St} {H : Hp} {s : Shared} {D : Addr} {L : List (Addr × List Int)} (I : Inv X pins σ H s) (hD : H D = some (SetTO X.prog X.w D L)) (tl : ∀ p ∈ L, SqT X.K H p.1 (p.2.map V.int)) :
    ∃ es ep t, SetTR X.prog X.w s.heap D L es ep t := by
  have z : SetT0 X.prog X.w s.heap D L := by
    have z := I.hok _ _ hD
    unfold SetTO at z
    rw [ObjOk] at z
    first | exact z | exact z.1 | exact z.2
  obtain ⟨es, ep, t, o, r, tb, nd, pl, led, room, few⟩ := z.ex
  exact ⟨es, ep, t, o, r, tb, nd, fun p hp => I.isT (tl p hp), pl, led, room, few⟩
theorem addT_ok {X : Cx} {pins : List (Addr × Obj)} {σ : L2.St} {H : Hp} {s : Shared} {E : Value → Shared → Prop} {D c : Addr} {L : List (Addr × List Int)} {k : List Int} {Q : Value → Shared → Prop} (I : Inv X pins σ H s) (hD : H D = some (SetTO X.prog X.w D L))
    (tl : ∀ p ∈ L, SqT X.K H p.1 (p.2.map V.int)) (tc : SqT X.K H c (k.map V.int)) (hu : X.A.in1.in1.units < cLine) (few : L.length + 1 < 64)
    (h : ∀ s' L', (k ∈ L.map (·.2) → L' = L) → (k ∉ L.map (·.2) → L'.Perm ((c, k) :: L)) → Inv X pins σ (upd H D (SetTO X.prog X.w D L')) s' → Q .none s') :
    wpAny (model X.prog X.w) X.A (call (.builtin "set.add") [.ref D, .ref c]) Q E s := by
  obtain ⟨es, ep, t, R⟩ := setTR_of I hD tl
  refine addT_call R (I.isT tc) (Nat.lt_of_succ_lt hu) few fun h' tk L' es' ep' t' sb R' m1 m2 => h _ L' m1 m2 ?_
  obtain ⟨o, ho, _⟩ := R'.ob
  exact I.write (e := D) (t' := tk) (by rw [hD]; trivial) (.inl rfl) (fun b u hb hu => (sb.2 b hb).trans hu) ⟨o, ho⟩ (setTO_new R'.t0)
theorem wipe_keep {i : Nat} {v : V} : ∀ {vs : List Nat} {σ : L2.St}, σ[i]? = some (some v) → i ∉ vs → (wipe σ vs)[i]? = some (some v)
  | [], _, h, _ => h
  | j :: vs, σ, h, n => by
    have ne : j ≠ i := fun z => n (z ▸ List.mem_cons_self)
    show ((wipe σ vs).set j none)[i]? = some (some v)
    rw [List.getElem?_set_ne ne]
    exact wipe_keep h fun z => n (List.mem_cons_of_mem _ z)
/-- D the new set; W by the turn and a measure; within a turn W1 -/
def tScT2 (P : Program) (w : World) (K : PySem.W.Frag) (wi : TI) (g : TG) (tt : TT) (wi1 : TI) (g1 : TG) (tt1 : TT) (te : TE) (vs vs1 : List Nat) : TE := fun σ H Q => wi σ H fun J H1 => ∀ D, H1 D = none →
  ∃ W : Nat → Nat → Hp → Prop, (∃ m, W 0 m (upd H1 D (SetTO P w D []))) ∧ ∀ i m H, W i m H → (J.stop i H ∧ Q (.ref D) H) ∨
    (J.go i H ∧ ∃ Nx : Hp → Prop, (∀ H', Nx H' → ∃ m', m' < m ∧ W (i + 1) m' H') ∧ ∀ x H', J.yld i H x H' → g x (wipe σ vs) H' fun σ2 H2 => wipe σ2 vs = wipe σ vs ∧ tt σ2 H2 fun b H3 =>
      if b = true then wi1 σ2 H3 fun J1 H4 => ∃ W1 : Nat → Nat → Hp → Prop, (∃ m, W1 0 m H4) ∧ ∀ j k H, W1 j k H → (J1.stop j H ∧ Nx H) ∨
        (J1.go j H ∧ ∃ Nx1 : Hp → Prop, (∀ H', Nx1 H' → ∃ k', k' < k ∧ W1 (j + 1) k' H') ∧ ∀ x H', J1.yld j H x H' → g1 x (wipe σ2 vs1) H' fun σ3 H5 => wipe σ3 vs1 = wipe σ2 vs1 ∧ tt1 σ3 H5 fun b H6 =>
          if b = true then te σ3 H6 fun y H7 => ∃ (c : Addr) (k : List Int) (L : List (Addr × List Int)), y = .ref c ∧ SqT K H7 c (k.map V.int) ∧ H7 D = some (SetTO P w D L) ∧ (∀ p ∈ L, SqT K H7 p.1 (p.2.map V.int)) ∧ L.length + 1 < 64 ∧
            ∀ L', (k ∈ L.map (·.2) → L' = L) → (k ∉ L.map (·.2) → L'.Perm ((c, k) :: L)) → Nx1 (upd H7 D (SetTO P w D L')) else Nx1 H6) else Nx H3)
open PpSet in
set_option maxHeartbeats 8000000 in
theorem sc2_core {X : Cx} {pins : List (Addr × Obj)} {s : Shared} {σ : L2.St} {H : Hp} {Q : VK} {elt tg iter tg1 iter1 : Expr} {ifs ifs1 : List Expr} {scope : Scope} {own : List (PySem.Str × Nat)} {vs1 : List Nat} {pos pos' : Pos} {wi wi1 : TI} {g g1 : TG} {tt tt1 : TT} {te : TE}
    {use : Option (Value → Sem Unit)} {Qf : Value → Shared → Prop} (hc : X.calm = true) (hu : X.A.in1.in1.units < cLine) (hN : X.N.Nodup) (I : Inv X pins σ H s) (hi : PI X tg iter wi) (ok : BlkOk X.N X.env.scope scope own) (sub : ∀ i ∈ vs1, i ∈ own.map (·.2))
    (hg : ∀ (s : Shared) (H : Hp) (C : Addr) (cl : List (PySem.Str × Addr)) (fp : List Addr), PG (X.blk s H scope (compEnvC scope cl C X.env) fp) tg g)
    (ht : ∀ (s : Shared) (H : Hp) (C : Addr) (cl : List (PySem.Str × Addr)) (fp : List Addr), PTs (X.blk s H scope (compEnvC scope cl C X.env) fp) ifs tt)
    (hi1 : ∀ (s : Shared) (H : Hp) (C : Addr) (cl : List (PySem.Str × Addr)) (fp : List Addr), PI (X.blk s H scope (compEnvC scope cl C X.env) fp) tg1 iter1 wi1)
    (hg1 : ∀ (s : Shared) (H : Hp) (C : Addr) (cl : List (PySem.Str × Addr)) (fp : List Addr), PG (X.blk s H scope (compEnvC scope cl C X.env) fp) tg1 g1)
    (ht1 : ∀ (s : Shared) (H : Hp) (C : Addr) (cl : List (PySem.Str × Addr)) (fp : List Addr), PTs (X.blk s H scope (compEnvC scope cl C X.env) fp) ifs1 tt1)
    (he : ∀ (s : Shared) (H : Hp) (C : Addr) (cl : List (PySem.Str × Addr)) (fp : List Addr), PE (X.blk s H scope (compEnvC scope cl C X.env) fp) elt te) (hs : ∀ x, foldedSetIterable iter X.env x = pure x) (hs1 : ∀ env x, foldedSetIterable iter1 env x = pure x)
    (h : tScT2 X.prog X.w X.K wi g tt wi1 g1 tt1 te (own.map (·.2)) vs1 σ H Q)
    (last : ∀ D C s' m H', Inv X pins σ H' s' → Q (.ref D) H' → s'.heap.Ns C m → FpOk X pins H' C → compPost (model X.prog X.w) X.A X.xe use Qf (.ref D) C (.ok .next) s') :
    wpAny (model X.prog X.w) X.A (comprehension (.SetComp elt [⟨tg, iter, ifs, 0⟩, ⟨tg1, iter1, ifs1, 0⟩] scope pos) scope X.env pos' (newSet (.type "set")) false (eval iter X.env) use) Qf X.xe s := by
  have cap : ∀ y ∈ scope.names, y.2 = .free → ∃ c, X.env.cells.lookup y.1 = some c := fun y hy e => I.ok.has _ (ok.free y hy e)
  refine wpAny_comprehension_free (use := use) rfl hs (closure_ok cap) ok.kind (fun y hy e => by rw [ok.uniq y hy, e]) (thn (hi.run pins s σ H _ I h) fun xv s1 hx => thn hx fun itv s2 h2 => ?_)
  obtain ⟨it, fp, tn, J, H2, e, I2, T, st2, f2, q⟩ := h2
  subst e
  refine newSet_ok (newEnv_comp ?_)
  generalize hD : s2.heap.objs.size = D
  have fresh := I2.hok.fresh (Nat.le_of_eq hD)
  obtain ⟨W, ⟨m0, w0⟩, turn⟩ := q D fresh
  generalize hs3 : ({ s2 with heap := s2.heap.push (noSet X.w) } : Shared) = s3
  have h3 : s3.heap = s2.heap.push (noSet X.w) := hs3 ▸ rfl
  have I3 : Inv X pins σ (upd H2 D (SetTO X.prog X.w D [])) s3 := by
    rw [← hs3]
    refine I2.laid (t' := s2.toks) (fun b o e => Heap.get?_push_of_some _ e) (Nat.le_of_eq hD) ?_
    subst hD
    exact setTO_new (setTR_fresh (Heap.get?_push_size _ rfl)).t0
  have old : ∀ b ∈ fp, b < s2.heap.objs.size := fun b hb => let ⟨_, e, _⟩ := T.obj _ _ st2 b hb; Heap.lt_size e
  have f3 : ∀ b ∈ fp, FpOk X pins (upd H2 D (SetTO X.prog X.w D [])) b ∧ b < s3.heap.objs.size := fun b hb => by
    have lt := old b hb
    refine ⟨⟨?_, (f2 b hb).2⟩, h3 ▸ (by rw [Heap.size_push]; exact Nat.lt_succ_of_lt lt)⟩
    rw [upd_ne (hD ▸ Nat.ne_of_lt lt)]
    exact (f2 b hb).1
  have st3 : tn 0 s3.heap := T.keep _ _ _ st2 fun b _ o e => h3 ▸ Heap.get?_push_of_some _ e
  have I4 := block_start I3 ok hN f3
  have pg := hg s3 (upd H2 D (SetTO X.prog X.w D [])) s3.heap.objs.size (cellsFrom (s3.heap.objs.size + 1) scope.names (cloFrom X.env.cells scope.names [])) fp
  have pt := ht s3 (upd H2 D (SetTO X.prog X.w D [])) s3.heap.objs.size (cellsFrom (s3.heap.objs.size + 1) scope.names (cloFrom X.env.cells scope.names [])) fp
  have pi1 := hi1 s3 (upd H2 D (SetTO X.prog X.w D [])) s3.heap.objs.size (cellsFrom (s3.heap.objs.size + 1) scope.names (cloFrom X.env.cells scope.names [])) fp
  have pg1 := hg1 s3 (upd H2 D (SetTO X.prog X.w D [])) s3.heap.objs.size (cellsFrom (s3.heap.objs.size + 1) scope.names (cloFrom X.env.cells scope.names [])) fp
  have pt1 := ht1 s3 (upd H2 D (SetTO X.prog X.w D [])) s3.heap.objs.size (cellsFrom (s3.heap.objs.size + 1) scope.names (cloFrom X.env.cells scope.names [])) fp
  have pe := he s3 (upd H2 D (SetTO X.prog X.w D [])) s3.heap.objs.size (cellsFrom (s3.heap.objs.size + 1) scope.names (cloFrom X.env.cells scope.names [])) fp
  show codeAny _ _ (.compStart (.SetComp elt [⟨tg, iter, ifs, 0⟩, ⟨tg1, iter1, ifs1, 0⟩] scope pos) 0 (.ref it) (.ref D) (compEnvC scope (cellsFrom (s3.heap.objs.size + 1) scope.names (cloFrom X.env.cells scope.names [])) s3.heap.objs.size X.env))
    (compPost (model X.prog X.w) X.A X.xe use Qf (.ref D) s3.heap.objs.size) { s3 with heap := pushCells (s3.heap.push { cls := .type "dict", data := .dict #[] }) scope.names }
  have none3 : ∀ b ∈ fp, (upd H2 D (SetTO X.prog X.w D [])) b = none := fun b hb => (f3 b hb).1.1
  generalize hce : compEnvC scope (cellsFrom (s3.heap.objs.size + 1) scope.names (cloFrom X.env.cells scope.names [])) s3.heap.objs.size X.env = ce at I4 pg pt pi1 pg1 pt1 pe ⊢
  have cL : ce.locals = s3.heap.objs.size := hce ▸ rfl
  generalize hH3 : upd H2 D (SetTO X.prog X.w D []) = H3 at I3 I4 pg pt pi1 pg1 pt1 pe w0 none3 f3
  generalize hs4 : ({ s3 with heap := pushCells (s3.heap.push { cls := .type "dict", data := .dict #[] }) scope.names } : Shared) = s4 at I4 ⊢
  have st4 : tn 0 s4.heap := T.keep _ _ _ st3 fun b _ o e => hs4 ▸ pushCells_keeps _ _ _ _ (Heap.get?_push_of_some _ e)
  have still : ∀ {σ' : L2.St} {H' : Hp} {s' : Shared}, Inv (X.blk s3 H3 scope ce fp) [] σ' H' s' → (∀ b ∈ fp, H' b = none) → ∀ b ∈ fp, FpOk (X.blk s3 H3 scope ce fp) [] H' b := by
    intro σ' H' s' I' hn b hb
    obtain ⟨x1, x2⟩ := I'.ok.exf b hb
    exact ⟨hn b hb, x1, I'.ok.exfs b hb, .inl hb, x2, fun p hp => absurd (show p ∈ ([] : List (Addr × Obj)) ++ [] from hp) (by simp)⟩
  have loop : ∀ n s', (∃ i H', Inv (X.blk s3 H3 scope ce fp) [] (wipe σ (own.map (·.2))) H' s' ∧ tn i s'.heap ∧ (∀ b ∈ fp, H' b = none) ∧ W i n H') →
      codeAny (model X.prog X.w) X.A (.compLoop (.SetComp elt [⟨tg, iter, ifs, 0⟩, ⟨tg1, iter1, ifs1, 0⟩] scope pos) 0 (.ref it) (.ref D) ce) (compPost (model X.prog X.w) X.A X.xe use Qf (.ref D) s3.heap.objs.size) s' := by
    intro n
    induction n using Nat.strongRecOn with
    | _ n ih =>
    rintro s5 ⟨i, H5, I5, st5, n5, w5⟩
    refine clTurn0 (hs1 _) ?_
    rcases turn i n H5 w5 with ⟨stop, done⟩ | ⟨go, Nx, hNx, step⟩
    · refine thnF (T.done (X.blk s3 H3 scope ce fp) rfl rfl rfl hc i [] s5 _ H5 (fun _ _ => False) I5 (still I5 n5) st5 stop) fun r s6 ⟨hr, I6⟩ => ?_
      subst hr
      have I7 : Inv X pins σ H5 s6 := I3.call' (ch := fp) I6.os I6.base I6.hok I6.bare fun b hb => let z := (f3 b hb).1.2; ⟨z.2.2.1, z.1, z.2.2.2.1, z.2.2.2.2⟩
      have gone : H5 s3.heap.objs.size = none := cL ▸ (show H5 ce.locals = none from I6.free)
      obtain ⟨m, hm, _⟩ := I6.loc
      have hm' : s6.heap.Ns ce.locals m := hm
      rw [cL] at hm'
      exact last D s3.heap.objs.size s6 m H5 I7 done hm' (I3.fpOk (Nat.le_refl _) gone)
    · refine thnF (T.item (X.blk s3 H3 scope ce fp) rfl rfl rfl hc i [] s5 _ H5 (fun _ _ => False) I5 (still I5 n5) st5 go) fun r s6 ⟨u, hr, h6⟩ => ?_
      subst hr
      refine thnF h6 fun _ s7 ⟨x, H7, I7, r7, y7, st7, n7⟩ => ?_
      have I7' := I7.pinned (still I7 n7) (T.obj _ _ st7)
      refine thnF (pg.run _ s7 _ H7 x u _ I7' r7 (step x H7 y7)) fun _ s8 ⟨σ8, H8, I8, hw8, q8⟩ => ?_
      refine thnF (pt.run _ s8 σ8 H8 _ I8 q8) fun b s9 ⟨H9, I9, q9⟩ => ?_
      have fin : ∀ {s' : Shared} {σ' : L2.St} {H' : Hp}, Inv (X.blk s3 H3 scope ce fp) ([] ++ pinsAt fp s7.heap) σ' H' s' → σ'.length = σ8.length → (∀ (j : Nat) (v : V), (wipe σ (own.map (·.2)))[j]? = some (some v) → σ'[j]? = some (some v)) → Nx H' →
          ∃ m, m < n ∧ ∃ i H', Inv (X.blk s3 H3 scope ce fp) [] (wipe σ (own.map (·.2))) H' s' ∧ tn i s'.heap ∧ (∀ b ∈ fp, H' b = none) ∧ W i m H' := by
        intro s' σ' H' I' len' sm nx
        obtain ⟨m', hm, w'⟩ := hNx H' nx
        have pinned : ∀ b ∈ fp, ∀ o, s7.heap.get? b = some o → s'.heap.get? b = some o ∧ H' b = none := fun b hb o e => by
          have z := I'.pin (b, o) (List.mem_append_right _ (List.mem_append_right _ (mem_pinsAt hb e)))
          exact ⟨z.1, z.2.1⟩
        have len : (wipe σ (own.map (·.2))).length = σ'.length := by rw [len', ← hw8, wipe_length]
        refine ⟨m', hm, i + 1, H', (I'.unpinned (pins := [])).weak len sm, T.keep _ _ _ st7 fun b hb o e => (pinned b hb o e).1, fun b hb => ?_, w'⟩
        obtain ⟨o, e, _⟩ := T.obj _ _ st7 b hb
        exact (pinned b hb o e).2
      have sm8 : ∀ (j : Nat) (v : V), (wipe σ (own.map (·.2)))[j]? = some (some v) → σ8[j]? = some (some v) := fun j v e => (wipe_some (hw8 ▸ e)).1
      cases b with
      | false =>
        rw [if_neg Bool.false_ne_true] at q9 ⊢
        obtain ⟨m, hm, r⟩ := fin I9 rfl sm8 q9
        exact ih m hm _ r
      | true =>
        rw [if_pos rfl] at q9 ⊢
        refine thnF (pi1.run _ s9 σ8 H9 _ I9 q9) fun xv s10 hx => thnF hx fun itv s11 h11 => ?_
        obtain ⟨it1, fp1, tn1, J1, H11, e, I11, T1, st11, f11, W1, ⟨m1, w1⟩, turn1⟩ := h11
        subst e
        have still1 : ∀ {H' : Hp}, (∀ b ∈ fp1, H' b = none) → ∀ b ∈ fp1, FpOk (X.blk s3 H3 scope ce fp) ([] ++ pinsAt fp s7.heap) H' b := fun hn b hb => ⟨hn b hb, (f11 b hb).2⟩
        have wl : (wipe σ8 vs1).length = σ8.length := wipe_length _ _
        have smW : ∀ (j : Nat) (v : V), (wipe σ (own.map (·.2)))[j]? = some (some v) → (wipe σ8 vs1)[j]? = some (some v) := fun j v e => by
          obtain ⟨e1, no⟩ := wipe_some (show (wipe σ8 (own.map (·.2)))[j]? = some (some v) from hw8 ▸ e)
          exact wipe_keep e1 fun hj => no (sub j hj)
        have inner : ∀ k s', (∃ j H', Inv (X.blk s3 H3 scope ce fp) ([] ++ pinsAt fp s7.heap) (wipe σ8 vs1) H' s' ∧ tn1 j s'.heap ∧ (∀ b ∈ fp1, H' b = none) ∧ W1 j k H') →
            codeAny (model X.prog X.w) X.A (.compLoop (.SetComp elt [⟨tg, iter, ifs, 0⟩, ⟨tg1, iter1, ifs1, 0⟩] scope pos) 1 (.ref it1) (.ref D) ce) (fun r s' => match r with
              | Except.ok _ => codeAny (model X.prog X.w) X.A (.compLoop (.SetComp elt [⟨tg, iter, ifs, 0⟩, ⟨tg1, iter1, ifs1, 0⟩] scope pos) 0 (.ref it) (.ref D) ce) (compPost (model X.prog X.w) X.A X.xe use Qf (.ref D) s3.heap.objs.size) s'
              | Except.error _ => False) s' := by
          intro k
          induction k using Nat.strongRecOn with
          | _ k ih1 =>
          rintro s12 ⟨j, H12, I12, st12, n12, w12⟩
          refine clTurn1 ?_
          rcases turn1 j k H12 w12 with ⟨stop1, nx⟩ | ⟨go1, Nx1, hNx1, step1⟩
          · refine thnF (T1.done (X.blk s3 H3 scope ce fp) rfl rfl rfl hc j _ s12 _ H12 (fun _ _ => False) I12 (still1 n12) st12 stop1) fun r s13 ⟨hr, I13⟩ => ?_
            subst hr
            obtain ⟨m, hm, r⟩ := fin I13 wl smW nx
            exact ih m hm _ r
          · refine thnF (T1.item (X.blk s3 H3 scope ce fp) rfl rfl rfl hc j _ s12 _ H12 (fun _ _ => False) I12 (still1 n12) st12 go1) fun r s13 ⟨u1, hr, h13⟩ => ?_
            subst hr
            refine thnF h13 fun _ s14 ⟨x1, H14, I14, r14, y14, st14, n14⟩ => ?_
            have I14' := I14.pinned (still1 n14) (T1.obj _ _ st14)
            refine thnF (pg1.run _ s14 _ H14 x1 u1 _ I14' r14 (step1 x1 H14 y14)) fun _ s15 ⟨σ15, H15, I15, hw15, q15⟩ => ?_
            refine thnF (pt1.run _ s15 σ15 H15 _ I15 q15) fun b s16 ⟨H16, I16, q16⟩ => ?_
            have fin1 : ∀ {s' : Shared} {H' : Hp}, Inv (X.blk s3 H3 scope ce fp) (([] ++ pinsAt fp s7.heap) ++ pinsAt fp1 s14.heap) σ15 H' s' → Nx1 H' →
                ∃ m, m < k ∧ ∃ j H', Inv (X.blk s3 H3 scope ce fp) ([] ++ pinsAt fp s7.heap) (wipe σ8 vs1) H' s' ∧ tn1 j s'.heap ∧ (∀ b ∈ fp1, H' b = none) ∧ W1 j m H' := by
              intro s' H' I' nx
              obtain ⟨m', hm, w'⟩ := hNx1 H' nx
              have pinned : ∀ b ∈ fp1, ∀ o, s14.heap.get? b = some o → s'.heap.get? b = some o ∧ H' b = none := fun b hb o e => by
                have z := I'.pin (b, o) (List.mem_append_right _ (List.mem_append_right _ (mem_pinsAt hb e)))
                exact ⟨z.1, z.2.1⟩
              have len : (wipe σ8 vs1).length = σ15.length := by rw [← hw15, wipe_length]
              refine ⟨m', hm, j + 1, H', (I'.unpinned).weak len (fun j v e => (wipe_some (hw15 ▸ e)).1), T1.keep _ _ _ st14 fun b hb o e => (pinned b hb o e).1, fun b hb => ?_, w'⟩
              obtain ⟨o, e, _⟩ := T1.obj _ _ st14 b hb
              exact (pinned b hb o e).2
            cases b with
            | false =>
              rw [if_neg Bool.false_ne_true] at q16 ⊢
              obtain ⟨m, hm, r⟩ := fin1 I16 q16
              exact ih1 m hm _ r
            | true =>
              rw [if_pos rfl] at q16 ⊢
              refine thnF (pe.run _ s16 σ15 H16 _ I16 q16) fun z s17 ⟨yv, H17, I17, r17, c, kk, L, ey, tc, hD17, tl, few, nx⟩ => ?_
              subst ey
              obtain rfl : z = Value.ref c := r17
              refine addT_ok (X := X.blk s3 H3 scope ce fp) I17 hD17 tl tc hu few fun s18 L' m1 m2 I18 => ?_
              obtain ⟨m, hm, r⟩ := fin1 I18 (nx L' m1 m2)
              exact ih1 m hm _ r
        have start := inner m1 s11 ⟨0, H11, I11.weak wl (fun j v e => (wipe_some e).1), st11, fun b hb => (f11 b hb).1, w1⟩
        exact csStart1 start (T1.self X.A 0 _ _ _ st11 start)
  have first := loop m0 s4 ⟨0, H3, I4, st4, none3, w0⟩
  exact codeAny_compStart_set first (T.self X.A 0 _ _ _ st4 first)
open PpSet in
theorem pe_scT2 {X : Cx} {elt tg iter tg1 iter1 : Expr} {ifs ifs1 : List Expr} {scope : Scope} {own : List (PySem.Str × Nat)} {vs1 : List Nat} {pos : Pos} {wi wi1 : TI} {g g1 : TG} {tt tt1 : TT} {te : TE} (hc : X.calm = true) (hu : X.A.in1.in1.units < cLine) (hN : X.N.Nodup) (hi : PI X tg iter wi)
    (ok : BlkOk X.N X.env.scope scope own) (sub : ∀ i ∈ vs1, i ∈ own.map (·.2)) (hg : ∀ (s : Shared) (H : Hp) (C : Addr) (cl : List (PySem.Str × Addr)) (fp : List Addr), PG (X.blk s H scope (compEnvC scope cl C X.env) fp) tg g)
    (ht : ∀ (s : Shared) (H : Hp) (C : Addr) (cl : List (PySem.Str × Addr)) (fp : List Addr), PTs (X.blk s H scope (compEnvC scope cl C X.env) fp) ifs tt)
    (hi1 : ∀ (s : Shared) (H : Hp) (C : Addr) (cl : List (PySem.Str × Addr)) (fp : List Addr), PI (X.blk s H scope (compEnvC scope cl C X.env) fp) tg1 iter1 wi1)
    (hg1 : ∀ (s : Shared) (H : Hp) (C : Addr) (cl : List (PySem.Str × Addr)) (fp : List Addr), PG (X.blk s H scope (compEnvC scope cl C X.env) fp) tg1 g1)
    (ht1 : ∀ (s : Shared) (H : Hp) (C : Addr) (cl : List (PySem.Str × Addr)) (fp : List Addr), PTs (X.blk s H scope (compEnvC scope cl C X.env) fp) ifs1 tt1)
    (he : ∀ (s : Shared) (H : Hp) (C : Addr) (cl : List (PySem.Str × Addr)) (fp : List Addr), PE (X.blk s H scope (compEnvC scope cl C X.env) fp) elt te) (hs : ∀ x, foldedSetIterable iter X.env x = pure x := by intro _; rfl) (hs1 : ∀ env x, foldedSetIterable iter1 env x = pure x := by intro _ _; rfl) :
    PE X (.SetComp elt [⟨tg, iter, ifs, 0⟩, ⟨tg1, iter1, ifs1, 0⟩] scope pos) (tScT2 X.prog X.w X.K wi g tt wi1 g1 tt1 te (own.map (·.2)) vs1) := by
  refine ⟨fun pins s σ H Q I h => ?_⟩
  rw [eval_SetComp]
  refine sc2_core hc hu hN I hi ok sub hg ht hi1 hg1 ht1 he hs hs1 h fun D C s' m H' I' q hn f => ⟨m, hn, fun h'' sb => ⟨.ref D, H', ?_, rfl, q⟩⟩
  exact I'.turned (t' := s'.toks) (fun b o hb e => (sb.2 b hb).trans e) f.1 f.2.1 f.2.2.2.1 f.2.2.2.2.1 f.2.2.2.2.2

end R
namespace R
open PySem PySem.Spec PyProof.Rows L2
/-! ## lists of tuples of ints -/
/-- a list of tuples of ints -/
structure TupsAt (K : PySem.W.Frag) (H : Hp) (D : Addr) (LL : List (List Int)) : Prop where
  ex : ∃ ts : List Addr, H D = some (.lst (ts.map V.ref)) ∧ ts.length = LL.length ∧ ∀ (i : Nat) t l, ts[i]? = some t → LL[i]? = some l → SqT K H t (l.map V.int)
theorem TupsAt.stay {K : PySem.W.Frag} {H H' : Hp} {D : Addr} {LL : List (List Int)} (h : TupsAt K H D LL) (s : Same H H') : TupsAt K H' D LL :=
  let ⟨ts, e, n, f⟩ := h.ex
  ⟨ts, s _ _ e, n, fun i t l a b => Same.seqTT s (f i t l a b)⟩
theorem TupsAt.nil {K : PySem.W.Frag} {H : Hp} {D : Addr} (h : H D = some (.lst [])) : TupsAt K H D [] := ⟨[], h, rfl, fun i t l a _ => by simp at a⟩
theorem TupsAt.add {K : PySem.W.Frag} {H : Hp} {D t : Addr} {ts : List Addr} {LL : List (List Int)} {l : List Int} (e : H D = some (.lst (ts.map V.ref ++ [V.ref t]))) (n : ts.length = LL.length)
    (f : ∀ (i : Nat) t l, ts[i]? = some t → LL[i]? = some l → SqT K H t (l.map V.int)) (ht : SqT K H t (l.map V.int)) : TupsAt K H D (LL ++ [l]) := by
  refine ⟨ts ++ [t], by rw [e, List.map_append]; rfl, by rw [List.length_append, List.length_append, n]; rfl, fun i u k a b => ?_⟩
  by_cases h : i < ts.length
  · rw [List.getElem?_append_left h] at a
    rw [List.getElem?_append_left (by omega)] at b
    exact f i u k a b
  · rw [List.getElem?_append_right (by omega)] at a
    rw [List.getElem?_append_right (by omega), ← n] at b
    cases z : i - ts.length with
    | zero =>
      rw [z] at a b
      cases Option.some.inj a
      cases Option.some.inj b
      exact ht
    | succ j => rw [z] at a; simp at a
theorem dpTups {K : PySem.W.Frag} {H : Hp} : ∀ {ts : List Addr} {LL : List (List Int)}, ts.length = LL.length → (∀ (i : Nat) t l, ts[i]? = some t → LL[i]? = some l → SqT K H t (l.map V.int)) → DpAll K H (ts.map V.ref) (LL.map fun l => .tuple (l.map PyData.int))
  | [], [], _, _ => .nil
  | [], _ :: _, h, _ => by cases h
  | _ :: _, [], h, _ => by cases h
  | t :: ts, l :: LL, h, f => .cons (dpTup (f 0 t l rfl rfl)) (dpTups (Nat.succ.inj h) fun i u k a b => f (i + 1) u k a b)
theorem TupsAt.dp {K : PySem.W.Frag} {H : Hp} {D : Addr} {LL : List (List Int)} (h : TupsAt K H D LL) : Dp K H (.ref D) (.list (LL.map fun l => .tuple (l.map PyData.int))) := by
  obtain ⟨ts, e, n, f⟩ := h.ex
  exact .lst (lstOf e) (dpTups n f)
theorem okTups (LL : List (List Int)) : okD 2 (.list (LL.map fun l => .tuple (l.map PyData.int))) := okD.lst fun d hd => by
  obtain ⟨l, _, rfl⟩ := List.mem_map.mp hd
  exact okD.tup (okInts l)

end R
namespace R
open PySem PySem.Spec PyProof.Rows L2
/-! ## rows of moduli and what was seen -/
theorem TupsAt.push {K : PySem.W.Frag} {H : Hp} {D t : Addr} {LL : List (List Int)} {l : List Int} (h : TupsAt K H D LL) (ht : SqT K H t (l.map V.int)) :
    ∃ ts : List Addr, H D = some (.lst (ts.map V.ref)) ∧ ts.length = LL.length ∧ TupsAt K (upd H D (.lst (ts.map V.ref ++ [V.ref t]))) D (LL ++ [l]) := by
  obtain ⟨ts, e, n, f⟩ := h.ex
  have up := lstTups (K := K) (zs := ts.map V.ref ++ [V.ref t]) e
  exact ⟨ts, e, n, TupsAt.add upd_same n (fun i u k a b => up _ _ (f i u k a b)) (up _ _ ht)⟩
theorem tupsBut {K : PySem.W.Frag} {H H' : Hp} {g : Addr} {zs : List V} (e : H g = some (.lst zs)) (kp : ∀ b o, b ≠ g → H b = some o → H' b = some o) : TupsStay K H H' := fun a xs q => by
  rcases q with (q | ⟨o, q⟩) | q
  · exact .inl (.inl (kp _ _ (fun z => by rw [z, e] at q; cases q) q))
  · exact .inl (.inr ⟨o, kp _ _ (fun z => by rw [z, e] at q; cases q) q⟩)
  · exact .inr q
theorem takeFilter {α : Type} {p : α → Bool} {xs : List α} {j : Nat} {x : α} (h : xs[j]? = some x) : (xs.take (j + 1)).filter p = (xs.take j).filter p ++ (if p x = true then [x] else []) := by
  rw [takeSucc h, List.filter_append]
  by_cases e : p x = true
  · rw [if_pos e, List.filter_cons_of_pos e]
    rfl
  · rw [if_neg e, List.filter_cons_of_neg e]
    rfl
theorem okTupsS (LL : List (List Int)) : SeqAt.shaped (.list (LL.map fun l => PyData.tuple (l.map PyData.int))) = true := (okTups LL).shaped (by decide)
theorem eqvTupsNil (LL : List (List Int)) : PyData.eqv (.list (LL.map fun l => PyData.tuple (l.map PyData.int))) (.list []) = decide (LL = []) := by
  cases LL with
  | nil => rfl
  | cons a r =>
    rw [decide_eq_false (List.cons_ne_nil _ _)]
    show PyData.eqv (.list (_ :: _)) (.list []) = false
    rw [PyData.eqv, PyData.eqvAll] <;> first | rfl | simp
structure MOk (ms : List Int) : Prop where
  one : 1 ≤ ms.length
  four : ms.length ≤ 4
  mod : ∀ m ∈ ms, 1 ≤ m ∧ m ≤ 30
/-- the marks of a number -/
def marksL (ms : List Int) (x : Int) : List (List Int) := (List.range ms.length).map fun i => [((i : Nat) : Int), x % ms.getD i 1]
def marksTo (ms : List Int) (x : Int) (n : Nat) : List (List Int) := (List.range n).map fun i => [((i : Nat) : Int), x % ms.getD i 1]
theorem marksTo_succ (ms : List Int) (x : Int) (n : Nat) : marksTo ms x (n + 1) = marksTo ms x n ++ [[((n : Nat) : Int), x % ms.getD n 1]] := by
  unfold marksTo
  rw [List.range_succ, List.map_append]
  rfl
theorem marks_nodup (ms : List Int) (x : Int) : (marksL ms x).Nodup := by
  unfold marksL
  rw [List.nodup_iff_pairwise_ne, List.pairwise_map]
  refine List.pairwise_lt_range.imp fun {a b} h e => ?_
  have := (List.cons.inj e).1
  omega
theorem marks_two {ms : List Int} {x : Int} : ∀ z ∈ marksL ms x, ∃ (i : Nat) (r : Int), z = [(i : Int), r] ∧ i < ms.length ∧ r = x % ms.getD i 1 := fun z hz => by
  obtain ⟨i, hi, rfl⟩ := List.mem_map.mp hz
  exact ⟨i, _, rfl, List.mem_range.mp hi, rfl⟩
/-- what was seen -/
structure SeenAt (K : PySem.W.Frag) (H : Hp) (a : Addr) (sl : List (Int × Bool)) : Prop where
  ex : ∃ xs : List V, (H a = some (.lst xs) ∨ SqT K H a xs) ∧ xs.length = sl.length ∧ ∀ (i : Nat) x p, xs[i]? = some x → sl[i]? = some p → ∃ t, x = .ref t ∧ SqT K H t [.int p.1, .bl p.2]
theorem SeenAt.stay {K : PySem.W.Frag} {H H' : Hp} {a : Addr} {sl : List (Int × Bool)} (h : SeenAt K H a sl) (s : Same H H') : SeenAt K H' a sl :=
  let ⟨xs, e, n, f⟩ := h.ex
  ⟨xs, e.imp (fun q => s _ _ q) (fun q => Same.seqTT s q), n, fun i x p a b => let ⟨t, e, q⟩ := f i x p a b; ⟨t, e, Same.seqTT s q⟩⟩
def unfitTo (sl : List (Int × Bool)) (n : Nat) : Nat := ((sl.take n).filter fun p => !p.2).length
structure SOk (sl : List (Int × Bool)) : Prop where
  few : sl.length ≤ 20
  num : ∀ p ∈ sl, IsNum p.1
  unfit : ∀ n, unfitTo sl n ≤ 8
theorem unfit_succ {sl : List (Int × Bool)} {n : Nat} {p : Int × Bool} (h : sl[n]? = some p) : unfitTo sl (n + 1) = unfitTo sl n + (if p.2 = true then 0 else 1) := by
  unfold unfitTo
  rw [takeSucc h, List.filter_append, List.length_append]
  cases e : p.2 with
  | true =>
    rw [List.filter_cons_of_neg (by rw [e]; decide), if_pos rfl]
    rfl
  | false =>
    rw [List.filter_cons_of_pos (by rw [e]; rfl), if_neg Bool.false_ne_true]
    rfl
structure HeldIs (ms : List Int) (sl : List (Int × Bool)) (hl : List (List Int)) : Prop where
  nd : hl.Nodup
  mem : ∀ z, z ∈ hl ↔ ∃ p ∈ sl, p.2 = true ∧ z ∈ marksL ms p.1
/-- the marks of one that does not fit, the held ones left out -/
def leftOf (ms : List Int) (hl : List (List Int)) (x : Int) : List (List Int) := (marksL ms x).filter fun z => decide (z ∉ hl)
def unheldL (ms : List Int) (hl : List (List Int)) (sl : List (Int × Bool)) : List (List (List Int)) := (sl.filter fun p => !p.2).map fun p => leftOf ms hl p.1
/-- a list of lists of tuples -/
structure LLAt (K : PySem.W.Frag) (H : Hp) (D : Addr) (ul : List (List (List Int))) : Prop where
  ex : ∃ as_ : List Addr, H D = some (.lst (as_.map V.ref)) ∧ as_.length = ul.length ∧ ∀ (i : Nat) b u, as_[i]? = some b → ul[i]? = some u → TupsAt K H b u
theorem LLAt.stay {K : PySem.W.Frag} {H H' : Hp} {D : Addr} {ul : List (List (List Int))} (h : LLAt K H D ul) (s : Same H H') : LLAt K H' D ul :=
  let ⟨as_, e, n, f⟩ := h.ex
  ⟨as_, s _ _ e, n, fun i b u x y => (f i b u x y).stay s⟩
/-- the members of a set of tuples -/
structure Mem (K : PySem.W.Frag) (H : Hp) (L : List (Addr × List Int)) (S : List Int → Prop) : Prop where
  at_ : ∀ p ∈ L, SqT K H p.1 (p.2.map V.int)
  nd : (L.map (·.2)).Nodup
  mem : ∀ z, z ∈ L.map (·.2) ↔ S z
theorem Mem.nil {K : PySem.W.Frag} {H : Hp} : Mem K H [] fun _ => False := ⟨fun p h => (by cases h), List.nodup_nil, fun z => ⟨fun h => (by cases h), fun h => h.elim⟩⟩
theorem Mem.stay {K : PySem.W.Frag} {H H' : Hp} {L : List (Addr × List Int)} {S : List Int → Prop} (h : Mem K H L S) (t : TupsStay K H H') : Mem K H' L S := ⟨fun p hp => t _ _ (h.at_ p hp), h.nd, h.mem⟩
theorem Mem.add {K : PySem.W.Frag} {H : Hp} {L L' : List (Addr × List Int)} {S : List Int → Prop} {c : Addr} {k : List Int} (h : Mem K H L S) (tc : SqT K H c (k.map V.int)) (m1 : k ∈ L.map (·.2) → L' = L) (m2 : k ∉ L.map (·.2) → L'.Perm ((c, k) :: L)) : Mem K H L' fun z => S z ∨ z = k := by
  by_cases e : k ∈ L.map (·.2)
  · rw [m1 e]
    refine ⟨h.at_, h.nd, fun z => ⟨fun hz => .inl ((h.mem z).mp hz), fun hz => ?_⟩⟩
    rcases hz with hz | rfl
    · exact (h.mem z).mpr hz
    · exact e
  · have pm := m2 e
    refine ⟨fun p hp => ?_, (pm.map (·.2)).nodup_iff.mpr (List.nodup_cons.mpr ⟨e, h.nd⟩), fun z => ?_⟩
    · rcases List.mem_cons.mp (pm.mem_iff.mp hp) with rfl | hp
      · exact tc
      · exact h.at_ p hp
    · rw [(pm.map (·.2)).mem_iff, List.map_cons, List.mem_cons, h.mem]
      exact ⟨fun z => z.elim .inr .inl, fun z => z.elim .inr .inl⟩
theorem sub_len : ∀ {xs ys : List (List Int)}, xs.Nodup → (∀ x ∈ xs, x ∈ ys) → xs.length ≤ ys.length
  | [], _, _, _ => Nat.zero_le _
  | x :: xs, ys, nd, sub => by
    obtain ⟨n1, n2⟩ := List.nodup_cons.mp nd
    have m := sub x List.mem_cons_self
    have := sub_len (xs := xs) (ys := ys.erase x) n2 fun y hy => by
      exact (List.mem_erase_of_ne (fun e : y = x => n1 (by rw [← e]; exact hy))).mpr (sub y (List.mem_cons_of_mem _ hy))
    rw [List.length_erase_of_mem m] at this
    have : 0 < ys.length := List.length_pos_of_mem m
    rw [List.length_cons]
    omega
theorem Mem.congr {K : PySem.W.Frag} {H : Hp} {L : List (Addr × List Int)} {S S' : List Int → Prop} (h : Mem K H L S) (e : ∀ z, S z ↔ S' z) : Mem K H L S' := ⟨h.at_, h.nd, fun z => (h.mem z).trans (e z)⟩
theorem Mem.few {K : PySem.W.Frag} {H : Hp} {L : List (Addr × List Int)} {S : List Int → Prop} {U : List (List Int)} (h : Mem K H L S) (u : ∀ z, S z → z ∈ U) : L.length ≤ U.length := by
  have := sub_len h.nd (ys := U) fun z hz => u z ((h.mem z).mp hz)
  rw [List.length_map] at this
  exact this
def tD (l : List Int) : PyData := .tuple (l.map PyData.int)
theorem inTup (z : List Int) : ∀ hl : List (List Int), ((hl.map tD).any fun y => PyData.eqv y (tD z)) = decide (z ∈ hl)
  | [] => by simp
  | a :: hl => by
    rw [List.map_cons, List.any_cons, inTup z hl, show PyData.eqv (tD a) (tD z) = decide (a = z) from eqvIntsT a z, ← Bool.decide_or]
    exact decide_eq_decide.mpr (by rw [List.mem_cons]; exact or_congr_left ⟨fun e => e.symm, fun e => e.symm⟩)

end R
namespace R
open PySem PySem.Spec PyProof.Rows L2
/-! ## a walk over a list or a tuple -/
/-- a walk over a list or a tuple -/
def iEither (K : PySem.W.Frag) (te : TE) : TI := fun σ H R => te σ H fun x H1 => ∃ a, x = .ref a ∧ (((∃ xs, SqL K H1 a xs) ∧ R (Itl K a) H1) ∨ ((∃ xs, SqT K H1 a xs) ∧ R (Itt K a) H1))
theorem pi_either {X : Cx} {tg l : Expr} {tl : TE} (hl : PE X l tl) : PI X tg l (iEither X.K tl) := ⟨fun pins s σ H R I h => thn (hl.run pins s σ H _ I h) fun v s1 ⟨x, H1, I1, r1, a, e, q1⟩ => by
  subst e
  cases r1
  have new : ∀ b ∈ [s1.heap.objs.size], FpOk X pins H1 b := fun b hb => by
    rw [List.mem_singleton.mp hb]
    exact I1.fpOk (Nat.le_refl _) (I1.hok.fresh (Nat.le_refl _))
  rcases q1 with ⟨⟨xs, hq⟩, q⟩ | ⟨⟨xs, hq⟩, q⟩
  · obtain ⟨its, rv, pl, hz⟩ := I1.list hq
    exact wpAny_pyIter_list pl.isList ⟨_, _, _, _, _, rfl, I1.kept (t' := s1.toks) fun b o e => Heap.get?_push_of_some _ e, turn_list a _, ⟨_, Heap.get?_push_size _ rfl, rfl, rfl⟩, new, q⟩
  · obtain ⟨its, rv, pl, hz⟩ := I1.tuple hq
    exact wpAny_pyIter_tuple (show s1.heap.IsTuple a its.toArray from pl) ⟨_, _, _, _, _, rfl, I1.kept (t' := s1.toks) fun b o e => Heap.get?_push_of_some _ e, turn_tuple a _, ⟨_, Heap.get?_push_size _ rfl, rfl, rfl⟩, new, q⟩⟩

end R
namespace R
open PySem PySem.Spec PyProof.Rows L2
/-! ## checks of moduli and of what was seen, marks -/
/-- enumerate(xs) of a name that holds a list or a tuple -/
def iEnE (K : PySem.W.Frag) (i : Nat) : TI := fun σ H R => ∃ a, σ[i]? = some (some (.ref a)) ∧ (((∃ xs, SqL K H a xs) ∧ R (Ite K a) H) ∨ ((∃ xs, SqT K H a xs) ∧ R (IteT K a) H))
theorem pi_enumE {X : Cx} {e : Expr} {i : Nat} {p pos tpos : Pos} {elts : List Expr} {kk : Nat} (hg : Gl X "enumerate") (hm : X.mg "enumerate" = none) (ha : PA X [e] (tCons (tVar i) tNil))
    (hs : starEach [e] X.env = [(false, eval e X.env)] := by rfl) : PI X (.Tuple elts kk tpos) (.Call (.Name "enumerate" p) [e] [] pos) (iEnE X.K i) := by
  refine ⟨fun pins s σ H R I h => ?_⟩
  obtain ⟨a, hv, ⟨⟨xs, hq⟩, q⟩ | ⟨⟨xs, hq⟩, q⟩⟩ := h
  · exact (pi_enum hg hm ha hs).run pins s σ H R I ⟨_, hv, a, xs, rfl, hq, q⟩
  · exact (pi_enT hg hm ha hs).run pins s σ H R I ⟨_, hv, a, xs, rfl, hq, q⟩
theorem kit_ls {K : PySem.W.Frag} : PySem.W.kitAny K (.type "list") [.type "list", .type "tuple"] = some true := by
  unfold PySem.W.kitAny
  rw [kit_ty (r := true) (by decide +kernel)]
theorem kit_tp {K : PySem.W.Frag} : PySem.W.kitAny K (.type "tuple") [.type "list", .type "tuple"] = some true := by
  unfold PySem.W.kitAny
  rw [kit_ty (r := false) (by decide +kernel)]
  unfold PySem.W.kitAny
  rw [kit_ty (r := true) (by decide +kernel)]
def sp_p_check_moduli (K : PySem.W.Frag) : Sp := fun vs H Q _ => ∃ (a : Addr) (ms : List Int), vs = [.ref a] ∧ SqT K H a (ms.map V.int) ∧ MOk ms ∧ ∀ H', Same H H' → Q .non H'
def sp_p_is_sight (K : PySem.W.Frag) : Sp := fun vs H Q _ => ∃ (t : Addr) (p : Int × Bool), vs = [.ref t] ∧ SqT K H t [.int p.1, .bl p.2] ∧ IsNum p.1 ∧ Q (.bl true) H
def sp_p_check_seen (K : PySem.W.Frag) : Sp := fun vs H Q _ => ∃ (a : Addr) (sl : List (Int × Bool)), vs = [.ref a] ∧ SeenAt K H a sl ∧ SOk sl ∧ ∀ H', Same H H' → Q .non H'
def sp_p_marks_of (K : PySem.W.Frag) : Sp := fun vs H Q _ => ∃ (a : Addr) (ms : List Int) (x : Int), vs = [.ref a, .int x] ∧ SqT K H a (ms.map V.int) ∧ MOk ms ∧ ∀ D H', Same H H' → H D = none → TupsAt K H' D (marksL ms x) → Q (.ref D) H'
section
variable {P : Program} {w : World} {K : PySem.W.Frag} {mg : Str → Option Value} {base : Heap}
theorem ok_p_check_moduli (T : Txt K mg) : FnOk P w K mg base CX0 4 T.f_p_check_moduli T.fd_p_check_moduli ["moduli"] (sp_p_check_moduli K) := by
  refine T.F_p_check_moduli.ok sc_p_check_moduli (fun vs H Q E h => ?_) (fun cdv A outer s H vs Q E hr h => ?_)
  · obtain ⟨a, ms, rfl, _⟩ := h
    rfl
  · obtain ⟨a, ms, rfl, ta, M, q⟩ := h
    refine ⟨_, (pss_cons (ps_if (PW.pt (pw_or (pt_not (pt_val (pe_callB call_isi (by rfl) T.z_isinstance (by decide +kernel) (pa_cons (pv 0) (pa_cons (pe_bltn (v := .ty "tuple") (by rfl) T.z_tuple (by decide +kernel) rfl) pa_nil))))) (pw_or1 (pt_not (pt_chain op_le op_le pe_int (pe_callB call_len_seq (by rfl) T.z_len (by decide +kernel) (pa_cons (pv 0) pa_nil)) (pe_glob (v := .int 4) (by rfl) T.c_MOST_MODULI.choose_spec ⟨_, rfl⟩)))))) (pss_one ps_never) pss_nil)
      (pss_one (ps_for PassesOwn.never rfl (pi_enT (by rfl) T.z_enumerate (pa_cons (pv 0) pa_nil)) (pg_tup (by rfl) (pgs_cons (pg_name (i := 1) sc_p_check_moduli.nd rfl (by first | exact .inl rfl | exact .inr rfl)) (pgs_cons (pg_name (i := 2) sc_p_check_moduli.nd rfl (by first | exact .inl rfl | exact .inr rfl)) pgs_nil))) (pss_one (ps_if (pt_not (pt_val (pe_call (ok_p_integer_within T) (hr.mono (by decide)) (by rfl) T.g_p_integer_within T.F_p_integer_within.kp T.b_p_integer_within .nil pass0 (pa_cons (pv 2) (pa_cons pe_int (pa_cons (pe_glob (v := .int 30) (by rfl) T.c_GREATEST_TOLD_BY.choose_spec ⟨_, rfl⟩) pa_nil)))))) (pss_one ps_never) pss_nil))))), ?_⟩
    have h1 := M.one
    have h4 := M.four
    refine ⟨_, rfl, _, _, _, _, _, rfl, .ty "tuple", tyTup ta, kit_ty (r := true) (by decide +kernel), true, rfl, iteF ?_⟩
    refine ⟨_, rfl, a, _, rfl, .inr ta, _, _, rfl, rfl, _, rfl, ?_⟩
    rw [List.length_map, decide_eq_true (by omega)]
    refine iteT ⟨_, _, rfl, rfl, _, rfl, ?_⟩
    rw [decide_eq_true (by omega)]
    refine iteF ⟨_, rfl, a, _, rfl, ta, for_it (walk_enT (K := K) (a := a) (xs := ms.map V.int)) (fun i σ H2 => ∃ (x y : Option V), σ = [some (.ref a), x, y] ∧ Same H H2) ⟨none, none, rfl, Same.refl _⟩ (fun i σ H2 _ ⟨_, _, _, s2⟩ => Same.seqTT s2 ta) ?_ ?_⟩
    · rintro i y σ H2 H3 hi ⟨x1, x2, rfl, s2⟩ ⟨p, z1, z2, rfl, np, rfl, e1, e2⟩
      have s3 := s2.trans (same_upd np (o := .tup [z1, z2]))
      obtain ⟨m, hm, rfl⟩ := getMapInt' e2
      have mm := M.mod m (List.mem_of_getElem? hm)
      refine ⟨p, _, rfl, tupOf upd_same, rfl, _, _, rfl, _, _, rfl, rfl, ?_⟩
      refine ⟨_, rfl, _, _, _, rfl, .inl ⟨m, rfl, _, rfl, ?_⟩⟩
      rw [decide_eq_true mm.1, decide_eq_true mm.2]
      exact iteF ⟨_, _, rfl, s3⟩
    · rintro σ H2 ⟨x1, x2, rfl, s2⟩
      exact q _ s2
theorem ok_p_is_sight (T : Txt K mg) : FnOk P w K mg base CX0 5 T.f_p_is_sight T.fd_p_is_sight ["value"] (sp_p_is_sight K) := by
  refine T.F_p_is_sight.ok sc_p_is_sight (fun vs H Q E h => ?_) (fun cdv A outer s H vs Q E hr h => ?_)
  · obtain ⟨t, p, rfl, _⟩ := h
    rfl
  · obtain ⟨t, p, rfl, tt, hn, q⟩ := h
    refine ⟨_, (pss_one (ps_ret (pe_and (pe_call (ok_p_is_pair T) (hr.mono (by decide)) (by rfl) T.g_p_is_pair T.F_p_is_pair.kp T.b_p_is_pair .nil pass0 (pa_cons (pv 0) pa_nil)) (pe_and (pe_call (ok_p_is_number T) (hr.mono (by decide)) (by rfl) T.g_p_is_number T.F_p_is_number.kp T.b_p_is_number .nil pass0 (pa_cons (pe_ix ix_tup (pv 0) pe_int (fun _ _ => rfl)) pa_nil)) (pe_one (pe_callB call_isi (by rfl) T.z_isinstance (by decide +kernel) (pa_cons (pe_ix ix_tup (pv 0) pe_int (fun _ _ => rfl)) (pa_cons (pe_bltn (v := .ty "bool") (by rfl) T.z_bool (by decide +kernel) rfl) pa_nil)))))))), ?_⟩
    refine ⟨_, rfl, _, rfl, .inr ⟨t, _, rfl, tt, true, rfl, iteT ?_⟩⟩
    refine ⟨_, rfl, t, _, _, _, rfl, rfl, tt, atI_nat (j := 0) rfl, _, rfl, .inl ⟨p.1, rfl, hn, true, rfl, iteT ?_⟩⟩
    exact ⟨_, rfl, t, _, _, _, rfl, rfl, tt, atI_nat (j := 1) rfl, _, _, _, _, _, rfl, .ty "bool", .base (.bl p.2), kit_ty (r := true) (by decide +kernel), q⟩
theorem ok_p_check_seen (T : Txt K mg) : FnOk P w K mg base CX0 6 T.f_p_check_seen T.fd_p_check_seen ["seen"] (sp_p_check_seen K) := by
  refine T.F_p_check_seen.ok sc_p_check_seen (fun vs H Q E h => ?_) (fun cdv A outer s H vs Q E hr h => ?_)
  · obtain ⟨a, sl, rfl, _⟩ := h
    rfl
  · obtain ⟨a, sl, rfl, S, O, q⟩ := h
    refine ⟨_, (pss_cons (ps_if (PW.pt (pw_or (pt_not (pt_val (pe_callB call_isiT (by rfl) T.z_isinstance (by decide +kernel) (pa_cons (pv 0) (pa_cons (pe_tup (pa_cons (pe_bltn (v := .ty "list") (by rfl) T.z_list (by decide +kernel) rfl) (pa_cons (pe_bltn (v := .ty "tuple") (by rfl) T.z_tuple (by decide +kernel) rfl) pa_nil))) pa_nil))))) (pw_or1 (pt_cmpR op_gt (pe_callB call_len_seq (by rfl) T.z_len (by decide +kernel) (pa_cons (pv 0) pa_nil)) (pe_glob (v := .int 20) (by rfl) T.c_MOST_SEEN.choose_spec ⟨_, rfl⟩) (nomark _))))) (pss_one ps_never) pss_nil)
      (pss_cons (ps_set (i := 1) sc_p_check_seen.nd rfl (by first | exact .inl rfl | exact .inr rfl) pe_int)
      (pss_one (ps_for PassesOwn.never rfl (pi_enumE (i := 0) (by rfl) T.z_enumerate (pa_cons (pv 0) pa_nil)) (pg_tup (by rfl) (pgs_cons (pg_name (i := 2) sc_p_check_seen.nd rfl (by first | exact .inl rfl | exact .inr rfl)) (pgs_cons (pg_name (i := 3) sc_p_check_seen.nd rfl (by first | exact .inl rfl | exact .inr rfl)) pgs_nil))) (pss_cons (ps_if (pt_not (pt_val (pe_call (ok_p_is_sight T) (hr.mono (by decide)) (by rfl) T.g_p_is_sight T.F_p_is_sight.kp T.b_p_is_sight .nil pass0 (pa_cons (pv 3) pa_nil)))) (pss_one ps_never) pss_nil)
      (C8.pss_cut (ps_if (pt_not (pt_val (pe_ix ix_tup (pv 3) pe_int (fun _ _ => rfl)))) (pss_one (ps_aug (i := 1) sc_p_check_seen.nd rfl (.inl rfl) pe_int ip_add)) pss_nil)
      (pss_one (ps_if (pt_cmpR op_gt (pv 1) (pe_glob (v := .int 8) (by rfl) T.c_MOST_UNFIT.choose_spec ⟨_, rfl⟩) (nomark _)) (pss_one ps_never) pss_nil)))))))), ?_⟩
    obtain ⟨xs, hx, nx, fx⟩ := S.ex
    have f20 := O.few
    refine ⟨_, rfl, sizeOk (by show (2 : Nat) ≤ 100000; decide), fun tp ntp => ?_⟩
    have s1 := same_upd ntp (o := .tup [.ty "list", .ty "tuple"])
    have e1 := upd_same (H := H) (a := tp) (o := .tup [.ty "list", .ty "tuple"])
    generalize upd H tp (.tup [.ty "list", .ty "tuple"]) = H1 at s1 e1 ⊢
    have hx1 : H1 a = some (.lst xs) ∨ SqT K H1 a xs := hx.imp (fun q => s1 _ _ q) (fun q => Same.seqTT s1 q)
    obtain ⟨tt, ht, hk⟩ : ∃ tt, TyX K H1 (.ref a) tt ∧ PySem.W.kitAny K tt [.type "list", .type "tuple"] = some true := by
      rcases hx1 with hl | ht
      · exact ⟨.type "list", .base (.lst hl), kit_ls⟩
      · exact ⟨.type "tuple", tyTup ht, kit_tp⟩
    refine ⟨_, tp, _, tt, _, true, rfl, e1, .cons (.ty "list") (.cons (.ty "tuple") .nil), ht, hk, true, rfl, iteF ?_⟩
    refine ⟨_, rfl, a, xs, rfl, hx1.imp lstOf id, _, _, rfl, rfl, _, rfl, ite2 (fun e => ?_) (fun e => ?_)⟩
    · have := of_decide_eq_true e
      omega
    refine ⟨a, rfl, ?_⟩
    rcases hx1 with hl | ht
    · refine .inl ⟨⟨_, lstOf hl⟩, for_it (walk_enum (K := K) (a := a) (xs := xs)) (fun i σ H2 => ∃ x2 x3 : Option V, σ = [some (.ref a), some (.int (unfitTo sl i : Nat)), x2, x3] ∧ Same H1 H2) ⟨_, _, rfl, Same.refl _⟩ (fun i σ H2 _ ⟨_, _, _, s2⟩ => lstOf (s2 _ _ hl)) ?_ ?_⟩
      · rintro i y σ H2 H3 hi ⟨x2, x3, rfl, s2⟩ ⟨p, z1, z2, rfl, np, rfl, e1', e2⟩
        have s3 := s2.trans (same_upd np (o := .tup [z1, z2]))
        have il : i < sl.length := by omega
        have hsl : sl[i]? = some sl[i] := List.getElem?_eq_getElem il
        obtain ⟨t, rfl, qt⟩ := fx i z2 _ e2 hsl
        have qt3 := Same.seqTT (s1.trans s3) qt
        refine ⟨p, _, rfl, tupOf upd_same, rfl, _, _, rfl, _, _, rfl, rfl, ?_⟩
        refine ⟨_, rfl, t, sl[i], rfl, qt3, O.num _ (List.getElem_mem il), true, rfl, iteF ?_⟩
        have u8 := O.unfit (i + 1)
        have us := unfit_succ hsl
        refine ⟨fun σ H' => ∃ x2 x3 : Option V, σ = [some (.ref a), some (.int (unfitTo sl (i + 1) : Nat)), x2, x3] ∧ Same H1 H', ?_, ?_⟩
        · refine ⟨_, rfl, t, _, _, _, rfl, rfl, qt3, atI_nat (j := 1) rfl, _, rfl, ?_⟩
          cases e : sl[i].2 with
          | true =>
            rw [e, if_pos rfl] at us
            exact iteF ⟨some z1, some (.ref t), by rw [us]; rfl, s3⟩
          | false =>
            rw [e, if_neg Bool.false_ne_true] at us
            exact iteT ⟨_, rfl, _, _, rfl, rfl, some z1, some (.ref t), by rw [us]; rfl, s3⟩
        · rintro σ H4 ⟨x2, x3, rfl, s4⟩
          refine ⟨_, rfl, _, _, rfl, rfl, _, rfl, ite2 (fun e => ?_) (fun e => ?_)⟩
          · have := of_decide_eq_true e
            omega
          · exact ⟨_, _, rfl, s4⟩
      · rintro σ H2 ⟨x2, x3, rfl, s2⟩
        exact q _ (s1.trans s2)
    · refine .inr ⟨⟨_, ht⟩, for_it (walk_enT (K := K) (a := a) (xs := xs)) (fun i σ H2 => ∃ x2 x3 : Option V, σ = [some (.ref a), some (.int (unfitTo sl i : Nat)), x2, x3] ∧ Same H1 H2) ⟨_, _, rfl, Same.refl _⟩ (fun i σ H2 _ ⟨_, _, _, s2⟩ => Same.seqTT s2 ht) ?_ ?_⟩
      · rintro i y σ H2 H3 hi ⟨x2, x3, rfl, s2⟩ ⟨p, z1, z2, rfl, np, rfl, e1', e2⟩
        have s3 := s2.trans (same_upd np (o := .tup [z1, z2]))
        have il : i < sl.length := by omega
        have hsl : sl[i]? = some sl[i] := List.getElem?_eq_getElem il
        obtain ⟨t, rfl, qt⟩ := fx i z2 _ e2 hsl
        have qt3 := Same.seqTT (s1.trans s3) qt
        refine ⟨p, _, rfl, tupOf upd_same, rfl, _, _, rfl, _, _, rfl, rfl, ?_⟩
        refine ⟨_, rfl, t, sl[i], rfl, qt3, O.num _ (List.getElem_mem il), true, rfl, iteF ?_⟩
        have u8 := O.unfit (i + 1)
        have us := unfit_succ hsl
        refine ⟨fun σ H' => ∃ x2 x3 : Option V, σ = [some (.ref a), some (.int (unfitTo sl (i + 1) : Nat)), x2, x3] ∧ Same H1 H', ?_, ?_⟩
        · refine ⟨_, rfl, t, _, _, _, rfl, rfl, qt3, atI_nat (j := 1) rfl, _, rfl, ?_⟩
          cases e : sl[i].2 with
          | true =>
            rw [e, if_pos rfl] at us
            exact iteF ⟨some z1, some (.ref t), by rw [us]; rfl, s3⟩
          | false =>
            rw [e, if_neg Bool.false_ne_true] at us
            exact iteT ⟨_, rfl, _, _, rfl, rfl, some z1, some (.ref t), by rw [us]; rfl, s3⟩
        · rintro σ H4 ⟨x2, x3, rfl, s4⟩
          refine ⟨_, rfl, _, _, rfl, rfl, _, rfl, ite2 (fun e => ?_) (fun e => ?_)⟩
          · have := of_decide_eq_true e
            omega
          · exact ⟨_, _, rfl, s4⟩
      · rintro σ H2 ⟨x2, x3, rfl, s2⟩
        exact q _ (s1.trans s2)
theorem ok_p_marks_of (T : Txt K mg) : FnOk P w K mg base CX0 2 T.f_p_marks_of T.fd_p_marks_of ["moduli", "number"] (sp_p_marks_of K) := by
  refine T.F_p_marks_of.ok sc_p_marks_of (fun vs H Q E h => ?_) (fun cdv A outer s H vs Q E hr h => ?_)
  · obtain ⟨a, ms, x, rfl, _⟩ := h
    rfl
  · obtain ⟨a, ms, x, rfl, ta, M, q⟩ := h
    refine ⟨_, (pss_one (ps_ret (pe_lc (own := [("index", 2), ("modulus", 3)]) (g := gTup K 2 (gCons (gName 2) (gCons (gName 3) (gNil)))) rfl sc_p_marks_of.nd (pi_enT (by rfl) T.z_enumerate (pa_cons (pv 0) pa_nil)) (blkOk_by (N := ["moduli", "number", "index", "modulus"]) (sc := defScope s_p_marks_of) (by decide +kernel)) (fun _ _ _ _ _ => (pg_tup (by rfl) (pgs_cons (pg_name (i := 2) sc_p_marks_of.nd rfl (by first | exact .inl rfl | exact .inr rfl)) (pgs_cons (pg_name (i := 3) sc_p_marks_of.nd rfl (by first | exact .inl rfl | exact .inr rfl)) pgs_nil)))) (fun _ _ _ _ _ => pts_nil) (fun _ _ _ _ _ => (pe_tup (pa_cons (pv 2) (pa_cons (pe_op op_mod (pv 1) (pv 3)) pa_nil))))))), ?_⟩
    refine ⟨_, rfl, a, _, rfl, ta, fun D nD => ?_⟩
    have l4 := M.four
    refine lc_it (walk_enT (K := K) (a := a) (xs := ms.map V.int)) (fun j Hj => TupsAt K Hj D (marksTo ms x j) ∧ Same H Hj) ⟨TupsAt.nil upd_same, same_upd nD⟩ (fun j Hj _ ⟨_, sj⟩ => Same.seqTT sj ta) ?_ ?_
    · rintro j y Hj H2 hj ⟨TD, sj⟩ ⟨p, z1, z2, rfl, np, rfl, e1, e2⟩
      obtain ⟨m, hm, rfl⟩ := getMapInt' e2
      have mm := M.mod m (List.mem_of_getElem? hm)
      cases Option.some.inj e1
      have sp := same_upd np (o := .tup [.int (j : Nat), .int m])
      have TD2 := TD.stay sp
      refine ⟨p, _, rfl, tupOf upd_same, rfl, _, _, rfl, _, _, rfl, rfl, rfl, _, rfl, _, rfl, _, rfl, _, _, rfl, rfl, by show (0 : Int) < m; omega, sizeOk (by show (2 : Nat) ≤ 100000; decide), fun u nu => ?_⟩
      have su := same_upd nu (o := .tup [.int (j : Nat), .int (x % m)])
      obtain ⟨us, eu, lu, Tn⟩ := (TD2.stay su).push (t := u) (l := [((j : Nat) : Int), x % m]) (tupOf upd_same)
      refine ⟨_, eu, ?_, ?_, samePut (sj.trans (sp.trans su)) nD⟩
      · rw [List.length_map, lu]
        unfold marksTo
        rw [List.length_map, List.length_range]
        rw [List.length_map] at hj
        exact sizeLt (by omega)
      · rw [marksTo_succ, show ms.getD j 1 = m by rw [List.getD_eq_getElem?_getD, hm]; rfl]
        exact Tn
    · rintro H2 ⟨TD, s2⟩
      rw [List.length_map] at TD
      exact q D _ s2 nD TD
end

end R
namespace R
open PySem PySem.Spec PyProof.Rows L2
/-! ## walks of a set comprehension of two fors -/
section
variable {P : Program} {w : World} {K : PySem.W.Frag}
/-- the inner walk -/
def Inner (P : Program) (w : World) (K : PySem.W.Frag) (g1 : TG) (tt1 : TT) (te : TE) (vs1 : List Nat) (σ2 : L2.St) (D : Addr) (J1 : It) (H4 : Hp) (Nx : Hp → Prop) : Prop :=
  ∃ W1 : Nat → Nat → Hp → Prop, (∃ m, W1 0 m H4) ∧ ∀ j k H, W1 j k H → (J1.stop j H ∧ Nx H) ∨
        (J1.go j H ∧ ∃ Nx1 : Hp → Prop, (∀ H', Nx1 H' → ∃ k', k' < k ∧ W1 (j + 1) k' H') ∧ ∀ x H', J1.yld j H x H' → g1 x (wipe σ2 vs1) H' fun σ3 H5 => wipe σ3 vs1 = wipe σ2 vs1 ∧ tt1 σ3 H5 fun b H6 =>
          if b = true then te σ3 H6 fun y H7 => ∃ (c : Addr) (k : List Int) (L : List (Addr × List Int)), y = .ref c ∧ SqT K H7 c (k.map V.int) ∧ H7 D = some (SetTO P w D L) ∧ (∀ p ∈ L, SqT K H7 p.1 (p.2.map V.int)) ∧ L.length + 1 < 64 ∧
            ∀ L', (k ∈ L.map (·.2) → L' = L) → (k ∉ L.map (·.2) → L'.Perm ((c, k) :: L)) → Nx1 (upd H7 D (SetTO P w D L')) else Nx1 H6)
theorem inner_list {g1 : TG} {tt1 : TT} {te : TE} {vs1 : List Nat} {σ2 : L2.St} {D a : Addr} {xs : List V} {H4 : Hp} {Nx : Hp → Prop} (Pv : Nat → Hp → Prop) (h0 : Pv 0 H4) (hl : ∀ j H, j ≤ xs.length → Pv j H → SqL K H a xs)
    (hs : ∀ j x H, xs[j]? = some x → Pv j H → g1 x (wipe σ2 vs1) H fun σ3 H5 => wipe σ3 vs1 = wipe σ2 vs1 ∧ tt1 σ3 H5 fun b H6 =>
          if b = true then te σ3 H6 fun y H7 => ∃ (c : Addr) (k : List Int) (L : List (Addr × List Int)), y = .ref c ∧ SqT K H7 c (k.map V.int) ∧ H7 D = some (SetTO P w D L) ∧ (∀ p ∈ L, SqT K H7 p.1 (p.2.map V.int)) ∧ L.length + 1 < 64 ∧
            ∀ L', (k ∈ L.map (·.2) → L' = L) → (k ∉ L.map (·.2) → L'.Perm ((c, k) :: L)) → Pv (j + 1) (upd H7 D (SetTO P w D L')) else Pv (j + 1) H6)
    (hd : ∀ H, Pv xs.length H → Nx H) : Inner P w K g1 tt1 te vs1 σ2 D (Itl K a) H4 Nx := by
  refine ⟨fun j m H => m = xs.length - j ∧ j ≤ xs.length ∧ Pv j H, ⟨_, rfl, Nat.zero_le _, h0⟩, ?_⟩
  rintro j _ H ⟨rfl, hj, p⟩
  by_cases lt : j < xs.length
  · refine .inr ⟨⟨xs, xs[j], hl j H hj p, by simp [lt]⟩, Pv (j + 1), fun H' p' => ⟨xs.length - (j + 1), by omega, rfl, lt, p'⟩, fun x H' ⟨e, y⟩ => ?_⟩
    subst e
    exact hs j x _ (y xs (hl j _ hj p)) p
  · obtain rfl : j = xs.length := by omega
    exact .inl ⟨⟨xs, hl _ H hj p, Nat.le_refl _⟩, hd H p⟩
theorem scT2_run {wi1 : TI} {g g1 : TG} {tt tt1 : TT} {te : TE} {vs vs1 : List Nat} {σ : L2.St} {H1 : Hp} {D : Addr} {Qd : Hp → Prop} {J : It} {xs : List V} (Pv : Nat → Hp → Prop) (h0 : Pv 0 (upd H1 D (SetTO P w D [])))
    (go : ∀ i H, i < xs.length → Pv i H → J.go i H) (stop : ∀ H, Pv xs.length H → J.stop xs.length H) (yld : ∀ i H x H', i < xs.length → Pv i H → J.yld i H x H' → H' = H ∧ xs[i]? = some x)
    (hs : ∀ i x H, xs[i]? = some x → Pv i H → g x (wipe σ vs) H fun σ2 H2 => wipe σ2 vs = wipe σ vs ∧ tt σ2 H2 fun b H3 => if b = true then wi1 σ2 H3 fun J1 H4 => Inner P w K g1 tt1 te vs1 σ2 D J1 H4 (Pv (i + 1)) else Pv (i + 1) H3)
    (hd : ∀ H, Pv xs.length H → Qd H) : ∃ W : Nat → Nat → Hp → Prop, (∃ m, W 0 m (upd H1 D (SetTO P w D []))) ∧ ∀ i m H, W i m H → (J.stop i H ∧ Qd H) ∨
    (J.go i H ∧ ∃ Nx : Hp → Prop, (∀ H', Nx H' → ∃ m', m' < m ∧ W (i + 1) m' H') ∧ ∀ x H', J.yld i H x H' → g x (wipe σ vs) H' fun σ2 H2 => wipe σ2 vs = wipe σ vs ∧ tt σ2 H2 fun b H3 =>
      if b = true then wi1 σ2 H3 fun J1 H4 => ∃ W1 : Nat → Nat → Hp → Prop, (∃ m, W1 0 m H4) ∧ ∀ j k H, W1 j k H → (J1.stop j H ∧ Nx H) ∨
        (J1.go j H ∧ ∃ Nx1 : Hp → Prop, (∀ H', Nx1 H' → ∃ k', k' < k ∧ W1 (j + 1) k' H') ∧ ∀ x H', J1.yld j H x H' → g1 x (wipe σ2 vs1) H' fun σ3 H5 => wipe σ3 vs1 = wipe σ2 vs1 ∧ tt1 σ3 H5 fun b H6 =>
          if b = true then te σ3 H6 fun y H7 => ∃ (c : Addr) (k : List Int) (L : List (Addr × List Int)), y = .ref c ∧ SqT K H7 c (k.map V.int) ∧ H7 D = some (SetTO P w D L) ∧ (∀ p ∈ L, SqT K H7 p.1 (p.2.map V.int)) ∧ L.length + 1 < 64 ∧
            ∀ L', (k ∈ L.map (·.2) → L' = L) → (k ∉ L.map (·.2) → L'.Perm ((c, k) :: L)) → Nx1 (upd H7 D (SetTO P w D L')) else Nx1 H6) else Nx H3) := by
  refine ⟨fun i m H => m = xs.length - i ∧ i ≤ xs.length ∧ Pv i H, ⟨_, rfl, Nat.zero_le _, h0⟩, ?_⟩
  rintro i _ H ⟨rfl, hi, p⟩
  by_cases lt : i < xs.length
  · refine .inr ⟨go i H lt p, Pv (i + 1), fun H' p' => ⟨xs.length - (i + 1), by omega, rfl, lt, p'⟩, fun x H' y => ?_⟩
    obtain ⟨rfl, hx⟩ := yld i H x H' lt p y
    exact hs i x _ hx p
  · obtain rfl : i = xs.length := by omega
    exact .inl ⟨stop H p, hd H p⟩
end

end R
namespace R
open PySem PySem.Spec PyProof.Rows L2
/-! ## held marks -/
def sp_p_held_marks (K : PySem.W.Frag) : Sp := fun vs H Q _ => ∃ (a b : Addr) (ms : List Int) (sl : List (Int × Bool)) (U : List (List Int)), vs = [.ref a, .ref b] ∧ SqT K H a (ms.map V.int) ∧ MOk ms ∧ SeenAt K H b sl ∧ U.length ≤ 60 ∧ (∀ p ∈ sl, p.2 = true → ∀ z ∈ marksL ms p.1, z ∈ U) ∧
  ∀ D hl H', Same H H' → H D = none → TupsAt K H' D hl → HeldIs ms sl hl → Q (.ref D) H'
/-- the marks of the first i that fit, and the first j marks of the next -/
def InHeld (ms : List Int) (sl : List (Int × Bool)) (i : Nat) (z : List Int) : Prop := ∃ p ∈ sl.take i, p.2 = true ∧ z ∈ marksL ms p.1
theorem marksL_at {ms : List Int} {x : Int} {j : Nat} {z : List Int} (h : (marksL ms x)[j]? = some z) : (marksL ms x).take (j + 1) = (marksL ms x).take j ++ [z] := takeSucc h
section
variable {P : Program} {w : World} {K : PySem.W.Frag} {mg : Str → Option Value} {base : Heap}
set_option maxHeartbeats 1600000 in
theorem ok_p_held_marks (T : Txt K mg) : FnOk P w K mg base CX0 3 T.f_p_held_marks T.fd_p_held_marks ["moduli", "seen"] (sp_p_held_marks K) := by
  refine T.F_p_held_marks.ok sc_p_held_marks (fun vs H Q E h => ?_) (fun cdv A outer s H vs Q E hr h => ?_)
  · obtain ⟨a, b, ms, sl, U, rfl, _⟩ := h
    rfl
  · obtain ⟨a, b, ms, sl, U, rfl, ta, M, S, u60, hU, q⟩ := h
    refine ⟨_, (pss_one (ps_ret (pe_callB (cr_sortedT rfl) (by rfl) T.z_sorted (by decide +kernel) (pa_cons (pe_scT2 (own := [("number", 2), ("does", 3), ("mark", 4)]) (vs1 := [4]) (g := gTup K 2 (gCons (gName 2) (gCons (gName 3) (gNil)))) rfl (in2u hr) sc_p_held_marks.nd (pi_either (pv 1)) (blkOk_by (N := ["moduli", "seen", "number", "does", "mark"]) (sc := defScope s_p_held_marks) (by decide +kernel)) (by decide) (fun _ _ _ _ _ => (pg_tup (by rfl) (pgs_cons (pg_name (i := 2) sc_p_held_marks.nd rfl (by first | exact .inl rfl | exact .inr rfl)) (pgs_cons (pg_name (i := 3) sc_p_held_marks.nd rfl (by first | exact .inl rfl | exact .inr rfl)) pgs_nil)))) (fun _ _ _ _ _ => (pts_one (pt_val (pv 3)))) (fun _ _ _ _ _ => (pi_listK (K := K) rfl (pe_call (ok_p_marks_of T) (hr.mono (by decide)) (by rfl) T.g_p_marks_of T.F_p_marks_of.kp T.b_p_marks_of .nil pass0 (pa_cons (pv 0) (pa_cons (pv 2) pa_nil))))) (fun _ _ _ _ _ => (pg_name (i := 4) sc_p_held_marks.nd rfl (by first | exact .inl rfl | exact .inr rfl))) (fun _ _ _ _ _ => pts_nil) (fun _ _ _ _ _ => (pv 4))) pa_nil)))), ?_⟩
    obtain ⟨xs, hx, nx, fx⟩ := S.ex
    refine ⟨_, rfl, b, rfl, ?_⟩
    have tail : ∀ (D : Addr) (H2 : Hp) (L : List (Addr × List Int)), H D = none → H2 D = some (SetTO P w D L) → Mem K H2 L (InHeld ms sl sl.length) → (∀ c o, c ≠ D → H c = some o → H2 c = some o) →
        rSortedT K P w [.ref D] H2 Q := fun D H2 L nD eD mm kp => by
      refine ⟨D, L, 2, 64, rfl, eD, mm.at_, by decide, fun p hp => ?_, fun L' p' pm nd lt up np => ?_⟩
      · obtain ⟨s0, hs0, d0, hz⟩ := (mm.mem p.2).mp (List.mem_map.mpr ⟨p, hp, rfl⟩)
        obtain ⟨i, r, e, il, er⟩ := marks_two _ hz
        rw [e]
        have mi := M.mod (ms.getD i 1) (by rw [List.getD_eq_getElem?_getD, List.getElem?_eq_getElem il]; exact List.getElem_mem il)
        have r0 := Int.emod_nonneg s0.1 (show ms.getD i 1 ≠ 0 by omega)
        have r1 := Int.emod_lt_of_pos s0.1 (show (0 : Int) < ms.getD i 1 by omega)
        have h4 := M.four
        refine ⟨rfl, fun m hm => ?_⟩
        rcases List.mem_cons.mp hm with rfl | hm
        · omega
        · rw [List.mem_singleton.mp hm, er]
          omega
      · have sp := same_upd np (o := .lst (L'.map fun q => V.ref q.1))
        have hD : ∀ c o, H c = some o → c ≠ D := fun c o e z => by rw [z, nD] at e; cases e
        refine q p' (L'.map (·.2)) _ (fun c o e => sp _ _ (kp c o (hD c o e) e)) ?_ ⟨L'.map (·.1), by rw [upd_same, List.map_map]; rfl, by rw [List.length_map, List.length_map], fun i t l h1 h2 => ?_⟩ ⟨nd, fun z => ?_⟩
        · cases e : H p' with
          | none => rfl
          | some o =>
            have := kp p' o (hD p' o e) e
            rw [np] at this
            cases this
        · rw [List.getElem?_map] at h1 h2
          obtain ⟨z1, g1, rfl⟩ := Option.map_eq_some_iff.mp h1
          rw [g1] at h2
          cases h2
          exact Same.seqTT sp (mm.at_ z1 (pm.mem_iff.mp (List.mem_of_getElem? g1)))
        · rw [(pm.map (·.2)).mem_iff, mm.mem]
          unfold InHeld
          rw [List.take_length]
    rcases hx with hl | ht
    · refine .inl ⟨⟨_, lstOf hl⟩, fun D nD => ?_⟩
      have bD : b ≠ D := fun z => by rw [z, nD] at hl; cases hl
      refine scT2_run (K := K) (xs := xs) (fun i Hi => ∃ L, Hi D = some (SetTO P w D L) ∧ Mem K Hi L (InHeld ms sl i) ∧ ∀ c o, c ≠ D → H c = some o → Hi c = some o) ⟨[], upd_same, Mem.nil.congr fun z => ⟨fun h => h.elim, fun ⟨p, hp, _⟩ => by rw [List.take_zero] at hp; cases hp⟩, fun c o n e => by rw [upd_ne n]; exact e⟩ ?_ ?_ ?_ ?_ ?_
      · intro i Hi hi ⟨L, eD, mm, kp⟩
        exact ⟨xs, xs[i], lstOf (kp _ _ bD hl), by simp [hi]⟩
      · intro Hi ⟨L, eD, mm, kp⟩
        exact ⟨xs, lstOf (kp _ _ bD hl), Nat.le_refl _⟩
      · rintro i Hi x H' hi ⟨L, eD, mm, kp⟩ ⟨e, y⟩
        exact ⟨e, y xs (lstOf (kp _ _ bD hl))⟩
      · rintro i x Hi hx ⟨L, eD, mm, kp⟩
        have il : i < sl.length := by
          have := (List.getElem?_eq_some_iff.mp hx).1
          omega
        have hsl : sl[i]? = some sl[i] := List.getElem?_eq_getElem il
        obtain ⟨t, rfl, qt⟩ := fx i x _ hx hsl
        have keepT : ∀ {Hj : Hp}, (∀ c o, c ≠ D → H c = some o → Hj c = some o) → TupsStay K H Hj := fun kj c ys h => by
          rcases h with (h | ⟨o, h⟩) | h
          · exact .inl (.inl (kj _ _ (fun z => by rw [z, nD] at h; cases h) h))
          · exact .inl (.inr ⟨o, kj _ _ (fun z => by rw [z, nD] at h; cases h) h⟩)
          · exact .inr h
        refine ⟨t, [_, _], rfl, keepT kp _ _ qt, rfl, _, _, rfl, _, _, rfl, rfl, rfl, _, rfl, _, rfl, ?_⟩
        have hm := List.getElem_mem il
        have tk := takeSucc hsl
        generalize sl[i] = p at hsl qt hm tk
        obtain ⟨x, d⟩ := p
        cases d with
        | false =>
          refine iteF ⟨L, eD, mm.congr fun z => ?_, kp⟩
          unfold InHeld
          rw [tk]
          constructor
          · rintro ⟨p, hp, h⟩
            exact ⟨p, List.mem_append_left _ hp, h⟩
          · rintro ⟨p, hp, h1, h2⟩
            rcases List.mem_append.mp hp with hp | hp
            · exact ⟨p, hp, h1, h2⟩
            · rw [List.mem_singleton.mp hp] at h1
              cases h1
        | true =>
          refine iteT ⟨_, rfl, _, rfl, a, ms, x, rfl, keepT kp _ _ ta, M, fun D1 H5 s5 n5 T5 => ?_⟩
          obtain ⟨ts, e5, lt5, at5⟩ := T5.ex
          have DD : D1 ≠ D := fun z => by rw [z, eD] at n5; cases n5
          refine ⟨D1, rfl, ⟨_, lstOf e5⟩, inner_list (K := K) (xs := ts.map V.ref) (fun j Hj => ∃ L, Hj D = some (SetTO P w D L) ∧ Mem K Hj L (fun z => InHeld ms sl i z ∨ z ∈ (marksL ms x).take j) ∧ ∀ c o, c ≠ D → H5 c = some o → Hj c = some o)
            ⟨L, s5 _ _ eD, (mm.stay (.same s5)).congr fun z => ⟨.inl, fun h => h.elim id fun h => by rw [List.take_zero] at h; cases h⟩, fun c o _ e => e⟩ ?_ ?_ ?_⟩
          · rintro j Hj hj ⟨L, eD, mm, kj⟩
            exact lstOf (kj _ _ DD e5)
          · rintro j y Hj hj ⟨L, eDj, mj, kj⟩
            rw [List.getElem?_map] at hj
            obtain ⟨tz, htz, rfl⟩ := Option.map_eq_some_iff.mp hj
            have jl := (List.getElem?_eq_some_iff.mp htz).1
            obtain ⟨z, hz⟩ : ∃ z, (marksL ms x)[j]? = some z := ⟨_, List.getElem?_eq_getElem (by omega)⟩
            have keep5 : ∀ {Hk : Hp}, (∀ c o, c ≠ D → H5 c = some o → Hk c = some o) → TupsStay K H5 Hk := fun kj c ys h => by
              have e5D := s5 _ _ eD
              rcases h with (h | ⟨o, h⟩) | h
              · exact .inl (.inl (kj _ _ (fun z => by rw [z, e5D] at h; cases h) h))
              · exact .inl (.inr ⟨o, kj _ _ (fun z => by rw [z, e5D] at h; cases h) h⟩)
              · exact .inr h
            have sq := keep5 kj _ _ (at5 j tz z htz hz)
            have few := mj.few (U := U) fun z hz => by
              rcases hz with ⟨p, hp, h1, h2⟩ | hz
              · exact hU p (List.mem_of_mem_take hp) h1 z h2
              · exact hU _ hm rfl z (List.mem_of_mem_take hz)
            refine ⟨rfl, _, rfl, tz, z, L, rfl, sq, eDj, mj.at_, by omega, fun L' m1 m2 => ⟨L', upd_same, ?_, fun c o n e => by rw [upd_ne n]; exact kj c o n e⟩⟩
            have stay : TupsStay K Hj (upd Hj D (SetTO P w D L')) := fun c ys h => by
              rcases h with (h | ⟨o, h⟩) | h
              · exact .inl (.inl (by rw [upd_ne (fun z => by rw [z, eDj] at h; cases h)]; exact h))
              · exact .inl (.inr ⟨o, by rw [upd_ne (fun z => by rw [z, eDj] at h; cases h)]; exact h⟩)
              · exact .inr h
            refine ((mj.add sq m1 m2).stay stay).congr fun y => ?_
            rw [takeSucc hz, List.mem_append, List.mem_singleton, or_assoc]
          · rintro Hj ⟨L, eDj, mj, kj⟩
            rw [List.length_map, lt5, List.take_length] at mj
            refine ⟨L, eDj, mj.congr fun z => ?_, fun c o n e => kj c o n (s5 _ _ (kp c o n e))⟩
            unfold InHeld
            rw [tk]
            constructor
            · rintro (⟨p, hp, h⟩ | h)
              · exact ⟨p, List.mem_append_left _ hp, h⟩
              · exact ⟨_, List.mem_append_right _ (List.mem_singleton.mpr rfl), rfl, h⟩
            · rintro ⟨p, hp, h1, h2⟩
              rcases List.mem_append.mp hp with hp | hp
              · exact .inl ⟨p, hp, h1, h2⟩
              · rw [List.mem_singleton.mp hp] at h2
                exact .inr h2
      · rintro Hi ⟨L, eD, mm, kp⟩
        rw [nx] at mm
        exact tail D Hi L nD eD mm kp
    · refine .inr ⟨⟨_, ht⟩, fun D nD => ?_⟩
      have kT : ∀ {Hj : Hp}, (∀ c o, c ≠ D → H c = some o → Hj c = some o) → SqT K Hj b xs := fun kj => by
        rcases ht with (h | ⟨o, h⟩) | h
        · exact .inl (.inl (kj _ _ (fun z => by rw [z, nD] at h; cases h) h))
        · exact .inl (.inr ⟨o, kj _ _ (fun z => by rw [z, nD] at h; cases h) h⟩)
        · exact .inr h
      refine scT2_run (K := K) (xs := xs) (fun i Hi => ∃ L, Hi D = some (SetTO P w D L) ∧ Mem K Hi L (InHeld ms sl i) ∧ ∀ c o, c ≠ D → H c = some o → Hi c = some o) ⟨[], upd_same, Mem.nil.congr fun z => ⟨fun h => h.elim, fun ⟨p, hp, _⟩ => by rw [List.take_zero] at hp; cases hp⟩, fun c o n e => by rw [upd_ne n]; exact e⟩ ?_ ?_ ?_ ?_ ?_
      · intro i Hi hi ⟨L, eD, mm, kp⟩
        exact ⟨xs, xs[i], kT kp, by simp [hi]⟩
      · intro Hi ⟨L, eD, mm, kp⟩
        exact ⟨xs, kT kp, Nat.le_refl _⟩
      · rintro i Hi x H' hi ⟨L, eD, mm, kp⟩ ⟨e, y⟩
        exact ⟨e, y xs (kT kp)⟩
      · rintro i x Hi hx ⟨L, eD, mm, kp⟩
        have il : i < sl.length := by
          have := (List.getElem?_eq_some_iff.mp hx).1
          omega
        have hsl : sl[i]? = some sl[i] := List.getElem?_eq_getElem il
        obtain ⟨t, rfl, qt⟩ := fx i x _ hx hsl
        have keepT : ∀ {Hj : Hp}, (∀ c o, c ≠ D → H c = some o → Hj c = some o) → TupsStay K H Hj := fun kj c ys h => by
          rcases h with (h | ⟨o, h⟩) | h
          · exact .inl (.inl (kj _ _ (fun z => by rw [z, nD] at h; cases h) h))
          · exact .inl (.inr ⟨o, kj _ _ (fun z => by rw [z, nD] at h; cases h) h⟩)
          · exact .inr h
        refine ⟨t, [_, _], rfl, keepT kp _ _ qt, rfl, _, _, rfl, _, _, rfl, rfl, rfl, _, rfl, _, rfl, ?_⟩
        have hm := List.getElem_mem il
        have tk := takeSucc hsl
        generalize sl[i] = p at hsl qt hm tk
        obtain ⟨x, d⟩ := p
        cases d with
        | false =>
          refine iteF ⟨L, eD, mm.congr fun z => ?_, kp⟩
          unfold InHeld
          rw [tk]
          constructor
          · rintro ⟨p, hp, h⟩
            exact ⟨p, List.mem_append_left _ hp, h⟩
          · rintro ⟨p, hp, h1, h2⟩
            rcases List.mem_append.mp hp with hp | hp
            · exact ⟨p, hp, h1, h2⟩
            · rw [List.mem_singleton.mp hp] at h1
              cases h1
        | true =>
          refine iteT ⟨_, rfl, _, rfl, a, ms, x, rfl, keepT kp _ _ ta, M, fun D1 H5 s5 n5 T5 => ?_⟩
          obtain ⟨ts, e5, lt5, at5⟩ := T5.ex
          have DD : D1 ≠ D := fun z => by rw [z, eD] at n5; cases n5
          refine ⟨D1, rfl, ⟨_, lstOf e5⟩, inner_list (K := K) (xs := ts.map V.ref) (fun j Hj => ∃ L, Hj D = some (SetTO P w D L) ∧ Mem K Hj L (fun z => InHeld ms sl i z ∨ z ∈ (marksL ms x).take j) ∧ ∀ c o, c ≠ D → H5 c = some o → Hj c = some o)
            ⟨L, s5 _ _ eD, (mm.stay (.same s5)).congr fun z => ⟨.inl, fun h => h.elim id fun h => by rw [List.take_zero] at h; cases h⟩, fun c o _ e => e⟩ ?_ ?_ ?_⟩
          · rintro j Hj hj ⟨L, eD, mm, kj⟩
            exact lstOf (kj _ _ DD e5)
          · rintro j y Hj hj ⟨L, eDj, mj, kj⟩
            rw [List.getElem?_map] at hj
            obtain ⟨tz, htz, rfl⟩ := Option.map_eq_some_iff.mp hj
            have jl := (List.getElem?_eq_some_iff.mp htz).1
            obtain ⟨z, hz⟩ : ∃ z, (marksL ms x)[j]? = some z := ⟨_, List.getElem?_eq_getElem (by omega)⟩
            have keep5 : ∀ {Hk : Hp}, (∀ c o, c ≠ D → H5 c = some o → Hk c = some o) → TupsStay K H5 Hk := fun kj c ys h => by
              have e5D := s5 _ _ eD
              rcases h with (h | ⟨o, h⟩) | h
              · exact .inl (.inl (kj _ _ (fun z => by rw [z, e5D] at h; cases h) h))
              · exact .inl (.inr ⟨o, kj _ _ (fun z => by rw [z, e5D] at h; cases h) h⟩)
              · exact .inr h
            have sq := keep5 kj _ _ (at5 j tz z htz hz)
            have few := mj.few (U := U) fun z hz => by
              rcases hz with ⟨p, hp, h1, h2⟩ | hz
              · exact hU p (List.mem_of_mem_take hp) h1 z h2
              · exact hU _ hm rfl z (List.mem_of_mem_take hz)
            refine ⟨rfl, _, rfl, tz, z, L, rfl, sq, eDj, mj.at_, by omega, fun L' m1 m2 => ⟨L', upd_same, ?_, fun c o n e => by rw [upd_ne n]; exact kj c o n e⟩⟩
            have stay : TupsStay K Hj (upd Hj D (SetTO P w D L')) := fun c ys h => by
              rcases h with (h | ⟨o, h⟩) | h
              · exact .inl (.inl (by rw [upd_ne (fun z => by rw [z, eDj] at h; cases h)]; exact h))
              · exact .inl (.inr ⟨o, by rw [upd_ne (fun z => by rw [z, eDj] at h; cases h)]; exact h⟩)
              · exact .inr h
            refine ((mj.add sq m1 m2).stay stay).congr fun y => ?_
            rw [takeSucc hz, List.mem_append, List.mem_singleton, or_assoc]
          · rintro Hj ⟨L, eDj, mj, kj⟩
            rw [List.length_map, lt5, List.take_length] at mj
            refine ⟨L, eDj, mj.congr fun z => ?_, fun c o n e => kj c o n (s5 _ _ (kp c o n e))⟩
            unfold InHeld
            rw [tk]
            constructor
            · rintro (⟨p, hp, h⟩ | h)
              · exact ⟨p, List.mem_append_left _ hp, h⟩
              · exact ⟨_, List.mem_append_right _ (List.mem_singleton.mpr rfl), rfl, h⟩
            · rintro ⟨p, hp, h1, h2⟩
              rcases List.mem_append.mp hp with hp | hp
              · exact .inl ⟨p, hp, h1, h2⟩
              · rw [List.mem_singleton.mp hp] at h2
                exact .inr h2
      · rintro Hi ⟨L, eD, mm, kp⟩
        rw [nx] at mm
        exact tail D Hi L nD eD mm kp
end

end R
namespace R
open PySem PySem.Spec PyProof.Rows L2
/-! ## unheld marks -/
def sp_p_unheld_marks (K : PySem.W.Frag) : Sp := fun vs H Q _ => ∃ (a b : Addr) (ms : List Int) (sl : List (Int × Bool)) (U : List (List Int)), vs = [.ref a, .ref b] ∧ SqT K H a (ms.map V.int) ∧ MOk ms ∧ SeenAt K H b sl ∧ sl.length ≤ 20 ∧ U.length ≤ 60 ∧ (∀ p ∈ sl, p.2 = true → ∀ z ∈ marksL ms p.1, z ∈ U) ∧
  ∀ D hl H', Same H H' → H D = none → LLAt K H' D (unheldL ms hl sl) → HeldIs ms sl hl → Q (.ref D) H'
def unheldTo (ms : List Int) (hl : List (List Int)) (sl : List (Int × Bool)) (n : Nat) : List (List (List Int)) := unheldL ms hl (sl.take n)
theorem unheldTo_succ {ms : List Int} {hl : List (List Int)} {sl : List (Int × Bool)} {n : Nat} {p : Int × Bool} (h : sl[n]? = some p) : unheldTo ms hl sl (n + 1) = unheldTo ms hl sl n ++ (if p.2 = true then [] else [leftOf ms hl p.1]) := by
  unfold unheldTo unheldL
  rw [takeSucc h, List.filter_append, List.map_append]
  cases e : p.2 with
  | true =>
    rw [List.filter_cons_of_neg (by rw [e]; decide), if_pos rfl]
    rfl
  | false =>
    rw [List.filter_cons_of_pos (by rw [e]; rfl), if_neg Bool.false_ne_true]
    rfl
theorem LLAt.nil {K : PySem.W.Frag} {H : Hp} {D : Addr} (h : H D = some (.lst [])) : LLAt K H D [] := ⟨[], h, rfl, fun i b u a _ => by simp at a⟩
theorem LLAt.push {K : PySem.W.Frag} {H : Hp} {D t : Addr} {LL : List (List (List Int))} {l : List (List Int)} (h : LLAt K H D LL) (ht : TupsAt K H t l) (ne : t ≠ D) (old : ∀ (as_ : List Addr), H D = some (.lst (as_.map V.ref)) → D ∉ as_) :
    ∃ as_ : List Addr, H D = some (.lst (as_.map V.ref)) ∧ as_.length = LL.length ∧ LLAt K (upd H D (.lst (as_.map V.ref ++ [V.ref t]))) D (LL ++ [l]) := by
  obtain ⟨as_, e, n, f⟩ := h.ex
  have no := old as_ e
  have other : ∀ {b : Addr} {u : List (List Int)}, b ≠ D → TupsAt K H b u → TupsAt K (upd H D (.lst (as_.map V.ref ++ [V.ref t]))) b u := fun {b u} nb hb => by
    obtain ⟨ts, e1, n1, f1⟩ := hb.ex
    exact ⟨ts, by rw [upd_ne nb]; exact e1, n1, fun i t' l' x y => lstTups e _ _ (f1 i t' l' x y)⟩
  refine ⟨as_, e, n, as_ ++ [t], by rw [upd_same, List.map_append]; rfl, by rw [List.length_append, List.length_append, n]; rfl, fun i b u a c => ?_⟩
  by_cases hi : i < as_.length
  · rw [List.getElem?_append_left hi] at a
    rw [List.getElem?_append_left (by omega)] at c
    exact other (fun z => no (z ▸ List.mem_of_getElem? a)) (f i b u a c)
  · rw [List.getElem?_append_right (by omega)] at a
    rw [List.getElem?_append_right (by omega), ← n] at c
    cases z : i - as_.length with
    | zero =>
      rw [z] at a c
      cases Option.some.inj a
      cases Option.some.inj c
      exact other ne ht
    | succ j => rw [z] at a; simp at a
theorem nilNot {H : Hp} {D : Addr} {as_ : List Addr} (e : upd H D (.lst []) D = some (.lst (as_.map V.ref))) : D ∉ as_ := fun hm => by
  rw [upd_same] at e
  have e0 : ([] : List V) = as_.map V.ref := HO.lst.inj (Option.some.inj e)
  rw [List.map_eq_nil_iff.mp e0.symm] at hm
  cases hm
section
variable {P : Program} {w : World} {K : PySem.W.Frag} {mg : Str → Option Value} {base : Heap}
set_option maxHeartbeats 1600000 in
theorem ok_p_unheld_marks (T : Txt K mg) : FnOk P w K mg base CX0 4 T.f_p_unheld_marks T.fd_p_unheld_marks ["moduli", "seen"] (sp_p_unheld_marks K) := by
  refine T.F_p_unheld_marks.ok sc_p_unheld_marks (fun vs H Q E h => ?_) (fun cdv A outer s H vs Q E hr h => ?_)
  · obtain ⟨a, b, ms, sl, U, rfl, _⟩ := h
    rfl
  · obtain ⟨a, b, ms, sl, U, rfl, ta, M, S, s20, u60, hU, q⟩ := h
    refine ⟨_, (pss_cons (ps_set (i := 2) sc_p_unheld_marks.nd rfl (by first | exact .inl rfl | exact .inr rfl) (pe_call (ok_p_held_marks T) (hr.mono (by decide)) (by rfl) T.g_p_held_marks T.F_p_held_marks.kp T.b_p_held_marks .nil pass0 (pa_cons (pv 0) (pa_cons (pv 1) pa_nil))))
      (pss_one (ps_ret (pe_lc (own := [("number", 3), ("does", 4)]) (g := gTup K 2 (gCons (gName 3) (gCons (gName 4) (gNil)))) rfl sc_p_unheld_marks.nd (pi_either (pv 1)) (blkOk_by (N := ["moduli", "seen", "held", "number", "does", "mark"]) (sc := defScope s_p_unheld_marks) (by decide +kernel)) (fun _ _ _ _ _ => (pg_tup (by rfl) (pgs_cons (pg_name (i := 3) sc_p_unheld_marks.nd rfl (by first | exact .inl rfl | exact .inr rfl)) (pgs_cons (pg_name (i := 4) sc_p_unheld_marks.nd rfl (by first | exact .inl rfl | exact .inr rfl)) pgs_nil)))) (fun _ _ _ _ _ => (pts_one (pt_not (pt_val (pv 4))))) (fun _ _ _ _ _ => (by exact (pe_lc (own := [("mark", 5)]) rfl sc_p_unheld_marks.nd (pi_listK (K := K) rfl (pe_call (ok_p_marks_of T) (hr.mono (by decide)) (by rfl) T.g_p_marks_of T.F_p_marks_of.kp T.b_p_marks_of .nil pass0 (pa_cons (pv 0) (pa_cons (pv 3) pa_nil)))) (blkOk_by (N := ["moduli", "seen", "held", "number", "does", "mark"]) (by kernel_rfl)) (fun _ _ _ _ _ => (pg_name (i := 5) sc_p_unheld_marks.nd rfl (by first | exact .inl rfl | exact .inr rfl))) (fun _ _ _ _ _ => (pts_one (pt_cmpR (r := rNotInD K) (op_notInD (un65 hr)) (pv 5) (pv 2) (by rfl)))) (fun _ _ _ _ _ => (pv 5))))))))), ?_⟩
    refine ⟨_, rfl, _, rfl, a, b, ms, sl, U, rfl, ta, M, S, u60, hU, fun D0 hl H1 s1 n1 T1 HI => ?_⟩
    have ta1 := Same.seqTT s1 ta
    obtain ⟨xs, hx, nx, fx⟩ := (S.stay s1).ex
    refine ⟨_, rfl, b, rfl, ?_⟩
    rcases hx with hb | hb
    · refine .inl ⟨⟨_, lstOf hb⟩, fun D nD => ?_⟩
      refine lc_list (K := K) (a := b) (xs := xs) (fun i Hi => LLAt K Hi D (unheldTo ms hl sl i) ∧ (∀ (as_ : List Addr), Hi D = some (.lst (as_.map V.ref)) → D ∉ as_) ∧ Same H1 Hi) ⟨LLAt.nil upd_same, fun as_ e => nilNot e, same_upd nD⟩ (fun i Hi _ ⟨_, _, si⟩ => lstOf (si _ _ hb)) ?_ ?_
      · rintro i x Hi hx' ⟨LD, nD', si⟩
        have il : i < sl.length := by
          have := (List.getElem?_eq_some_iff.mp hx').1
          omega
        have hsl : sl[i]? = some sl[i] := List.getElem?_eq_getElem il
        obtain ⟨t, rfl, qt⟩ := fx i x _ hx' hsl
        refine ⟨t, [_, _], rfl, Same.seqTT si qt, rfl, _, _, rfl, _, _, rfl, rfl, rfl, _, rfl, _, rfl, ?_⟩
        have us := unheldTo_succ (ms := ms) (hl := hl) hsl
        have ul : (unheldTo ms hl sl i).length ≤ 20 := by
          unfold unheldTo unheldL
          rw [List.length_map]
          have := List.length_filter_le (fun p : Int × Bool => !p.2) (sl.take i)
          rw [List.length_take] at this
          omega
        generalize sl[i] = p at us qt
        obtain ⟨x, d⟩ := p
        cases d with
        | true =>
          refine iteF ⟨?_, nD', si⟩
          rw [us, if_pos rfl, List.append_nil]
          exact LD
        | false =>
          refine iteT ⟨_, rfl, _, rfl, a, ms, x, rfl, Same.seqTT si ta1, M, fun D2 H5 s5 n5 T5 => ⟨D2, rfl, ?_⟩⟩
          obtain ⟨ts, e5, lt5, at5⟩ := T5.ex
          refine ⟨⟨_, lstOf e5⟩, fun G nG => ?_⟩
          refine lc_list (K := K) (a := D2) (xs := ts.map V.ref) (fun j Hj => TupsAt K Hj G (((marksL ms x).take j).filter fun z => decide (z ∉ hl)) ∧ Same H5 Hj) ⟨TupsAt.nil upd_same, same_upd nG⟩ (fun j Hj _ ⟨_, sj⟩ => lstOf (sj _ _ e5)) ?_ ?_
          · rintro j y Hj hj ⟨TG, sj⟩
            rw [List.getElem?_map] at hj
            obtain ⟨tz, htz, rfl⟩ := Option.map_eq_some_iff.mp hj
            have jl := (List.getElem?_eq_some_iff.mp htz).1
            obtain ⟨z, hz⟩ : ∃ z, (marksL ms x)[j]? = some z := ⟨_, List.getElem?_eq_getElem (by omega)⟩
            have sq := Same.seqTT sj (at5 j tz z htz hz)
            have T1j := ((T1.stay (si.trans s5)).stay sj)
            refine ⟨rfl, _, rfl, _, rfl, tD z, hl.map tD, dpTup sq, T1j.dp, (okD.tup (okInts _)).shaped (by decide), okTupsS _, _, rfl, ?_⟩
            show if (!((hl.map tD).any fun y => PyData.eqv y (tD z))) = true then _ else _
            rw [inTup, ← decide_not]
            refine ite2 (fun e => ?_) (fun e => ?_)
            · obtain ⟨us', eu, lu, Tn⟩ := TG.push sq
              refine ⟨_, rfl, _, eu, ?_, ?_, samePut sj nG⟩
              · have := List.length_filter_le (fun z => decide (z ∉ hl)) ((marksL ms x).take j)
                rw [List.length_take] at this
                have m4 := M.four
                have ml : (marksL ms x).length = ms.length := by
                  unfold marksL
                  rw [List.length_map, List.length_range]
                rw [List.length_map, lu]
                exact sizeLt (by omega)
              · rw [takeFilter hz, if_pos e]
                exact Tn
            · refine ⟨?_, sj⟩
              rw [takeFilter hz, if_neg e, List.append_nil]
              exact TG
          · rintro Hj ⟨TG, sj⟩
            rw [List.length_map, lt5, List.take_length] at TG
            have s5j := s5.trans sj
            have LDj := LD.stay s5j
            have GD : G ≠ D := fun z => by
              obtain ⟨as_, e, _⟩ := LD.ex
              have := s5 _ _ e
              rw [z, this] at nG
              cases nG
            obtain ⟨as_, ea, la, LN⟩ := LDj.push TG GD fun as' e hm => nD' as' (by
              obtain ⟨as2, e2, _⟩ := LD.ex
              have e3 := s5j _ _ e2
              rw [e] at e3
              have : as'.map V.ref = as2.map V.ref := HO.lst.inj (Option.some.inj e3)
              rw [e2, this]) hm
            refine ⟨_, ea, ?_, ?_, ?_, samePut (si.trans s5j) nD⟩
            · rw [List.length_map, la]
              exact sizeLt (by omega)
            · rw [us, if_neg Bool.false_ne_true]
              exact LN
            · intro as' e hm
              rw [upd_same] at e
              have e4 : as_.map V.ref ++ [V.ref G] = as'.map V.ref := HO.lst.inj (Option.some.inj e)
              have hm' : V.ref D ∈ as'.map V.ref := List.mem_map.mpr ⟨D, hm, rfl⟩
              rw [← e4] at hm'
              rcases List.mem_append.mp hm' with h | h
              · obtain ⟨c, hc, ec⟩ := List.mem_map.mp h
                cases ec
                obtain ⟨as2, e2, _⟩ := LD.ex
                have e3 := s5j _ _ e2
                rw [ea] at e3
                have : as_.map V.ref = as2.map V.ref := HO.lst.inj (Option.some.inj e3)
                rw [(List.map_inj_right (fun x y h => V.ref.inj h)).mp this] at hc
                exact nD' as2 e2 hc
              · rw [List.mem_singleton] at h
                cases h
                exact GD rfl
      · rintro Hi ⟨LD, nD', si⟩
        rw [nx] at LD
        refine q D hl Hi (s1.trans si) ?_ ?_ HI
        · exact s1.free (by exact nD)
        · have : unheldTo ms hl sl sl.length = unheldL ms hl sl := by
            unfold unheldTo
            rw [List.take_length]
          rw [← this]
          exact LD
    · refine .inr ⟨⟨_, hb⟩, fun D nD => ?_⟩
      refine lc_tup (K := K) (a := b) (xs := xs) (fun i Hi => LLAt K Hi D (unheldTo ms hl sl i) ∧ (∀ (as_ : List Addr), Hi D = some (.lst (as_.map V.ref)) → D ∉ as_) ∧ Same H1 Hi) ⟨LLAt.nil upd_same, fun as_ e => nilNot e, same_upd nD⟩ (fun i Hi _ ⟨_, _, si⟩ => Same.seqTT si hb) ?_ ?_
      · rintro i x Hi hx' ⟨LD, nD', si⟩
        have il : i < sl.length := by
          have := (List.getElem?_eq_some_iff.mp hx').1
          omega
        have hsl : sl[i]? = some sl[i] := List.getElem?_eq_getElem il
        obtain ⟨t, rfl, qt⟩ := fx i x _ hx' hsl
        refine ⟨t, [_, _], rfl, Same.seqTT si qt, rfl, _, _, rfl, _, _, rfl, rfl, rfl, _, rfl, _, rfl, ?_⟩
        have us := unheldTo_succ (ms := ms) (hl := hl) hsl
        have ul : (unheldTo ms hl sl i).length ≤ 20 := by
          unfold unheldTo unheldL
          rw [List.length_map]
          have := List.length_filter_le (fun p : Int × Bool => !p.2) (sl.take i)
          rw [List.length_take] at this
          omega
        generalize sl[i] = p at us qt
        obtain ⟨x, d⟩ := p
        cases d with
        | true =>
          refine iteF ⟨?_, nD', si⟩
          rw [us, if_pos rfl, List.append_nil]
          exact LD
        | false =>
          refine iteT ⟨_, rfl, _, rfl, a, ms, x, rfl, Same.seqTT si ta1, M, fun D2 H5 s5 n5 T5 => ⟨D2, rfl, ?_⟩⟩
          obtain ⟨ts, e5, lt5, at5⟩ := T5.ex
          refine ⟨⟨_, lstOf e5⟩, fun G nG => ?_⟩
          refine lc_list (K := K) (a := D2) (xs := ts.map V.ref) (fun j Hj => TupsAt K Hj G (((marksL ms x).take j).filter fun z => decide (z ∉ hl)) ∧ Same H5 Hj) ⟨TupsAt.nil upd_same, same_upd nG⟩ (fun j Hj _ ⟨_, sj⟩ => lstOf (sj _ _ e5)) ?_ ?_
          · rintro j y Hj hj ⟨TG, sj⟩
            rw [List.getElem?_map] at hj
            obtain ⟨tz, htz, rfl⟩ := Option.map_eq_some_iff.mp hj
            have jl := (List.getElem?_eq_some_iff.mp htz).1
            obtain ⟨z, hz⟩ : ∃ z, (marksL ms x)[j]? = some z := ⟨_, List.getElem?_eq_getElem (by omega)⟩
            have sq := Same.seqTT sj (at5 j tz z htz hz)
            have T1j := ((T1.stay (si.trans s5)).stay sj)
            refine ⟨rfl, _, rfl, _, rfl, tD z, hl.map tD, dpTup sq, T1j.dp, (okD.tup (okInts _)).shaped (by decide), okTupsS _, _, rfl, ?_⟩
            show if (!((hl.map tD).any fun y => PyData.eqv y (tD z))) = true then _ else _
            rw [inTup, ← decide_not]
            refine ite2 (fun e => ?_) (fun e => ?_)
            · obtain ⟨us', eu, lu, Tn⟩ := TG.push sq
              refine ⟨_, rfl, _, eu, ?_, ?_, samePut sj nG⟩
              · have := List.length_filter_le (fun z => decide (z ∉ hl)) ((marksL ms x).take j)
                rw [List.length_take] at this
                have m4 := M.four
                have ml : (marksL ms x).length = ms.length := by
                  unfold marksL
                  rw [List.length_map, List.length_range]
                rw [List.length_map, lu]
                exact sizeLt (by omega)
              · rw [takeFilter hz, if_pos e]
                exact Tn
            · refine ⟨?_, sj⟩
              rw [takeFilter hz, if_neg e, List.append_nil]
              exact TG
          · rintro Hj ⟨TG, sj⟩
            rw [List.length_map, lt5, List.take_length] at TG
            have s5j := s5.trans sj
            have LDj := LD.stay s5j
            have GD : G ≠ D := fun z => by
              obtain ⟨as_, e, _⟩ := LD.ex
              have := s5 _ _ e
              rw [z, this] at nG
              cases nG
            obtain ⟨as_, ea, la, LN⟩ := LDj.push TG GD fun as' e hm => nD' as' (by
              obtain ⟨as2, e2, _⟩ := LD.ex
              have e3 := s5j _ _ e2
              rw [e] at e3
              have : as'.map V.ref = as2.map V.ref := HO.lst.inj (Option.some.inj e3)
              rw [e2, this]) hm
            refine ⟨_, ea, ?_, ?_, ?_, samePut (si.trans s5j) nD⟩
            · rw [List.length_map, la]
              exact sizeLt (by omega)
            · rw [us, if_neg Bool.false_ne_true]
              exact LN
            · intro as' e hm
              rw [upd_same] at e
              have e4 : as_.map V.ref ++ [V.ref G] = as'.map V.ref := HO.lst.inj (Option.some.inj e)
              have hm' : V.ref D ∈ as'.map V.ref := List.mem_map.mpr ⟨D, hm, rfl⟩
              rw [← e4] at hm'
              rcases List.mem_append.mp hm' with h | h
              · obtain ⟨c, hc, ec⟩ := List.mem_map.mp h
                cases ec
                obtain ⟨as2, e2, _⟩ := LD.ex
                have e3 := s5j _ _ e2
                rw [ea] at e3
                have : as_.map V.ref = as2.map V.ref := HO.lst.inj (Option.some.inj e3)
                rw [(List.map_inj_right (fun x y h => V.ref.inj h)).mp this] at hc
                exact nD' as2 e2 hc
              · rw [List.mem_singleton] at h
                cases h
                exact GD rfl
      · rintro Hi ⟨LD, nD', si⟩
        rw [nx] at LD
        refine q D hl Hi (s1.trans si) ?_ ?_ HI
        · exact s1.free (by exact nD)
        · have : unheldTo ms hl sl sl.length = unheldL ms hl sl := by
            unfold unheldTo
            rw [List.take_length]
          rw [← this]
          exact LD
end

end R
namespace R
open PySem PySem.Spec PyProof.Rows L2
/-! ## rows, and all marks -/
/-- how many rows of T places hold all of hl and none of the others whole -/
def rowsW (T : Nat) (hl : List (List Int)) : List (List (List Int)) → Int
  | [] => 2 ^ (T - hl.length)
  | u :: us => rowsW T hl us - rowsW T (hl ++ u.filter fun z => decide (z ∉ hl)) us
structure RowsIn (U : List (List Int)) (hl : List (List Int)) (ul : List (List (List Int))) : Prop where
  nd : hl.Nodup
  sub : ∀ z ∈ hl, z ∈ U
  each : ∀ u ∈ ul, u.Nodup ∧ ∀ z ∈ u, z ∈ U
theorem RowsIn.len {U hl : List (List Int)} {ul : List (List (List Int))} (h : RowsIn U hl ul) : hl.length ≤ U.length := sub_len h.nd h.sub
theorem RowsIn.tail {U hl : List (List Int)} {u : List (List Int)} {ul : List (List (List Int))} (h : RowsIn U hl (u :: ul)) : RowsIn U hl ul := ⟨h.nd, h.sub, fun v hv => h.each v (List.mem_cons_of_mem _ hv)⟩
theorem RowsIn.more {U hl : List (List Int)} {u : List (List Int)} {ul : List (List (List Int))} (h : RowsIn U hl (u :: ul)) : RowsIn U (hl ++ u.filter fun z => decide (z ∉ hl)) ul := by
  obtain ⟨u1, u2⟩ := h.each u List.mem_cons_self
  refine ⟨?_, fun z hz => ?_, h.tail.each⟩
  · rw [List.nodup_append]
    refine ⟨h.nd, u1.filter _, fun a ha b hb e => ?_⟩
    subst e
    exact of_decide_eq_true (List.mem_filter.mp hb).2 ha
  · rcases List.mem_append.mp hz with hz | hz
    · exact h.sub z hz
    · exact u2 z (List.mem_filter.mp hz).1
def uniL (ms : List Int) : List (List Int) := (List.range ms.length).flatMap fun i => (List.range (ms.getD i 1).toNat).map fun r => [((i : Nat) : Int), ((r : Nat) : Int)]
def uniTo (ms : List Int) (n : Nat) : List (List Int) := (List.range n).flatMap fun i => (List.range (ms.getD i 1).toNat).map fun r => [((i : Nat) : Int), ((r : Nat) : Int)]
theorem uniTo_succ (ms : List Int) (n : Nat) : uniTo ms (n + 1) = uniTo ms n ++ (List.range (ms.getD n 1).toNat).map fun r => [((n : Nat) : Int), ((r : Nat) : Int)] := by
  unfold uniTo
  rw [List.range_succ, List.flatMap_append]
  simp
theorem uniTo_len {ms : List Int} (h : ∀ m ∈ ms, 1 ≤ m ∧ m ≤ 30) : ∀ n, n ≤ ms.length → ((uniTo ms n).length : Int) = (ms.take n).sum ∧ (uniTo ms n).length ≤ 30 * n
  | 0, _ => ⟨rfl, Nat.zero_le _⟩
  | n + 1, hn => by
    obtain ⟨h1, h2⟩ := uniTo_len h n (by omega)
    have hm : ms[n]? = some ms[n] := List.getElem?_eq_getElem (by omega)
    have mm := h _ (List.getElem_mem (show n < ms.length by omega))
    have e : ms.getD n 1 = ms[n] := by rw [List.getD_eq_getElem?_getD, hm]; rfl
    rw [uniTo_succ, List.length_append, List.length_map, List.length_range, takeSucc hm, List.sum_append, e]
    refine ⟨?_, by omega⟩
    rw [Int.natCast_add, h1]
    simp
    omega
theorem uni_len {ms : List Int} (M : MOk ms) : ((uniL ms).length : Int) = ms.sum ∧ (uniL ms).length ≤ 120 := by
  obtain ⟨h1, h2⟩ := uniTo_len M.mod ms.length (Nat.le_refl _)
  rw [List.take_length] at h1
  have := M.four
  exact ⟨h1, Nat.le_trans h2 (by omega)⟩
theorem mem_uni {ms : List Int} {z : List Int} : z ∈ uniL ms ↔ ∃ (i : Nat) (r : Nat), z = [(i : Int), (r : Int)] ∧ i < ms.length ∧ r < (ms.getD i 1).toNat := by
  unfold uniL
  rw [List.mem_flatMap]
  constructor
  · rintro ⟨i, hi, h⟩
    obtain ⟨r, hr, rfl⟩ := List.mem_map.mp h
    exact ⟨i, r, rfl, List.mem_range.mp hi, List.mem_range.mp hr⟩
  · rintro ⟨i, r, rfl, hi, hr⟩
    exact ⟨i, List.mem_range.mpr hi, List.mem_map.mpr ⟨r, List.mem_range.mpr hr, rfl⟩⟩
theorem marks_uni {ms : List Int} (M : MOk ms) {x : Int} {z : List Int} (h : z ∈ marksL ms x) : z ∈ uniL ms := by
  obtain ⟨i, r, rfl, il, er⟩ := marks_two z h
  have mi := M.mod (ms.getD i 1) (by rw [List.getD_eq_getElem?_getD, List.getElem?_eq_getElem il]; exact List.getElem_mem il)
  have r0 := Int.emod_nonneg x (show ms.getD i 1 ≠ 0 by omega)
  have r1 := Int.emod_lt_of_pos x (show (0 : Int) < ms.getD i 1 by omega)
  exact mem_uni.mpr ⟨i, r.toNat, by rw [Int.toNat_of_nonneg (by omega)], il, by omega⟩
theorem uni_nodup (ms : List Int) : (uniL ms).Nodup := by
  unfold uniL
  rw [List.nodup_iff_pairwise_ne, List.pairwise_flatMap]
  refine ⟨fun i _ => ?_, List.pairwise_lt_range.imp fun {i j} h x hx y hy e => ?_⟩
  · rw [List.pairwise_map]
    refine List.pairwise_lt_range.imp fun {a b} h e => ?_
    have := (List.cons.inj (List.cons.inj e).2).1
    omega
  · obtain ⟨a, _, rfl⟩ := List.mem_map.mp hx
    obtain ⟨b, _, rfl⟩ := List.mem_map.mp hy
    have := (List.cons.inj e).1
    omega
theorem rows_in {ms : List Int} (M : MOk ms) {sl : List (Int × Bool)} {hl hl2 : List (List Int)} (h : HeldIs ms sl hl) : RowsIn (uniL ms) hl (unheldL ms hl2 sl) := by
  refine ⟨h.nd, fun z hz => ?_, fun u hu => ?_⟩
  · obtain ⟨p, _, _, hz⟩ := (h.mem z).mp hz
    exact marks_uni M hz
  · obtain ⟨p, _, rfl⟩ := List.mem_map.mp hu
    exact ⟨(marks_nodup ms p.1).filter _, fun z hz => marks_uni M (List.mem_filter.mp hz).1⟩
theorem eqvLLnil (d : PyData) (ds : List PyData) : PyData.eqv (.list (d :: ds)) (.list []) = false := by
  rw [PyData.eqv, PyData.eqvAll]
theorem dpLL {K : PySem.W.Frag} {H : Hp} : ∀ {as_ : List Addr} {ul : List (List (List Int))}, as_.length = ul.length → (∀ (i : Nat) b u, as_[i]? = some b → ul[i]? = some u → TupsAt K H b u) → DpAll K H (as_.map V.ref) (ul.map fun u => .list (u.map tD))
  | [], [], _, _ => .nil
  | [], _ :: _, h, _ => by cases h
  | _ :: _, [], h, _ => by cases h
  | b :: as_, u :: ul, h, f => .cons (f 0 b u rfl rfl).dp (dpLL (Nat.succ.inj h) fun i c v x y => f (i + 1) c v x y)
theorem LLAt.dp {K : PySem.W.Frag} {H : Hp} {D : Addr} {ul : List (List (List Int))} (h : LLAt K H D ul) : Dp K H (.ref D) (.list (ul.map fun u => .list (u.map tD))) := by
  obtain ⟨as_, e, n, f⟩ := h.ex
  exact .lst (lstOf e) (dpLL n f)
theorem okLL (ul : List (List (List Int))) : okD 3 (.list (ul.map fun u => .list (u.map tD))) := okD.lst fun d hd => by
  obtain ⟨u, _, rfl⟩ := List.mem_map.mp hd
  exact okTups u
theorem upN (p : Nat → Bool) (m : Nat) : (((List.range m).filter p).map fun (r : Nat) => (r : Int)).Pairwise (· < ·) := by
  rw [List.pairwise_map]
  exact (List.pairwise_lt_range.filter p).imp fun h => by omega
theorem asc_same : ∀ {xs ys : List Int}, xs.Pairwise (· < ·) → ys.Pairwise (· < ·) → (∀ r, r ∈ xs ↔ r ∈ ys) → xs = ys
  | [], [], _, _, _ => rfl
  | [], y :: ys, _, _, h => nomatch (h y).mpr List.mem_cons_self
  | x :: xs, [], _, _, h => nomatch (h x).mp List.mem_cons_self
  | x :: xs, y :: ys, hx, hy, h => by
    obtain ⟨x1, x2⟩ := List.pairwise_cons.mp hx
    obtain ⟨y1, y2⟩ := List.pairwise_cons.mp hy
    have e : x = y := by
      rcases List.mem_cons.mp ((h x).mp List.mem_cons_self) with e | hm
      · exact e
      · rcases List.mem_cons.mp ((h y).mpr List.mem_cons_self) with e | hn
        · exact e.symm
        · have := y1 x hm
          have := x1 y hn
          omega
    subst e
    refine congrArg _ (asc_same x2 y2 fun r => ⟨fun hr => ?_, fun hr => ?_⟩)
    · rcases List.mem_cons.mp ((h r).mp (List.mem_cons_of_mem _ hr)) with rfl | q
      · exact absurd (x1 _ hr) (Int.lt_irrefl _)
      · exact q
    · rcases List.mem_cons.mp ((h r).mpr (List.mem_cons_of_mem _ hr)) with rfl | q
      · exact absurd (y1 _ hr) (Int.lt_irrefl _)
      · exact q

end R
namespace R
open PySem PySem.Spec PyProof.Rows L2
/-! ## rows with -/
def sp_rows (K : PySem.W.Frag) (k : Nat) : Sp := fun vs H Q _ => ∃ (a b : Addr) (U hl : List (List Int)) (ul : List (List (List Int))), vs = [.int (U.length : Nat), .ref a, .ref b] ∧ TupsAt K H a hl ∧ LLAt K H b ul ∧ ul.length < k ∧ U.length ≤ 120 ∧ RowsIn U hl ul ∧ ∀ H', Same H H' → Q (.int (rowsW U.length hl ul)) H'
theorem cutDrop1 (x : V) (xs : List V) : cutV (x :: xs) (some (1 : Int)) none = xs := by
  unfold cutV
  rw [HT.sIx_none, show (some (1 : Int)) = some ((1 : Nat) : Int) from rfl, HT.sIx_nat, Nat.min_eq_left (by rw [List.length_cons]; omega), List.take_of_length_le (by rw [List.length_drop]; exact Nat.le_refl _)]
  rfl
section
variable {P : Program} {w : World} {K : PySem.W.Frag} {mg : Str → Option Value} {base : Heap}
set_option maxHeartbeats 1600000 in
theorem ok_rows (T : Txt K mg) : ∀ k, FnOk P w K mg base CX0 (2 + k) T.f_p_rows_with T.fd_p_rows_with ["total", "held", "unheld"] (sp_rows K k)
  | 0 => by
    refine T.F_p_rows_with.ok sc_p_rows_with (fun vs H Q E h => ?_) (fun cdv A outer s H vs Q E hr h => ?_)
    · obtain ⟨a, b, U, hl, ul, rfl, _⟩ := h
      rfl
    · obtain ⟨a, b, U, hl, ul, rfl, _, _, h, _⟩ := h
      exact absurd h (Nat.not_lt_zero _)
  | k + 1 => by
    have ih := ok_rows T k
    refine T.F_p_rows_with.ok sc_p_rows_with (fun vs H Q E h => ?_) (fun cdv A outer s H vs Q E hr h => ?_)
    · obtain ⟨a, b, U, hl, ul, rfl, _⟩ := h
      rfl
    · obtain ⟨a, b, U, hl, ul, rfl, ta, tb, lk, u120, R, q⟩ := h
      refine ⟨_, (pss_cons (ps_if (pt_cmpR (op_eqD hr.units) (pv 2) (pe_lst pa_nil) (nomark _)) (pss_one (ps_ret (pe_op op_oneShl pe_int (pe_op op_sub (pv 0) (pe_callB call_len_seq (by rfl) T.z_len (by decide +kernel) (pa_cons (pv 1) pa_nil)))))) pss_nil)
      (pss_cons (ps_set (i := 3) sc_p_rows_with.nd rfl (by first | exact .inl rfl | exact .inr rfl) (pe_op op_cat (pv 1) (pe_lc (own := [("mark", 4)]) rfl sc_p_rows_with.nd (pi_list (pe_ix (r := rIxL K) ix_list (pv 2) pe_int (fun _ _ => rfl))) (blkOk_by (N := ["total", "held", "unheld", "more", "mark"]) (sc := defScope s_p_rows_with) (by decide +kernel)) (fun _ _ _ _ _ => (pg_name (i := 4) sc_p_rows_with.nd rfl (by first | exact .inl rfl | exact .inr rfl))) (fun _ _ _ _ _ => (pts_one (pt_cmpR (r := rNotInD K) (op_notInD (un65 hr)) (pv 4) (pv 1) (by rfl)))) (fun _ _ _ _ _ => (pv 4)))))
      (pss_one (ps_ret (pe_op op_sub (pe_call ih (hr.mono (Nat.le_refl _)) (by rfl) T.g_p_rows_with T.F_p_rows_with.kp T.b_p_rows_with .nil pass0 (pa_cons (pv 0) (pa_cons (pv 1) (pa_cons (pe_slice sl_list (pv 2) (po_some pe_int) po_none) pa_nil)))) (pe_call ih (hr.mono (Nat.le_refl _)) (by rfl) T.g_p_rows_with T.F_p_rows_with.kp T.b_p_rows_with .nil pass0 (pa_cons (pv 0) (pa_cons (pv 3) (pa_cons (pe_slice sl_list (pv 2) (po_some pe_int) po_none) pa_nil))))))))), ?_⟩
      have hlen := R.len
      refine ⟨_, rfl, Nat.zero_le _, fun e0 ne0 => ?_⟩
      have s1 := same_upd ne0 (o := .lst [])
      refine ⟨_, _, (tb.stay s1).dp, .lst (lstOf upd_same) .nil, (okLL ul).shaped (by decide), by decide, _, rfl, ?_⟩
      have ta1 := ta.stay s1
      have tb1 := tb.stay s1
      generalize upd H e0 (.lst []) = H1 at s1 ta1 tb1 ⊢
      cases ul with
      | nil =>
        obtain ⟨ts, ea, la, _⟩ := ta1.ex
        refine iteT ⟨_, rfl, _, rfl, a, _, rfl, .inl (lstOf ea), _, _, rfl, rfl, U.length - hl.length, rfl, ?_, by omega, ?_⟩
        · rw [List.length_map, la]
          exact congrArg V.int (by omega)
        · exact q _ s1
      | cons u us =>
        rw [show PyData.eqv (.list ((u :: us).map fun u => PyData.list (u.map tD))) (.list []) = false from eqvLLnil _ _]
        obtain ⟨as_, eb, lb, fb⟩ := tb1.ex
        obtain ⟨ts, ea, la, fa⟩ := ta1.ex
        obtain ⟨b0, as', rfl⟩ : ∃ b0 as', as_ = b0 :: as' := by
          cases as_ with
          | nil => cases lb
          | cons x y => exact ⟨x, y, rfl⟩
        have tu := fb 0 b0 u rfl rfl
        obtain ⟨us', eu, lu, fu⟩ := tu.ex
        obtain ⟨u1, u2⟩ := R.each u List.mem_cons_self
        have ul := sub_len u1 u2
        refine iteF ⟨_, rfl, _, rfl, b, _, _, _, rfl, rfl, lstOf eb, atI_nat (j := 0) rfl, b0, rfl, ⟨_, lstOf eu⟩, fun G nG => ?_⟩
        refine lc_list (K := K) (a := b0) (xs := us'.map V.ref) (fun j Hj => TupsAt K Hj G ((u.take j).filter fun z => decide (z ∉ hl)) ∧ Same H1 Hj) ⟨TupsAt.nil upd_same, same_upd nG⟩ (fun j Hj _ ⟨_, sj⟩ => lstOf (sj _ _ eu)) ?_ ?_
        · rintro j y Hj hj ⟨TG, sj⟩
          rw [List.getElem?_map] at hj
          obtain ⟨tz, htz, rfl⟩ := Option.map_eq_some_iff.mp hj
          have jl := (List.getElem?_eq_some_iff.mp htz).1
          obtain ⟨z, hz⟩ : ∃ z, u[j]? = some z := ⟨_, List.getElem?_eq_getElem (by omega)⟩
          have sq := Same.seqTT sj (fu j tz z htz hz)
          refine ⟨rfl, _, rfl, _, rfl, tD z, hl.map tD, dpTup sq, (ta1.stay sj).dp, (okD.tup (okInts _)).shaped (by decide), okTupsS _, _, rfl, ?_⟩
          show if (!((hl.map tD).any fun y => PyData.eqv y (tD z))) = true then _ else _
          rw [inTup, ← decide_not]
          refine ite2 (fun e => ?_) (fun e => ?_)
          · obtain ⟨us2, eu2, lu2, Tn⟩ := TG.push sq
            refine ⟨_, rfl, _, eu2, ?_, ?_, samePut sj nG⟩
            · have := List.length_filter_le (fun z => decide (z ∉ hl)) (u.take j)
              rw [List.length_take] at this
              rw [List.length_map, lu2]
              exact sizeLt (by omega)
            · rw [takeFilter hz, if_pos e]
              exact Tn
          · refine ⟨?_, sj⟩
            rw [takeFilter hz, if_neg e, List.append_nil]
            exact TG
        · rintro H2 ⟨TG, s2⟩
          rw [List.length_map, lu, List.take_length] at TG
          obtain ⟨gs, eg, lg, fg⟩ := TG.ex
          have ea2 := s2 _ _ ea
          refine ⟨a, G, _, _, rfl, rfl, ea2, eg, ?_, fun l2 nl2 => ?_⟩
          · have := List.length_filter_le (fun z => decide (z ∉ hl)) u
            rw [List.length_map, List.length_map, la, lg]
            exact sizeOk (by omega)
          have s3 := same_upd nl2 (o := .lst (ts.map V.ref ++ gs.map V.ref))
          have TM : TupsAt K (upd H2 l2 (.lst (ts.map V.ref ++ gs.map V.ref))) l2 (hl ++ u.filter fun z => decide (z ∉ hl)) := by
            refine ⟨ts ++ gs, by rw [upd_same, List.map_append], by rw [List.length_append, List.length_append, la, lg], fun i t l h1 h2 => ?_⟩
            by_cases hi : i < ts.length
            · rw [List.getElem?_append_left hi] at h1
              rw [List.getElem?_append_left (by omega)] at h2
              exact Same.seqTT (s2.trans s3) (fa i t l h1 h2)
            · rw [List.getElem?_append_right (by omega)] at h1
              rw [List.getElem?_append_right (by omega), ← la] at h2
              exact Same.seqTT s3 (fg _ t l h1 h2)
          generalize upd H2 l2 (.lst (ts.map V.ref ++ gs.map V.ref)) = H3 at s3 TM ⊢
          have s13 := s2.trans s3
          have cut : ∀ {Hk : Hp} {p1 : Addr}, Same H1 Hk → Hk p1 = none → LLAt K (upd Hk p1 (.lst (cutV ((b0 :: as').map V.ref) (some (1 : Int)) none))) p1 us := fun {Hk p1} sk n1 => by
            refine ⟨as', by rw [upd_same, List.map_cons, cutDrop1], Nat.succ.inj lb, fun i c v x y => ?_⟩
            exact (fb (i + 1) c v x y).stay (sk.trans (same_upd n1))
          refine ⟨_, rfl, _, rfl, _, rfl, (1 : Int), rfl, ?_⟩
          simp only [tNoPart]
          refine ⟨b, _, rfl, lstOf (s13 _ _ eb), fun p1 n1 => ?_⟩
          have L1 := cut s13 n1
          have sp1 := same_upd n1 (o := .lst (cutV ((b0 :: as').map V.ref) (some (1 : Int)) none))
          have lk' : us.length < k := by
            rw [List.length_cons] at lk
            omega
          refine ⟨a, p1, U, hl, us, rfl, (ta1.stay s13).stay sp1, L1, lk', u120, R.tail, fun H4 s4 => ?_⟩
          have s14 := (s13.trans sp1).trans s4
          refine ⟨_, rfl, _, rfl, _, rfl, (1 : Int), rfl, ?_⟩
          simp only [tNoPart]
          refine ⟨b, _, rfl, lstOf (s14 _ _ eb), fun p2 n2 => ?_⟩
          have L2' := cut s14 n2
          have sp2 := same_upd n2 (o := .lst (cutV ((b0 :: as').map V.ref) (some (1 : Int)) none))
          refine ⟨l2, p2, U, _, us, rfl, ((TM.stay sp1).stay s4).stay sp2, L2', lk', u120, R.more, fun H5 s5 => ?_⟩
          exact ⟨_, _, rfl, rfl, q _ ((s1.trans s14).trans (sp2.trans s5))⟩
theorem ok_p_rows_with (T : Txt K mg) : FnOk P w K mg base CX0 12 T.f_p_rows_with T.fd_p_rows_with ["total", "held", "unheld"] (sp_rows K 10) := ok_rows T 10
end

end R
namespace R
open PySem PySem.Spec PyProof.Rows L2
/-! ## many_lots -/
def sp_p_many_lots (K : PySem.W.Frag) : Sp := fun vs H Q _ => ∃ (a b : Addr) (ms : List Int) (sl : List (Int × Bool)) (U : List (List Int)), vs = [.ref a, .ref b] ∧ SqT K H a (ms.map V.int) ∧ MOk ms ∧ SeenAt K H b sl ∧ SOk sl ∧ U.length ≤ 60 ∧ (∀ p ∈ sl, p.2 = true → ∀ z ∈ marksL ms p.1, z ∈ U) ∧
  ∀ hl hl2 H', Same H H' → HeldIs ms sl hl → HeldIs ms sl hl2 → Q (.int (rowsW (uniL ms).length hl (unheldL ms hl2 sl))) H'
section
variable {P : Program} {w : World} {K : PySem.W.Frag} {mg : Str → Option Value} {base : Heap}
theorem ok_p_many_lots (T : Txt K mg) : FnOk P w K mg base CX0 13 T.f_p_many_lots T.fd_p_many_lots ["moduli", "seen"] (sp_p_many_lots K) := by
  refine T.F_p_many_lots.ok sc_p_many_lots (fun vs H Q E h => ?_) (fun cdv A outer s H vs Q E hr h => ?_)
  · obtain ⟨a, b, ms, sl, U, rfl, _⟩ := h
    rfl
  · obtain ⟨a, b, ms, sl, U, rfl, ta, M, S, O, u60, hU, q⟩ := h
    refine ⟨_, (pss_cons (ps_expr (pe_call (ok_p_check_moduli T) (hr.mono (by decide)) (by rfl) T.g_p_check_moduli T.F_p_check_moduli.kp T.b_p_check_moduli .nil pass0 (pa_cons (pv 0) pa_nil)))
      (pss_cons (ps_expr (pe_call (ok_p_check_seen T) (hr.mono (by decide)) (by rfl) T.g_p_check_seen T.F_p_check_seen.kp T.b_p_check_seen .nil pass0 (pa_cons (pv 1) pa_nil)))
      (pss_one (ps_ret (pe_call (ok_p_rows_with T) (hr.mono (by decide)) (by rfl) T.g_p_rows_with T.F_p_rows_with.kp T.b_p_rows_with .nil pass0 (pa_cons (pe_callB (cr_sumT rfl) (by rfl) T.z_sum (by decide +kernel) (pa_cons (pv 0) pa_nil)) (pa_cons (pe_call (ok_p_held_marks T) (hr.mono (by decide)) (by rfl) T.g_p_held_marks T.F_p_held_marks.kp T.b_p_held_marks .nil pass0 (pa_cons (pv 0) (pa_cons (pv 1) pa_nil))) (pa_cons (pe_call (ok_p_unheld_marks T) (hr.mono (by decide)) (by rfl) T.g_p_unheld_marks T.F_p_unheld_marks.kp T.b_p_unheld_marks .nil pass0 (pa_cons (pv 0) (pa_cons (pv 1) pa_nil))) pa_nil)))))))), ?_⟩
    have ul := uni_len M
    refine ⟨_, rfl, a, ms, rfl, ta, M, fun H1 s1 => ?_⟩
    refine ⟨_, rfl, b, sl, rfl, S.stay s1, O, fun H2 s2 => ?_⟩
    have s12 := s1.trans s2
    refine ⟨_, rfl, a, ms, rfl, Same.seqTT s12 ta, _, rfl, _, rfl, a, b, ms, sl, U, rfl, Same.seqTT s12 ta, M, S.stay s12, u60, hU, fun D hl H3 s3 n3 T3 h3 => ?_⟩
    have s13 := s12.trans s3
    refine ⟨_, rfl, _, rfl, a, b, ms, sl, U, rfl, Same.seqTT s13 ta, M, S.stay s13, O.few, u60, hU, fun D2 hl2 H4 s4 n4 L4 h4 => ?_⟩
    have ulen : (unheldL ms hl2 sl).length < 10 := by
      have := O.unfit sl.length
      unfold unfitTo at this
      rw [List.take_length] at this
      unfold unheldL
      rw [List.length_map]
      omega
    refine ⟨D, D2, uniL ms, hl, unheldL ms hl2 sl, by rw [← ul.1]; rfl, T3.stay s4, L4, ulen, ul.2, rows_in M h3, fun H5 s5 => q hl hl2 _ (s13.trans (s4.trans s5)) h3 h4⟩
end

end R
namespace R
open PySem PySem.Spec PyProof.Rows L2
/-! ## set(xs) of a list of ints, sorted(set(xs)) -/
/-- how many members such a set may have -/
def Capped (w : World) (ns : List Int) (cap : Nat) : Prop := ∀ (i : Nat) (h : Heap) (a : Addr) (c : Nat), SetR w h a (fun j => decide (j ∈ ns.take i)) c → c ≤ cap
theorem nodup_le : ∀ {xs ys : List Int}, xs.Nodup → (∀ x ∈ xs, x ∈ ys) → xs.length ≤ ys.length
  | [], _, _, _ => Nat.zero_le _
  | x :: xs, ys, nd, sub => by
    obtain ⟨n1, n2⟩ := List.nodup_cons.mp nd
    have hx : x ∈ ys := sub x List.mem_cons_self
    have e := nodup_le (ys := ys.erase x) n2 fun z hz => (List.mem_erase_of_ne fun q => n1 (by rw [← q]; exact hz)).mpr (sub z (List.mem_cons_of_mem _ hz))
    rw [List.length_erase_of_mem hx] at e
    have := List.length_pos_of_mem hx
    show xs.length + 1 ≤ ys.length
    omega
theorem capBy {w : World} {ns ys : List Int} (sub : ∀ x ∈ ns, x ∈ ys) : Capped w ns ys.length := by
  rintro i h a c ⟨o, es, ep, t, _, _, _, _, nd, mem, _, _, cnt, _⟩
  have e := nodup_le nd fun x hx => sub x (List.mem_of_mem_take (of_decide_eq_true ((mem x).mpr hx)))
  rw [List.length_map, Array.length_toList, cnt] at e
  exact e
theorem capRange {w : World} {ns : List Int} {m : Nat} (h : ∀ x ∈ ns, 0 ≤ x ∧ x < (m : Int)) : Capped w ns m := by
  have e := capBy (w := w) (ns := ns) (ys := (List.range m).map fun i : Nat => (i : Int)) fun x hx => by
    obtain ⟨h1, h2⟩ := h x hx
    exact List.mem_map.mpr ⟨x.toNat, List.mem_range.mpr (by omega), by omega⟩
  rw [List.length_map, List.length_range] at e
  exact e
theorem capLen {w : World} (ns : List Int) : Capped w ns ns.length := capBy fun _ h => h
/-- the walk of set.update over ints -/
theorem upd_ints {P : Program} {w : World} {A : Around} {I : Addr} {fp wr : List Addr} {G : Array GenState → Array GenState → Prop} {n : Nat} {Pv : Nat → Value → Prop} {St : Nat → Shared → Prop} {R : Result → Shared → Prop}
    (W : WalksS P w A.in1 I fp wr G n Pv St) (S : Addr) (far : S ∉ fp) (ns : List Int) (hn : n = ns.length) (cap : Nat) (few : cap + 1 < scanBound) (cp : Capped w ns cap) (val : ∀ i v, Pv i v → ∃ k t, ns[i]? = some k ∧ v = .int k t) :
    ∀ (k i : Nat) (s : Shared), n - i = k → i ≤ n → St i s → (∃ c, SetR w s.heap S (fun j => decide (j ∈ ns.take i)) c) →
      (∀ s' c, Moved (S :: wr) G s s' → c ≤ cap → SetR w s'.heap S (fun j => decide (j ∈ ns)) c → R (.ok (.ret .none)) s') →
      codeAny (model P w) A (.builtin "set.update.loop" ⟨[.ref S, .ref I], []⟩) R s := by
  have farW : S ∉ wr := fun z => far (W.sub _ z)
  have more : ∀ b ∈ wr, b ∈ S :: wr := fun b z => List.mem_cons_of_mem _ z
  intro k
  induction k with
  | zero =>
    rintro i s ek le st ⟨c, hS⟩ hR
    obtain rfl : i = n := by omega
    refine codeAny_builtin F.entry_set_update_loop ?_
    rw [Around.under_plainId F.plain_set_update_loop _]
    show wpAny _ A.in1 (pyNext (.ref I) >>= _) _ _ s
    refine wpAny_bind (W.done s _ _ st fun s' mv => ?_)
    show wpAny _ A.in1 (ret Value.none) _ _ s'
    rw [List.take_of_length_le (by omega)] at hS
    have hS' := hS.at (h' := s'.heap) fun o e => mv.heap S o farW e
    exact wpAny_pure (hR s' c (mv.mono more) (cp ns.length _ S c (by rw [List.take_length]; exact hS')) hS')
  | succ k ih =>
    rintro i s ek le st ⟨c, hS⟩ hR
    have lt : i < n := by omega
    refine codeAny_builtin F.entry_set_update_loop ?_
    rw [Around.under_plainId F.plain_set_update_loop _]
    show wpAny _ A.in1 (pyNext (.ref I) >>= _) _ _ s
    refine wpAny_bind (W.item i s _ _ lt st fun v s' pv st' mv => ?_)
    obtain ⟨z, t, hz, rfl⟩ := val i v pv
    have hS1 : SetR w s'.heap S (fun j => decide (j ∈ ns.take i)) c := hS.at fun o e => mv.heap S o farW e
    have hc := cp i _ S c hS1
    show wpAny _ A.in1 (holding [Value.int z t] (setAdd S (.int z t)) >>= _) _ _ s'
    refine wpAny_bind (wpAny_holding ?_)
    unfold setAdd
    refine wpAny_holding (wpAny_bind ((intKind P w).pyHash (k := z) (intKind_is _ _ _ _) ?_))
    refine setR_add_hashed (s := { s' with toks := s'.toks + 1 }) hS1 (by omega) fun h' sb hS2 => ?_
    have hS3 := hS2.congr (S' := fun j => decide (j ∈ ns.take (i + 1))) fun j => by
      rw [List.take_add_one, hz]
      simp [List.mem_append]
    refine wpAny_pure ⟨plainId_quiet F.plain_set_update_loop _, ih (i + 1) _ (by omega) lt (W.frame _ s' _ _ st' (Nat.le_succ _) fun b hb o e => ?_) ⟨_, hS3⟩ fun s2 c2 mv2 hc2 hS4 => ?_⟩
    · rw [sb.2 b (fun q : b = S => far (by rw [← q]; exact hb))]; exact e
    · refine hR s2 c2 (Moved.trans W.gtrans ((mv.mono more).then_heap (Nat.le_succ _) fun b o hb e => ?_) mv2) hc2 hS4
      rw [sb.2 b (fun q : b = S => hb (by rw [q]; exact List.mem_cons_self))]; exact e
set_option maxHeartbeats 8000000 in
theorem call_setG {P : Program} {w : World} {A : Around} {E : Value → Shared → Prop} {s : Shared} {l : Addr} {items : Array Value} (ns : List Int) {Q : Value → Shared → Prop} (hh : A.handled = none) (hl : s.heap.IsList l items)
    (hit : IntsAre items.toList ns) (cap : Nat) (few : cap + 1 < scanBound) (cp : Capped w ns cap)
    (h : ∀ (h' : Heap) (tk c : Nat), c ≤ cap → SetR w h' s.heap.objs.size (fun j => decide (j ∈ ns)) c → (∀ b o, s.heap.get? b = some o → h'.get? b = some o) → Q (.ref s.heap.objs.size) { s with heap := h', toks := tk }) :
    wpAny (model P w) A (call (.type "set") [.ref l]) Q E s := by
  have size_ : items.size = ns.length := Array.length_toList.symm.trans (IntsAre.length hit)
  obtain ⟨c, tl, hmro⟩ := F.called_set.mro
  have m1 := F.called_set.made
  have m2 := F.called_set.sub
  refine wpAny_call (codeAny_of_tree (show wpAny _ _ (callAny (.type "set") _) _ _ _ from wpAny_pure ⟨Code.quiet_builtin _ (by decide +kernel), codeAny_builtin F.entry_type_call ?_⟩))
  rw [Around.under_plain (weight_type_call_type "set" [.ref l] []) rfl]
  have m3 := F.called_set.notType
  have m4 := F.called_set.canCreate
  have m5 := F.typeCall_set_1 (.ref l)
  repeat (any_goals (first | assumption | wp_step))
  refine codeAny_mono (code_set_led1 (.ref l) (E := E) (Q₁ := fun ob s1 => ob = .ref s.heap.objs.size ∧ s1 = { s with heap := s.heap.push (noSet w) }) ⟨rfl, rfl⟩) fun r s1 hr => ?_
  cases r with
  | error e => exact hr
  | ok fl =>
    cases fl with
    | ret ob =>
      obtain ⟨rfl, rfl⟩ := hr
      have gS : (s.heap.push (noSet w)).get? s.heap.objs.size = some (noSet w) := Heap.get?_push_size _ rfl
      have tS : Shared.TypeIs { s with heap := s.heap.push (noSet w) } (.ref s.heap.objs.size) "set" := ⟨_, gS, rfl⟩
      have m6 := F.called_set.init.lookup
      have m7 := F.called_set.init.bind (.ref s.heap.objs.size)
      repeat (any_goals (first | assumption | wp_step))
      refine codeAny_mono (codeAny_call_builtin (R := wants (fun r s2 => r = .none ∧ ∃ h' tk c, s2 = { s with heap := h', toks := tk } ∧ c ≤ cap ∧ SetR w h' s.heap.objs.size (fun j => decide (j ∈ ns)) c ∧ (∀ b o, s.heap.get? b = some o → h'.get? b = some o)) E)
        F.called_set.init.plain F.entry_set_init (check_set_init_1 tS ?_)) fun r2 s2 hr2 => ?_
      · obtain ⟨⟨oc, od, odt, osl⟩, gL, e1, nl, e2⟩ := hl
        dsimp only at e1 e2
        subst e1 e2
        have gL' : (s.heap.push (noSet w)).get? l = some { cls := .type "list", dict := od, data := .seq items nl, slots := osl } := Heap.get?_push_of_some _ gL
        have n1 := F.sub_list_set
        have n2 := F.sub_list_frozenset
        have n3 : (Value.type "list" == Value.type "dict") = false := by decide
        have lL : (s.heap.push (noSet w)).IsList l items := ⟨_, gL', rfl, nl, rfl⟩
        unfold Builtin.«set.__init__» noKeywords Builtin.Frozenset.updateFrom
        generalize iter_ : pyIter = PI
        wp_walk
        subst iter_
        refine wpAny_pyIter_list lL (wpAny_bind (wpAny_runValue ?_))
        have lt : l < s.heap.objs.size := Heap.lt_size gL
        have sz : (s.heap.push (noSet w)).objs.size = s.heap.objs.size + 1 := Heap.size_push ..
        have far : l ≠ (s.heap.push (noSet w)).objs.size := by rw [sz]; exact Nat.ne_of_lt (Nat.lt_succ_of_lt lt)
        have out : s.heap.objs.size ∉ [(s.heap.push (noSet w)).objs.size, l] := by
          rw [sz]
          simp only [List.mem_cons, List.not_mem_nil, or_false, not_or]
          exact ⟨Nat.ne_of_lt (Nat.lt_succ_self _), Nat.ne_of_gt lt⟩
        have val : ∀ (i : Nat) (v : Value), items[i]? = some v → ∃ k t, ns[i]? = some k ∧ v = .int k t := fun i v hv => by
          have hi : i < ns.length := size_ ▸ (Array.getElem?_eq_some_iff.mp hv).1
          obtain ⟨t, e⟩ := PyProof.Rows.IntsAre.int_at hit i v (by rw [Array.getElem?_toList]; exact hv)
          exact ⟨ns[i], t, List.getElem?_eq_getElem hi, by rw [e, List.getD_eq_getElem?_getD, List.getElem?_eq_getElem hi]; rfl⟩
        refine upd_ints ((Walks.list (A := A.in1.in1.in1) (by simp [hh]) _ l far items).toS) s.heap.objs.size out ns size_ cap few cp val (items.size - 0) 0 _ (by omega) (Nat.zero_le _)
          ⟨⟨_, Heap.get?_push_size _ rfl, rfl, rfl⟩, lL.push _⟩ ⟨0, setR_new_at (Heap.get?_push_of_some _ gS)⟩ fun s' c' mv hc' hS' => ?_
        obtain ⟨h', g2, d', tk', os'⟩ := s'
        obtain rfl : g2 = s.gens := mv.gens
        obtain rfl : d' = s.drawn := mv.drawn
        obtain rfl : os' = s.os := mv.os
        refine wpAny_pure (show wpAny _ _ (ret Value.none) _ _ _ from wpAny_pure ⟨rfl, h', tk', c', rfl, hc', hS', fun b o e => ?_⟩)
        have b0 : b < s.heap.objs.size := Heap.lt_size e
        refine mv.heap b o ?_ (Heap.get?_push_of_some _ (Heap.get?_push_of_some _ e))
        rw [sz]
        simp only [List.mem_cons, List.not_mem_nil, or_false, not_or]
        exact ⟨Nat.ne_of_lt b0, Nat.ne_of_lt (Nat.lt_succ_of_lt b0)⟩
      · cases r2 with
        | error e => exact hr2
        | ok fl2 =>
          cases fl2 with
          | ret r =>
            obtain ⟨rfl, h', tk, c', rfl, hc', hS', hk'⟩ := hr2
            repeat (any_goals (first | assumption | wp_step))
            exact h _ _ _ hc' hS' hk'
          | _ => exact hr2.elim
    | _ => exact hr.elim
/-- set(xs), xs a list of ints -/
def rSetG (K : PySem.W.Frag) (w : World) : List V → Hp → VK → Prop := fun vs H Q => ∃ (a : Addr) (ns : List Int) (cap : Nat), vs = [.ref a] ∧ SqL K H a (ns.map V.int) ∧ Capped w ns cap ∧ cap ≤ 4000 ∧
  ∀ p c, c ≤ cap → H p = none → Q (.ref p) (upd H p (SetO w p (fun j => decide (j ∈ ns)) c))
theorem cr_setG {X : Cx} (hc : X.calm = true) : CallR X (.type "set") (rSetG X.K X.w) := by
  intro pn st σ H vs us Q I r h
  obtain ⟨a, ns, cap, rfl, ha, cp, few, q⟩ := h
  rw [Vals.ref1 r]
  obtain ⟨its, rv, p, _⟩ := I.list ha
  have new : H st.heap.objs.size = none := I.hok.fresh (Nat.le_refl _)
  have b4 : (4001 : Nat) < scanBound := by decide
  refine call_setG ns (I.ok.hd hc) p.isList (by simpa using ints_of_vals rv) cap (by omega) cp fun h' tk c hc R k => ?_
  exact ⟨.ref _, _, I.laid (t' := tk) k (Nat.le_refl _) (setO_new R), rfl, q _ _ hc new⟩

end R
namespace R
open PySem PySem.Spec PyProof.Rows L2
/-! ## sorted of a set of ints, any number of them -/
theorem run_sortedS {P : Program} {w : World} {A : Around} {E : Value → Shared → Prop} {st : Shared} {a : Addr} {S : Int → Bool} {n : Nat} {Q : Value → Shared → Prop} (R : SetR w st.heap a S n) (nh : A.handled = none)
    (fin : ∀ s' p (out : Array Value) (c : Nat) (ns : List Int), (∀ b o, st.heap.get? b = some o → s'.heap.get? b = some o) → s'.gens = st.gens → s'.os = st.os → st.heap.objs.size ≤ p →
      s'.heap.get? p = some (seqObj "list" out c) → IntsAre out.toList ns → ns.Pairwise (· < ·) ∧ (∀ k, k ∈ ns ↔ S k = true) ∧ ns.length = n → Q (.ref p) s') :
    wpAny (model P w) A (call (.builtin "sorted") [.ref a]) Q E st := by
  obtain ⟨o, es, ep, t, ho, hex, hd, g, nd, mem, bound, fit, cnt, ris, led⟩ := R
  refine Calls.call_function_entry PyProof.Rows.kind_sorted PyProof.Rows.plain_sorted PyProof.Rows.entry_sorted (PyProof.Rows.args_sorted1 _) ?_
  unfold Builtin.«sorted»
  refine wpAny_bind (m := checkCount "sorted" 1 1 _) <| wpAny_pure ?_
  refine wpAny_bind (collect_set (A := A.in1) nh ⟨o, ho, hex.1, hd⟩ fit bound ris led fun s1 vs kp sz gn os pm => ?_)
  have lv : vs.length = n := by rw [pm.length_eq, List.length_map, Array.length_toList, cnt]
  have iv : IntsAre vs (vs.map Builtin.Re.reRawOf) := L2.ints_of vs fun v hv => by
    obtain ⟨e, he, ev⟩ := List.mem_map.mp (pm.mem_iff.mp hv)
    obtain ⟨k, tk, ek, _⟩ := g e he
    exact ⟨k, tk, ev ▸ ek⟩
  have kk : (vs.map Builtin.Re.reRawOf).Perm (es.toList.map keyOf) := by
    have q := pm.map Builtin.Re.reRawOf
    rw [List.map_map] at q
    exact q
  have small : vs.length ≤ sizeLine := by
    rw [lv, ← cnt]
    exact fits_of_scanBound bound
  refine wpAny_bind (wpAny_newList ?_ small)
  have at1 : (s1.heap.push (seqObj "list" vs.toArray 0)).get? s1.heap.objs.size = some (seqObj "list" vs.toArray 0) := Heap.get?_push_size _ rfl
  refine wpAny_bind (wpAny_holding (wpAny_call_entry PyProof.Rows.slot_list_sort ⟨_, at1, rfl⟩ PyProof.Rows.entry_list_sort
    (SrtO.list_sort_ord SrtO.swo_int at1 small (fun two => SrtO.ints_sortable iv two) fun out o1 o2 => ⟨_, rfl, ?_⟩) (PyProof.Rows.args_list_sort _)))
  obtain ⟨c, hc⟩ := PyProof.Rows.sortedHeap_at (vs := vs) (out := out.toArray) at1
  obtain ⟨k1, k2, k3⟩ := SrtO.ints_out iv o1 o2
  have pn := k2.trans kk
  refine wpAny_pure ⟨_, rfl, fin _ s1.heap.objs.size out.toArray c (out.map SrtO.iv) (fun b u e => ?_) gn os sz hc k1 ⟨L2.lt_of_le_nodup _ k3 (pn.nodup_iff.mpr nd), fun k => by rw [pn.mem_iff, ← mem k], ?_⟩⟩
  · have q := kp b u e
    have lt := Heap.lt_size q
    show (PyProof.Rows.sortedHeap (s1.heap.push (seqObj "list" vs.toArray 0)) s1.heap.objs.size vs out.toArray).get? b = some u
    rw [PyProof.Rows.sortedHeap_old (Nat.ne_of_lt lt) (by rw [size_push']; exact Nat.lt_succ_of_lt lt)]
    exact Heap.get?_push_of_some _ q
  · rw [pn.length_eq, List.length_map, Array.length_toList]; exact cnt
def rSortedSL (w : World) : List V → Hp → VK → Prop := fun vs H Q => ∃ (a : Addr) (S : Int → Bool) (n : Nat), vs = [V.ref a] ∧ H a = some (SetO w a S n) ∧ n ≤ 100000 ∧
  ∀ (ns : List Int) (p : Addr), ns.Pairwise (· < ·) → (∀ k : Int, k ∈ ns ↔ S k = true) → ns.length = n → H p = none → Q (.ref p) (upd H p (.lst (ns.map V.int)))
theorem cr_sortedSL {X : Cx} (hc : X.calm = true) : CallR X (.builtin "sorted") (rSortedSL X.w) := by
  intro pn st σ H vs us Q I r h
  obtain ⟨a, S, n, rfl, ha, few, q⟩ := h
  rw [Vals.ref1 r]
  refine run_sortedS (setO_get I ha) (I.ok.hd hc) fun s' p out c ns k g o hp hg hi ⟨h1, h2, h3⟩ => ?_
  have new : H p = none := I.hok.fresh hp
  have small : (ns.map V.int).length ≤ sizeLine := by rw [List.length_map, h3]; exact sizeOk few
  have J : Inv X pn σ (upd H p (.lst (ns.map V.int))) { st with heap := s'.heap, gens := s'.gens, drawn := s'.drawn, toks := s'.toks } :=
    I.call (ch := []) (Un.laid k hp new) (I.hok.laid k hp ⟨small, out.toList, c, vals_of_ints hi, hg⟩) (by rw [g]; exact I.bare) fun _ z => nomatch z
  have e : s' = { st with heap := s'.heap, gens := s'.gens, drawn := s'.drawn, toks := s'.toks } := by
    cases s'
    cases st
    cases o
    rfl
  rw [e]
  exact ⟨.ref p, _, J, rfl, q ns p h1 h2 h3 new⟩

end R
namespace R
open PySem PySem.Spec PyProof.Rows L2
/-! ## rests_at -/
theorem scI_list {w : World} {K : PySem.W.Frag} {a : Addr} {xs : List V} {g : TG} {tt : TT} {te : TE} {vs : List Nat} {σ : L2.St} {H1 : Hp} {D : Addr} {Qd : Hp → Prop} (Pv : Nat → Hp → Prop) (h0 : Pv 0 (upd H1 D (SetO w D (fun _ => false) 0)))
    (hl : ∀ i H, i ≤ xs.length → Pv i H → SqL K H a xs)
    (hs : ∀ i x H, xs[i]? = some x → Pv i H → g x (wipe σ vs) H fun σ2 H2 => wipe σ2 vs = wipe σ vs ∧ tt σ2 H2 fun b H3 => if b = true then te σ2 H3 fun y H4 =>
      ∃ (c : Int) (S : Int → Bool) (n : Nat), y = .int c ∧ H4 D = some (SetO w D S n) ∧ n + 1 < scanBound ∧ Pv (i + 1) (upd H4 D (SetO w D (fun j => S j || decide (j = c)) (if S c = true then n else n + 1))) else Pv (i + 1) H3)
    (hd : ∀ H, Pv xs.length H → Qd H) : ∃ W : Nat → Nat → Hp → Prop, (∃ m, W 0 m (upd H1 D (SetO w D (fun _ => false) 0))) ∧ ∀ i m H, W i m H → ((Itl K a).stop i H ∧ Qd H) ∨
      ((Itl K a).go i H ∧ ∃ Nx : Hp → Prop, (∀ H', Nx H' → ∃ m', m' < m ∧ W (i + 1) m' H') ∧ ∀ x H', (Itl K a).yld i H x H' → g x (wipe σ vs) H' fun σ2 H2 => wipe σ2 vs = wipe σ vs ∧ tt σ2 H2 fun b H3 =>
        if b = true then te σ2 H3 fun y H4 => ∃ (c : Int) (S : Int → Bool) (n : Nat), y = .int c ∧ H4 D = some (SetO w D S n) ∧ n + 1 < scanBound ∧ Nx (upd H4 D (SetO w D (fun j => S j || decide (j = c)) (if S c = true then n else n + 1))) else Nx H3) := by
  refine ⟨fun i m H => m = xs.length - i ∧ i ≤ xs.length ∧ Pv i H, ⟨_, rfl, Nat.zero_le _, h0⟩, ?_⟩
  rintro i _ H ⟨rfl, hi, p⟩
  by_cases lt : i < xs.length
  · refine .inr ⟨⟨xs, xs[i], hl i H hi p, by simp [lt]⟩, Pv (i + 1), fun H' p' => ⟨xs.length - (i + 1), by omega, rfl, lt, p'⟩, fun x H' ⟨e, y⟩ => ?_⟩
    subst e
    exact hs i x _ (y xs (hl i _ hi p)) p
  · obtain rfl : i = xs.length := by omega
    exact .inl ⟨⟨xs, hl _ H hi p, Nat.le_refl _⟩, hd H p⟩
/-- the rests at a place, of some marks -/
def rAt (hl : List (List Int)) (i : Int) : List Int := (hl.filter fun z => decide (z.getD 0 0 = i)).map fun z => z.getD 1 0
def sp_p_rests_at (K : PySem.W.Frag) : Sp := fun vs H Q _ => ∃ (a : Addr) (hl : List (List Int)) (i : Int), vs = [.ref a, .int i] ∧ TupsAt K H a hl ∧ (∀ z ∈ hl, z.length = 2) ∧ hl.length ≤ 100 ∧
  ∀ (D : Addr) (rl : List Int) (H' : Hp), Same H H' → H D = none → H' D = some (.lst (rl.map V.int)) → rl.Pairwise (· < ·) → (∀ r, r ∈ rl ↔ r ∈ rAt hl i) → Q (.ref D) H'
section
variable {P : Program} {w : World} {K : PySem.W.Frag} {mg : Str → Option Value} {base : Heap}
theorem ok_p_rests_at (T : Txt K mg) : FnOk P w K mg base CX0 2 T.f_p_rests_at T.fd_p_rests_at ["marks", "index"] (sp_p_rests_at K) := by
  refine T.F_p_rests_at.ok sc_p_rests_at (fun vs H Q E h => ?_) (fun cdv A outer s H vs Q E hr h => ?_)
  · obtain ⟨a, hl, i, rfl, _⟩ := h
    rfl
  · obtain ⟨a, hl, idx, rfl, ta, two, few, q⟩ := h
    refine ⟨_, (pss_one (ps_ret (pe_callB (cr_sortedSL rfl) (by rfl) T.z_sorted (by decide +kernel) (pa_cons (pe_scI (own := [("place", 2), ("rest", 3)]) (g := gTup K 2 (gCons (gName 2) (gCons (gName 3) (gNil)))) rfl sc_p_rests_at.nd (pi_list (pv 0)) (blkOk_by (N := ["marks", "index", "place", "rest"]) (sc := defScope s_p_rests_at) (by decide +kernel)) (fun _ _ _ _ _ => (pg_tup (by rfl) (pgs_cons (pg_name (i := 2) sc_p_rests_at.nd rfl (by first | exact .inl rfl | exact .inr rfl)) (pgs_cons (pg_name (i := 3) sc_p_rests_at.nd rfl (by first | exact .inl rfl | exact .inr rfl)) pgs_nil)))) (fun _ _ _ _ _ => (pts_one (pt_cmpR op_eq (pv 2) (pv 1) (nomark _)))) (fun _ _ _ _ _ => (pv 3))) pa_nil)))), ?_⟩
    obtain ⟨ts, ea, la, fa⟩ := ta.ex
    refine ⟨_, rfl, a, rfl, ⟨_, lstOf ea⟩, fun D nD => ?_⟩
    refine scI_list (K := K) (a := a) (xs := ts.map V.ref) (fun i Hi => ∃ n, n ≤ i ∧ Hi D = some (SetO w D (fun j => decide (j ∈ rAt (hl.take i) idx)) n) ∧ Same H Hi)
      ⟨0, Nat.le_refl _, by rw [upd_same]; exact congrArg some (congrArg (SetO w D · 0) (funext fun j => (decide_eq_false (by unfold rAt; simp)).symm)), same_upd nD⟩ (fun i Hi _ ⟨_, _, _, si⟩ => lstOf (si _ _ ea)) ?_ ?_
    · rintro i y Hi hi ⟨n, ni, ei, si⟩
      rw [List.getElem?_map] at hi
      obtain ⟨t, ht, rfl⟩ := Option.map_eq_some_iff.mp hi
      have il := (List.getElem?_eq_some_iff.mp ht).1
      obtain ⟨z, hz⟩ : ∃ z, hl[i]? = some z := ⟨_, List.getElem?_eq_getElem (by omega)⟩
      have sq := Same.seqTT si (fa i t z ht hz)
      have l2 := two z (List.mem_of_getElem? hz)
      obtain ⟨x0, x1, rfl⟩ : ∃ x0 x1, z = [x0, x1] := by
        match z, l2 with
        | [x0, x1], _ => exact ⟨x0, x1, rfl⟩
      refine ⟨t, [_, _], rfl, sq, rfl, _, _, rfl, _, _, rfl, rfl, rfl, _, rfl, _, rfl, rfl, _, rfl, ite2 (fun e => ?_) (fun e => ?_)⟩
      · have e' : x0 = idx := V.int.inj (of_decide_eq_true e)
        refine ⟨_, rfl, x1, _, n, rfl, ei, Nat.lt_of_le_of_lt (show n + 1 ≤ 2001 by omega) (by decide), (if decide (x1 ∈ rAt (hl.take i) idx) = true then n else n + 1), ?_, ?_, samePut si nD⟩
        · split <;> omega
        · rw [upd_same, takeSucc hz]
          refine congrArg some (congrArg (SetO w D · _) (funext fun j => ?_))
          unfold rAt
          rw [← Bool.decide_or, List.filter_append, List.map_append, show List.filter (fun z : List Int => decide (z.getD 0 0 = idx)) [[x0, x1]] = [[x0, x1]] from List.filter_cons_of_pos (decide_eq_true e')]
          exact decide_eq_decide.mpr (by rw [List.mem_append]; exact or_congr_right ⟨fun h => List.mem_singleton.mpr h, fun h => List.mem_singleton.mp h⟩)
      · have e' : ¬ x0 = idx := fun h => e (decide_eq_true (congrArg V.int h))
        refine ⟨n, by omega, ?_, si⟩
        rw [ei, takeSucc hz]
        refine congrArg some (congrArg (SetO w D · _) (funext fun j => ?_))
        unfold rAt
        rw [List.filter_append, show List.filter (fun z : List Int => decide (z.getD 0 0 = idx)) [[x0, x1]] = [] from List.filter_cons_of_neg (by rw [decide_eq_true_iff]; exact e'), List.append_nil]
    · rintro H1 ⟨n, nn, e1, s1⟩
      rw [List.length_map, la, List.take_length] at e1
      rw [List.length_map] at nn
      refine ⟨D, _, n, rfl, e1, by omega, fun ns p up mem len np => ?_⟩
      have sp := same_upd np (o := .lst (ns.map V.int))
      exact q p ns _ (s1.trans sp) (s1.free np) upd_same up fun r => ⟨fun h => of_decide_eq_true ((mem r).mp h), fun h => (mem r).mpr (decide_eq_true h)⟩
end

end R
namespace R
open PySem PySem.Spec PyProof.Rows L2
/-! ## sure_rests -/
/-- rows of two lists of ints -/
structure PLAt (H : Hp) (xs : List V) (rows : List (List Int × List Int)) : Prop where
  len : xs.length = rows.length
  at_ : ∀ (i : Nat) x p, xs[i]? = some x → rows[i]? = some p → ∃ t d e, x = .ref t ∧ H t = some (.tup [.ref d, .ref e]) ∧ H d = some (.lst (p.1.map V.int)) ∧ H e = some (.lst (p.2.map V.int))
def rowD (p : List Int × List Int) : PyData := .tuple [.list (p.1.map PyData.int), .list (p.2.map PyData.int)]
theorem PLAt.same {H H' : Hp} {xs : List V} {rows : List (List Int × List Int)} (h : PLAt H xs rows) (s : Same H H') : PLAt H' xs rows :=
  ⟨h.len, fun i x p a b => let ⟨t, d, e, h1, h2, h3, h4⟩ := h.at_ i x p a b; ⟨t, d, e, h1, s _ _ h2, s _ _ h3, s _ _ h4⟩⟩
theorem PLAt.add {H : Hp} {xs : List V} {rows : List (List Int × List Int)} {t d e : Addr} {p : List Int × List Int} (h : PLAt H xs rows) (h2 : H t = some (.tup [.ref d, .ref e])) (h3 : H d = some (.lst (p.1.map V.int))) (h4 : H e = some (.lst (p.2.map V.int))) : PLAt H (xs ++ [.ref t]) (rows ++ [p]) := by
  refine ⟨by rw [List.length_append, List.length_append, h.len]; rfl, fun i x q a b => ?_⟩
  by_cases l : i < xs.length
  · rw [List.getElem?_append_left l] at a
    rw [List.getElem?_append_left (by rw [← h.len]; exact l)] at b
    exact h.at_ i x q a b
  · rw [List.getElem?_append_right (by omega)] at a
    rw [List.getElem?_append_right (by rw [← h.len]; omega), ← h.len] at b
    cases z : i - xs.length with
    | zero =>
      rw [z] at a b
      cases Option.some.inj a
      cases Option.some.inj b
      exact ⟨t, d, e, rfl, h2, h3, h4⟩
    | succ j => rw [z] at a; simp at a
theorem PLAt.dp {K : PySem.W.Frag} {H : Hp} : ∀ {xs : List V} {rows : List (List Int × List Int)}, PLAt H xs rows → DpAll K H xs (rows.map rowD)
  | [], [], _ => .nil
  | [], p :: ps, h => nomatch h.len
  | x :: xs, [], h => nomatch h.len
  | x :: xs, p :: ps, h => by
    obtain ⟨t, d, e, rfl, h2, h3, h4⟩ := h.at_ 0 x p rfl rfl
    exact .cons (.tup (tupOf h2) (.cons (dpLst (lstOf h3)) (.cons (dpLst (lstOf h4)) .nil))) (PLAt.dp ⟨Nat.succ.inj h.len, fun i y n a b => h.at_ (i + 1) y n a b⟩)
theorem PLAt.off {H : Hp} {Z : Addr} {xs : List V} {rows : List (List Int × List Int)} (h : PLAt (upd H Z (.tup [])) xs rows) : PLAt H xs rows := by
  have no : ∀ {c : Addr} {o : HO}, upd H Z (.tup []) c = some o → o ≠ .tup [] → H c = some o := fun {c o} e ne => by
    by_cases z : c = Z
    · subst z
      rw [upd_same] at e
      exact absurd (Option.some.inj e).symm ne
    · rw [upd_ne z] at e
      exact e
  refine ⟨h.len, fun i x p a b => ?_⟩
  obtain ⟨t, d, e, h1, h2, h3, h4⟩ := h.at_ i x p a b
  exact ⟨t, d, e, h1, no h2 (by intro z; cases z), no h3 (by intro z; cases z), no h4 (by intro z; cases z)⟩
theorem sameUpd {H H' : Hp} {Z : Addr} {o : HO} (s : Same H H') : Same (upd H Z o) (upd H' Z o) := fun b u e => by
  by_cases z : b = Z
  · subst z
    rw [upd_same] at e ⊢
    exact e
  · rw [upd_ne z] at e ⊢
    exact s b u e
theorem okRows (rows : List (List Int × List Int)) : okD 3 (.list (rows.map rowD)) := okD.lst fun d hd => by
  obtain ⟨p, _, rfl⟩ := List.mem_map.mp hd
  refine okD.tup fun d hd => ?_
  rcases List.mem_cons.mp hd with rfl | hd
  · exact okD.lst (okInts _)
  · rw [List.mem_singleton.mp hd]
    exact okD.lst (okInts _)
/-- what is sure at a place -/
structure RowOk (hl : List (List Int)) (ul : List (List (List Int))) (i : Nat) (p : List Int × List Int) : Prop where
  up1 : p.1.Pairwise (· < ·)
  mem1 : ∀ r, r ∈ p.1 ↔ [(i : Int), r] ∈ hl
  up2 : p.2.Pairwise (· < ·)
  mem2 : ∀ r, r ∈ p.2 ↔ [[(i : Int), r]] ∈ ul
def sp_p_sure_rests (K : PySem.W.Frag) (B : Addr) : Sp := fun vs H Q E => ∃ (a b : Addr) (ms : List Int) (sl : List (Int × Bool)) (U : List (List Int)), vs = [.ref a, .ref b] ∧ SqT K H a (ms.map V.int) ∧ MOk ms ∧ SeenAt K H b sl ∧ SOk sl ∧ U.length ≤ 60 ∧ (∀ p ∈ sl, p.2 = true → ∀ z ∈ marksL ms p.1, z ∈ U) ∧
  ∀ hl hl2, HeldIs ms sl hl → HeldIs ms sl hl2 → (([] ∈ unheldL ms hl2 sl ∧ ∀ H', Same H H' → E (.ref B) none H') ∨
    ([] ∉ unheldL ms hl2 sl ∧ ∀ (D : Addr) (xs : List V) (rows : List (List Int × List Int)) (H' : Hp), Same H H' → H' D = some (.lst xs) → PLAt H' xs rows → rows.length = ms.length → (∀ i p, rows[i]? = some p → RowOk hl (unheldL ms hl2 sl) i p) → Q (.ref D) H'))
theorem inNil (ul : List (List (List Int))) : ((ul.map fun u => PyData.list (u.map tD)).any fun y => PyData.eqv y (.list [])) = decide ([] ∈ ul) := by
  induction ul with
  | nil => simp
  | cons u ul ih =>
    rw [List.map_cons, List.any_cons, ih]
    cases u with
    | nil =>
      rw [show PyData.eqv (.list (([] : List (List Int)).map tD)) (.list []) = true from by rw [List.map_nil, PyData.eqv, PyData.eqvAll]]
      simp
    | cons z zs =>
      rw [show PyData.eqv (.list ((z :: zs).map tD)) (.list []) = false from eqvLLnil _ _]
      simp
def barredL (ul : List (List (List Int))) : List (List Int) := (ul.filter fun u => decide (u.length = 1)).map fun u => u.getD 0 []
theorem barred_iff {ul : List (List (List Int))} {z : List Int} : z ∈ barredL ul ↔ [z] ∈ ul := by
  unfold barredL
  rw [List.mem_map]
  constructor
  · rintro ⟨u, hu, rfl⟩
    obtain ⟨h1, h2⟩ := List.mem_filter.mp hu
    have h2' := of_decide_eq_true h2
    match u, h2' with
    | [y], _ => exact h1
  · intro h
    exact ⟨[z], List.mem_filter.mpr ⟨h, rfl⟩, rfl⟩
theorem rAt_iff {hl : List (List Int)} (two : ∀ z ∈ hl, z.length = 2) {i r : Int} : r ∈ rAt hl i ↔ [i, r] ∈ hl := by
  unfold rAt
  rw [List.mem_map]
  constructor
  · rintro ⟨z, hz, rfl⟩
    obtain ⟨h1, h2⟩ := List.mem_filter.mp hz
    have l2 := two z h1
    match z, l2, h1, of_decide_eq_true h2 with
    | [x0, x1], _, h1, h2 =>
      have e : x0 = i := h2
      subst e
      exact h1
  · intro h
    exact ⟨[i, r], List.mem_filter.mpr ⟨h, decide_eq_true rfl⟩, rfl⟩
section
variable {P : Program} {w : World} {K : PySem.W.Frag} {mg : Str → Option Value} {base : Heap}
set_option maxHeartbeats 1600000 in
theorem ok_p_sure_rests (T : Txt K mg) : FnOk P w K mg base (L2.CX P w) 7 T.f_p_sure_rests T.fd_p_sure_rests ["moduli", "seen"] (sp_p_sure_rests K T.C_Nothing) := by
  refine T.F_p_sure_rests.okX sc_p_sure_rests (fun vs H Q E h => ?_) (fun cdv A outer s H vs Q E hr h => ?_)
  · obtain ⟨a, b, ms, sl, U, rfl, _⟩ := h
    rfl
  · obtain ⟨a, b, ms, sl, U, rfl, ta, M, S, O, u60, hU, h⟩ := h
    refine ⟨_, (pss_cons (ps_expr (pe_call (ok_p_check_moduli T) (hr.mono (by decide)) (by rfl) T.g_p_check_moduli T.F_p_check_moduli.kp T.b_p_check_moduli .nil pass0 (pa_cons (pv 0) pa_nil)))
      (pss_cons (ps_expr (pe_call (ok_p_check_seen T) (hr.mono (by decide)) (by rfl) T.g_p_check_seen T.F_p_check_seen.kp T.b_p_check_seen .nil pass0 (pa_cons (pv 1) pa_nil)))
      (pss_cons (ps_set (i := 2) sc_p_sure_rests.nd rfl (by first | exact .inl rfl | exact .inr rfl) (pe_call (ok_p_held_marks T) (hr.mono (by decide)) (by rfl) T.g_p_held_marks T.F_p_held_marks.kp T.b_p_held_marks .nil pass0 (pa_cons (pv 0) (pa_cons (pv 1) pa_nil))))
      (pss_cons (ps_set (i := 3) sc_p_sure_rests.nd rfl (by first | exact .inl rfl | exact .inr rfl) (pe_call (ok_p_unheld_marks T) (hr.mono (by decide)) (by rfl) T.g_p_unheld_marks T.F_p_unheld_marks.kp T.b_p_unheld_marks .nil pass0 (pa_cons (pv 0) (pa_cons (pv 1) pa_nil))))
      (pss_cons (ps_if (pt_cmpR (op_inD (un65 hr)) (pe_lst pa_nil) (pv 3) (by rfl)) (pss_one (ps_raise rfl (takes_of rfl rfl rfl rfl) (pmk_own PySem.F.excBase_ValueError T.x_Nothing T.g_Nothing T.k_Nothing (raises_own T.b_Nothing T.t_Nothing) (by rfl)))) pss_nil)
      (pss_cons (ps_set (i := 4) sc_p_sure_rests.nd rfl (by first | exact .inl rfl | exact .inr rfl) (pe_lc (own := [("marks", 5)]) rfl sc_p_sure_rests.nd (pi_list (pv 3)) (blkOk_by (N := ["moduli", "seen", "held", "unheld", "barred", "marks", "index"]) (sc := defScope s_p_sure_rests) (by decide +kernel)) (fun _ _ _ _ _ => (pg_name (i := 5) sc_p_sure_rests.nd rfl (by first | exact .inl rfl | exact .inr rfl))) (fun _ _ _ _ _ => (pts_one (pt_cmpR op_eq (pe_callB (r := rLenK K) call_len_seq (by rfl) T.z_len (by decide +kernel) (pa_cons (pv 5) pa_nil)) pe_int (nomark _)))) (fun _ _ _ _ _ => (pe_ix (r := rIxL K) ix_list (pv 5) pe_int (fun _ _ => rfl)))))
      (pss_one (ps_ret (pe_lc (own := [("index", 6)]) rfl sc_p_sure_rests.nd (pi_range1 (by rfl) T.z_range (pa_cons (pe_callB (r := rLenK K) call_len_seq (by rfl) T.z_len (by decide +kernel) (pa_cons (pv 0) pa_nil)) pa_nil)) (blkOk_by (N := ["moduli", "seen", "held", "unheld", "barred", "marks", "index"]) (sc := defScope s_p_sure_rests) (by decide +kernel)) (fun _ _ _ _ _ => (pg_name (i := 6) sc_p_sure_rests.nd rfl (by first | exact .inl rfl | exact .inr rfl))) (fun _ _ _ _ _ => pts_nil) (fun _ _ _ _ _ => (pe_tup (pa_cons (pe_call (ok_p_rests_at T) (hr.mono (by decide)) (by rfl) T.g_p_rests_at T.F_p_rests_at.kp T.b_p_rests_at .nil pass0 (pa_cons (pv 2) (pa_cons (pv 6) pa_nil))) (pa_cons (pe_call (ok_p_rests_at T) (hr.mono (by decide)) (by rfl) T.g_p_rests_at T.F_p_rests_at.kp T.b_p_rests_at .nil pass0 (pa_cons (pv 4) (pa_cons (pv 6) pa_nil))) pa_nil))))))))))))), ?_⟩
    refine ⟨_, rfl, a, ms, rfl, ta, M, fun H1 s1 => ?_⟩
    refine ⟨_, rfl, b, sl, rfl, S.stay s1, O, fun H2 s2 => ?_⟩
    have s12 := s1.trans s2
    refine ⟨_, rfl, _, rfl, a, b, ms, sl, U, rfl, Same.seqTT s12 ta, M, S.stay s12, u60, hU, fun D hl H3 s3 n3 T3 h3 => ?_⟩
    have s13 := s12.trans s3
    refine ⟨_, rfl, _, rfl, a, b, ms, sl, U, rfl, Same.seqTT s13 ta, M, S.stay s13, O.few, u60, hU, fun D2 hl2 H4 s4 n4 L4 h4 => ?_⟩
    have s14 := s13.trans s4
    refine ⟨Nat.zero_le _, fun e0 ne0 => ?_⟩
    have s5 := same_upd ne0 (o := .lst [])
    have L5 := L4.stay s5
    have T5 := (T3.stay s4).stay s5
    have s15 := s14.trans s5
    refine ⟨_, rfl, .list [], _, .lst (lstOf upd_same) .nil, L5.dp, by decide, (okLL _).shaped (by decide), _, rfl, ?_⟩
    rw [inNil]
    generalize upd H4 e0 (.lst []) = H5 at s5 L5 T5 s15 ⊢
    have ulen : (unheldL ms hl2 sl).length ≤ 20 := by
      unfold unheldL
      rw [List.length_map]
      exact Nat.le_trans (List.length_filter_le _ _) O.few
    have hlen : hl.length ≤ 60 := Nat.le_trans (sub_len h3.nd fun z hz => by
      obtain ⟨p, hp, p2, hz⟩ := (h3.mem z).mp hz
      exact hU p hp p2 z hz) u60
    have htwo : ∀ z ∈ hl, z.length = 2 := fun z hz => by
      obtain ⟨p, _, _, hz⟩ := (h3.mem z).mp hz
      obtain ⟨_, _, rfl, _⟩ := marks_two z hz
      rfl
    have utwo : ∀ u ∈ unheldL ms hl2 sl, ∀ z ∈ u, z.length = 2 := fun u hu z hz => by
      obtain ⟨p, _, rfl⟩ := List.mem_map.mp hu
      obtain ⟨_, _, rfl, _⟩ := marks_two z (List.mem_filter.mp hz).1
      rfl
    rcases h hl hl2 h3 h4 with ⟨c, q⟩ | ⟨c, q⟩
    · rw [decide_eq_true c]
      refine iteT (q _ s15)
    · rw [decide_eq_false c]
      generalize unheldL ms hl2 sl = ul at q L5 c ulen utwo ⊢
      obtain ⟨as_, ea, la, fa⟩ := L5.ex
      refine iteF ⟨_, rfl, D2, rfl, ⟨_, lstOf ea⟩, fun G nG => ?_⟩
      refine lc_list (K := K) (a := D2) (xs := as_.map V.ref) (fun i Hi => TupsAt K Hi G (barredL (ul.take i)) ∧ Same H5 Hi) ⟨TupsAt.nil upd_same, same_upd nG⟩ (fun i Hi _ ⟨_, si⟩ => lstOf (si _ _ ea)) ?_ ?_
      · rintro i y Hi hi ⟨TG, si⟩
        rw [List.getElem?_map] at hi
        obtain ⟨tz, htz, rfl⟩ := Option.map_eq_some_iff.mp hi
        have il := (List.getElem?_eq_some_iff.mp htz).1
        obtain ⟨z, hz⟩ : ∃ z, ul[i]? = some z := ⟨_, List.getElem?_eq_getElem (by omega)⟩
        have tu := (fa i tz z htz hz).stay si
        obtain ⟨us, eu, lu, fu⟩ := tu.ex
        have bs : barredL (ul.take (i + 1)) = barredL (ul.take i) ++ (if decide (z.length = 1) = true then [z.getD 0 []] else []) := by
          unfold barredL
          rw [takeFilter hz, List.map_append]
          split <;> rfl
        refine ⟨rfl, _, rfl, tz, us.map V.ref, rfl, .inl (lstOf eu), ?_⟩
        refine ⟨rfl, _, rfl, ite2 (fun e => ?_) (fun e => ?_)⟩
        · rw [List.length_map, lu] at e
          have e1 : z.length = 1 := by
            have := V.int.inj (of_decide_eq_true e)
            omega
          rw [bs, if_pos (decide_eq_true e1)]
          obtain ⟨y, rfl⟩ : ∃ y, z = [y] := by
            match z, e1 with
            | [y], _ => exact ⟨y, rfl⟩
          obtain ⟨t0, rfl⟩ : ∃ t0, us = [t0] := by
            match us, lu with
            | [t0], _ => exact ⟨t0, rfl⟩
          obtain ⟨ts, et, lt, Tn⟩ := TG.push (fu 0 t0 y rfl rfl)
          refine ⟨_, rfl, tz, _, _, _, rfl, rfl, lstOf eu, atI_nat (j := 0) rfl, _, et, ?_, Tn, samePut si nG⟩
          have : (barredL (ul.take i)).length ≤ i := by
            unfold barredL
            rw [List.length_map]
            exact Nat.le_trans (List.length_filter_le _ _) (by rw [List.length_take]; omega)
          rw [List.length_map, lt]
          exact sizeLt (by omega)
        · rw [List.length_map, lu] at e
          have e1 : ¬ z.length = 1 := fun h => e (decide_eq_true (congrArg V.int (by rw [h]; rfl)))
          rw [bs, if_neg (by rw [decide_eq_true_iff]; exact e1), List.append_nil]
          exact ⟨TG, si⟩
      · rintro Hi ⟨TG, si⟩
        rw [List.length_map, la, List.take_length] at TG
        have ml := M.four
        have btwo : ∀ z ∈ barredL ul, z.length = 2 := fun z hz => utwo _ (barred_iff.mp hz) z (List.mem_singleton.mpr rfl)
        have blen : (barredL ul).length ≤ 20 := by
          unfold barredL
          rw [List.length_map]
          exact Nat.le_trans (List.length_filter_le _ _) ulen
        refine ⟨_, rfl, a, _, rfl, .inr (Same.seqTT (s15.trans si) ta), _, rfl, by omega, by rw [List.length_map]; omega, fun Z nZ => ?_⟩
        rw [List.length_map, Int.toNat_natCast]
        refine lc_range (lo := 0) (n := ms.length) (fun j Hj => ∃ xs rows, Hj Z = some (.lst xs) ∧ PLAt (upd Hj Z (.tup [])) xs rows ∧ rows.length = j ∧ (∀ i p, rows[i]? = some p → RowOk hl ul i p) ∧ Same Hi Hj)
          ⟨[], [], upd_same, ⟨rfl, fun i x p a _ => by simp at a⟩, rfl, fun i p a => by simp at a, same_upd nZ⟩ ?_ ?_
        · rintro j Hj hj ⟨xs, rows, eZ, PL, lj, ok, sj⟩
          have T5j := (T5.stay si).stay sj
          have TGj := TG.stay sj
          refine ⟨rfl, _, rfl, _, rfl, D, hl, (0 + (j : Nat) : Int), rfl, T5j, htwo, by omega, fun D1 r1 H6 s6 n6 e6 up6 mem6 => ?_⟩
          refine ⟨_, rfl, _, rfl, G, barredL ul, (0 + (j : Nat) : Int), rfl, TGj.stay s6, btwo, by omega, fun D7 r2 H7 s7 n7 e7 up7 mem7 => ?_⟩
          refine ⟨sizeOk (by show (2 : Nat) ≤ 100000; decide), fun t nt => ?_⟩
          have s67 := s6.trans s7
          have eZ7 := s67 _ _ eZ
          have st := same_upd nt (o := .tup [.ref D1, .ref D7])
          have tZ : t ≠ Z := fun z => by rw [z, eZ7] at nt; cases nt
          have d1 : D1 ≠ Z := fun z => by rw [z, eZ] at n6; cases n6
          have d7 : D7 ≠ Z := fun z => by rw [z, s6 _ _ eZ] at n7; cases n7
          have t1 : t ≠ D1 := fun z => by rw [z, s7 _ _ e6] at nt; cases nt
          have t7 : t ≠ D7 := fun z => by rw [z, e7] at nt; cases nt
          refine ⟨_, st _ _ eZ7, ?_, xs ++ [.ref t], rows ++ [(r1, r2)], upd_same, ?_, by rw [List.length_append, lj]; rfl, fun i p hp => ?_, samePut ((sj.trans s67).trans st) nZ⟩
          · rw [PL.len, lj]
            exact sizeLt (by omega)
          · rw [upd_upd]
            refine PLAt.add (t := t) (d := D1) (e := D7) (p := (r1, r2)) (PL.same (sameUpd (s67.trans st))) ?_ ?_ ?_
            · rw [upd_ne tZ, upd_same]
            · rw [upd_ne d1, upd_ne (Ne.symm t1), s7 _ _ e6]
            · rw [upd_ne d7, upd_ne (Ne.symm t7), e7]
          · by_cases hi : i < rows.length
            · rw [List.getElem?_append_left hi] at hp
              exact ok i p hp
            · rw [List.getElem?_append_right (by omega)] at hp
              cases z : i - rows.length with
              | zero =>
                rw [z] at hp
                cases Option.some.inj hp
                have ij : i = j := by omega
                subst ij
                rw [Int.zero_add] at mem6 mem7
                exact ⟨up6, fun r => (mem6 r).trans (rAt_iff htwo), up7, fun r => (mem7 r).trans ((rAt_iff btwo).trans barred_iff)⟩
              | succ k => rw [z] at hp; simp at hp
        · rintro Hj ⟨xs, rows, eZ, PL, lj, ok, sj⟩
          exact q Z xs rows Hj (s15.trans (si.trans sj)) eZ PL.off lj ok
end

end R
namespace R
open PySem PySem.Spec PyProof.Rows L2
/-! ## sure rests, or none -/
def sp_l_told_there (K : PySem.W.Frag) : Sp := fun vs H Q _ => ∃ (a b : Addr) (ms : List Int) (sl : List (Int × Bool)) (U : List (List Int)), vs = [.ref a, .ref b] ∧ SqT K H a (ms.map V.int) ∧ MOk ms ∧ SeenAt K H b sl ∧ SOk sl ∧ U.length ≤ 60 ∧ (∀ p ∈ sl, p.2 = true → ∀ z ∈ marksL ms p.1, z ∈ U) ∧
  ∀ hl hl2, HeldIs ms sl hl → HeldIs ms sl hl2 → (([] ∈ unheldL ms hl2 sl → ∀ H', Same H H' → Q (.str "nothing") H') ∧
    ([] ∉ unheldL ms hl2 sl → ∀ (D : Addr) (xs : List V) (rows : List (List Int × List Int)) (H' : Hp), Same H H' → H' D = some (.lst xs) → PLAt H' xs rows → rows.length = ms.length → (∀ i p, rows[i]? = some p → RowOk hl (unheldL ms hl2 sl) i p) → Q (.ref D) H'))
section
variable {P : Program} {w : World} {K : PySem.W.Frag} {mg : Str → Option Value} {base : Heap}
theorem ok_l_told_there (T : Txt K mg) : FnOk P w K mg base CX0 8 T.f_l_told_there T.fd_l_told_there ["_law_moduli", "_law_seen"] (sp_l_told_there K) := by
  refine T.F_l_told_there.ok sc_l_told_there (fun vs H Q E h => ?_) (fun cdv A outer s H vs Q E hr h => ?_)
  · obtain ⟨a, b, ms, sl, U, rfl, _⟩ := h
    rfl
  · obtain ⟨a, b, ms, sl, U, rfl, ta, M, S, O, u60, hU, h⟩ := h
    refine ⟨_, (pss_cons (ps_set (i := 2) sc_l_told_there.nd rfl (by first | exact .inl rfl | exact .inr rfl) pe_non)
      (pss_cons (ps_try_as (i := 3) rfl rfl sc_l_told_there.nd rfl rfl ⟨by rfl, by decide, .inl T.g_Nothing⟩ takes0 (fun W pn xe tk po => (pss_one (ps_set (i := 2) sc_l_told_there.nd rfl (by first | exact .inl rfl | exact .inr rfl) (pe_callS (ok_p_sure_rests T) (hr.mono (by decide)) (by rfl) T.g_p_sure_rests T.F_p_sure_rests.kp T.b_p_sure_rests (fun σ => passAt tk σ) (pa_cons (pv 0) (pa_cons (pv 1) pa_nil))))))
      (fun a oe cls d pn hz hf => (pss_one (ps_set (i := 2) sc_l_told_there.nd rfl (by first | exact .inl rfl | exact .inr rfl) (pe_ifExp (pt_val (pe_callB (call_isE' T.E_Nothing hz hf) (by rfl) T.z_isinstance (by decide +kernel) (pa_cons (pv 3) (pa_cons (pe_glob (v := .ref T.C_RestError) (by rfl) T.g_RestError rfl) pa_nil)))) pe_str pe_str)))))
      (pss_one (ps_ret (pv 2))))), ?_⟩
    refine ⟨_, rfl, _, rfl, a, b, ms, sl, U, rfl, ta, M, S, O, u60, hU, fun hl hl2 h1 h2 => ?_⟩
    obtain ⟨q1, q2⟩ := h hl hl2 h1 h2
    by_cases c : [] ∈ unheldL ms hl2 sl
    · refine .inl ⟨c, fun H1 s1 => ⟨true, T.e_Nothing, fun _ a na => ?_, fun z => nomatch z⟩⟩
      refine ⟨_, rfl, rfl, rfl, .ref T.C_RestError, _, true, rfl, fun u r => r, T.r_Nothing, true, rfl, iteT ?_⟩
      exact ⟨_, rfl, q1 c _ s1⟩
    · exact .inr ⟨c, fun D xs rows H1 s1 e1 p1 l1 o1 => ⟨_, rfl, q2 c D xs rows _ s1 e1 p1 l1 o1⟩⟩
end

end R
namespace R
open PySem PySem.Spec PyProof.Rows L2
/-! ## moduli and sights as they are drawn -/
structure MG (i : Nat) (ms : List Int) : Prop where
  len : ms.length ≤ i
  one : 1 ≤ i → 1 ≤ ms.length
  mod : ∀ m ∈ ms, 1 ≤ m ∧ m ≤ 4
  sum : ms.sum ≤ 9
  nil : i = 0 → ms = []
theorem RowAt.tupK {H H' : Hp} {r L : Addr} (R : RowAt H r L) (k : Kp r H H') : ∀ q u, H q = some (.tup u) → H' q = some (.tup u) := fun q u e => k _ _ (fun z => by
  subst z
  obtain ⟨zs, e'⟩ := R.lst
  rw [e] at e'
  cases e') e
/-- sights as they are drawn -/
structure Drn (H : Hp) (xs : List V) (sl : List (Int × Bool)) : Prop where
  len : xs.length = sl.length
  at_ : ∀ (i : Nat) x p, xs[i]? = some x → sl[i]? = some p → ∃ t, x = .ref t ∧ H t = some (.tup [.int p.1, .bl p.2])
  num : ∀ p ∈ sl, IsNum p.1
theorem Drn.stay {H H' : Hp} {xs : List V} {sl : List (Int × Bool)} (h : Drn H xs sl) (s : ∀ q u, H q = some (.tup u) → H' q = some (.tup u)) : Drn H' xs sl :=
  ⟨h.len, fun i x p a b => let ⟨t, e, q⟩ := h.at_ i x p a b; ⟨t, e, s _ _ q⟩, h.num⟩
theorem Drn.add {H : Hp} {xs : List V} {sl : List (Int × Bool)} {t : Addr} {p : Int × Bool} (h : Drn H xs sl) (ht : H t = some (.tup [.int p.1, .bl p.2])) (hn : IsNum p.1) : Drn H (xs ++ [.ref t]) (sl ++ [p]) := by
  refine ⟨by rw [List.length_append, List.length_append, h.len]; rfl, fun i x q a b => ?_, fun q hq => ?_⟩
  · by_cases l : i < xs.length
    · rw [List.getElem?_append_left l] at a
      rw [List.getElem?_append_left (by rw [← h.len]; exact l)] at b
      exact h.at_ i x q a b
    · rw [List.getElem?_append_right (by omega)] at a
      rw [List.getElem?_append_right (by rw [← h.len]; omega), ← h.len] at b
      cases z : i - xs.length with
      | zero =>
        rw [z] at a b
        cases Option.some.inj a
        cases Option.some.inj b
        exact ⟨t, rfl, ht⟩
      | succ j => rw [z] at a; simp at a
  · rcases List.mem_append.mp hq with hq | hq
    · exact h.num q hq
    · rw [List.mem_singleton.mp hq]
      exact hn
def sp_law (K : PySem.W.Frag) : Sp := fun vs H Q _ => ∃ (a : Addr) (ns : List Int), vs = [.ref a] ∧ SqL K H a (ns.map V.int) ∧ ns.length ≤ 63 ∧ ∀ H', Q (.bl true) H'

end R
namespace R
open PySem PySem.Spec PyProof.Rows L2
/-! ## marks had, as keys of a dict -/
def tFrz (t : TE) : TE := fun σ H Q => t σ H fun x H1 => ∃ d u, x = .ref d ∧ H1 d = some u ∧ Mut (some u) ∧ ∀ od, Q x (upd H1 d (.frz od u))
theorem pe_frz {X : Cx} {e : Expr} {t : TE} (h : PE X e t) : PE X e (tFrz t) := by
  refine ⟨fun pins s σ H Q I hw => ?_⟩
  refine thn (h.run pins s σ H _ I hw) fun v s1 ⟨x, H1, I1, r, d, u, ex, hd, mu, q⟩ => ?_
  obtain ⟨od, I2⟩ := I1.lock hd mu
  exact ⟨x, _, I2, r, q od⟩
def kz (z : List Int) : List L2.Key := z.map Sum.inl
theorem kz_kV (z : List Int) : (kz z).map kV = z.map V.int := by
  unfold kz
  rw [List.map_map]
  rfl
theorem kz_inj {x y : List Int} (h : kz x = kz y) : x = y := (List.map_inj_right fun a b h => Sum.inl.inj h).mp h
/-- a dict with just these keys, in order -/
structure HadAt (H : Hp) (D : Addr) (L : List (List Int)) : Prop where
  ex : ∃ kvs : List (List L2.Key × V), H D = some (.dT kvs) ∧ kvs.map (·.1) = L.map kz
theorem HadAt.nil {H : Hp} {D : Addr} (h : H D = some (.dT [])) : HadAt H D [] := ⟨[], h, rfl⟩
theorem HadAt.stay {H H' : Hp} {D : Addr} {L : List (List Int)} (h : HadAt H D L) (s : ∀ u, H D = some u → H' D = some u) : HadAt H' D L :=
  let ⟨kvs, e, k⟩ := h.ex
  ⟨kvs, s _ e, k⟩
def addM (L : List (List Int)) (z : List Int) : List (List Int) := if z ∈ L then L else L ++ [z]
def addAll (L zs : List (List Int)) : List (List Int) := zs.foldl addM L
theorem addAll_snoc (L zs : List (List Int)) (z : List Int) : addAll L (zs ++ [z]) = addM (addAll L zs) z := by
  unfold addAll
  rw [List.foldl_append]
  rfl
theorem addAll_cat (L xs ys : List (List Int)) : addAll L (xs ++ ys) = addAll (addAll L xs) ys := by
  unfold addAll
  rw [List.foldl_append]
theorem mem_addM {L : List (List Int)} {z y : List Int} : y ∈ addM L z ↔ y ∈ L ∨ y = z := by
  unfold addM
  by_cases h : z ∈ L
  · rw [if_pos h]
    exact ⟨.inl, fun h' => h'.elim id fun e => e ▸ h⟩
  · rw [if_neg h, List.mem_append, List.mem_singleton]
theorem mem_addAll {L : List (List Int)} {y : List Int} : ∀ zs : List (List Int), y ∈ addAll L zs ↔ y ∈ L ∨ y ∈ zs := by
  refine snocInd ⟨.inl, fun h => h.elim id fun z => nomatch z⟩ fun zs z ih => ?_
  rw [addAll_snoc, mem_addM, ih, List.mem_append, List.mem_singleton, or_assoc]
theorem nd_addAll {L : List (List Int)} (h : L.Nodup) : ∀ zs : List (List Int), (addAll L zs).Nodup := by
  refine snocInd h fun zs z ih => ?_
  rw [addAll_snoc]
  unfold addM
  by_cases e : z ∈ addAll L zs
  · rw [if_pos e]
    exact ih
  · rw [if_neg e, List.nodup_append]
    exact ⟨ih, List.nodup_cons.mpr ⟨List.not_mem_nil, List.nodup_nil⟩, fun a ha b hb e' => e (List.mem_singleton.mp hb ▸ e' ▸ ha)⟩
theorem len_addAll {L : List (List Int)} : ∀ zs : List (List Int), (addAll L zs).length ≤ L.length + zs.length := by
  refine snocInd (Nat.le_refl _) fun zs z ih => ?_
  rw [addAll_snoc, List.length_append, List.length_singleton]
  unfold addM
  split
  · omega
  · rw [List.length_append, List.length_singleton]
    omega
theorem addAll_new : ∀ zs : List (List Int), zs.Nodup → addAll [] zs = zs := by
  refine snocInd (fun _ => rfl) fun zs z ih nd => ?_
  rw [List.nodup_append] at nd
  rw [addAll_snoc, ih nd.1]
  unfold addM
  rw [if_neg fun m => nd.2.2 z m z (List.mem_singleton.mpr rfl) rfl]
/-- the marks of some numbers -/
def hadL (ms ns : List Int) : List (List Int) := addAll [] (ns.flatMap (marksL ms))
theorem mem_hadL {ms ns : List Int} {z : List Int} : z ∈ hadL ms ns ↔ ∃ x ∈ ns, z ∈ marksL ms x := by
  unfold hadL
  rw [mem_addAll, List.mem_flatMap]
  exact ⟨fun h => h.elim (fun z => nomatch z) id, .inr⟩
theorem nd_hadL (ms ns : List Int) : (hadL ms ns).Nodup := nd_addAll List.nodup_nil _
theorem marks_len (ms : List Int) (x : Int) : (marksL ms x).length = ms.length := by
  unfold marksL
  rw [List.length_map, List.length_range]
theorem flat_len (ms : List Int) : ∀ ns : List Int, (ns.flatMap (marksL ms)).length = ns.length * ms.length
  | [] => by simp
  | x :: ns => by
    rw [List.flatMap_cons, List.length_append, marks_len, flat_len ms ns, List.length_cons, Nat.succ_mul]
    omega
theorem len_hadL (ms ns : List Int) : (hadL ms ns).length ≤ ns.length * ms.length := by
  have := len_addAll (L := []) (ns.flatMap (marksL ms))
  rw [flat_len] at this
  unfold hadL
  simpa using this
theorem hadL_one (ms : List Int) (x : Int) : hadL ms [x] = marksL ms x := by
  unfold hadL
  rw [List.flatMap_cons, List.flatMap_nil, List.append_nil]
  exact addAll_new _ (marks_nodup ms x)
theorem val_some {kvs : List (List L2.Key × V)} {L : List (List Int)} (h : kvs.map (·.1) = L.map kz) (z : List Int) : (valV kvs (kz z)).isSome = decide (z ∈ L) := by
  rw [← valV_any, Bool.eq_iff_iff, List.any_eq_true, decide_eq_true_iff]
  have e : kz z ∈ kvs.map (·.1) ↔ z ∈ L := by
    rw [h, List.mem_map]
    exact ⟨fun ⟨y, hy, e⟩ => kz_inj e ▸ hy, fun hz => ⟨z, hz, rfl⟩⟩
  rw [← e, List.mem_map]
  exact ⟨fun ⟨p, hp, e⟩ => ⟨p, hp, of_decide_eq_true e⟩, fun ⟨p, hp, e⟩ => ⟨p, hp, decide_eq_true e⟩⟩
theorem HadAt.has {H : Hp} {D b : Addr} {L : List (List Int)} (h : HadAt H D L) {z : List Int} (eb : H b = some (.tup (z.map V.int))) : ∃ ov, DGet H D (.ref b) ov ∧ ov.isSome = decide (z ∈ L) := by
  obtain ⟨kvs, e, hk⟩ := h.ex
  exact ⟨_, DGet.t (k := kz z) e (by rw [kz_kV]; exact eb), val_some hk z⟩
theorem putT_old {kvs : List (List L2.Key × V)} {k : List L2.Key} {v : V} (m : k ∈ kvs.map (·.1)) : (putK kvs k v).map (·.1) = kvs.map (·.1) := by
  obtain ⟨kv, m, e⟩ := List.mem_map.mp m
  unfold putK
  rw [if_pos (List.any_eq_true.mpr ⟨kv, m, decide_eq_true e⟩), List.map_map]
  refine List.map_congr_left fun x _ => ?_
  show (if x.1 = k then (x.1, v) else x).1 = x.1
  split <;> rfl
theorem putT_add {kvs : List (List L2.Key × V)} {k : List L2.Key} {v : V} (m : k ∉ kvs.map (·.1)) : (putK kvs k v).map (·.1) = kvs.map (·.1) ++ [k] := by
  unfold putK
  rw [if_neg, List.map_append]
  · rfl
  · intro q
    obtain ⟨kv, q, e⟩ := List.any_eq_true.mp q
    exact m (List.mem_map.mpr ⟨kv, q, of_decide_eq_true e⟩)
theorem HadAt.put {H : Hp} {D b : Addr} {L : List (List Int)} {z : List Int} (h : HadAt H D L) (few : L.length ≤ 1000) (eb : H b = some (.tup (z.map V.int))) (v : V) :
    ∃ H', DPut H D (.ref b) v H' ∧ (∃ u, H' = upd H D u) ∧ HadAt H' D (addM L z) := by
  obtain ⟨kvs, e, hk⟩ := h.ex
  have hl : kvs.length = L.length := by
    have := congrArg List.length hk
    rwa [List.length_map, List.length_map] at this
  refine ⟨_, DPut.t (k := kz z) e (by rw [kz_kV]; exact eb) (sizeLt (by omega)), ⟨_, rfl⟩, _, upd_same, ?_⟩
  have ek : kz z ∈ kvs.map (·.1) ↔ z ∈ L := by
    rw [hk, List.mem_map]
    exact ⟨fun ⟨y, hy, e⟩ => kz_inj e ▸ hy, fun hz => ⟨z, hz, rfl⟩⟩
  unfold addM
  by_cases m : z ∈ L
  · rw [if_pos m, putT_old (ek.mpr m), hk]
  · rw [if_neg m, putT_add fun h => m (ek.mp h), hk, List.map_append]
    rfl
def sp_l_had (K : PySem.W.Frag) : Sp := fun vs H Q _ => ∃ (a b : Addr) (ms ns : List Int), vs = [.ref a, .ref b] ∧ SqT K H a (ms.map V.int) ∧ MOk ms ∧ H b = some (.lst (ns.map V.int)) ∧ ns.length ≤ 20 ∧ ∀ D H', Same H H' → H D = none → HadAt H' D (hadL ms ns) → Q (.ref D) H'
def sp_l_power : Sp := fun vs H Q _ => ∃ n : Nat, vs = [.int (n : Nat)] ∧ n ≤ 1000 ∧ Q (.int (2 ^ n)) H
section
variable {P : Program} {w : World} {K : PySem.W.Frag} {mg : Str → Option Value} {base : Heap}
theorem ok_l_power (T : Txt K mg) : FnOk P w K mg base CX0 2 T.f_l_power T.fd_l_power ["_law_many"] sp_l_power := by
  refine T.F_l_power.ok sc_l_power (fun vs H Q E h => ?_) (fun cdv A outer s H vs Q E hr h => ?_)
  · obtain ⟨n, rfl, _⟩ := h
    rfl
  · obtain ⟨n, rfl, n1, q⟩ := h
    refine ⟨_, (pss_cons (ps_set (i := 1) sc_l_power.nd rfl (by first | exact .inl rfl | exact .inr rfl) pe_int)
      (pss_cons (ps_for PassesOwn.never rfl (pi_range1 (by rfl) T.z_range (pa_cons (pv 0) pa_nil)) (pg_name (i := 2) sc_l_power.nd rfl (by first | exact .inl rfl | exact .inr rfl)) (pss_one (ps_set (i := 1) sc_l_power.nd rfl (by first | exact .inl rfl | exact .inr rfl) (pe_op op_mul pe_int (pv 1)))))
      (pss_one (ps_ret (pv 1))))), ?_⟩
    refine ⟨_, rfl, _, rfl, by omega, by omega, ?_⟩
    refine for_range (lo := 0) (n := n) (fun k σ Hk => ∃ x2 : Option V, σ = [some (.int (n : Nat)), some (.int (2 ^ k)), x2] ∧ Hk = H) ⟨none, rfl, rfl⟩ ?_ ?_
    · rintro k σ Hk hk ⟨x2, rfl, rfl⟩
      refine ⟨_, rfl, _, _, rfl, rfl, .inl ⟨by decide, by decide⟩, some (.int (0 + (k : Int))), ?_, rfl⟩
      rw [Int.pow_succ, Int.mul_comm]
      rfl
    · rintro σ Hk ⟨x2, rfl, rfl⟩
      exact ⟨_, rfl, q⟩
theorem ok_l_had (T : Txt K mg) : FnOk P w K mg base CX0 2 T.f_l_had T.fd_l_had ["_law_moduli", "_law_numbers"] (sp_l_had K) := by
  refine T.F_l_had.ok sc_l_had (fun vs H Q E h => ?_) (fun cdv A outer s H vs Q E hr h => ?_)
  · obtain ⟨a, b, ms, ns, rfl, _⟩ := h
    rfl
  · obtain ⟨a, b, ms, ns, rfl, ta, M, eb, n20, q⟩ := h
    refine ⟨_, (pss_cons (ps_set (i := 2) sc_l_had.nd rfl (by first | exact .inl rfl | exact .inr rfl) pe_dnewT)
      (pss_cons (ps_for PassesOwn.never rfl (pi_list (pv 1)) (pg_name (i := 3) sc_l_had.nd rfl (by first | exact .inl rfl | exact .inr rfl)) (pss_one (ps_for PassesOwn.never rfl (pi_range1 (by rfl) T.z_range (pa_cons (pe_callB call_len_seq (by rfl) T.z_len (by decide +kernel) (pa_cons (pv 0) pa_nil)) pa_nil)) (pg_name (i := 4) sc_l_had.nd rfl (by first | exact .inl rfl | exact .inr rfl)) (pss_one (ps_dput (hu_of hr) (pv 2) (pe_tup (pa_cons (pv 4) (pa_cons (pe_op op_mod (pv 3) (pe_ix ix_tup (pv 0) (pv 4) (fun _ _ => rfl))) pa_nil))) pe_bl (by rfl))))))
      (pss_one (ps_ret (pv 2))))), ?_⟩
    have m4 := M.four
    refine fun D nD => ?_
    have sD := same_upd nD (o := .dT [])
    have bD : b ≠ D := fun z => by rw [z, nD] at eb; cases eb
    refine ⟨_, rfl, b, rfl, ⟨_, lstOf (sD _ _ eb)⟩, for_list (K := K) (a := b) (xs := ns.map V.int) (fun i σ Hi => ∃ x3 x4 : Option V, σ = [some (.ref a), some (.ref b), some (.ref D), x3, x4] ∧ HadAt Hi D (addAll [] ((ns.take i).flatMap (marksL ms))) ∧ Same H Hi) ⟨none, none, rfl, HadAt.nil upd_same, sD⟩ (fun i σ Hi _ ⟨_, _, _, _, si⟩ => lstOf (si _ _ eb)) ?_ ?_⟩
    · rintro i y σ Hi hi ⟨x3, x4, rfl, hd, si⟩
      obtain ⟨x, hx, rfl⟩ := getMapInt' hi
      have il := (List.getElem?_eq_some_iff.mp hx).1
      have few : (addAll [] ((ns.take i).flatMap (marksL ms))).length ≤ 80 := by
        have := len_addAll (L := []) ((ns.take i).flatMap (marksL ms))
        rw [flat_len, List.length_take] at this
        have h2 : min i ns.length * ms.length ≤ 20 * 4 := Nat.mul_le_mul (by omega) m4
        simp only [List.length_nil] at this
        omega
      refine ⟨_, rfl, a, _, rfl, .inr (Same.seqTT si ta), _, rfl, by omega, by rw [List.length_map]; omega, ?_⟩
      rw [List.length_map, Int.toNat_natCast]
      rw [takeSucc hx, List.flatMap_append, addAll_cat, List.flatMap_cons, List.flatMap_nil, List.append_nil]
      generalize addAll [] ((ns.take i).flatMap (marksL ms)) = L at hd few ⊢
      refine for_range (lo := 0) (n := ms.length) (fun k σ Hk => ∃ x4 : Option V, σ = [some (.ref a), some (.ref b), some (.ref D), some (.int x), x4] ∧ HadAt Hk D (addAll L (marksTo ms x k)) ∧ Same H Hk) ⟨_, rfl, hd, si⟩ ?_ ?_
      · rintro k σ Hk hk ⟨x4', rfl, hdk, sk⟩
        have hm : ms[k]? = some ms[k] := List.getElem?_eq_getElem hk
        have mm := M.mod _ (List.getElem_mem hk)
        have eg : ms.getD k 1 = ms[k] := by rw [List.getD_eq_getElem?_getD, hm]; rfl
        have fk : (addAll L (marksTo ms x k)).length ≤ 1000 := by
          have := len_addAll (L := L) (marksTo ms x k)
          have e : (marksTo ms x k).length = k := by
            unfold marksTo
            rw [List.length_map, List.length_range]
          omega
        refine ⟨_, rfl, _, rfl, _, rfl, _, rfl, _, rfl, a, _, _, _, rfl, rfl, Same.seqTT sk ta, by rw [Int.zero_add]; exact atI_nat (j := k) (by rw [List.getElem?_map, hm]; rfl), _, _, rfl, rfl, by show (0 : Int) < ms[k]; omega, sizeOk (by show (2 : Nat) ≤ 100000; decide), fun u nu => ?_⟩
        have su := same_upd nu (o := .tup [.int (0 + (k : Int)), .int (x % ms[k])])
        have uD : D ≠ u := fun z => by
          obtain ⟨kvs, e, _⟩ := hdk.ex
          rw [z, nu] at e
          cases e
        obtain ⟨H', dp, ⟨o, rfl⟩, hd'⟩ := (hdk.stay fun o e => su _ _ e).put (b := u) (z := [((k : Nat) : Int), x % ms[k]]) fk (by rw [upd_same, Int.zero_add]; rfl) (.bl true)
        refine ⟨D, _, rfl, dp, _, rfl, ?_, samePut (sk.trans su) nD⟩
        rw [marksTo_succ, addAll_snoc, eg]
        exact hd'
      · rintro σ Hk ⟨x4', rfl, hdk, sk⟩
        exact ⟨_, _, rfl, hdk, sk⟩
    · rintro σ Hi ⟨x3, x4, rfl, hd, si⟩
      rw [List.length_map, List.take_length] at hd
      exact ⟨_, rfl, q D Hi si nD hd⟩
end

end R
namespace R
open PySem PySem.Spec PyProof.Rows L2
/-! ## rows counted by what was had -/
theorem len_same {xs ys : List (List Int)} (hx : xs.Nodup) (hy : ys.Nodup) (h : ∀ z, z ∈ xs ↔ z ∈ ys) : xs.length = ys.length :=
  Nat.le_antisymm (sub_len hx fun z hz => (h z).mp hz) (sub_len hy fun z hz => (h z).mpr hz)
/-- the marks of these numbers, each once -/
structure Hs (ms ns : List Int) (hl : List (List Int)) : Prop where
  nd : hl.Nodup
  mem : ∀ z, z ∈ hl ↔ z ∈ hadL ms ns
theorem Hs.len {ms ns : List Int} {hl : List (List Int)} (h : Hs ms ns hl) : hl.length = (hadL ms ns).length := len_same h.nd (nd_hadL ms ns) h.mem
theorem hs_of {ms ns : List Int} {sl : List (Int × Bool)} {hl : List (List Int)} (g : ∀ x, (x, true) ∈ sl ↔ x ∈ ns) (h : HeldIs ms sl hl) : Hs ms ns hl := by
  refine ⟨h.nd, fun z => ?_⟩
  rw [h.mem, mem_hadL]
  constructor
  · rintro ⟨⟨x, d⟩, hp, rfl, hz⟩
    exact ⟨x, (g x).mp hp, hz⟩
  · rintro ⟨x, hx, hz⟩
    exact ⟨(x, true), (g x).mpr hx, rfl, hz⟩
theorem Hs.more {ms ns ns0 : List Int} {hl hl2 : List (List Int)} {a : Int} (h : Hs ms ns hl) (h2 : ∀ z ∈ hl2, z ∈ hl) : Hs ms (ns ++ [a]) (hl ++ (leftOf ms hl2 a).filter fun z => decide (z ∉ hl)) := by
  refine ⟨?_, fun z => ?_⟩
  · rw [List.nodup_append]
    refine ⟨h.nd, ((marks_nodup ms a).filter _).filter _, fun x hx y hy e => ?_⟩
    subst e
    exact of_decide_eq_true (List.mem_filter.mp hy).2 hx
  · rw [List.mem_append, List.mem_filter, decide_eq_true_iff, mem_hadL]
    constructor
    · rintro (hz | ⟨hz, _⟩)
      · obtain ⟨x, hx, hz⟩ := mem_hadL.mp ((h.mem z).mp hz)
        exact ⟨x, List.mem_append_left _ hx, hz⟩
      · exact ⟨a, List.mem_append_right _ (List.mem_singleton.mpr rfl), (List.mem_filter.mp hz).1⟩
    · rintro ⟨x, hx, hz⟩
      by_cases e : z ∈ hl
      · exact .inl e
      · rcases List.mem_append.mp hx with hx | hx
        · exact .inl ((h.mem z).mpr (mem_hadL.mpr ⟨x, hx, hz⟩))
        · rw [List.mem_singleton.mp hx] at hz
          exact .inr ⟨List.mem_filter.mpr ⟨hz, decide_eq_true fun m => e (h2 z m)⟩, e⟩
/-- how many rows hold all the marks of some numbers -/
def powL (ms ns : List Int) : Int := 2 ^ ((uniL ms).length - (hadL ms ns).length)
theorem rows0 {ms ns : List Int} {hl : List (List Int)} (h : Hs ms ns hl) : rowsW (uniL ms).length hl [] = powL ms ns := by
  unfold rowsW powL
  rw [h.len]
theorem rows1 {ms ns : List Int} {hl hl2 : List (List Int)} (h : Hs ms ns hl) (h2 : ∀ z ∈ hl2, z ∈ hl) (a : Int) : rowsW (uniL ms).length hl [leftOf ms hl2 a] = powL ms ns - powL ms (ns ++ [a]) := by
  show rowsW _ hl [] - rowsW _ (hl ++ _) [] = _
  rw [rows0 h, rows0 (h.more (ns0 := ns) h2)]
theorem rows2 {ms ns : List Int} {hl hl2 : List (List Int)} (h : Hs ms ns hl) (h2 : ∀ z ∈ hl2, z ∈ hl) (a b : Int) : rowsW (uniL ms).length hl [leftOf ms hl2 a, leftOf ms hl2 b] = powL ms ns - powL ms (ns ++ [a]) - powL ms (ns ++ [b]) + powL ms (ns ++ [a, b]) := by
  show rowsW _ hl [leftOf ms hl2 b] - rowsW _ (hl ++ _) [leftOf ms hl2 b] = _
  rw [rows1 h h2, rows1 (h.more (ns0 := ns) h2) (fun z hz => List.mem_append_left _ (h2 z hz)), List.append_assoc]
  show _ - _ - (_ - powL ms (ns ++ [a, b])) = _
  omega
theorem had_le {ms : List Int} (M : MOk ms) (ns : List Int) : (hadL ms ns).length ≤ (uniL ms).length := sub_len (nd_hadL ms ns) fun z hz => by
  obtain ⟨x, _, hz⟩ := mem_hadL.mp hz
  exact marks_uni M hz
theorem pow_arg {ms : List Int} (M : MOk ms) (ns : List Int) : ms.sum - ((hadL ms ns).length : Nat) = (((uniL ms).length - (hadL ms ns).length : Nat) : Int) := by
  have h1 := (uni_len M).1
  have h2 := had_le M ns
  omega
/-- what was seen of numbers that fit -/
def gS (ns : List Int) : List (Int × Bool) := ns.map fun x => (x, true)
theorem gS_unheld (ms ns : List Int) (hl : List (List Int)) : unheldL ms hl (gS ns) = [] := by
  unfold unheldL gS
  rw [List.map_eq_nil_iff, List.filter_eq_nil_iff]
  intro p hp
  obtain ⟨x, _, rfl⟩ := List.mem_map.mp hp
  exact Bool.false_ne_true
theorem unheld_app (ms : List Int) (hl : List (List Int)) (s t : List (Int × Bool)) : unheldL ms hl (s ++ t) = unheldL ms hl s ++ unheldL ms hl t := by
  unfold unheldL
  rw [List.filter_append, List.map_append]
theorem unheld_one (ms : List Int) (hl : List (List Int)) (a : Int) : unheldL ms hl [(a, false)] = [leftOf ms hl a] := rfl
theorem gS_mem {ns : List Int} {x : Int} : (x, true) ∈ gS ns ↔ x ∈ ns := by
  unfold gS
  rw [List.mem_map]
  exact ⟨fun ⟨y, hy, e⟩ => (Prod.mk.inj e).1 ▸ hy, fun h => ⟨x, h, rfl⟩⟩
theorem no_true {x a : Int} : (x, true) ∈ [(a, false)] ↔ False := by
  rw [List.mem_singleton]
  exact ⟨fun e => (nomatch (Prod.mk.inj e).2), False.elim⟩
/-- the marks of a that were not had -/
def freeL (ms ns : List Int) (a : Int) : List (List Int) := (marksL ms a).filter fun z => decide (z ∉ hadL ms ns)
theorem free_left {ms ns : List Int} {hl : List (List Int)} (h : Hs ms ns hl) (a : Int) : leftOf ms hl a = freeL ms ns a := by
  unfold leftOf freeL
  exact List.filter_congr fun z _ => by rw [decide_eq_decide]; exact not_congr (h.mem z)
def sureK (ms ns : List Int) (k m : Nat) : List Int := ((List.range m).filter fun (r : Nat) => decide ([(k : Int), (r : Int)] ∈ hadL ms ns)).map fun (r : Nat) => (r : Int)
def freeK (fr : List (List Int)) (n k : Nat) : List Int := (fr.filter fun z => decide (z.getD 0 0 = (k : Int)) && decide (n = 1)).map fun z => z.getD 1 0
theorem sureK_succ (ms ns : List Int) (k m : Nat) : sureK ms ns k (m + 1) = sureK ms ns k m ++ (if decide ([(k : Int), (m : Int)] ∈ hadL ms ns) = true then [(m : Int)] else []) := by
  unfold sureK
  rw [List.range_succ, List.filter_append, List.map_append]
  by_cases e : decide ([(k : Int), (m : Int)] ∈ hadL ms ns) = true
  · rw [if_pos e, List.filter_cons_of_pos (by exact e)]
    rfl
  · rw [if_neg e, List.filter_cons_of_neg (by exact e)]
    rfl
theorem sureK_len (ms ns : List Int) (k m : Nat) : (sureK ms ns k m).length ≤ m := by
  unfold sureK
  rw [List.length_map]
  exact Nat.le_trans (List.length_filter_le _ _) (by rw [List.length_range]; exact Nat.le_refl _)
theorem freeK_len (fr : List (List Int)) (n k : Nat) : (freeK fr n k).length ≤ fr.length := by
  unfold freeK
  rw [List.length_map]
  exact List.length_filter_le _ _
theorem row_is {ms ns : List Int} (M : MOk ms) {hl : List (List Int)} (h : Hs ms ns hl) {a : Int} {k : Nat} (hk : k < ms.length) {p : List Int × List Int} (R : RowOk hl [freeL ms ns a] k p) :
    p = (sureK ms ns k (ms.getD k 1).toNat, freeK (freeL ms ns a) (freeL ms ns a).length k) := by
  have two : ∀ z ∈ freeL ms ns a, ∃ i r : Int, z = [i, r] := fun z hz => by
    obtain ⟨i, r, rfl, _⟩ := marks_two z (List.mem_filter.mp hz).1
    exact ⟨i, r, rfl⟩
  have inU : ∀ {r : Int}, [(k : Int), r] ∈ hadL ms ns → ∃ r' : Nat, r = (r' : Int) ∧ r' < (ms.getD k 1).toNat := fun {r} hm => by
    obtain ⟨x, _, hz⟩ := mem_hadL.mp hm
    obtain ⟨i, r', e, _, hr⟩ := mem_uni.mp (marks_uni M hz)
    have e1 := (List.cons.inj e).1
    have e2 := (List.cons.inj (List.cons.inj e).2).1
    have : k = i := by omega
    subst this
    exact ⟨r', e2, hr⟩
  obtain ⟨p1, p2⟩ := p
  have fk : ∀ r, r ∈ freeK (freeL ms ns a) (freeL ms ns a).length k ↔ freeL ms ns a = [[(k : Int), r]] := fun r => by
    unfold freeK
    rw [List.mem_map]
    constructor
    · rintro ⟨z, hz, rfl⟩
      obtain ⟨hz, c⟩ := List.mem_filter.mp hz
      rw [Bool.and_eq_true, decide_eq_true_iff, decide_eq_true_iff] at c
      obtain ⟨i, r, rfl⟩ := two z hz
      have c1 : i = (k : Int) := c.1
      match e : freeL ms ns a, c.2, hz with
      | [y], _, hz => rw [← List.mem_singleton.mp hz, c1]; rfl
    · intro e
      rw [e]
      exact ⟨[(k : Int), r], List.mem_filter.mpr ⟨List.mem_singleton.mpr rfl, by simp⟩, rfl⟩
  have up2 : (freeK (freeL ms ns a) (freeL ms ns a).length k).Pairwise (· < ·) := by
    by_cases c : (freeL ms ns a).length = 1
    · have l := freeK_len (freeL ms ns a) (freeL ms ns a).length k
      rw [c] at l ⊢
      match freeK (freeL ms ns a) 1 k, l with
      | [], _ => exact List.Pairwise.nil
      | [x], _ => exact List.pairwise_singleton _ _
    · have : freeK (freeL ms ns a) (freeL ms ns a).length k = [] := by
        unfold freeK
        rw [List.map_eq_nil_iff, List.filter_eq_nil_iff]
        intro z _ e
        rw [Bool.and_eq_true, decide_eq_true_iff, decide_eq_true_iff] at e
        exact c e.2
      rw [this]
      exact List.Pairwise.nil
  refine (Prod.mk.injEq ..).mpr ⟨asc_same R.up1 (upN _ _) fun r => ?_, asc_same R.up2 up2 fun r => ?_⟩
  · unfold sureK
    rw [R.mem1, h.mem, List.mem_map]
    constructor
    · intro hr
      obtain ⟨r', rfl, l⟩ := inU hr
      exact ⟨r', List.mem_filter.mpr ⟨List.mem_range.mpr l, decide_eq_true hr⟩, rfl⟩
    · rintro ⟨r', hr, rfl⟩
      exact of_decide_eq_true (List.mem_filter.mp hr).2
  · rw [R.mem2, fk, List.mem_singleton]
    exact ⟨fun e => e.symm, fun e => e.symm⟩
def hadTo (ms ns : List Int) (a : Int) (k : Nat) : List (List Int × List Int) := (List.range k).map fun i => (sureK ms ns i (ms.getD i 1).toNat, freeK (freeL ms ns a) (freeL ms ns a).length i)
theorem hadTo_succ (ms ns : List Int) (a : Int) (k : Nat) : hadTo ms ns a (k + 1) = hadTo ms ns a k ++ [(sureK ms ns k (ms.getD k 1).toNat, freeK (freeL ms ns a) (freeL ms ns a).length k)] := by
  unfold hadTo
  rw [List.range_succ, List.map_append]
  rfl
theorem had_rows {ms ns : List Int} (M : MOk ms) {hl : List (List Int)} (h : Hs ms ns hl) {a : Int} {rows : List (List Int × List Int)} (l : rows.length = ms.length) (ok : ∀ i p, rows[i]? = some p → RowOk hl [freeL ms ns a] i p) : rows = hadTo ms ns a ms.length := by
  refine List.ext_getElem? fun i => ?_
  by_cases hi : i < ms.length
  · have er : rows[i]? = some (rows[i]'(by omega)) := List.getElem?_eq_getElem (by omega)
    have := row_is M h hi (ok i _ er)
    unfold hadTo
    rw [er, this, List.getElem?_map, List.getElem?_range hi]
    rfl
  · unfold hadTo
    rw [List.getElem?_eq_none (by omega), List.getElem?_eq_none (by rw [List.length_map, List.length_range]; omega)]
theorem Drn.cat {H : Hp} {xs ys : List V} {sl tl : List (Int × Bool)} (h : Drn H xs sl) (g : Drn H ys tl) : Drn H (xs ++ ys) (sl ++ tl) := by
  refine ⟨by rw [List.length_append, List.length_append, h.len, g.len], fun i x q a b => ?_, fun q hq => ?_⟩
  · by_cases l : i < xs.length
    · rw [List.getElem?_append_left l] at a
      rw [List.getElem?_append_left (by rw [← h.len]; exact l)] at b
      exact h.at_ i x q a b
    · rw [List.getElem?_append_right (by omega)] at a
      rw [List.getElem?_append_right (by rw [← h.len]; omega), ← h.len] at b
      exact g.at_ _ x q a b
  · rcases List.mem_append.mp hq with hq | hq
    · exact h.num q hq
    · exact g.num q hq
theorem Drn.one {H : Hp} {t : Addr} {p : Int × Bool} (ht : H t = some (.tup [.int p.1, .bl p.2])) (hn : IsNum p.1) : Drn H [.ref t] [p] :=
  (show Drn H ([] ++ [.ref t]) ([] ++ [p]) from Drn.add ⟨rfl, fun i x p h _ => by simp at h, fun p hp => (by cases hp)⟩ ht hn)
theorem Drn.seen {K : PySem.W.Frag} {H : Hp} {D : Addr} {xs : List V} {sl : List (Int × Bool)} (h : Drn H xs sl) (e : H D = some (.lst xs)) : SeenAt K H D sl :=
  ⟨xs, .inl e, h.len, fun i x p a b => let ⟨t, e, q⟩ := h.at_ i x p a b; ⟨t, e, tupOf q⟩⟩
theorem sok_of {H : Hp} {xs : List V} {sl : List (Int × Bool)} (h : Drn H xs sl) (l : sl.length ≤ 8) : SOk sl := ⟨by omega, h.num, fun n => by
  unfold unfitTo
  have := List.length_filter_le (fun p : Int × Bool => !p.2) (sl.take n)
  rw [List.length_take] at this
  omega⟩
theorem HadAt.len {H : Hp} {D : Addr} {L : List (List Int)} (h : HadAt H D L) : ∃ kvs : List (List L2.Key × V), H D = some (.dT kvs) ∧ kvs.length = L.length := by
  obtain ⟨kvs, e, hk⟩ := h.ex
  have := congrArg List.length hk
  rw [List.length_map, List.length_map] at this
  exact ⟨kvs, e, this⟩
theorem gS_snoc (ns : List Int) (x : Int) : gS (ns ++ [x]) = gS ns ++ [(x, true)] := by
  unfold gS
  rw [List.map_append]
  rfl
theorem gS_len (ns : List Int) : (gS ns).length = ns.length := by
  unfold gS
  rw [List.length_map]
theorem same_held {ms : List Int} {sl : List (Int × Bool)} {hl hl2 : List (List Int)} (h : HeldIs ms sl hl) (h2 : HeldIs ms sl hl2) : ∀ z ∈ hl2, z ∈ hl := fun z hz => (h.mem z).mpr ((h2.mem z).mp hz)
theorem neI {x y : Int} (h : x = y) (e : (!decide (V.int x = V.int y)) = true) : False := by
  subst h
  rw [decide_eq_true rfl] at e
  cases e

end R
namespace R
open PySem PySem.Spec PyProof.Rows L2
/-! ## the law -/
def Far (x : Int) : Prop := -(10 ^ 17) < x ∧ x < 10 ^ 17
section
variable {P : Program} {w : World} {K : PySem.W.Frag} {mg : Str → Option Value} {base : Heap}
set_option maxHeartbeats 3200000 in
theorem ok_law (T : Txt K mg) : FnOk P w K mg base CX0 14 T.f_law T.fd_law ["_law_script"] (sp_law K) := by
  refine T.F_law.ok sc_law (fun vs H Q E h => ?_) (fun cdv A outer s H vs Q E hr h => ?_)
  · obtain ⟨a, ns, rfl, _⟩ := h
    rfl
  · obtain ⟨a, ns, rfl, hS, hl, q⟩ := h
    refine ⟨_, (pss_cons (ps_set (i := 1) sc_law.nd rfl (by first | exact .inl rfl | exact .inr rfl) (pe_call (ok_l_draws T) (hr.mono (by decide)) (by rfl) T.g_l_draws T.F_l_draws.kp T.b_l_draws .nil pass0 (pa_cons (pv 0) pa_nil)))
      (pss_cons (ps_set (i := 2) sc_law.nd rfl (by first | exact .inl rfl | exact .inr rfl) (pe_callTy call_tuple_of (by rfl) T.z_tuple (by decide +kernel) (pa_cons (pe_lc (own := [("_law_k", 14)]) rfl sc_law.nd (pi_range1 (by rfl) T.z_range (pa_cons (pe_op op_add pe_int (pe_call (ok_l_pick T) (hr.mono (by decide)) (by rfl) T.g_l_pick T.F_l_pick.kp T.b_l_pick .nil pass0 (pa_cons (pv 1) (pa_cons pe_int pa_nil)))) pa_nil)) (blkOk_by (N := ["_law_script", "_law_row", "_law_moduli", "_law_good", "_law_a", "_law_b", "_law_had_here", "_law_total", "_law_seen", "_law_one", "_law_two", "_law_found", "_law_free", "_law_due", "_law_k", "_law_sure", "_law_number", "_law_key", "_law_rest", "_law_j"]) (sc := defScope s_law) (by decide +kernel)) (fun _ _ _ _ _ => (pg_name (i := 14) sc_law.nd rfl (by first | exact .inl rfl | exact .inr rfl))) (fun _ _ _ _ _ => pts_nil) (fun _ _ _ _ _ => (pe_op op_add pe_int (pe_call (ok_l_pick T) (hr.mono (by decide)) (by rfl) T.g_l_pick T.F_l_pick.kp T.b_l_pick .nil pass0 (pa_cons (pv 1) (pa_cons pe_int pa_nil)))))) pa_nil)))
      (pss_cons (ps_setLc (i := 3) (own := [("_law_k", 14)]) rfl sc_law.nd rfl rfl (sw_true rfl rfl rfl (by decide +kernel)) (pi_range1 (by rfl) T.z_range (pa_cons (pe_call (ok_l_pick T) (hr.mono (by decide)) (by rfl) T.g_l_pick T.F_l_pick.kp T.b_l_pick .nil pass0 (pa_cons (pv 1) (pa_cons pe_int pa_nil))) pa_nil)) (blkOk_by (N := ["_law_script", "_law_row", "_law_moduli", "_law_good", "_law_a", "_law_b", "_law_had_here", "_law_total", "_law_seen", "_law_one", "_law_two", "_law_found", "_law_free", "_law_due", "_law_k", "_law_sure", "_law_number", "_law_key", "_law_rest", "_law_j"]) (sc := defScope s_law) (by decide +kernel)) (fun _ _ _ _ _ => (pg_name (i := 14) sc_law.nd rfl (by first | exact .inl rfl | exact .inr rfl))) (fun _ _ _ _ _ => pts_nil) (fun _ _ _ _ _ => (pe_call (ok_l_far T) (hr.mono (by decide)) (by rfl) T.g_l_far T.F_l_far.kp T.b_l_far .nil pass0 (pa_cons (pv 1) pa_nil))))
      (pss_cons (ps_par (i := 4) (j := 5) (by rfl) sc_law.nd rfl rfl (by decide) rfl rfl (pa_cons (pe_call (ok_l_far T) (hr.mono (by decide)) (by rfl) T.g_l_far T.F_l_far.kp T.b_l_far .nil pass0 (pa_cons (pv 1) pa_nil)) (pa_cons (pe_ix ix_list (pe_lst (pa_cons (pe_call (ok_l_far T) (hr.mono (by decide)) (by rfl) T.g_l_far T.F_l_far.kp T.b_l_far .nil pass0 (pa_cons (pv 1) pa_nil)) (pa_cons (pe_ix ix_list (pe_op op_cat (pv 3) (pe_lst (pa_cons pe_int pa_nil))) pe_int (fun _ _ => rfl)) pa_nil))) (pe_call (ok_l_pick T) (hr.mono (by decide)) (by rfl) T.g_l_pick T.F_l_pick.kp T.b_l_pick .nil pass0 (pa_cons (pv 1) (pa_cons pe_int pa_nil))) (fun _ _ => rfl)) pa_nil)) (by rfl))
      (pss_cons (ps_asg (pe_tup (pa_cons (pe_call (ok_l_had T) (hr.mono (by decide)) (by rfl) T.g_l_had T.F_l_had.kp T.b_l_had .nil pass0 (pa_cons (pv 2) (pa_cons (pv 3) pa_nil))) (pa_cons (pe_callB (cr_sumT rfl) (by rfl) T.z_sum (by decide +kernel) (pa_cons (pv 2) pa_nil)) pa_nil))) (pg_tup (by rfl) (pgs_cons (pg_name (i := 6) sc_law.nd rfl (by first | exact .inl rfl | exact .inr rfl)) (pgs_cons (pg_name (i := 7) sc_law.nd rfl (by first | exact .inl rfl | exact .inr rfl)) pgs_nil))))
      (pss_cons (ps_setLc (i := 8) (own := [("_law_number", 16)]) rfl sc_law.nd rfl rfl (sw_true rfl rfl rfl (by decide +kernel)) (pi_list (pv 3)) (blkOk_by (N := ["_law_script", "_law_row", "_law_moduli", "_law_good", "_law_a", "_law_b", "_law_had_here", "_law_total", "_law_seen", "_law_one", "_law_two", "_law_found", "_law_free", "_law_due", "_law_k", "_law_sure", "_law_number", "_law_key", "_law_rest", "_law_j"]) (sc := defScope s_law) (by decide +kernel)) (fun _ _ _ _ _ => (pg_name (i := 16) sc_law.nd rfl (by first | exact .inl rfl | exact .inr rfl))) (fun _ _ _ _ _ => pts_nil) (fun _ _ _ _ _ => (pe_tup (pa_cons (pv 16) (pa_cons pe_bl pa_nil)))))
      (pss_cons (ps_if (pt_cmpR op_ne (pe_call (ok_p_many_lots T) (hr.mono (by decide)) (by rfl) T.g_p_many_lots T.F_p_many_lots.kp T.b_p_many_lots .nil pass0 (pa_cons (pv 2) (pa_cons (pv 8) pa_nil))) (pe_call (ok_l_power T) (hr.mono (by decide)) (by rfl) T.g_l_power T.F_l_power.kp T.b_l_power .nil pass0 (pa_cons (pe_op op_sub (pv 7) (pe_callB call_len_dT (by rfl) T.z_len (by decide +kernel) (pa_cons (pv 6) pa_nil))) pa_nil)) (nomark _)) (pss_one (ps_ret pe_bl)) pss_nil)
      (pss_cons (ps_set (i := 9) sc_law.nd rfl (by first | exact .inl rfl | exact .inr rfl) (pe_op op_sub (pe_call (ok_l_power T) (hr.mono (by decide)) (by rfl) T.g_l_power T.F_l_power.kp T.b_l_power .nil pass0 (pa_cons (pe_op op_sub (pv 7) (pe_callB call_len_dT (by rfl) T.z_len (by decide +kernel) (pa_cons (pv 6) pa_nil))) pa_nil)) (pe_call (ok_l_power T) (hr.mono (by decide)) (by rfl) T.g_l_power T.F_l_power.kp T.b_l_power .nil pass0 (pa_cons (pe_op op_sub (pv 7) (pe_callB call_len_dT (by rfl) T.z_len (by decide +kernel) (pa_cons (pe_call (ok_l_had T) (hr.mono (by decide)) (by rfl) T.g_l_had T.F_l_had.kp T.b_l_had .nil pass0 (pa_cons (pv 2) (pa_cons (pe_op op_cat (pv 3) (pe_lst (pa_cons (pv 4) pa_nil))) pa_nil))) pa_nil))) pa_nil))))
      (pss_cons (ps_if (pt_cmpR op_ne (pe_call (ok_p_many_lots T) (hr.mono (by decide)) (by rfl) T.g_p_many_lots T.F_p_many_lots.kp T.b_p_many_lots .nil pass0 (pa_cons (pv 2) (pa_cons (pe_op op_cat (pe_lst (pa_cons (pe_tup (pa_cons (pv 4) (pa_cons pe_bl pa_nil))) pa_nil)) (pv 8)) pa_nil))) (pv 9) (nomark _)) (pss_one (ps_ret pe_bl)) pss_nil)
      (pss_cons (ps_set (i := 10) sc_law.nd rfl (by first | exact .inl rfl | exact .inr rfl) (pe_op op_sub (pv 9) (pe_call (ok_l_power T) (hr.mono (by decide)) (by rfl) T.g_l_power T.F_l_power.kp T.b_l_power .nil pass0 (pa_cons (pe_op op_sub (pv 7) (pe_callB call_len_dT (by rfl) T.z_len (by decide +kernel) (pa_cons (pe_call (ok_l_had T) (hr.mono (by decide)) (by rfl) T.g_l_had T.F_l_had.kp T.b_l_had .nil pass0 (pa_cons (pv 2) (pa_cons (pe_op op_cat (pv 3) (pe_lst (pa_cons (pv 5) pa_nil))) pa_nil))) pa_nil))) pa_nil))))
      (pss_cons (ps_set (i := 10) sc_law.nd rfl (by first | exact .inl rfl | exact .inr rfl) (pe_op op_add (pv 10) (pe_call (ok_l_power T) (hr.mono (by decide)) (by rfl) T.g_l_power T.F_l_power.kp T.b_l_power .nil pass0 (pa_cons (pe_op op_sub (pv 7) (pe_callB call_len_dT (by rfl) T.z_len (by decide +kernel) (pa_cons (pe_call (ok_l_had T) (hr.mono (by decide)) (by rfl) T.g_l_had T.F_l_had.kp T.b_l_had .nil pass0 (pa_cons (pv 2) (pa_cons (pe_op op_cat (pv 3) (pe_lst (pa_cons (pv 4) (pa_cons (pv 5) pa_nil)))) pa_nil))) pa_nil))) pa_nil))))
      (pss_cons (ps_if (pt_cmpR op_ne (pe_call (ok_p_many_lots T) (hr.mono (by decide)) (by rfl) T.g_p_many_lots T.F_p_many_lots.kp T.b_p_many_lots .nil pass0 (pa_cons (pv 2) (pa_cons (pe_op op_cat (pe_op op_cat (pe_lst (pa_cons (pe_tup (pa_cons (pv 4) (pa_cons pe_bl pa_nil))) pa_nil)) (pv 8)) (pe_lst (pa_cons (pe_tup (pa_cons (pv 5) (pa_cons pe_bl pa_nil))) pa_nil))) pa_nil))) (pv 10) (nomark _)) (pss_one (ps_ret pe_bl)) pss_nil)
      (C8.pss_cut (ps_set (i := 11) sc_law.nd rfl (by first | exact .inl rfl | exact .inr rfl) (pe_call (ok_l_told_there T) (hr.mono (by decide)) (by rfl) T.g_l_told_there T.F_l_told_there.kp T.b_l_told_there .nil pass0 (pa_cons (pv 2) (pa_cons (pe_op op_cat (pv 8) (pe_lst (pa_cons (pe_tup (pa_cons (pv 4) (pa_cons pe_bl pa_nil))) pa_nil))) pa_nil))))
      (pss_cons (ps_set (i := 12) sc_law.nd rfl (by first | exact .inl rfl | exact .inr rfl) (pe_lc (own := [("_law_key", 17)]) rfl sc_law.nd (pi_keys (pe_frz (pe_call (ok_l_had T) (hr.mono (by decide)) (by rfl) T.g_l_had T.F_l_had.kp T.b_l_had .nil pass0 (pa_cons (pv 2) (pa_cons (pe_lst (pa_cons (pv 4) pa_nil)) pa_nil))))) (blkOk_by (N := ["_law_script", "_law_row", "_law_moduli", "_law_good", "_law_a", "_law_b", "_law_had_here", "_law_total", "_law_seen", "_law_one", "_law_two", "_law_found", "_law_free", "_law_due", "_law_k", "_law_sure", "_law_number", "_law_key", "_law_rest", "_law_j"]) (sc := defScope s_law) (by decide +kernel)) (fun _ _ _ _ _ => (pg_name (i := 17) sc_law.nd rfl (by first | exact .inl rfl | exact .inr rfl))) (fun _ _ _ _ _ => (pts_one (pt_cmp (pc_dnotin (hu_of hr) (pv 17) (pv 6))))) (fun _ _ _ _ _ => (pv 17))))
      (pss_cons (ps_if (pt_cmpR (op_eqD hr.units) (pv 12) (pe_lst pa_nil) (nomark _)) (pss_one (ps_ret (pe_cmpR (op_eqD hr.units) (pv 11) pe_str (nomark _)))) pss_nil)
      (pss_cons (ps_set (i := 13) sc_law.nd rfl (by first | exact .inl rfl | exact .inr rfl) (pe_lst pa_nil))
      (pss_cons (ps_for PassesOwn.never rfl (pi_range1 (by rfl) T.z_range (pa_cons (pe_callB call_len_seq (by rfl) T.z_len (by decide +kernel) (pa_cons (pv 2) pa_nil)) pa_nil)) (pg_name (i := 14) sc_law.nd rfl (by first | exact .inl rfl | exact .inr rfl)) (pss_cons (ps_setLc (i := 15) (own := [("_law_rest", 18)]) rfl sc_law.nd rfl rfl (sw_true rfl rfl rfl (by decide +kernel)) (pi_range1 (by rfl) T.z_range (pa_cons (pe_ix (r := rIxT K) ix_tup (pv 2) (pv 14) (fun _ _ => rfl)) pa_nil)) (blkOk_by (N := ["_law_script", "_law_row", "_law_moduli", "_law_good", "_law_a", "_law_b", "_law_had_here", "_law_total", "_law_seen", "_law_one", "_law_two", "_law_found", "_law_free", "_law_due", "_law_k", "_law_sure", "_law_number", "_law_key", "_law_rest", "_law_j"]) (sc := defScope s_law) (by decide +kernel)) (fun _ _ _ _ _ => (pg_name (i := 18) sc_law.nd rfl (by first | exact .inl rfl | exact .inr rfl))) (fun _ _ _ _ _ => (pts_one (pt_cmp (pc_din (hu_of hr) (pe_tup (pa_cons (pv 14) (pa_cons (pv 18) pa_nil))) (pv 6))))) (fun _ _ _ _ _ => (pv 18)))
      (pss_one (ps_expr (pe_bm PySem.F.plainAttrs_list PySem.F.slot_list_append PySem.F.type_list_append mt_append (pv 13) (pa_cons (pe_tup (pa_cons (pv 15) (pa_cons (pe_lc (own := [("_law_j", 19), ("_law_rest", 18)]) (g := gTup K 2 (gCons (gName 19) (gCons (gName 18) (gNil)))) rfl sc_law.nd (pi_list (pv 12)) (blkOk_by (N := ["_law_script", "_law_row", "_law_moduli", "_law_good", "_law_a", "_law_b", "_law_had_here", "_law_total", "_law_seen", "_law_one", "_law_two", "_law_found", "_law_free", "_law_due", "_law_k", "_law_sure", "_law_number", "_law_key", "_law_rest", "_law_j"]) (sc := defScope s_law) (by decide +kernel)) (fun _ _ _ _ _ => (pg_tup (by rfl) (pgs_cons (pg_name (i := 19) sc_law.nd rfl (by first | exact .inl rfl | exact .inr rfl)) (pgs_cons (pg_name (i := 18) sc_law.nd rfl (by first | exact .inl rfl | exact .inr rfl)) pgs_nil)))) (fun _ _ _ _ _ => (pts_one (PW.pt (pw_and (pt_cmpR op_eq (pv 19) (pv 14) (nomark _)) (pw_and1 (pt_cmpR op_eq (pe_callB (r := rLenK K) call_len_seq (by rfl) T.z_len (by decide +kernel) (pa_cons (pv 12) pa_nil)) pe_int (nomark _))))))) (fun _ _ _ _ _ => (pv 18))) pa_nil))) pa_nil))))))
      (pss_one (ps_ret (pe_cmpR (op_eqD hr.units) (pv 11) (pv 13) (nomark _))))))))))))))))))))), ?_⟩
    refine ⟨_, rfl, a, ns, rfl, hS, fun r L H1 s1 R1 => ?_⟩
    refine ⟨_, rfl, r, L, 4, rfl, R1, by decide, by decide, fun n H2 n0 n1 k2 R2 => ⟨_, _, rfl, rfl, 1 + n, rfl, by omega, by omega, fun D nD => ?_⟩⟩
    have nDr := R2.new nD
    refine lc_range (lo := 0) (n := (1 + n).toNat) (fun j Hj => ∃ l : List Int, Hj D = some (.lst (l.map V.int)) ∧ l.length = j ∧ (∀ x ∈ l, 1 ≤ x ∧ x ≤ 30) ∧ Kp r H2 Hj ∧ RowAt Hj r L)
      ⟨[], upd_same, rfl, fun x h => by simp at h, Kp.new nD, R2.upd nDr⟩ ?_ ?_
    · rintro j Hj hj ⟨l, ej, lj, gj, kj, Rj⟩
      refine ⟨rfl, _, rfl, r, L, 30, rfl, Rj, by decide, by decide, fun z H5 z0 z1 k5 R5 => ⟨_, _, rfl, rfl, ?_⟩⟩
      refine ⟨_, k5 _ _ nDr.1 ej, ?_, l ++ [1 + z], ?_, by rw [List.length_append, lj]; rfl, fun x h => ?_, (kj.trans k5).add nD, R5.upd nDr⟩
      · rw [List.length_map]
        exact sizeLt (by omega)
      · rw [upd_same, List.map_append]
        rfl
      · rcases List.mem_append.mp h with h | h
        · exact gj x h
        · rw [List.mem_singleton.mp h]
          exact ⟨by omega, by omega⟩
    · rintro H3 ⟨ms, e3, l3, g3, k3, R3⟩
      have M : MOk ms := ⟨by omega, by omega, g3⟩
      refine ⟨D, _, rfl, .inl ⟨lstOf e3, fun p np => ?_⟩⟩
      have tp := tupOf (K := K) (upd_same (H := H3) (a := p) (o := .tup (ms.map V.int)))
      have R4 := R3.upd (o := .tup (ms.map V.int)) (R3.new np)
      generalize upd H3 p (.tup (ms.map V.int)) = H4 at tp R4 ⊢
      clear R3 k3 e3 nDr nD R2 k2
      refine ⟨_, rfl, r, L, 6, rfl, R4, by decide, by decide, fun m H5 m0 m1 k5 R5 => ⟨m, rfl, by omega, by omega, fun G nG => ?_⟩⟩
      have nGr := R5.new nG
      have tp5 := R4.tups k5 _ _ tp
      refine lc_range (lo := 0) (n := m.toNat) (fun j Hj => ∃ l : List Int, Hj G = some (.lst (l.map V.int)) ∧ l.length = j ∧ (∀ x ∈ l, Far x) ∧ Kp r H5 Hj ∧ RowAt Hj r L)
        ⟨[], upd_same, rfl, fun x h => by simp at h, Kp.new nG, R5.upd nGr⟩ ?_ ?_
      · rintro j Hj hj ⟨l, ej, lj, gj, kj, Rj⟩
        refine ⟨rfl, _, rfl, r, L, rfl, Rj, fun z H6 z0 z1 k6 R6 => ?_⟩
        refine ⟨_, k6 _ _ nGr.1 ej, ?_, l ++ [z], ?_, by rw [List.length_append, lj]; rfl, fun x h => ?_, (kj.trans k6).add nG, R6.upd nGr⟩
        · rw [List.length_map]
          exact sizeLt (by omega)
        · rw [upd_same, List.map_append]
          rfl
        · rcases List.mem_append.mp h with h | h
          · exact gj x h
          · rw [List.mem_singleton.mp h]
            exact ⟨z0, z1⟩
      · rintro H6 ⟨ns, e6, l6, g6, k6, R6⟩
        have tp6 := R5.tups k6 _ _ tp5
        have Gr := nGr
        refine ⟨_, rfl, r, L, rfl, R6, fun va H7 a0 a1 k7 R7 => ?_⟩
        refine ⟨_, rfl, r, L, rfl, R7, fun vb H8 b0 b1 k8 R8 => ⟨_, rfl, sizeOk (by show (1 : Nat) ≤ 100000; decide), fun l7 n7 => ?_⟩⟩
        have e8 := k8 _ _ Gr.1 (k7 _ _ Gr.1 e6)
        have s8 := same_upd n7 (o := .lst [.int 7])
        refine ⟨G, l7, _, _, rfl, rfl, s8 _ _ e8, upd_same, ?_, fun l8 n8 => ?_⟩
        · rw [List.length_map]
          exact sizeOk (by show ns.length + 1 ≤ 100000; omega)
        have s9 := same_upd n8 (o := .lst (ns.map V.int ++ [.int 7]))
        have e9 := upd_same (H := upd H8 l7 (.lst [.int 7])) (a := l8) (o := .lst (ns.map V.int ++ [.int 7]))
        have s89 := s8.trans s9
        generalize upd (upd H8 l7 (.lst [.int 7])) l8 (.lst (ns.map V.int ++ [.int 7])) = H9 at s9 e9 s89 ⊢
        obtain ⟨c0, hc0, gc0⟩ : ∃ c0, (ns.map V.int ++ [V.int 7])[0]? = some (V.int c0) ∧ Far c0 := by
          cases ns with
          | nil => exact ⟨7, rfl, by unfold Far; omega⟩
          | cons x r => exact ⟨x, rfl, g6 x List.mem_cons_self⟩
        have R9 := R8.stay s89
        refine ⟨l8, _, _, _, rfl, rfl, lstOf e9, atI_nat (j := 0) hc0, sizeOk (by show (2 : Nat) ≤ 100000; decide), fun lb nb => ?_⟩
        have sb := same_upd nb (o := .lst [.int vb, .int c0])
        have eb := upd_same (H := H9) (a := lb) (o := .lst [.int vb, .int c0])
        have Rb := R9.stay sb
        have nbr := R9.new nb
        generalize upd H9 lb (.lst [.int vb, .int c0]) = H10 at sb eb Rb ⊢
        refine ⟨_, rfl, r, L, 2, rfl, Rb, by decide, by decide, fun v H11 v0 v1 k11 R11 => ?_⟩
        have e11 := k11 _ _ nbr.1 eb
        obtain ⟨b, hb, gb⟩ : ∃ b, atI [V.int vb, V.int c0] v = some (V.int b) ∧ Far b := by
          rcases (by omega : v = 0 ∨ v = 1) with rfl | rfl
          · exact ⟨vb, atI_nat (j := 0) rfl, b0, b1⟩
          · exact ⟨c0, atI_nat (j := 1) rfl, gc0⟩
        have eG := k11 _ _ Gr.1 (sb _ _ (s89 _ _ e8))
        have tp11 := Rb.tups k11 _ _ (Same.seqTT sb (Same.seqTT s89 (R7.tups k8 _ _ (R6.tups k7 _ _ tp6))))
        refine ⟨lb, _, _, _, rfl, rfl, lstOf e11, hb, _, _, rfl, ?_⟩
        have ga : Far va := ⟨a0, a1⟩
        have n5 : ns.length ≤ 5 := by omega
        clear e11 k11 R11 nbr nb hb Rb eb R9 e9 s89 s9 hc0 gc0 n8 n7 s8 e8 k8 R8 k7 R7 R6 k6 tp6 tp5 k5 R5 R4 tp
        generalize hH : H11 = Hc at eG tp11 ⊢
        clear hH
        refine ⟨_, rfl, _, rfl, p, G, ms, ns, rfl, tp11, M, eG, by omega, fun HD Hd sd nd hd => ⟨_, rfl, p, ms, rfl, Same.seqTT sd tp11, sizeOk (by show (2 : Nat) ≤ 100000; decide), fun t nt => ⟨t, [_, _], rfl, tupOf upd_same, rfl, _, _, rfl, _, _, rfl, rfl, ?_⟩⟩⟩
        have st := same_upd nt (o := .tup [.ref HD, .int ms.sum])
        have sdt := sd.trans st
        have hd1 := hd.stay fun u e => st _ _ e
        have eG1 := sdt _ _ eG
        have tp1 := Same.seqTT sdt tp11
        generalize upd Hd t (.tup [.ref HD, .int ms.sum]) = He at st sdt hd1 eG1 tp1 ⊢
        clear st hd nt sd nd eG tp11 sdt
        refine ⟨_, rfl, G, rfl, ⟨_, lstOf eG1⟩, fun S nS => ?_⟩
        refine lc_list (K := K) (a := G) (xs := ns.map V.int) (fun j Hj => ∃ xs, Hj S = some (.lst xs) ∧ Drn Hj xs (gS (ns.take j)) ∧ Same He Hj) ⟨[], upd_same, ⟨rfl, fun i x p h _ => by simp at h, fun p hp => (by cases hp)⟩, same_upd nS⟩ (fun j Hj _ ⟨_, _, _, sj⟩ => lstOf (sj _ _ eG1)) ?_ ?_
        · rintro j y Hj hj ⟨xs, eS, dr, sj⟩
          obtain ⟨x, hx, rfl⟩ := getMapInt' hj
          have jl := (List.getElem?_eq_some_iff.mp hx).1
          refine ⟨rfl, _, rfl, sizeOk (by show (2 : Nat) ≤ 100000; decide), fun t nt => ?_⟩
          have st := same_upd nt (o := .tup [.int x, .bl true])
          have tS : t ≠ S := fun z => by rw [z, eS] at nt; cases nt
          have gx := g6 x (List.mem_of_getElem? hx)
          refine ⟨_, st _ _ eS, ?_, xs ++ [.ref t], upd_same, ?_, samePut (sj.trans st) nS⟩
          · rw [dr.len, gS_len, List.length_take]
            exact sizeLt (by omega)
          · rw [takeSucc hx, gS_snoc]
            refine (dr.stay fun a u q => ?_).add (p := (x, true)) ?_ ⟨by have := gx.1; omega, by have := gx.2; omega⟩
            · rw [upd_ne (fun z => by rw [z, eS] at q; cases q)]
              exact st _ _ q
            · rw [upd_ne tS, upd_same]
        · rintro Hs ⟨xs, eS, dr, ss⟩
          rw [List.length_map, List.take_length] at dr
          have eG2 := ss _ _ eG1
          have hd2 := hd1.stay fun u e => ss _ _ e
          have tp2 := Same.seqTT ss tp1
          clear eG1 hd1 tp1 ss nS
          obtain ⟨kvs, eHD, kl⟩ := hd2.len
          have u60 : (ns.flatMap (marksL ms)).length ≤ 60 := by
            rw [flat_len]
            have : ns.length * ms.length ≤ 5 * 4 := Nat.mul_le_mul n5 M.four
            omega
          have hU : ∀ {sl : List (Int × Bool)}, (∀ x, (x, true) ∈ sl ↔ x ∈ ns) → ∀ p ∈ sl, p.2 = true → ∀ z ∈ marksL ms p.1, z ∈ ns.flatMap (marksL ms) := fun {sl} g p hp e z hz => by
            obtain ⟨x, d⟩ := p
            have e' : d = true := e
            subst e'
            exact List.mem_flatMap.mpr ⟨x, (g x).mp hp, hz⟩
          have pl : ∀ ns : List Int, (uniL ms).length - (hadL ms ns).length ≤ 1000 := fun ns => by
            have := (uni_len M).2
            omega
          have g0 : ∀ x, (x, true) ∈ gS ns ↔ x ∈ ns := fun x => gS_mem
          refine ⟨_, rfl, _, rfl, p, S, ms, gS ns, _, rfl, tp2, M, dr.seen eS, sok_of dr (by rw [gS_len]; omega), u60, hU g0, fun hl hl2 Hm sm h1 h2 => ?_⟩
          rw [gS_unheld, rows0 (hs_of g0 h1)]
          have parg : ∀ (us : List Int) (n : Nat), n = (hadL ms us).length → [V.int (ms.sum - ((n : Nat) : Int))] = [V.int (((uniL ms).length - (hadL ms us).length : Nat) : Int)] := fun us n e => by
            rw [e, pow_arg M us]
          have dr' : ∀ {H' : Hp}, Same Hs H' → Drn H' xs (gS ns) := fun s => dr.stay fun a u e => s _ _ e
          have ia : IsNum va := ⟨by have := ga.1; omega, by have := ga.2; omega⟩
          have ib : IsNum b := ⟨by have := gb.1; omega, by have := gb.2; omega⟩
          refine ⟨_, rfl, _, rfl, HD, kvs, rfl, sm _ _ eHD, _, _, rfl, rfl, _, parg ns _ kl, pl ns, ?_⟩
          refine ⟨rfl, _, rfl, ite2 (fun e => (neI rfl e).elim) (fun _ => ?_)⟩
          refine ⟨_, rfl, _, rfl, HD, kvs, rfl, sm _ _ eHD, _, _, rfl, rfl, _, parg ns _ kl, pl ns, ?_⟩
          refine ⟨_, rfl, _, rfl, _, rfl, _, rfl, sizeOk (by show (1 : Nat) ≤ 100000; decide), fun l1 nl1 => ?_⟩
          have q1 := same_upd nl1 (o := .lst [.int va])
          refine ⟨G, l1, _, _, rfl, rfl, q1 _ _ (sm _ _ eG2), upd_same, ?_, fun l2 nl2 => ?_⟩
          · rw [List.length_map]
            exact sizeOk (by show ns.length + 1 ≤ 100000; omega)
          have q2 := (sm.trans q1).trans (same_upd nl2 (o := .lst (ns.map V.int ++ [.int va])))
          refine ⟨p, l2, ms, ns ++ [va], rfl, Same.seqTT q2 tp2, M, by rw [upd_same, List.map_append]; rfl, by rw [List.length_append, List.length_singleton]; omega, fun D1 H1' s1' n1' hd1' => ?_⟩
          obtain ⟨kv1, ek1, lk1⟩ := hd1'.len
          refine ⟨D1, kv1, rfl, ek1, _, _, rfl, rfl, _, parg (ns ++ [va]) _ lk1, pl _, _, _, rfl, rfl, ?_⟩
          have sX := q2.trans s1'
          clear sm q2 q1 nl1 nl2 s1' n1' hd1' ek1 lk1 h1 h2
          generalize H1' = HX at sX ⊢
          have eD1 : ∀ {H' : Hp}, Same Hs H' → SqT K H' p (ms.map V.int) := fun s => Same.seqTT s tp2
          have fa : ∀ x, (x, true) ∈ [(va, false)] ++ gS ns ↔ x ∈ ns := fun x => by
            rw [List.mem_append, no_true, g0]
            exact ⟨fun h => h.elim False.elim id, .inr⟩
          have un2 : ∀ (hl : List (List Int)) (a b : Int), unheldL ms hl ([(a, false)] ++ gS ns ++ [(b, false)]) = [leftOf ms hl a, leftOf ms hl b] := fun hl a b => by
            rw [unheld_app, unheld_app, unheld_one, unheld_one, gS_unheld]
            rfl
          refine ⟨_, rfl, _, rfl, sizeOk (by show (2 : Nat) ≤ 100000; decide), fun u nu => ⟨sizeOk (by show (1 : Nat) ≤ 100000; decide), fun w1 nw => ⟨_, rfl, ?_⟩⟩⟩
          have qu := same_upd nu (o := .tup [.int va, .bl false])
          have qw := same_upd nw (o := .lst [.ref u])
          have eu := qw _ _ (upd_same (H := HX) (a := u) (o := .tup [.int va, .bl false]))
          have ew := upd_same (H := upd HX u (.tup [.int va, .bl false])) (a := w1) (o := .lst [.ref u])
          have sY := (sX.trans qu).trans qw
          generalize upd (upd HX u (.tup [.int va, .bl false])) w1 (.lst [.ref u]) = HY at eu ew sY ⊢
          refine ⟨w1, S, _, _, rfl, rfl, ew, sY _ _ eS, sizeOk (by show 1 + xs.length ≤ 100000; have := dr.len; rw [gS_len] at this; omega), fun z nz => ?_⟩
          have dA : Drn HY ([.ref u] ++ xs) ([(va, false)] ++ gS ns) := (Drn.one eu ia).cat (dr' sY)
          have qz := same_upd nz (o := .lst ([.ref u] ++ xs))
          have sZ := sY.trans qz
          refine ⟨p, z, ms, [(va, false)] ++ gS ns, _, rfl, eD1 sZ, M, (dA.stay fun a u e => qz _ _ e).seen upd_same, sok_of dA (by rw [List.length_append, gS_len]; show 1 + _ ≤ 8; omega), u60, hU fa, fun hl hl2 Hn sn h1 h2 => ?_⟩
          have r1 : rowsW (uniL ms).length hl (unheldL ms hl2 ([(va, false)] ++ gS ns)) = powL ms ns - powL ms (ns ++ [va]) := by
            rw [unheld_app, unheld_one, gS_unheld]
            exact rows1 (hs_of fa h1) (same_held h1 h2) va
          rw [r1]
          have sN := sZ.trans sn
          clear sn h1 h2 r1 qz nz dA qu qw eu ew nu nw sY sZ sX
          generalize Hn = HN at sN ⊢
          refine ⟨_, rfl, rfl, _, rfl, ite2 (fun e => (neI rfl e).elim) (fun _ => ?_)⟩
          have eD : ∀ {H' : Hp}, Same Hs H' → H' HD = some (.dT kvs) := fun s => s _ _ eHD
          -- two
          refine ⟨_, rfl, _, rfl, _, rfl, _, rfl, _, rfl, sizeOk (by show (1 : Nat) ≤ 100000; decide), fun l3 nl3 => ?_⟩
          have q3 := same_upd nl3 (o := .lst [.int b])
          refine ⟨G, l3, _, _, rfl, rfl, q3 _ _ (sN _ _ eG2), upd_same, ?_, fun l4 nl4 => ?_⟩
          · rw [List.length_map]
            exact sizeOk (by show ns.length + 1 ≤ 100000; omega)
          have q4 := (sN.trans q3).trans (same_upd nl4 (o := .lst (ns.map V.int ++ [.int b])))
          refine ⟨p, l4, ms, ns ++ [b], rfl, eD1 q4, M, by rw [upd_same, List.map_append]; rfl, by rw [List.length_append, List.length_singleton]; omega, fun D2 H2' s2' n2' hd2' => ?_⟩
          obtain ⟨kv2, ek2, lk2⟩ := hd2'.len
          refine ⟨D2, kv2, rfl, ek2, _, _, rfl, rfl, _, parg (ns ++ [b]) _ lk2, pl _, _, _, rfl, rfl, ?_⟩
          have s2 := q4.trans s2'
          clear q3 q4 nl3 nl4 s2' n2' hd2' ek2 lk2 sN
          generalize H2' = HB at s2 ⊢
          refine ⟨_, rfl, _, rfl, _, rfl, _, rfl, _, rfl, _, rfl, sizeOk (by show (2 : Nat) ≤ 100000; decide), fun l3 nl3 => ?_⟩
          have q3 := same_upd nl3 (o := .lst [.int va, .int b])
          refine ⟨G, l3, _, _, rfl, rfl, q3 _ _ (s2 _ _ eG2), upd_same, ?_, fun l4 nl4 => ?_⟩
          · rw [List.length_map]
            exact sizeOk (by show ns.length + 2 ≤ 100000; omega)
          have q4 := (s2.trans q3).trans (same_upd nl4 (o := .lst (ns.map V.int ++ [.int va, .int b])))
          refine ⟨p, l4, ms, ns ++ [va, b], rfl, eD1 q4, M, by rw [upd_same, List.map_append]; rfl, by rw [List.length_append]; show ns.length + 2 ≤ 20; omega, fun D3 H3' s3' n3' hd3' => ?_⟩
          obtain ⟨kv3, ek3, lk3⟩ := hd3'.len
          refine ⟨D3, kv3, rfl, ek3, _, _, rfl, rfl, _, parg (ns ++ [va, b]) _ lk3, pl _, _, _, rfl, rfl, ?_⟩
          have s3 := q4.trans s3'
          clear q3 q4 nl3 nl4 s3' n3' hd3' ek3 lk3 s2
          generalize H3' = HC at s3 ⊢
          refine ⟨_, rfl, _, rfl, sizeOk (by show (2 : Nat) ≤ 100000; decide), fun u nu => ⟨sizeOk (by show (1 : Nat) ≤ 100000; decide), fun w1 nw => ⟨_, rfl, ?_⟩⟩⟩
          have qu := same_upd nu (o := .tup [.int va, .bl false])
          have qw := same_upd nw (o := .lst [.ref u])
          have eu := qw _ _ (upd_same (H := HC) (a := u) (o := .tup [.int va, .bl false]))
          have ew := upd_same (H := upd HC u (.tup [.int va, .bl false])) (a := w1) (o := .lst [.ref u])
          have sY := (s3.trans qu).trans qw
          generalize upd (upd HC u (.tup [.int va, .bl false])) w1 (.lst [.ref u]) = HY at eu ew sY ⊢
          refine ⟨w1, S, _, _, rfl, rfl, ew, sY _ _ eS, sizeOk (by show 1 + xs.length ≤ 100000; have := dr.len; rw [gS_len] at this; omega), fun z nz => ⟨_, rfl, sizeOk (by show (2 : Nat) ≤ 100000; decide), fun u2 nu2 => ⟨sizeOk (by show (1 : Nat) ≤ 100000; decide), fun w2 nw2 => ?_⟩⟩⟩
          have dA : Drn HY ([.ref u] ++ xs) ([(va, false)] ++ gS ns) := (Drn.one eu ia).cat (dr' sY)
          have qz := same_upd nz (o := .lst ([.ref u] ++ xs))
          have qu2 := same_upd nu2 (o := .tup [.int b, .bl false])
          have qw2 := same_upd nw2 (o := .lst [.ref u2])
          have ez := qw2 _ _ (qu2 _ _ (upd_same (H := HY) (a := z) (o := .lst ([.ref u] ++ xs))))
          have eu2 := qw2 _ _ (upd_same (H := upd HY z (.lst ([.ref u] ++ xs))) (a := u2) (o := .tup [.int b, .bl false]))
          have ew2 := upd_same (H := upd (upd HY z (.lst ([.ref u] ++ xs))) u2 (.tup [.int b, .bl false])) (a := w2) (o := .lst [.ref u2])
          have sZ := (qz.trans qu2).trans qw2
          generalize upd (upd (upd HY z (.lst ([.ref u] ++ xs))) u2 (.tup [.int b, .bl false])) w2 (.lst [.ref u2]) = HZ at ez eu2 ew2 sZ ⊢
          refine ⟨z, w2, _, _, rfl, rfl, ez, ew2, sizeOk (by rw [List.length_append]; show 1 + xs.length + 1 ≤ 100000; have := dr.len; rw [gS_len] at this; omega), fun z2 nz2 => ?_⟩
          have dB : Drn HZ ([.ref u] ++ xs ++ [.ref u2]) ([(va, false)] ++ gS ns ++ [(b, false)]) := (dA.stay fun a u e => sZ _ _ e).cat (Drn.one eu2 ib)
          have qz2 := same_upd nz2 (o := .lst ([.ref u] ++ xs ++ [.ref u2]))
          have sW := (sY.trans sZ).trans qz2
          have fb : ∀ x, (x, true) ∈ [(va, false)] ++ gS ns ++ [(b, false)] ↔ x ∈ ns := fun x => by
            rw [List.mem_append, fa, no_true]
            exact ⟨fun h => h.elim id False.elim, .inl⟩
          refine ⟨p, z2, ms, [(va, false)] ++ gS ns ++ [(b, false)], _, rfl, eD1 sW, M, (dB.stay fun a u e => qz2 _ _ e).seen upd_same, sok_of dB (by rw [List.length_append, List.length_append, gS_len]; show 1 + _ + 1 ≤ 8; omega), u60, hU fb, fun hl hl2 Hn sn h1 h2 => ?_⟩
          have r1 : rowsW (uniL ms).length hl (unheldL ms hl2 ([(va, false)] ++ gS ns ++ [(b, false)])) = powL ms ns - powL ms (ns ++ [va]) - powL ms (ns ++ [b]) + powL ms (ns ++ [va, b]) := by
            rw [un2]
            exact rows2 (hs_of fb h1) (same_held h1 h2) va b
          rw [r1]
          have sN := sW.trans sn
          clear sn h1 h2 r1 qz2 nz2 dB sZ ew2 eu2 ez qw2 qu2 qz dA nw2 nu2 nz sY ew eu qw qu nw nu s3 sW fb
          generalize Hn = HN at sN ⊢
          refine ⟨_, rfl, rfl, _, rfl, ite2 (fun e => (neI rfl e).elim) (fun _ => ?_)⟩
          -- told
          refine ⟨fun σ H' => ∃ (x9 x10 : Option V) (x11 : V), σ = [some (.ref a), some (.ref r), some (.ref p), some (.ref G), some (.int va), some (.int b), some (.ref HD), some (.int ms.sum), some (.ref S), x9, x10, some x11, none, none, none, none, none, none, none, none] ∧ Same Hs H' ∧ ((freeL ms ns va = [] ∧ x11 = .str "nothing") ∨ (¬ freeL ms ns va = [] ∧ ∃ (D : Addr) (ys : List V), x11 = .ref D ∧ H' D = some (.lst ys) ∧ PLAt H' ys (hadTo ms ns va ms.length))), ?_, ?_⟩
          rotate_left
          · rintro σ HT ⟨x9, x10, x11, rfl, sT, hx⟩
            have eG3 := sT _ _ eHD
            have hd3 := hd2.stay fun u e => sT _ _ e
            have tp3 := eD1 sT
            refine ⟨_, rfl, _, rfl, sizeOk (by show (1 : Nat) ≤ 100000; decide), fun l3 nl3 => ?_⟩
            have q3 := same_upd nl3 (o := .lst [.int va])
            refine ⟨p, l3, ms, [va], rfl, eD1 (sT.trans q3), M, by rw [upd_same]; rfl, (by show (1 : Nat) ≤ 20; decide), fun DK HK sK nK hK => ?_⟩
            rw [hadL_one] at hK
            obtain ⟨kws, eDK, hkws⟩ := hK.ex
            have klen : kws.length = (marksL ms va).length := by
              have := congrArg List.length hkws
              rwa [List.length_map, List.length_map] at this
            have sTK := sT.trans (q3.trans sK)
            refine ⟨DK, _, rfl, eDK, trivial, fun od => ?_⟩
            refine ⟨DK, od, rfl, .inr ⟨kws, upd_same, fun F nF => ?_⟩⟩
            have nT : HT DK = none := by
              cases z : HT DK with
              | none => rfl
              | some o => rw [q3 _ _ z] at nK; cases nK
            have sF := samePut (o := .frz od (.dT kws)) (q3.trans sK) nT
            have eF := upd_same (H := HK) (a := DK) (o := .frz od (.dT kws))
            generalize upd HK DK (.frz od (.dT kws)) = HF at nF sF eF ⊢
            have sTF := sT.trans sF
            have hdF := hd2.stay fun u e => sTF _ _ e
            refine lc_it (walk_keysT (d := DK) (o := od) (kvs := kws)) (fun j Hj => TupsAt K Hj F (((marksL ms va).take j).filter fun z => decide (z ∉ hadL ms ns)) ∧ Same HF Hj) ⟨TupsAt.nil upd_same, same_upd nF⟩ (fun j Hj _ ⟨_, sj⟩ => sj _ _ eF) ?_ ?_
            · rintro j y Hj H2 hj ⟨TF, sj⟩ ⟨rfl, k, v, qa, hk, rfl, eqa⟩
              obtain ⟨z, hz, rfl⟩ : ∃ z, (marksL ms va)[j]? = some z ∧ kz z = k := by
                have := congrArg (fun l => l[j]?) hkws
                simp only [List.getElem?_map, hk] at this
                obtain ⟨z, h1, h2⟩ := Option.map_eq_some_iff.mp this.symm
                exact ⟨z, h1, h2⟩
              rw [kz_kV] at eqa
              obtain ⟨ov, dg, io⟩ := (hdF.stay fun u e => sj _ _ e).has eqa
              refine ⟨rfl, _, rfl, _, rfl, HD, ov, rfl, dg, _, rfl, ?_⟩
              rw [io]
              have tk := takeFilter (p := fun z => decide (z ∉ hadL ms ns)) hz
              rw [← decide_not]
              refine ite2 (fun e => ?_) (fun e => ?_)
              · obtain ⟨ts, et, lt, TN⟩ := TF.push (t := qa) (l := z) (tupOf eqa)
                refine ⟨_, rfl, _, et, ?_, ?_, samePut sj nF⟩
                · rw [List.length_map, lt]
                  have := List.length_filter_le (fun z => decide (z ∉ hadL ms ns)) ((marksL ms va).take j)
                  rw [List.length_take, marks_len] at this
                  have := M.four
                  exact sizeLt (by omega)
                · rw [tk, if_pos e]
                  exact TN
              · rw [tk, if_neg e, List.append_nil]
                exact ⟨TF, sj⟩
            · rintro HE ⟨TF, sE⟩
              rw [klen, List.take_length] at TF
              have TF' : TupsAt K HE F (freeL ms ns va) := TF
              clear TF
              have sTE := sTF.trans sE
              have sHE : Same HT HE := sF.trans sE
              refine ⟨_, rfl, Nat.zero_le _, fun y ny => ?_⟩
              have sy := same_upd ny (o := .lst [])
              refine ⟨_, _, (TF'.stay sy).dp, .lst (lstOf upd_same) .nil, okTupsS _, by decide, _, rfl, ?_⟩
              rw [eqvTupsNil]
              have os : okD 0 (.str (Str.ofString "nothing")) := ⟨by rw [PyData.canLay0] <;> decide +kernel, by rw [PyData.depth]; exact Nat.le_refl _⟩
              refine ite2 (fun e => ?_) (fun e => ?_)
              · rcases hx with ⟨_, rfl⟩ | ⟨n, _⟩
                · refine ⟨_, rfl, _, _, .str _, .str _, os.shaped (by decide), os.shaped (by decide), ?_⟩
                  rw [os.eqv]
                  exact q _
                · exact absurd (of_decide_eq_true e) n
              · obtain ⟨nf, DF, ys, rfl, eDF, PLF⟩ : ¬ freeL ms ns va = [] ∧ ∃ (D : Addr) (ys : List V), x11 = .ref D ∧ HT D = some (.lst ys) ∧ PLAt HT ys (hadTo ms ns va ms.length) := by
                  rcases hx with ⟨z, _⟩ | h
                  · exact absurd (decide_eq_true z) e
                  · exact h
                have s0 := sHE.trans sy
                have TF0 := TF'.stay sy
                clear TF'
                generalize upd HE y (.lst []) = H0 at sy s0 TF0 ⊢
                have tp0 := eD1 (sT.trans s0)
                have hd0 := hd2.stay fun u e => (sT.trans s0) _ _ e
                have eDF0 := s0 _ _ eDF
                have PL0 := PLF.same s0
                have fl4 : (freeL ms ns va).length ≤ 4 := by
                  have := List.length_filter_le (fun z => decide (z ∉ hadL ms ns)) (marksL ms va)
                  rw [marks_len] at this
                  have := M.four
                  unfold freeL
                  omega
                obtain ⟨ts, et, lt, ft⟩ := TF0.ex
                refine ⟨Nat.zero_le _, fun U0 nU => ?_⟩
                refine ⟨_, rfl, p, _, rfl, .inr (Same.seqTT (same_upd nU) tp0), _, rfl, by omega, by rw [List.length_map]; have := M.four; omega, ?_⟩
                rw [List.length_map, Int.toNat_natCast]
                have ml := M.four
                refine for_range (lo := 0) (n := ms.length) (fun k σ Hk => ∃ (x14 x15 : Option V) (zs : List V), σ = [some (.ref a), some (.ref r), some (.ref p), some (.ref G), some (.int va), some (.int b), some (.ref HD), some (.int ms.sum), some (.ref S), x9, x10, some (.ref DF), some (.ref F), some (.ref U0), x14, x15, none, none, none, none] ∧ Hk U0 = some (.lst zs) ∧ PLAt (upd Hk U0 (.tup [])) zs (hadTo ms ns va k) ∧ Same H0 Hk)
                  ⟨none, none, [], rfl, upd_same, ⟨rfl, fun i x p a _ => by simp at a⟩, same_upd nU⟩ ?_ ?_
                · rintro k σ Hk hk ⟨x14, x15, zs, rfl, eU, PL, sk⟩
                  have hm : ms[k]? = some ms[k] := List.getElem?_eq_getElem hk
                  have mm := M.mod _ (List.getElem_mem hk)
                  have eg : ms.getD k 1 = ms[k] := by rw [List.getD_eq_getElem?_getD, hm]; rfl
                  have tpk := Same.seqTT sk tp0
                  have hdk := hd0.stay fun u e => sk _ _ e
                  have at_ : atI (ms.map V.int) (0 + (k : Int)) = some (V.int ms[k]) := by
                    rw [Int.zero_add]
                    exact atI_nat (j := k) (by rw [List.getElem?_map, hm]; rfl)
                  refine ⟨_, rfl, _, rfl, p, _, _, _, rfl, rfl, tpk, at_, _, rfl, by omega, by omega, fun Z nZ => ?_⟩
                  refine lc_range (lo := 0) (n := ms[k].toNat) (fun i Hi => Hi Z = some (.lst ((sureK ms ns k i).map V.int)) ∧ Same Hk Hi) ⟨upd_same, same_upd nZ⟩ ?_ ?_
                  · rintro i Hi hi ⟨eZ, si⟩
                    refine ⟨rfl, _, rfl, _, rfl, sizeOk (by show (2 : Nat) ≤ 100000; decide), fun u nu => ?_⟩
                    have su := same_upd nu (o := .tup [.int (0 + (k : Int)), .int (0 + (i : Int))])
                    obtain ⟨ov, dg, io⟩ := (hdk.stay fun u e => (si.trans su) _ _ e).has (b := u) (z := [(k : Int), (i : Int)]) (by rw [upd_same, Int.zero_add, Int.zero_add]; rfl)
                    refine ⟨_, rfl, HD, ov, rfl, dg, _, rfl, ?_⟩
                    rw [io, sureK_succ]
                    refine ite2 (fun e => ?_) (fun e => ?_)
                    · rw [if_pos e]
                      refine ⟨_, rfl, _, su _ _ eZ, ?_, ?_, samePut (si.trans su) nZ⟩
                      · have := sureK_len ms ns k i
                        rw [List.length_map]
                        exact sizeLt (by omega)
                      · rw [upd_same, List.map_append, Int.zero_add]
                        rfl
                    · rw [if_neg e, List.append_nil]
                      exact ⟨su _ _ eZ, si.trans su⟩
                  · rintro Hz ⟨eZ, sz⟩
                    have eUz := sz _ _ eU
                    refine ⟨_, rfl, .inl ⟨rfl, _, lstOf eUz⟩, _, rfl, _, rfl, F, rfl, ⟨_, lstOf (sz _ _ (sk _ _ et))⟩, fun Z2 nZ2 => ?_⟩
                    refine lc_list (K := K) (a := F) (xs := ts.map V.ref) (fun j Hj => Hj Z2 = some (.lst ((freeK ((freeL ms ns va).take j) (freeL ms ns va).length k).map V.int)) ∧ Same Hz Hj) ⟨upd_same, same_upd nZ2⟩ (fun j Hj _ ⟨_, sj⟩ => lstOf (sj _ _ (sz _ _ (sk _ _ et)))) ?_ ?_
                    · rintro j y Hj hj ⟨eZ2, sj⟩
                      rw [List.getElem?_map] at hj
                      obtain ⟨t, ht, rfl⟩ := Option.map_eq_some_iff.mp hj
                      have jl := (List.getElem?_eq_some_iff.mp ht).1
                      obtain ⟨z, hz⟩ : ∃ z, (freeL ms ns va)[j]? = some z := ⟨_, List.getElem?_eq_getElem (by omega)⟩
                      have sq := Same.seqTT ((sk.trans sz).trans sj) (ft j t z ht hz)
                      obtain ⟨i0, r0, rfl, _⟩ := marks_two z (List.mem_filter.mp (List.mem_of_getElem? hz)).1
                      have fs : freeK ((freeL ms ns va).take (j + 1)) (freeL ms ns va).length k = freeK ((freeL ms ns va).take j) (freeL ms ns va).length k ++ (if (decide (V.int (i0 : Int) = V.int (0 + (k : Int))) && decide (V.int ((freeL ms ns va).length : Int) = V.int 1)) = true then [r0] else []) := by
                        unfold freeK
                        rw [takeFilter hz, List.map_append]
                        refine congrArg (_ ++ ·) ?_
                        have e1 : (decide (([(i0 : Int), r0] : List Int).getD 0 0 = (k : Int)) && decide ((freeL ms ns va).length = 1)) = (decide (V.int (i0 : Int) = V.int (0 + (k : Int))) && decide (V.int ((freeL ms ns va).length : Int) = V.int 1)) := by
                          congr 1
                          · exact decide_eq_decide.mpr ⟨fun h => congrArg V.int (by rw [Int.zero_add]; exact h), fun h => by have := V.int.inj h; rw [Int.zero_add] at this; exact this⟩
                          · exact decide_eq_decide.mpr ⟨fun h => congrArg V.int (by rw [h]; rfl), fun h => by have := V.int.inj h; omega⟩
                        rw [e1]
                        split <;> rfl
                      refine ⟨t, [_, _], rfl, sq, rfl, _, _, rfl, _, _, rfl, rfl, rfl, ?_⟩
                      have add : (decide (V.int (i0 : Int) = V.int (0 + (k : Int))) && decide (V.int ((freeL ms ns va).length : Int) = V.int 1)) = true → upd Hj Z2 (.lst ((freeK ((freeL ms ns va).take j) (freeL ms ns va).length k).map V.int ++ [V.int r0])) Z2 = some (.lst ((freeK ((freeL ms ns va).take (j + 1)) (freeL ms ns va).length k).map V.int)) := fun e => by
                        rw [fs, if_pos e, upd_same, List.map_append]
                        rfl
                      have sub : ¬ (decide (V.int (i0 : Int) = V.int (0 + (k : Int))) && decide (V.int ((freeL ms ns va).length : Int) = V.int 1)) = true → Hj Z2 = some (.lst ((freeK ((freeL ms ns va).take (j + 1)) (freeL ms ns va).length k).map V.int)) := fun e => by
                        rw [fs, if_neg e, List.append_nil]
                        exact eZ2
                      have few : ((freeK ((freeL ms ns va).take j) (freeL ms ns va).length k).map V.int).length < sizeLine := by
                        have := freeK_len ((freeL ms ns va).take j) (freeL ms ns va).length k
                        rw [List.length_take] at this
                        rw [List.length_map]
                        exact sizeLt (by omega)
                      clear fs
                      refine ⟨_, rfl, _, rfl, rfl, _, rfl, ite2 (fun e1 => ?_) (fun e1 => ?_)⟩
                      · refine ⟨_, rfl, F, _, rfl, .inl (lstOf (sj _ _ (sz _ _ (sk _ _ et)))), rfl, _, rfl, ?_⟩
                        rw [List.length_map, lt]
                        refine ite2 (fun e2 => ?_) (fun e2 => ?_)
                        · exact ⟨_, rfl, _, eZ2, few, add (Bool.and_eq_true_iff.mpr ⟨e1, e2⟩), samePut sj nZ2⟩
                        · exact ⟨sub fun z => e2 (Bool.and_eq_true_iff.mp z).2, sj⟩
                      · exact ⟨sub fun z => e1 (Bool.and_eq_true_iff.mp z).1, sj⟩
                    · rintro Hw ⟨eZ2, sw⟩
                      rw [List.length_map, lt, List.take_length] at eZ2
                      refine ⟨sizeOk (by show (2 : Nat) ≤ 100000; decide), fun t nt => ?_⟩
                      have st := same_upd nt (o := .tup [.ref Z, .ref Z2])
                      have eUw := sw _ _ eUz
                      have eZw := sw _ _ eZ
                      have tU : t ≠ U0 := fun z => by rw [z, eUw] at nt; cases nt
                      have ZU : Z ≠ U0 := fun z => by rw [z, eU] at nZ; cases nZ
                      have Z2U : Z2 ≠ U0 := fun z => by rw [z, eUz] at nZ2; cases nZ2
                      have tZ : t ≠ Z := fun z => by rw [z, eZw] at nt; cases nt
                      have tZ2 : t ≠ Z2 := fun z => by rw [z, eZ2] at nt; cases nt
                      have skw := (sz.trans sw).trans st
                      refine ⟨U0, _, _, rfl, rfl, st _ _ eUw, ?_, _, some (.ref Z), zs ++ [.ref t], rfl, upd_same, ?_, samePut (sk.trans skw) nU⟩
                      · have := PL.len
                        unfold hadTo at this
                        rw [List.length_map, List.length_range] at this
                        exact sizeLt (by omega)
                      · rw [upd_upd, hadTo_succ, eg]
                        refine PLAt.add (t := t) (d := Z) (e := Z2) (p := (sureK ms ns k ms[k].toNat, freeK (freeL ms ns va) (freeL ms ns va).length k)) (PL.same (sameUpd skw)) ?_ ?_ ?_
                        · rw [upd_ne tU, upd_same]
                        · rw [upd_ne ZU, upd_ne (Ne.symm tZ), eZw]
                        · rw [upd_ne Z2U, upd_ne (Ne.symm tZ2), eZ2]
                · rintro σ Hk ⟨x14, x15, zs, rfl, eU, PL, sk⟩
                  have PLk := PL.off
                  refine ⟨_, rfl, _, rfl, _, _, .lst (lstOf (sk _ _ eDF0)) (PL0.same sk).dp, .lst (lstOf eU) PLk.dp, (okRows _).shaped (by decide), (okRows _).shaped (by decide), ?_⟩
                  rw [(okRows _).eqv]
                  exact q _
          refine ⟨_, rfl, _, rfl, _, rfl, sizeOk (by show (2 : Nat) ≤ 100000; decide), fun u nu => ⟨sizeOk (by show (1 : Nat) ≤ 100000; decide), fun w1 nw => ?_⟩⟩
          have qu := same_upd nu (o := .tup [.int va, .bl false])
          have qw := same_upd nw (o := .lst [.ref u])
          have eu := qw _ _ (upd_same (H := HN) (a := u) (o := .tup [.int va, .bl false]))
          have ew := upd_same (H := upd HN u (.tup [.int va, .bl false])) (a := w1) (o := .lst [.ref u])
          have sY := (sN.trans qu).trans qw
          generalize upd (upd HN u (.tup [.int va, .bl false])) w1 (.lst [.ref u]) = HY at eu ew sY ⊢
          refine ⟨S, w1, _, _, rfl, rfl, sY _ _ eS, ew, sizeOk (by show xs.length + 1 ≤ 100000; have := dr.len; rw [gS_len] at this; omega), fun z nz => ?_⟩
          have dA : Drn HY (xs ++ [.ref u]) (gS ns ++ [(va, false)]) := (dr' sY).cat (Drn.one eu ia)
          have qz := same_upd nz (o := .lst (xs ++ [.ref u]))
          have sZ := sY.trans qz
          have fc : ∀ x, (x, true) ∈ gS ns ++ [(va, false)] ↔ x ∈ ns := fun x => by
            rw [List.mem_append, g0, no_true]
            exact ⟨fun h => h.elim id False.elim, .inl⟩
          have unc : ∀ hl : List (List Int), unheldL ms hl (gS ns ++ [(va, false)]) = [leftOf ms hl va] := fun hl => by
            rw [unheld_app, unheld_one, gS_unheld]
            rfl
          refine ⟨p, z, ms, gS ns ++ [(va, false)], _, rfl, eD1 sZ, M, (dA.stay fun a u e => qz _ _ e).seen upd_same, sok_of dA (by rw [List.length_append, gS_len]; show _ + 1 ≤ 8; omega), u60, hU fc, fun hl hl2 h1 h2 => ?_⟩
          have hs1 := hs_of fc h1
          have hs2 := hs_of fc h2
          rw [unc, free_left hs2]
          refine ⟨fun c H' s' => ?_, fun c D' ys rows H' s' e' PL' l' ok' => ?_⟩
          · exact ⟨_, _, _, rfl, sZ.trans s', .inl ⟨(List.mem_singleton.mp c).symm, rfl⟩⟩
          · refine ⟨_, _, _, rfl, sZ.trans s', .inr ⟨fun z => c (List.mem_singleton.mpr z.symm), D', ys, rfl, e', ?_⟩⟩
            rw [← had_rows M hs1 l' ok']
            exact PL'
end

end R
namespace R
open PySem PySem.Spec PyProof.Rows L2
theorem kit_ref {K : PySem.W.Frag} {C : Addr} {t : Value} (h1 : PySem.W.hasDictIn K C = true) (h2 : PySem.W.typeIn K (.ref C) = some (.type "type")) (h3 : PySem.W.subIn K t (.ref C) = some true) : PySem.W.kitOne K t (.ref C) = some true := by
  obtain ⟨cd, hc, _⟩ := PySem.W.any_some h1
  unfold PySem.W.kitOne
  split
  · rfl
  · show (if ((PySem.W.clsIn K C).isSome && PySem.W.typeIn K (.ref C) == some (.type "type")) = true then PySem.W.subIn K t (.ref C) else none) = some true
    rw [hc, h2]
    exact h3
theorem all_mk {l : PySem.W.OpenLaw} {w : World} {K : PySem.W.Frag} {h : Heap} {mg : Str → Option Value} {fa : Addr} (X : K.In h) (G : h.Ns mainGlobals mg) (hfa : mg "law" = some (.ref fa))
    {f0 : Addr} {oc0 kV0 dc0 pm0 cd0 ct0 : Value} {od0 an0 : Option Addr} {sl0 : Array (Option Value)}
    (a0 : PySem.W.nsIn K mainGlobals "is_integer" = some (some (.ref f0)))
    {f1 : Addr} {oc1 kV1 dc1 pm1 cd1 ct1 : Value} {od1 an1 : Option Addr} {sl1 : Array (Option Value)}
    (a1 : PySem.W.nsIn K mainGlobals "integer_within" = some (some (.ref f1)))
    {f2 : Addr} {oc2 kV2 dc2 pm2 cd2 ct2 : Value} {od2 an2 : Option Addr} {sl2 : Array (Option Value)}
    (a2 : PySem.W.nsIn K mainGlobals "is_number" = some (some (.ref f2)))
    {f3 : Addr} {oc3 kV3 dc3 pm3 cd3 ct3 : Value} {od3 an3 : Option Addr} {sl3 : Array (Option Value)}
    (a3 : PySem.W.nsIn K mainGlobals "is_pair" = some (some (.ref f3)))
    {f4 : Addr} {oc4 kV4 dc4 pm4 cd4 ct4 : Value} {od4 an4 : Option Addr} {sl4 : Array (Option Value)}
    (a4 : PySem.W.nsIn K mainGlobals "check_moduli" = some (some (.ref f4)))
    {f5 : Addr} {oc5 kV5 dc5 pm5 cd5 ct5 : Value} {od5 an5 : Option Addr} {sl5 : Array (Option Value)}
    (a5 : PySem.W.nsIn K mainGlobals "is_sight" = some (some (.ref f5)))
    {f6 : Addr} {oc6 kV6 dc6 pm6 cd6 ct6 : Value} {od6 an6 : Option Addr} {sl6 : Array (Option Value)}
    (a6 : PySem.W.nsIn K mainGlobals "check_seen" = some (some (.ref f6)))
    {f7 : Addr} {oc7 kV7 dc7 pm7 cd7 ct7 : Value} {od7 an7 : Option Addr} {sl7 : Array (Option Value)}
    (a7 : PySem.W.nsIn K mainGlobals "marks_of" = some (some (.ref f7)))
    {f8 : Addr} {oc8 kV8 dc8 pm8 cd8 ct8 : Value} {od8 an8 : Option Addr} {sl8 : Array (Option Value)}
    (a8 : PySem.W.nsIn K mainGlobals "held_marks" = some (some (.ref f8)))
    {f9 : Addr} {oc9 kV9 dc9 pm9 cd9 ct9 : Value} {od9 an9 : Option Addr} {sl9 : Array (Option Value)}
    (a9 : PySem.W.nsIn K mainGlobals "unheld_marks" = some (some (.ref f9)))
    {f10 : Addr} {oc10 kV10 dc10 pm10 cd10 ct10 : Value} {od10 an10 : Option Addr} {sl10 : Array (Option Value)}
    (a10 : PySem.W.nsIn K mainGlobals "rows_with" = some (some (.ref f10)))
    {f11 : Addr} {oc11 kV11 dc11 pm11 cd11 ct11 : Value} {od11 an11 : Option Addr} {sl11 : Array (Option Value)}
    (a11 : PySem.W.nsIn K mainGlobals "many_lots" = some (some (.ref f11)))
    {f12 : Addr} {oc12 kV12 dc12 pm12 cd12 ct12 : Value} {od12 an12 : Option Addr} {sl12 : Array (Option Value)}
    (a12 : PySem.W.nsIn K mainGlobals "rests_at" = some (some (.ref f12)))
    {f13 : Addr} {oc13 kV13 dc13 pm13 cd13 ct13 : Value} {od13 an13 : Option Addr} {sl13 : Array (Option Value)}
    (a13 : PySem.W.nsIn K mainGlobals "sure_rests" = some (some (.ref f13)))
    {f14 : Addr} {oc14 kV14 dc14 pm14 cd14 ct14 : Value} {od14 an14 : Option Addr} {sl14 : Array (Option Value)}
    (a14 : PySem.W.nsIn K mainGlobals "_law_draws" = some (some (.ref f14)))
    {f15 : Addr} {oc15 kV15 dc15 pm15 cd15 ct15 : Value} {od15 an15 : Option Addr} {sl15 : Array (Option Value)}
    (a15 : PySem.W.nsIn K mainGlobals "_law_pick" = some (some (.ref f15)))
    {f16 : Addr} {oc16 kV16 dc16 pm16 cd16 ct16 : Value} {od16 an16 : Option Addr} {sl16 : Array (Option Value)}
    (a16 : PySem.W.nsIn K mainGlobals "_law_far" = some (some (.ref f16)))
    {f17 : Addr} {oc17 kV17 dc17 pm17 cd17 ct17 : Value} {od17 an17 : Option Addr} {sl17 : Array (Option Value)}
    (a17 : PySem.W.nsIn K mainGlobals "_law_power" = some (some (.ref f17)))
    {f18 : Addr} {oc18 kV18 dc18 pm18 cd18 ct18 : Value} {od18 an18 : Option Addr} {sl18 : Array (Option Value)}
    (a18 : PySem.W.nsIn K mainGlobals "_law_had" = some (some (.ref f18)))
    {f19 : Addr} {oc19 kV19 dc19 pm19 cd19 ct19 : Value} {od19 an19 : Option Addr} {sl19 : Array (Option Value)}
    (a19 : PySem.W.nsIn K mainGlobals "_law_told_there" = some (some (.ref f19)))
    {f20 : Addr} {oc20 kV20 dc20 pm20 cd20 ct20 : Value} {od20 an20 : Option Addr} {sl20 : Array (Option Value)}
    (a20 : PySem.W.nsIn K mainGlobals "law" = some (some (.ref f20)))
    (l0 : K.lookup f0 = some ⟨oc0, od0, .func (PySem.W.fnOf "is_integer" "is_integer" (defArgs s_p_is_integer) (defBody s_p_is_integer) (defScope s_p_is_integer) .none kV0 dc0 pm0 an0 cd0 ct0), sl0⟩)
    (d0 : PySem.W.codeIn K cd0 "is_integer" = true)
    (k0 : PySem.W.keepIn K (.ref f0) = true)
    (l1 : K.lookup f1 = some ⟨oc1, od1, .func (PySem.W.fnOf "integer_within" "integer_within" (defArgs s_p_integer_within) (defBody s_p_integer_within) (defScope s_p_integer_within) .none kV1 dc1 pm1 an1 cd1 ct1), sl1⟩)
    (d1 : PySem.W.codeIn K cd1 "integer_within" = true)
    (k1 : PySem.W.keepIn K (.ref f1) = true)
    (l2 : K.lookup f2 = some ⟨oc2, od2, .func (PySem.W.fnOf "is_number" "is_number" (defArgs s_p_is_number) (defBody s_p_is_number) (defScope s_p_is_number) .none kV2 dc2 pm2 an2 cd2 ct2), sl2⟩)
    (d2 : PySem.W.codeIn K cd2 "is_number" = true)
    (k2 : PySem.W.keepIn K (.ref f2) = true)
    (l3 : K.lookup f3 = some ⟨oc3, od3, .func (PySem.W.fnOf "is_pair" "is_pair" (defArgs s_p_is_pair) (defBody s_p_is_pair) (defScope s_p_is_pair) .none kV3 dc3 pm3 an3 cd3 ct3), sl3⟩)
    (d3 : PySem.W.codeIn K cd3 "is_pair" = true)
    (k3 : PySem.W.keepIn K (.ref f3) = true)
    (l4 : K.lookup f4 = some ⟨oc4, od4, .func (PySem.W.fnOf "check_moduli" "check_moduli" (defArgs s_p_check_moduli) (defBody s_p_check_moduli) (defScope s_p_check_moduli) .none kV4 dc4 pm4 an4 cd4 ct4), sl4⟩)
    (d4 : PySem.W.codeIn K cd4 "check_moduli" = true)
    (k4 : PySem.W.keepIn K (.ref f4) = true)
    (l5 : K.lookup f5 = some ⟨oc5, od5, .func (PySem.W.fnOf "is_sight" "is_sight" (defArgs s_p_is_sight) (defBody s_p_is_sight) (defScope s_p_is_sight) .none kV5 dc5 pm5 an5 cd5 ct5), sl5⟩)
    (d5 : PySem.W.codeIn K cd5 "is_sight" = true)
    (k5 : PySem.W.keepIn K (.ref f5) = true)
    (l6 : K.lookup f6 = some ⟨oc6, od6, .func (PySem.W.fnOf "check_seen" "check_seen" (defArgs s_p_check_seen) (defBody s_p_check_seen) (defScope s_p_check_seen) .none kV6 dc6 pm6 an6 cd6 ct6), sl6⟩)
    (d6 : PySem.W.codeIn K cd6 "check_seen" = true)
    (k6 : PySem.W.keepIn K (.ref f6) = true)
    (l7 : K.lookup f7 = some ⟨oc7, od7, .func (PySem.W.fnOf "marks_of" "marks_of" (defArgs s_p_marks_of) (defBody s_p_marks_of) (defScope s_p_marks_of) .none kV7 dc7 pm7 an7 cd7 ct7), sl7⟩)
    (d7 : PySem.W.codeIn K cd7 "marks_of" = true)
    (k7 : PySem.W.keepIn K (.ref f7) = true)
    (l8 : K.lookup f8 = some ⟨oc8, od8, .func (PySem.W.fnOf "held_marks" "held_marks" (defArgs s_p_held_marks) (defBody s_p_held_marks) (defScope s_p_held_marks) .none kV8 dc8 pm8 an8 cd8 ct8), sl8⟩)
    (d8 : PySem.W.codeIn K cd8 "held_marks" = true)
    (k8 : PySem.W.keepIn K (.ref f8) = true)
    (l9 : K.lookup f9 = some ⟨oc9, od9, .func (PySem.W.fnOf "unheld_marks" "unheld_marks" (defArgs s_p_unheld_marks) (defBody s_p_unheld_marks) (defScope s_p_unheld_marks) .none kV9 dc9 pm9 an9 cd9 ct9), sl9⟩)
    (d9 : PySem.W.codeIn K cd9 "unheld_marks" = true)
    (k9 : PySem.W.keepIn K (.ref f9) = true)
    (l10 : K.lookup f10 = some ⟨oc10, od10, .func (PySem.W.fnOf "rows_with" "rows_with" (defArgs s_p_rows_with) (defBody s_p_rows_with) (defScope s_p_rows_with) .none kV10 dc10 pm10 an10 cd10 ct10), sl10⟩)
    (d10 : PySem.W.codeIn K cd10 "rows_with" = true)
    (k10 : PySem.W.keepIn K (.ref f10) = true)
    (l11 : K.lookup f11 = some ⟨oc11, od11, .func (PySem.W.fnOf "many_lots" "many_lots" (defArgs s_p_many_lots) (defBody s_p_many_lots) (defScope s_p_many_lots) .none kV11 dc11 pm11 an11 cd11 ct11), sl11⟩)
    (d11 : PySem.W.codeIn K cd11 "many_lots" = true)
    (k11 : PySem.W.keepIn K (.ref f11) = true)
    (l12 : K.lookup f12 = some ⟨oc12, od12, .func (PySem.W.fnOf "rests_at" "rests_at" (defArgs s_p_rests_at) (defBody s_p_rests_at) (defScope s_p_rests_at) .none kV12 dc12 pm12 an12 cd12 ct12), sl12⟩)
    (d12 : PySem.W.codeIn K cd12 "rests_at" = true)
    (k12 : PySem.W.keepIn K (.ref f12) = true)
    (l13 : K.lookup f13 = some ⟨oc13, od13, .func (PySem.W.fnOf "sure_rests" "sure_rests" (defArgs s_p_sure_rests) (defBody s_p_sure_rests) (defScope s_p_sure_rests) .none kV13 dc13 pm13 an13 cd13 ct13), sl13⟩)
    (d13 : PySem.W.codeIn K cd13 "sure_rests" = true)
    (k13 : PySem.W.keepIn K (.ref f13) = true)
    (l14 : K.lookup f14 = some ⟨oc14, od14, .func (PySem.W.fnOf "_law_draws" "_law_draws" (defArgs s_l_draws) (defBody s_l_draws) (defScope s_l_draws) .none kV14 dc14 pm14 an14 cd14 ct14), sl14⟩)
    (d14 : PySem.W.codeIn K cd14 "_law_draws" = true)
    (k14 : PySem.W.keepIn K (.ref f14) = true)
    (l15 : K.lookup f15 = some ⟨oc15, od15, .func (PySem.W.fnOf "_law_pick" "_law_pick" (defArgs s_l_pick) (defBody s_l_pick) (defScope s_l_pick) .none kV15 dc15 pm15 an15 cd15 ct15), sl15⟩)
    (d15 : PySem.W.codeIn K cd15 "_law_pick" = true)
    (k15 : PySem.W.keepIn K (.ref f15) = true)
    (l16 : K.lookup f16 = some ⟨oc16, od16, .func (PySem.W.fnOf "_law_far" "_law_far" (defArgs s_l_far) (defBody s_l_far) (defScope s_l_far) .none kV16 dc16 pm16 an16 cd16 ct16), sl16⟩)
    (d16 : PySem.W.codeIn K cd16 "_law_far" = true)
    (k16 : PySem.W.keepIn K (.ref f16) = true)
    (l17 : K.lookup f17 = some ⟨oc17, od17, .func (PySem.W.fnOf "_law_power" "_law_power" (defArgs s_l_power) (defBody s_l_power) (defScope s_l_power) .none kV17 dc17 pm17 an17 cd17 ct17), sl17⟩)
    (d17 : PySem.W.codeIn K cd17 "_law_power" = true)
    (k17 : PySem.W.keepIn K (.ref f17) = true)
    (l18 : K.lookup f18 = some ⟨oc18, od18, .func (PySem.W.fnOf "_law_had" "_law_had" (defArgs s_l_had) (defBody s_l_had) (defScope s_l_had) .none kV18 dc18 pm18 an18 cd18 ct18), sl18⟩)
    (d18 : PySem.W.codeIn K cd18 "_law_had" = true)
    (k18 : PySem.W.keepIn K (.ref f18) = true)
    (l19 : K.lookup f19 = some ⟨oc19, od19, .func (PySem.W.fnOf "_law_told_there" "_law_told_there" (defArgs s_l_told_there) (defBody s_l_told_there) (defScope s_l_told_there) .none kV19 dc19 pm19 an19 cd19 ct19), sl19⟩)
    (d19 : PySem.W.codeIn K cd19 "_law_told_there" = true)
    (k19 : PySem.W.keepIn K (.ref f19) = true)
    (l20 : K.lookup f20 = some ⟨oc20, od20, .func (PySem.W.fnOf "law" "law" (defArgs s_law) (defBody s_law) (defScope s_law) .none kV20 dc20 pm20 an20 cd20 ct20), sl20⟩)
    (d20 : PySem.W.codeIn K cd20 "law" = true)
    (k20 : PySem.W.keepIn K (.ref f20) = true)
    (z_len : PySem.W.nsIn K mainGlobals "len" = some none)
    (z_sum : PySem.W.nsIn K mainGlobals "sum" = some none)
    (z_range : PySem.W.nsIn K mainGlobals "range" = some none)
    (z_int : PySem.W.nsIn K mainGlobals "int" = some none)
    (z_list : PySem.W.nsIn K mainGlobals "list" = some none)
    (z_tuple : PySem.W.nsIn K mainGlobals "tuple" = some none)
    (z_sorted : PySem.W.nsIn K mainGlobals "sorted" = some none)
    (z_isinstance : PySem.W.nsIn K mainGlobals "isinstance" = some none)
    (z_enumerate : PySem.W.nsIn K mainGlobals "enumerate" = some none)
    (z_bool : PySem.W.nsIn K mainGlobals "bool" = some none)
    {t_GREATEST_NUMBER : Tok}
    (c_GREATEST_NUMBER : PySem.W.nsIn K mainGlobals "GREATEST_NUMBER" = some (some (.int 1000000000000000000000000000000 t_GREATEST_NUMBER)))
    {t_MOST_MODULI : Tok}
    (c_MOST_MODULI : PySem.W.nsIn K mainGlobals "MOST_MODULI" = some (some (.int 4 t_MOST_MODULI)))
    {t_GREATEST_TOLD_BY : Tok}
    (c_GREATEST_TOLD_BY : PySem.W.nsIn K mainGlobals "GREATEST_TOLD_BY" = some (some (.int 30 t_GREATEST_TOLD_BY)))
    {t_MOST_SEEN : Tok}
    (c_MOST_SEEN : PySem.W.nsIn K mainGlobals "MOST_SEEN" = some (some (.int 20 t_MOST_SEEN)))
    {t_MOST_UNFIT : Tok}
    (c_MOST_UNFIT : PySem.W.nsIn K mainGlobals "MOST_UNFIT" = some (some (.int 8 t_MOST_UNFIT)))
    {C_RestError : Addr}
    (g_RestError : PySem.W.nsIn K mainGlobals "RestError" = some (some (.ref C_RestError)))
    (hR : PySem.W.hasDictIn K C_RestError = true)
    (tR : PySem.W.typeIn K (.ref C_RestError) = some (.type "type"))
    {C_Nothing : Addr}
    (g_Nothing : PySem.W.nsIn K mainGlobals "Nothing" = some (some (.ref C_Nothing)))
    (x_Nothing : PySem.W.excIn K C_Nothing [.type "ValueError", .type "Exception", .type "BaseException", .type "object"] "ValueError.__new__" = true)
    (k_Nothing : PySem.W.keepIn K (.ref C_Nothing) = true)
    (b_Nothing : PySem.W.subIn K (.ref C_Nothing) (.type "BaseException") = some true)
    (t_Nothing : PySem.W.typeIn K (.ref C_Nothing) = some (.type "type"))
    (e_Nothing : PySem.W.subIn K (.ref C_Nothing) (.ref C_Nothing) = some true)
    (E1_Nothing : PySem.W.findIn K (.ref C_Nothing) "__getattribute__" = some (some (.builtin "BaseException.__getattribute__")))
    (E2_Nothing : PySem.W.findIn K (.ref C_Nothing) "__getattr__" = some none)
    (E3_Nothing : PySem.W.hasDictIn K C_Nothing = true)
    (E4_Nothing : PySem.W.findIn K (.ref C_Nothing) "__class__" = some (some (.builtin "object.__class__")))
    (E5_Nothing : PySem.W.specialIn K (.builtin "object.__class__") "__get__" = some (some (.builtin "getset_descriptor.__get__")))
    (E6_Nothing : PySem.W.takesIn K (.builtin "object.__class__") = some true)
    (E7_Nothing : PySem.W.mroIn K C_Nothing (.type "object") = some true)
    (r_Nothing : PySem.W.subIn K (.ref C_Nothing) (.ref C_RestError) = some true)
    : ∃ fd : FuncData, (∀ (s : Shared) (v : Value), BindsTo s fd ⟨[v], []⟩ [("_law_script", v)]) ∧ ∀ base : Heap, K.In base → base.Ns mainGlobals mg → FnOk l.prog w K mg base CX0 14 fa fd ["_law_script"] (sp_law K) := by
  have e := hfa.symm.trans (PySem.W.mg_of X G a20)
  cases e
  have F0 := fun_mk (st := s_p_is_integer) l0 d0 k0
  have b0 := F0.binds (ps := ["value"]) fun _ _ _ _ _ _ us hl => match us, hl with | [_], _ => rfl
  have F1 := fun_mk (st := s_p_integer_within) l1 d1 k1
  have b1 := F1.binds (ps := ["value", "least", "greatest"]) fun _ _ _ _ _ _ us hl => match us, hl with | [_, _, _], _ => rfl
  have F2 := fun_mk (st := s_p_is_number) l2 d2 k2
  have b2 := F2.binds (ps := ["value"]) fun _ _ _ _ _ _ us hl => match us, hl with | [_], _ => rfl
  have F3 := fun_mk (st := s_p_is_pair) l3 d3 k3
  have b3 := F3.binds (ps := ["value"]) fun _ _ _ _ _ _ us hl => match us, hl with | [_], _ => rfl
  have F4 := fun_mk (st := s_p_check_moduli) l4 d4 k4
  have b4 := F4.binds (ps := ["moduli"]) fun _ _ _ _ _ _ us hl => match us, hl with | [_], _ => rfl
  have F5 := fun_mk (st := s_p_is_sight) l5 d5 k5
  have b5 := F5.binds (ps := ["value"]) fun _ _ _ _ _ _ us hl => match us, hl with | [_], _ => rfl
  have F6 := fun_mk (st := s_p_check_seen) l6 d6 k6
  have b6 := F6.binds (ps := ["seen"]) fun _ _ _ _ _ _ us hl => match us, hl with | [_], _ => rfl
  have F7 := fun_mk (st := s_p_marks_of) l7 d7 k7
  have b7 := F7.binds (ps := ["moduli", "number"]) fun _ _ _ _ _ _ us hl => match us, hl with | [_, _], _ => rfl
  have F8 := fun_mk (st := s_p_held_marks) l8 d8 k8
  have b8 := F8.binds (ps := ["moduli", "seen"]) fun _ _ _ _ _ _ us hl => match us, hl with | [_, _], _ => rfl
  have F9 := fun_mk (st := s_p_unheld_marks) l9 d9 k9
  have b9 := F9.binds (ps := ["moduli", "seen"]) fun _ _ _ _ _ _ us hl => match us, hl with | [_, _], _ => rfl
  have F10 := fun_mk (st := s_p_rows_with) l10 d10 k10
  have b10 := F10.binds (ps := ["total", "held", "unheld"]) fun _ _ _ _ _ _ us hl => match us, hl with | [_, _, _], _ => rfl
  have F11 := fun_mk (st := s_p_many_lots) l11 d11 k11
  have b11 := F11.binds (ps := ["moduli", "seen"]) fun _ _ _ _ _ _ us hl => match us, hl with | [_, _], _ => rfl
  have F12 := fun_mk (st := s_p_rests_at) l12 d12 k12
  have b12 := F12.binds (ps := ["marks", "index"]) fun _ _ _ _ _ _ us hl => match us, hl with | [_, _], _ => rfl
  have F13 := fun_mk (st := s_p_sure_rests) l13 d13 k13
  have b13 := F13.binds (ps := ["moduli", "seen"]) fun _ _ _ _ _ _ us hl => match us, hl with | [_, _], _ => rfl
  have F14 := fun_mk (st := s_l_draws) l14 d14 k14
  have b14 := F14.binds (ps := ["_law_script"]) fun _ _ _ _ _ _ us hl => match us, hl with | [_], _ => rfl
  have F15 := fun_mk (st := s_l_pick) l15 d15 k15
  have b15 := F15.binds (ps := ["_law_row", "_law_many"]) fun _ _ _ _ _ _ us hl => match us, hl with | [_, _], _ => rfl
  have F16 := fun_mk (st := s_l_far) l16 d16 k16
  have b16 := F16.binds (ps := ["_law_row"]) fun _ _ _ _ _ _ us hl => match us, hl with | [_], _ => rfl
  have F17 := fun_mk (st := s_l_power) l17 d17 k17
  have b17 := F17.binds (ps := ["_law_many"]) fun _ _ _ _ _ _ us hl => match us, hl with | [_], _ => rfl
  have F18 := fun_mk (st := s_l_had) l18 d18 k18
  have b18 := F18.binds (ps := ["_law_moduli", "_law_numbers"]) fun _ _ _ _ _ _ us hl => match us, hl with | [_, _], _ => rfl
  have F19 := fun_mk (st := s_l_told_there) l19 d19 k19
  have b19 := F19.binds (ps := ["_law_moduli", "_law_seen"]) fun _ _ _ _ _ _ us hl => match us, hl with | [_, _], _ => rfl
  have F20 := fun_mk (st := s_law) l20 d20 k20
  have b20 := F20.binds (ps := ["_law_script"]) fun _ _ _ _ _ _ us hl => match us, hl with | [_], _ => rfl
  let T : Txt K mg := {
    f_p_is_integer := _, fd_p_is_integer := _, F_p_is_integer := F0, b_p_is_integer := b0, g_p_is_integer := PySem.W.mg_of X G a0,
    f_p_integer_within := _, fd_p_integer_within := _, F_p_integer_within := F1, b_p_integer_within := b1, g_p_integer_within := PySem.W.mg_of X G a1,
    f_p_is_number := _, fd_p_is_number := _, F_p_is_number := F2, b_p_is_number := b2, g_p_is_number := PySem.W.mg_of X G a2,
    f_p_is_pair := _, fd_p_is_pair := _, F_p_is_pair := F3, b_p_is_pair := b3, g_p_is_pair := PySem.W.mg_of X G a3,
    f_p_check_moduli := _, fd_p_check_moduli := _, F_p_check_moduli := F4, b_p_check_moduli := b4, g_p_check_moduli := PySem.W.mg_of X G a4,
    f_p_is_sight := _, fd_p_is_sight := _, F_p_is_sight := F5, b_p_is_sight := b5, g_p_is_sight := PySem.W.mg_of X G a5,
    f_p_check_seen := _, fd_p_check_seen := _, F_p_check_seen := F6, b_p_check_seen := b6, g_p_check_seen := PySem.W.mg_of X G a6,
    f_p_marks_of := _, fd_p_marks_of := _, F_p_marks_of := F7, b_p_marks_of := b7, g_p_marks_of := PySem.W.mg_of X G a7,
    f_p_held_marks := _, fd_p_held_marks := _, F_p_held_marks := F8, b_p_held_marks := b8, g_p_held_marks := PySem.W.mg_of X G a8,
    f_p_unheld_marks := _, fd_p_unheld_marks := _, F_p_unheld_marks := F9, b_p_unheld_marks := b9, g_p_unheld_marks := PySem.W.mg_of X G a9,
    f_p_rows_with := _, fd_p_rows_with := _, F_p_rows_with := F10, b_p_rows_with := b10, g_p_rows_with := PySem.W.mg_of X G a10,
    f_p_many_lots := _, fd_p_many_lots := _, F_p_many_lots := F11, b_p_many_lots := b11, g_p_many_lots := PySem.W.mg_of X G a11,
    f_p_rests_at := _, fd_p_rests_at := _, F_p_rests_at := F12, b_p_rests_at := b12, g_p_rests_at := PySem.W.mg_of X G a12,
    f_p_sure_rests := _, fd_p_sure_rests := _, F_p_sure_rests := F13, b_p_sure_rests := b13, g_p_sure_rests := PySem.W.mg_of X G a13,
    f_l_draws := _, fd_l_draws := _, F_l_draws := F14, b_l_draws := b14, g_l_draws := PySem.W.mg_of X G a14,
    f_l_pick := _, fd_l_pick := _, F_l_pick := F15, b_l_pick := b15, g_l_pick := PySem.W.mg_of X G a15,
    f_l_far := _, fd_l_far := _, F_l_far := F16, b_l_far := b16, g_l_far := PySem.W.mg_of X G a16,
    f_l_power := _, fd_l_power := _, F_l_power := F17, b_l_power := b17, g_l_power := PySem.W.mg_of X G a17,
    f_l_had := _, fd_l_had := _, F_l_had := F18, b_l_had := b18, g_l_had := PySem.W.mg_of X G a18,
    f_l_told_there := _, fd_l_told_there := _, F_l_told_there := F19, b_l_told_there := b19, g_l_told_there := PySem.W.mg_of X G a19,
    f_law := _, fd_law := _, F_law := F20, b_law := b20, g_law := PySem.W.mg_of X G a20,
    z_len := PySem.W.mg_none_of X G z_len,
    z_sum := PySem.W.mg_none_of X G z_sum,
    z_range := PySem.W.mg_none_of X G z_range,
    z_int := PySem.W.mg_none_of X G z_int,
    z_list := PySem.W.mg_none_of X G z_list,
    z_tuple := PySem.W.mg_none_of X G z_tuple,
    z_sorted := PySem.W.mg_none_of X G z_sorted,
    z_isinstance := PySem.W.mg_none_of X G z_isinstance,
    z_enumerate := PySem.W.mg_none_of X G z_enumerate,
    z_bool := PySem.W.mg_none_of X G z_bool,
    c_GREATEST_NUMBER := ⟨t_GREATEST_NUMBER, PySem.W.mg_of X G c_GREATEST_NUMBER⟩,
    c_MOST_MODULI := ⟨t_MOST_MODULI, PySem.W.mg_of X G c_MOST_MODULI⟩,
    c_GREATEST_TOLD_BY := ⟨t_GREATEST_TOLD_BY, PySem.W.mg_of X G c_GREATEST_TOLD_BY⟩,
    c_MOST_SEEN := ⟨t_MOST_SEEN, PySem.W.mg_of X G c_MOST_SEEN⟩,
    c_MOST_UNFIT := ⟨t_MOST_UNFIT, PySem.W.mg_of X G c_MOST_UNFIT⟩,
    C_RestError := _, g_RestError := PySem.W.mg_of X G g_RestError,
    C_Nothing := _, g_Nothing := PySem.W.mg_of X G g_Nothing, x_Nothing := x_Nothing, k_Nothing := k_Nothing, b_Nothing := b_Nothing, t_Nothing := t_Nothing, e_Nothing := PySem.W.exm_ref b_Nothing E3_Nothing t_Nothing e_Nothing, E_Nothing := ⟨E1_Nothing, E2_Nothing, b_Nothing, E3_Nothing, E4_Nothing, E5_Nothing, E6_Nothing, E7_Nothing⟩, r_Nothing := kit_ref hR tR r_Nothing
  }
  exact ⟨PySem.W.fnOf "law" "law" (defArgs s_law) (defBody s_law) (defScope s_law) .none kV20 dc20 pm20 an20 cd20 ct20, fun s v => .of_eq rfl, fun base _ _ => ok_law T⟩
end R
open PySem PySem.W PyProof.Rows
set_option maxHeartbeats 0 in
theorem PySem.Challenge.cw_restlots_k49_great_lots_counted_holds : PySem.Challenge.rw_restlots_k49_great_lots_counted.Holds := by
  w_on; o_law; k_head; (case hw => w_witness2)
  k_fill
  refine L2.walk_of (l := PySem.Challenge.rw_restlots_k49_great_lots_counted) (n := 63) (k := 14) (x := "_law_script") (CX := fun _ => L2.CX0) (sp := fun w => R.sp_law _) rfl (by decide) rfl ⟨rfl, by decide, by decide⟩ (fun w h Y => PySem.W.kIn_of Y) ?F (fun _ _ a ns hl _ hS => ⟨a, ns, rfl, hS, hl, fun _ => rfl⟩) (fun _ _ _ _ _ h => h)
  case F =>
    intro w mg fa h KX G hmg
    refine' R.all_mk KX G hmg ?a0 ?a1 ?a2 ?a3 ?a4 ?a5 ?a6 ?a7 ?a8 ?a9 ?a10 ?a11 ?a12 ?a13 ?a14 ?a15 ?a16 ?a17 ?a18 ?a19 ?a20 ?l0 ?d0 ?k0 ?l1 ?d1 ?k1 ?l2 ?d2 ?k2 ?l3 ?d3 ?k3 ?l4 ?d4 ?k4 ?l5 ?d5 ?k5 ?l6 ?d6 ?k6 ?l7 ?d7 ?k7 ?l8 ?d8 ?k8 ?l9 ?d9 ?k9 ?l10 ?d10 ?k10 ?l11 ?d11 ?k11 ?l12 ?d12 ?k12 ?l13 ?d13 ?k13 ?l14 ?d14 ?k14 ?l15 ?d15 ?k15 ?l16 ?d16 ?k16 ?l17 ?d17 ?k17 ?l18 ?d18 ?k18 ?l19 ?d19 ?k19 ?l20 ?d20 ?k20 ?z_len ?z_sum ?z_range ?z_int ?z_list ?z_tuple ?z_sorted ?z_isinstance ?z_enumerate ?z_bool ?c_GREATEST_NUMBER ?c_MOST_MODULI ?c_GREATEST_TOLD_BY ?c_MOST_SEEN ?c_MOST_UNFIT ?g_RestError ?hR ?tR ?g_Nothing ?x_Nothing ?k_Nothing ?b_Nothing ?t_Nothing ?e_Nothing ?E1_Nothing ?E2_Nothing ?E3_Nothing ?E4_Nothing ?E5_Nothing ?E6_Nothing ?E7_Nothing ?r_Nothing
    (case a0 => k_is)
    (case a1 => k_is)
    (case a2 => k_is)
    (case a3 => k_is)
    (case a4 => k_is)
    (case a5 => k_is)
    (case a6 => k_is)
    (case a7 => k_is)
    (case a8 => k_is)
    (case a9 => k_is)
    (case a10 => k_is)
    (case a11 => k_is)
    (case a12 => k_is)
    (case a13 => k_is)
    (case a14 => k_is)
    (case a15 => k_is)
    (case a16 => k_is)
    (case a17 => k_is)
    (case a18 => k_is)
    (case a19 => k_is)
    (case a20 => k_is)
    (case l0 => k_is)
    (case d0 => k_is)
    (case k0 => k_is)
    (case l1 => k_is)
    (case d1 => k_is)
    (case k1 => k_is)
    (case l2 => k_is)
    (case d2 => k_is)
    (case k2 => k_is)
    (case l3 => k_is)
    (case d3 => k_is)
    (case k3 => k_is)
    (case l4 => k_is)
    (case d4 => k_is)
    (case k4 => k_is)
    (case l5 => k_is)
    (case d5 => k_is)
    (case k5 => k_is)
    (case l6 => k_is)
    (case d6 => k_is)
    (case k6 => k_is)
    (case l7 => k_is)
    (case d7 => k_is)
    (case k7 => k_is)
    (case l8 => k_is)
    (case d8 => k_is)
    (case k8 => k_is)
    (case l9 => k_is)
    (case d9 => k_is)
    (case k9 => k_is)
    (case l10 => k_is)
    (case d10 => k_is)
    (case k10 => k_is)
    (case l11 => k_is)
    (case d11 => k_is)
    (case k11 => k_is)
    (case l12 => k_is)
    (case d12 => k_is)
    (case k12 => k_is)
    (case l13 => k_is)
    (case d13 => k_is)
    (case k13 => k_is)
    (case l14 => k_is)
    (case d14 => k_is)
    (case k14 => k_is)
    (case l15 => k_is)
    (case d15 => k_is)
    (case k15 => k_is)
    (case l16 => k_is)
    (case d16 => k_is)
    (case k16 => k_is)
    (case l17 => k_is)
    (case d17 => k_is)
    (case k17 => k_is)
    (case l18 => k_is)
    (case d18 => k_is)
    (case k18 => k_is)
    (case l19 => k_is)
    (case d19 => k_is)
    (case k19 => k_is)
    (case l20 => k_is)
    (case d20 => k_is)
    (case k20 => k_is)
    (case z_len => k_is)
    (case z_sum => k_is)
    (case z_range => k_is)
    (case z_int => k_is)
    (case z_list => k_is)
    (case z_tuple => k_is)
    (case z_sorted => k_is)
    (case z_isinstance => k_is)
    (case z_enumerate => k_is)
    (case z_bool => k_is)
    (case c_GREATEST_NUMBER => k_is)
    (case c_MOST_MODULI => k_is)
    (case c_GREATEST_TOLD_BY => k_is)
    (case c_MOST_SEEN => k_is)
    (case c_MOST_UNFIT => k_is)
    (case g_RestError => k_is)
    (case hR => k_is)
    (case tR => k_is)
    (case g_Nothing => k_is)
    (case x_Nothing => k_exc)
    (case k_Nothing => k_is)
    (case b_Nothing => k_is)
    (case t_Nothing => k_is)
    (case e_Nothing => k_is)
    (case E1_Nothing => k_is)
    (case E2_Nothing => k_is)
    (case E3_Nothing => k_is)
    (case E4_Nothing => k_is)
    (case E5_Nothing => k_is)
    (case E6_Nothing => k_is)
    (case E7_Nothing => k_is)
    (case r_Nothing => k_is)
