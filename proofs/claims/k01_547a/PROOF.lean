import PyProof.Rows.All
import Wide.All
import OpenK.AllK
import Wide.FinOn
import PySem.Challenge.RW_everyweave_k01_programs_are_checked
import HandS.ForMost
import HandS.ForExc
import HandS.Zip
import HandS.TupAny
import HandS.TupMul
import HandS.FStr
import HandS.ExcIs
import HandS.RaiseMore
import HandS.Small
import HandS.More
import KE.GoesMore
import KE.GoesZip
import PyProof.ReprRoads
import PyProof.ReprBulk
import HandS.Ends
import HandS.TupLe
set_option Elab.async false
set_option linter.all false
set_option maxRecDepth 100000
set_option maxHeartbeats 4400000
namespace EW
open L2 PyProof.Rows PySem.Spec PySem
def topS (i : Nat) : Stmt := PySem.Challenge.pw_everyweave_k01_programs_are_checked.main.body.getD i (.Pass ⟨0, 0, 0, 0⟩)
abbrev s_is_integer : Stmt := topS 14
theorem sc_is_integer : FnScope ["number", "least", "greatest"] ["number", "least", "greatest"] (defScope s_is_integer) := ⟨rfl, rfl, rfl, by decide +kernel, rfl, by decide +kernel, by decide +kernel⟩
abbrev s_is_value : Stmt := topS 15
theorem sc_is_value : FnScope ["number"] ["number"] (defScope s_is_value) := ⟨rfl, rfl, rfl, by decide +kernel, rfl, by decide +kernel, by decide +kernel⟩
abbrev s_is_row : Stmt := topS 16
theorem sc_is_row : FnScope ["row", "least", "greatest"] ["row", "least", "greatest"] (defScope s_is_row) := ⟨rfl, rfl, rfl, by decide +kernel, rfl, by decide +kernel, by decide +kernel⟩
abbrev s_check_program : Stmt := topS 17
theorem sc_check_program : FnScope ["program", "variables", "locks", "codes", "threads", "code"] ["program"] (defScope s_check_program) := ⟨rfl, rfl, rfl, by decide +kernel, rfl, by decide +kernel, by decide +kernel⟩
abbrev s_check_variables : Stmt := topS 18
theorem sc_check_variables : FnScope ["variables", "variable", "first", "plain"] ["variables"] (defScope s_check_variables) := ⟨rfl, rfl, rfl, by decide +kernel, rfl, by decide +kernel, by decide +kernel⟩
abbrev s_check_threads : Stmt := topS 19
theorem sc_check_threads : FnScope ["threads", "many_codes", "thread", "index", "argument"] ["threads", "many_codes"] (defScope s_check_threads) := ⟨rfl, rfl, rfl, by decide +kernel, rfl, by decide +kernel, by decide +kernel⟩
abbrev s_check_code : Stmt := topS 20
theorem sc_check_code : FnScope ["code", "program", "variables", "locks", "codes", "_", "bounds", "instruction"] ["code", "program"] (defScope s_check_code) := ⟨rfl, rfl, rfl, by decide +kernel, rfl, by decide +kernel, by decide +kernel⟩
abbrev s_check_instruction : Stmt := topS 21
theorem sc_check_instruction : FnScope ["instruction", "bounds", "variables", "shape", "letter", "number", "least", "greatest"] ["instruction", "bounds", "variables"] (defScope s_check_instruction) := ⟨rfl, rfl, rfl, by decide +kernel, rfl, by decide +kernel, by decide +kernel⟩
abbrev s_shape_of : Stmt := topS 22
theorem sc_shape_of : FnScope ["instruction", "word"] ["instruction"] (defScope s_shape_of) := ⟨rfl, rfl, rfl, by decide +kernel, rfl, by decide +kernel, by decide +kernel⟩
abbrev s_law_mixed : Stmt := topS 24
theorem sc_law_mixed : FnScope ["number", "k", "step"] ["number", "k"] (defScope s_law_mixed) := ⟨rfl, rfl, rfl, by decide +kernel, rfl, by decide +kernel, by decide +kernel⟩
abbrev s_law_numbers : Stmt := topS 25
theorem sc_law_numbers : FnScope ["script", "numbers", "cell", "rest", "k"] ["script"] (defScope s_law_numbers) := ⟨rfl, rfl, rfl, by decide +kernel, rfl, by decide +kernel, by decide +kernel⟩
abbrev s_law_draw : Stmt := topS 26
theorem sc_law_draw : FnScope ["draws", "at", "first"] ["draws"] (defScope s_law_draw) := ⟨rfl, rfl, rfl, by decide +kernel, rfl, by decide +kernel, by decide +kernel⟩
abbrev s_law_local : Stmt := topS 27
theorem sc_law_local : FnScope ["draws", "size", "a", "b", "c", "pick"] ["draws", "size"] (defScope s_law_local) := ⟨rfl, rfl, rfl, by decide +kernel, rfl, by decide +kernel, by decide +kernel⟩
abbrev s_law_visible : Stmt := topS 28
theorem sc_law_visible : FnScope ["draws", "places", "locks", "codes", "a", "b", "c", "pick", "x"] ["draws", "places", "locks", "codes"] (defScope s_law_visible) := ⟨rfl, rfl, rfl, by decide +kernel, rfl, by decide +kernel, by decide +kernel⟩
abbrev s_law_program : Stmt := topS 29
theorem sc_law_program : FnScope ["draws", "most", "k", "places", "locks", "many", "codes", "size", "code", "j", "threads"] ["draws", "most"] (defScope s_law_program) := ⟨rfl, rfl, rfl, by decide +kernel, rfl, by decide +kernel, by decide +kernel⟩
abbrev s_law_bad_instruction : Stmt := topS 30
theorem sc_law_bad_instruction : FnScope ["draws", "places", "locks", "many", "size", "x", "plain", "bad", "forms", "form", "parts", "more"] ["draws", "places", "locks", "many", "size"] (defScope s_law_bad_instruction) := ⟨rfl, rfl, rfl, by decide +kernel, rfl, by decide +kernel, by decide +kernel⟩
abbrev s_law_spoilt : Stmt := topS 31
theorem sc_law_spoilt : FnScope ["draws", "program", "places", "locks", "codes", "threads", "at", "one", "pick", "code", "k", "new", "bad", "spot"] ["draws", "program"] (defScope s_law_spoilt) := ⟨rfl, rfl, rfl, by decide +kernel, rfl, by decide +kernel, by decide +kernel⟩
abbrev s_law_is_program : Stmt := topS 32
theorem sc_law_is_program : FnScope ["value", "e"] ["value"] (defScope s_law_is_program) := ⟨rfl, rfl, rfl, by decide +kernel, rfl, by decide +kernel, by decide +kernel⟩
abbrev s_law : Stmt := topS 33
theorem sc_law : FnScope ["script", "draws", "program", "full", "spoilt", "kept"] ["script"] (defScope s_law) := ⟨rfl, rfl, rfl, by decide +kernel, rfl, by decide +kernel, by decide +kernel⟩
structure Txt (K : PySem.W.Frag) (mg : Str → Option Value) where
  f_is_integer : Addr
  d_is_integer : FuncData
  F_is_integer : Fun K "is_integer" "is_integer" s_is_integer f_is_integer d_is_integer
  b_is_integer : Binds K d_is_integer ["number", "least", "greatest"] []
  m_is_integer : mg "is_integer" = some (.ref f_is_integer)
  f_is_value : Addr
  d_is_value : FuncData
  F_is_value : Fun K "is_value" "is_value" s_is_value f_is_value d_is_value
  b_is_value : Binds K d_is_value ["number"] []
  m_is_value : mg "is_value" = some (.ref f_is_value)
  f_is_row : Addr
  d_is_row : FuncData
  F_is_row : Fun K "is_row" "is_row" s_is_row f_is_row d_is_row
  b_is_row : Binds K d_is_row ["row", "least", "greatest"] []
  m_is_row : mg "is_row" = some (.ref f_is_row)
  f_check_program : Addr
  d_check_program : FuncData
  F_check_program : Fun K "check_program" "check_program" s_check_program f_check_program d_check_program
  b_check_program : Binds K d_check_program ["program"] []
  m_check_program : mg "check_program" = some (.ref f_check_program)
  f_check_variables : Addr
  d_check_variables : FuncData
  F_check_variables : Fun K "check_variables" "check_variables" s_check_variables f_check_variables d_check_variables
  b_check_variables : Binds K d_check_variables ["variables"] []
  m_check_variables : mg "check_variables" = some (.ref f_check_variables)
  f_check_threads : Addr
  d_check_threads : FuncData
  F_check_threads : Fun K "check_threads" "check_threads" s_check_threads f_check_threads d_check_threads
  b_check_threads : Binds K d_check_threads ["threads", "many_codes"] []
  m_check_threads : mg "check_threads" = some (.ref f_check_threads)
  f_check_code : Addr
  d_check_code : FuncData
  F_check_code : Fun K "check_code" "check_code" s_check_code f_check_code d_check_code
  b_check_code : Binds K d_check_code ["code", "program"] []
  m_check_code : mg "check_code" = some (.ref f_check_code)
  f_check_instruction : Addr
  d_check_instruction : FuncData
  F_check_instruction : Fun K "check_instruction" "check_instruction" s_check_instruction f_check_instruction d_check_instruction
  b_check_instruction : Binds K d_check_instruction ["instruction", "bounds", "variables"] []
  m_check_instruction : mg "check_instruction" = some (.ref f_check_instruction)
  f_shape_of : Addr
  d_shape_of : FuncData
  F_shape_of : Fun K "shape_of" "shape_of" s_shape_of f_shape_of d_shape_of
  b_shape_of : Binds K d_shape_of ["instruction"] []
  m_shape_of : mg "shape_of" = some (.ref f_shape_of)
  f_law_mixed : Addr
  d_law_mixed : FuncData
  F_law_mixed : Fun K "_law_mixed" "_law_mixed" s_law_mixed f_law_mixed d_law_mixed
  b_law_mixed : Binds K d_law_mixed ["number", "k"] []
  m_law_mixed : mg "_law_mixed" = some (.ref f_law_mixed)
  f_law_numbers : Addr
  d_law_numbers : FuncData
  F_law_numbers : Fun K "_law_numbers" "_law_numbers" s_law_numbers f_law_numbers d_law_numbers
  b_law_numbers : Binds K d_law_numbers ["script"] []
  m_law_numbers : mg "_law_numbers" = some (.ref f_law_numbers)
  f_law_draw : Addr
  d_law_draw : FuncData
  F_law_draw : Fun K "_law_draw" "_law_draw" s_law_draw f_law_draw d_law_draw
  b_law_draw : Binds K d_law_draw ["draws"] []
  m_law_draw : mg "_law_draw" = some (.ref f_law_draw)
  f_law_local : Addr
  d_law_local : FuncData
  F_law_local : Fun K "_law_local" "_law_local" s_law_local f_law_local d_law_local
  b_law_local : Binds K d_law_local ["draws", "size"] []
  m_law_local : mg "_law_local" = some (.ref f_law_local)
  f_law_visible : Addr
  d_law_visible : FuncData
  F_law_visible : Fun K "_law_visible" "_law_visible" s_law_visible f_law_visible d_law_visible
  b_law_visible : Binds K d_law_visible ["draws", "places", "locks", "codes"] []
  m_law_visible : mg "_law_visible" = some (.ref f_law_visible)
  f_law_program : Addr
  d_law_program : FuncData
  F_law_program : Fun K "_law_program" "_law_program" s_law_program f_law_program d_law_program
  b_law_program : Binds K d_law_program ["draws", "most"] []
  m_law_program : mg "_law_program" = some (.ref f_law_program)
  f_law_bad_instruction : Addr
  d_law_bad_instruction : FuncData
  F_law_bad_instruction : Fun K "_law_bad_instruction" "_law_bad_instruction" s_law_bad_instruction f_law_bad_instruction d_law_bad_instruction
  b_law_bad_instruction : Binds K d_law_bad_instruction ["draws", "places", "locks", "many", "size"] []
  m_law_bad_instruction : mg "_law_bad_instruction" = some (.ref f_law_bad_instruction)
  f_law_spoilt : Addr
  d_law_spoilt : FuncData
  F_law_spoilt : Fun K "_law_spoilt" "_law_spoilt" s_law_spoilt f_law_spoilt d_law_spoilt
  b_law_spoilt : Binds K d_law_spoilt ["draws", "program"] []
  m_law_spoilt : mg "_law_spoilt" = some (.ref f_law_spoilt)
  f_law_is_program : Addr
  d_law_is_program : FuncData
  F_law_is_program : Fun K "_law_is_program" "_law_is_program" s_law_is_program f_law_is_program d_law_is_program
  b_law_is_program : Binds K d_law_is_program ["value"] []
  m_law_is_program : mg "_law_is_program" = some (.ref f_law_is_program)
  f_law : Addr
  d_law : FuncData
  F_law : Fun K "law" "law" s_law f_law d_law
  b_law : Binds K d_law ["script"] []
  m_law : mg "law" = some (.ref f_law)
  m_len : mg "len" = none
  m_tuple : mg "tuple" = none
  m_list : mg "list" = none
  m_range : mg "range" = none
  m_zip : mg "zip" = none
  m_str : mg "str" = none
  m_type : mg "type" = none
  m_isinstance : mg "isinstance" = none
  m_ValueError : mg "ValueError" = none
  m_int : mg "int" = none
  m_bool : mg "bool" = none
  t_LEAST_VALUE : Tok
  m_LEAST_VALUE : mg "LEAST_VALUE" = some (.int (-999) t_LEAST_VALUE)
  t_GREATEST_VALUE : Tok
  m_GREATEST_VALUE : mg "GREATEST_VALUE" = some (.int (999) t_GREATEST_VALUE)
  t_REGISTERS : Tok
  m_REGISTERS : mg "REGISTERS" = some (.int (4) t_REGISTERS)
end EW
set_option Elab.async false
set_option linter.all false
set_option maxRecDepth 100000
set_option maxHeartbeats 4400000
namespace EW
open L2 PyProof.Rows PySem.Spec PySem
/-! ### data, by value -/
mutual
def Is (M : Addr → Prop) (H : Hp) : PyData → V → Prop
  | .none, v => v = .non
  | .bool b, v => v = .bl b
  | .int i, v => v = .int i
  | .str s, v => v = .str s
  | .list ds, v => ∃ a xs, v = .ref a ∧ ¬ M a ∧ H a = some (.lst xs) ∧ IsAll M H ds xs
  | .tuple ds, v => ∃ a xs, v = .ref a ∧ H a = some (.tup xs) ∧ IsAll M H ds xs
  | .dict _, _ => False
def IsAll (M : Addr → Prop) (H : Hp) : List PyData → List V → Prop
  | [], vs => vs = []
  | d :: ds, vs => ∃ v r, vs = v :: r ∧ Is M H d v ∧ IsAll M H ds r
end
/-- what keeps data: tuples, and the lists that are none of M -/
structure KeepM (M : Addr → Prop) (H H' : Hp) : Prop where
  tup : ∀ a xs, H a = some (.tup xs) → H' a = some (.tup xs)
  lst : ∀ a xs, ¬ M a → H a = some (.lst xs) → H' a = some (.lst xs)
theorem KeepM.refl {M : Addr → Prop} {H : Hp} : KeepM M H H := ⟨fun _ _ h => h, fun _ _ _ h => h⟩
theorem KeepM.trans {M : Addr → Prop} {H H1 H2 : Hp} (a : KeepM M H H1) (b : KeepM M H1 H2) : KeepM M H H2 := ⟨fun _ _ h => b.tup _ _ (a.tup _ _ h), fun _ _ m h => b.lst _ _ m (a.lst _ _ m h)⟩
theorem KeepM.mono {M M' : Addr → Prop} {H H' : Hp} (h : ∀ a, M' a → M a) (k : KeepM M' H H') : KeepM M H H' := ⟨k.tup, fun a xs m => k.lst a xs fun z => m (h a z)⟩
theorem KeepM.same {M : Addr → Prop} {H H' : Hp} (s : Same H H') : KeepM M H H' := ⟨fun _ _ h => s _ _ h, fun _ _ _ h => s _ _ h⟩
mutual
theorem Is.keep {M : Addr → Prop} {H H' : Hp} (k : KeepM M H H') : ∀ {d : PyData} {v : V}, Is M H d v → Is M H' d v
  | .none, _, h => h
  | .bool _, _, h => h
  | .int _, _, h => h
  | .str _, _, h => h
  | .list ds, v, ⟨a, xs, e, m, h, r⟩ => ⟨a, xs, e, m, k.lst _ _ m h, IsAll.keep k r⟩
  | .tuple ds, v, ⟨a, xs, e, h, r⟩ => ⟨a, xs, e, k.tup _ _ h, IsAll.keep k r⟩
  | .dict _, _, h => h
theorem IsAll.keep {M : Addr → Prop} {H H' : Hp} (k : KeepM M H H') : ∀ {ds : List PyData} {vs : List V}, IsAll M H ds vs → IsAll M H' ds vs
  | [], _, h => h
  | _ :: _, _, ⟨v, r, e, h, t⟩ => ⟨v, r, e, Is.keep k h, IsAll.keep k t⟩
end
mutual
theorem Is.weak {M M' : Addr → Prop} {H : Hp} (k : ∀ a, M' a → M a) : ∀ {d : PyData} {v : V}, Is M H d v → Is M' H d v
  | .none, _, h => h
  | .bool _, _, h => h
  | .int _, _, h => h
  | .str _, _, h => h
  | .list ds, v, ⟨a, xs, e, m, h, r⟩ => ⟨a, xs, e, fun z => m (k a z), h, IsAll.weak k r⟩
  | .tuple ds, v, ⟨a, xs, e, h, r⟩ => ⟨a, xs, e, h, IsAll.weak k r⟩
  | .dict _, _, h => h
theorem IsAll.weak {M M' : Addr → Prop} {H : Hp} (k : ∀ a, M' a → M a) : ∀ {ds : List PyData} {vs : List V}, IsAll M H ds vs → IsAll M' H ds vs
  | [], _, h => h
  | _ :: _, _, ⟨v, r, e, h, t⟩ => ⟨v, r, e, Is.weak k h, IsAll.weak k t⟩
end
theorem IsAll.len {M : Addr → Prop} {H : Hp} : ∀ {ds : List PyData} {vs : List V}, IsAll M H ds vs → ds.length = vs.length
  | [], _, h => by cases h; rfl
  | _ :: _, _, ⟨_, _, e, _, t⟩ => by subst e; simp [IsAll.len t]
theorem IsAll.nil {M : Addr → Prop} {H : Hp} : IsAll M H [] [] := rfl
theorem IsAll.cons {M : Addr → Prop} {H : Hp} {d : PyData} {ds : List PyData} {v : V} {vs : List V} (h : Is M H d v) (t : IsAll M H ds vs) : IsAll M H (d :: ds) (v :: vs) := ⟨_, _, rfl, h, t⟩
theorem IsAll.snoc {M : Addr → Prop} {H : Hp} : ∀ {ds : List PyData} {vs : List V} {d : PyData} {v : V}, IsAll M H ds vs → Is M H d v → IsAll M H (ds ++ [d]) (vs ++ [v])
  | [], _, _, _, h, q => by cases h; exact ⟨_, _, rfl, q, rfl⟩
  | _ :: _, _, _, _, ⟨x, r, e, h, t⟩, q => by subst e; exact ⟨x, _, rfl, h, IsAll.snoc t q⟩
theorem IsAll.append {M : Addr → Prop} {H : Hp} : ∀ {ds : List PyData} {vs : List V} {es : List PyData} {us : List V}, IsAll M H ds vs → IsAll M H es us → IsAll M H (ds ++ es) (vs ++ us)
  | [], _, _, _, h, q => by cases h; exact q
  | _ :: _, _, _, _, ⟨x, r, e, h, t⟩, q => by subst e; exact ⟨x, _, rfl, h, IsAll.append t q⟩
theorem IsAll.get {M : Addr → Prop} {H : Hp} : ∀ {ds : List PyData} {vs : List V} {i : Nat} {v : V}, IsAll M H ds vs → vs[i]? = some v → ∃ d, ds[i]? = some d ∧ Is M H d v
  | [], _, i, v, h, q => by cases h; simp at q
  | d :: _, _, 0, v, ⟨x, r, e, h, t⟩, q => by subst e; cases q; exact ⟨d, rfl, h⟩
  | d :: ds, _, i + 1, v, ⟨x, r, e, h, t⟩, q => by
    subst e
    have q' : r[i]? = some v := by simpa using q
    obtain ⟨d', h1, h2⟩ := IsAll.get t q'
    exact ⟨d', by simpa using h1, h2⟩
theorem IsAll.getD {M : Addr → Prop} {H : Hp} : ∀ {ds : List PyData} {vs : List V} {i : Nat} {d : PyData}, IsAll M H ds vs → ds[i]? = some d → ∃ v, vs[i]? = some v ∧ Is M H d v
  | [], _, i, v, h, q => by simp at q
  | _ :: _, _, 0, _, ⟨x, r, e, h, t⟩, q => by subst e; cases q; exact ⟨x, rfl, h⟩
  | d :: ds, _, i + 1, d', ⟨x, r, e, h, t⟩, q => by
    subst e
    have q' : ds[i]? = some d' := by simpa using q
    obtain ⟨v', h1, h2⟩ := IsAll.getD t q'
    exact ⟨v', by simpa using h1, h2⟩
theorem IsAll.take {M : Addr → Prop} {H : Hp} : ∀ {ds : List PyData} {vs : List V} (n : Nat), IsAll M H ds vs → IsAll M H (ds.take n) (vs.take n)
  | [], _, n, h => by cases h; simp [IsAll]
  | _ :: _, _, 0, _ => by simp [IsAll]
  | _ :: _, _, n + 1, ⟨x, r, e, h, t⟩ => by subst e; exact ⟨x, _, rfl, h, IsAll.take n t⟩
theorem IsAll.drop {M : Addr → Prop} {H : Hp} : ∀ {ds : List PyData} {vs : List V} (n : Nat), IsAll M H ds vs → IsAll M H (ds.drop n) (vs.drop n)
  | [], _, n, h => by cases h; simp [IsAll]
  | _ :: _, _, 0, h => h
  | _ :: _, _, n + 1, ⟨x, r, e, h, t⟩ => by subst e; exact IsAll.drop n t
/-! ### heaps -/
/-- all but the object at M stays -/
def Keep (M : Addr) (H H' : Hp) : Prop := ∀ a o, a ≠ M → H a = some o → H' a = some o
theorem Keep.refl {M : Addr} {H : Hp} : Keep M H H := fun _ _ _ h => h
theorem Keep.trans {M : Addr} {H H1 H2 : Hp} (a : Keep M H H1) (b : Keep M H1 H2) : Keep M H H2 := fun c o n h => b c o n (a c o n h)
theorem Keep.same {M : Addr} {H H' : Hp} (s : Same H H') : Keep M H H' := fun a o _ h => s a o h
theorem Keep.get {M a : Addr} {o : HO} {H H' : Hp} (k : Keep M H H') (n : a ≠ M) (h : H a = some o) : H' a = some o := k a o n h
theorem same_get {a : Addr} {o : HO} {H H' : Hp} (k : Same H H') (h : H a = some o) : H' a = some o := k a o h
theorem Keep.upd {M : Addr} {H : Hp} {o : HO} : Keep M H (upd H M o) := fun a u n h => by rw [upd_ne n]; exact h
theorem same_upd {p : Addr} {H : Hp} {o : HO} (free : H p = none) : Same H (upd H p o) := fun _ _ e => (upd_ne (ne_of_none e free)).trans e
/-- the draws: the numbers at nu, the place in the list at dr -/
def Drs (dr nu : Addr) (H : Hp) : Prop := ∃ (k : Int) (ns : List Int), H dr = some (.lst [.ref nu, .int k]) ∧ 0 ≤ k ∧ H nu = some (.lst (ns.map V.int)) ∧ ∀ n ∈ ns, 0 ≤ n
theorem Drs.ne {dr nu : Addr} {H : Hp} (h : Drs dr nu H) : nu ≠ dr := by
  obtain ⟨k, ns, a, _, b, _⟩ := h
  intro e
  subst e
  rw [a] at b
  have q := Option.some.inj b
  cases ns with
  | nil => simp at q
  | cons x r => simp at q
theorem Drs.same {dr nu : Addr} {H H' : Hp} (h : Drs dr nu H) (s : Same H H') : Drs dr nu H' := by
  obtain ⟨k, ns, a, c, b, d⟩ := h
  exact ⟨k, ns, s _ _ a, c, s _ _ b, d⟩
theorem Drs.cell {dr nu l : Addr} {H : Hp} {o : HO} (h : Drs dr nu H) (h1 : l ≠ dr) (h2 : l ≠ nu) : Drs dr nu (upd H l o) := by
  obtain ⟨k, ns, a, c, b, d⟩ := h
  exact ⟨k, ns, by rw [upd_ne h1.symm]; exact a, c, by rw [upd_ne h2.symm]; exact b, d⟩
theorem Keep.toM {dr nu : Addr} {M : Addr → Prop} {H H' : Hp} (k : Keep dr H H') (h : Drs dr nu H) (m : M dr) : KeepM M H H' := by
  obtain ⟨z, ns, a, c, b, d⟩ := h
  exact ⟨fun x xs e => k x _ (fun q => by subst q; rw [a] at e; cases e) e, fun x xs n e => k x _ (fun q => by subst q; exact n m) e⟩
def newT (xs : List V) (H1 : Hp) (Q : VK) : Prop := xs.length ≤ sizeLine ∧ ∀ p, H1 p = none → Q (.ref p) (upd H1 p (.tup xs))
def newL (xs : List V) (H1 : Hp) (Q : VK) : Prop := xs.length ≤ sizeLine ∧ ∀ p, H1 p = none → Q (.ref p) (upd H1 p (.lst xs))
/-! ### readings, step by step -/
section
variable {σ : L2.St} {H : Hp} {Q : VK} {D : Ends}
theorem r_seq {t u : TS} (h : t { D with nx := u D } σ H) : tSeq t u D σ H := h
theorem r_asg {te : TE} {g : TG} (h : te σ H fun x H1 => g x σ H1 D.nx) : tAsg te g D σ H := h
theorem r_name {i : Nat} {v : V} {R : L2.St → Hp → Prop} (h : R (σ.set i (some v)) H) : gName i v σ H R := h
theorem r_var {i : Nat} {v : V} (e : σ[i]? = some (some v)) (h : Q v H) : tVar i σ H Q := ⟨v, e, h⟩
theorem r_C {v : V} (h : Q v H) : tC v σ H Q := h
theorem r_op {r : R2} {ta tb : TE} (h : ta σ H fun x H1 => tb σ H1 fun y H2 => r x y H2 Q) : tOp r ta tb σ H Q := h
theorem r_un {r : V → Hp → VK → Prop} {ta : TE} (h : ta σ H fun x H1 => r x H1 Q) : tUn r ta σ H Q := h
theorem r_rU {g : Int → V} {i : Int} (h : Q (g i) H) : rU g (.int i) H Q := ⟨i, rfl, h⟩
theorem r_I0 {g : Int → Int → V} {i j : Int} (h : Q (g i j) H) : rI0 g (.int i) (.int j) H Q := ⟨i, j, rfl, rfl, h⟩
theorem r_I {C : Int → Int → Prop} {g : Int → Int → V} {i j : Int} (c : C i j) (h : Q (g i j) H) : rI C g (.int i) (.int j) H Q := ⟨i, j, rfl, rfl, c, h⟩
theorem r_mod {i j : Int} (c : 0 < j) (h : ∀ m : Int, 0 ≤ m → m < j → Q (.int m) H) : rI (fun _ j => 0 < j) (fun i j => V.int (i % j)) (.int i) (.int j) H Q := ⟨i, j, rfl, rfl, c, h _ (Int.emod_nonneg _ (by omega)) (Int.emod_lt_of_pos _ c)⟩
theorem r_eqI {i j : Int} (h : Q (.bl (decide (i = j))) H) : rEq (.int i) (.int j) H Q := ⟨rfl, by
  have e : decide (V.int i = V.int j) = decide (i = j) := by simp
  rw [e]; exact h⟩
theorem r_neI {i j : Int} (h : Q (.bl (!decide (i = j))) H) : rNe (.int i) (.int j) H Q := ⟨rfl, by
  have e : decide (V.int i = V.int j) = decide (i = j) := by simp
  rw [e]; exact h⟩
theorem r_test {t : TE} {R : Bool → Hp → Prop} (h : t σ H fun x H' => ∃ k, x = .bl k ∧ R k H') : tTest t σ H R := h
theorem r_tB {t : TE} {R : Bool → Hp → Prop} (h : t σ H fun x H' => ∃ k, x = .bl k ∧ R k H') : tB t σ H R := h
theorem r_exk {b : Bool} {R : Bool → Prop} (h : R b) : ∃ k, V.bl b = .bl k ∧ R k := ⟨b, rfl, h⟩
theorem r_and {t u : TT} {R : Bool → Hp → Prop} (h : t σ H fun c H1 => if c = true then u σ H1 R else R false H1) : tAnd t u σ H R := h
theorem r_or {t u : TT} {R : Bool → Hp → Prop} (h : t σ H fun c H1 => if c = true then R true H1 else u σ H1 R) : tOr t u σ H R := h
theorem r_not {t : TT} {R : Bool → Hp → Prop} (h : t σ H fun c H1 => R (!c) H1) : tNot t σ H R := h
theorem r_ifS {c : TT} {t u : TS} (h : c σ H fun b H1 => if b = true then t D σ H1 else u D σ H1) : tIfS c t u D σ H := h
theorem r_ret {te : TE} (h : te σ H D.rt) : tRet te D σ H := h
theorem r_next (h : D.nx σ H) : tNext D σ H := h
theorem r_drop {te : TE} (h : te σ H fun _ H1 => D.nx σ H1) : tDrop te D σ H := h
theorem r_nil {R : List V → Hp → Prop} (h : R [] H) : tNil σ H R := h
theorem r_cons {ta : TE} {tr : TA} {R : List V → Hp → Prop} (h : ta σ H fun x H1 => tr σ H1 fun xs H2 => R (x :: xs) H2) : tCons ta tr σ H R := h
theorem r_call {sp : Sp} {dvs : List V} {E : XK} {t : TA} (h : t σ H fun vs H1 => sp (vs ++ dvs) H1 Q E) : tCall sp dvs E t σ H Q := h
theorem r_CB {r : List V → Hp → VK → Prop} {t : TA} (h : t σ H fun vs H1 => r vs H1 Q) : tCB r t σ H Q := h
theorem r_ifd {p : Prop} [Decidable p] {A B : Prop} (h1 : p → A) (h2 : ¬ p → B) : if decide p = true then A else B := by
  by_cases h : p
  · rw [if_pos (decide_eq_true h)]; exact h1 h
  · rw [if_neg (by simpa using h)]; exact h2 h
theorem r_ifeq {i j : Int} {A B : Prop} (h1 : i = j → A) (h2 : decide (i = j) = false → B) : if decide (i = j) = true then A else B := r_ifd h1 fun h => h2 (decide_eq_false h)
theorem r_ifnd {p : Prop} [Decidable p] {A B : Prop} (h1 : ¬ p → A) (h2 : p → B) : if (!decide p) = true then A else B := by
  by_cases h : p
  · rw [if_neg (by simpa using h)]; exact h2 h
  · rw [if_pos (by simpa using h)]; exact h1 h
theorem r_tup {t : TA} (h : t σ H fun xs H1 => newT xs H1 Q) : tTup t σ H Q := h
theorem r_lst {t : TA} (h : t σ H fun xs H1 => newL xs H1 Q) : tLst t σ H Q := h
theorem size1000 {n : Nat} (h : n ≤ 1000) : n ≤ sizeLine := Nat.le_of_lt (small1000 h)
theorem r_newT {M : Addr → Prop} {xs : List V} {ds : List PyData} (hi : IsAll M H ds xs) (hl : xs.length ≤ 1000) (q : ∀ v H2, Same H H2 → Is M H2 (.tuple ds) v → Q v H2) : newT xs H Q :=
  ⟨size1000 hl, fun p hp => q _ _ (same_upd hp) ⟨p, xs, rfl, upd_same, IsAll.keep (KeepM.same (same_upd hp)) hi⟩⟩
theorem r_newL {xs : List V} (hl : xs.length ≤ 1000) (q : ∀ p H2, H p = none → Same H H2 → H2 p = some (.lst xs) → Q (.ref p) H2) : newL xs H Q :=
  ⟨size1000 hl, fun p hp => q _ _ hp (same_upd hp) upd_same⟩
theorem r_memc {x : V} {xs : List V} {R : V → Prop} (h : R x) (t : ∀ v ∈ xs, R v) : ∀ v ∈ (x :: xs), R v := List.forall_mem_cons.mpr ⟨h, t⟩
theorem r_memn {R : V → Prop} : ∀ v ∈ ([] : List V), R v := fun _ h => by cases h
theorem is_int {M : Addr → Prop} {i : Int} : Is M H (.int i) (.int i) := rfl
theorem is_str {M : Addr → Prop} {i : Str} : Is M H (.str i) (.str i) := rfl
theorem is_bl {M : Addr → Prop} {i : Bool} : Is M H (.bool i) (.bl i) := rfl
theorem is_non {M : Addr → Prop} : Is M H .none .non := rfl
theorem ne_dr {dr nu p : Addr} (h : Drs dr nu H) (n : H p = none) : p ≠ dr := fun e => by
  obtain ⟨k, ns, a, _⟩ := h
  subst e
  rw [n] at a; cases a
theorem ne_nu {dr nu p : Addr} (h : Drs dr nu H) (n : H p = none) : p ≠ nu := fun e => by
  obtain ⟨k, ns, _, _, a, _⟩ := h
  subst e
  rw [n] at a; cases a
theorem r_ixL {K : PySem.W.Frag} {p : Addr} {xs : List V} {i : Int} {v : V} (h : H p = some (.lst xs)) (e : atI xs i = some v) (q : Q v H) : rIx K (.ref p) (.int i) H Q := .inl ⟨p, xs, i, v, rfl, rfl, .inl (.inl h), e, q⟩
theorem r_ixT {K : PySem.W.Frag} {p : Addr} {xs : List V} {i : Int} {v : V} (h : H p = some (.tup xs)) (e : atI xs i = some v) (q : Q v H) : rIx K (.ref p) (.int i) H Q := .inr (.inl ⟨p, xs, i, v, rfl, rfl, .inl (.inl h), e, q⟩)
theorem at_mem {α : Type} {xs : List α} {i : Int} (h0 : 0 ≤ i) (h1 : i < xs.length) : ∃ v ∈ xs, atI xs i = some v := by
  obtain ⟨j, rfl⟩ := Int.eq_ofNat_of_zero_le (h0)
  have hj : j < xs.length := by omega
  exact ⟨xs[j], List.getElem_mem hj, atI_nat (List.getElem?_eq_getElem hj)⟩
theorem r_ixM {K : PySem.W.Frag} {p : Addr} {xs : List V} {i : Int} (h : H p = some (.lst xs)) (h0 : 0 ≤ i) (h1 : i < xs.length) (q : ∀ v ∈ xs, Q v H) : rIx K (.ref p) (.int i) H Q := by
  obtain ⟨v, hv, e⟩ := at_mem h0 h1
  exact r_ixL h e (q v hv)
def rLen (K : PySem.W.Frag) : List V → Hp → VK → Prop := fun xs H Q => ∃ p ys, xs = [.ref p] ∧ (SqL K H p ys ∨ SqT K H p ys) ∧ Q (.int ys.length) H
theorem call_len {X : Cx} : CallR X (.builtin "len") (rLen X.K) := call_len_seq
theorem r_lenL {K : PySem.W.Frag} {p : Addr} {xs : List V} (h : H p = some (.lst xs)) (q : Q (.int xs.length) H) : rLen K [.ref p] H Q := ⟨p, xs, rfl, .inl (.inl (.inl h)), q⟩
theorem r_lenT {K : PySem.W.Frag} {p : Addr} {xs : List V} (h : H p = some (.tup xs)) (q : Q (.int xs.length) H) : rLen K [.ref p] H Q := ⟨p, xs, rfl, .inr (.inl (.inl h)), q⟩
theorem r_lenD {K : PySem.W.Frag} {M : Addr → Prop} {ds : List PyData} {v : V} (h : Is M H (.tuple ds) v) (q : Q (.int ds.length) H) : rLen K [v] H Q := by
  obtain ⟨a, xs, rfl, e, t⟩ := h
  refine r_lenT e ?_
  rw [← t.len]; exact q
theorem r_sub {to ti : TE} {t : TSet} {v : V} {R : L2.St → Hp → Prop} (h : to σ H fun o H1 => ti σ H1 fun i H2 => t o i v H2 fun H3 => R σ H3) : gSub to ti t v σ H R := h
theorem r_setL {p : Addr} {xs : List V} {k : Int} {j : Nat} {v : V} {R : Hp → Prop} (h : H p = some (.lst xs)) (e : ixN xs.length k = some j) (q : ∀ H2, Keep p H H2 → H2 p = some (.lst (xs.set j v)) → R H2) : rSetL (.ref p) (.int k) v H R :=
  ⟨p, xs, k, j, rfl, rfl, h, e, q _ Keep.upd upd_same⟩
theorem r_ixI {K : PySem.W.Frag} {p : Addr} {ns : List Int} {i : Int} (h : H p = some (.lst (ns.map V.int))) (h0 : 0 ≤ i) (h1 : i < (ns.map V.int).length) (q : ∀ n ∈ ns, Q (.int n) H) : rIx K (.ref p) (.int i) H Q :=
  r_ixM h h0 h1 fun v hv => by
    obtain ⟨n, hn, rfl⟩ := List.mem_map.mp hv
    exact q n hn
end

set_option hygiene false
/-! how data goes on: chains of heaps -/
local macro_rules | `(tactic| walk_at "km") => `(tactic| (first
  | exact KeepM.refl
  | (refine KeepM.trans ?_ (KeepM.same (by assumption)); walk_at "km")
  | (refine KeepM.trans ?_ (Keep.toM (by assumption) (by assumption) (by first | trivial | rfl)); walk_at "km")))
local macro_rules | `(tactic| walk_at "kp") => `(tactic| (first
  | exact Keep.refl
  | (refine Keep.trans ?_ (Keep.same (by assumption)); walk_at "kp")
  | (refine Keep.trans ?_ (by assumption); walk_at "kp")))
local macro_rules | `(tactic| walk_at "hat") => `(tactic| (first
  | assumption
  | (refine same_get (by assumption) ?_; walk_at "hat")
  | (refine Keep.get (by assumption) (by assumption) ?_; walk_at "hat")))
local macro_rules | `(tactic| walk_at "isd") => `(tactic| (with_reducible first
  | exact is_int | exact is_str | exact is_bl | exact is_non | assumption
  | (refine Is.keep ?_ (by assumption); walk_at "km")))
local macro_rules | `(tactic| walk_at "isall") => `(tactic| (repeat (with_reducible first | exact IsAll.nil | (refine IsAll.cons ?_ ?_; (walk_at "isd")))))
local macro_rules | `(tactic| walk_at "rd") => `(tactic| (with_reducible first
  | refine r_seq ?_ | refine r_asg ?_ | refine r_name ?_ | refine r_C ?_ | refine r_op ?_ | refine r_un ?_ | refine r_rU ?_ | refine r_I0 ?_ | refine r_eqI ?_ | refine r_neI ?_ | refine r_test ?_ | refine r_tB ?_ | refine r_exk ?_ | refine r_and ?_ | refine r_or ?_ | refine r_not ?_ | refine r_ifS ?_ | refine r_ret ?_ | refine r_next ?_ | refine r_drop ?_ | refine r_nil ?_ | refine r_cons ?_ | refine r_call ?_ | refine r_CB ?_ | refine r_tup ?_ | refine r_lst ?_
  | refine r_var (by with_unfolding_all rfl) ?_
  | refine r_I (by first | decide | (unfold CMul; omega) | (unfold CDiv; omega) | (unfold CPow; omega) | omega) ?_
  | refine iteT ?_ | refine iteF ?_ | refine r_ifd (fun h => ?_) (fun h => ?_) | refine r_ifnd (fun h => ?_) (fun h => ?_)))
local macro_rules | `(tactic| walk_at "al") => `(tactic| (first
  | (with_reducible refine r_newT (M := fun _ => True) (ds := ?ds) ?k1 ?k2 ?k3; (case k1 => walk_at "isall"); (case k2 => (with_unfolding_all decide)); (case k3 => (intro v H2 hs hi; (try (have hd2 := Drs.same (by assumption) hs)))))
  | (with_reducible refine r_newL ?k2 ?k3; (case k2 => (with_unfolding_all decide)); (case k3 => (intro p H2 hn hs hl; (try (have hd2 := Drs.same (by assumption) hs)); (try (have hne := ne_dr (by assumption) hn)))))
  | (with_reducible refine r_draw (by assumption) ?_; (intro n H2 hn hk hd))
  | (with_reducible refine r_lenL (by walk_at "hat") ?_)
  | (with_reducible refine r_sub ?_)
  | (with_reducible refine r_setL (by walk_at "hat") (by with_unfolding_all rfl) ?_; (intro H2 hk hl))
  | (with_reducible refine r_ixL (by walk_at "hat") (by with_unfolding_all rfl) ?_)
  | (with_reducible refine r_ixI (by walk_at "hat") (by omega) (by omega) ?_; (intro n hn))
  | (with_reducible refine r_mixed ?_; (intro n hn0 hn1))
  | (with_reducible refine r_ixM (by walk_at "hat") (by omega) (by (simp only [List.length_cons, List.length_nil]; omega)) ?_)
  | (with_reducible refine r_memc ?_ ?_) | (with_reducible exact r_memn)))
local macro_rules | `(tactic| walk_at "go") => `(tactic| (repeat' (first | walk_at "rd" | walk_at "al")))

section
variable {K : PySem.W.Frag} {P : Program} {mg : Str → Option Value} {w : World} {base : Heap}
def sp_mixed : Sp := fun vs H Q _ => ∃ n k : Int, vs = [.int n, .int k] ∧ ∀ r : Int, 0 ≤ r → r < 2147483647 → Q (.int r) H
theorem r_mixed {n k : Int} {H : Hp} {Q : VK} {E : XK} (q : ∀ r : Int, 0 ≤ r → r < 2147483647 → Q (.int r) H) : sp_mixed ([.int n, .int k] ++ []) H Q E := ⟨n, k, rfl, q⟩
theorem ok_mixed (T : Txt K mg) : FnOk P w K mg base CX0 1 T.f_law_mixed T.d_law_mixed ["number", "k"] sp_mixed := by
  refine T.F_law_mixed.ok sc_law_mixed (fun vs H Q E h => ?_) (fun cdv A outer s H vs Q E hr h => ?_)
  · obtain ⟨n, k, rfl, _⟩ := h
    rfl
  · obtain ⟨n, k, rfl, q⟩ := h
    have nd := sc_law_mixed.nd
    refine ⟨_, (pss_cons (ps_set (i := 2) nd rfl (.inl rfl) (pe_op op_mod (pe_op op_add (pe_op op_add (pe_op op_mul (pv 0) pe_int) (pe_op op_mul (pv 1) pe_int)) pe_int) pe_int))
      (pss_one (ps_ret (pe_op op_mod (pe_op op_add (pe_op op_mul (pv 2) (pe_op op_add (pe_op op_fdiv (pv 2) pe_int) pe_int)) (pv 1)) pe_int)))), ?_⟩
    walk_at "go"
    exact q _ (by omega) (by omega)
def sp_draw : Sp := fun vs H Q _ => ∃ dr nu, vs = [.ref dr] ∧ Drs dr nu H ∧ ∀ n H', 0 ≤ n → Keep dr H H' → Drs dr nu H' → Q (.int n) H'
theorem r_draw {dr nu : Addr} {H : Hp} {Q : VK} {E : XK} (h : Drs dr nu H) (q : ∀ n H', 0 ≤ n → Keep dr H H' → Drs dr nu H' → Q (.int n) H') : sp_draw ([.ref dr] ++ []) H Q E := ⟨dr, nu, rfl, h, q⟩
theorem ok_draw (T : Txt K mg) : FnOk P w K mg base CX0 2 T.f_law_draw T.d_law_draw ["draws"] sp_draw := by
  have G_law_mixed : FnOk P w K mg base CX0 1 T.f_law_mixed T.d_law_mixed ["number", "k"] sp_mixed := ok_mixed T
  refine T.F_law_draw.ok sc_law_draw (fun vs H Q E h => ?_) (fun cdv A outer s H vs Q E hr h => ?_)
  · obtain ⟨n, k, rfl, _⟩ := h
    rfl
  · obtain ⟨dr, nu, rfl, hD, q⟩ := h
    have nd := sc_law_draw.nd
    refine ⟨_, (pss_cons (ps_set (i := 1) nd rfl (.inl rfl) (pe_ix ix_seq (pv 0) pe_int (fun _ _ => rfl)))
      (pss_cons (ps_asg (pe_op op_add (pv 1) pe_int) (pg_sub (pv 0) pe_int set_list))
      (pss_cons (ps_if (pt_cmpR op_lt (pv 1) (pe_callB call_len (by rfl) T.m_len PySem.boot_len (pa_cons (pe_ix ix_seq (pv 0) pe_int (fun _ _ => rfl)) pa_nil)) (nomark _)) (pss_one (ps_ret (pe_ix ix_seq (pe_ix ix_seq (pv 0) pe_int (fun _ _ => rfl)) (pv 1) (fun _ _ => rfl)))) pss_nil)
      (pss_cons (ps_set (i := 2) nd rfl (.inl rfl) (pe_op op_add pe_int (pv 1)))
      (pss_cons (ps_if (pt_cmpR op_gt (pe_callB call_len (by rfl) T.m_len PySem.boot_len (pa_cons (pe_ix ix_seq (pv 0) pe_int (fun _ _ => rfl)) pa_nil)) pe_int (nomark _)) (pss_one (ps_set (i := 2) nd rfl (.inl rfl) (pe_op op_add (pv 2) (pe_op op_mul pe_int (pe_ix ix_seq (pe_ix ix_seq (pv 0) pe_int (fun _ _ => rfl)) pe_int (fun _ _ => rfl)))))) pss_nil)
      (pss_one (ps_ret (pe_op op_mod (pe_call G_law_mixed (hr.mono (by decide)) (by rfl) T.m_law_mixed T.F_law_mixed.kp T.b_law_mixed .nil pass0 (pa_cons (pe_call G_law_mixed (hr.mono (by decide)) (by rfl) T.m_law_mixed T.F_law_mixed.kp T.b_law_mixed .nil pass0 (pa_cons (pv 2) (pa_cons (pv 1) pa_nil))) (pa_cons pe_int pa_nil))) pe_int)))))))), ?_⟩
    have nn := hD.ne
    obtain ⟨k, ns, h1, h2, h3, h4⟩ := hD
    have hlen : (ns.map V.int).length = ns.length := List.length_map _
    walk_at "go"
    · exact q _ _ (h4 n hn) hk ⟨k + 1, ns, hl, by omega, Keep.get hk nn h3, h4⟩
    · exact q _ _ (by omega) hk ⟨k + 1, ns, hl, by omega, Keep.get hk nn h3, h4⟩
    · exact q _ _ (by omega) hk ⟨k + 1, ns, hl, by omega, Keep.get hk nn h3, h4⟩
end
/-! ### what an instruction is -/
inductive Sh where
  | r | v | n | x | s | l | k
  deriving DecidableEq
def shapeOf (w : Str) : Option (List Sh) :=
  if w = "const" then some [.r, .v] else if w = "copy" then some [.r, .r] else if w = "add" then some [.r, .r, .r] else if w = "sub" then some [.r, .r, .r] else if w = "mul" then some [.r, .r, .r] else
  if w = "eq" then some [.r, .r, .r] else if w = "less" then some [.r, .r, .r] else if w = "jump" then some [.n] else if w = "branch" then some [.r, .n] else if w = "assert" then some [.r] else if w = "stop" then some [] else
  if w = "load" then some [.r, .x] else if w = "store" then some [.x, .r] else if w = "swap" then some [.r, .s, .r] else if w = "fetch" then some [.r, .s, .r] else if w = "cas" then some [.r, .s, .r, .r] else
  if w = "await" then some [.r, .s, .r] else if w = "fence" then some [] else if w = "lock" then some [.l] else if w = "unlock" then some [.l] else if w = "spawn" then some [.r, .k, .r] else if w = "join" then some [.r] else none
def isInt (lo hi : Int) : PyData → Bool
  | .int i => decide (lo ≤ i ∧ i ≤ hi)
  | _ => false
abbrev Pl := List (Int × Bool)
def okNum (ps : Pl) (locks many len : Int) : Sh → PyData → Bool
  | .r, d => isInt 0 3 d
  | .v, d => isInt (-999) 999 d
  | .n, d => isInt 0 len d
  | .x, d => isInt 0 ((ps.length : Int) - 1) d
  | .s, d => isInt 0 ((ps.length : Int) - 1) d && (match d with | .int i => !((ps[i.toNat]?.map (·.2)).getD false) | _ => false)
  | .l, d => isInt 0 (locks - 1) d
  | .k, d => isInt 0 (many - 1) d
def okAll (ps : Pl) (locks many len : Int) : List Sh → List PyData → Bool
  | [], [] => true
  | s :: ss, d :: ds => okNum ps locks many len s d && okAll ps locks many len ss ds
  | _, _ => false
def okI (ps : Pl) (locks many len : Int) : PyData → Bool
  | .tuple (.str w :: ds) => match shapeOf w with
    | some sh => okAll ps locks many len sh ds
    | none => false
  | _ => false
theorem okI_of {ps : Pl} {locks many len : Int} {w : Str} {sh : List Sh} {ds : List PyData} (h : shapeOf w = some sh) (q : okAll ps locks many len sh ds = true) : okI ps locks many len (.tuple (.str w :: ds)) = true := by
  simp only [okI, h, q]
def placeD (p : Int × Bool) : PyData := .tuple [.int p.1, .bool p.2]
def placesD (ps : Pl) : PyData := .tuple (ps.map placeD)
section
variable {σ : L2.St} {H : Hp} {Q : VK} {D : Ends}
theorem r_ixMk {K : PySem.W.Frag} {p : Addr} {xs : List V} {i k : Int} (h : H p = some (.lst xs)) (h0 : 0 ≤ i) (h1 : i < k) (hk : k ≤ xs.length) (q : ∀ v ∈ xs, Q v H) : rIx K (.ref p) (.int i) H Q := r_ixM h h0 (Int.lt_of_lt_of_le h1 hk) q
theorem r_lenP {K : PySem.W.Frag} {M : Addr → Prop} {ps : Pl} {v : V} (h : Is M H (placesD ps) v) (q : Q (.int ps.length) H) : rLen K [v] H Q := r_lenD h (by rw [List.length_map]; exact q)
theorem r_ixD {K : PySem.W.Frag} {M : Addr → Prop} {ds : List PyData} {v : V} {i : Int} (h : Is M H (.tuple ds) v) (h0 : 0 ≤ i) (h1 : i < ds.length) (q : ∀ (j : Nat) d u, i = (j : Int) → ds[j]? = some d → Is M H d u → Q u H) : rIx K v (.int i) H Q := by
  obtain ⟨a, xs, rfl, e, t⟩ := h
  have hl := t.len
  obtain ⟨j, rfl⟩ := Int.eq_ofNat_of_zero_le (h0)
  have hj : j < xs.length := by omega
  obtain ⟨d, hd, hi⟩ := t.get (List.getElem?_eq_getElem hj)
  exact r_ixT e (atI_nat (List.getElem?_eq_getElem hj)) (q j d _ rfl hd hi)
theorem r_ixP {K : PySem.W.Frag} {M : Addr → Prop} {ps : Pl} {v : V} {i : Int} (h : Is M H (placesD ps) v) (h0 : 0 ≤ i) (h1 : i < ps.length) (q : ∀ (j : Nat) p u, i = (j : Int) → ps[j]? = some p → Is M H (placeD p) u → Q u H) : rIx K v (.int i) H Q :=
  r_ixD h h0 (by rw [List.length_map]; exact h1) fun j d u e g hi => by
    rw [List.getElem?_map] at g
    cases z : ps[j]? with
    | none => rw [z] at g; cases g
    | some p => rw [z] at g; cases g; exact q j p u e z hi
theorem r_ixP1 {K : PySem.W.Frag} {M : Addr → Prop} {p : Int × Bool} {v : V} (h : Is M H (placeD p) v) (q : Q (.bl p.2) H) : rIx K v (.int 1) H Q := by
  obtain ⟨a, xs, rfl, e, v1, r1, rfl, h1, v2, r2, rfl, h2, rfl⟩ := h
  cases h2
  exact r_ixT e (by rfl) q
end
end EW
set_option Elab.async false
set_option linter.all false
set_option maxRecDepth 100000
set_option maxHeartbeats 16000000
namespace EW
open L2 PyProof.Rows PySem.Spec PySem
set_option hygiene false
local macro_rules | `(tactic| walk_at "km") => `(tactic| (first
  | exact KeepM.refl
  | (refine KeepM.trans ?_ (KeepM.same (by assumption)); walk_at "km")
  | (refine KeepM.trans ?_ (Keep.toM (by assumption) (by assumption) (by first | trivial | rfl)); walk_at "km")))
local macro_rules | `(tactic| walk_at "kp") => `(tactic| (first
  | exact Keep.refl
  | (refine Keep.trans ?_ (Keep.same (by assumption)); walk_at "kp")
  | (refine Keep.trans ?_ (by assumption); walk_at "kp")))
local macro_rules | `(tactic| walk_at "hat") => `(tactic| (first
  | assumption
  | (refine same_get (by assumption) ?_; walk_at "hat")
  | (refine Keep.get (by assumption) (by assumption) ?_; walk_at "hat")))
local macro_rules | `(tactic| walk_at "isd") => `(tactic| (with_reducible first
  | exact is_int | exact is_str | exact is_bl | exact is_non | assumption
  | (refine Is.keep ?_ (by assumption); walk_at "km")))
local macro_rules | `(tactic| walk_at "isall") => `(tactic| (repeat (with_reducible first | exact IsAll.nil | (apply IsAll.cons; (walk_at "isd")))))
local macro_rules | `(tactic| walk_at "pos") => `(tactic| (first | decide | assumption | omega | (simp only [decide_eq_false_iff_not] at *; omega)))
local macro_rules | `(tactic| walk_at "rd") => `(tactic| (with_reducible first
  | refine r_seq ?_ | refine r_asg ?_ | refine r_name ?_ | refine r_C ?_ | refine r_op ?_ | refine r_un ?_ | refine r_rU ?_ | refine r_I0 ?_ | refine r_eqI ?_ | refine r_neI ?_ | refine r_test ?_ | refine r_tB ?_ | refine r_exk ?_ | refine r_and ?_ | refine r_or ?_ | refine r_not ?_ | refine r_ifS ?_ | refine r_ret ?_ | refine r_next ?_ | refine r_drop ?_ | refine r_nil ?_ | refine r_cons ?_ | refine r_call ?_ | refine r_CB ?_ | refine r_tup ?_ | refine r_lst ?_ | refine r_sub ?_
  | (apply r_var; (focus ((with_unfolding_all rfl); done)))
  | (refine r_mod ?_ ?_; (focus ((walk_at "pos"); done)); intro m hm0 hm1)
  | (refine r_I ?_ ?_; (focus ((first | decide | (unfold CMul; omega) | (unfold CDiv; omega) | (unfold CPow; omega) | omega); done)))
  | refine iteT ?_ | refine iteF ?_ | refine r_ifeq (fun h => ?_) (fun h => ?_) | refine r_ifd (fun h => ?_) (fun h => ?_) | refine r_ifnd (fun h => ?_) (fun h => ?_) | refine ite2 (fun h => ?_) (fun h => ?_)))
local macro_rules | `(tactic| walk_at "al") => `(tactic| (first
  | ((with_reducible apply r_newT (M := fun _ => True)); (focus (walk_at "isall"; done)); (with_unfolding_all exact Nat.le_of_ble_eq_true rfl); intro v H2 hs hi; (try (have hd2 := Drs.same (by assumption) hs)))
  | ((with_reducible apply r_newL); (with_unfolding_all exact Nat.le_of_ble_eq_true rfl); intro p H2 hn hs hl; (try (have hd2 := Drs.same (by assumption) hs)); (try (have hne := ne_dr (by assumption) hn)))
  | ((with_reducible apply r_draw); (focus (assumption)); (intro n H2 hn hk hd))
  | ((with_reducible apply r_lenL); (focus (walk_at "hat")))
  | ((with_reducible apply r_setL); (focus (walk_at "hat")); (focus ((with_unfolding_all rfl); done)); (intro H2 hk hl))
  | ((with_reducible apply r_ixMk); (focus (walk_at "hat")); (focus (assumption)); (focus assumption); (focus ((simp only [List.length_cons, List.length_nil]); decide)))
  | ((with_reducible apply r_ixI); (focus (walk_at "hat")); (focus (omega)); (focus (omega)); (intro n hn))
  | ((with_reducible apply r_mixed); (intro n hn0 hn1))
  | ((with_reducible apply r_lenP); (focus (walk_at "isd")))
  | ((with_reducible apply r_ixP); (focus (walk_at "isd")); (focus assumption); (focus assumption); (intro j pp u hj hp hu))
  | ((with_reducible apply r_ixP1); (focus assumption))
  | ((with_reducible apply r_ixL); (focus (walk_at "hat")); (focus ((with_unfolding_all rfl); done)))
  | (with_reducible refine r_memc ?_ ?_) | (with_reducible exact r_memn)))
local macro_rules | `(tactic| walk_at "go") => `(tactic| (repeat' (first | walk_at "rd" | walk_at "al")))
section
variable {K : PySem.W.Frag} {P : Program} {mg : Str → Option Value} {w : World} {base : Heap}
def sp_local : Sp := fun vs H Q _ => ∃ dr nu size, vs = [.ref dr, .int size] ∧ Drs dr nu H ∧ 0 ≤ size ∧ ∀ d v H', Is (fun _ => True) H' d v → (∀ ps locks many, okI ps locks many size d = true) → Keep dr H H' → Drs dr nu H' → Q v H'
theorem ok_local (T : Txt K mg) : FnOk P w K mg base CX0 3 T.f_law_local T.d_law_local ["draws", "size"] sp_local := by
  have G_law_draw : FnOk P w K mg base CX0 2 T.f_law_draw T.d_law_draw ["draws"] sp_draw := ok_draw T
  refine T.F_law_local.ok sc_law_local (fun vs H Q E h => ?_) (fun cdv A outer s H vs Q E hr h => ?_)
  · obtain ⟨n, k, z, rfl, _⟩ := h
    rfl
  · obtain ⟨dr, nu, size, rfl, hD, h0, q⟩ := h
    have nd := sc_law_local.nd
    refine ⟨_, (pss_cons (ps_set (i := 2) nd rfl (.inl rfl) (pe_op op_mod (pe_call G_law_draw (hr.mono (by decide)) (by rfl) T.m_law_draw T.F_law_draw.kp T.b_law_draw .nil pass0 (pa_cons (pv 0) pa_nil)) pe_int))
      (pss_cons (ps_set (i := 3) nd rfl (.inl rfl) (pe_op op_mod (pe_call G_law_draw (hr.mono (by decide)) (by rfl) T.m_law_draw T.F_law_draw.kp T.b_law_draw .nil pass0 (pa_cons (pv 0) pa_nil)) pe_int))
      (pss_cons (ps_set (i := 4) nd rfl (.inl rfl) (pe_op op_mod (pe_call G_law_draw (hr.mono (by decide)) (by rfl) T.m_law_draw T.F_law_draw.kp T.b_law_draw .nil pass0 (pa_cons (pv 0) pa_nil)) pe_int))
      (pss_cons (ps_set (i := 5) nd rfl (.inl rfl) (pe_op op_mod (pe_call G_law_draw (hr.mono (by decide)) (by rfl) T.m_law_draw T.F_law_draw.kp T.b_law_draw .nil pass0 (pa_cons (pv 0) pa_nil)) pe_int))
      (pss_cons (ps_if (pt_cmpR op_lt (pv 5) pe_int (nomark _)) (pss_one (ps_ret (pe_tup (pa_cons pe_str (pa_cons (pv 2) (pa_cons (pe_ix ix_seq (pe_lst (pa_cons pe_int (pa_cons pe_int (pa_cons pe_int (pa_cons (pe_un un_neg pe_int) (pa_cons pe_int (pa_cons pe_int (pa_cons pe_int pa_nil)))))))) (pe_op op_mod (pe_call G_law_draw (hr.mono (by decide)) (by rfl) T.m_law_draw T.F_law_draw.kp T.b_law_draw .nil pass0 (pa_cons (pv 0) pa_nil)) pe_int) (fun _ _ => rfl)) pa_nil)))))) pss_nil)
      (pss_cons (ps_if (pt_cmpR op_eq (pv 5) pe_int (nomark _)) (pss_one (ps_ret (pe_tup (pa_cons pe_str (pa_cons (pv 2) (pa_cons (pv 3) pa_nil)))))) pss_nil)
      (pss_cons (ps_if (pt_cmpR op_lt (pv 5) pe_int (nomark _)) (pss_one (ps_ret (pe_tup (pa_cons (pe_ix ix_seq (pe_lst (pa_cons pe_str (pa_cons pe_str (pa_cons pe_str pa_nil)))) (pe_op op_mod (pe_call G_law_draw (hr.mono (by decide)) (by rfl) T.m_law_draw T.F_law_draw.kp T.b_law_draw .nil pass0 (pa_cons (pv 0) pa_nil)) pe_int) (fun _ _ => rfl)) (pa_cons (pv 2) (pa_cons (pv 3) (pa_cons (pv 4) pa_nil))))))) pss_nil)
      (pss_cons (ps_if (pt_cmpR op_eq (pv 5) pe_int (nomark _)) (pss_one (ps_ret (pe_tup (pa_cons (pe_ix ix_seq (pe_lst (pa_cons pe_str (pa_cons pe_str pa_nil))) (pe_op op_mod (pe_call G_law_draw (hr.mono (by decide)) (by rfl) T.m_law_draw T.F_law_draw.kp T.b_law_draw .nil pass0 (pa_cons (pv 0) pa_nil)) pe_int) (fun _ _ => rfl)) (pa_cons (pv 2) (pa_cons (pv 3) (pa_cons (pv 4) pa_nil))))))) pss_nil)
      (pss_cons (ps_if (pt_cmpR op_eq (pv 5) pe_int (nomark _)) (pss_one (ps_ret (pe_tup (pa_cons pe_str (pa_cons (pe_op op_mod (pe_call G_law_draw (hr.mono (by decide)) (by rfl) T.m_law_draw T.F_law_draw.kp T.b_law_draw .nil pass0 (pa_cons (pv 0) pa_nil)) (pe_op op_add (pv 1) pe_int)) pa_nil))))) pss_nil)
      (pss_cons (ps_if (pt_cmpR op_eq (pv 5) pe_int (nomark _)) (pss_one (ps_ret (pe_tup (pa_cons pe_str (pa_cons (pv 3) (pa_cons (pe_op op_mod (pe_call G_law_draw (hr.mono (by decide)) (by rfl) T.m_law_draw T.F_law_draw.kp T.b_law_draw .nil pass0 (pa_cons (pv 0) pa_nil)) (pe_op op_add (pv 1) pe_int)) pa_nil)))))) pss_nil)
      (pss_cons (ps_if (pt_cmpR op_eq (pv 5) pe_int (nomark _)) (pss_one (ps_ret (pe_tup (pa_cons pe_str (pa_cons (pv 3) pa_nil))))) pss_nil)
      (pss_one (ps_ret (pe_ix ix_seq (pe_lst (pa_cons (pe_tup (pa_cons pe_str pa_nil)) (pa_cons (pe_tup (pa_cons pe_str (pa_cons (pv 2) (pa_cons pe_int pa_nil)))) (pa_cons (pe_tup (pa_cons pe_str (pa_cons (pv 2) (pa_cons pe_int pa_nil)))) pa_nil)))) (pe_op op_mod (pe_call G_law_draw (hr.mono (by decide)) (by rfl) T.m_law_draw T.F_law_draw.kp T.b_law_draw .nil pass0 (pa_cons (pv 0) pa_nil)) pe_int) (fun _ _ => rfl))))))))))))))), ?_⟩
    walk_at "go"
    all_goals refine q _ _ _ (by walk_at "isd") (fun ps locks many => ?_) (by walk_at "kp") (by assumption)
    all_goals refine okI_of (by with_unfolding_all rfl) ?_
    all_goals simp [okAll, okNum, isInt]
    all_goals omega
end
end EW
set_option Elab.async false
set_option linter.all false
set_option maxRecDepth 100000
set_option maxHeartbeats 16000000
namespace EW
open L2 PyProof.Rows PySem.Spec PySem
set_option hygiene false
local macro_rules | `(tactic| walk_at "km") => `(tactic| (first
  | exact KeepM.refl
  | (refine KeepM.trans ?_ (KeepM.same (by assumption)); walk_at "km")
  | (refine KeepM.trans ?_ (Keep.toM (by assumption) (by assumption) (by first | trivial | rfl)); walk_at "km")))
local macro_rules | `(tactic| walk_at "kp") => `(tactic| (first
  | exact Keep.refl
  | (refine Keep.trans ?_ (Keep.same (by assumption)); walk_at "kp")
  | (refine Keep.trans ?_ (by assumption); walk_at "kp")))
local macro_rules | `(tactic| walk_at "hat") => `(tactic| (first
  | assumption
  | (refine same_get (by assumption) ?_; walk_at "hat")
  | (refine Keep.get (by assumption) (by assumption) ?_; walk_at "hat")))
local macro_rules | `(tactic| walk_at "isd") => `(tactic| (with_reducible first
  | exact is_int | exact is_str | exact is_bl | exact is_non | assumption
  | (refine Is.keep ?_ (by assumption); walk_at "km")))
local macro_rules | `(tactic| walk_at "isall") => `(tactic| (repeat (with_reducible first | exact IsAll.nil | (apply IsAll.cons; (walk_at "isd")))))
local macro_rules | `(tactic| walk_at "pos") => `(tactic| (first | decide | assumption | omega | (simp only [decide_eq_false_iff_not] at *; omega)))
local macro_rules | `(tactic| walk_at "rd") => `(tactic| (with_reducible first
  | refine r_seq ?_ | refine r_asg ?_ | refine r_name ?_ | refine r_C ?_ | refine r_op ?_ | refine r_un ?_ | refine r_rU ?_ | refine r_I0 ?_ | refine r_eqI ?_ | refine r_neI ?_ | refine r_test ?_ | refine r_tB ?_ | refine r_exk ?_ | refine r_and ?_ | refine r_or ?_ | refine r_not ?_ | refine r_ifS ?_ | refine r_ret ?_ | refine r_next ?_ | refine r_drop ?_ | refine r_nil ?_ | refine r_cons ?_ | refine r_call ?_ | refine r_CB ?_ | refine r_tup ?_ | refine r_lst ?_ | refine r_sub ?_
  | (apply r_var; (focus ((with_unfolding_all rfl); done)))
  | (refine r_mod ?_ ?_; (focus ((walk_at "pos"); done)); intro m hm0 hm1)
  | (refine r_I ?_ ?_; (focus ((first | decide | (unfold CMul; omega) | (unfold CDiv; omega) | (unfold CPow; omega) | omega); done)))
  | refine iteT ?_ | refine iteF ?_ | refine r_ifeq (fun h => ?_) (fun h => ?_) | refine r_ifd (fun h => ?_) (fun h => ?_) | refine r_ifnd (fun h => ?_) (fun h => ?_) | refine ite2 (fun h => ?_) (fun h => ?_)))
local macro_rules | `(tactic| walk_at "al") => `(tactic| (first
  | ((with_reducible apply r_newT (M := fun _ => True)); (focus (walk_at "isall"; done)); (with_unfolding_all exact Nat.le_of_ble_eq_true rfl); intro v H2 hs hi; (try (have hd2 := Drs.same (by assumption) hs)))
  | ((with_reducible apply r_newL); (with_unfolding_all exact Nat.le_of_ble_eq_true rfl); intro p H2 hn hs hl; (try (have hd2 := Drs.same (by assumption) hs)); (try (have hne := ne_dr (by assumption) hn)))
  | ((with_reducible apply r_draw); (focus (assumption)); (intro n H2 hn hk hd))
  | ((with_reducible apply r_lenL); (focus (walk_at "hat")))
  | ((with_reducible apply r_setL); (focus (walk_at "hat")); (focus ((with_unfolding_all rfl); done)); (intro H2 hk hl))
  | ((with_reducible apply r_ixMk); (focus (walk_at "hat")); (focus (assumption)); (focus assumption); (focus ((simp only [List.length_cons, List.length_nil]); decide)))
  | ((with_reducible apply r_ixI); (focus (walk_at "hat")); (focus (omega)); (focus (omega)); (intro n hn))
  | ((with_reducible apply r_mixed); (intro n hn0 hn1))
  | ((with_reducible apply r_lenP); (focus (walk_at "isd")))
  | ((with_reducible apply r_ixP); (focus (walk_at "isd")); (focus assumption); (focus assumption); (intro j pp u hj hp hu))
  | ((with_reducible apply r_ixP1); (focus assumption))
  | ((with_reducible apply r_ixL); (focus (walk_at "hat")); (focus ((with_unfolding_all rfl); done)))
  | (with_reducible refine r_memc ?_ ?_) | (with_reducible exact r_memn)))
local macro_rules | `(tactic| walk_at "go") => `(tactic| (repeat' (first | walk_at "rd" | walk_at "al")))
section
variable {K : PySem.W.Frag} {P : Program} {mg : Str → Option Value} {w : World} {base : Heap}
def sp_visible : Sp := fun vs H Q _ => ∃ dr nu vp ps locks many, vs = [.ref dr, vp, .int locks, .int many] ∧ Drs dr nu H ∧ Is (fun _ => True) H (placesD ps) vp ∧ 0 ≤ locks ∧ 0 < many ∧ ∀ d v H', Is (fun _ => True) H' d v → (∀ len, okI ps locks many len d = true) → Keep dr H H' → Drs dr nu H' → Q v H'
theorem ok_visible (T : Txt K mg) : FnOk P w K mg base CX0 3 T.f_law_visible T.d_law_visible ["draws", "places", "locks", "codes"] sp_visible := by
  have G_law_draw : FnOk P w K mg base CX0 2 T.f_law_draw T.d_law_draw ["draws"] sp_draw := ok_draw T
  refine T.F_law_visible.ok sc_law_visible (fun vs H Q E h => ?_) (fun cdv A outer s H vs Q E hr h => ?_)
  · obtain ⟨_, _, _, _, _, _, rfl, _⟩ := h
    rfl
  · obtain ⟨dr, nu, vp, ps, locks, many, rfl, hD, hP, h0, h1, q⟩ := h
    have nd := sc_law_visible.nd
    refine ⟨_, (pss_cons (ps_set (i := 4) nd rfl (.inl rfl) (pe_op op_mod (pe_call G_law_draw (hr.mono (by decide)) (by rfl) T.m_law_draw T.F_law_draw.kp T.b_law_draw .nil pass0 (pa_cons (pv 0) pa_nil)) pe_int))
      (pss_cons (ps_set (i := 5) nd rfl (.inl rfl) (pe_op op_mod (pe_call G_law_draw (hr.mono (by decide)) (by rfl) T.m_law_draw T.F_law_draw.kp T.b_law_draw .nil pass0 (pa_cons (pv 0) pa_nil)) pe_int))
      (pss_cons (ps_set (i := 6) nd rfl (.inl rfl) (pe_op op_mod (pe_call G_law_draw (hr.mono (by decide)) (by rfl) T.m_law_draw T.F_law_draw.kp T.b_law_draw .nil pass0 (pa_cons (pv 0) pa_nil)) pe_int))
      (pss_cons (ps_set (i := 7) nd rfl (.inl rfl) (pe_op op_mod (pe_call G_law_draw (hr.mono (by decide)) (by rfl) T.m_law_draw T.F_law_draw.kp T.b_law_draw .nil pass0 (pa_cons (pv 0) pa_nil)) pe_int))
      (pss_cons (ps_if (PW.pt (pw_and (pt_cmpR op_lt (pv 7) pe_int (nomark _)) (pw_and1 (pt_cmpR op_gt (pv 2) pe_int (nomark _))))) (pss_one (ps_ret (pe_tup (pa_cons (pe_ix ix_seq (pe_lst (pa_cons pe_str (pa_cons pe_str pa_nil))) (pe_op op_mod (pe_call G_law_draw (hr.mono (by decide)) (by rfl) T.m_law_draw T.F_law_draw.kp T.b_law_draw .nil pass0 (pa_cons (pv 0) pa_nil)) pe_int) (fun _ _ => rfl)) (pa_cons (pe_op op_mod (pe_call G_law_draw (hr.mono (by decide)) (by rfl) T.m_law_draw T.F_law_draw.kp T.b_law_draw .nil pass0 (pa_cons (pv 0) pa_nil)) (pv 2)) pa_nil))))) pss_nil)
      (pss_cons (ps_if (pt_cmpR op_eq (pv 7) pe_int (nomark _)) (pss_one (ps_ret (pe_tup (pa_cons pe_str pa_nil)))) pss_nil)
      (pss_cons (ps_if (pt_cmpR op_eq (pv 7) pe_int (nomark _)) (pss_one (ps_ret (pe_tup (pa_cons pe_str (pa_cons (pv 4) (pa_cons (pe_op op_mod (pe_call G_law_draw (hr.mono (by decide)) (by rfl) T.m_law_draw T.F_law_draw.kp T.b_law_draw .nil pass0 (pa_cons (pv 0) pa_nil)) (pv 3)) (pa_cons (pv 5) pa_nil))))))) pss_nil)
      (pss_cons (ps_if (pt_cmpR op_eq (pv 7) pe_int (nomark _)) (pss_one (ps_ret (pe_tup (pa_cons pe_str (pa_cons (pv 5) pa_nil))))) pss_nil)
      (pss_cons (ps_if (pt_cmpR op_eq (pe_callB call_len (by rfl) T.m_len PySem.boot_len (pa_cons (pv 1) pa_nil)) pe_int (nomark _)) (pss_one (ps_ret (pe_tup (pa_cons pe_str pa_nil)))) pss_nil)
      (pss_cons (ps_set (i := 8) nd rfl (.inl rfl) (pe_op op_mod (pe_call G_law_draw (hr.mono (by decide)) (by rfl) T.m_law_draw T.F_law_draw.kp T.b_law_draw .nil pass0 (pa_cons (pv 0) pa_nil)) (pe_callB call_len (by rfl) T.m_len PySem.boot_len (pa_cons (pv 1) pa_nil))))
      (pss_cons (ps_if (pt_val (pe_ix ix_seq (pe_ix ix_seq (pv 1) (pv 8) (fun _ _ => rfl)) pe_int (fun _ _ => rfl))) (pss_one (ps_ret (pe_ix ix_seq (pe_lst (pa_cons (pe_tup (pa_cons pe_str (pa_cons (pv 4) (pa_cons (pv 8) pa_nil)))) (pa_cons (pe_tup (pa_cons pe_str (pa_cons (pv 8) (pa_cons (pv 5) pa_nil)))) pa_nil))) (pe_op op_mod (pe_call G_law_draw (hr.mono (by decide)) (by rfl) T.m_law_draw T.F_law_draw.kp T.b_law_draw .nil pass0 (pa_cons (pv 0) pa_nil)) pe_int) (fun _ _ => rfl)))) pss_nil)
      (pss_cons (ps_if (pt_cmpR op_lt (pv 7) pe_int (nomark _)) (pss_one (ps_ret (pe_tup (pa_cons pe_str (pa_cons (pv 8) (pa_cons (pv 5) pa_nil)))))) pss_nil)
      (pss_cons (ps_if (pt_cmpR op_lt (pv 7) pe_int (nomark _)) (pss_one (ps_ret (pe_tup (pa_cons pe_str (pa_cons (pv 4) (pa_cons (pv 8) pa_nil)))))) pss_nil)
      (pss_one (ps_ret (pe_ix ix_seq (pe_lst (pa_cons (pe_tup (pa_cons pe_str (pa_cons (pv 4) (pa_cons (pv 8) (pa_cons (pv 5) pa_nil))))) (pa_cons (pe_tup (pa_cons pe_str (pa_cons (pv 4) (pa_cons (pv 8) (pa_cons (pv 5) pa_nil))))) (pa_cons (pe_tup (pa_cons pe_str (pa_cons (pv 4) (pa_cons (pv 8) (pa_cons (pv 5) (pa_cons (pv 6) pa_nil)))))) (pa_cons (pe_tup (pa_cons pe_str (pa_cons (pv 4) (pa_cons (pv 8) (pa_cons (pv 5) pa_nil))))) pa_nil))))) (pe_op op_mod (pe_call G_law_draw (hr.mono (by decide)) (by rfl) T.m_law_draw T.F_law_draw.kp T.b_law_draw .nil pass0 (pa_cons (pv 0) pa_nil)) pe_int) (fun _ _ => rfl))))))))))))))))), ?_⟩
    walk_at "go"
    all_goals refine q _ _ _ (by walk_at "isd") (fun len => ?_) (by walk_at "kp") (by assumption)
    all_goals refine okI_of (by with_unfolding_all rfl) ?_
    all_goals simp [okAll, okNum, isInt, *]
    all_goals omega
end
end EW
set_option Elab.async false
set_option linter.all false
set_option maxRecDepth 100000
set_option maxHeartbeats 16000000
namespace EW
open L2 PyProof.Rows PySem.Spec PySem
/-- what a loop over J is asked: a statement W of turn, turns left, slots, heap -/
def turnOk (J : It) (g : TG) (tb : TS) (D : Ends) (W : Nat → Nat → L2.St → Hp → Prop) (i m : Nat) (σ : L2.St) (H : Hp) : Prop :=
  (J.stop i H ∧ D.nx σ H) ∨
  (J.go i H ∧ ∃ N : L2.St → Hp → Prop, (∀ σ1 H1, N σ1 H1 → ∃ m1, m1 < m ∧ W (i + 1) m1 σ1 H1) ∧
    ∀ v H1, J.yld i H v H1 → g v σ H1 fun σ2 H2 => tb { D with nx := N, ct := N, bk := D.nx } σ2 H2)
def forK (J : It) (g : TG) (tb : TS) (D : Ends) (σ : L2.St) (H1 : Hp) : Prop :=
  ∃ W : Nat → Nat → L2.St → Hp → Prop, (∃ m, W 0 m σ H1) ∧ ∀ i m σ H, W i m σ H → turnOk J g tb D W i m σ H
def iLK (K : PySem.W.Frag) (x : V) (H1 : Hp) (R : It → Hp → Prop) : Prop := ∃ a, x = .ref a ∧ (∃ xs, SqL K H1 a xs) ∧ R (Itl K a) H1
def iTK (K : PySem.W.Frag) (x : V) (H1 : Hp) (R : It → Hp → Prop) : Prop := ∃ a, x = .ref a ∧ (∃ xs, SqT K H1 a xs) ∧ R (Itt K a) H1
def rngK (vs : List V) (H1 : Hp) (R : It → Hp → Prop) : Prop := ∃ j : Int, vs = [.int j] ∧ -(2 ^ 62) ≤ j ∧ j < 2 ^ 62 ∧ R (Itr 0 j.toNat) H1
/-- a comprehension's item, appended to the list at C -/
def itemOk (C : Addr) (te : TE) (σ : L2.St) (H : Hp) (N : Hp → Prop) : Prop :=
  te σ H fun y H1 => ∃ acc, H1 C = some (.lst acc) ∧ acc.length < sizeLine ∧ N (upd H1 C (.lst (acc ++ [y])))
def lcTurn (J : It) (g : TG) (tt : TT) (te : TE) (vs : List Nat) (σ : L2.St) (Q : VK) (C : Addr) (W : Nat → Nat → Hp → Prop) (i m : Nat) (H : Hp) : Prop :=
  (J.stop i H ∧ Q (.ref C) H) ∨
  (J.go i H ∧ ∃ N : Hp → Prop, (∀ H1, N H1 → ∃ m1, m1 < m ∧ W (i + 1) m1 H1) ∧
    ∀ v H1, J.yld i H v H1 → g v (wipe σ vs) H1 fun σ2 H2 => wipe σ2 vs = wipe σ vs ∧ tt σ2 H2 fun keep H3 => if keep = true then itemOk C te σ2 H3 N else N H3)
def lcK (J : It) (g : TG) (tt : TT) (te : TE) (vs : List Nat) (σ : L2.St) (H1 : Hp) (Q : VK) : Prop :=
  ∀ C, H1 C = none → ∃ W : Nat → Nat → Hp → Prop, (∃ m, W 0 m (upd H1 C (.lst []))) ∧ ∀ i m H, W i m H → lcTurn J g tt te vs σ Q C W i m H
section
variable {σ : L2.St} {H : Hp} {Q : VK} {D : Ends}
theorem r_for {wi : TI} {g : TG} {tb : TS} (h : wi σ H fun J H1 => forK J g tb D σ H1) : tFor wi g tb D σ H := h
theorem r_lc {wi : TI} {g : TG} {tt : TT} {te : TE} {vs : List Nat} (h : wi σ H fun J H1 => lcK J g tt te vs σ H1 Q) : tLc wi g tt te vs σ H Q := h
theorem r_iL {K : PySem.W.Frag} {tl : TE} {R : It → Hp → Prop} (h : tl σ H fun x H1 => iLK K x H1 R) : iList K tl σ H R := h
theorem r_iT {K : PySem.W.Frag} {tl : TE} {R : It → Hp → Prop} (h : tl σ H fun x H1 => iTK K x H1 R) : iTup K tl σ H R := h
theorem r_iR {ta : TA} {R : It → Hp → Prop} (h : ta σ H fun vs H1 => rngK vs H1 R) : iRng1 ta σ H R := h
theorem r_iLK {K : PySem.W.Frag} {a : Addr} {xs : List V} {R : It → Hp → Prop} (h : SqL K H a xs) (q : R (Itl K a) H) : iLK K (.ref a) H R := ⟨a, rfl, ⟨xs, h⟩, q⟩
theorem r_rng {j : Int} {R : It → Hp → Prop} (h0 : 0 ≤ j) (h1 : j ≤ 1000) (q : R (Itr 0 j.toNat) H) : rngK [.int j] H R := ⟨j, rfl, by omega, by omega, q⟩
/-- for k in range(j): an invariant over the turns -/
theorem for_rng {j : Int} {g : TG} {tb : TS} (Pv : Int → L2.St → Hp → Prop) (h0 : Pv 0 σ H) (hj : 0 ≤ j)
    (hs : ∀ i σ H, 0 ≤ i → i < j → Pv i σ H → g (.int i) σ H fun σ2 H2 => tb { D with nx := Pv (i + 1), ct := Pv (i + 1), bk := D.nx } σ2 H2) (hd : ∀ σ H, Pv j σ H → D.nx σ H) : forK (Itr 0 j.toNat) g tb D σ H :=
  for_range (lo := 0) (n := j.toNat) (fun i => Pv (i : Int)) h0 (fun i σ H hi p => by
    have e : (0 : Int) + (i : Int) = (i : Int) := by omega
    rw [e]
    have q := hs i σ H (by omega) (by omega) p
    have e2 : ((i + 1 : Nat) : Int) = (i : Int) + 1 := by omega
    rw [e2]
    exact q) (fun σ H p => hd σ H (by
      have e : ((j.toNat : Nat) : Int) = j := by omega
      rw [e] at p; exact p))
/-- [e for k in range(j)] -/
theorem lc_rng {j : Int} {g : TG} {tt : TT} {te : TE} {vs : List Nat} (hj : 0 ≤ j) (q : ∀ C, H C = none → ∃ (Pv : Int → Hp → Prop), Pv 0 (upd H C (.lst [])) ∧
    (∀ i H, 0 ≤ i → i < j → Pv i H → g (.int i) (wipe σ vs) H fun σ2 H2 => wipe σ2 vs = wipe σ vs ∧ tt σ2 H2 fun b H3 =>
      if b = true then te σ2 H3 fun y H4 => ∃ acc, H4 C = some (.lst acc) ∧ acc.length < sizeLine ∧ Pv (i + 1) (upd H4 C (.lst (acc ++ [y]))) else Pv (i + 1) H3) ∧ ∀ H, Pv j H → Q (.ref C) H) : lcK (Itr 0 j.toNat) g tt te vs σ H Q := fun C hC => by
  obtain ⟨Pv, h0, hs, hd⟩ := q C hC
  exact lc_range (lo := 0) (n := j.toNat) (Qd := fun H => Q (.ref C) H) (fun i => Pv (i : Int)) h0 (fun i H hi p => by
    have e : (0 : Int) + (i : Int) = (i : Int) := by omega
    rw [e]
    have q := hs i H (by omega) (by omega) p
    have e2 : ((i + 1 : Nat) : Int) = (i : Int) + 1 := by omega
    rw [e2]
    exact q) (fun H p => hd H (by
      have e : ((j.toNat : Nat) : Int) = j := by omega
      rw [e] at p; exact p))
theorem r_bm {K : PySem.W.Frag} {T : String} {r : V → List V → Hp → VK → Prop} {to : TE} {t : TA} (h : to σ H fun x H1 => tyV K T x H1 ∧ t σ H1 fun vs H2 => r x vs H2 Q) : tBM K T r to t σ H Q := h
theorem r_tyL {K : PySem.W.Frag} {p : Addr} {xs : List V} (h : H p = some (.lst xs)) : tyV K "list" (.ref p) H := .inl ⟨rfl, _, .inl (.inl h)⟩
theorem r_app {p : Addr} {xs : List V} {y : V} (h : H p = some (.lst xs)) (hl : xs.length < sizeLine) (q : ∀ H2, H p = some (.lst xs) → Keep p H H2 → H2 p = some (.lst (xs ++ [y])) → Q .non H2) : rAppend (.ref p) [y] H Q := ⟨p, xs, y, rfl, rfl, h, hl, q _ h Keep.upd upd_same⟩
def rTupOf (K : PySem.W.Frag) : List V → Hp → VK → Prop := fun xs H Q => ∃ p ys, xs = [.ref p] ∧ ((SqL K H p ys ∧ ∀ l, H l = none → Q (.ref l) (upd H l (.tup ys))) ∨ (SqT K H p ys ∧ Q (.ref p) H))
theorem call_tup {X : Cx} : CallR X (.type "tuple") (rTupOf X.K) := call_tuple_of
theorem r_tupOf {K : PySem.W.Frag} {M : Addr → Prop} {p : Addr} {xs : List V} {ds : List PyData} (h : H p = some (.lst xs)) (hi : IsAll M H ds xs) (q : ∀ v H2, Same H H2 → Is M H2 (.tuple ds) v → Q v H2) : rTupOf K [.ref p] H Q :=
  ⟨p, xs, rfl, .inl ⟨.inl (.inl h), fun l hl => q _ _ (same_upd hl) ⟨l, xs, rfl, upd_same, IsAll.keep (KeepM.same (same_upd hl)) hi⟩⟩⟩
end
theorem Keep.toML {p : Addr} {xs : List V} {H H' : Hp} (k : Keep p H H') (h : H p = some (.lst xs)) : KeepM (fun _ => True) H H' := ⟨fun x ys e => k x _ (fun q => by subst q; rw [h] at e; cases e) e, fun _ _ n => absurd trivial n⟩
theorem Keep.cell {dr p : Addr} {H0 H H' : Hp} (a : Keep dr H0 H) (n : H0 p = none) (k : Keep p H H') : Keep dr H0 H' := fun x o ne e => k x o (fun q => by subst q; rw [n] at e; cases e) (a x o ne e)
theorem Same.cell {p : Addr} {H0 H H' : Hp} (a : Same H0 H) (n : H0 p = none) (k : Keep p H H') : Same H0 H' := fun x o e => k x o (fun q => by subst q; rw [n] at e; cases e) (a x o e)
theorem Drs.cellK {dr nu p : Addr} {H H' : Hp} (h : Drs dr nu H) (k : Keep p H H') (h1 : p ≠ dr) (h2 : p ≠ nu) : Drs dr nu H' := by
  obtain ⟨z, ns, a, c, b, d⟩ := h
  exact ⟨z, ns, k _ _ h1.symm a, c, k _ _ h2.symm b, d⟩
theorem snocI {ns : List Int} {m : Int} : ns.map V.int ++ [V.int m] = (ns ++ [m]).map V.int := by simp
theorem snocN {ns : List Int} {m : Int} (h : ∀ n ∈ ns, 0 ≤ n) (hm : 0 ≤ m) : ∀ n ∈ ns ++ [m], 0 ≤ n := fun n hn => by
  obtain z | z := List.mem_append.mp hn
  · exact h n z
  · simp at z; omega
theorem size_lt {n : Nat} (h : n ≤ 10000) : n < sizeLine := Nat.lt_of_le_of_lt h (by decide)
set_option hygiene false
local macro_rules | `(tactic| walk_at "km") => `(tactic| (first
  | exact KeepM.refl
  | (refine KeepM.trans ?_ (KeepM.same (by assumption)); walk_at "km")
  | (refine KeepM.trans ?_ (Keep.toML (by assumption) (by assumption)); walk_at "km")
  | (refine KeepM.trans ?_ (Keep.toM (by assumption) (by assumption) (by first | trivial | rfl)); walk_at "km")))
local macro_rules | `(tactic| walk_at "kp") => `(tactic| (first
  | exact Keep.refl
  | (refine Keep.trans ?_ (Keep.same (by assumption)); walk_at "kp")
  | (refine Keep.trans ?_ (by assumption); walk_at "kp")
  | (refine Keep.cell2 (by assumption) (by assumption) ?_; walk_at "kp")))
local macro_rules | `(tactic| walk_at "hat") => `(tactic| (first
  | assumption
  | (refine same_get (by assumption) ?_; walk_at "hat")
  | (refine Keep.get (by assumption) (by assumption) ?_; walk_at "hat")))
local macro_rules | `(tactic| walk_at "isd") => `(tactic| (with_reducible first
  | exact is_int | exact is_str | exact is_bl | exact is_non | assumption
  | (refine Is.keep ?_ (by assumption); walk_at "km")))
local macro_rules | `(tactic| walk_at "isall") => `(tactic| (repeat (with_reducible first | exact IsAll.nil | (apply IsAll.cons; (walk_at "isd")))))
local macro_rules | `(tactic| walk_at "pos") => `(tactic| (first | decide | assumption | omega | (simp only [decide_eq_false_iff_not] at *; omega)))
local macro_rules | `(tactic| walk_at "rd") => `(tactic| (with_reducible first
  | refine r_seq ?_ | refine r_asg ?_ | refine r_name ?_ | refine r_C ?_ | refine r_op ?_ | refine r_un ?_ | refine r_rU ?_ | refine r_I0 ?_ | refine r_eqI ?_ | refine r_neI ?_ | refine r_test ?_ | refine r_tB ?_ | refine r_exk ?_ | refine r_and ?_ | refine r_or ?_ | refine r_not ?_ | refine r_ifS ?_ | refine r_ret ?_ | refine r_next ?_ | refine r_drop ?_ | refine r_nil ?_ | refine r_cons ?_ | refine r_call ?_ | refine r_CB ?_ | refine r_tup ?_ | refine r_lst ?_ | refine r_sub ?_ | refine r_for ?_ | refine r_lc ?_ | refine r_iL ?_ | refine r_iT ?_ | refine r_iR ?_
  | (apply r_var; (focus ((with_unfolding_all rfl); done)))
  | (refine r_mod ?_ ?_; (focus ((walk_at "pos"); done)); intro m hm0 hm1)
  | (refine r_I ?_ ?_; (focus ((first | decide | (unfold CMul; omega) | (unfold CDiv; omega) | (unfold CPow; omega) | omega); done)))
  | (apply r_wipe; (focus ((with_unfolding_all rfl); done))) | refine r_yes ?_ | refine iteT ?_ | refine iteF ?_ | refine r_ifeq (fun h => ?_) (fun h => ?_) | refine r_ifd (fun h => ?_) (fun h => ?_) | refine r_ifnd (fun h => ?_) (fun h => ?_) | refine ite2 (fun h => ?_) (fun h => ?_)))
local macro_rules | `(tactic| walk_at "al") => `(tactic| (first
  | ((with_reducible apply r_newT (M := fun _ => True)); (focus (walk_at "isall"; done)); (with_unfolding_all exact Nat.le_of_ble_eq_true rfl); intro v H2 hs hi; (try (have hd2 := Drs.same (by assumption) hs)))
  | ((with_reducible apply r_newL); (with_unfolding_all exact Nat.le_of_ble_eq_true rfl); intro p H2 hn hs hl; (try (have hd2 := Drs.same (by assumption) hs)); (try (have hne := ne_dr (by assumption) hn)); (try (have hnu := ne_nu (by assumption) hn)))
  | ((with_reducible apply r_draw); (focus (assumption)); (intro n H2 hn hk hd))
  | ((with_reducible apply r_bm))
  | ((with_reducible apply r_app); (focus (walk_at "hat")); (focus ((refine size_lt ?_); (first | omega | (simp only [List.length_map]; omega) | (simp; omega)))); (intro H2 hold hk hl); (try (have hd2 := Drs.cellK (by assumption) hk (by assumption) (by assumption))))
  | ((with_reducible apply And.intro); (focus ((with_reducible apply r_tyL); (walk_at "hat"))))
  | ((with_reducible apply r_rng); (focus (first | assumption | omega)); (focus omega))
  | ((with_reducible apply r_local); (focus assumption); (focus (first | assumption | omega)); (intro d v H2 hi hok hk hd))
  | ((with_reducible apply r_visible); (focus assumption); (focus (walk_at "isd")); (focus assumption); (focus (first | assumption | omega)); (intro d v H2 hi hok hk hd))
  | ((with_reducible apply r_tupOf (M := fun _ => True)); (focus (walk_at "hat")); (focus assumption); (intro v H2 hs hi); (try (have hd2 := Drs.same (by assumption) hs)))
  | ((with_reducible apply r_lenL); (focus (walk_at "hat")))
  | ((with_reducible apply r_setL); (focus (walk_at "hat")); (focus ((with_unfolding_all rfl); done)); (intro H2 hk hl))
  | ((with_reducible apply r_ixMk); (focus (walk_at "hat")); (focus (assumption)); (focus assumption); (focus ((simp only [List.length_cons, List.length_nil]); decide)))
  | ((with_reducible apply r_ixI); (focus (walk_at "hat")); (focus (omega)); (focus (omega)); (intro n hn))
  | ((with_reducible apply r_mixed); (intro n hn0 hn1))
  | ((with_reducible apply r_lenP); (focus (walk_at "isd")))
  | ((with_reducible apply r_ixP); (focus (walk_at "isd")); (focus assumption); (focus assumption); (intro j pp u hj hp hu))
  | ((with_reducible apply r_ixP1); (focus assumption))
  | ((with_reducible apply r_ixL); (focus (walk_at "hat")); (focus ((with_unfolding_all rfl); done)))
  | (with_reducible refine r_memc ?_ ?_) | (with_reducible exact r_memn)))
local macro_rules | `(tactic| walk_at "go") => `(tactic| (repeat' (first | walk_at "rd" | walk_at "al")))
section
variable {K : PySem.W.Frag} {P : Program} {mg : Str → Option Value} {w : World} {base : Heap}
def sp_numbers (K : PySem.W.Frag) : Sp := fun vs H Q _ => ∃ (a : Addr) (cells : List Int), vs = [.ref a] ∧ SqL K H a (cells.map V.int) ∧ cells.length ≤ 63 ∧ ∀ (nu : Addr) (ns : List Int) H', Same H H' → H nu = none → H' nu = some (.lst (ns.map V.int)) → (∀ n ∈ ns, 0 ≤ n) → Q (.ref nu) H'
theorem ok_numbers (T : Txt K mg) : FnOk P w K mg base CX0 2 T.f_law_numbers T.d_law_numbers ["script"] (sp_numbers K) := by
  have G_law_mixed : FnOk P w K mg base CX0 1 T.f_law_mixed T.d_law_mixed ["number", "k"] sp_mixed := ok_mixed T
  refine T.F_law_numbers.ok sc_law_numbers (fun vs H Q E h => ?_) (fun cdv A outer s H vs Q E hr h => ?_)
  · obtain ⟨_, _, rfl, _⟩ := h
    rfl
  · obtain ⟨a, cells, rfl, hS, hlen, q⟩ := h
    have nd := sc_law_numbers.nd
    refine ⟨_, (pss_cons (ps_set (i := 1) nd rfl (.inl rfl) (pe_lst pa_nil))
      (pss_cons (ps_for PassesOwn.never rfl (pi_list (pv 0)) (pg_name (i := 2) nd rfl (.inl rfl)) (pss_one (ps_if (pt_cmpR op_ge (pv 2) (pe_op op_pow pe_int pe_int) (nomark _)) (pss_cons (ps_set (i := 3) nd rfl (.inl rfl) (pv 2))
      (pss_one (ps_for PassesOwn.never rfl (pi_range1 (by rfl) T.m_range (pa_cons pe_int pa_nil)) (pg_name (i := 4) nd rfl (.inl rfl)) (pss_one (ps_if (pt_cmpR op_gt (pv 3) pe_int (nomark _)) (pss_cons (ps_expr (pe_bm PySem.F.plainAttrs_list PySem.F.slot_list_append PySem.F.type_list_append mt_append (pv 1) (pa_cons (pe_op op_mod (pv 3) pe_int) pa_nil)))
      (pss_one (ps_set (i := 3) nd rfl (.inl rfl) (pe_op op_fdiv (pv 3) pe_int)))) pss_nil))))) (pss_cons (ps_expr (pe_bm PySem.F.plainAttrs_list PySem.F.slot_list_append PySem.F.type_list_append mt_append (pv 1) (pa_cons (pe_op op_mod (pv 2) pe_int) pa_nil)))
      (pss_one (ps_for PassesOwn.never rfl (pi_range1 (by rfl) T.m_range (pa_cons pe_int pa_nil)) (pg_name (i := 4) nd rfl (.inl rfl)) (pss_one (ps_expr (pe_bm PySem.F.plainAttrs_list PySem.F.slot_list_append PySem.F.type_list_append mt_append (pv 1) (pa_cons (pe_op op_mod (pe_call G_law_mixed (hr.mono (by decide)) (by rfl) T.m_law_mixed T.F_law_mixed.kp T.b_law_mixed .nil pass0 (pa_cons (pe_call G_law_mixed (hr.mono (by decide)) (by rfl) T.m_law_mixed T.F_law_mixed.kp T.b_law_mixed .nil pass0 (pa_cons (pe_op op_mod (pv 2) pe_int) (pa_cons (pv 4) pa_nil))) (pa_cons (pe_op op_add (pv 4) pe_int) pa_nil))) pe_int) pa_nil))))))))))
      (pss_one (ps_ret (pv 1))))), ?_⟩
    walk_at "go"
    refine r_iLK (hs.seq hS) ?_
    refine for_list (xs := cells.map V.int) (fun i σ H3 => ∃ y2 y3 y4, ∃ ns : List Int, σ = [some (.ref a), some (.ref p), y2, y3, y4] ∧ Same H H3 ∧ H3 p = some (.lst (ns.map V.int)) ∧ (∀ n ∈ ns, 0 ≤ n) ∧ ns.length ≤ 60 * i)
      ⟨none, none, none, [], rfl, hs, hl, fun _ h => (by cases h), Nat.zero_le _⟩ (fun i σ H3 _ ⟨_, _, _, _, _, h, _⟩ => h.seq hS) (fun i x σ H3 hx ⟨y2, y3, y4, ns, e, sm, hp, h0, hn0⟩ => ?_) (fun σ H3 ⟨y2, y3, y4, ns, e, sm, hp, h0, hn0⟩ => ?_)
    · subst e
      have hi : i < cells.length := by
        have z := (List.getElem?_eq_some_iff.mp hx).1
        rwa [List.length_map] at z
      obtain ⟨c, rfl⟩ : ∃ c, x = V.int c := by
        rw [List.getElem?_map] at hx
        cases z : cells[i]? with
        | none => rw [z] at hx; cases hx
        | some c => rw [z] at hx; exact ⟨c, (Option.some.inj hx).symm⟩
      walk_at "go"
      · -- many digits
        refine for_rng (fun j σ H4 => ∃ y4, ∃ ns' : List Int, ∃ r : Int, σ = [some (.ref a), some (.ref p), some (.int c), some (.int r), y4] ∧ Same H H4 ∧ H4 p = some (.lst (ns'.map V.int)) ∧ (∀ n ∈ ns', 0 ≤ n) ∧ (ns'.length : Int) ≤ 60 * i + j)
          ⟨y4, ns, c, rfl, sm, hp, h0, by omega⟩ (by decide) (fun j σ H4 hj0 hj1 ⟨y4, ns', r, e, sm, hp, h0, hn0⟩ => ?_) (fun σ H4 ⟨y4, ns', r, e, sm, hp, h0, hn0⟩ => ?_)
        · subst e
          walk_at "go"
          · exact ⟨_, ns' ++ [m], _, rfl, Same.cell sm hn hk, by rw [← snocI]; exact hl, snocN h0 hm0, by simp; omega⟩
          · exact ⟨_, ns', _, rfl, sm, hp, h0, by omega⟩
        · exact ⟨_, _, _, ns', e, sm, hp, h0, by omega⟩
      · refine for_rng (fun j σ H4 => ∃ y4, ∃ ns' : List Int, σ = [some (.ref a), some (.ref p), some (.int c), y3, y4] ∧ Same H H4 ∧ H4 p = some (.lst (ns'.map V.int)) ∧ (∀ n ∈ ns', 0 ≤ n) ∧ (ns'.length : Int) ≤ 60 * i + 1 + j)
          ⟨y4, ns ++ [m], rfl, Same.cell sm hn hk, by rw [← snocI]; exact hl, snocN h0 hm0, by simp; omega⟩ (by decide) (fun j σ H4 hj0 hj1 ⟨y4, ns', e, sm, hp, h0, hn0⟩ => ?_) (fun σ H4 ⟨y4, ns', e, sm, hp, h0, hn0⟩ => ?_)
        · subst e
          walk_at "go"
          exact ⟨_, ns' ++ [m], rfl, Same.cell sm hn hk, by rw [← snocI]; exact hl, snocN h0 hm0, by simp; omega⟩
        · exact ⟨_, _, _, ns', e, sm, hp, h0, by omega⟩
    · subst e
      walk_at "go"
      exact q _ ns _ sm hn hp h0
end
end EW
set_option Elab.async false
set_option linter.all false
set_option maxRecDepth 100000
set_option maxHeartbeats 16000000
set_option pp.maxSteps 250
namespace EW
open L2 PyProof.Rows PySem.Spec PySem

theorem r_local {dr nu : Addr} {size : Int} {H : Hp} {Q : VK} {E : XK} (h : Drs dr nu H) (h0 : 0 ≤ size) (q : ∀ d v H', Is (fun _ => True) H' d v → (∀ ps locks many, okI ps locks many size d = true) → Keep dr H H' → Drs dr nu H' → Q v H') : sp_local ([.ref dr, .int size] ++ []) H Q E := ⟨dr, nu, size, rfl, h, h0, q⟩
theorem r_visible {dr nu : Addr} {vp : V} {ps : Pl} {locks many : Int} {H : Hp} {Q : VK} {E : XK} (h : Drs dr nu H) (hp : Is (fun _ => True) H (placesD ps) vp) (h0 : 0 ≤ locks) (h1 : 0 < many) (q : ∀ d v H', Is (fun _ => True) H' d v → (∀ len, okI ps locks many len d = true) → Keep dr H H' → Drs dr nu H' → Q v H') : sp_visible ([.ref dr, vp, .int locks, .int many] ++ []) H Q E := ⟨dr, nu, vp, ps, locks, many, rfl, h, hp, h0, h1, q⟩
theorem snocP {α : Type} {R : α → Prop} {xs : List α} {x : α} (h : ∀ y ∈ xs, R y) (hx : R x) : ∀ y ∈ xs ++ [x], R y := fun y hy => by
  rcases List.mem_append.mp hy with z | z
  · exact h y z
  · rw [List.mem_singleton.mp z]; exact hx
theorem Keep.cell2 {dr p : Addr} {H0 H H' : Hp} (k : Keep p H H') (n : H0 p = none) (a : Keep dr H0 H) : Keep dr H0 H' := a.cell n k
theorem none_back {dr p : Addr} {H H' : Hp} (k : Keep dr H H') (n : p ≠ dr) (h : H' p = none) : H p = none := by
  cases z : H p with
  | none => rfl
  | some o => have q := k p o n z; rw [h] at q; cases q
theorem r_yes {σ : L2.St} {H : Hp} {R : Bool → Hp → Prop} (h : R true H) : tYes σ H R := h
theorem r_wipe {σ σ2 : L2.St} {vs : List Nat} {A : Prop} (e : wipe σ2 vs = wipe σ vs) (h : A) : wipe σ2 vs = wipe σ vs ∧ A := ⟨e, h⟩
theorem placeSnoc {ps : Pl} {p : Int × Bool} : ps.map placeD ++ [placeD p] = (ps ++ [p]).map placeD := by simp
/-- what the draws make: variables, locks, codes, threads -/
structure GoodC (ps : Pl) (locks many most : Int) (c : PyData) : Prop where
  ex : ∃ is : List PyData, c = .tuple is ∧ (is.length : Int) ≤ most ∧ ∀ i ∈ is, okI ps locks many is.length i = true
structure GoodT (many : Int) (t : PyData) : Prop where
  ex : ∃ k a : Int, t = .tuple [.int k, .int a] ∧ 0 ≤ k ∧ k < many ∧ -999 ≤ a ∧ a ≤ 999
structure GoodP (most : Int) (ps : Pl) (locks : Int) (cs ts : List PyData) : Prop where
  pl : ps.length ≤ 3
  pv : ∀ p ∈ ps, 0 ≤ p.1 ∧ p.1 ≤ 2
  l0 : 0 ≤ locks
  l1 : locks ≤ 2
  c0 : 1 ≤ cs.length
  c1 : cs.length ≤ 3
  cg : ∀ c ∈ cs, GoodC ps locks cs.length most c
  t0 : 1 ≤ ts.length
  t1 : ts.length ≤ 3
  tg : ∀ t ∈ ts, GoodT cs.length t
def progD (ps : Pl) (locks : Int) (cs ts : List PyData) : PyData := .tuple [placesD ps, .int locks, .tuple cs, .tuple ts]
set_option hygiene false
local macro_rules | `(tactic| walk_at "km") => `(tactic| (first
  | exact KeepM.refl
  | (refine KeepM.trans ?_ (KeepM.same (by assumption)); walk_at "km")
  | (refine KeepM.trans ?_ (Keep.toML (by assumption) (by assumption)); walk_at "km")
  | (refine KeepM.trans ?_ (Keep.toM (by assumption) (by assumption) (by first | trivial | rfl)); walk_at "km")))
local macro_rules | `(tactic| walk_at "kp") => `(tactic| (first
  | exact Keep.refl
  | (refine Keep.trans ?_ (Keep.same (by assumption)); walk_at "kp")
  | (refine Keep.trans ?_ (by assumption); walk_at "kp")
  | (refine Keep.cell2 (by assumption) (by assumption) ?_; walk_at "kp")))
local macro_rules | `(tactic| walk_at "hat") => `(tactic| (first
  | assumption
  | (refine same_get (by assumption) ?_; walk_at "hat")
  | (refine Keep.get (by assumption) (by assumption) ?_; walk_at "hat")))
local macro_rules | `(tactic| walk_at "isd") => `(tactic| (with_reducible first
  | exact is_int | exact is_str | exact is_bl | exact is_non | assumption
  | (refine Is.keep ?_ (by assumption); walk_at "km")))
local macro_rules | `(tactic| walk_at "isall") => `(tactic| (repeat (with_reducible first | exact IsAll.nil | (apply IsAll.cons; (walk_at "isd")))))
local macro_rules | `(tactic| walk_at "pos") => `(tactic| (first | decide | assumption | omega | (simp only [decide_eq_false_iff_not] at *; omega)))
local macro_rules | `(tactic| walk_at "rd") => `(tactic| (with_reducible first
  | refine r_seq ?_ | refine r_asg ?_ | refine r_name ?_ | refine r_C ?_ | refine r_op ?_ | refine r_un ?_ | refine r_rU ?_ | refine r_I0 ?_ | refine r_eqI ?_ | refine r_neI ?_ | refine r_test ?_ | refine r_tB ?_ | refine r_exk ?_ | refine r_and ?_ | refine r_or ?_ | refine r_not ?_ | refine r_ifS ?_ | refine r_ret ?_ | refine r_next ?_ | refine r_drop ?_ | refine r_nil ?_ | refine r_cons ?_ | refine r_call ?_ | refine r_CB ?_ | refine r_tup ?_ | refine r_lst ?_ | refine r_sub ?_ | refine r_for ?_ | refine r_lc ?_ | refine r_iL ?_ | refine r_iT ?_ | refine r_iR ?_
  | (apply r_var; (focus ((with_unfolding_all rfl); done)))
  | (refine r_mod ?_ ?_; (focus ((walk_at "pos"); done)); intro m hm0 hm1)
  | (refine r_I ?_ ?_; (focus ((first | decide | (unfold CMul; omega) | (unfold CDiv; omega) | (unfold CPow; omega) | omega); done)))
  | (apply r_wipe; (focus ((with_unfolding_all rfl); done))) | refine r_yes ?_ | refine iteT ?_ | refine iteF ?_ | refine r_ifeq (fun h => ?_) (fun h => ?_) | refine r_ifd (fun h => ?_) (fun h => ?_) | refine r_ifnd (fun h => ?_) (fun h => ?_) | refine ite2 (fun h => ?_) (fun h => ?_)))
local macro_rules | `(tactic| walk_at "al") => `(tactic| (first
  | ((with_reducible apply r_newT (M := fun _ => True)); (focus (walk_at "isall"; done)); (with_unfolding_all exact Nat.le_of_ble_eq_true rfl); intro v H2 hs hi; (try (have hd2 := Drs.same (by assumption) hs)))
  | ((with_reducible apply r_newL); (with_unfolding_all exact Nat.le_of_ble_eq_true rfl); intro p H2 hn hs hl; (try (have hd2 := Drs.same (by assumption) hs)); (try (have hne := ne_dr (by assumption) hn)); (try (have hnu := ne_nu (by assumption) hn)))
  | ((with_reducible apply r_draw); (focus (assumption)); (intro n H2 hn hk hd))
  | ((with_reducible apply r_bm))
  | ((with_reducible apply r_app); (focus (walk_at "hat")); (focus ((refine size_lt ?_); (first | omega | (simp only [List.length_map]; omega) | (simp; omega)))); (intro H2 hold hk hl); (try (have hd2 := Drs.cellK (by assumption) hk (by assumption) (by assumption))))
  | ((with_reducible apply And.intro); (focus ((with_reducible apply r_tyL); (walk_at "hat"))))
  | ((with_reducible apply r_rng); (focus (first | assumption | omega)); (focus omega))
  | ((with_reducible apply r_local); (focus assumption); (focus (first | assumption | omega)); (intro d v H2 hi hok hk hd))
  | ((with_reducible apply r_visible); (focus assumption); (focus (walk_at "isd")); (focus assumption); (focus (first | assumption | omega)); (intro d v H2 hi hok hk hd))
  | ((with_reducible apply r_tupOf (M := fun _ => True)); (focus (walk_at "hat")); (focus (first | assumption | (refine IsAll.keep ?_ (by assumption); walk_at "km"))); (intro v H2 hs hi); (try (have hd2 := Drs.same (by assumption) hs)))
  | ((with_reducible apply r_lenL); (focus (walk_at "hat")))
  | ((with_reducible apply r_setL); (focus (walk_at "hat")); (focus ((with_unfolding_all rfl); done)); (intro H2 hk hl))
  | ((with_reducible apply r_ixMk); (focus (walk_at "hat")); (focus (assumption)); (focus assumption); (focus ((simp only [List.length_cons, List.length_nil]); decide)))
  | ((with_reducible apply r_ixI); (focus (walk_at "hat")); (focus (omega)); (focus (omega)); (intro n hn))
  | ((with_reducible apply r_mixed); (intro n hn0 hn1))
  | ((with_reducible apply r_lenP); (focus (walk_at "isd")))
  | ((with_reducible apply r_ixP); (focus (walk_at "isd")); (focus assumption); (focus assumption); (intro j pp u hj hp hu))
  | ((with_reducible apply r_ixP1); (focus assumption))
  | ((with_reducible apply r_ixL); (focus (walk_at "hat")); (focus ((with_unfolding_all rfl); done)))
  | (with_reducible refine r_memc ?_ ?_) | (with_reducible exact r_memn)))
local macro_rules | `(tactic| walk_at "go") => `(tactic| (repeat' (first | walk_at "rd" | walk_at "al")))
section
variable {K : PySem.W.Frag} {P : Program} {mg : Str → Option Value} {w : World} {base : Heap}
def sp_program : Sp := fun vs H Q _ => ∃ (dr nu : Addr) (most : Int), vs = [.ref dr, .int most] ∧ Drs dr nu H ∧ 0 ≤ most ∧ most ≤ 16 ∧ ∀ ps locks cs ts v H', Is (fun _ => True) H' (progD ps locks cs ts) v → GoodP most ps locks cs ts → Keep dr H H' → Drs dr nu H' → Q v H'
theorem ok_program (T : Txt K mg) : FnOk P w K mg base CX0 5 T.f_law_program T.d_law_program ["draws", "most"] sp_program := by
  have G_law_draw : FnOk P w K mg base CX0 2 T.f_law_draw T.d_law_draw ["draws"] sp_draw := ok_draw T
  have G_law_local : FnOk P w K mg base CX0 3 T.f_law_local T.d_law_local ["draws", "size"] sp_local := ok_local T
  have G_law_visible : FnOk P w K mg base CX0 3 T.f_law_visible T.d_law_visible ["draws", "places", "locks", "codes"] sp_visible := ok_visible T
  refine T.F_law_program.ok sc_law_program (fun vs H Q E h => ?_) (fun cdv A outer s H vs Q E hr h => ?_)
  · obtain ⟨_, _, _, rfl, _⟩ := h
    rfl
  · obtain ⟨dr, nu, most, rfl, hD, h0, h1, q⟩ := h
    have nd := sc_law_program.nd
    refine ⟨_, (pss_cons (ps_set (i := 3) nd rfl (.inl rfl) (pe_callTy call_tup (by rfl) T.m_tuple (by decide +kernel) (pa_cons (pe_lc (own := [("k", 2)]) (g := gName 2) (by rfl) nd (pi_range1 (by rfl) T.m_range (pa_cons (pe_op op_mod (pe_call G_law_draw (hr.mono (by decide)) (by rfl) T.m_law_draw T.F_law_draw.kp T.b_law_draw .nil pass0 (pa_cons (pv 0) pa_nil)) pe_int) pa_nil)) (blkOk_by (own := [("k", 2)]) (N := ["draws", "most", "k", "places", "locks", "many", "codes", "size", "code", "j", "threads"]) (sc := defScope s_law_program) (by decide +kernel)) (fun _ _ _ _ _ => pg_name (i := 2) nd rfl (Or.inl rfl)) (fun _ _ _ _ _ => pts_nil) (fun _ _ _ _ _ => (pe_tup (pa_cons (pe_op op_mod (pe_call G_law_draw (hr.mono (by decide)) (by rfl) T.m_law_draw T.F_law_draw.kp T.b_law_draw .nil pass0 (pa_cons (pv 0) pa_nil)) pe_int) (pa_cons (pe_cmpR op_eq (pe_op op_mod (pe_call G_law_draw (hr.mono (by decide)) (by rfl) T.m_law_draw T.F_law_draw.kp T.b_law_draw .nil pass0 (pa_cons (pv 0) pa_nil)) pe_int) pe_int (nomark _)) pa_nil))))) pa_nil)))
      (pss_cons (ps_set (i := 4) nd rfl (.inl rfl) (pe_op op_mod (pe_call G_law_draw (hr.mono (by decide)) (by rfl) T.m_law_draw T.F_law_draw.kp T.b_law_draw .nil pass0 (pa_cons (pv 0) pa_nil)) pe_int))
      (pss_cons (ps_set (i := 5) nd rfl (.inl rfl) (pe_op op_add pe_int (pe_op op_mod (pe_call G_law_draw (hr.mono (by decide)) (by rfl) T.m_law_draw T.F_law_draw.kp T.b_law_draw .nil pass0 (pa_cons (pv 0) pa_nil)) pe_int)))
      (pss_cons (ps_set (i := 6) nd rfl (.inl rfl) (pe_lst pa_nil))
      (pss_cons (ps_for PassesOwn.never rfl (pi_range1 (by rfl) T.m_range (pa_cons (pv 5) pa_nil)) (pg_name (i := 2) nd rfl (.inl rfl)) (pss_cons (ps_set (i := 7) nd rfl (.inl rfl) (pe_op op_mod (pe_call G_law_draw (hr.mono (by decide)) (by rfl) T.m_law_draw T.F_law_draw.kp T.b_law_draw .nil pass0 (pa_cons (pv 0) pa_nil)) (pe_op op_add (pv 1) pe_int)))
      (pss_cons (ps_set (i := 8) nd rfl (.inl rfl) (pe_lst pa_nil))
      (pss_cons (ps_for PassesOwn.never rfl (pi_range1 (by rfl) T.m_range (pa_cons (pv 7) pa_nil)) (pg_name (i := 9) nd rfl (.inl rfl)) (pss_one (ps_if (pt_cmpR op_eq (pe_op op_mod (pe_call G_law_draw (hr.mono (by decide)) (by rfl) T.m_law_draw T.F_law_draw.kp T.b_law_draw .nil pass0 (pa_cons (pv 0) pa_nil)) pe_int) pe_int (nomark _)) (pss_one (ps_expr (pe_bm PySem.F.plainAttrs_list PySem.F.slot_list_append PySem.F.type_list_append mt_append (pv 8) (pa_cons (pe_call G_law_local (hr.mono (by decide)) (by rfl) T.m_law_local T.F_law_local.kp T.b_law_local .nil pass0 (pa_cons (pv 0) (pa_cons (pv 7) pa_nil))) pa_nil)))) (pss_one (ps_expr (pe_bm PySem.F.plainAttrs_list PySem.F.slot_list_append PySem.F.type_list_append mt_append (pv 8) (pa_cons (pe_call G_law_visible (hr.mono (by decide)) (by rfl) T.m_law_visible T.F_law_visible.kp T.b_law_visible .nil pass0 (pa_cons (pv 0) (pa_cons (pv 3) (pa_cons (pv 4) (pa_cons (pv 5) pa_nil))))) pa_nil)))))))
      (pss_one (ps_expr (pe_bm PySem.F.plainAttrs_list PySem.F.slot_list_append PySem.F.type_list_append mt_append (pv 6) (pa_cons (pe_callTy call_tup (by rfl) T.m_tuple (by decide +kernel) (pa_cons (pv 8) pa_nil)) pa_nil))))))))
      (pss_cons (ps_set (i := 10) nd rfl (.inl rfl) (pe_lst pa_nil))
      (pss_cons (ps_for PassesOwn.never rfl (pi_range1 (by rfl) T.m_range (pa_cons (pe_op op_add pe_int (pe_op op_mod (pe_call G_law_draw (hr.mono (by decide)) (by rfl) T.m_law_draw T.F_law_draw.kp T.b_law_draw .nil pass0 (pa_cons (pv 0) pa_nil)) pe_int)) pa_nil)) (pg_name (i := 2) nd rfl (.inl rfl)) (pss_one (ps_expr (pe_bm PySem.F.plainAttrs_list PySem.F.slot_list_append PySem.F.type_list_append mt_append (pv 10) (pa_cons (pe_tup (pa_cons (pe_op op_mod (pe_call G_law_draw (hr.mono (by decide)) (by rfl) T.m_law_draw T.F_law_draw.kp T.b_law_draw .nil pass0 (pa_cons (pv 0) pa_nil)) (pv 5)) (pa_cons (pe_ix ix_seq (pe_lst (pa_cons pe_int (pa_cons pe_int (pa_cons pe_int (pa_cons pe_int (pa_cons (pe_un un_neg pe_int) pa_nil)))))) (pe_op op_mod (pe_call G_law_draw (hr.mono (by decide)) (by rfl) T.m_law_draw T.F_law_draw.kp T.b_law_draw .nil pass0 (pa_cons (pv 0) pa_nil)) pe_int) (fun _ _ => rfl)) pa_nil))) pa_nil)))))
      (pss_one (ps_ret (pe_tup (pa_cons (pv 3) (pa_cons (pv 4) (pa_cons (pe_callTy call_tup (by rfl) T.m_tuple (by decide +kernel) (pa_cons (pv 6) pa_nil)) (pa_cons (pe_callTy call_tup (by rfl) T.m_tuple (by decide +kernel) (pa_cons (pv 10) pa_nil)) pa_nil)))))))))))))), ?_⟩
    walk_at "go"
    refine lc_rng (by assumption) (fun C hC => ⟨fun i H3 => ∃ xs, ∃ ps : Pl, Keep dr H H3 ∧ Drs dr nu H3 ∧ H3 C = some (.lst xs) ∧ IsAll (fun _ => True) H3 (ps.map placeD) xs ∧ (ps.length : Int) = i ∧ ∀ p ∈ ps, 0 ≤ p.1 ∧ p.1 ≤ 2, ?_, ?_, ?_⟩)
    · have hk2 : Same H2 (upd H2 C (.lst [])) := same_upd hC
      exact ⟨[], [], hk.trans (Keep.same hk2), hd.same hk2, upd_same, IsAll.nil, rfl, fun _ h => (by cases h)⟩
    · intro i H3 hi0 hi1 ⟨xs, ps, kp, hd3, hc3, ia, hps, hv⟩
      have hCd : C ≠ dr := ne_dr hd hC
      have hCn : C ≠ nu := ne_nu hd hC
      have hCH : H C = none := by
        cases z : H C with
        | none => rfl
        | some o => exact absurd (hk C o hCd z) (by rw [hC]; exact fun e => by cases e)
      walk_at "go"
      have hC2 : H2 C = some (.lst xs) := by walk_at "hat"
      refine ⟨xs, hC2, size_lt (by have := ia.len; rw [List.length_map] at this; omega), ?_⟩
      have hkC : Keep C H2 (upd H2 C (.lst (xs ++ [v]))) := Keep.upd
      have hlC : (upd H2 C (.lst (xs ++ [v]))) C = some (.lst (xs ++ [v])) := upd_same
      generalize upd H2 C (.lst (xs ++ [v])) = H5 at hkC hlC ⊢
      have i1 := IsAll.keep (by walk_at "km" : KeepM _ H3 H5) ia
      have i2 := IsAll.snoc i1 (Is.keep (by walk_at "km" : KeepM _ H2 H5) hi)
      exact ⟨xs ++ [v], ps ++ [(_, _)], by walk_at "kp", Drs.cellK (by assumption) hkC hCd hCn, hlC, by rw [List.map_append]; exact i2, by simp; omega, fun p hp => by
        obtain z | z := List.mem_append.mp hp
        · exact hv p z
        · cases z with
          | head => exact ⟨by assumption, by omega⟩
          | tail _ z => cases z⟩
    intro H3 ⟨xs, ps, kp, hd3, hc3, ia, hps, hv⟩
    walk_at "go"
    rename V => vp
    rename_i n1 Ha hn1 hka hda locks hl0 hl1 Hb hnb
    have hP : Is (fun _ => True) _ (placesD ps) vp := hi
    have hcl0 : H p = none := none_back (by walk_at "kp" : Keep dr H Hb) hne hn
    rename Addr => cl
    rename Int => mm
    refine for_rng (fun i σ Hx => ∃ y2 y7 y8 y9 xs cs, σ = [some (.ref dr), some (.int most), y2, some vp, some (.int locks), some (.int (1 + mm)), some (.ref cl), y7, y8, y9, none] ∧ Keep dr H Hx ∧ Drs dr nu Hx ∧ Hx cl = some (.lst xs) ∧ IsAll (fun _ => True) Hx cs xs ∧ Is (fun _ => True) Hx (placesD ps) vp ∧ (cs.length : Int) = i ∧ ∀ c ∈ cs, GoodC ps locks (1 + mm) most c)
      ⟨none, none, none, none, [], [], rfl, by walk_at "kp", hd2, hl, IsAll.nil, by walk_at "isd", rfl, fun _ h => by cases h⟩ (by omega) (fun i σ Hx hi0 hi1 hx => ?_) (fun σ Hx hx => ?_)
    · obtain ⟨y2, y7, y8, y9, xs, cs, e, kx, hdx, hpx, iax, hPx, hcs, hcg⟩ := hx
      subst e
      have hne' := hne
      have hnu' := hnu
      clear hka hda hk hd hs hl hd2 hn hP hi kp hd3 hc3 ia
      have lmany : 0 < 1 + mm := by omega
      walk_at "go"
      rename_i n2 Hc hn2
      have hp0 : H p = none := none_back (kx.trans hk) hne hn
      have hcp : cl ≠ p := fun e => by
        subst e
        have z := hk _ _ hne' hpx
        rw [hn] at z; cases z
      have hpc := hcp.symm
      refine for_rng (fun j σ Hy => ∃ y9 xs' is, σ = [some (.ref dr), some (.int most), some (.int i), some vp, some (.int locks), some (.int (1 + mm)), some (.ref cl), some (.int m), some (.ref p), y9, none] ∧ Keep dr H Hy ∧ Drs dr nu Hy ∧ Hy cl = some (.lst xs) ∧ Hy p = some (.lst xs') ∧ IsAll (fun _ => True) Hy cs xs ∧ IsAll (fun _ => True) Hy is xs' ∧ Is (fun _ => True) Hy (placesD ps) vp ∧ (is.length : Int) = j ∧ ∀ d ∈ is, okI ps locks (1 + mm) m d = true)
        ⟨y9, [], [], rfl, by walk_at "kp", hd2, by walk_at "hat", hl, IsAll.keep (by walk_at "km") iax, IsAll.nil, by walk_at "isd", rfl, fun _ h => by cases h⟩ (by omega) (fun j σ Hy hj0 hj1 hy => ?_) (fun σ Hy hy => ?_)
      · obtain ⟨z9, xs', is, e, ky, hdy, hcy, hpy, iac, iai, hPy, hisl, hisg⟩ := hy
        subst e
        clear hk hd hs hl hd2 hn kx hdx hpx iax hPx
        have lxs := iai.len
        walk_at "go"
        · exact ⟨_, xs' ++ [v], is ++ [d], rfl, by walk_at "kp", hd2, by walk_at "hat", hl, IsAll.keep (by walk_at "km") iac, IsAll.snoc (IsAll.keep (by walk_at "km") iai) (by walk_at "isd"), by walk_at "isd", by simp; omega, snocP hisg (hok _ _ _)⟩
        · exact ⟨_, xs' ++ [v], is ++ [d], rfl, by walk_at "kp", hd2, by walk_at "hat", hl, IsAll.keep (by walk_at "km") iac, IsAll.snoc (IsAll.keep (by walk_at "km") iai) (by walk_at "isd"), by walk_at "isd", by simp; omega, snocP hisg (hok _)⟩
      · obtain ⟨z9, xs', is, e, ky, hdy, hcy, hpy, iac, iai, hPy, hisl, hisg⟩ := hy
        subst e
        clear hk hd hs hl hd2 hn kx hdx hpx iax hPx
        have lxs := iac.len
        walk_at "go"
        exact ⟨_, _, _, _, xs ++ [v], cs ++ [.tuple is], rfl, by walk_at "kp", by assumption, by assumption, IsAll.snoc (IsAll.keep (by walk_at "km") iac) (by walk_at "isd"), by walk_at "isd", by simp; omega, snocP hcg ⟨is, rfl, by omega, by rw [hisl]; exact hisg⟩⟩
    · obtain ⟨y2, y7, y8, y9, xs, cs, e, kx, hdx, hpx, iax, hPx, hcs, hcg⟩ := hx
      subst e
      clear hka hda hk hd hs hl hd2 hn hP hi kp hd3 hc3 ia
      have hne' := hne
      have hnu' := hnu
      walk_at "go"
      have hp0 : H p = none := none_back kx hne (by assumption)
      have hcp : cl ≠ p := fun e => by
        subst e
        rw [‹Hx cl = none›] at hpx; cases hpx
      have hpc := hcp.symm
      refine for_rng (fun i σ Hy => ∃ z2 xs' ts, σ = [some (.ref dr), some (.int most), z2, some vp, some (.int locks), some (.int (1 + mm)), some (.ref cl), y7, y8, y9, some (.ref p)] ∧ Keep dr H Hy ∧ Drs dr nu Hy ∧ Hy cl = some (.lst xs) ∧ Hy p = some (.lst xs') ∧ IsAll (fun _ => True) Hy cs xs ∧ IsAll (fun _ => True) Hy ts xs' ∧ Is (fun _ => True) Hy (placesD ps) vp ∧ (ts.length : Int) = i ∧ ∀ t ∈ ts, GoodT (1 + mm) t)
        ⟨y2, [], [], rfl, by walk_at "kp", by assumption, by walk_at "hat", by walk_at "hat", IsAll.keep (by walk_at "km") iax, IsAll.nil, by walk_at "isd", rfl, fun _ h => by cases h⟩ (by omega) (fun j σ Hy hj0 hj1 hy => ?_) (fun σ Hy hy => ?_)
      · obtain ⟨z2, xs', ts, e, ky, hdy, hcy, hpy, iac, iat, hPy, htl, htg⟩ := hy
        subst e
        clear hk hd hs hl hd2 hn kx hdx hpx iax hPx
        have lxs := iat.len
        have lmany : 0 < 1 + mm := by omega
        walk_at "go"
        all_goals exact ⟨_, xs' ++ [v], ts ++ [_], rfl, by walk_at "kp", by assumption, by walk_at "hat", hl, IsAll.keep (by walk_at "km") iac, IsAll.snoc (IsAll.keep (by walk_at "km") iat) (by walk_at "isd"), by walk_at "isd", by simp; omega, snocP htg ⟨_, _, rfl, by assumption, by assumption, by decide, by decide⟩⟩
      · obtain ⟨z2, xs', ts, e, ky, hdy, hcy, hpy, iac, iat, hPy, htl, htg⟩ := hy
        subst e
        clear hk hd hs hl hd2 hn kx hdx hpx iax hPx
        walk_at "go"
        refine q ps locks cs ts _ _ hi ⟨by omega, hv, hl0, by omega, by omega, by omega, by rw [hcs]; exact hcg, by omega, by omega, by rw [hcs]; exact htg⟩ (by walk_at "kp") (by assumption)
end
end EW
set_option Elab.async false
set_option linter.all false
set_option maxRecDepth 100000
set_option maxHeartbeats 16000000
set_option pp.maxSteps 250
namespace EW
open L2 PyProof.Rows PySem.Spec PySem

def tyName : PyData → String
  | .int _ => "int"
  | .bool _ => "bool"
  | .none => "NoneType"
  | .str _ => "str"
  | .tuple _ => "tuple"
  | .list _ => "list"
  | .dict _ => "dict"
def isRow (lo hi : Int) : PyData → Bool
  | .tuple ds => decide (lo ≤ (ds.length : Int) ∧ (ds.length : Int) ≤ hi)
  | _ => false
section
variable {σ : L2.St} {H : Hp} {Q : VK} {D : Ends}
theorem r_type {K : PySem.W.Frag} {M : Addr → Prop} {d : PyData} {v : V} (h : Is M H d v) (q : Q (.ty (tyName d)) H) : rTyp K [v] H Q := by
  cases d with
  | none => cases h; exact ⟨_, _, rfl, .non, q⟩
  | bool b => cases h; exact ⟨_, _, rfl, .bl b, q⟩
  | int b => cases h; exact ⟨_, _, rfl, .int b, q⟩
  | str b => cases h; exact ⟨_, _, rfl, .str b, q⟩
  | list ds => obtain ⟨a, xs, rfl, _, e, _⟩ := h; exact ⟨_, _, rfl, .lst (.inl (.inl e)), q⟩
  | tuple ds => obtain ⟨a, xs, rfl, e, _⟩ := h; exact ⟨_, _, rfl, .tup (.inl (.inl e)), q⟩
  | dict ds => cases h
def rIsTyB : R2 := fun x y H Q => ∃ a b, x = .ty a ∧ y = .ty b ∧ Q (.bl (decide (a = b))) H
theorem op_isTy' {X : Cx} : OpR X (compareOp .Is) rIsTyB := op_isTyB
def rNotTyB : R2 := fun x y H Q => ∃ a b, x = .ty a ∧ y = .ty b ∧ Q (.bl (!decide (a = b))) H
theorem op_notTy' {X : Cx} : OpR X (compareOp .IsNot) rNotTyB := op_notTyB
theorem r_isTy {a b : String} (q : Q (.bl (decide (a = b))) H) : rIsTyB (.ty a) (.ty b) H Q := ⟨a, b, rfl, rfl, q⟩
theorem r_notTy {a b : String} (q : Q (.bl (!decide (a = b))) H) : rNotTyB (.ty a) (.ty b) H Q := ⟨a, b, rfl, rfl, q⟩
def andK (x : V) (H1 : Hp) (A : Prop) (Q : VK) : Prop := ∃ c, x = .bl c ∧ if c = true then A else Q (.bl false) H1
theorem r_andV {ta tb : TE} (h : ta σ H fun x H1 => andK x H1 (tb σ H1 Q) Q) : tAndV ta tb σ H Q := h
theorem r_andK {p : Prop} [Decidable p] {A : Prop} (h1 : p → A) (h2 : ¬ p → Q (.bl false) H) : andK (.bl (decide p)) H A Q := ⟨_, rfl, r_ifd h1 h2⟩
theorem r_andKb {b : Bool} {A : Prop} (h1 : b = true → A) (h2 : b = false → Q (.bl false) H) : andK (.bl b) H A Q := ⟨_, rfl, by cases b <;> simp [h1, h2]⟩
def chK (z : V) (H3 : Hp) (A : Prop) (Q : VK) : Prop := ∃ k, z = .bl k ∧ (if k = true then A else Q (.bl false) H3)
theorem r_chain {r r' : R2} {ta tb tc : TE} (h : ta σ H fun x H1 => tb σ H1 fun y H2 => r x y H2 fun z H3 => chK z H3 (tc σ H3 fun w' H4 => r' y w' H4 Q) Q) : tChain r r' ta tb tc σ H Q := h
theorem r_chK {p : Prop} [Decidable p] {A : Prop} (h1 : p → A) (h2 : ¬ p → Q (.bl false) H) : chK (.bl (decide p)) H A Q := ⟨_, rfl, r_ifd h1 h2⟩
theorem isInt_of {M : Addr → Prop} {lo hi : Int} {d : PyData} {v : V} (h : Is M H d v) (e : tyName d = "int") : ∃ i, d = .int i ∧ v = .int i := by
  cases d <;> first | exact ⟨_, rfl, h⟩ | exact absurd e (by simp [tyName])
theorem isTup_of {M : Addr → Prop} {d : PyData} {v : V} (e : tyName d = "tuple") : ∃ ds, d = .tuple ds := by
  cases d <;> first | exact ⟨_, rfl⟩ | exact absurd e (by simp [tyName])
theorem isInt_ne {lo hi : Int} {d : PyData} (e : ¬ tyName d = "int") : isInt lo hi d = false := by
  cases d <;> first | rfl | exact absurd rfl e
theorem isRow_ne {lo hi : Int} {d : PyData} (e : ¬ tyName d = "tuple") : isRow lo hi d = false := by
  cases d <;> first | rfl | exact absurd rfl e
end

theorem pe_globI {X : Cx} {x : Str} {n : Int} {t : Tok} {pos : Pos} (hg : Gl X x) (hm : X.mg x = some (.int n t)) (hd : (x == ("__debug__" : Str)) = false := by decide) : PE X (.Name x pos) (tC (.int n)) := pe_glob hg hm ⟨t, rfl⟩ hd
theorem pe_globR {X : Cx} {x : Str} {a : Addr} {pos : Pos} (hg : Gl X x) (hm : X.mg x = some (.ref a)) (hd : (x == ("__debug__" : Str)) = false := by decide) : PE X (.Name x pos) (tC (.ref a)) := pe_glob hg hm rfl hd
/-! ### what a program is -/
def ltab : List (Str × List Sh) := [("const", [.r, .v]), ("copy", [.r, .r]), ("add", [.r, .r, .r]), ("sub", [.r, .r, .r]), ("mul", [.r, .r, .r]), ("eq", [.r, .r, .r]), ("less", [.r, .r, .r]), ("jump", [.n]), ("branch", [.r, .n]), ("assert", [.r]), ("stop", [])]
def vtab : List (Str × List Sh) := [("load", [.r, .x]), ("store", [.x, .r]), ("swap", [.r, .s, .r]), ("fetch", [.r, .s, .r]), ("cas", [.r, .s, .r, .r]), ("await", [.r, .s, .r]), ("fence", []), ("lock", [.l]), ("unlock", [.l]), ("spawn", [.r, .k, .r]), ("join", [.r])]
theorem tab_step {z k : Str} {s : List Sh} {e : Option (List Sh)} {r : List (Str × List Sh)} (h : e = r.lookup z) : (if z = k then some s else e) = ((k, s) :: r).lookup z := by
  by_cases q : z = k
  · subst q; simp [List.lookup]
  · have q2 : (z == k) = false := by simpa using q
    simp [q, List.lookup, q2, h]
theorem shapeOf_tab (z : Str) : shapeOf z = (ltab ++ vtab).lookup z := by
  unfold shapeOf
  repeat (refine tab_step ?_)
  rfl
theorem shapeOf_l {z : Str} : shapeOf z = (ltab.lookup z).or (vtab.lookup z) := by
  rw [shapeOf_tab, List.lookup_append]
def shC : Sh → Nat
  | .r => 114 | .v => 118 | .n => 110 | .x => 120 | .s => 115 | .l => 108 | .k => 107
def shStr (l : List Sh) : Str := ⟨(l.map shC).toArray⟩
structure Dic (K : PySem.W.Frag) (w : World) (mg : Str → Option Value) (name : Str) (tab : List (Str × List Sh)) where
  d : Addr
  es : Array DictEntry
  n : Nat
  kd : KDict K w d es n
  m : mg name = some (.ref d)
  g : ∀ z, ∃ r, PySem.W.nsIn K d z = some r ∧ (tab.lookup z = none → r = none) ∧ ∀ sh, tab.lookup z = some sh → ∃ t, r = some (.str (shStr sh) t)
structure Txt2 (K : PySem.W.Frag) (w : World) (mg : Str → Option Value) where
  C : Addr
  m_BadProgram : mg "BadProgram" = some (.ref C)
  x_BadProgram : PySem.W.excIn K C [.type "ValueError", .type "Exception", .type "BaseException", .type "object"] "ValueError.__new__" = true
  k_BadProgram : PySem.W.keepIn K (.ref C) = true
  sb_BadProgram : PySem.W.subIn K (.ref C) (.type "BaseException") = some true
  ty_BadProgram : PySem.W.typeIn K (.ref C) = some (.type "type")
  LOCAL_SHAPES : Dic K w mg "LOCAL_SHAPES" ltab
  VISIBLE_SHAPES : Dic K w mg "VISIBLE_SHAPES" vtab
def shOf : PyData → Option (List Sh)
  | .tuple (.str w :: _) => shapeOf w
  | _ => none
def okVar : PyData → Bool
  | .tuple [f, .bool _] => isInt (-999) 999 f
  | _ => false
def okThread (many : Int) : PyData → Bool
  | .tuple [k, a] => isInt 0 (many - 1) k && isInt (-999) 999 a
  | _ => false
def okTup (lo hi : Int) (ok : PyData → Bool) : PyData → Bool
  | .tuple ds => decide (lo ≤ (ds.length : Int) ∧ (ds.length : Int) ≤ hi) && ds.all ok
  | _ => false
section
variable {σ : L2.St} {H : Hp} {Q : VK} {D : Ends}
/-- a loop over a tuple that looks at each item -/
theorem for_chk {K : PySem.W.Frag} {M : Addr → Prop} {a : Addr} {xs : List V} {ds : List PyData} {g : TG} {tb : TS} (ok : PyData → Bool) (S : L2.St → Prop) (hT : H a = some (.tup xs)) (hi : IsAll M H ds xs) (h0 : S σ)
    (hs : ∀ d x σ H1 (N : L2.St → Hp → Prop), d ∈ ds → Is M H1 d x → S σ → Same H H1 → (∀ σ' H', ok d = true → S σ' → Same H H' → N σ' H') → g x σ H1 fun σ2 H2 => tb { D with nx := N, ct := N, bk := D.nx } σ2 H2)
    (hd : ∀ σ H1, S σ → Same H H1 → (∀ d ∈ ds, ok d = true) → D.nx σ H1) : forK (Itt K a) g tb D σ H := by
  refine for_tup (xs := xs) (fun i σ H1 => S σ ∧ Same H H1 ∧ ∀ d ∈ ds.take i, ok d = true) ⟨h0, Same.refl _, fun d h => by simp at h⟩ (fun i σ H1 _ ⟨_, s, _⟩ => .inl (.inl (s _ _ hT))) (fun i x σ H1 hx ⟨hS, sm, hk⟩ => ?_) (fun σ H1 ⟨hS, sm, hk⟩ => hd σ H1 hS sm fun d hdm => hk d ?_)
  · obtain ⟨d, hdi, hI⟩ := hi.get hx
    refine hs d x σ H1 _ (List.mem_of_getElem? hdi) (Is.keep (KeepM.same sm) hI) hS sm fun σ' H' e1 e2 e3 => ⟨e2, e3, fun d' hd' => ?_⟩
    rw [List.take_add_one, hdi] at hd'
    rcases List.mem_append.mp hd' with z | z
    · exact hk d' z
    · simp at z; rw [z]; exact e1
  · rw [← hi.len, List.take_length]; exact hdm
theorem r_iTK {K : PySem.W.Frag} {a : Addr} {xs : List V} {R : It → Hp → Prop} (h : H a = some (.tup xs)) (q : R (Itt K a) H) : iTK K (.ref a) H R := ⟨a, rfl, ⟨xs, .inl (.inl h)⟩, q⟩
theorem r_gTup {K : PySem.W.Frag} {n : Nat} {t : TGs} {a : Addr} {xs : List V} {R : L2.St → Hp → Prop} (h : H a = some (.tup xs)) (hn : xs.length = n) (q : t xs σ H R) : gTup K n t (.ref a) σ H R := ⟨a, xs, rfl, .inl (.inl h), hn, q⟩
theorem r_inK {K : PySem.W.Frag} {d : Addr} {z : Str} {r : Option Value} (h : PySem.W.nsIn K d z = some r) (q : Q (.bl r.isSome) H) : (fun (x y : V) (H : Hp) (Q : VK) => ∃ (z : Str) (r : Option Value), x = .str z ∧ y = .ref d ∧ PySem.W.nsIn K d z = some r ∧ Q (.bl r.isSome) H) (.str z) (.ref d) H Q := ⟨z, r, rfl, rfl, h, q⟩
theorem r_ixK {K : PySem.W.Frag} {w : World} {mg : Str → Option Value} {nm : Str} {tab : List (Str × List Sh)} (T : Dic K w mg nm tab) {z : Str} {sh : List Sh} (h : tab.lookup z = some sh) (q : Q (.str (shStr sh)) H) : rIxD K w (.ref T.d) (.str z) H Q := by
  obtain ⟨r, e, _, g⟩ := T.g z
  obtain ⟨t, rfl⟩ := g sh h
  exact ⟨_, _, .str (shStr sh), rfl, rfl, ⟨_, _, _, T.kd.at_, T.kd.lit, e, ⟨t, rfl⟩⟩, q⟩
theorem tup_bad {lo hi : Int} {ok : PyData → Bool} {ds : List PyData} {d : PyData} (h : d ∈ ds) (e : ok d = false) : okTup lo hi ok (.tuple ds) = false := by
  unfold okTup
  rw [Bool.and_eq_false_iff]
  right
  rw [← Bool.not_eq_true, List.all_eq_true]
  intro q
  rw [q d h] at e
  cases e
theorem r_typeS {K : PySem.W.Frag} {z : Str} (q : Q (.ty "str") H) : rTyp K [.str z] H Q := ⟨_, _, rfl, .str z, q⟩
theorem r_ix0T {K : PySem.W.Frag} {p : Addr} {v : V} {r : List V} (h : H p = some (.tup (v :: r))) (q : Q v H) : rIx K (.ref p) (.int 0) H Q := r_ixT h (atI_nat (j := 0) rfl) q
theorem tup_row {lo hi : Int} {ok : PyData → Bool} : ∀ {d : PyData}, (!isRow lo hi d) = true → okTup lo hi ok d = false
  | .tuple ds, h => by
    have h2 : decide (lo ≤ (ds.length : Int) ∧ (ds.length : Int) ≤ hi) = false := by
      have h3 : (!decide (lo ≤ (ds.length : Int) ∧ (ds.length : Int) ≤ hi)) = true := h
      simpa only [Bool.not_eq_true'] using h3
    show (decide (lo ≤ (ds.length : Int) ∧ (ds.length : Int) ≤ hi) && ds.all ok) = false
    rw [h2]; rfl
  | .none, _ => rfl
  | .bool _, _ => rfl
  | .int _, _ => rfl
  | .str _, _ => rfl
  | .list _, _ => rfl
  | .dict _, _ => rfl
theorem row_tup {lo hi : Int} : ∀ {d : PyData}, ¬(!isRow lo hi d) = true → ∃ ds, d = .tuple ds ∧ lo ≤ (ds.length : Int) ∧ (ds.length : Int) ≤ hi
  | .tuple ds, h => by
    have hb : isRow lo hi (.tuple ds) = true := by simpa using h
    have h2 : decide (lo ≤ (ds.length : Int) ∧ (ds.length : Int) ≤ hi) = true := hb
    exact ⟨ds, rfl, of_decide_eq_true h2⟩
  | .none, h => absurd rfl h
  | .bool _, h => absurd rfl h
  | .int _, h => absurd rfl h
  | .str _, h => absurd rfl h
  | .list _, h => absurd rfl h
  | .dict _, h => absurd rfl h
theorem row2 {d : PyData} (h : ¬(!isRow 2 2 d) = true) : ∃ x y, d = .tuple [x, y] := by
  obtain ⟨ds, rfl, h1, h2⟩ := row_tup h
  match ds, h1, h2 with
  | [x, y], _, _ => exact ⟨x, y, rfl⟩
  | [], h1, _ => exact absurd h1 (by simp)
  | [_], h1, _ => exact absurd h1 (by simp)
  | _ :: _ :: _ :: r, _, h2 => exact absurd h2 (by simp; omega)
theorem tup_ok {lo hi : Int} {ok : PyData → Bool} {ds : List PyData} (h : lo ≤ ds.length ∧ (ds.length : Int) ≤ hi) (a : ∀ d ∈ ds, ok d = true) : okTup lo hi ok (.tuple ds) = true := by
  unfold okTup
  rw [Bool.and_eq_true]
  exact ⟨decide_eq_true h, List.all_eq_true.mpr a⟩
theorem r_gCons {t : TG} {u : TGs} {v : V} {r : List V} {R : L2.St → Hp → Prop} (h : t v σ H fun σ' H' => u r σ' H' R) : gCons t u (v :: r) σ H R := ⟨v, r, rfl, h⟩
theorem r_gNil {R : L2.St → Hp → Prop} (h : R σ H) : gNil [] σ H R := ⟨rfl, h⟩
end
set_option hygiene false
local macro_rules | `(tactic| walk_at "km") => `(tactic| (first
  | exact KeepM.refl
  | (refine KeepM.trans ?_ (KeepM.same (by assumption)); walk_at "km")
  | (refine KeepM.trans ?_ (Keep.toML (by assumption) (by assumption)); walk_at "km")
  | (refine KeepM.trans ?_ (Keep.toM (by assumption) (by assumption) (by first | trivial | rfl)); walk_at "km")))
local macro_rules | `(tactic| walk_at "kp") => `(tactic| (first
  | exact Keep.refl
  | (refine Keep.trans ?_ (Keep.same (by assumption)); walk_at "kp")
  | (refine Keep.trans ?_ (by assumption); walk_at "kp")
  | (refine Keep.cell2 (by assumption) (by assumption) ?_; walk_at "kp")))
local macro_rules | `(tactic| walk_at "hat") => `(tactic| (first
  | assumption
  | (refine same_get (by assumption) ?_; walk_at "hat")
  | (refine Keep.get (by assumption) (by assumption) ?_; walk_at "hat")))
local macro_rules | `(tactic| walk_at "isd") => `(tactic| (with_reducible first
  | exact is_int | exact is_str | exact is_bl | exact is_non | assumption
  | (refine Is.keep ?_ (by assumption); walk_at "km")))
local macro_rules | `(tactic| walk_at "isall") => `(tactic| (repeat (with_reducible first | exact IsAll.nil | (apply IsAll.cons; (walk_at "isd")))))
local macro_rules | `(tactic| walk_at "pos") => `(tactic| (first | decide | assumption | omega | (simp only [decide_eq_false_iff_not] at *; omega)))
local macro_rules | `(tactic| walk_at "rd") => `(tactic| (with_reducible first
  | refine r_seq ?_ | refine r_asg ?_ | refine r_name ?_ | refine r_C ?_ | refine r_op ?_ | refine r_un ?_ | refine r_rU ?_ | refine r_I0 ?_ | refine r_eqI ?_ | refine r_neI ?_ | refine r_test ?_ | refine r_tB ?_ | refine r_exk ?_ | refine r_and ?_ | refine r_or ?_ | refine r_not ?_ | refine r_ifS ?_ | refine r_ret ?_ | refine r_next ?_ | refine r_drop ?_ | refine r_nil ?_ | refine r_cons ?_ | refine r_call ?_ | refine r_CB ?_ | refine r_tup ?_ | refine r_lst ?_ | refine r_sub ?_ | refine r_gCons ?_ | refine r_gNil ?_ | refine r_isTy ?_ | refine r_notTy ?_ | refine r_andV ?_ | refine r_chain ?_ | refine r_andK (fun h => ?_) (fun h => ?_) | refine r_chK (fun h => ?_) (fun h => ?_) | refine r_andKb (fun h => ?_) (fun h => ?_) | refine r_for ?_ | refine r_lc ?_ | refine r_iL ?_ | refine r_iT ?_ | refine r_iR ?_
  | (apply r_var; (focus ((with_unfolding_all rfl); done)))
  | (refine r_mod ?_ ?_; (focus ((walk_at "pos"); done)); intro m hm0 hm1)
  | (refine r_I ?_ ?_; (focus ((first | decide | (unfold CMul; omega) | (unfold CDiv; omega) | (unfold CPow; omega) | omega); done)))
  | (apply r_wipe; (focus ((with_unfolding_all rfl); done))) | refine r_yes ?_ | refine iteT ?_ | refine iteF ?_ | refine r_ifeq (fun h => ?_) (fun h => ?_) | refine r_ifd (fun h => ?_) (fun h => ?_) | refine r_ifnd (fun h => ?_) (fun h => ?_) | refine ite2 (fun h => ?_) (fun h => ?_)))
local macro_rules | `(tactic| walk_at "al") => `(tactic| (first
  | ((with_reducible apply r_newT (M := fun _ => True)); (focus (walk_at "isall"; done)); (with_unfolding_all exact Nat.le_of_ble_eq_true rfl); intro v H2 hs hi; (try (have hd2 := Drs.same (by assumption) hs)))
  | ((with_reducible apply r_newL); (with_unfolding_all exact Nat.le_of_ble_eq_true rfl); intro p H2 hn hs hl; (try (have hd2 := Drs.same (by assumption) hs)); (try (have hne := ne_dr (by assumption) hn)); (try (have hnu := ne_nu (by assumption) hn)))
  | ((with_reducible apply r_draw); (focus (assumption)); (intro n H2 hn hk hd))
  | ((with_reducible apply r_bm))
  | ((with_reducible apply r_app); (focus (walk_at "hat")); (focus ((refine size_lt ?_); (first | omega | (simp only [List.length_map]; omega) | (simp; omega)))); (intro H2 hold hk hl); (try (have hd2 := Drs.cellK (by assumption) hk (by assumption) (by assumption))))
  | ((with_reducible apply And.intro); (focus ((with_reducible apply r_tyL); (walk_at "hat"))))
  | ((with_reducible apply r_rng); (focus (first | assumption | omega)); (focus omega))
  | ((with_reducible apply r_local); (focus assumption); (focus (first | assumption | omega)); (intro d v H2 hi hok hk hd))
  | ((with_reducible apply r_visible); (focus assumption); (focus (walk_at "isd")); (focus assumption); (focus (first | assumption | omega)); (intro d v H2 hi hok hk hd))
  | ((with_reducible apply r_tupOf (M := fun _ => True)); (focus (walk_at "hat")); (focus (first | assumption | (refine IsAll.keep ?_ (by assumption); walk_at "km"))); (intro v H2 hs hi); (try (have hd2 := Drs.same (by assumption) hs)))
  | ((with_reducible apply r_int); (focus (walk_at "isd")))
  | ((with_reducible apply r_value); (focus (walk_at "isd")))
  | ((with_reducible apply r_row); (focus (walk_at "isd")))
  | ((with_reducible apply r_iTK); (focus (walk_at "hat")))
  | ((with_reducible apply r_gTup); (focus (walk_at "hat")); (focus ((with_unfolding_all rfl); done)))
  | ((with_reducible apply r_ix0T); (focus (walk_at "hat")))
  | ((with_reducible apply r_ixT); (focus (walk_at "hat")); (focus ((with_unfolding_all rfl); done)))
  | (with_reducible refine r_typeS ?_)
  | ((with_reducible apply r_type); (focus (walk_at "isd")))
  | (with_reducible refine ⟨_, _, rfl, rfl, (by assumption), ?_⟩)
  | ((with_reducible apply r_lenD); (focus (walk_at "isd")))
  | ((with_reducible apply r_lenT); (focus (walk_at "hat")))
  | ((with_reducible apply r_lenL); (focus (walk_at "hat")))
  | ((with_reducible apply r_setL); (focus (walk_at "hat")); (focus ((with_unfolding_all rfl); done)); (intro H2 hk hl))
  | ((with_reducible apply r_ixMk); (focus (walk_at "hat")); (focus (assumption)); (focus assumption); (focus ((simp only [List.length_cons, List.length_nil]); decide)))
  | ((with_reducible apply r_ixI); (focus (walk_at "hat")); (focus (omega)); (focus (omega)); (intro n hn))
  | ((with_reducible apply r_mixed); (intro n hn0 hn1))
  | ((with_reducible apply r_lenP); (focus (walk_at "isd")))
  | ((with_reducible apply r_ixP); (focus (walk_at "isd")); (focus assumption); (focus assumption); (intro j pp u hj hp hu))
  | ((with_reducible apply r_ixP1); (focus assumption))
  | ((with_reducible apply r_ixL); (focus (walk_at "hat")); (focus ((with_unfolding_all rfl); done)))
  | (with_reducible refine r_memc ?_ ?_) | (with_reducible exact r_memn)))
local macro_rules | `(tactic| walk_at "go") => `(tactic| (repeat' (first | walk_at "rd" | walk_at "al")))
section
variable {K : PySem.W.Frag} {P : Program} {mg : Str → Option Value} {w : World} {base : Heap}
def sp_int : Sp := fun vs H Q _ => ∃ (M : Addr → Prop) (d : PyData) (v : V) (lo hi : Int), vs = [v, .int lo, .int hi] ∧ Is M H d v ∧ Q (.bl (isInt lo hi d)) H
theorem r_int {M : Addr → Prop} {d : PyData} {v : V} {lo hi : Int} {H : Hp} {Q : VK} {E : XK} (h : Is M H d v) (q : Q (.bl (isInt lo hi d)) H) : sp_int ([v, .int lo, .int hi] ++ []) H Q E := ⟨M, d, v, lo, hi, rfl, h, q⟩
def sp_value : Sp := fun vs H Q _ => ∃ (M : Addr → Prop) (d : PyData) (v : V), vs = [v] ∧ Is M H d v ∧ Q (.bl (isInt (-999) 999 d)) H
theorem r_value {M : Addr → Prop} {d : PyData} {v : V} {H : Hp} {Q : VK} {E : XK} (h : Is M H d v) (q : Q (.bl (isInt (-999) 999 d)) H) : sp_value ([v] ++ []) H Q E := ⟨M, d, v, rfl, h, q⟩
def sp_row : Sp := fun vs H Q _ => ∃ (M : Addr → Prop) (d : PyData) (v : V) (lo hi : Int), vs = [v, .int lo, .int hi] ∧ Is M H d v ∧ Q (.bl (isRow lo hi d)) H
theorem r_row {M : Addr → Prop} {d : PyData} {v : V} {lo hi : Int} {H : Hp} {Q : VK} {E : XK} (h : Is M H d v) (q : Q (.bl (isRow lo hi d)) H) : sp_row ([v, .int lo, .int hi] ++ []) H Q E := ⟨M, d, v, lo, hi, rfl, h, q⟩
theorem ok_int (T : Txt K mg) : FnOk P w K mg base CX0 1 T.f_is_integer T.d_is_integer ["number", "least", "greatest"] sp_int := by
  refine T.F_is_integer.ok sc_is_integer (fun vs H Q E h => ?_) (fun cdv A outer s H vs Q E hr h => ?_)
  · obtain ⟨_, _, _, _, _, rfl, _⟩ := h
    rfl
  · obtain ⟨M, d, v, lo, hi, rfl, hI, q⟩ := h
    have nd := sc_is_integer.nd
    refine ⟨_, (pss_one (ps_ret (pe_and (pe_cmpR op_isTy' (pe_callTy call_type1 (by rfl) T.m_type (by decide +kernel) (pa_cons (pv 0) pa_nil)) (pe_bltn (v := .ty "int") (by rfl) T.m_int (by decide +kernel) rfl) (nomark _)) (pe_one (pe_chain op_le op_le (pv 1) (pv 0) (pv 2)))))), ?_⟩
    walk_at "go"
    · obtain ⟨i, rfl, rfl⟩ := isInt_of (lo := lo) (hi := hi) hI h
      walk_at "go"
      · have e : isInt lo hi (.int i) = decide (i ≤ hi) := by simp [isInt, h]
        rw [← e]; exact q
      · have e : isInt lo hi (.int i) = false := by simp [isInt, h]
        rw [← e]; exact q
    · rw [← isInt_ne h]; exact q
theorem ok_value (T : Txt K mg) : FnOk P w K mg base CX0 2 T.f_is_value T.d_is_value ["number"] sp_value := by
  have G_is_integer : FnOk P w K mg base CX0 1 T.f_is_integer T.d_is_integer ["number", "least", "greatest"] sp_int := ok_int T
  refine T.F_is_value.ok sc_is_value (fun vs H Q E h => ?_) (fun cdv A outer s H vs Q E hr h => ?_)
  · obtain ⟨_, _, _, rfl, _⟩ := h
    rfl
  · obtain ⟨M, d, v, rfl, hI, q⟩ := h
    have nd := sc_is_value.nd
    refine ⟨_, (pss_one (ps_ret (pe_call G_is_integer (hr.mono (by decide)) (by rfl) T.m_is_integer T.F_is_integer.kp T.b_is_integer .nil pass0 (pa_cons (pv 0) (pa_cons (pe_globI rfl T.m_LEAST_VALUE) (pa_cons (pe_globI rfl T.m_GREATEST_VALUE) pa_nil)))))), ?_⟩
    walk_at "go"
    exact q
theorem ok_row (T : Txt K mg) : FnOk P w K mg base CX0 1 T.f_is_row T.d_is_row ["row", "least", "greatest"] sp_row := by
  refine T.F_is_row.ok sc_is_row (fun vs H Q E h => ?_) (fun cdv A outer s H vs Q E hr h => ?_)
  · obtain ⟨_, _, _, _, _, rfl, _⟩ := h
    rfl
  · obtain ⟨M, d, v, lo, hi, rfl, hI, q⟩ := h
    have nd := sc_is_row.nd
    refine ⟨_, (pss_one (ps_ret (pe_and (pe_cmpR op_isTy' (pe_callTy call_type1 (by rfl) T.m_type (by decide +kernel) (pa_cons (pv 0) pa_nil)) (pe_bltn (v := .ty "tuple") (by rfl) T.m_tuple (by decide +kernel) rfl) (nomark _)) (pe_one (pe_chain op_le op_le (pv 1) (pe_callB call_len (by rfl) T.m_len PySem.boot_len (pa_cons (pv 0) pa_nil)) (pv 2)))))), ?_⟩
    walk_at "go"
    · obtain ⟨ds, rfl⟩ := isTup_of (M := M) (v := v) h
      walk_at "go"
      · have e : isRow lo hi (.tuple ds) = decide ((ds.length : Int) ≤ hi) := by simp [isRow, h]
        rw [← e]; exact q
      · have e : isRow lo hi (.tuple ds) = false := by simp [isRow, h]
        rw [← e]; exact q
    · rw [← isRow_ne h]; exact q

def sp_check (C : Addr) (ok : PyData → Bool) : Sp := fun vs H Q E => ∃ (M : Addr → Prop) (d : PyData) (v : V), vs = [v] ∧ Is M H d v ∧ (ok d = true → ∀ H', Same H H' → Q .non H') ∧ (ok d = false → ∀ H', Same H H' → E (.ref C) none H')
def sp_shape (C : Addr) : Sp := fun vs H Q E => ∃ (M : Addr → Prop) (d : PyData) (v : V), vs = [v] ∧ Is M H d v ∧ (∀ sh, shOf d = some sh → Q (.str (shStr sh)) H) ∧ (shOf d = none → E (.ref C) none H)
theorem ok_shape (T : Txt K mg) (T2 : Txt2 K w mg) : FnOk P w K mg base (L2.CX P w) 1 T.f_shape_of T.d_shape_of ["instruction"] (sp_shape T2.C) := by
  refine T.F_shape_of.okX sc_shape_of (fun vs H Q E h => ?_) (fun cdv A outer s H vs Q E hr h => ?_)
  · obtain ⟨_, _, _, rfl, _⟩ := h
    rfl
  · obtain ⟨M, d, v, rfl, hI, q, e⟩ := h
    have nd := sc_shape_of.nd
    refine ⟨_, (pss_cons (ps_if (PW.pt (pw_or (pt_cmpR op_notTy' (pe_callTy call_type1 (by rfl) T.m_type (by decide +kernel) (pa_cons (pv 0) pa_nil)) (pe_bltn (v := .ty "tuple") (by rfl) T.m_tuple (by decide +kernel) rfl) (nomark _)) (pw_or1 (pt_cmpR op_eq (pe_callB call_len (by rfl) T.m_len PySem.boot_len (pa_cons (pv 0) pa_nil)) pe_int (nomark _))))) (pss_one (ps_raise rfl (takes_of rfl rfl rfl rfl) (pmk_own PySem.F.excBase_ValueError T2.x_BadProgram T2.m_BadProgram T2.k_BadProgram (raises_own T2.sb_BadProgram T2.ty_BadProgram) rfl))) pss_nil)
      (pss_cons (ps_set (i := 1) nd rfl (.inl rfl) (pe_ix ix_seq (pv 0) pe_int (fun _ _ => rfl)))
      (pss_cons (ps_if (pt_cmpR op_notTy' (pe_callTy call_type1 (by rfl) T.m_type (by decide +kernel) (pa_cons (pv 1) pa_nil)) (pe_bltn (v := .ty "str") (by rfl) T.m_str (by decide +kernel) rfl) (nomark _)) (pss_one (ps_raise rfl (takes_of rfl rfl rfl rfl) (pmk_own PySem.F.excBase_ValueError T2.x_BadProgram T2.m_BadProgram T2.k_BadProgram (raises_own T2.sb_BadProgram T2.ty_BadProgram) rfl))) pss_nil)
      (pss_cons (ps_if (pt_cmpR (op_in_kd T2.LOCAL_SHAPES.kd) (pv 1) (pe_globR rfl T2.LOCAL_SHAPES.m) (by rfl)) (pss_one (ps_ret (pe_ix ix_kdict (pe_globR rfl T2.LOCAL_SHAPES.m) (pv 1) (fun _ _ => rfl)))) pss_nil)
      (pss_cons (ps_if (pt_cmpR (op_in_kd T2.VISIBLE_SHAPES.kd) (pv 1) (pe_globR rfl T2.VISIBLE_SHAPES.m) (by rfl)) (pss_one (ps_ret (pe_ix ix_kdict (pe_globR rfl T2.VISIBLE_SHAPES.m) (pv 1) (fun _ _ => rfl)))) pss_nil)
      (pss_one (ps_raise rfl (takes_of rfl rfl rfl rfl) (pmk_own PySem.F.excBase_ValueError T2.x_BadProgram T2.m_BadProgram T2.k_BadProgram (raises_own T2.sb_BadProgram T2.ty_BadProgram) rfl)))))))), ?_⟩
    cases d with
    | tuple ds =>
      cases ds with
      | nil =>
        walk_at "go"
        all_goals first | exact e rfl | (exact absurd rfl h) | (exfalso; simp at h; done)
      | cons x r =>
        obtain ⟨a, xs, rfl, hT, v0, vs, rfl, h0, hrs⟩ := id hI
        cases x with
        | str wd =>
          cases h0
          obtain ⟨r1, er1, g1, g1'⟩ := T2.LOCAL_SHAPES.g wd
          obtain ⟨r2, er2, g2, g2'⟩ := T2.VISIBLE_SHAPES.g wd
          walk_at "go"
          all_goals try (exfalso; simp [tyName] at h; done)
          all_goals try (exfalso; simp at h; omega)
          refine ⟨wd, r1, rfl, rfl, er1, ?_⟩
          walk_at "go"
          · cases hl : ltab.lookup wd with
            | none => rw [g1 hl] at h; cases h
            | some sh =>
              refine r_ixK T2.LOCAL_SHAPES hl ?_
              refine q sh ?_
              show shapeOf wd = some sh
              rw [shapeOf_l, hl]; rfl
          · have hl : ltab.lookup wd = none := by
              cases hl : ltab.lookup wd with
              | none => rfl
              | some sh => obtain ⟨t, et⟩ := g1' sh hl; rw [et] at h; exact absurd rfl h
            walk_at "go"
            refine ⟨wd, r2, rfl, rfl, er2, ?_⟩
            walk_at "go"
            · cases hv : vtab.lookup wd with
              | none => rw [g2 hv] at h; cases h
              | some sh =>
                refine r_ixK T2.VISIBLE_SHAPES hv ?_
                refine q sh ?_
                show shapeOf wd = some sh
                rw [shapeOf_l, hl, hv]; rfl
            · have hv : vtab.lookup wd = none := by
                cases hv : vtab.lookup wd with
                | none => rfl
                | some sh => obtain ⟨t, et⟩ := g2' sh hv; rw [et] at h; exact absurd rfl h
              refine e ?_
              show shapeOf wd = none
              rw [shapeOf_l, hl, hv]; rfl
        | _ =>
          walk_at "go"
          all_goals first | exact e rfl | (exact absurd rfl h) | (exfalso; simp [tyName] at *; done) | (exfalso; simp at h; omega)
    | _ =>
      walk_at "go"
      all_goals first | exact e rfl | (exfalso; simp [tyName] at *; done)
theorem ok_vars (T : Txt K mg) (T2 : Txt2 K w mg) : FnOk P w K mg base (L2.CX P w) 3 T.f_check_variables T.d_check_variables ["variables"] (sp_check T2.C (okTup 0 4 okVar)) := by
  have G_is_row : FnOk P w K mg base CX0 1 T.f_is_row T.d_is_row ["row", "least", "greatest"] sp_row := ok_row T
  have G_is_value : FnOk P w K mg base CX0 2 T.f_is_value T.d_is_value ["number"] sp_value := ok_value T
  refine T.F_check_variables.okX sc_check_variables (fun vs H Q E h => ?_) (fun cdv A outer s H vs Q E hr h => ?_)
  · obtain ⟨_, _, _, rfl, _⟩ := h
    rfl
  · obtain ⟨M, d, v, rfl, hI, q, e⟩ := h
    have nd := sc_check_variables.nd
    refine ⟨_, (pss_cons (ps_if (pt_not (pt_val (pe_call G_is_row (hr.mono (by decide)) (by rfl) T.m_is_row T.F_is_row.kp T.b_is_row .nil pass0 (pa_cons (pv 0) (pa_cons pe_int (pa_cons pe_int pa_nil)))))) (pss_one (ps_raise rfl (takes_of rfl rfl rfl rfl) (pmk_own PySem.F.excBase_ValueError T2.x_BadProgram T2.m_BadProgram T2.k_BadProgram (raises_own T2.sb_BadProgram T2.ty_BadProgram) rfl))) pss_nil)
      (pss_one (ps_for (passes_of rfl) rfl (pi_tup (pv 0)) (pg_name (i := 1) nd rfl (.inl rfl)) (pss_cons (ps_if (pt_not (pt_val (pe_call G_is_row (hr.mono (by decide)) (by rfl) T.m_is_row T.F_is_row.kp T.b_is_row .nil pass0 (pa_cons (pv 1) (pa_cons pe_int (pa_cons pe_int pa_nil)))))) (pss_one (ps_raise rfl (takes_of rfl rfl rfl rfl) (pmk_own PySem.F.excBase_ValueError T2.x_BadProgram T2.m_BadProgram T2.k_BadProgram (raises_own T2.sb_BadProgram T2.ty_BadProgram) rfl))) pss_nil)
      (pss_cons (ps_asg (pv 1) (pg_tup rfl (pgs_cons (pg_name (i := 2) nd rfl (.inl rfl)) (pgs_cons (pg_name (i := 3) nd rfl (.inl rfl)) pgs_nil))))
      (pss_cons (ps_if (pt_not (pt_val (pe_call G_is_value (hr.mono (by decide)) (by rfl) T.m_is_value T.F_is_value.kp T.b_is_value .nil pass0 (pa_cons (pv 2) pa_nil)))) (pss_one (ps_raise rfl (takes_of rfl rfl rfl rfl) (pmk_own PySem.F.excBase_ValueError T2.x_BadProgram T2.m_BadProgram T2.k_BadProgram (raises_own T2.sb_BadProgram T2.ty_BadProgram) rfl))) pss_nil)
      (pss_one (ps_if (pt_cmpR op_notTy' (pe_callTy call_type1 (by rfl) T.m_type (by decide +kernel) (pa_cons (pv 3) pa_nil)) (pe_bltn (v := .ty "bool") (by rfl) T.m_bool (by decide +kernel) rfl) (nomark _)) (pss_one (ps_raise rfl (takes_of rfl rfl rfl rfl) (pmk_own PySem.F.excBase_ValueError T2.x_BadProgram T2.m_BadProgram T2.k_BadProgram (raises_own T2.sb_BadProgram T2.ty_BadProgram) rfl))) pss_nil)))))))), ?_⟩
    walk_at "go"
    · exact e (tup_row h) H (Same.refl _)
    · obtain ⟨ds, rfl, hl⟩ := row_tup h
      obtain ⟨a, xs, rfl, hT, hA⟩ := hI
      walk_at "go"
      refine for_chk okVar (fun σ => ∃ y1 y2 y3, σ = [some (.ref a), y1, y2, y3]) hT hA ⟨_, _, _, rfl⟩ (fun d x σ H1 N hdm hd hS sm hN => ?_) (fun σ H1 hS sm hall => ?_)
      · obtain ⟨y1, y2, y3, rfl⟩ := hS
        have hbad : okVar d = false → E (Value.ref T2.C) none H1 := fun z => e (tup_bad hdm z) H1 sm
        walk_at "go"
        · refine hbad ?_
          cases d <;> first | rfl | skip
          rename_i ds'
          match ds', h with
          | [], _ => rfl
          | [_], _ => rfl
          | [_, _], h => exact absurd h (by simp [isRow])
          | _ :: _ :: _ :: _, _ => simp [okVar]
        · obtain ⟨f, p, rfl⟩ := row2 h
          obtain ⟨a2, xs2, rfl, hT2, v1, r1, rfl, i1, v2, r2, rfl, i2, rfl⟩ := hd
          have iok : isInt (-999) 999 f = true → tyName p = "bool" → okVar (.tuple [f, p]) = true := fun h1 h2 => by
            cases p <;> first | exact h1 | exact absurd h2 (by simp [tyName])
          have ibad1 : isInt (-999) 999 f = false → okVar (.tuple [f, p]) = false := fun h1 => by
            cases p <;> first | exact h1 | rfl
          have ibad2 : ¬ tyName p = "bool" → okVar (.tuple [f, p]) = false := fun h2 => by
            cases p <;> first | rfl | exact absurd rfl h2
          walk_at "go"
          · exact hbad (ibad1 (by simpa using h))
          · exact hbad (ibad2 h)
          · exact hN _ _ (iok (by simpa using ‹¬(!isInt (-999) 999 f) = true›) h) ⟨_, _, _, rfl⟩ sm
      · walk_at "go"
        exact q (tup_ok hl hall) H1 sm
end
end EW
set_option Elab.async false
set_option linter.all false
set_option maxRecDepth 100000
set_option maxHeartbeats 4400000
namespace EWZ
open PySem
/-! zip of a text and a tuple is made: five objects are laid, one behind the other -/
abbrev oT (x : Str) (t : Tok) : Obj := { cls := .type (strIterType x), data := .fields #[.str x t, .int 0 0] }
abbrev oI (b : Addr) : Obj := { cls := .type "tuple_iterator", data := .fields #[.ref b, .int 0 0] }
abbrev oP (u v : Value) : Obj := { cls := .type "tuple", data := .seq #[u, v] }
abbrev oZ (m n : Addr) : Obj := { cls := .type "zip", data := .fields #[.none, .bool false, .bool false, .ref m, .ref n] }
abbrev g1 (h : Heap) (x : Str) (t : Tok) : Heap := h.push (oT x t)
abbrev g2 (h : Heap) (x : Str) (t : Tok) (b : Addr) : Heap := (g1 h x t).push (oI b)
abbrev g3 (h : Heap) (x : Str) (t : Tok) (b : Addr) : Heap := (g2 h x t b).push (oP (.ref h.objs.size) (.ref (g1 h x t).objs.size))
abbrev g4 (h : Heap) (x : Str) (t : Tok) (b : Addr) : Heap := (g3 h x t b).push (oP .none .none)
abbrev g5 (h : Heap) (x : Str) (t : Tok) (b : Addr) : Heap := (g4 h x t b).push (oZ (g2 h x t b).objs.size (g3 h x t b).objs.size)
theorem made (x : Str) (t : Tok) (b : Addr) (ys : Array Value) : Meets (Builtin.«zip.__new__» ⟨[.type "zip", .str x t, .ref b], []⟩)
    (fun _ Back now => now.heap.IsTuple b ys ∧ Back (.ok (.ret (.ref (g4 now.heap x t b).objs.size))) { now with heap := g5 now.heap x t b }) :=
  .of_wp fun prog w A Back now q => by
    obtain ⟨hp, gs, dr, tk, os⟩ := now
    obtain ⟨tup, q⟩ := q
    have isZ := sub_zip
    have tup' : Heap.IsTuple (Shared.heap ⟨hp.push (oT x t), gs, dr, tk, os⟩) b ys := Heap.IsTuple.push tup _
    wp_walk using wpAny_pyIter_strU, wpAny_pyIter_tuple tup'
    exact ⟨_, rfl, q⟩
/-- what stands behind the making -/
structure Laid (h h' : Heap) (x : Str) (t : Tok) (b : Addr) : Prop where
  zip : IsZip h' (h.objs.size + 4) (h.objs.size + 2) (h.objs.size + 3) .none
  its : IsPair h' (h.objs.size + 2) (.ref h.objs.size) (.ref (h.objs.size + 1))
  out : IsPair h' (h.objs.size + 3) .none .none
  txt : h'.IsStrIter h.objs.size (strIterType x) x t 0
  tup : h'.IsTupleIter (h.objs.size + 1) b 0
  old : ∀ c o, h.get? c = some o → h'.get? c = some o
theorem laid (h : Heap) (x : Str) (t : Tok) (b : Addr) : Laid h (g5 h x t b) x t b ∧ (g4 h x t b).objs.size = h.objs.size + 4 := by
  have n1 : (g1 h x t).objs.size = h.objs.size + 1 := Heap.size_push _ _
  have n2 : (g2 h x t b).objs.size = h.objs.size + 2 := (Heap.size_push _ _).trans (by rw [n1])
  have n3 : (g3 h x t b).objs.size = h.objs.size + 3 := (Heap.size_push _ _).trans (by rw [n2])
  have n4 : (g4 h x t b).objs.size = h.objs.size + 4 := (Heap.size_push _ _).trans (by rw [n3])
  have up : ∀ {k : Heap} {o : Obj} {c : Addr} {u : Obj}, k.get? c = some u → (k.push o).get? c = some u := fun e => Heap.get?_push_of_some _ e
  have top : ∀ {k : Heap} {o : Obj}, o.isFreed = false → (k.push o).get? k.objs.size = some o := fun f => Heap.get?_push_size _ f
  have a5 : (g5 h x t b).get? (g4 h x t b).objs.size = some (oZ (g2 h x t b).objs.size (g3 h x t b).objs.size) := top rfl
  have a4 : (g5 h x t b).get? (g3 h x t b).objs.size = some (oP .none .none) := up (top rfl)
  have a3 : (g5 h x t b).get? (g2 h x t b).objs.size = some (oP (.ref h.objs.size) (.ref (g1 h x t).objs.size)) := up (up (top rfl))
  have a2 : (g5 h x t b).get? (g1 h x t).objs.size = some (oI b) := up (up (up (top rfl)))
  have a1 : (g5 h x t b).get? h.objs.size = some (oT x t) := up (up (up (up (top rfl))))
  rw [n4, n2, n3] at a5
  rw [n3] at a4
  rw [n2, n1] at a3
  rw [n1] at a2
  exact ⟨⟨a5, a3, a4, ⟨_, a1, rfl, rfl⟩, ⟨_, a2, rfl, rfl⟩, fun c o e => up (up (up (up (up e))))⟩, n4⟩
theorem zip_call {prog : Program} {w : World} {A : Around} {E : Value → Shared → Prop} {now : Shared} {x : Str} {t : Tok} {b : Addr} {ys : Array Value} {Q : Value → Shared → Prop} (tup : now.heap.IsTuple b ys)
    (q : ∀ h', Laid now.heap h' x t b → Q (.ref (now.heap.objs.size + 4)) { now with heap := h' }) : wpAny (model prog w) A (call (.type "zip") [.str x t, .ref b]) Q E now := by
  obtain ⟨L, n4⟩ := laid now.heap x t b
  refine callType_new F.called_zip (by decide) (F.typeCall_zip_2 (.str x t) (.ref b)) (F.newCall_zip_2 (.str x t) (.ref b)) (fun new => F.args_object_init_3 new (.str x t) (.ref b)) F.entry_zip_new (made x t b ys) ⟨tup, ?_⟩
  rw [n4]
  exact ⟨⟨_, L.zip, rfl⟩, q _ L⟩
end EWZ
set_option Elab.async false
set_option linter.all false
set_option maxRecDepth 100000
set_option maxHeartbeats 4400000
namespace EW
open L2 PyProof.Rows PySem.Spec PySem
theorem all5 {α : Type} {R : α → Prop} {a b c d e : α} (h1 : R a) (h2 : R b) (h3 : R c) (h4 : R d) (h5 : R e) : ∀ x ∈ [a, b, c, d, e], R x := fun x hx => by
  simp only [or_false, List.not_mem_nil, List.mem_cons] at hx
  obtain rfl | rfl | rfl | rfl | rfl := hx <;> assumption
theorem off5 {α : Type} {x a b c d e : α} (h : x ∉ [a, b, c, d, e]) : x ≠ a ∧ x ≠ b ∧ x ≠ c ∧ x ≠ d ∧ x ≠ e := by
  simpa only [List.mem_cons, List.not_mem_nil, or_false, not_or] using h
/-- a text and a tuple, side by side: each turn a new pair -/
def ItzS (K : PySem.W.Frag) (z : Str) (b : Addr) : It where
  go := fun i H => ∃ (c : Nat) (ys : List V) (y : V), z.cps.toList[i]? = some c ∧ SqT K H b ys ∧ ys[i]? = some y
  yld := fun i H v H' => ∃ T c y, v = .ref T ∧ H T = none ∧ H' = upd H T (.tup [.str ⟨#[c]⟩, y]) ∧ z.cps.toList[i]? = some c ∧ ∀ ys, SqT K H b ys → ys[i]? = some y
  stop := fun i H => ∃ ys : List V, SqT K H b ys ∧ i ≤ z.cps.toList.length ∧ i ≤ ys.length ∧ (z.cps.toList.length ≤ i ∨ ys.length ≤ i)
/-- where the five cells stand, n on; b ahead of them -/
structure Five (n b : Addr) : Prop where
  lt : b < n
theorem out1 {a b : Nat} (h : a ≠ b) : a ∉ [b] := fun m => h (List.mem_singleton.mp m)
theorem out2 {a b c : Nat} (h : a ≠ b) (k : a ≠ c) : a ∉ [b, c] := fun m => (List.mem_cons.mp m).elim h (out1 k)
theorem sepN (n b : Nat) (h : b < n) : ZipSep2 (n + 4) (n + 2) (n + 3) n (n + 1) [n] [n + 1, b] where
  TIz := (show n + 2 ≠ n + 4 by omega)
  TOz := (show n + 3 ≠ n + 4 by omega)
  TITO := (show n + 2 ≠ n + 3 by omega)
  TIi1 := (show n + 2 ≠ n by omega)
  mem1 := List.mem_singleton.mpr rfl
  zf1 := out1 (by omega)
  Tf1 := out1 (by omega)
  TIi2 := (show n + 2 ≠ n + 1 by omega)
  mem2 := List.mem_cons_self ..
  zf2 := out2 (by omega) (by omega)
  Tf2 := out2 (by omega) (by omega)
  sep1_2 := out2 (by omega) (by omega)
  sep2_1 := out1 (by omega)
theorem Five.sep {n b : Addr} (D : Five n b) : ZipSep2 (n + 4) (n + 2) (n + 3) n (n + 1) [n] [n + 1, b] := sepN n b D.lt
theorem apartN (n b : Nat) (h : b < n) : b ≠ n + 1 := by omega
theorem apart {n b : Addr} (D : Five n b) : b ≠ n + 1 := apartN n b D.lt
/-- the state of the walk -/
structure Zst (x : Str) (t : Tok) (n b : Addr) (i : Nat) (h : Heap) : Prop where
  zip : IsZip h (n + 4) (n + 2) (n + 3) .none
  its : IsPair h (n + 2) (.ref n) (.ref (n + 1))
  out : ∃ u v, IsPair h (n + 3) u v
  txt : h.IsStrIter n (strIterType x) x t i
  tup : h.IsTupleIter (n + 1) b i
theorem Zst.kept {x : Str} {t : Tok} {n b : Addr} {i : Nat} {h h' : Heap} (S : Zst x t n b i h) (k : ∀ c ∈ [n + 4, n + 2, n + 3, n, n + 1], ∀ o, h.get? c = some o → h'.get? c = some o) : Zst x t n b i h' := by
  obtain ⟨u, v, ho⟩ := S.out
  obtain ⟨o1, e1, r1⟩ := S.txt
  have m4 := k (n + 4) (by simp)
  have m2 := k (n + 2) (by simp)
  have m3 := k (n + 3) (by simp)
  have m0 := k n (by simp)
  have m1 := k (n + 1) (by simp)
  exact ⟨m4 _ S.zip, m2 _ S.its, ⟨u, v, m3 _ ho⟩, ⟨o1, m0 _ e1, r1⟩, S.tup.at m1⟩
theorem zip_turns {P : Program} {w : World} {K : PySem.W.Frag} {elts : List Expr} {kk : Nat} {tpos : Pos} {x : Str} {t : Tok} {n b : Addr} (D : Five n b) :
    Turn P w K (.Tuple elts kk tpos) (ItzS K x b) [n + 4, n + 2, n + 3, n, n + 1] (n + 4) (Zst x t n b) where
  mem := List.mem_cons_self ..
  obj := fun i h S => by
    obtain ⟨u, v, ho⟩ := S.out
    obtain ⟨o1, e1, _, d1⟩ := S.txt
    obtain ⟨o2, e2, _, d2⟩ := S.tup
    exact all5 ⟨_, S.zip, fun v q => nomatch q⟩ ⟨_, S.its, fun v q => nomatch q⟩ ⟨_, ho, fun v q => nomatch q⟩ ⟨o1, e1, fun v q => nomatch (d1.symm.trans q)⟩ ⟨o2, e2, fun v q => nomatch (d2.symm.trans q)⟩
  keep := fun i h h' S k => S.kept k
  item := by
    intro X eP ew eK calm i pins now σ H E I fp S hg
    subst eP ew eK
    obtain ⟨c, ys, y, ec, tq, ey⟩ := hg
    obtain ⟨us, vals, isT, _⟩ := I.tuple tq
    obtain ⟨u, eu, ru⟩ := vals.get ey
    obtain ⟨p, q, ho⟩ := S.out
    have quiet := I.ok.hd calm
    have l1 : i < x.cps.size := by simpa using (List.getElem?_eq_some_iff.mp ec).1
    have l2 : i < us.toArray.size := by simpa using (List.getElem?_eq_some_iff.mp eu).1
    have nb : b ≠ n + 1 := apart D
    have isZ := Heap.lt_size S.zip
    refine wpAny_pyNext_zipD2_item D.sep (Draws.text (A := X.A.in1) quiet n x t) (Draws.tuple (A := X.A.in1) quiet (n + 1) b nb us.toArray) S.zip S.its ho S.txt ⟨S.tup, isT⟩ l1 l2 fun v1 v2 h1 tk w1 w2 z1 o1 s1 s2 new _ k1 => ?_
    obtain ⟨c1, tc, hc1, rfl⟩ := w1
    have same1 : c1 = c := Option.some.inj ((show x.cps.toList[i]? = some c1 by simpa using hc1).symm.trans ec)
    have same2 : v2 = u := Option.some.inj ((show us[i]? = some v2 by simpa using w2).symm.trans eu)
    subst same1 same2
    refine ⟨_, rfl, wpAny_letOwnedTupleGo_zip (s := { now with heap := h1, toks := tk }) z1 fun h2 z2 sb => ?_⟩
    have pair : h2.get? now.heap.objs.size = some { cls := .type "tuple", data := .seq #[.str ⟨#[c1]⟩ tc, v2] } := (sb.2 now.heap.objs.size (Nat.ne_of_gt isZ)).trans new
    have ok : ObjOk X.prog X.w (upd H now.heap.objs.size (.tup [.str ⟨#[c1]⟩, y])) h2 now.heap.objs.size (.tup [.str ⟨#[c1]⟩, y]) :=
      ⟨size1000 (by decide : 2 ≤ 1000), [.str ⟨#[c1]⟩ tc, v2], .cons ⟨tc, rfl⟩ (.cons ru .nil), _, pair, rfl, _, rfl⟩
    have k2 : ∀ c o, c ∉ [n + 4, n + 2, n + 3, n, n + 1] → now.heap.get? c = some o → h2.get? c = some o := fun c o hc e => by
      obtain ⟨m4, _, m3, m0, m1⟩ := off5 hc
      exact (sb.2 c m4).trans (k1 c o m4 m3 m0 m1 e)
    have J := I.turnedNew (t' := tk) k2 fp (Nat.le_refl _) ok
    have old : ∀ {c o}, now.heap.get? c = some o → c ≠ now.heap.objs.size := fun e => Nat.ne_of_lt (Heap.lt_size e)
    obtain ⟨ot, et, rt⟩ := s1
    have ne : ∀ {j k : Nat}, j ≠ k → n + j ≠ n + k := fun h e => h (Nat.add_left_cancel e)
    refine ⟨.ref now.heap.objs.size, _, J, rfl, ⟨_, c1, y, rfl, I.hok.fresh (Nat.le_refl _), rfl, ec, fun l hl => by rw [I.tuple_inj hl tq]; exact ey⟩,
      ⟨z2, (sb.2 (n + 2) (ne (by decide))).trans (k1 (n + 2) _ (ne (by decide)) (ne (by decide)) (ne (k := 0) (by decide)) (ne (by decide)) S.its), ⟨_, _, (sb.2 (n + 3) (ne (by decide))).trans o1⟩, ⟨ot, (sb.2 n (ne (j := 0) (by decide))).trans et, rt⟩, s2.1.at fun o e => (sb.2 (n + 1) (ne (by decide))).trans e⟩, ?_⟩
    have gone : ∀ c ∈ [n + 4, n + 2, n + 3, n, n + 1], c ≠ now.heap.objs.size := by
      obtain ⟨ot0, et0, _⟩ := S.txt
      obtain ⟨ou0, eu0, _⟩ := S.tup
      exact all5 (old S.zip) (old S.its) (old ho) (old et0) (old eu0)
    intro c hc
    rw [upd_ne (gone c hc)]
    exact (fp c hc).1
  done := by
    intro X eP ew eK calm i pins now σ H E I fp S hg
    subst eP ew eK
    obtain ⟨ys, tq, b1, b2, over⟩ := hg
    obtain ⟨us, vals, isT, _⟩ := I.tuple tq
    obtain ⟨p, q, ho⟩ := S.out
    have quiet := I.ok.hd calm
    have ln := vals.length
    have lx : x.cps.toList.length = x.cps.size := Array.length_toList
    have lu : us.toArray.size = us.length := List.size_toArray
    have nb : b ≠ n + 1 := apart D
    refine wpAny_pyNext_zipD2_end D.sep (Draws.text (A := X.A.in1) quiet n x t) (Draws.tuple (A := X.A.in1) quiet (n + 1) b nb us.toArray) S.zip S.its ho S.txt ⟨S.tup, isT⟩ (by omega) (by omega) (by omega) fun h1 tk k1 => ⟨rfl, I.turnedL (t' := tk) (fun c o hc e => ?_) fp⟩
    obtain ⟨m4, _, m3, m0, m1⟩ := off5 hc
    exact k1 c o m4 m3 m0 m1 e
  self := fun _ _ _ _ _ S q => wpAny_pyIter_zip S.zip q
def zipSK (K : PySem.W.Frag) (vs : List V) (H1 : Hp) (R : It → Hp → Prop) : Prop := ∃ z b ys, vs = [.str z, .ref b] ∧ SqT K H1 b ys ∧ R (ItzS K z b) H1
def iZipS (K : PySem.W.Frag) (ta : TA) : TI := fun σ H R => ta σ H fun vs H1 => zipSK K vs H1 R
theorem pi_zipS {X : Cx} {l r : Expr} {ta : TA} {p pos tpos : Pos} {elts : List Expr} {kk : Nat} (hg : Gl X "zip") (hm : X.mg "zip" = none) (ha : PA X [l, r] ta) (plain : starEach [l, r] X.env = (false, eval l X.env) :: starEach [r] X.env := by rfl)
    (flat : (backTo pos (starEach [r] X.env)).any (·.1) = false := by rfl) : PI X (.Tuple elts kk tpos) (.Call (.Name "zip" p) [l, r] [] pos) (iZipS X.K ta) := by
  refine ⟨fun pins now σ H R I q => Call_ (ld_blt I hg hm PyProof.Rows.boot_zip (PyProof.Rows.callWith_type1 (thn (ha.run pos pins now σ H _ I q) fun us s1 got => ?_) plain flat))⟩
  obtain ⟨vs, H1, I1, rv, z, b, ys, rfl, tq, q⟩ := got
  match us, rv with
  | [_, _], .cons ⟨tk, e1⟩ (.cons e2 .nil) =>
    subst e1
    cases (show _ = Value.ref b from e2)
    obtain ⟨ws, _, isT, _⟩ := I1.tuple tq
    obtain ⟨ob, eb, _⟩ := id isT
    have D : Five s1.heap.objs.size b := ⟨Heap.lt_size eb⟩
    refine EWZ.zip_call (ys := ws.toArray) isT fun h' L => wpAny_pyIter_zip L.zip ?_
    have free : ∀ k : Nat, FpOk X pins H1 (s1.heap.objs.size + k) := fun k => I1.fpOk (Nat.le_add_right _ _) (I1.hok.fresh (Nat.le_add_right _ _))
    exact ⟨s1.heap.objs.size + 4, [s1.heap.objs.size + 4, s1.heap.objs.size + 2, s1.heap.objs.size + 3, s1.heap.objs.size, s1.heap.objs.size + 1], _, _, H1, rfl, I1.kept (t' := s1.toks) L.old, zip_turns (x := z) (t := tk) D, ⟨L.zip, L.its, ⟨_, _, L.out⟩, L.txt, L.tup⟩,
      all5 (free 4) (free 2) (free 3) (free 0) (free 1), q⟩
end EW
set_option Elab.async false
set_option linter.all false
set_option maxRecDepth 100000
set_option maxHeartbeats 16000000
namespace EW
open L2 PyProof.Rows PySem.Spec PySem
section
variable {σ : L2.St} {H : Hp} {Q : VK} {D : Ends}
theorem r_iZ {K : PySem.W.Frag} {ta : TA} {R : It → Hp → Prop} (h : ta σ H fun vs H1 => zipSK K vs H1 R) : iZipS K ta σ H R := h
theorem r_zipSK {K : PySem.W.Frag} {z : Str} {b : Addr} {ys : List V} {R : It → Hp → Prop} (h : H b = some (.tup ys)) (q : R (ItzS K z b) H) : zipSK K [.str z, .ref b] H R := ⟨z, b, ys, rfl, .inl (.inl h), q⟩
theorem for_zipS {K : PySem.W.Frag} {z : Str} {b : Addr} {ys : List V} {g : TG} {tb : TS} (hl : z.cps.toList.length = ys.length) (Pv : Nat → L2.St → Hp → Prop) (h0 : Pv 0 σ H) (hq : ∀ i σ H, Pv i σ H → H b = some (.tup ys))
    (hs : ∀ (i : Nat) (c : Nat) (y : V) (T : Addr) (σ : L2.St) (H : Hp), z.cps.toList[i]? = some c → ys[i]? = some y → Pv i σ H → H T = none → g (.ref T) σ (upd H T (.tup [.str ⟨#[c]⟩, y])) fun σ2 H2 => tb { D with nx := Pv (i + 1), ct := Pv (i + 1), bk := D.nx } σ2 H2) (hd : ∀ σ H, Pv ys.length σ H → D.nx σ H) :
    forK (ItzS K z b) g tb D σ H := by
  refine ⟨fun i m σ H => m = ys.length - i ∧ i ≤ ys.length ∧ Pv i σ H, ⟨ys.length, rfl, Nat.zero_le _, h0⟩, ?_⟩
  rintro i m σ H ⟨rfl, hi, p⟩
  have qy : SqT K H b ys := .inl (.inl (hq i σ H p))
  by_cases hlt : i < ys.length
  · have hlt2 : i < z.cps.toList.length := by omega
    refine .inr ⟨⟨_, ys, _, List.getElem?_eq_getElem hlt2, qy, List.getElem?_eq_getElem hlt⟩, Pv (i + 1), fun σ' H' p' => ⟨ys.length - (i + 1), by omega, rfl, hlt, p'⟩, fun v H' y => ?_⟩
    obtain ⟨T, c, y', rfl, hT, rfl, f1, f2⟩ := y
    exact hs i c y' T σ H f1 (f2 ys qy) p hT
  · have e : i = ys.length := by omega
    subst e
    exact .inl ⟨⟨ys, qy, by omega, Nat.le_refl _, Or.inr (Nat.le_refl _)⟩, hd σ H p⟩
def rLenS (K : PySem.W.Frag) : List V → Hp → VK → Prop := fun xs H Q => ∃ x n, xs = [x] ∧ LenV K x H n ∧ Q (.int n) H
theorem call_lenS {X : Cx} : CallR X (.builtin "len") (rLenS X.K) := L2.call_len
theorem r_lenS {K : PySem.W.Frag} {z : Str} (h : z.length ≤ 1000) (q : Q (.int z.length) H) : rLenS K [.str z] H Q := ⟨_, _, rfl, ⟨size1000 h, rfl⟩, q⟩
theorem r_slT {K : PySem.W.Frag} {a : Addr} {v : V} {xs : List V} (h : H a = some (.tup (v :: xs))) (q : ∀ p H2, Same H H2 → H2 p = some (.tup xs) → Q (.ref p) H2) : rSlA K (.ref a) (some 1) none H Q := by
  have e1 : HT.sIx (v :: xs).length 0 (some 1) = 1 := by
    rw [show (1 : Int) = ((1 : Nat) : Int) from rfl, HT.sIx_nat]
    simp
  refine ⟨a, _, rfl, .inl (.inl h), fun ⟨z1, _⟩ => ?_, fun _ p hp => ?_⟩
  · rw [e1] at z1; cases z1
  · refine q _ _ (same_upd hp) ?_
    rw [upd_same]
    have : cutV (v :: xs) (some 1) none = xs := by
      unfold cutV
      rw [e1, HT.sIx_none]
      simp
    rw [this]
end
end EW
set_option Elab.async false
set_option linter.all false
set_option maxRecDepth 100000
set_option maxHeartbeats 16000000
set_option pp.maxSteps 250
namespace EW
open L2 PyProof.Rows PySem.Spec PySem
def letter (s : Sh) : Key := .inr ⟨#[shC s]⟩
def lohi (ps : Pl) (locks many len : Int) : Sh → Int × Int
  | .r => (0, 3) | .v => (-999, 999) | .n => (0, len) | .x => (0, (ps.length : Int) - 1) | .s => (0, (ps.length : Int) - 1) | .l => (0, locks - 1) | .k => (0, many - 1)
/-- the bounds of an instruction's numbers, at bd -/
def Bnds (ps : Pl) (locks many len : Int) (bd : Addr) (H : Hp) : Prop := ∃ kvs : List (Key × V), H bd = some (.dK kvs) ∧ ∀ s : Sh, ∃ p, valV kvs (letter s) = some (.ref p) ∧ H p = some (.tup [.int (lohi ps locks many len s).1, .int (lohi ps locks many len s).2])
theorem Bnds.same {ps : Pl} {locks many len : Int} {bd : Addr} {H H' : Hp} (b : Bnds ps locks many len bd H) (s : Same H H') : Bnds ps locks many len bd H' := by
  obtain ⟨kvs, h, g⟩ := b
  exact ⟨kvs, s _ _ h, fun x => by obtain ⟨p, h1, h2⟩ := g x; exact ⟨p, h1, s _ _ h2⟩⟩
theorem thread_ok {n : Int} {i a : PyData} : okThread n (.tuple [i, a]) = (isInt 0 (n - 1) i && isInt (-999) 999 a) := rfl
theorem shOf_some : ∀ {d : PyData} {sh : List Sh}, shOf d = some sh → ∃ wd r, d = .tuple (.str wd :: r) ∧ shapeOf wd = some sh
  | .tuple (.str w :: r), sh, h => ⟨w, r, rfl, h⟩
  | .tuple [], _, h => by cases h
  | .tuple (.none :: _), _, h => by cases h
  | .tuple (.bool _ :: _), _, h => by cases h
  | .tuple (.int _ :: _), _, h => by cases h
  | .tuple (.list _ :: _), _, h => by cases h
  | .tuple (.tuple _ :: _), _, h => by cases h
  | .tuple (.dict _ :: _), _, h => by cases h
  | .none, _, h => by cases h
  | .bool _, _, h => by cases h
  | .int _, _, h => by cases h
  | .str _, _, h => by cases h
  | .list _, _, h => by cases h
  | .dict _, _, h => by cases h
theorem okI_none : ∀ {ps : Pl} {locks many len : Int} {d : PyData}, shOf d = none → okI ps locks many len d = false
  | _, _, _, _, .tuple (.str w :: r), h => by
    have h' : shapeOf w = none := h
    simp only [okI, h']
  | _, _, _, _, .tuple [], _ => rfl
  | _, _, _, _, .tuple (.none :: _), _ => rfl
  | _, _, _, _, .tuple (.bool _ :: _), _ => rfl
  | _, _, _, _, .tuple (.int _ :: _), _ => rfl
  | _, _, _, _, .tuple (.list _ :: _), _ => rfl
  | _, _, _, _, .tuple (.tuple _ :: _), _ => rfl
  | _, _, _, _, .tuple (.dict _ :: _), _ => rfl
  | _, _, _, _, .none, _ => rfl
  | _, _, _, _, .bool _, _ => rfl
  | _, _, _, _, .int _, _ => rfl
  | _, _, _, _, .str _, _ => rfl
  | _, _, _, _, .list _, _ => rfl
  | _, _, _, _, .dict _, _ => rfl
theorem lookup_mem {z : Str} {s : List Sh} : ∀ {l : List (Str × List Sh)}, l.lookup z = some s → (z, s) ∈ l
  | [], h => by cases h
  | (k, t) :: r, h => by
    by_cases q : z = k
    · subst q
      have e : t = s := by simpa [List.lookup] using h
      subst e
      exact List.mem_cons_self ..
    · have q2 : (z == k) = false := by simpa using q
      have h' : r.lookup z = some s := by simpa [List.lookup, q2] using h
      exact List.mem_cons_of_mem _ (lookup_mem h')
theorem tab_small : ∀ p ∈ ltab ++ vtab, p.1.length ≤ 10 ∧ p.2.length ≤ 4 := by decide
theorem shape_small {z : Str} {s : List Sh} (h : shapeOf z = some s) : z.length ≤ 10 ∧ s.length ≤ 4 := by
  rw [shapeOf_tab] at h
  exact tab_small _ (lookup_mem h)
theorem shStr_len (l : List Sh) : (shStr l).length = l.length := by simp [shStr, Str.length]
theorem shStr_cps (l : List Sh) : (shStr l).cps.toList = l.map shC := by simp [shStr]
theorem shC_inj {a b : Sh} (h : shC a = shC b) : a = b := by cases a <;> cases b <;> first | rfl | exact absurd h (by decide)
theorem okAll_true {ps : Pl} {locks many len : Int} : ∀ {sh : List Sh} {r : List PyData}, sh.length = r.length → (∀ (j : Nat) (s : Sh) (d : PyData), sh[j]? = some s → r[j]? = some d → okNum ps locks many len s d = true) → okAll ps locks many len sh r = true
  | [], [], _, _ => rfl
  | [], _ :: _, h, _ => absurd h (by simp)
  | _ :: _, [], h, _ => absurd h (by simp)
  | s :: ss, d :: ds, h, g => by
    simp only [okAll, Bool.and_eq_true]
    exact ⟨g 0 s d rfl rfl, okAll_true (by simpa using h) fun j s' d' h1 h2 => g (j + 1) s' d' (by simpa using h1) (by simpa using h2)⟩
theorem okAll_bad {ps : Pl} {locks many len : Int} : ∀ {sh : List Sh} {r : List PyData} {j : Nat} {s : Sh} {d : PyData}, sh[j]? = some s → r[j]? = some d → okNum ps locks many len s d = false → okAll ps locks many len sh r = false
  | [], _, _, _, _, h, _, _ => absurd h (by simp)
  | _ :: _, [], _, _, _, _, h, _ => absurd h (by simp)
  | s :: ss, d :: ds, 0, _, _, h1, h2, e => by
    cases h1; cases h2
    simp only [okAll, e, Bool.false_and]
  | s :: ss, d :: ds, j + 1, s', d', h1, h2, e => by
    have h := okAll_bad (sh := ss) (r := ds) (j := j) (by simpa using h1) (by simpa using h2) e
    simp only [okAll, h, Bool.and_false]
theorem okAll_len {ps : Pl} {locks many len : Int} : ∀ {sh : List Sh} {r : List PyData}, sh.length ≠ r.length → okAll ps locks many len sh r = false
  | [], [], h => absurd rfl h
  | [], _ :: _, _ => rfl
  | _ :: _, [], _ => rfl
  | s :: ss, d :: ds, h => by
    have q := okAll_len (ps := ps) (locks := locks) (many := many) (len := len) (sh := ss) (r := ds) (by simpa using h)
    simp only [okAll, q, Bool.and_false]
theorem okI_eq {ps : Pl} {locks many len : Int} {w : Str} {sh : List Sh} {ds : List PyData} (h : shapeOf w = some sh) : okI ps locks many len (.tuple (.str w :: ds)) = okAll ps locks many len sh ds := by
  simp only [okI, h]
theorem okNum_no {ps : Pl} {locks many len : Int} {s : Sh} {d : PyData} (h : isInt (lohi ps locks many len s).1 (lohi ps locks many len s).2 d = false) : okNum ps locks many len s d = false := by
  cases s <;> first | exact h | (show (isInt _ _ d && _) = false; rw [show isInt 0 ((ps.length : Int) - 1) d = false from h]; rfl)
theorem okNum_yes {ps : Pl} {locks many len : Int} {s : Sh} {d : PyData} (h : isInt (lohi ps locks many len s).1 (lohi ps locks many len s).2 d = true) (n : s ≠ .s) : okNum ps locks many len s d = true := by
  cases s <;> first | exact h | exact absurd rfl n
theorem okNum_s {ps : Pl} {locks many len : Int} {j : Nat} {p : Int × Bool} (h : ps[j]? = some p) (hj : j < ps.length) : okNum ps locks many len .s (.int (j : Int)) = !p.2 := by
  show (decide (0 ≤ (j : Int) ∧ (j : Int) ≤ (ps.length : Int) - 1) && !((ps[(j : Int).toNat]?.map (·.2)).getD false)) = !p.2
  rw [decide_eq_true (by omega), Int.toNat_natCast, h]; rfl
theorem isInt_ex {lo hi : Int} {d : PyData} (h : isInt lo hi d = true) : ∃ i, d = .int i ∧ lo ≤ i ∧ i ≤ hi := by
  cases d <;> first | exact ⟨_, rfl, of_decide_eq_true h⟩ | exact absurd h (by simp [isInt])
theorem small_text : ∀ k : Nat, k ≤ 4 → (Str.ofString (toString (k : Int))).length ≤ 30 ∧ (k : Int).natAbs.log2 < 1920
  | 0, _ => by decide
  | 1, _ => by decide
  | 2, _ => by decide
  | 3, _ => by decide
  | 4, _ => by decide
  | _ + 5, h => by omega
def partK (x : V) (H1 : Hp) (R : Option Int → Hp → Prop) : Prop := ∃ i, x = .int i ∧ R (some i) H1
section
variable {σ : L2.St} {H : Hp} {Q : VK} {D : Ends}
theorem r_lenSh {K : PySem.W.Frag} {sh : List Sh} (h : sh.length ≤ 4) (q : Q (.int sh.length) H) : rLenS K [.str (shStr sh)] H Q := r_lenS (by rw [shStr_len]; omega) (by rw [shStr_len]; exact q)
def fmtK (x : V) (H1 : Hp) (acc : Str) (ts : List TE) (σ : L2.St) (R : Str → Hp → Prop) : Prop := (∃ y : Str, x = .str y ∧ y.length ≤ sizeLine ∧ ∃ y', V.str y = .str y' ∧ (acc ++ y').length ≤ sizeLine ∧ tJs ts (acc ++ y') σ H1 R) ∨ ∃ i : Int, x = .int i ∧ i.natAbs.log2 < 1920 ∧ ∃ y', V.str (toString i) = .str y' ∧ (acc ++ y').length ≤ sizeLine ∧ tJs ts (acc ++ y') σ H1 R
theorem r_jsF {te : TE} {ts : List TE} {acc : Str} {R : Str → Hp → Prop} (h : te σ H fun x H1 => fmtK x H1 acc ts σ R) : tJs (tFmt te :: ts) acc σ H R := h
theorem len_app (a b : Str) : (a ++ b).length = a.length + b.length := by
  show (a.cps ++ b.cps).size = a.cps.size + b.cps.size
  exact Array.size_append
theorem r_fmtS {y acc : Str} {n : Nat} {ts : List TE} {R : Str → Hp → Prop} (ha : acc.length ≤ n) (hn : n ≤ 900) (hy : y.length ≤ 100) (q : ∀ acc', acc'.length ≤ n + 100 → tJs ts acc' σ H R) : fmtK (.str y) H acc ts σ R :=
  .inl ⟨y, rfl, size1000 (by omega), y, rfl, Nat.le_of_lt (size_lt (by rw [len_app]; omega)), q _ (by rw [len_app]; omega)⟩
theorem r_fmtN {k : Nat} {acc : Str} {n : Nat} {ts : List TE} {R : Str → Hp → Prop} (ha : acc.length ≤ n) (hn : n ≤ 900) (hk : k ≤ 4) (q : ∀ acc', acc'.length ≤ n + 100 → tJs ts acc' σ H R) : fmtK (.int (k : Int)) H acc ts σ R := by
  obtain ⟨h1, h2⟩ := small_text k hk
  have e : (acc ++ Str.ofString (toString (k : Int))).length ≤ n + 100 := by rw [len_app]; omega
  exact .inr ⟨_, rfl, h2, Str.ofString (toString (k : Int)), rfl, Nat.le_of_lt (size_lt (by omega)), q _ e⟩
theorem r_jsC {y acc : Str} {n : Nat} {ts : List TE} {R : Str → Hp → Prop} (ha : acc.length ≤ n) (hn : n ≤ 900) (hy : y.length ≤ 100) (q : ∀ acc', acc'.length ≤ n + 100 → tJs ts acc' σ H R) : tJs (tC (.str y) :: ts) acc σ H R :=
  ⟨y, rfl, Nat.le_of_lt (size_lt (by rw [len_app]; omega)), q _ (by rw [len_app]; omega)⟩
theorem empty_len : Str.empty.length ≤ 0 := by decide
theorem r_sl {r : V → Option Int → Option Int → Hp → VK → Prop} {te : TE} {tl th : TO} (h : te σ H fun x H1 => tl σ H1 fun l H2 => th σ H2 fun u H3 => r x l u H3 Q) : tSl r te tl th σ H Q := h
theorem r_noPart {R : Option Int → Hp → Prop} (h : R none H) : tNoPart σ H R := h
theorem r_part {te : TE} {R : Option Int → Hp → Prop} (h : te σ H fun x H1 => partK x H1 R) : tPart te σ H R := h
theorem r_partK {i : Int} {R : Option Int → Hp → Prop} (h : R (some i) H) : partK (.int i) H R := ⟨i, rfl, h⟩
theorem r_jsN {acc : Str} {R : Str → Hp → Prop} (q : R acc H) : tJs [] acc σ H R := q
def dgetK (x y : V) (H2 : Hp) (Q : VK) : Prop := ∃ a v, x = .ref a ∧ DGet H2 a y (some v) ∧ Q v H2
theorem r_dget {td ty : TE} (h : td σ H fun x H1 => ty σ H1 fun y H2 => dgetK x y H2 Q) : tDGet td ty σ H Q := h
theorem r_bnd {ps : Pl} {locks many len : Int} {bd : Addr} {s : Sh} (b : Bnds ps locks many len bd H) (q : ∀ p, H p = some (.tup [.int (lohi ps locks many len s).1, .int (lohi ps locks many len s).2]) → Q (.ref p) H) : dgetK (.ref bd) (.str ⟨#[shC s]⟩) H Q := by
  obtain ⟨kvs, h, g⟩ := b
  obtain ⟨p, h1, h2⟩ := g s
  exact ⟨bd, .ref p, rfl, by rw [← h1]; exact DGet.k (k := letter s) h, q p h2⟩
theorem r_eqS {a b : Str} (h : Q (.bl (decide (a = b))) H) : rEq (.str a) (.str b) H Q := ⟨rfl, by
  have e : decide (V.str a = V.str b) = decide (a = b) := by simp
  rw [e]; exact h⟩
end
set_option hygiene false
local macro_rules | `(tactic| walk_at "km") => `(tactic| (first
  | exact KeepM.refl
  | (refine KeepM.trans ?_ (KeepM.same (by assumption)); walk_at "km")
  | (refine KeepM.trans ?_ (Keep.toML (by assumption) (by assumption)); walk_at "km")
  | (refine KeepM.trans ?_ (Keep.toMD (by assumption) (by assumption)); walk_at "km")
  | (refine KeepM.trans ?_ (Keep.toM (by assumption) (by assumption) (by first | trivial | rfl)); walk_at "km")))
local macro_rules | `(tactic| walk_at "kp") => `(tactic| (first
  | exact Keep.refl
  | (refine Keep.trans ?_ (Keep.same (by assumption)); walk_at "kp")
  | (refine Keep.trans ?_ (by assumption); walk_at "kp")
  | (refine Keep.cell2 (by assumption) (by assumption) ?_; walk_at "kp")))
local macro_rules | `(tactic| walk_at "sm") => `(tactic| (first
  | exact Same.refl _
  | (refine Same.trans ?_ (by assumption); walk_at "sm")))
local macro_rules | `(tactic| walk_at "hat") => `(tactic| (first
  | assumption
  | (refine same_get (by assumption) ?_; walk_at "hat")
  | (refine Keep.get (by assumption) (by assumption) ?_; walk_at "hat")))
local macro_rules | `(tactic| walk_at "isd") => `(tactic| (with_reducible first
  | exact is_int | exact is_str | exact is_bl | exact is_non | assumption
  | (refine Is.keep ?_ (by assumption); walk_at "km")))
local macro_rules | `(tactic| walk_at "isall") => `(tactic| (repeat (with_reducible first | exact IsAll.nil | (apply IsAll.cons; (walk_at "isd")))))
local macro_rules | `(tactic| walk_at "pos") => `(tactic| (first | decide | assumption | omega | (simp only [decide_eq_false_iff_not] at *; omega)))
local macro_rules | `(tactic| walk_at "rd") => `(tactic| (with_reducible first
  | refine r_seq ?_ | refine r_asg ?_ | refine r_name ?_ | refine r_C ?_ | refine r_op ?_ | refine r_un ?_ | refine r_rU ?_ | refine r_I0 ?_ | refine r_eqI ?_ | refine r_neI ?_ | refine r_test ?_ | refine r_tB ?_ | refine r_exk ?_ | refine r_and ?_ | refine r_or ?_ | refine r_not ?_ | refine r_ifS ?_ | refine r_ret ?_ | refine r_next ?_ | refine r_drop ?_ | refine r_nil ?_ | refine r_cons ?_ | refine r_call ?_ | refine r_CB ?_ | refine r_tup ?_ | refine r_lst ?_ | refine r_sub ?_ | refine r_gCons ?_ | refine r_pc ?_ | refine r_pn ?_ | (refine r_disp ?_; intro p H2 hn hs hl) | refine r_eqS ?_ | refine r_sl ?_ | refine r_noPart ?_ | refine r_part ?_ | refine r_partK ?_ | refine r_jsF ?_ | refine r_jsN ?_ | refine r_dget ?_ | refine r_iZ ?_ | refine r_gNil ?_ | refine r_isTy ?_ | refine r_notTy ?_ | refine r_andV ?_ | refine r_chain ?_ | refine r_andK (fun h => ?_) (fun h => ?_) | refine r_chK (fun h => ?_) (fun h => ?_) | refine r_andKb (fun h => ?_) (fun h => ?_) | refine r_for ?_ | refine r_lc ?_ | refine r_iL ?_ | refine r_iT ?_ | refine r_iR ?_
  | (apply r_var; (focus ((with_unfolding_all rfl); done)))
  | (refine r_mod ?_ ?_; (focus ((walk_at "pos"); done)); intro m hm0 hm1)
  | (refine r_I ?_ ?_; (focus ((first | decide | (unfold CMul; omega) | (unfold CDiv; omega) | (unfold CPow; omega) | omega); done)))
  | (apply r_wipe; (focus ((with_unfolding_all rfl); done))) | refine r_yes ?_ | refine iteT ?_ | refine iteF ?_ | refine r_ifeq (fun h => ?_) (fun h => ?_) | refine r_ifd (fun h => ?_) (fun h => ?_) | refine r_ifnd (fun h => ?_) (fun h => ?_) | refine ite2 (fun h => ?_) (fun h => ?_)))
local macro_rules | `(tactic| walk_at "al") => `(tactic| (first
  | ((with_reducible apply r_newT (M := fun _ => True)); (focus (walk_at "isall"; done)); (with_unfolding_all exact Nat.le_of_ble_eq_true rfl); intro v H2 hs hi; (try (have hd2 := Drs.same (by assumption) hs)))
  | ((with_reducible apply r_newL); (with_unfolding_all exact Nat.le_of_ble_eq_true rfl); intro p H2 hn hs hl; (try (have hd2 := Drs.same (by assumption) hs)); (try (have hne := ne_dr (by assumption) hn)); (try (have hnu := ne_nu (by assumption) hn)))
  | ((with_reducible apply r_draw); (focus (assumption)); (intro n H2 hn hk hd))
  | ((with_reducible apply r_bm))
  | ((with_reducible apply r_app); (focus (walk_at "hat")); (focus ((refine size_lt ?_); (first | omega | (simp only [List.length_map]; omega) | (simp; omega)))); (intro H2 hold hk hl); (try (have hd2 := Drs.cellK (by assumption) hk (by assumption) (by assumption))))
  | ((with_reducible apply And.intro); (focus ((with_reducible apply r_tyL); (walk_at "hat"))))
  | ((with_reducible apply r_rng); (focus (first | assumption | omega)); (focus omega))
  | ((with_reducible apply r_local); (focus assumption); (focus (first | assumption | omega)); (intro d v H2 hi hok hk hd))
  | ((with_reducible apply r_visible); (focus assumption); (focus (walk_at "isd")); (focus assumption); (focus (first | assumption | omega)); (intro d v H2 hi hok hk hd))
  | ((with_reducible apply r_tupOf (M := fun _ => True)); (focus (walk_at "hat")); (focus (first | assumption | (refine IsAll.keep ?_ (by assumption); walk_at "km"))); (intro v H2 hs hi); (try (have hd2 := Drs.same (by assumption) hs)))
  | ((with_reducible apply r_int); (focus (walk_at "isd")))
  | ((with_reducible apply r_value); (focus (walk_at "isd")))
  | ((with_reducible apply r_row); (focus (walk_at "isd")))
  | ((with_reducible apply r_iTK); (focus (walk_at "hat")))
  | ((with_reducible apply r_gTup); (focus (walk_at "hat")); (focus ((with_unfolding_all rfl); done)))
  | ((with_reducible apply r_ix0T); (focus (walk_at "hat")))
  | ((with_reducible apply r_ixT); (focus (walk_at "hat")); (focus ((with_unfolding_all rfl); done)))
  | (with_reducible refine r_typeS ?_)
  | ((with_reducible apply r_type); (focus (walk_at "isd")))
  | (with_reducible refine ⟨_, _, rfl, rfl, (by assumption), ?_⟩)
  | ((with_reducible apply r_lenD); (focus (walk_at "isd")))
  | ((with_reducible apply r_lenT); (focus (walk_at "hat")))
  | ((with_reducible apply r_zipSK); (focus (walk_at "hat")))
  | ((with_reducible apply r_slT); (focus (walk_at "hat")); (intro p H2 hs hl))
  | ((with_reducible apply r_lenSh); (focus assumption))
  | ((with_reducible apply r_jsC); (focus (first | assumption | exact empty_len)); (focus decide); (focus decide); (intro acc' hacc))
  | ((with_reducible apply r_fmtS); (focus (first | assumption | exact empty_len)); (focus decide); (focus omega); (intro acc' hacc))
  | ((with_reducible apply r_fmtN); (focus (first | assumption | exact empty_len)); (focus decide); (focus assumption); (intro acc' hacc))
  | ((with_reducible apply r_bnd); (focus assumption); (intro p hp))
  | ((with_reducible apply r_cat (M := fun a => a = dr)); (focus (walk_at "isd")); (focus (walk_at "isd")); (focus (first | decide | (simp; done) | (simp; omega) | omega)); (intro v H2 hs hi); (try (have hd2 := Drs.same (by assumption) hs)))
  | ((with_reducible apply r_slTo (M := fun a => a = dr)); (focus (walk_at "isd")); (focus (first | decide | assumption | omega)); (intro v H2 hs hi); (try (have hd2 := Drs.same (by assumption) hs)))
  | ((with_reducible apply r_slFrom (M := fun a => a = dr)); (focus (walk_at "isd")); (focus (first | decide | assumption | omega)); (intro v H2 hs hi); (try (have hd2 := Drs.same (by assumption) hs)))
  | ((with_reducible apply r_rep (M := fun a => a = dr)); (focus (walk_at "isd")); (focus decide); (focus decide); (focus (first | (intro hnil; cases hnil) | assumption | simp)); (focus (first | decide | (simp; done) | (simp; omega))); (intro v H2 hs hi); (try (have hd2 := Drs.same (by assumption) hs)))
  | ((with_reducible apply r_listOf); (focus assumption); (focus (walk_at "isd")); (intro v H2 hs hi); (try (have hd2 := Drs.same (by assumption) hs)))
  | ((with_reducible apply r_ixStr (M := fun _ => True)); (focus (walk_at "isd")))
  | ((with_reducible apply r_cat (M := fun a => a = dr)); (focus (walk_at "isd")); (focus (walk_at "isd")); (focus (first | decide | (simp; done) | (simp; omega) | omega)); (intro v H2 hs hi); (try (have hd2 := Drs.same (by assumption) hs)))
  | ((with_reducible apply r_slTo (M := fun a => a = dr)); (focus (walk_at "isd")); (focus (first | decide | assumption | omega)); (intro v H2 hs hi); (try (have hd2 := Drs.same (by assumption) hs)))
  | ((with_reducible apply r_slFrom (M := fun a => a = dr)); (focus (walk_at "isd")); (focus (first | decide | assumption | omega)); (intro v H2 hs hi); (try (have hd2 := Drs.same (by assumption) hs)))
  | ((with_reducible apply r_rep (M := fun a => a = dr)); (focus (walk_at "isd")); (focus decide); (focus decide); (focus (first | (intro hnil; cases hnil) | assumption | simp)); (focus (first | decide | (simp; done) | (simp; omega))); (intro v H2 hs hi); (try (have hd2 := Drs.same (by assumption) hs)))
  | ((with_reducible apply r_listOf); (focus assumption); (focus (walk_at "isd")); (intro v H2 hs hi); (try (have hd2 := Drs.same (by assumption) hs)))
  | ((with_reducible apply r_ixStr (M := fun _ => True)); (focus (walk_at "isd")))
  | ((with_reducible apply r_cat (M := fun a => a = dr)); (focus (walk_at "isd")); (focus (walk_at "isd")); (focus (first | decide | (simp; done) | (simp; omega) | omega)); (intro v H2 hs hi); (try (have hd2 := Drs.same (by assumption) hs)))
  | ((with_reducible apply r_slTo (M := fun a => a = dr)); (focus (walk_at "isd")); (focus (first | decide | assumption | omega)); (intro v H2 hs hi); (try (have hd2 := Drs.same (by assumption) hs)))
  | ((with_reducible apply r_slFrom (M := fun a => a = dr)); (focus (walk_at "isd")); (focus (first | decide | assumption | omega)); (intro v H2 hs hi); (try (have hd2 := Drs.same (by assumption) hs)))
  | ((with_reducible apply r_rep (M := fun a => a = dr)); (focus (walk_at "isd")); (focus decide); (focus decide); (focus (first | (intro hnil; cases hnil) | assumption | simp)); (focus (first | decide | (simp; done) | (simp; omega))); (intro v H2 hs hi); (try (have hd2 := Drs.same (by assumption) hs)))
  | ((with_reducible apply r_listOf); (focus assumption); (focus (walk_at "isd")); (intro v H2 hs hi); (try (have hd2 := Drs.same (by assumption) hs)))
  | ((with_reducible apply r_ixStr (M := fun _ => True)); (focus (walk_at "isd")))
  | ((with_reducible apply r_cat (M := fun a => a = dr)); (focus (walk_at "isd")); (focus (walk_at "isd")); (focus (first | decide | (simp; done) | (simp; omega) | omega)); (intro v H2 hs hi); (try (have hd2 := Drs.same (by assumption) hs)))
  | ((with_reducible apply r_slTo (M := fun a => a = dr)); (focus (walk_at "isd")); (focus (first | decide | assumption | omega)); (intro v H2 hs hi); (try (have hd2 := Drs.same (by assumption) hs)))
  | ((with_reducible apply r_slFrom (M := fun a => a = dr)); (focus (walk_at "isd")); (focus (first | decide | assumption | omega)); (intro v H2 hs hi); (try (have hd2 := Drs.same (by assumption) hs)))
  | ((with_reducible apply r_rep (M := fun a => a = dr)); (focus (walk_at "isd")); (focus decide); (focus decide); (focus (first | (intro hnil; cases hnil) | assumption | simp)); (focus (first | decide | (simp; done) | (simp; omega))); (intro v H2 hs hi); (try (have hd2 := Drs.same (by assumption) hs)))
  | ((with_reducible apply r_listOf); (focus assumption); (focus (walk_at "isd")); (intro v H2 hs hi); (try (have hd2 := Drs.same (by assumption) hs)))
  | ((with_reducible apply r_ixStr (M := fun _ => True)); (focus (walk_at "isd")))
  | ((with_reducible apply r_cat (M := fun a => a = dr)); (focus (walk_at "isd")); (focus (walk_at "isd")); (focus (first | decide | (simp; done) | (simp; omega) | omega)); (intro v H2 hs hi); (try (have hd2 := Drs.same (by assumption) hs)))
  | ((with_reducible apply r_slTo (M := fun a => a = dr)); (focus (walk_at "isd")); (focus (first | decide | assumption | omega)); (intro v H2 hs hi); (try (have hd2 := Drs.same (by assumption) hs)))
  | ((with_reducible apply r_slFrom (M := fun a => a = dr)); (focus (walk_at "isd")); (focus (first | decide | assumption | omega)); (intro v H2 hs hi); (try (have hd2 := Drs.same (by assumption) hs)))
  | ((with_reducible apply r_rep (M := fun a => a = dr)); (focus (walk_at "isd")); (focus decide); (focus decide); (focus (first | (intro hnil; cases hnil) | assumption | simp)); (focus (first | decide | (simp; done) | (simp; omega))); (intro v H2 hs hi); (try (have hd2 := Drs.same (by assumption) hs)))
  | ((with_reducible apply r_listOf); (focus assumption); (focus (walk_at "isd")); (intro v H2 hs hi); (try (have hd2 := Drs.same (by assumption) hs)))
  | ((with_reducible apply r_ixStr (M := fun _ => True)); (focus (walk_at "isd")))
  | ((with_reducible apply r_cat (M := fun a => a = dr)); (focus (walk_at "isd")); (focus (walk_at "isd")); (focus (first | decide | (simp; done) | (simp; omega) | omega)); (intro v H2 hs hi); (try (have hd2 := Drs.same (by assumption) hs)))
  | ((with_reducible apply r_slTo (M := fun a => a = dr)); (focus (walk_at "isd")); (focus (first | decide | assumption | omega)); (intro v H2 hs hi); (try (have hd2 := Drs.same (by assumption) hs)))
  | ((with_reducible apply r_slFrom (M := fun a => a = dr)); (focus (walk_at "isd")); (focus (first | decide | assumption | omega)); (intro v H2 hs hi); (try (have hd2 := Drs.same (by assumption) hs)))
  | ((with_reducible apply r_rep (M := fun a => a = dr)); (focus (walk_at "isd")); (focus decide); (focus decide); (focus (first | (intro hnil; cases hnil) | assumption | simp)); (focus (first | decide | (simp; done) | (simp; omega))); (intro v H2 hs hi); (try (have hd2 := Drs.same (by assumption) hs)))
  | ((with_reducible apply r_listOf); (focus assumption); (focus (walk_at "isd")); (intro v H2 hs hi); (try (have hd2 := Drs.same (by assumption) hs)))
  | ((with_reducible apply r_ixStr); (focus assumption))
  | ((with_reducible apply r_cat (M := fun a => a = dr)); (focus (walk_at "isd")); (focus (walk_at "isd")); (focus (first | decide | (simp; done) | (simp; omega) | omega)); (intro v H2 hs hi); (try (have hd2 := Drs.same (by assumption) hs)))
  | ((with_reducible apply r_slTo (M := fun a => a = dr)); (focus (walk_at "isd")); (focus (first | decide | assumption | omega)); (intro v H2 hs hi); (try (have hd2 := Drs.same (by assumption) hs)))
  | ((with_reducible apply r_slFrom (M := fun a => a = dr)); (focus (walk_at "isd")); (focus (first | decide | assumption | omega)); (intro v H2 hs hi); (try (have hd2 := Drs.same (by assumption) hs)))
  | ((with_reducible apply r_rep (M := fun a => a = dr)); (focus (walk_at "isd")); (focus decide); (focus decide); (focus (first | (intro hnil; cases hnil) | assumption | simp)); (focus (first | decide | (simp; done) | (simp; omega))); (intro v H2 hs hi); (try (have hd2 := Drs.same (by assumption) hs)))
  | ((with_reducible apply r_listOf); (focus assumption); (focus (walk_at "isd")); (intro v H2 hs hi); (try (have hd2 := Drs.same (by assumption) hs)))
  | ((with_reducible apply r_ixStr); (focus assumption))
  | ((with_reducible apply r_cat (M := fun a => a = dr)); (focus (walk_at "isd")); (focus (walk_at "isd")); (focus (first | decide | (simp; done) | (simp; omega) | omega)); (intro v H2 hs hi); (try (have hd2 := Drs.same (by assumption) hs)))
  | ((with_reducible apply r_slTo (M := fun a => a = dr)); (focus (walk_at "isd")); (focus (first | decide | assumption | omega)); (intro v H2 hs hi); (try (have hd2 := Drs.same (by assumption) hs)))
  | ((with_reducible apply r_slFrom (M := fun a => a = dr)); (focus (walk_at "isd")); (focus (first | decide | assumption | omega)); (intro v H2 hs hi); (try (have hd2 := Drs.same (by assumption) hs)))
  | ((with_reducible apply r_rep (M := fun a => a = dr)); (focus (walk_at "isd")); (focus decide); (focus decide); (focus (first | (intro hnil; cases hnil) | assumption | simp)); (focus (first | decide | (simp; done) | (simp; omega))); (intro v H2 hs hi); (try (have hd2 := Drs.same (by assumption) hs)))
  | ((with_reducible apply r_listOf); (focus assumption); (focus (walk_at "isd")); (intro v H2 hs hi); (try (have hd2 := Drs.same (by assumption) hs)))
  | ((with_reducible apply r_ixStr); (focus assumption))
  | ((with_reducible apply r_cat (M := fun a => a = dr)); (focus (walk_at "isd")); (focus (walk_at "isd")); (focus (first | decide | (simp; done) | (simp; omega) | omega)); (intro v H2 hs hi); (try (have hd2 := Drs.same (by assumption) hs)))
  | ((with_reducible apply r_slTo (M := fun a => a = dr)); (focus (walk_at "isd")); (focus (first | decide | assumption | omega)); (intro v H2 hs hi); (try (have hd2 := Drs.same (by assumption) hs)))
  | ((with_reducible apply r_slFrom (M := fun a => a = dr)); (focus (walk_at "isd")); (focus (first | decide | assumption | omega)); (intro v H2 hs hi); (try (have hd2 := Drs.same (by assumption) hs)))
  | ((with_reducible apply r_rep (M := fun a => a = dr)); (focus (walk_at "isd")); (focus decide); (focus decide); (focus (first | (intro hnil; cases hnil) | assumption | simp)); (focus (first | decide | (simp; done) | (simp; omega))); (intro v H2 hs hi); (try (have hd2 := Drs.same (by assumption) hs)))
  | ((with_reducible apply r_listOf); (focus assumption); (focus (walk_at "isd")); (intro v H2 hs hi); (try (have hd2 := Drs.same (by assumption) hs)))
  | ((with_reducible apply r_ixStr); (focus assumption))
  | ((with_reducible apply r_cat (M := fun a => a = dr)); (focus (walk_at "isd")); (focus (walk_at "isd")); (focus (first | decide | (simp; done) | (simp; omega) | omega)); (intro v H2 hs hi); (try (have hd2 := Drs.same (by assumption) hs)))
  | ((with_reducible apply r_slTo (M := fun a => a = dr)); (focus (walk_at "isd")); (focus (first | decide | assumption | omega)); (intro v H2 hs hi); (try (have hd2 := Drs.same (by assumption) hs)))
  | ((with_reducible apply r_slFrom (M := fun a => a = dr)); (focus (walk_at "isd")); (focus (first | decide | assumption | omega)); (intro v H2 hs hi); (try (have hd2 := Drs.same (by assumption) hs)))
  | ((with_reducible apply r_rep (M := fun a => a = dr)); (focus (walk_at "isd")); (focus decide); (focus decide); (focus (first | (intro hnil; cases hnil) | assumption | simp)); (focus (first | decide | (simp; done) | (simp; omega))); (intro v H2 hs hi); (try (have hd2 := Drs.same (by assumption) hs)))
  | ((with_reducible apply r_listOf); (focus assumption); (focus (walk_at "isd")); (intro v H2 hs hi); (try (have hd2 := Drs.same (by assumption) hs)))
  | ((with_reducible apply r_ixStr); (focus assumption))
  | ((with_reducible apply r_cat (M := fun a => a = dr)); (focus (walk_at "isd")); (focus (walk_at "isd")); (focus (first | decide | (simp; done) | (simp; omega) | omega)); (intro v H2 hs hi); (try (have hd2 := Drs.same (by assumption) hs)))
  | ((with_reducible apply r_slTo (M := fun a => a = dr)); (focus (walk_at "isd")); (focus (first | decide | assumption | omega)); (intro v H2 hs hi); (try (have hd2 := Drs.same (by assumption) hs)))
  | ((with_reducible apply r_slFrom (M := fun a => a = dr)); (focus (walk_at "isd")); (focus (first | decide | assumption | omega)); (intro v H2 hs hi); (try (have hd2 := Drs.same (by assumption) hs)))
  | ((with_reducible apply r_rep (M := fun a => a = dr)); (focus (walk_at "isd")); (focus decide); (focus decide); (focus (first | (intro hnil; cases hnil) | assumption | simp)); (focus (first | decide | (simp; done) | (simp; omega))); (intro v H2 hs hi); (try (have hd2 := Drs.same (by assumption) hs)))
  | ((with_reducible apply r_listOf); (focus assumption); (focus (walk_at "isd")); (intro v H2 hs hi); (try (have hd2 := Drs.same (by assumption) hs)))
  | ((with_reducible apply r_ixStr); (focus assumption))
  | ((with_reducible apply r_cat (M := fun a => a = dr)); (focus (walk_at "isd")); (focus (walk_at "isd")); (focus (first | decide | (simp; omega) | omega)); (intro v H2 hs hi); (try (have hd2 := Drs.same (by assumption) hs)))
  | ((with_reducible apply r_slTo (M := fun a => a = dr)); (focus (walk_at "isd")); (focus (first | decide | assumption | omega)); (intro v H2 hs hi); (try (have hd2 := Drs.same (by assumption) hs)))
  | ((with_reducible apply r_slFrom (M := fun a => a = dr)); (focus (walk_at "isd")); (focus (first | decide | assumption | omega)); (intro v H2 hs hi); (try (have hd2 := Drs.same (by assumption) hs)))
  | ((with_reducible apply r_rep (M := fun a => a = dr)); (focus (walk_at "isd")); (focus decide); (focus decide); (focus (first | (intro hnil; cases hnil) | assumption | simp)); (focus (first | decide | (simp; omega))); (intro v H2 hs hi); (try (have hd2 := Drs.same (by assumption) hs)))
  | ((with_reducible apply r_listOf); (focus assumption); (focus (walk_at "isd")); (intro v H2 hs hi); (try (have hd2 := Drs.same (by assumption) hs)))
  | ((with_reducible apply r_ixStr); (focus assumption))
  | ((with_reducible apply r_cat (M := fun a => a = dr)); (focus (walk_at "isd")); (focus (walk_at "isd")); (focus (first | decide | (simp; omega) | omega)); (intro v H2 hs hi); (try (have hd2 := Drs.same (by assumption) hs)))
  | ((with_reducible apply r_slTo (M := fun a => a = dr)); (focus (walk_at "isd")); (focus (first | decide | assumption | omega)); (intro v H2 hs hi); (try (have hd2 := Drs.same (by assumption) hs)))
  | ((with_reducible apply r_slFrom (M := fun a => a = dr)); (focus (walk_at "isd")); (focus (first | decide | assumption | omega)); (intro v H2 hs hi); (try (have hd2 := Drs.same (by assumption) hs)))
  | ((with_reducible apply r_rep (M := fun a => a = dr)); (focus (walk_at "isd")); (focus decide); (focus decide); (focus (first | (intro hnil; cases hnil) | assumption | simp)); (focus (first | decide | (simp; omega))); (intro v H2 hs hi); (try (have hd2 := Drs.same (by assumption) hs)))
  | ((with_reducible apply r_listOf); (focus assumption); (focus (walk_at "isd")); (intro v H2 hs hi); (try (have hd2 := Drs.same (by assumption) hs)))
  | ((with_reducible apply r_ixStr); (focus assumption))
  | ((with_reducible apply r_cat (M := fun a => a = dr)); (focus (walk_at "isd")); (focus (walk_at "isd")); (focus (first | decide | (simp; omega) | omega)); (intro v H2 hs hi); (try (have hd2 := Drs.same (by assumption) hs)))
  | ((with_reducible apply r_slTo (M := fun a => a = dr)); (focus (walk_at "isd")); (focus (first | decide | assumption | omega)); (intro v H2 hs hi); (try (have hd2 := Drs.same (by assumption) hs)))
  | ((with_reducible apply r_slFrom (M := fun a => a = dr)); (focus (walk_at "isd")); (focus (first | decide | assumption | omega)); (intro v H2 hs hi); (try (have hd2 := Drs.same (by assumption) hs)))
  | ((with_reducible apply r_rep (M := fun a => a = dr)); (focus (walk_at "isd")); (focus decide); (focus decide); (focus (first | (intro hnil; cases hnil) | assumption | simp)); (focus (first | decide | (simp; omega))); (intro v H2 hs hi); (try (have hd2 := Drs.same (by assumption) hs)))
  | ((with_reducible apply r_listOf); (focus assumption); (focus (walk_at "isd")); (intro v H2 hs hi); (try (have hd2 := Drs.same (by assumption) hs)))
  | ((with_reducible apply r_ixStr); (focus assumption))
  | ((with_reducible apply r_cat (M := fun a => a = dr)); (focus (walk_at "isd")); (focus (walk_at "isd")); (focus (first | decide | (simp; omega) | omega)); (intro v H2 hs hi); (try (have hd2 := Drs.same (by assumption) hs)))
  | ((with_reducible apply r_slTo (M := fun a => a = dr)); (focus (walk_at "isd")); (focus (first | decide | assumption | omega)); (intro v H2 hs hi); (try (have hd2 := Drs.same (by assumption) hs)))
  | ((with_reducible apply r_slFrom (M := fun a => a = dr)); (focus (walk_at "isd")); (focus (first | decide | assumption | omega)); (intro v H2 hs hi); (try (have hd2 := Drs.same (by assumption) hs)))
  | ((with_reducible apply r_rep (M := fun a => a = dr)); (focus (walk_at "isd")); (focus decide); (focus decide); (focus (first | (intro hnil; cases hnil) | assumption | simp)); (focus (first | decide | (simp; omega))); (intro v H2 hs hi); (try (have hd2 := Drs.same (by assumption) hs)))
  | ((with_reducible apply r_listOf); (focus assumption); (focus (walk_at "isd")); (intro v H2 hs hi); (try (have hd2 := Drs.same (by assumption) hs)))
  | ((with_reducible apply r_ixStr); (focus assumption))
  | ((with_reducible apply r_lenL); (focus (walk_at "hat")))
  | ((with_reducible apply r_setL); (focus (walk_at "hat")); (focus ((with_unfolding_all rfl); done)); (intro H2 hk hl))
  | ((with_reducible apply r_ixMk); (focus (walk_at "hat")); (focus (assumption)); (focus assumption); (focus ((simp only [List.length_cons, List.length_nil]); decide)))
  | ((with_reducible apply r_ixI); (focus (walk_at "hat")); (focus (omega)); (focus (omega)); (intro n hn))
  | ((with_reducible apply r_mixed); (intro n hn0 hn1))
  | ((with_reducible apply r_lenP); (focus (walk_at "isd")))
  | ((with_reducible apply r_ixP); (focus (walk_at "isd")); (focus assumption); (focus assumption); (intro j pp u hj hp hu))
  | ((with_reducible apply r_ixP1); (focus assumption))
  | ((with_reducible apply r_ixL); (focus (walk_at "hat")); (focus ((with_unfolding_all rfl); done)))
  | (with_reducible refine r_memc ?_ ?_) | (with_reducible exact r_memn)))
local macro_rules | `(tactic| walk_at "go") => `(tactic| (repeat' (first | walk_at "rd" | walk_at "al")))

section
variable {K : PySem.W.Frag} {P : Program} {mg : Str → Option Value} {w : World} {base : Heap}
def sp_check2 (C : Addr) (ok : Int → PyData → Bool) : Sp := fun vs H Q E => ∃ (M : Addr → Prop) (d : PyData) (v : V) (n : Int), vs = [v, .int n] ∧ Is M H d v ∧ (ok n d = true → ∀ H', Same H H' → Q .non H') ∧ (ok n d = false → ∀ H', Same H H' → E (.ref C) none H')
theorem ok_threads (T : Txt K mg) (T2 : Txt2 K w mg) : FnOk P w K mg base (L2.CX P w) 3 T.f_check_threads T.d_check_threads ["threads", "many_codes"] (sp_check2 T2.C (fun n => okTup 1 4 (okThread n))) := by
  have G_is_row : FnOk P w K mg base CX0 1 T.f_is_row T.d_is_row ["row", "least", "greatest"] sp_row := ok_row T
  have G_is_integer : FnOk P w K mg base CX0 1 T.f_is_integer T.d_is_integer ["number", "least", "greatest"] sp_int := ok_int T
  have G_is_value : FnOk P w K mg base CX0 2 T.f_is_value T.d_is_value ["number"] sp_value := ok_value T
  refine T.F_check_threads.okX sc_check_threads (fun vs H Q E h => ?_) (fun cdv A outer s H vs Q E hr h => ?_)
  · obtain ⟨_, _, _, _, rfl, _⟩ := h
    rfl
  · obtain ⟨M, d, v, n, rfl, hI, q, e⟩ := h
    have nd := sc_check_threads.nd
    refine ⟨_, (pss_cons (ps_if (pt_not (pt_val (pe_call G_is_row (hr.mono (by decide)) (by rfl) T.m_is_row T.F_is_row.kp T.b_is_row .nil pass0 (pa_cons (pv 0) (pa_cons pe_int (pa_cons pe_int pa_nil)))))) (pss_one (ps_raise rfl (takes_of rfl rfl rfl rfl) (pmk_own PySem.F.excBase_ValueError T2.x_BadProgram T2.m_BadProgram T2.k_BadProgram (raises_own T2.sb_BadProgram T2.ty_BadProgram) rfl))) pss_nil)
      (pss_one (ps_for (passes_of rfl) rfl (pi_tup (pv 0)) (pg_name (i := 2) nd rfl (.inl rfl)) (pss_cons (ps_if (pt_not (pt_val (pe_call G_is_row (hr.mono (by decide)) (by rfl) T.m_is_row T.F_is_row.kp T.b_is_row .nil pass0 (pa_cons (pv 2) (pa_cons pe_int (pa_cons pe_int pa_nil)))))) (pss_one (ps_raise rfl (takes_of rfl rfl rfl rfl) (pmk_own PySem.F.excBase_ValueError T2.x_BadProgram T2.m_BadProgram T2.k_BadProgram (raises_own T2.sb_BadProgram T2.ty_BadProgram) rfl))) pss_nil)
      (pss_cons (ps_asg (pv 2) (pg_tup rfl (pgs_cons (pg_name (i := 3) nd rfl (.inl rfl)) (pgs_cons (pg_name (i := 4) nd rfl (.inl rfl)) pgs_nil))))
      (pss_cons (ps_if (pt_not (pt_val (pe_call G_is_integer (hr.mono (by decide)) (by rfl) T.m_is_integer T.F_is_integer.kp T.b_is_integer .nil pass0 (pa_cons (pv 3) (pa_cons pe_int (pa_cons (pe_op op_sub (pv 1) pe_int) pa_nil)))))) (pss_one (ps_raise rfl (takes_of rfl rfl rfl rfl) (pmk_own PySem.F.excBase_ValueError T2.x_BadProgram T2.m_BadProgram T2.k_BadProgram (raises_own T2.sb_BadProgram T2.ty_BadProgram) rfl))) pss_nil)
      (pss_one (ps_if (pt_not (pt_val (pe_call G_is_value (hr.mono (by decide)) (by rfl) T.m_is_value T.F_is_value.kp T.b_is_value .nil pass0 (pa_cons (pv 4) pa_nil)))) (pss_one (ps_raise rfl (takes_of rfl rfl rfl rfl) (pmk_own PySem.F.excBase_ValueError T2.x_BadProgram T2.m_BadProgram T2.k_BadProgram (raises_own T2.sb_BadProgram T2.ty_BadProgram) rfl))) pss_nil)))))))), ?_⟩
    walk_at "go"
    · exact e (tup_row h) H (Same.refl _)
    · obtain ⟨ds, rfl, hl⟩ := row_tup h
      obtain ⟨a, xs, rfl, hT, hA⟩ := hI
      walk_at "go"
      refine for_chk (okThread n) (fun σ => ∃ y2 y3 y4, σ = [some (.ref a), some (.int n), y2, y3, y4]) hT hA ⟨_, _, _, rfl⟩ (fun d x σ H1 N hdm hd hS sm hN => ?_) (fun σ H1 hS sm hall => ?_)
      · obtain ⟨y2, y3, y4, rfl⟩ := hS
        have hbad : okThread n d = false → E (Value.ref T2.C) none H1 := fun z => e (tup_bad hdm z) H1 sm
        walk_at "go"
        · refine hbad ?_
          cases d <;> first | rfl | skip
          rename_i ds'
          match ds', h with
          | [], _ => rfl
          | [_], _ => rfl
          | [_, _], h => exact absurd h (by simp [isRow])
          | _ :: _ :: _ :: _, _ => simp [okThread]
        · obtain ⟨f, p, rfl⟩ := row2 h
          obtain ⟨a2, xs2, rfl, hT2, v1, r1, rfl, i1, v2, r2, rfl, i2, rfl⟩ := hd
          walk_at "go"
          · exact hbad (by rw [thread_ok, show isInt 0 (n - 1) f = false by simpa using h]; rfl)
          · exact hbad (by rw [thread_ok, show isInt (-999) 999 p = false by simpa using h, Bool.and_false])
          · exact hN _ _ (by rw [thread_ok, show isInt (-999) 999 p = true by simpa using h, show isInt 0 (n - 1) f = true by simpa using ‹¬(!isInt 0 (n - 1) f) = true›]; rfl) ⟨_, _, _, rfl⟩ sm
      · walk_at "go"
        exact q (tup_ok hl hall) H1 sm
def sp_instr (C : Addr) : Sp := fun vs H Q E => ∃ (M : Addr → Prop) (d : PyData) (v : V) (bd : Addr) (vv : V) (ps : Pl) (locks many len : Int), vs = [v, .ref bd, vv] ∧ Is M H d v ∧ Bnds ps locks many len bd H ∧ Is M H (placesD ps) vv ∧ (okI ps locks many len d = true → ∀ H', Same H H' → Q .non H') ∧ (okI ps locks many len d = false → ∀ H', Same H H' → E (.ref C) none H')
theorem r_shape {C : Addr} {M : Addr → Prop} {d : PyData} {v : V} {H : Hp} {Q : VK} {E : XK} (h : Is M H d v) (q : ∀ sh, shOf d = some sh → Q (.str (shStr sh)) H) (e : shOf d = none → E (.ref C) none H) : sp_shape C ([v] ++ []) H Q E := ⟨M, d, v, rfl, h, q, e⟩
theorem ok_instr (T : Txt K mg) (T2 : Txt2 K w mg) : FnOk P w K mg base (L2.CX P w) 2 T.f_check_instruction T.d_check_instruction ["instruction", "bounds", "variables"] (sp_instr T2.C) := by
  have G_shape_of : FnOk P w K mg base (L2.CX P w) 1 T.f_shape_of T.d_shape_of ["instruction"] (sp_shape T2.C) := ok_shape T T2
  have G_is_integer : FnOk P w K mg base CX0 1 T.f_is_integer T.d_is_integer ["number", "least", "greatest"] sp_int := ok_int T
  refine T.F_check_instruction.okX sc_check_instruction (fun vs H Q E h => ?_) (fun cdv A outer s H vs Q E hr h => ?_)
  · obtain ⟨_, _, _, _, _, _, _, _, _, rfl, _⟩ := h
    rfl
  · obtain ⟨M, d, v, bd, vv, ps, locks, many, len, rfl, hI, hB, hP, q, e⟩ := h
    have nd := sc_check_instruction.nd
    refine ⟨_, (pss_cons (ps_set (i := 3) nd rfl (.inl rfl) (pe_call G_shape_of (hr.mono (by decide)) (by rfl) T.m_shape_of T.F_shape_of.kp T.b_shape_of .nil (passes_call (takes_of rfl rfl rfl rfl) (fun _ _ _ _ h => h)) (pa_cons (pv 0) pa_nil)))
      (pss_cons (ps_if (pt_cmpR op_ne (pe_callB call_len (by rfl) T.m_len PySem.boot_len (pa_cons (pv 0) pa_nil)) (pe_op op_add (pe_callB call_lenS (by rfl) T.m_len PySem.boot_len (pa_cons (pv 3) pa_nil)) pe_int) (nomark _)) (pss_one (ps_raise rfl (takes_of rfl rfl rfl rfl) (SkE.pmk_own1 PySem.F.excBase_ValueError T2.x_BadProgram T2.m_BadProgram T2.k_BadProgram (raises_own T2.sb_BadProgram T2.ty_BadProgram) rfl (pe_joined (.cons (pe_fmt (pe_ix ix_seq (pv 0) pe_int (fun _ _ => rfl))) (.cons pe_str (.cons (pe_fmt (pe_callB call_lenS (by rfl) T.m_len PySem.boot_len (pa_cons (pv 3) pa_nil))) (.cons pe_str .nil)))))))) pss_nil)
      (pss_one (ps_for (passes_of rfl) rfl (pi_zipS (by rfl) T.m_zip (pa_cons (pv 3) (pa_cons (pe_slice sl_tupA (pv 0) (po_some pe_int) po_none) pa_nil))) (pg_tup rfl (pgs_cons (pg_name (i := 4) nd rfl (.inl rfl)) (pgs_cons (pg_name (i := 5) nd rfl (.inl rfl)) pgs_nil))) (pss_cons (ps_asg (pe_dget (hu_of hr) (pv 1) (pv 4) (fun _ _ => rfl)) (pg_tup rfl (pgs_cons (pg_name (i := 6) nd rfl (.inl rfl)) (pgs_cons (pg_name (i := 7) nd rfl (.inl rfl)) pgs_nil))))
      (pss_cons (ps_if (pt_not (pt_val (pe_call G_is_integer (hr.mono (by decide)) (by rfl) T.m_is_integer T.F_is_integer.kp T.b_is_integer .nil pass0 (pa_cons (pv 5) (pa_cons (pv 6) (pa_cons (pv 7) pa_nil)))))) (pss_one (ps_raise rfl (takes_of rfl rfl rfl rfl) (SkE.pmk_own1 PySem.F.excBase_ValueError T2.x_BadProgram T2.m_BadProgram T2.k_BadProgram (raises_own T2.sb_BadProgram T2.ty_BadProgram) rfl (pe_joined (.cons (pe_fmt (pe_ix ix_seq (pv 0) pe_int (fun _ _ => rfl))) (.cons pe_str .nil)))))) pss_nil)
      (pss_one (ps_if (PW.pt (pw_and (pt_cmpR op_eq (pv 4) pe_str (nomark _)) (pw_and1 (pt_val (pe_ix ix_seq (pe_ix ix_seq (pv 2) (pv 5) (fun _ _ => rfl)) pe_int (fun _ _ => rfl)))))) (pss_one (ps_raise rfl (takes_of rfl rfl rfl rfl) (SkE.pmk_own1 PySem.F.excBase_ValueError T2.x_BadProgram T2.m_BadProgram T2.k_BadProgram (raises_own T2.sb_BadProgram T2.ty_BadProgram) rfl (pe_joined (.cons (pe_fmt (pe_ix ix_seq (pv 0) pe_int (fun _ _ => rfl))) (.cons pe_str .nil)))))) pss_nil)))))))), ?_⟩
    walk_at "go"
    refine r_shape hI (fun sh hsh => ?_) (fun hn => e (okI_none hn) H (Same.refl _))
    obtain ⟨wd, r, rfl, hw⟩ := shOf_some hsh
    obtain ⟨hw10, hs4⟩ := shape_small hw
    rw [okI_eq hw] at q e
    obtain ⟨a, xs, rfl, hT, v0, vs, rfl, h0, hrs⟩ := id hI
    cases h0
    walk_at "go"
    · exact e (okAll_len (by simp at h; omega)) H (Same.refl _)
    have hlr : sh.length = r.length := by simp at h; omega
    have lvs := hrs.len
    refine for_zipS (ys := vs) (by rw [shStr_cps, List.length_map]; omega) (fun i σ H1 => (∃ y4 y5 y6 y7, σ = [some (.ref a), some (.ref bd), some vv, some (.str (shStr sh)), y4, y5, y6, y7]) ∧ Same H2 H1 ∧ ∀ (j : Nat) (s : Sh) (d : PyData), j < i → sh[j]? = some s → r[j]? = some d → okNum ps locks many len s d = true)
      ⟨⟨_, _, _, _, rfl⟩, Same.refl _, fun j _ _ h => absurd h (Nat.not_lt_zero _)⟩ (fun i σ H1 ⟨_, sm, _⟩ => sm _ _ hl) (fun i c y T σ H1 hc hy hx hT => ?_) (fun σ H1 hx => ?_)
    · obtain ⟨⟨y4, y5, y6, y7, rfl⟩, sm, hk⟩ := hx
      rw [shStr_cps, List.getElem?_map] at hc
      obtain ⟨s, hsi, rfl⟩ : ∃ s, sh[i]? = some s ∧ c = shC s := by
        cases z : sh[i]? with
        | none => rw [z] at hc; cases hc
        | some s => rw [z] at hc; exact ⟨s, rfl, (Option.some.inj hc).symm⟩
      obtain ⟨d, hdi, hd⟩ := hrs.get hy
      have s3 : Same H1 (upd H1 T (.tup [.str ⟨#[shC s]⟩, y])) := same_upd hT
      have h3 : (upd H1 T (.tup [.str ⟨#[shC s]⟩, y])) T = some (.tup [.str ⟨#[shC s]⟩, y]) := upd_same
      generalize upd H1 T (.tup [.str ⟨#[shC s]⟩, y]) = H3 at s3 h3 ⊢
      have sH : Same H H3 := Same.trans (Same.trans hs sm) s3
      have hB3 := hB.same sH
      have hd3 : Is M H3 d y := Is.keep (KeepM.same sH) hd
      have hP3 : Is M H3 (placesD ps) vv := Is.keep (KeepM.same sH) hP
      have hbad : okNum ps locks many len s d = false → E (Value.ref T2.C) none H3 := fun z => e (okAll_bad hsi hdi z) H3 sH
      have hgood : okNum ps locks many len s d = true → ∀ (j : Nat) (s' : Sh) (d' : PyData), j < i + 1 → sh[j]? = some s' → r[j]? = some d' → okNum ps locks many len s' d' = true := fun z j s' d' hj h1 h2 => by
        by_cases hji : j = i
        · subst hji
          rw [hsi] at h1; rw [hdi] at h2; cases h1; cases h2; exact z
        · exact hk j s' d' (by omega) h1 h2
      clear hs hB hP hI hrs hd
      walk_at "go"
      · exact hbad (okNum_no (by simpa using h))
      · have es : s = .s := shC_inj (Nat.succ.inj (by
          have z := congrArg (fun x : Str => x.cps.toList) h
          have z2 : [shC s] = [115] := z
          rw [List.head_eq_of_cons_eq z2]; rfl))
        subst es
        obtain ⟨iv, rfl, i0, i1⟩ := isInt_ex (by simpa using ‹¬(!isInt (lohi ps locks many len .s).fst (lohi ps locks many len .s).snd d) = true›)
        cases hd3
        have i0' : 0 ≤ iv := i0
        have i1' : iv < (ps.length : Int) := by have : iv ≤ (ps.length : Int) - 1 := i1; omega
        refine r_ixP hP3 i0' i1' (fun j pp u hj hp2 hu => ?_)
        subst hj
        have hjl : j < ps.length := by omega
        walk_at "go"
        · exact hbad (by rw [okNum_s hp2 hjl, h]; rfl)
        · exact ⟨⟨_, _, _, _, rfl⟩, Same.trans sm s3, hgood (by rw [okNum_s hp2 hjl]; simpa using h)⟩
      · exact ⟨⟨_, _, _, _, rfl⟩, Same.trans sm s3, hgood (okNum_yes (by simpa using ‹¬(!isInt (lohi ps locks many len s).fst (lohi ps locks many len s).snd d) = true›) (fun e => h (by subst e; rfl)))⟩
    · obtain ⟨⟨y4, y5, y6, y7, rfl⟩, sm, hk⟩ := hx
      walk_at "go"
      exact q (okAll_true hlr fun j s d h1 h2 => hk j s d (by rw [← lvs, ← hlr]; exact (List.getElem?_eq_some_iff.mp h1).1) h1 h2) H1 (Same.trans hs sm)
end
end EW
set_option Elab.async false
set_option linter.all false
set_option maxRecDepth 100000
set_option maxHeartbeats 16000000
set_option pp.maxSteps 250
namespace EW
open L2 PyProof.Rows PySem.Spec PySem
def clen : PyData → Int
  | .tuple ds => ds.length
  | _ => 0
def okCode (ps : Pl) (locks many : Int) (c : PyData) : Bool := okTup 0 16 (okI ps locks many (clen c)) c
theorem Is.keep2 {M : Addr → Prop} {H H' : Hp} {d : PyData} {v : V} (h : Is M H d v) (k : KeepM M H H') : Is M H' d v := Is.keep k h
theorem Keep.toMD {p : Addr} {kvs : List (Key × V)} {H H' : Hp} (k : Keep p H H') (h : H p = some (.dK kvs)) : KeepM (fun _ => True) H H' := ⟨fun x ys e => k x _ (fun q => by subst q; rw [h] at e; cases e) e, fun _ _ n => absurd trivial n⟩
theorem pair_of {M : Addr → Prop} {H : Hp} {a b : Int} {v : V} (h : Is M H (.tuple [.int a, .int b]) v) : ∃ p, v = .ref p ∧ H p = some (.tup [.int a, .int b]) := by
  obtain ⟨p, xs, rfl, e, v1, r1, rfl, h1, v2, r2, rfl, h2, rfl⟩ := h
  cases h1; cases h2
  exact ⟨p, rfl, e⟩
def dispK (p : Addr) (ps : List (V × V)) (H2 : Hp) (Q : VK) : Prop := H2 p = some (.dK []) ∧ ∃ kvs : List (Key × V), ps = kvs.map (fun kv => (kV kv.1, kv.2)) ∧ kvs.length ≤ 15 ∧ Q (.ref p) (upd H2 p (.dK (mergeK [] kvs)))
section
variable {σ : L2.St} {H : Hp} {Q : VK} {D : Ends}
theorem r_disp {trs : List (TE × TE)} (h : ∀ p H1, H p = none → Same H H1 → H1 p = some (.dK []) → tPairs trs σ H1 fun ps H2 => dispK p ps H2 Q) : tDisp trs σ H Q := fun p hp => h p _ hp (same_upd hp) upd_same
theorem r_pc {tk tv : TE} {r : List (TE × TE)} {R : List (V × V) → Hp → Prop} (h : tk σ H fun x H1 => tv σ H1 fun y H2 => tPairs r σ H2 fun ps H3 => R ((x, y) :: ps) H3) : tPairs ((tk, tv) :: r) σ H R := h
theorem r_pn {R : List (V × V) → Hp → Prop} (h : R [] H) : tPairs [] σ H R := h
end
theorem bnds_of {ps : Pl} {locks many len : Int} {p : Addr} {H3 : Hp} {M : Addr → Prop} {v1 v2 v3 v4 v5 v6 v7 : V} (h : H3 p = some (.dK (mergeK [] [(letter .r, v1), (letter .v, v2), (letter .n, v3), (letter .x, v4), (letter .s, v5), (letter .l, v6), (letter .k, v7)])))
    (i1 : Is M H3 (.tuple [.int 0, .int 3]) v1) (i2 : Is M H3 (.tuple [.int (-999), .int 999]) v2) (i3 : Is M H3 (.tuple [.int 0, .int len]) v3) (i4 : Is M H3 (.tuple [.int 0, .int ((ps.length : Int) - 1)]) v4) (i5 : Is M H3 (.tuple [.int 0, .int ((ps.length : Int) - 1)]) v5)
    (i6 : Is M H3 (.tuple [.int 0, .int (locks - 1)]) v6) (i7 : Is M H3 (.tuple [.int 0, .int (many - 1)]) v7) : Bnds ps locks many len p H3 := by
  refine ⟨_, h, fun s => ?_⟩
  obtain ⟨p1, rfl, h1⟩ := pair_of i1
  obtain ⟨p2, rfl, h2⟩ := pair_of i2
  obtain ⟨p3, rfl, h3⟩ := pair_of i3
  obtain ⟨p4, rfl, h4⟩ := pair_of i4
  obtain ⟨p5, rfl, h5⟩ := pair_of i5
  obtain ⟨p6, rfl, h6⟩ := pair_of i6
  obtain ⟨p7, rfl, h7⟩ := pair_of i7
  cases s with
  | r => exact ⟨p1, by with_unfolding_all rfl, h1⟩
  | v => exact ⟨p2, by with_unfolding_all rfl, h2⟩
  | n => exact ⟨p3, by with_unfolding_all rfl, h3⟩
  | x => exact ⟨p4, by with_unfolding_all rfl, h4⟩
  | s => exact ⟨p5, by with_unfolding_all rfl, h5⟩
  | l => exact ⟨p6, by with_unfolding_all rfl, h6⟩
  | k => exact ⟨p7, by with_unfolding_all rfl, h7⟩
def plOf : PyData → Pl
  | .tuple ds => ds.filterMap fun d => match d with
    | .tuple [.int f, .bool b] => some (f, b)
    | _ => none
  | _ => []
theorem plOf_places (ps : Pl) : plOf (placesD ps) = ps := by
  show (ps.map placeD).filterMap _ = ps
  induction ps with
  | nil => rfl
  | cons p r ih =>
    rw [List.map_cons, List.filterMap_cons]
    show p :: List.filterMap _ (r.map placeD) = p :: r
    rw [ih]
theorem var_place : ∀ {d : PyData}, okVar d = true → ∃ p, d = placeD p
  | .tuple [.int f, .bool b], _ => ⟨(f, b), rfl⟩
  | .tuple [.none, .bool b], h => by cases h
  | .tuple [.bool _, .bool b], h => by cases h
  | .tuple [.str _, .bool b], h => by cases h
  | .tuple [.list _, .bool b], h => by cases h
  | .tuple [.tuple _, .bool b], h => by cases h
  | .tuple [.dict _, .bool b], h => by cases h
  | .tuple [_, .none], h => by simp [okVar] at h
  | .tuple [_, .int _], h => by simp [okVar] at h
  | .tuple [_, .str _], h => by simp [okVar] at h
  | .tuple [_, .list _], h => by simp [okVar] at h
  | .tuple [_, .tuple _], h => by simp [okVar] at h
  | .tuple [_, .dict _], h => by simp [okVar] at h
  | .tuple [], h => by simp [okVar] at h
  | .tuple [_], h => by simp [okVar] at h
  | .tuple (_ :: _ :: _ :: _), h => by simp [okVar] at h
  | .none, h => by cases h
  | .bool _, h => by cases h
  | .int _, h => by cases h
  | .str _, h => by cases h
  | .list _, h => by cases h
  | .dict _, h => by cases h
theorem vars_places {ds : List PyData} (h : ∀ d ∈ ds, okVar d = true) : ∃ ps : Pl, ds = ps.map placeD := by
  induction ds with
  | nil => exact ⟨[], rfl⟩
  | cons d r ih =>
    obtain ⟨p, hp⟩ := var_place (h d (List.mem_cons_self ..))
    obtain ⟨ps, hps⟩ := ih fun x hx => h x (List.mem_cons_of_mem _ hx)
    exact ⟨p :: ps, by rw [hp, hps]; rfl⟩
theorem okTup_vars : ∀ {d : PyData}, okTup 0 4 okVar d = true → ∃ ps : Pl, d = placesD ps
  | .tuple ds, h => by
    have h2 : (decide (0 ≤ (ds.length : Int) ∧ (ds.length : Int) ≤ 4) && ds.all okVar) = true := h
    rw [Bool.and_eq_true, List.all_eq_true] at h2
    obtain ⟨ps, hps⟩ := vars_places h2.2
    exact ⟨ps, by rw [hps]; rfl⟩
  | .none, h => by cases h
  | .bool _, h => by cases h
  | .int _, h => by cases h
  | .str _, h => by cases h
  | .list _, h => by cases h
  | .dict _, h => by cases h
def intOf : PyData → Int
  | .int i => i
  | _ => 0
def okP : PyData → Bool
  | .tuple [vs, l, cs, ts] => okTup 0 4 okVar vs && (isInt 0 2 l && (okTup 1 6 (okCode (plOf vs) (intOf l) (clen cs)) cs && okTup 1 4 (okThread (clen cs)) ts))
  | _ => false
theorem row4 {d : PyData} (h : ¬(!isRow 4 4 d) = true) : ∃ a b c e, d = .tuple [a, b, c, e] := by
  obtain ⟨ds, rfl, h1, h2⟩ := row_tup h
  match ds, h1, h2 with
  | [a, b, c, e], _, _ => exact ⟨a, b, c, e, rfl⟩
  | [], h1, _ => exact absurd h1 (by simp)
  | [_], h1, _ => exact absurd h1 (by simp)
  | [_, _], h1, _ => exact absurd h1 (by simp)
  | [_, _, _], h1, _ => exact absurd h1 (by simp)
  | _ :: _ :: _ :: _ :: _ :: r, _, h2 => exact absurd h2 (by simp; omega)
theorem okP_row {d : PyData} (h : (!isRow 4 4 d) = true) : okP d = false := by
  cases d <;> first | rfl | skip
  rename_i ds
  match ds, h with
  | [], _ => rfl
  | [_], _ => rfl
  | [_, _], _ => rfl
  | [_, _, _], _ => rfl
  | [_, _, _, _], h => exact absurd h (by simp [isRow])
  | _ :: _ :: _ :: _ :: _ :: r, _ => rfl
set_option hygiene false
local macro_rules | `(tactic| walk_at "km") => `(tactic| (first
  | exact KeepM.refl
  | (refine KeepM.trans ?_ (KeepM.same (by assumption)); walk_at "km")
  | (refine KeepM.trans ?_ (Keep.toML (by assumption) (by assumption)); walk_at "km")
  | (refine KeepM.trans ?_ (Keep.toMD (by assumption) (by assumption)); walk_at "km")
  | (refine KeepM.trans ?_ (Keep.toM (by assumption) (by assumption) (by first | trivial | rfl)); walk_at "km")))
local macro_rules | `(tactic| walk_at "kp") => `(tactic| (first
  | exact Keep.refl
  | (refine Keep.trans ?_ (Keep.same (by assumption)); walk_at "kp")
  | (refine Keep.trans ?_ (by assumption); walk_at "kp")
  | (refine Keep.cell2 (by assumption) (by assumption) ?_; walk_at "kp")))
local macro_rules | `(tactic| walk_at "sm") => `(tactic| (first
  | exact Same.refl _
  | (refine Same.trans ?_ (by assumption); walk_at "sm")))
local macro_rules | `(tactic| walk_at "hat") => `(tactic| (first
  | assumption
  | (refine same_get (by assumption) ?_; walk_at "hat")
  | (refine Keep.get (by assumption) (by assumption) ?_; walk_at "hat")))
local macro_rules | `(tactic| walk_at "isd") => `(tactic| (with_reducible first
  | exact is_int | exact is_str | exact is_bl | exact is_non | assumption
  | (refine Is.keep ?_ (by assumption); walk_at "km")))
local macro_rules | `(tactic| walk_at "isall") => `(tactic| (repeat (with_reducible first | exact IsAll.nil | (apply IsAll.cons; (walk_at "isd")))))
local macro_rules | `(tactic| walk_at "pos") => `(tactic| (first | decide | assumption | omega | (simp only [decide_eq_false_iff_not] at *; omega)))
local macro_rules | `(tactic| walk_at "rd") => `(tactic| (with_reducible first
  | refine r_seq ?_ | refine r_asg ?_ | refine r_name ?_ | refine r_C ?_ | refine r_op ?_ | refine r_un ?_ | refine r_rU ?_ | refine r_I0 ?_ | refine r_eqI ?_ | refine r_neI ?_ | refine r_test ?_ | refine r_tB ?_ | refine r_exk ?_ | refine r_and ?_ | refine r_or ?_ | refine r_not ?_ | refine r_ifS ?_ | refine r_ret ?_ | refine r_next ?_ | refine r_drop ?_ | refine r_nil ?_ | refine r_cons ?_ | refine r_call ?_ | refine r_CB ?_ | refine r_tup ?_ | refine r_lst ?_ | refine r_sub ?_ | refine r_gCons ?_ | refine r_pc ?_ | refine r_pn ?_ | (refine r_disp ?_; intro p H2 hn hs hl) | refine r_eqS ?_ | refine r_sl ?_ | refine r_noPart ?_ | refine r_part ?_ | refine r_partK ?_ | refine r_jsF ?_ | refine r_jsN ?_ | refine r_dget ?_ | refine r_iZ ?_ | refine r_gNil ?_ | refine r_isTy ?_ | refine r_notTy ?_ | refine r_andV ?_ | refine r_chain ?_ | refine r_andK (fun h => ?_) (fun h => ?_) | refine r_chK (fun h => ?_) (fun h => ?_) | refine r_andKb (fun h => ?_) (fun h => ?_) | refine r_for ?_ | refine r_lc ?_ | refine r_iL ?_ | refine r_iT ?_ | refine r_iR ?_
  | (apply r_var; (focus ((with_unfolding_all rfl); done)))
  | (refine r_mod ?_ ?_; (focus ((walk_at "pos"); done)); intro m hm0 hm1)
  | (refine r_I ?_ ?_; (focus ((first | decide | (unfold CMul; omega) | (unfold CDiv; omega) | (unfold CPow; omega) | omega); done)))
  | (apply r_wipe; (focus ((with_unfolding_all rfl); done))) | refine r_yes ?_ | refine iteT ?_ | refine iteF ?_ | refine r_ifeq (fun h => ?_) (fun h => ?_) | refine r_ifd (fun h => ?_) (fun h => ?_) | refine r_ifnd (fun h => ?_) (fun h => ?_) | refine ite2 (fun h => ?_) (fun h => ?_)))
local macro_rules | `(tactic| walk_at "al") => `(tactic| (first
  | ((with_reducible apply r_newT (M := fun _ => True)); (focus (walk_at "isall"; done)); (with_unfolding_all exact Nat.le_of_ble_eq_true rfl); intro v H2 hs hi; (try (have hd2 := Drs.same (by assumption) hs)))
  | ((with_reducible apply r_newL); (with_unfolding_all exact Nat.le_of_ble_eq_true rfl); intro p H2 hn hs hl; (try (have hd2 := Drs.same (by assumption) hs)); (try (have hne := ne_dr (by assumption) hn)); (try (have hnu := ne_nu (by assumption) hn)))
  | ((with_reducible apply r_draw); (focus (assumption)); (intro n H2 hn hk hd))
  | ((with_reducible apply r_bm))
  | ((with_reducible apply r_app); (focus (walk_at "hat")); (focus ((refine size_lt ?_); (first | omega | (simp only [List.length_map]; omega) | (simp; omega)))); (intro H2 hold hk hl); (try (have hd2 := Drs.cellK (by assumption) hk (by assumption) (by assumption))))
  | ((with_reducible apply And.intro); (focus ((with_reducible apply r_tyL); (walk_at "hat"))))
  | ((with_reducible apply r_rng); (focus (first | assumption | omega)); (focus omega))
  | ((with_reducible apply r_local); (focus assumption); (focus (first | assumption | omega)); (intro d v H2 hi hok hk hd))
  | ((with_reducible apply r_visible); (focus assumption); (focus (walk_at "isd")); (focus assumption); (focus (first | assumption | omega)); (intro d v H2 hi hok hk hd))
  | ((with_reducible apply r_tupOf (M := fun _ => True)); (focus (walk_at "hat")); (focus (first | assumption | (refine IsAll.keep ?_ (by assumption); walk_at "km"))); (intro v H2 hs hi); (try (have hd2 := Drs.same (by assumption) hs)))
  | ((with_reducible apply r_int); (focus (walk_at "isd")))
  | ((with_reducible apply r_value); (focus (walk_at "isd")))
  | ((with_reducible apply r_row); (focus (walk_at "isd")))
  | ((with_reducible apply r_iTK); (focus (walk_at "hat")))
  | ((with_reducible apply r_gTup); (focus (walk_at "hat")); (focus ((with_unfolding_all rfl); done)))
  | ((with_reducible apply r_ix0T); (focus (walk_at "hat")))
  | ((with_reducible apply r_ixT); (focus (walk_at "hat")); (focus ((with_unfolding_all rfl); done)))
  | (with_reducible refine r_typeS ?_)
  | ((with_reducible apply r_type); (focus (walk_at "isd")))
  | (with_reducible refine ⟨_, _, rfl, rfl, (by assumption), ?_⟩)
  | ((with_reducible apply r_lenD); (focus (walk_at "isd")))
  | ((with_reducible apply r_lenT); (focus (walk_at "hat")))
  | ((with_reducible apply r_zipSK); (focus (walk_at "hat")))
  | ((with_reducible apply r_slT); (focus (walk_at "hat")); (intro p H2 hs hl))
  | ((with_reducible apply r_lenSh); (focus assumption))
  | ((with_reducible apply r_jsC); (focus (first | assumption | exact empty_len)); (focus decide); (focus decide); (intro acc' hacc))
  | ((with_reducible apply r_fmtS); (focus (first | assumption | exact empty_len)); (focus decide); (focus omega); (intro acc' hacc))
  | ((with_reducible apply r_fmtN); (focus (first | assumption | exact empty_len)); (focus decide); (focus assumption); (intro acc' hacc))
  | ((with_reducible apply r_bnd); (focus assumption); (intro p hp))
  | ((with_reducible apply r_cat (M := fun a => a = dr)); (focus (walk_at "isd")); (focus (walk_at "isd")); (focus (first | decide | (simp; done) | (simp; omega) | omega)); (intro v H2 hs hi); (try (have hd2 := Drs.same (by assumption) hs)))
  | ((with_reducible apply r_slTo (M := fun a => a = dr)); (focus (walk_at "isd")); (focus (first | decide | assumption | omega)); (intro v H2 hs hi); (try (have hd2 := Drs.same (by assumption) hs)))
  | ((with_reducible apply r_slFrom (M := fun a => a = dr)); (focus (walk_at "isd")); (focus (first | decide | assumption | omega)); (intro v H2 hs hi); (try (have hd2 := Drs.same (by assumption) hs)))
  | ((with_reducible apply r_rep (M := fun a => a = dr)); (focus (walk_at "isd")); (focus decide); (focus decide); (focus (first | (intro hnil; cases hnil) | assumption | simp)); (focus (first | decide | (simp; done) | (simp; omega))); (intro v H2 hs hi); (try (have hd2 := Drs.same (by assumption) hs)))
  | ((with_reducible apply r_listOf); (focus assumption); (focus (walk_at "isd")); (intro v H2 hs hi); (try (have hd2 := Drs.same (by assumption) hs)))
  | ((with_reducible apply r_ixStr (M := fun _ => True)); (focus (walk_at "isd")))
  | ((with_reducible apply r_cat (M := fun a => a = dr)); (focus (walk_at "isd")); (focus (walk_at "isd")); (focus (first | decide | (simp; done) | (simp; omega) | omega)); (intro v H2 hs hi); (try (have hd2 := Drs.same (by assumption) hs)))
  | ((with_reducible apply r_slTo (M := fun a => a = dr)); (focus (walk_at "isd")); (focus (first | decide | assumption | omega)); (intro v H2 hs hi); (try (have hd2 := Drs.same (by assumption) hs)))
  | ((with_reducible apply r_slFrom (M := fun a => a = dr)); (focus (walk_at "isd")); (focus (first | decide | assumption | omega)); (intro v H2 hs hi); (try (have hd2 := Drs.same (by assumption) hs)))
  | ((with_reducible apply r_rep (M := fun a => a = dr)); (focus (walk_at "isd")); (focus decide); (focus decide); (focus (first | (intro hnil; cases hnil) | assumption | simp)); (focus (first | decide | (simp; done) | (simp; omega))); (intro v H2 hs hi); (try (have hd2 := Drs.same (by assumption) hs)))
  | ((with_reducible apply r_listOf); (focus assumption); (focus (walk_at "isd")); (intro v H2 hs hi); (try (have hd2 := Drs.same (by assumption) hs)))
  | ((with_reducible apply r_ixStr (M := fun _ => True)); (focus (walk_at "isd")))
  | ((with_reducible apply r_cat (M := fun a => a = dr)); (focus (walk_at "isd")); (focus (walk_at "isd")); (focus (first | decide | (simp; done) | (simp; omega) | omega)); (intro v H2 hs hi); (try (have hd2 := Drs.same (by assumption) hs)))
  | ((with_reducible apply r_slTo (M := fun a => a = dr)); (focus (walk_at "isd")); (focus (first | decide | assumption | omega)); (intro v H2 hs hi); (try (have hd2 := Drs.same (by assumption) hs)))
  | ((with_reducible apply r_slFrom (M := fun a => a = dr)); (focus (walk_at "isd")); (focus (first | decide | assumption | omega)); (intro v H2 hs hi); (try (have hd2 := Drs.same (by assumption) hs)))
  | ((with_reducible apply r_rep (M := fun a => a = dr)); (focus (walk_at "isd")); (focus decide); (focus decide); (focus (first | (intro hnil; cases hnil) | assumption | simp)); (focus (first | decide | (simp; done) | (simp; omega))); (intro v H2 hs hi); (try (have hd2 := Drs.same (by assumption) hs)))
  | ((with_reducible apply r_listOf); (focus assumption); (focus (walk_at "isd")); (intro v H2 hs hi); (try (have hd2 := Drs.same (by assumption) hs)))
  | ((with_reducible apply r_ixStr (M := fun _ => True)); (focus (walk_at "isd")))
  | ((with_reducible apply r_cat (M := fun a => a = dr)); (focus (walk_at "isd")); (focus (walk_at "isd")); (focus (first | decide | (simp; done) | (simp; omega) | omega)); (intro v H2 hs hi); (try (have hd2 := Drs.same (by assumption) hs)))
  | ((with_reducible apply r_slTo (M := fun a => a = dr)); (focus (walk_at "isd")); (focus (first | decide | assumption | omega)); (intro v H2 hs hi); (try (have hd2 := Drs.same (by assumption) hs)))
  | ((with_reducible apply r_slFrom (M := fun a => a = dr)); (focus (walk_at "isd")); (focus (first | decide | assumption | omega)); (intro v H2 hs hi); (try (have hd2 := Drs.same (by assumption) hs)))
  | ((with_reducible apply r_rep (M := fun a => a = dr)); (focus (walk_at "isd")); (focus decide); (focus decide); (focus (first | (intro hnil; cases hnil) | assumption | simp)); (focus (first | decide | (simp; done) | (simp; omega))); (intro v H2 hs hi); (try (have hd2 := Drs.same (by assumption) hs)))
  | ((with_reducible apply r_listOf); (focus assumption); (focus (walk_at "isd")); (intro v H2 hs hi); (try (have hd2 := Drs.same (by assumption) hs)))
  | ((with_reducible apply r_ixStr (M := fun _ => True)); (focus (walk_at "isd")))
  | ((with_reducible apply r_cat (M := fun a => a = dr)); (focus (walk_at "isd")); (focus (walk_at "isd")); (focus (first | decide | (simp; done) | (simp; omega) | omega)); (intro v H2 hs hi); (try (have hd2 := Drs.same (by assumption) hs)))
  | ((with_reducible apply r_slTo (M := fun a => a = dr)); (focus (walk_at "isd")); (focus (first | decide | assumption | omega)); (intro v H2 hs hi); (try (have hd2 := Drs.same (by assumption) hs)))
  | ((with_reducible apply r_slFrom (M := fun a => a = dr)); (focus (walk_at "isd")); (focus (first | decide | assumption | omega)); (intro v H2 hs hi); (try (have hd2 := Drs.same (by assumption) hs)))
  | ((with_reducible apply r_rep (M := fun a => a = dr)); (focus (walk_at "isd")); (focus decide); (focus decide); (focus (first | (intro hnil; cases hnil) | assumption | simp)); (focus (first | decide | (simp; done) | (simp; omega))); (intro v H2 hs hi); (try (have hd2 := Drs.same (by assumption) hs)))
  | ((with_reducible apply r_listOf); (focus assumption); (focus (walk_at "isd")); (intro v H2 hs hi); (try (have hd2 := Drs.same (by assumption) hs)))
  | ((with_reducible apply r_ixStr (M := fun _ => True)); (focus (walk_at "isd")))
  | ((with_reducible apply r_cat (M := fun a => a = dr)); (focus (walk_at "isd")); (focus (walk_at "isd")); (focus (first | decide | (simp; done) | (simp; omega) | omega)); (intro v H2 hs hi); (try (have hd2 := Drs.same (by assumption) hs)))
  | ((with_reducible apply r_slTo (M := fun a => a = dr)); (focus (walk_at "isd")); (focus (first | decide | assumption | omega)); (intro v H2 hs hi); (try (have hd2 := Drs.same (by assumption) hs)))
  | ((with_reducible apply r_slFrom (M := fun a => a = dr)); (focus (walk_at "isd")); (focus (first | decide | assumption | omega)); (intro v H2 hs hi); (try (have hd2 := Drs.same (by assumption) hs)))
  | ((with_reducible apply r_rep (M := fun a => a = dr)); (focus (walk_at "isd")); (focus decide); (focus decide); (focus (first | (intro hnil; cases hnil) | assumption | simp)); (focus (first | decide | (simp; done) | (simp; omega))); (intro v H2 hs hi); (try (have hd2 := Drs.same (by assumption) hs)))
  | ((with_reducible apply r_listOf); (focus assumption); (focus (walk_at "isd")); (intro v H2 hs hi); (try (have hd2 := Drs.same (by assumption) hs)))
  | ((with_reducible apply r_ixStr); (focus assumption))
  | ((with_reducible apply r_cat (M := fun a => a = dr)); (focus (walk_at "isd")); (focus (walk_at "isd")); (focus (first | decide | (simp; done) | (simp; omega) | omega)); (intro v H2 hs hi); (try (have hd2 := Drs.same (by assumption) hs)))
  | ((with_reducible apply r_slTo (M := fun a => a = dr)); (focus (walk_at "isd")); (focus (first | decide | assumption | omega)); (intro v H2 hs hi); (try (have hd2 := Drs.same (by assumption) hs)))
  | ((with_reducible apply r_slFrom (M := fun a => a = dr)); (focus (walk_at "isd")); (focus (first | decide | assumption | omega)); (intro v H2 hs hi); (try (have hd2 := Drs.same (by assumption) hs)))
  | ((with_reducible apply r_rep (M := fun a => a = dr)); (focus (walk_at "isd")); (focus decide); (focus decide); (focus (first | (intro hnil; cases hnil) | assumption | simp)); (focus (first | decide | (simp; done) | (simp; omega))); (intro v H2 hs hi); (try (have hd2 := Drs.same (by assumption) hs)))
  | ((with_reducible apply r_listOf); (focus assumption); (focus (walk_at "isd")); (intro v H2 hs hi); (try (have hd2 := Drs.same (by assumption) hs)))
  | ((with_reducible apply r_ixStr); (focus assumption))
  | ((with_reducible apply r_cat (M := fun a => a = dr)); (focus (walk_at "isd")); (focus (walk_at "isd")); (focus (first | decide | (simp; done) | (simp; omega) | omega)); (intro v H2 hs hi); (try (have hd2 := Drs.same (by assumption) hs)))
  | ((with_reducible apply r_slTo (M := fun a => a = dr)); (focus (walk_at "isd")); (focus (first | decide | assumption | omega)); (intro v H2 hs hi); (try (have hd2 := Drs.same (by assumption) hs)))
  | ((with_reducible apply r_slFrom (M := fun a => a = dr)); (focus (walk_at "isd")); (focus (first | decide | assumption | omega)); (intro v H2 hs hi); (try (have hd2 := Drs.same (by assumption) hs)))
  | ((with_reducible apply r_rep (M := fun a => a = dr)); (focus (walk_at "isd")); (focus decide); (focus decide); (focus (first | (intro hnil; cases hnil) | assumption | simp)); (focus (first | decide | (simp; done) | (simp; omega))); (intro v H2 hs hi); (try (have hd2 := Drs.same (by assumption) hs)))
  | ((with_reducible apply r_listOf); (focus assumption); (focus (walk_at "isd")); (intro v H2 hs hi); (try (have hd2 := Drs.same (by assumption) hs)))
  | ((with_reducible apply r_ixStr); (focus assumption))
  | ((with_reducible apply r_cat (M := fun a => a = dr)); (focus (walk_at "isd")); (focus (walk_at "isd")); (focus (first | decide | (simp; done) | (simp; omega) | omega)); (intro v H2 hs hi); (try (have hd2 := Drs.same (by assumption) hs)))
  | ((with_reducible apply r_slTo (M := fun a => a = dr)); (focus (walk_at "isd")); (focus (first | decide | assumption | omega)); (intro v H2 hs hi); (try (have hd2 := Drs.same (by assumption) hs)))
  | ((with_reducible apply r_slFrom (M := fun a => a = dr)); (focus (walk_at "isd")); (focus (first | decide | assumption | omega)); (intro v H2 hs hi); (try (have hd2 := Drs.same (by assumption) hs)))
  | ((with_reducible apply r_rep (M := fun a => a = dr)); (focus (walk_at "isd")); (focus decide); (focus decide); (focus (first | (intro hnil; cases hnil) | assumption | simp)); (focus (first | decide | (simp; done) | (simp; omega))); (intro v H2 hs hi); (try (have hd2 := Drs.same (by assumption) hs)))
  | ((with_reducible apply r_listOf); (focus assumption); (focus (walk_at "isd")); (intro v H2 hs hi); (try (have hd2 := Drs.same (by assumption) hs)))
  | ((with_reducible apply r_ixStr); (focus assumption))
  | ((with_reducible apply r_cat (M := fun a => a = dr)); (focus (walk_at "isd")); (focus (walk_at "isd")); (focus (first | decide | (simp; done) | (simp; omega) | omega)); (intro v H2 hs hi); (try (have hd2 := Drs.same (by assumption) hs)))
  | ((with_reducible apply r_slTo (M := fun a => a = dr)); (focus (walk_at "isd")); (focus (first | decide | assumption | omega)); (intro v H2 hs hi); (try (have hd2 := Drs.same (by assumption) hs)))
  | ((with_reducible apply r_slFrom (M := fun a => a = dr)); (focus (walk_at "isd")); (focus (first | decide | assumption | omega)); (intro v H2 hs hi); (try (have hd2 := Drs.same (by assumption) hs)))
  | ((with_reducible apply r_rep (M := fun a => a = dr)); (focus (walk_at "isd")); (focus decide); (focus decide); (focus (first | (intro hnil; cases hnil) | assumption | simp)); (focus (first | decide | (simp; done) | (simp; omega))); (intro v H2 hs hi); (try (have hd2 := Drs.same (by assumption) hs)))
  | ((with_reducible apply r_listOf); (focus assumption); (focus (walk_at "isd")); (intro v H2 hs hi); (try (have hd2 := Drs.same (by assumption) hs)))
  | ((with_reducible apply r_ixStr); (focus assumption))
  | ((with_reducible apply r_cat (M := fun a => a = dr)); (focus (walk_at "isd")); (focus (walk_at "isd")); (focus (first | decide | (simp; done) | (simp; omega) | omega)); (intro v H2 hs hi); (try (have hd2 := Drs.same (by assumption) hs)))
  | ((with_reducible apply r_slTo (M := fun a => a = dr)); (focus (walk_at "isd")); (focus (first | decide | assumption | omega)); (intro v H2 hs hi); (try (have hd2 := Drs.same (by assumption) hs)))
  | ((with_reducible apply r_slFrom (M := fun a => a = dr)); (focus (walk_at "isd")); (focus (first | decide | assumption | omega)); (intro v H2 hs hi); (try (have hd2 := Drs.same (by assumption) hs)))
  | ((with_reducible apply r_rep (M := fun a => a = dr)); (focus (walk_at "isd")); (focus decide); (focus decide); (focus (first | (intro hnil; cases hnil) | assumption | simp)); (focus (first | decide | (simp; done) | (simp; omega))); (intro v H2 hs hi); (try (have hd2 := Drs.same (by assumption) hs)))
  | ((with_reducible apply r_listOf); (focus assumption); (focus (walk_at "isd")); (intro v H2 hs hi); (try (have hd2 := Drs.same (by assumption) hs)))
  | ((with_reducible apply r_ixStr); (focus assumption))
  | ((with_reducible apply r_cat (M := fun a => a = dr)); (focus (walk_at "isd")); (focus (walk_at "isd")); (focus (first | decide | (simp; omega) | omega)); (intro v H2 hs hi); (try (have hd2 := Drs.same (by assumption) hs)))
  | ((with_reducible apply r_slTo (M := fun a => a = dr)); (focus (walk_at "isd")); (focus (first | decide | assumption | omega)); (intro v H2 hs hi); (try (have hd2 := Drs.same (by assumption) hs)))
  | ((with_reducible apply r_slFrom (M := fun a => a = dr)); (focus (walk_at "isd")); (focus (first | decide | assumption | omega)); (intro v H2 hs hi); (try (have hd2 := Drs.same (by assumption) hs)))
  | ((with_reducible apply r_rep (M := fun a => a = dr)); (focus (walk_at "isd")); (focus decide); (focus decide); (focus (first | (intro hnil; cases hnil) | assumption | simp)); (focus (first | decide | (simp; omega))); (intro v H2 hs hi); (try (have hd2 := Drs.same (by assumption) hs)))
  | ((with_reducible apply r_listOf); (focus assumption); (focus (walk_at "isd")); (intro v H2 hs hi); (try (have hd2 := Drs.same (by assumption) hs)))
  | ((with_reducible apply r_ixStr); (focus assumption))
  | ((with_reducible apply r_cat (M := fun a => a = dr)); (focus (walk_at "isd")); (focus (walk_at "isd")); (focus (first | decide | (simp; omega) | omega)); (intro v H2 hs hi); (try (have hd2 := Drs.same (by assumption) hs)))
  | ((with_reducible apply r_slTo (M := fun a => a = dr)); (focus (walk_at "isd")); (focus (first | decide | assumption | omega)); (intro v H2 hs hi); (try (have hd2 := Drs.same (by assumption) hs)))
  | ((with_reducible apply r_slFrom (M := fun a => a = dr)); (focus (walk_at "isd")); (focus (first | decide | assumption | omega)); (intro v H2 hs hi); (try (have hd2 := Drs.same (by assumption) hs)))
  | ((with_reducible apply r_rep (M := fun a => a = dr)); (focus (walk_at "isd")); (focus decide); (focus decide); (focus (first | (intro hnil; cases hnil) | assumption | simp)); (focus (first | decide | (simp; omega))); (intro v H2 hs hi); (try (have hd2 := Drs.same (by assumption) hs)))
  | ((with_reducible apply r_listOf); (focus assumption); (focus (walk_at "isd")); (intro v H2 hs hi); (try (have hd2 := Drs.same (by assumption) hs)))
  | ((with_reducible apply r_ixStr); (focus assumption))
  | ((with_reducible apply r_cat (M := fun a => a = dr)); (focus (walk_at "isd")); (focus (walk_at "isd")); (focus (first | decide | (simp; omega) | omega)); (intro v H2 hs hi); (try (have hd2 := Drs.same (by assumption) hs)))
  | ((with_reducible apply r_slTo (M := fun a => a = dr)); (focus (walk_at "isd")); (focus (first | decide | assumption | omega)); (intro v H2 hs hi); (try (have hd2 := Drs.same (by assumption) hs)))
  | ((with_reducible apply r_slFrom (M := fun a => a = dr)); (focus (walk_at "isd")); (focus (first | decide | assumption | omega)); (intro v H2 hs hi); (try (have hd2 := Drs.same (by assumption) hs)))
  | ((with_reducible apply r_rep (M := fun a => a = dr)); (focus (walk_at "isd")); (focus decide); (focus decide); (focus (first | (intro hnil; cases hnil) | assumption | simp)); (focus (first | decide | (simp; omega))); (intro v H2 hs hi); (try (have hd2 := Drs.same (by assumption) hs)))
  | ((with_reducible apply r_listOf); (focus assumption); (focus (walk_at "isd")); (intro v H2 hs hi); (try (have hd2 := Drs.same (by assumption) hs)))
  | ((with_reducible apply r_ixStr); (focus assumption))
  | ((with_reducible apply r_cat (M := fun a => a = dr)); (focus (walk_at "isd")); (focus (walk_at "isd")); (focus (first | decide | (simp; omega) | omega)); (intro v H2 hs hi); (try (have hd2 := Drs.same (by assumption) hs)))
  | ((with_reducible apply r_slTo (M := fun a => a = dr)); (focus (walk_at "isd")); (focus (first | decide | assumption | omega)); (intro v H2 hs hi); (try (have hd2 := Drs.same (by assumption) hs)))
  | ((with_reducible apply r_slFrom (M := fun a => a = dr)); (focus (walk_at "isd")); (focus (first | decide | assumption | omega)); (intro v H2 hs hi); (try (have hd2 := Drs.same (by assumption) hs)))
  | ((with_reducible apply r_rep (M := fun a => a = dr)); (focus (walk_at "isd")); (focus decide); (focus decide); (focus (first | (intro hnil; cases hnil) | assumption | simp)); (focus (first | decide | (simp; omega))); (intro v H2 hs hi); (try (have hd2 := Drs.same (by assumption) hs)))
  | ((with_reducible apply r_listOf); (focus assumption); (focus (walk_at "isd")); (intro v H2 hs hi); (try (have hd2 := Drs.same (by assumption) hs)))
  | ((with_reducible apply r_ixStr); (focus assumption))
  | ((with_reducible apply r_lenL); (focus (walk_at "hat")))
  | ((with_reducible apply r_setL); (focus (walk_at "hat")); (focus ((with_unfolding_all rfl); done)); (intro H2 hk hl))
  | ((with_reducible apply r_ixMk); (focus (walk_at "hat")); (focus (assumption)); (focus assumption); (focus ((simp only [List.length_cons, List.length_nil]); decide)))
  | ((with_reducible apply r_ixI); (focus (walk_at "hat")); (focus (omega)); (focus (omega)); (intro n hn))
  | ((with_reducible apply r_mixed); (intro n hn0 hn1))
  | ((with_reducible apply r_lenP); (focus (walk_at "isd")))
  | ((with_reducible apply r_ixP); (focus (walk_at "isd")); (focus assumption); (focus assumption); (intro j pp u hj hp hu))
  | ((with_reducible apply r_ixP1); (focus assumption))
  | ((with_reducible apply r_ixL); (focus (walk_at "hat")); (focus ((with_unfolding_all rfl); done)))
  | (with_reducible refine r_memc ?_ ?_) | (with_reducible exact r_memn)))
local macro_rules | `(tactic| walk_at "go") => `(tactic| (repeat' (first | walk_at "rd" | walk_at "al")))

section
variable {K : PySem.W.Frag} {P : Program} {mg : Str → Option Value} {w : World} {base : Heap}
def sp_code (C : Addr) : Sp := fun vs H Q E => ∃ (M : Addr → Prop) (c : PyData) (v vp : V) (ps : Pl) (locks : Int) (cs : List PyData) (ts : PyData), vs = [v, vp] ∧ Is M H c v ∧ Is M H (.tuple [placesD ps, .int locks, .tuple cs, ts]) vp ∧ (okCode ps locks cs.length c = true → ∀ H', Same H H' → Q .non H') ∧ (okCode ps locks cs.length c = false → ∀ H', Same H H' → E (.ref C) none H')
theorem r_instr {C : Addr} {M : Addr → Prop} {d : PyData} {v : V} {bd : Addr} {vv : V} {ps : Pl} {locks many len : Int} {H : Hp} {Q : VK} {E : XK} (h : Is M H d v) (b : Bnds ps locks many len bd H) (p : Is M H (placesD ps) vv) (q : okI ps locks many len d = true → ∀ H', Same H H' → Q .non H') (e : okI ps locks many len d = false → ∀ H', Same H H' → E (.ref C) none H') : sp_instr C ([v, .ref bd, vv] ++ []) H Q E := ⟨M, d, v, bd, vv, ps, locks, many, len, rfl, h, b, p, q, e⟩
theorem ok_code (T : Txt K mg) (T2 : Txt2 K w mg) : FnOk P w K mg base (L2.CX P w) 3 T.f_check_code T.d_check_code ["code", "program"] (sp_code T2.C) := by
  have G_is_row : FnOk P w K mg base CX0 1 T.f_is_row T.d_is_row ["row", "least", "greatest"] sp_row := ok_row T
  have G_check_instruction : FnOk P w K mg base (L2.CX P w) 2 T.f_check_instruction T.d_check_instruction ["instruction", "bounds", "variables"] (sp_instr T2.C) := ok_instr T T2
  refine T.F_check_code.okX sc_check_code (fun vs H Q E h => ?_) (fun cdv A outer s H vs Q E hr h => ?_)
  · obtain ⟨_, _, _, _, _, _, _, _, rfl, _⟩ := h
    rfl
  · obtain ⟨M, c, v, vp, ps, locks, cs, ts, rfl, hI, hP, q, e⟩ := h
    have nd := sc_check_code.nd
    refine ⟨_, (pss_cons (ps_if (pt_not (pt_val (pe_call G_is_row (hr.mono (by decide)) (by rfl) T.m_is_row T.F_is_row.kp T.b_is_row .nil pass0 (pa_cons (pv 0) (pa_cons pe_int (pa_cons pe_int pa_nil)))))) (pss_one (ps_raise rfl (takes_of rfl rfl rfl rfl) (pmk_own PySem.F.excBase_ValueError T2.x_BadProgram T2.m_BadProgram T2.k_BadProgram (raises_own T2.sb_BadProgram T2.ty_BadProgram) rfl))) pss_nil)
      (pss_cons (ps_asg (pv 1) (pg_tup rfl (pgs_cons (pg_name (i := 2) nd rfl (.inl rfl)) (pgs_cons (pg_name (i := 3) nd rfl (.inl rfl)) (pgs_cons (pg_name (i := 4) nd rfl (.inl rfl)) (pgs_cons (pg_name (i := 5) nd rfl (.inl rfl)) pgs_nil))))))
      (pss_cons (ps_set (i := 6) nd rfl (.inl rfl) (pe_disp (pps_cons pe_str (pe_tup (pa_cons pe_int (pa_cons (pe_op op_sub (pe_globI rfl T.m_REGISTERS) pe_int) pa_nil))) (pps_cons pe_str (pe_tup (pa_cons (pe_globI rfl T.m_LEAST_VALUE) (pa_cons (pe_globI rfl T.m_GREATEST_VALUE) pa_nil))) (pps_cons pe_str (pe_tup (pa_cons pe_int (pa_cons (pe_callB call_len (by rfl) T.m_len PySem.boot_len (pa_cons (pv 0) pa_nil)) pa_nil))) (pps_cons pe_str (pe_tup (pa_cons pe_int (pa_cons (pe_op op_sub (pe_callB call_len (by rfl) T.m_len PySem.boot_len (pa_cons (pv 2) pa_nil)) pe_int) pa_nil))) (pps_cons pe_str (pe_tup (pa_cons pe_int (pa_cons (pe_op op_sub (pe_callB call_len (by rfl) T.m_len PySem.boot_len (pa_cons (pv 2) pa_nil)) pe_int) pa_nil))) (pps_cons pe_str (pe_tup (pa_cons pe_int (pa_cons (pe_op op_sub (pv 3) pe_int) pa_nil))) (pps_cons pe_str (pe_tup (pa_cons pe_int (pa_cons (pe_op op_sub (pe_callB call_len (by rfl) T.m_len PySem.boot_len (pa_cons (pv 4) pa_nil)) pe_int) pa_nil))) pps_nil))))))) (by rfl) (by rfl) (fun z => by cases z) (by decide)))
      (pss_one (ps_for (passes_of rfl) rfl (pi_tup (pv 0)) (pg_name (i := 7) nd rfl (.inl rfl)) (pss_one (ps_expr (pe_call G_check_instruction (hr.mono (by decide)) (by rfl) T.m_check_instruction T.F_check_instruction.kp T.b_check_instruction .nil (passes_call (takes_of rfl rfl rfl rfl) (fun _ _ _ _ h => h)) (pa_cons (pv 7) (pa_cons (pv 6) (pa_cons (pv 2) pa_nil))))))))))), ?_⟩
    walk_at "go"
    · exact e (tup_row h) H (Same.refl _)
    · obtain ⟨is, rfl, hlen⟩ := row_tup h
      obtain ⟨a, xs, rfl, hT, hA⟩ := id hI
      obtain ⟨b, ys, rfl, hTp, v1, r1, rfl, i1, v2, r2, rfl, i2, v3, r3, rfl, i3, v4, r4, rfl, i4, rfl⟩ := hP
      cases i2
      walk_at "go"
      have hp2 : H2 p = some (.dK []) := by walk_at "hat"
      refine ⟨hp2, [(letter .r, _), (letter .v, _), (letter .n, _), (letter .x, _), (letter .s, _), (letter .l, _), (letter .k, _)], by with_unfolding_all rfl, Nat.le_of_ble_eq_true rfl, ?_⟩
      generalize hg : HO.dK (mergeK [] [(letter .r, _), (letter .v, _), (letter .n, _), (letter .x, _), (letter .s, _), (letter .l, _), (letter .k, _)]) = od
      have hk3 : Keep p H2 (upd H2 p od) := Keep.upd
      have hl3 : (upd H2 p od) p = some od := upd_same
      generalize upd H2 p od = H3 at hk3 hl3 ⊢
      subst hg
      have hB : Bnds ps locks cs.length is.length p H3 := bnds_of (M := fun _ => True) hl3 (Is.keep2 (by assumption) (by walk_at "km")) (Is.keep2 (by assumption) (by walk_at "km")) (Is.keep2 (by assumption) (by walk_at "km")) (Is.keep2 (by assumption) (by walk_at "km")) (Is.keep2 (by assumption) (by walk_at "km")) (Is.keep2 (by assumption) (by walk_at "km")) (Is.keep2 (by assumption) (by walk_at "km"))
      have sH : Same H H3 := Same.cell (by walk_at "sm" : Same H H2) hn hk3
      walk_at "go"
      refine for_chk (okI ps locks cs.length is.length) (fun σ => ∃ y7, σ = [some (.ref a), some (.ref b), some v1, some (.int locks), some v3, some v4, some (.ref p), y7]) (sH _ _ hT) (IsAll.keep (KeepM.same sH) hA) ⟨_, rfl⟩ (fun d x σ H4 N hdm hd hS sm hN => ?_) (fun σ H4 hS sm hall => ?_)
      · obtain ⟨y7, rfl⟩ := hS
        walk_at "go"
        refine r_instr hd (hB.same sm) (Is.keep (KeepM.same (Same.trans sH sm)) i1) (fun z H' s' => hN _ _ z ⟨_, rfl⟩ (Same.trans sm s')) (fun z H' s' => e (tup_bad hdm z) H' (Same.trans (Same.trans sH sm) s'))
      · walk_at "go"
        exact q (tup_ok hlen hall) H4 (Same.trans sH sm)
theorem r_chkv {C : Addr} {ok : PyData → Bool} {M : Addr → Prop} {d : PyData} {v : V} {H : Hp} {Q : VK} {E : XK} (h : Is M H d v) (q : ok d = true → ∀ H', Same H H' → Q .non H') (e : ok d = false → ∀ H', Same H H' → E (.ref C) none H') : sp_check C ok ([v] ++ []) H Q E := ⟨M, d, v, rfl, h, q, e⟩
theorem r_chk2 {C : Addr} {ok : Int → PyData → Bool} {M : Addr → Prop} {d : PyData} {v : V} {n : Int} {H : Hp} {Q : VK} {E : XK} (h : Is M H d v) (q : ok n d = true → ∀ H', Same H H' → Q .non H') (e : ok n d = false → ∀ H', Same H H' → E (.ref C) none H') : sp_check2 C ok ([v, .int n] ++ []) H Q E := ⟨M, d, v, n, rfl, h, q, e⟩
theorem r_code {C : Addr} {M : Addr → Prop} {c : PyData} {v vp : V} {ps : Pl} {locks : Int} {cs : List PyData} {ts : PyData} {H : Hp} {Q : VK} {E : XK} (h : Is M H c v) (p : Is M H (.tuple [placesD ps, .int locks, .tuple cs, ts]) vp) (q : okCode ps locks cs.length c = true → ∀ H', Same H H' → Q .non H') (e : okCode ps locks cs.length c = false → ∀ H', Same H H' → E (.ref C) none H') : sp_code C ([v, vp] ++ []) H Q E := ⟨M, c, v, vp, ps, locks, cs, ts, rfl, h, p, q, e⟩
theorem okP_eq {vs l cs ts : PyData} : okP (.tuple [vs, l, cs, ts]) = (okTup 0 4 okVar vs && (isInt 0 2 l && (okTup 1 6 (okCode (plOf vs) (intOf l) (clen cs)) cs && okTup 1 4 (okThread (clen cs)) ts))) := rfl
theorem ok_prog (T : Txt K mg) (T2 : Txt2 K w mg) : FnOk P w K mg base (L2.CX P w) 4 T.f_check_program T.d_check_program ["program"] (sp_check T2.C okP) := by
  have G_is_row : FnOk P w K mg base CX0 1 T.f_is_row T.d_is_row ["row", "least", "greatest"] sp_row := ok_row T
  have G_is_integer : FnOk P w K mg base CX0 1 T.f_is_integer T.d_is_integer ["number", "least", "greatest"] sp_int := ok_int T
  have G_check_variables : FnOk P w K mg base (L2.CX P w) 3 T.f_check_variables T.d_check_variables ["variables"] (sp_check T2.C (okTup 0 4 okVar)) := ok_vars T T2
  have G_check_threads : FnOk P w K mg base (L2.CX P w) 3 T.f_check_threads T.d_check_threads ["threads", "many_codes"] (sp_check2 T2.C (fun n => okTup 1 4 (okThread n))) := ok_threads T T2
  have G_check_code : FnOk P w K mg base (L2.CX P w) 3 T.f_check_code T.d_check_code ["code", "program"] (sp_code T2.C) := ok_code T T2
  refine T.F_check_program.okX sc_check_program (fun vs H Q E h => ?_) (fun cdv A outer s H vs Q E hr h => ?_)
  · obtain ⟨_, _, _, rfl, _⟩ := h
    rfl
  · obtain ⟨M, d, v, rfl, hI, q, e⟩ := h
    have nd := sc_check_program.nd
    refine ⟨_, (pss_cons (ps_if (pt_not (pt_val (pe_call G_is_row (hr.mono (by decide)) (by rfl) T.m_is_row T.F_is_row.kp T.b_is_row .nil pass0 (pa_cons (pv 0) (pa_cons pe_int (pa_cons pe_int pa_nil)))))) (pss_one (ps_raise rfl (takes_of rfl rfl rfl rfl) (pmk_own PySem.F.excBase_ValueError T2.x_BadProgram T2.m_BadProgram T2.k_BadProgram (raises_own T2.sb_BadProgram T2.ty_BadProgram) rfl))) pss_nil)
      (pss_cons (ps_asg (pv 0) (pg_tup rfl (pgs_cons (pg_name (i := 1) nd rfl (.inl rfl)) (pgs_cons (pg_name (i := 2) nd rfl (.inl rfl)) (pgs_cons (pg_name (i := 3) nd rfl (.inl rfl)) (pgs_cons (pg_name (i := 4) nd rfl (.inl rfl)) pgs_nil))))))
      (pss_cons (ps_expr (pe_call G_check_variables (hr.mono (by decide)) (by rfl) T.m_check_variables T.F_check_variables.kp T.b_check_variables .nil (passes_call (takes_of rfl rfl rfl rfl) (fun _ _ _ _ h => h)) (pa_cons (pv 1) pa_nil)))
      (pss_cons (ps_if (pt_not (pt_val (pe_call G_is_integer (hr.mono (by decide)) (by rfl) T.m_is_integer T.F_is_integer.kp T.b_is_integer .nil pass0 (pa_cons (pv 2) (pa_cons pe_int (pa_cons pe_int pa_nil)))))) (pss_one (ps_raise rfl (takes_of rfl rfl rfl rfl) (pmk_own PySem.F.excBase_ValueError T2.x_BadProgram T2.m_BadProgram T2.k_BadProgram (raises_own T2.sb_BadProgram T2.ty_BadProgram) rfl))) pss_nil)
      (pss_cons (ps_if (pt_not (pt_val (pe_call G_is_row (hr.mono (by decide)) (by rfl) T.m_is_row T.F_is_row.kp T.b_is_row .nil pass0 (pa_cons (pv 3) (pa_cons pe_int (pa_cons pe_int pa_nil)))))) (pss_one (ps_raise rfl (takes_of rfl rfl rfl rfl) (pmk_own PySem.F.excBase_ValueError T2.x_BadProgram T2.m_BadProgram T2.k_BadProgram (raises_own T2.sb_BadProgram T2.ty_BadProgram) rfl))) pss_nil)
      (pss_cons (ps_for (passes_of rfl) rfl (pi_tup (pv 3)) (pg_name (i := 5) nd rfl (.inl rfl)) (pss_one (ps_expr (pe_call G_check_code (hr.mono (by decide)) (by rfl) T.m_check_code T.F_check_code.kp T.b_check_code .nil (passes_call (takes_of rfl rfl rfl rfl) (fun _ _ _ _ h => h)) (pa_cons (pv 5) (pa_cons (pv 0) pa_nil))))))
      (pss_one (ps_expr (pe_call G_check_threads (hr.mono (by decide)) (by rfl) T.m_check_threads T.F_check_threads.kp T.b_check_threads .nil (passes_call (takes_of rfl rfl rfl rfl) (fun _ _ _ _ h => h)) (pa_cons (pv 4) (pa_cons (pe_callB call_len (by rfl) T.m_len PySem.boot_len (pa_cons (pv 3) pa_nil)) pa_nil))))))))))), ?_⟩
    walk_at "go"
    · exact e (okP_row h) H (Same.refl _)
    · obtain ⟨dv, dl, dc, dt, rfl⟩ := row4 h
      rw [okP_eq] at q e
      obtain ⟨b, ys, rfl, hTp, v1, r1, rfl, i1, v2, r2, rfl, i2, v3, r3, rfl, i3, v4, r4, rfl, i4, rfl⟩ := id hI
      walk_at "go"
      refine r_chkv i1 (fun z H1 s1 => ?_) (fun z H1 s1 => e (by rw [z]; rfl) H1 s1)
      rw [z, Bool.true_and] at q e
      obtain ⟨ps, rfl⟩ := okTup_vars z
      rw [plOf_places] at q e
      walk_at "go"
      · exact e (by rw [show isInt 0 2 dl = false by simpa using h]; rfl) H1 s1
      · exact e (by rw [tup_row h, Bool.false_and, Bool.and_false]) H1 s1
      · have z2 : isInt 0 2 dl = true := by simpa using ‹¬(!isInt 0 2 dl) = true›
        rw [z2, Bool.true_and] at q e
        obtain ⟨cs, rfl, hl⟩ := row_tup h
        obtain ⟨lk, rfl, l0, l1⟩ := isInt_ex z2
        obtain ⟨c, cv, rfl, hTc, hAc⟩ := id i3
        cases i2
        have hI1 := Is.keep (KeepM.same s1) hI
        refine r_iTK (s1 _ _ hTc) ?_
        refine for_chk (okCode ps lk cs.length) (fun σ => ∃ y5, σ = [some (.ref b), some v1, some (.int lk), some (.ref c), some v4, y5]) (s1 _ _ hTc) (IsAll.keep (KeepM.same s1) hAc) ⟨_, rfl⟩ (fun d x σ H4 N hdm hd hS sm hN => ?_) (fun σ H4 hS sm hall => ?_)
        · obtain ⟨y5, rfl⟩ := hS
          walk_at "go"
          exact r_code hd (Is.keep (KeepM.same sm) hI1) (fun z H' s' => hN _ _ z ⟨_, rfl⟩ (Same.trans sm s')) (fun z H' s' => e (by rw [show okTup 1 6 (okCode ps (intOf (.int lk)) (clen (.tuple cs))) (.tuple cs) = false from tup_bad hdm z]; rfl) H' (Same.trans (Same.trans s1 sm) s'))
        · obtain ⟨y5, rfl⟩ := hS
          have hc1 : okTup 1 6 (okCode ps (intOf (.int lk)) (clen (.tuple cs))) (.tuple cs) = true := tup_ok hl hall
          rw [hc1, Bool.true_and] at q e
          have i4' := Is.keep (KeepM.same (Same.trans s1 sm)) i4
          have hTc4 := sm _ _ (s1 _ _ hTc)
          have lcs := hAc.len
          walk_at "go"
          exact r_chk2 (ok := fun n => okTup 1 4 (okThread n)) i4' (fun z H' s' => q z H' (Same.trans (Same.trans s1 sm) s')) (fun z H' s' => e z H' (Same.trans (Same.trans s1 sm) s'))
end
end EW
set_option Elab.async false
set_option linter.all false
set_option maxRecDepth 100000
set_option maxHeartbeats 16000000
namespace EW
open L2 PyProof.Rows PySem.Spec PySem
section
variable {σ : L2.St} {H : Hp} {Q : VK} {D : Ends} {K : PySem.W.Frag} {M : Addr → Prop}
theorem newT_is {xs : List V} {ds : List PyData} (hi : IsAll M H ds xs) {p : Addr} (hp : H p = none) : Is M (upd H p (.tup xs)) (.tuple ds) (.ref p) := ⟨p, xs, rfl, upd_same, IsAll.keep (KeepM.same (same_upd hp)) hi⟩
theorem r_cat {ds es : List PyData} {v u : V} (h1 : Is M H (.tuple ds) v) (h2 : Is M H (.tuple es) u) (hl : ds.length + es.length ≤ 1000) (q : ∀ x H2, Same H H2 → Is M H2 (.tuple (ds ++ es)) x → Q x H2) : rCatA K v u H Q := by
  obtain ⟨a, xs, rfl, ha, ia⟩ := id h1
  obtain ⟨b, ys, rfl, hb, ib⟩ := id h2
  have l1 := ia.len
  have l2 := ib.len
  refine ⟨a, b, xs, ys, rfl, rfl, .inl (.inl ha), .inl (.inl hb), size1000 (by omega), fun e => ?_, fun _ e => ?_, fun _ _ p hp => ?_⟩
  · subst e
    have : ds = [] := List.eq_nil_of_length_eq_zero (by simpa using l1)
    subst this
    exact q _ _ (Same.refl _) h2
  · subst e
    have : es = [] := List.eq_nil_of_length_eq_zero (by simpa using l2)
    subst this
    exact q _ _ (Same.refl _) (by rw [List.append_nil]; exact h1)
  · exact q _ _ (same_upd hp) (newT_is (IsAll.append ia ib) hp)
theorem sl_core {ds : List PyData} {v : V} {lo hi : Option Int} {a b : Nat} (h : Is M H (.tuple ds) v) (e1 : HT.sIx ds.length 0 lo = a) (e2 : HT.sIx ds.length ds.length hi = b) (q : ∀ x H2, Same H H2 → Is M H2 (.tuple ((ds.drop a).take (b - a))) x → Q x H2) : rSlA K v lo hi H Q := by
  obtain ⟨p, xs, rfl, hp, ia⟩ := id h
  have l1 := ia.len
  rw [l1] at e1 e2
  refine ⟨p, xs, rfl, .inl (.inl hp), fun ⟨z1, z2⟩ => ?_, fun _ t ht => ?_⟩
  · rw [e1] at z1; rw [e2] at z2
    subst z1 z2
    exact q _ _ (Same.refl _) (by rw [List.drop_zero, Nat.sub_zero, ← l1, List.take_length]; exact h)
  · have e : cutV xs lo hi = (xs.drop a).take (b - a) := by unfold cutV; rw [e1, e2]
    rw [e]
    exact q _ _ (same_upd ht) (newT_is (IsAll.take _ (IsAll.drop _ ia)) ht)
theorem r_slTo {ds : List PyData} {v : V} {k : Int} (h : Is M H (.tuple ds) v) (h0 : 0 ≤ k) (q : ∀ x H2, Same H H2 → Is M H2 (.tuple (ds.take k.toNat)) x → Q x H2) : rSlA K v none (some k) H Q := by
  obtain ⟨j, rfl⟩ := Int.eq_ofNat_of_zero_le (h0)
  refine sl_core h (HT.sIx_none _ _) (HT.sIx_nat _ _ _) fun x H2 s i => q x H2 s ?_
  have e : List.take (min j ds.length - 0) (List.drop 0 ds) = List.take ((j : Int).toNat) ds := by
    rw [List.drop_zero, Nat.sub_zero, Int.toNat_natCast]
    by_cases hj : j ≤ ds.length
    · rw [Nat.min_eq_left hj]
    · rw [Nat.min_eq_right (by omega), List.take_length, List.take_of_length_le (by omega)]
  rw [e] at i
  exact i
theorem r_slFrom {ds : List PyData} {v : V} {k : Int} (h : Is M H (.tuple ds) v) (h0 : 0 ≤ k) (q : ∀ x H2, Same H H2 → Is M H2 (.tuple (ds.drop k.toNat)) x → Q x H2) : rSlA K v (some k) none H Q := by
  obtain ⟨j, rfl⟩ := Int.eq_ofNat_of_zero_le (h0)
  refine sl_core h (HT.sIx_nat _ _ _) (HT.sIx_none _ _) fun x H2 s i => q x H2 s ?_
  have e : List.take (ds.length - min j ds.length) (List.drop (min j ds.length) ds) = List.drop ((j : Int).toNat) ds := by
    rw [Int.toNat_natCast]
    by_cases hj : j ≤ ds.length
    · rw [Nat.min_eq_left hj, List.take_of_length_le (by simp)]
    · rw [Nat.min_eq_right (by omega), List.drop_length, List.drop_eq_nil_of_le (by omega), List.take_nil]
  rw [e] at i
  exact i
theorem IsAll.rep {ds : List PyData} {xs : List V} (h : IsAll M H ds xs) : ∀ n : Nat, IsAll M H (List.replicate n ds).flatten (List.replicate n xs).flatten
  | 0 => rfl
  | n + 1 => by
    simp only [List.replicate_succ, List.flatten_cons]
    exact IsAll.append h (IsAll.rep h n)
theorem r_rep {ds : List PyData} {v : V} {k : Int} (h : Is M H (.tuple ds) v) (h0 : 2 ≤ k) (h1 : k ≤ 1000) (hn : ds ≠ []) (hl : ds.length ≤ 1000) (q : ∀ x H2, Same H H2 → Is M H2 (.tuple (List.replicate k.toNat ds).flatten) x → Q x H2) : rRepT K v (.int k) H Q := by
  obtain ⟨p, xs, rfl, hp, ia⟩ := id h
  have l1 := ia.len
  refine ⟨p, k, xs, rfl, rfl, .inl (.inl hp), fun e => ?_, h0, h1, by omega, fun t ht => q _ _ (same_upd ht) (newT_is (IsAll.rep ia _) ht)⟩
  subst e
  exact hn (List.eq_nil_of_length_eq_zero (by simpa using l1))
def rListOf (K : PySem.W.Frag) : List V → Hp → VK → Prop := fun xs H Q => ∃ p ys, xs = [.ref p] ∧ (SqL K H p ys ∨ SqT K H p ys) ∧ ∀ l, H l = none → Q (.ref l) (upd H l (.lst ys))
theorem call_lst {X : Cx} : CallR X (.type "list") (rListOf X.K) := call_list_of
theorem r_listOf {dr nu : Addr} {ds : List PyData} {v : V} (hd : Drs dr nu H) (h : Is (fun a => a = dr) H (.tuple ds) v) (q : ∀ x H2, Same H H2 → Is (fun a => a = dr) H2 (.list ds) x → Q x H2) : rListOf K [v] H Q := by
  obtain ⟨p, xs, rfl, hp, ia⟩ := id h
  exact ⟨p, xs, rfl, .inr (.inl (.inl hp)), fun l hl => q _ _ (same_upd hl) ⟨l, xs, rfl, ne_dr hd hl, upd_same, IsAll.keep (KeepM.same (same_upd hl)) ia⟩⟩
theorem r_newLD {dr nu : Addr} {xs : List V} {ds : List PyData} (hd : Drs dr nu H) (hi : IsAll (fun a => a = dr) H ds xs) (hl : xs.length ≤ 1000) (q : ∀ v H2, Same H H2 → Is (fun a => a = dr) H2 (.list ds) v → Q v H2) : newL xs H Q :=
  ⟨size1000 hl, fun p hp => q _ _ (same_upd hp) ⟨p, xs, rfl, ne_dr hd hp, upd_same, IsAll.keep (KeepM.same (same_upd hp)) hi⟩⟩
end
end EW
set_option Elab.async false
set_option linter.all false
set_option maxRecDepth 100000
set_option maxHeartbeats 4400000
namespace EW
open L2 PyProof.Rows PySem.Spec PySem
/-- small data: how deep (k), how much (b); all leaves are short -/
structure Sm (k b : Nat) (d : PyData) : Prop where
  sh : d.showable = true
  nd : d.hasDict = false
  lf : d.leavesShort 13 = true
  dp : d.depth ≤ k
  bk : d.bulk ≤ b
theorem Sm.mono {k b k' b' : Nat} {d : PyData} (h : Sm k b d) (h1 : k ≤ k') (h2 : b ≤ b') : Sm k' b' d := ⟨h.sh, h.nd, h.lf, Nat.le_trans h.dp h1, Nat.le_trans h.bk h2⟩
theorem sm_none : Sm 0 0 .none := ⟨rfl, rfl, rfl, Nat.le_of_ble_eq_true rfl, Nat.le_of_ble_eq_true rfl⟩
theorem sm_bool (c : Bool) : Sm 0 0 (.bool c) := ⟨rfl, rfl, rfl, Nat.le_of_ble_eq_true rfl, Nat.le_of_ble_eq_true rfl⟩
theorem int_short {i : Int} (h0 : -99999 ≤ i) (h1 : i ≤ 99999) : (Str.ofString (toString i)).length ≤ 13 := by
  by_cases h : i < 0
  · rw [len_text_neg h]
    have := toString_length_le (v := 0 - i) (by omega) (k := 5) (by decide) (by omega)
    omega
  · have := toString_length_le (v := i) (by omega) (k := 5) (by decide) (by omega)
    omega
theorem sm_int {i : Int} (h0 : -99999 ≤ i) (h1 : i ≤ 99999) : Sm 0 0 (.int i) where
  sh := decide_eq_true (by
    have h : i.natAbs < 2 ^ 17 := by omega
    by_cases z : i.natAbs = 0
    · rw [z]; decide
    · have := (Nat.log2_lt z).mpr h
      omega)
  nd := rfl
  lf := decide_eq_true (int_short h0 h1)
  dp := Nat.le_of_ble_eq_true rfl
  bk := Nat.le_of_ble_eq_true rfl
theorem sm_str {s : Str} (h : s.cps.toList.all (fun c => decide (c < 16 ^ 8)) = true) (l : s.length ≤ 20) : Sm 0 20 (.str s) := ⟨rfl, rfl, h, Nat.le_of_ble_eq_true rfl, l⟩
theorem sm_all {k b : Nat} : ∀ {ds : List PyData}, (∀ d ∈ ds, Sm k b d) → PyData.showableAll ds = true ∧ PyData.hasDictAll ds = false ∧ PyData.leavesShortAll 13 ds = true ∧ PyData.depthAll ds ≤ k ∧ PyData.bulkAll ds ≤ ds.length * (b + 1)
  | [], _ => ⟨rfl, rfl, rfl, Nat.zero_le _, Nat.zero_le _⟩
  | d :: r, h => by
    obtain ⟨a1, a2, a3, a4, a5⟩ := h d (List.mem_cons_self ..)
    obtain ⟨b1, b2, b3, b4, b5⟩ := sm_all (k := k) (b := b) fun x hx => h x (List.mem_cons_of_mem _ hx)
    refine ⟨?_, ?_, ?_, ?_, ?_⟩
    · simp only [PyData.showableAll, a1, b1, Bool.and_self]
    · simp only [PyData.hasDictAll, a2, b2, Bool.or_self]
    · simp only [PyData.leavesShortAll, a3, b3, Bool.and_self]
    · simp only [PyData.depthAll]; omega
    · simp only [PyData.bulkAll, List.length_cons, Nat.succ_mul]; omega
theorem sm_tup {k b c : Nat} {ds : List PyData} (h : ∀ d ∈ ds, Sm k b d) (l : ds.length ≤ c) : Sm (k + 1) (c * (b + 1)) (.tuple ds) := by
  obtain ⟨b1, b2, b3, b4, b5⟩ := sm_all h
  have m := Nat.mul_le_mul_right (b + 1) l
  refine ⟨?_, ?_, ?_, ?_, ?_⟩
  · simp only [PyData.showable, b1]
  · simp only [PyData.hasDict, b2]
  · simp only [PyData.leavesShort, b3]
  · simp only [PyData.depth]; omega
  · simp only [PyData.bulk]; omega
theorem sm_lst {k b c : Nat} {ds : List PyData} (h : ∀ d ∈ ds, Sm k b d) (l : ds.length ≤ c) : Sm (k + 1) (c * (b + 1)) (.list ds) := by
  obtain ⟨b1, b2, b3, b4, b5⟩ := sm_all h
  have m := Nat.mul_le_mul_right (b + 1) l
  refine ⟨?_, ?_, ?_, ?_, ?_⟩
  · simp only [PyData.showable, b1]
  · simp only [PyData.hasDict, b2]
  · simp only [PyData.leavesShort, b3]
  · simp only [PyData.depth]; omega
  · simp only [PyData.bulk]; omega
theorem Sm.leaf {b : Nat} {d : PyData} (h : Sm 0 b d) (l : b ≤ 20) : Sm 0 20 d := h.mono (Nat.le_refl _) l
theorem each {α : Type} {R : α → Prop} {x : α} {xs : List α} (h : R x) (t : ∀ y ∈ xs, R y) : ∀ y ∈ (x :: xs), R y := List.forall_mem_cons.mpr ⟨h, t⟩
theorem each0 {α : Type} {R : α → Prop} : ∀ y ∈ ([] : List α), R y := fun _ h => nomatch h
/-- an instruction or what stands in its place -/
theorem sm_row {ds : List PyData} (h : ∀ d ∈ ds, Sm 0 20 d) (l : ds.length ≤ 5) : Sm 1 105 (.tuple ds) := sm_tup (k := 0) (b := 20) (c := 5) h l
theorem sm_row1 {d : PyData} (h : Sm 0 20 d) : Sm 1 105 d := h.mono (by decide) (by decide)
theorem sm_rowL {ds : List PyData} (h : ∀ d ∈ ds, Sm 0 20 d) (l : ds.length ≤ 5) : Sm 1 105 (.list ds) := sm_lst (k := 0) (b := 20) (c := 5) h l
theorem tab_signs : ∀ p ∈ ltab ++ vtab, p.1.cps.toList.all (fun c => decide (c < 16 ^ 8)) = true := by decide
theorem okAll_ints {ps : Pl} {locks many len : Int} (h1 : (ps.length : Int) ≤ 1000) (h2 : locks ≤ 1000) (h3 : many ≤ 1000) (h4 : len ≤ 1000) : ∀ {sh : List Sh} {ds : List PyData}, okAll ps locks many len sh ds = true → ∀ d ∈ ds, Sm 0 20 d
  | [], [], _ => each0
  | [], _ :: _, h => nomatch h
  | _ :: _, [], h => nomatch h
  | s :: ss, d :: ds, h => by
    simp only [okAll, Bool.and_eq_true] at h
    refine each ?_ (okAll_ints h1 h2 h3 h4 h.2)
    obtain ⟨lo, hi, hl, hh, hd⟩ : ∃ lo hi : Int, -999 ≤ lo ∧ hi ≤ 1000 ∧ isInt lo hi d = true := by
      have q := h.1
      cases s with
      | r => exact ⟨0, 3, by omega, by omega, q⟩
      | v => exact ⟨-999, 999, by omega, by omega, q⟩
      | n => exact ⟨0, len, by omega, h4, q⟩
      | x => exact ⟨0, (ps.length : Int) - 1, by omega, by omega, q⟩
      | s => exact ⟨0, (ps.length : Int) - 1, by omega, by omega, (Bool.and_eq_true _ _ ▸ q : _ ∧ _).1⟩
      | l => exact ⟨0, locks - 1, by omega, by omega, q⟩
      | k => exact ⟨0, many - 1, by omega, by omega, q⟩
    obtain ⟨i, rfl, i0, i1⟩ := isInt_ex hd
    exact (sm_int (by omega) (by omega)).leaf (by decide)
theorem shape_signs {z : Str} {s : List Sh} (h : shapeOf z = some s) : Sm 0 20 (.str z) := by
  have l := (shape_small h).1
  rw [shapeOf_tab] at h
  exact sm_str (tab_signs _ (lookup_mem h)) (Nat.le_trans l (by decide))
theorem okAll_many {ps : Pl} {locks many len : Int} {sh : List Sh} {ds : List PyData} (h : okAll ps locks many len sh ds = true) : ds.length = sh.length := by
  by_cases e : sh.length = ds.length
  · exact e.symm
  · rw [okAll_len e] at h; cases h
theorem okI_sm {ps : Pl} {locks many len : Int} {d : PyData} (h : okI ps locks many len d = true) (h1 : (ps.length : Int) ≤ 1000) (h2 : locks ≤ 1000) (h3 : many ≤ 1000) (h4 : len ≤ 1000) : Sm 1 105 d := by
  cases e : shOf d with
  | none => rw [okI_none e] at h; cases h
  | some sh =>
    obtain ⟨wd, r, rfl, hw⟩ := shOf_some e
    rw [okI_eq hw] at h
    have l := okAll_many h
    have l4 := (shape_small hw).2
    exact sm_row (each (shape_signs hw) (okAll_ints h1 h2 h3 h4 h)) (by simp only [List.length_cons]; omega)
end EW
set_option Elab.async false
set_option linter.all false
set_option maxRecDepth 100000
set_option maxHeartbeats 16000000
set_option pp.maxSteps 250
namespace EW
open L2 PyProof.Rows PySem.Spec PySem
theorem r_ixStr {H : Hp} {Q : VK} {K : PySem.W.Frag} {M : Addr → Prop} {a : PyData} {v : V} {n : Int} (h : Is M H (.tuple [a, .int n]) v) (q : Q (.int n) H) : rIx K v (.int 1) H Q := by
  obtain ⟨p, xs, rfl, e, v1, r1, rfl, h1, v2, r2, rfl, h2, rfl⟩ := h
  cases h2
  exact r_ixT e (by rfl) q
theorem r_ix0D {H : Hp} {Q : VK} {K : PySem.W.Frag} {M : Addr → Prop} {a : PyData} {r : List PyData} {v : V} (h : Is M H (.tuple (a :: r)) v) (q : ∀ u, Is M H a u → Q u H) : rIx K v (.int 0) H Q := by
  obtain ⟨p, xs, rfl, e, v1, r1, rfl, h1, _⟩ := h
  exact r_ix0T e (q _ h1)
theorem r_ixLD {H : Hp} {Q : VK} {K : PySem.W.Frag} {M : Addr → Prop} {ds : List PyData} {v : V} {i k : Int} (h : Is M H (.list ds) v) (h0 : 0 ≤ i) (h1 : i < k) (hk : k ≤ ds.length) (q : ∀ d u, d ∈ ds → Is M H d u → Q u H) : rIx K v (.int i) H Q := by
  obtain ⟨p, xs, rfl, _, e, ia⟩ := h
  have hl := ia.len
  obtain ⟨j, rfl⟩ := Int.eq_ofNat_of_zero_le (h0)
  have hj : j < xs.length := by omega
  obtain ⟨d, hd, hi⟩ := ia.get (List.getElem?_eq_getElem hj)
  exact r_ixL e (atI_nat (List.getElem?_eq_getElem hj)) (q d _ (List.mem_of_getElem? hd) hi)
theorem IsAll.set {M : Addr → Prop} {H : Hp} {d : PyData} {v : V} (hd : Is M H d v) : ∀ {ds : List PyData} {vs : List V} (j : Nat), IsAll M H ds vs → IsAll M H (ds.set j d) (vs.set j v)
  | [], _, _, h => by subst h; rfl
  | _ :: _, _, 0, ⟨x, r, e, h, t⟩ => by subst e; exact ⟨v, r, rfl, hd, t⟩
  | _ :: _, _, j + 1, ⟨x, r, e, h, t⟩ => by subst e; exact ⟨x, r.set j v, rfl, h, IsAll.set hd j t⟩
theorem IsAll.ints {M : Addr → Prop} {H : Hp} : ∀ ns : List Int, IsAll M H (ns.map PyData.int) (ns.map V.int)
  | [] => rfl
  | n :: r => ⟨_, _, rfl, rfl, IsAll.ints r⟩
theorem ixN_ok {n : Nat} {i : Int} (h0 : 0 ≤ i) (h1 : i < n) : ixN n i = some i.toNat := by
  unfold ixN
  rw [if_pos h0, if_pos h1]
theorem getElem?_rep {α : Type} {n j : Nat} {x : α} (h : j < n) : (List.replicate n x)[j]? = some x := by simp [h]
def regForms : List PyData := [.tuple [.str "copy", .int 2], .tuple [.str "add", .int 3], .tuple [.str "sub", .int 3], .tuple [.str "mul", .int 3], .tuple [.str "eq", .int 3], .tuple [.str "less", .int 3], .tuple [.str "assert", .int 1], .tuple [.str "join", .int 1]]
theorem regForm {d : PyData} (h : d ∈ regForms) : ∃ (w : Str) (k : Nat), d = .tuple [.str w, .int (k : Int)] ∧ 1 ≤ k ∧ k ≤ 3 ∧ shapeOf w = some (List.replicate k Sh.r) := by
  simp only [regForms, List.mem_cons, List.not_mem_nil, or_false] at h
  rcases h with rfl | rfl | rfl | rfl | rfl | rfl | rfl | rfl
  · exact ⟨_, 2, rfl, by decide, by decide, by with_unfolding_all rfl⟩
  · exact ⟨_, 3, rfl, by decide, by decide, by with_unfolding_all rfl⟩
  · exact ⟨_, 3, rfl, by decide, by decide, by with_unfolding_all rfl⟩
  · exact ⟨_, 3, rfl, by decide, by decide, by with_unfolding_all rfl⟩
  · exact ⟨_, 3, rfl, by decide, by decide, by with_unfolding_all rfl⟩
  · exact ⟨_, 3, rfl, by decide, by decide, by with_unfolding_all rfl⟩
  · exact ⟨_, 1, rfl, by decide, by decide, by with_unfolding_all rfl⟩
  · exact ⟨_, 1, rfl, by decide, by decide, by with_unfolding_all rfl⟩
def badRegs : List PyData := [.int 4, .int (-1), .int 7, .bool true, .none, .str "0"]
theorem badReg {d : PyData} (h : d ∈ badRegs) : isInt 0 3 d = false := by
  simp only [badRegs, List.mem_cons, List.not_mem_nil, or_false] at h
  rcases h with rfl | rfl | rfl | rfl | rfl | rfl <;> decide
theorem memAll {α : Type} {R : α → Prop} {d : α} {L : List α} (h : d ∈ L) (a : ∀ x ∈ L, R x) : R d := a d h
theorem memc {α : Type} {R : α → Prop} {x : α} {xs : List α} (h : R x) (t : ∀ v ∈ xs, R v) : ∀ v ∈ (x :: xs), R v := List.forall_mem_cons.mpr ⟨h, t⟩
theorem memn {α : Type} {R : α → Prop} : ∀ v ∈ ([] : List α), R v := fun _ h => by cases h
theorem okI_ne {ps : Pl} {locks many len : Int} {w : Str} {sh : List Sh} {ds : List PyData} (h : shapeOf w = some sh) (q : okAll ps locks many len sh ds = false) : okI ps locks many len (.tuple (.str w :: ds)) = false := by rw [okI_eq h]; exact q
def badMore (ps : Pl) (locks many size : Int) : List PyData := [.tuple [.str "branch", .int 4, .int 0], .tuple [.str "branch", .int 0, .int (size + 1)], .tuple [.str "spawn", .int 0, .int (-1), .int 0], .tuple [.str "spawn", .int 4, .int 0, .int 0], .tuple [.str "spawn", .int 0, .int 0, .int 4], .tuple [.str "lock", .bool true], .tuple [.str "load", .bool true, .int 0], .tuple [.str "swap", .int 0, .int 0, .int 4], .tuple [.str "fetch", .int 4, .int 0, .int 0], .tuple [.str "cas", .int 0, .int 0, .int 0, .int 4], .tuple [.str "await", .int 0, .int (-1), .int 0], .tuple [.str "jump", .int (-1)]]
def badList (ps : Pl) (locks many size : Int) : List PyData := [.tuple [.str "fence", .int 0], .tuple [.str "stop", .int 1], .tuple [.str "load", .int 0], .tuple [.str "load", .int 4, .int 0], .tuple [.str "load", .int (-1), .int 0], .tuple [.str "load", .int 0, .int ps.length], .tuple [.str "store", .int ps.length, .int 0], .tuple [.str "store", .int 0, .bool true], .tuple [.str "lock", .int locks], .tuple [.str "unlock", .int (-1)], .tuple [.str "spawn", .int 0, .int many, .int 0], .tuple [.str "jump", .int (size + 1)], .tuple [.str "branch", .int 0, .int (-1)], .tuple [.str "const", .int 0, .int 1000], .tuple [.str "const", .int 0, .int (-1000)], .tuple [.str "const", .int 0, .none], .tuple [.str "const", .str "0", .int 1], .tuple [.str "copy", .int 0], .tuple [.str "add", .int 0, .int 1, .int 4], .tuple [.str "join"], .tuple [.str "Load", .int 0, .int 0], .none, .tuple [], .str "fence", .list [.str "fence"], .tuple [.str "eq", .int 0, .int 1, .int 2, .int 3], .tuple [.str "cas", .int 0, .int 0, .int 0], .tuple [.str "await", .int 0, .int ps.length, .int 0], .tuple [.none], .tuple [.str "jump", .bool true], .tuple [.str "const", .int 0, .bool false], .tuple [.str "assert", .int 5]]
theorem bad_more {ps : Pl} {locks many size : Int} : ∀ d ∈ badMore ps locks many size, okI ps locks many size d = false := by
  unfold badMore
  repeat' (first | exact memn | refine memc ?_ ?_)
  all_goals refine okI_ne (by with_unfolding_all rfl) ?_
  all_goals first | rfl | (simp [okAll, okNum, isInt]; done) | (simp [okAll, okNum, isInt]; omega)
theorem bad_list {ps : Pl} {locks many size : Int} : ∀ d ∈ badList ps locks many size, okI ps locks many size d = false := by
  unfold badList
  repeat' (first | exact memn | refine memc ?_ ?_)
  all_goals first | rfl | exact okI_none (by with_unfolding_all rfl) | refine okI_ne (by with_unfolding_all rfl) ?_
  all_goals first | rfl | (simp [okAll, okNum, isInt]; done) | (simp [okAll, okNum, isInt]; omega)
theorem badRegIs {M M' : Addr → Prop} {H H' : Hp} {d : PyData} {u : V} (h : d ∈ badRegs) (i : Is M H d u) : Is M' H' d u := by
  simp only [badRegs, List.mem_cons, List.not_mem_nil, or_false] at h
  rcases h with rfl | rfl | rfl | rfl | rfl | rfl <;> exact i
local macro_rules | `(tactic| walk_at "leaf") => `(tactic| (first | exact (sm_int (by first | decide | omega) (by first | decide | omega)).leaf (by decide) | exact sm_none.leaf (by decide) | exact (sm_bool _).leaf (by decide) | exact sm_str (by decide) (by decide)))
local macro_rules | `(tactic| walk_at "smrow") => `(tactic| (first | (refine sm_row ?_ (by decide); repeat' (first | exact each0 | (refine each ?_ ?_)); all_goals (walk_at "leaf")) | (refine sm_rowL ?_ (by decide); repeat' (first | exact each0 | (refine each ?_ ?_)); all_goals (walk_at "leaf")) | (refine sm_row1 ?_; (walk_at "leaf"))))
theorem more_sm {ps : Pl} {locks many size : Int} (h : 0 ≤ size) (l : size ≤ 1000) : ∀ d ∈ badMore ps locks many size, Sm 1 105 d := by
  unfold badMore
  repeat' (first | exact each0 | refine each ?_ ?_)
  all_goals (refine sm_row ?_ (by simp))
  all_goals (repeat' (first | exact each0 | refine each ?_ ?_))
  all_goals (walk_at "leaf")
theorem list_sm {ps : Pl} {locks many size : Int} (h0 : (ps.length : Int) ≤ 1000) (h1 : 0 ≤ locks) (h2 : locks ≤ 1000) (h3 : 0 ≤ many) (h4 : many ≤ 1000) (h : 0 ≤ size) (l : size ≤ 1000) : ∀ d ∈ badList ps locks many size, Sm 1 105 d := by
  unfold badList
  repeat' (first | exact each0 | refine each ?_ ?_)
  all_goals first | (refine sm_row ?_ (by simp)) | (refine sm_rowL ?_ (by simp)) | (refine sm_row1 ?_)
  all_goals (repeat' (first | exact each0 | refine each ?_ ?_))
  all_goals (walk_at "leaf")
theorem badRegSm {d : PyData} (h : d ∈ badRegs) : Sm 0 20 d := by
  simp only [badRegs, List.mem_cons, List.not_mem_nil, or_false] at h
  rcases h with rfl | rfl | rfl | rfl | rfl | rfl <;> (walk_at "leaf")
theorem setSm {ns : List Int} (h : ∀ n ∈ ns, 0 ≤ n ∧ n < 4) {d : PyData} (hd : Sm 0 20 d) (j : Nat) : ∀ x ∈ (ns.map PyData.int).set j d, Sm 0 20 x := by
  intro x hx
  rcases List.mem_or_eq_of_mem_set hx with hx | rfl
  · obtain ⟨n, hn, rfl⟩ := List.mem_map.mp hx
    obtain ⟨a, b⟩ := h n hn
    exact (sm_int (by omega) (by omega)).leaf (by decide)
  · exact hd
theorem snocB {ns : List Int} (h : ∀ n ∈ ns, 0 ≤ n ∧ n < 4) {m : Int} (h0 : 0 ≤ m) (h1 : m < 4) : ∀ n ∈ ns ++ [m], 0 ≤ n ∧ n < 4 := fun n hn => by
  rcases List.mem_append.mp hn with hn | hn
  · exact h n hn
  · rw [List.mem_singleton.mp hn]; exact ⟨h0, h1⟩
set_option hygiene false
local macro_rules | `(tactic| walk_at "km") => `(tactic| (first
  | exact KeepM.refl
  | (refine KeepM.trans ?_ (KeepM.same (by assumption)); walk_at "km")
  | (refine KeepM.trans ?_ (Keep.toML (by assumption) (by assumption)); walk_at "km")
  | (refine KeepM.trans ?_ (Keep.toMD (by assumption) (by assumption)); walk_at "km")
  | (refine KeepM.trans ?_ (Keep.toM (by assumption) (by assumption) (by first | trivial | rfl)); walk_at "km")))
local macro_rules | `(tactic| walk_at "kp") => `(tactic| (first
  | exact Keep.refl
  | (refine Keep.trans ?_ (Keep.same (by assumption)); walk_at "kp")
  | (refine Keep.trans ?_ (by assumption); walk_at "kp")
  | (refine Keep.cell2 (by assumption) (by assumption) ?_; walk_at "kp")))
local macro_rules | `(tactic| walk_at "sm") => `(tactic| (first
  | exact Same.refl _
  | (refine Same.trans ?_ (by assumption); walk_at "sm")))
local macro_rules | `(tactic| walk_at "hat") => `(tactic| (first
  | assumption
  | (refine same_get (by assumption) ?_; walk_at "hat")
  | (refine Keep.get (by assumption) (by assumption) ?_; walk_at "hat")))
local macro_rules | `(tactic| walk_at "isd") => `(tactic| (with_reducible first
  | exact is_int | exact is_str | exact is_bl | exact is_non | assumption | (refine Is.weak (M := fun _ => True) (fun _ _ => trivial) (by assumption))
  | (refine Is.keep ?_ (by assumption); walk_at "km")))
local macro_rules | `(tactic| walk_at "isall") => `(tactic| (repeat (with_reducible first | exact IsAll.nil | (apply IsAll.cons; (walk_at "isd")))))
local macro_rules | `(tactic| walk_at "pos") => `(tactic| (first | decide | assumption | omega | (simp only [decide_eq_false_iff_not] at *; omega)))
local macro_rules | `(tactic| walk_at "rd") => `(tactic| (with_reducible first
  | refine r_seq ?_ | refine r_asg ?_ | refine r_name ?_ | refine r_C ?_ | refine r_op ?_ | refine r_un ?_ | refine r_rU ?_ | refine r_I0 ?_ | refine r_eqI ?_ | refine r_neI ?_ | refine r_test ?_ | refine r_tB ?_ | refine r_exk ?_ | refine r_and ?_ | refine r_or ?_ | refine r_not ?_ | refine r_ifS ?_ | refine r_ret ?_ | refine r_next ?_ | refine r_drop ?_ | refine r_nil ?_ | refine r_cons ?_ | refine r_call ?_ | refine r_CB ?_ | refine r_tup ?_ | refine r_lst ?_ | refine r_sub ?_ | refine r_gCons ?_ | refine r_pc ?_ | refine r_pn ?_ | (refine r_disp ?_; intro p H2 hn hs hl) | refine r_eqS ?_ | refine r_sl ?_ | refine r_noPart ?_ | refine r_part ?_ | refine r_partK ?_ | refine r_jsF ?_ | refine r_jsN ?_ | refine r_dget ?_ | refine r_iZ ?_ | refine r_gNil ?_ | refine r_isTy ?_ | refine r_notTy ?_ | refine r_andV ?_ | refine r_chain ?_ | refine r_andK (fun h => ?_) (fun h => ?_) | refine r_chK (fun h => ?_) (fun h => ?_) | refine r_andKb (fun h => ?_) (fun h => ?_) | refine r_for ?_ | refine r_lc ?_ | refine r_iL ?_ | refine r_iT ?_ | refine r_iR ?_
  | (apply r_var; (focus ((with_unfolding_all rfl); done)))
  | (refine r_mod ?_ ?_; (focus ((walk_at "pos"); done)); intro m hm0 hm1)
  | (refine r_I ?_ ?_; (focus ((first | decide | (unfold CMul; omega) | (unfold CDiv; omega) | (unfold CPow; omega) | omega); done)))
  | (apply r_wipe; (focus ((with_unfolding_all rfl); done))) | refine r_yes ?_ | refine iteT ?_ | refine iteF ?_ | refine r_ifeq (fun h => ?_) (fun h => ?_) | refine r_ifd (fun h => ?_) (fun h => ?_) | refine r_ifnd (fun h => ?_) (fun h => ?_) | refine ite2 (fun h => ?_) (fun h => ?_)))
local macro_rules | `(tactic| walk_at "al") => `(tactic| (first
  | ((with_reducible apply r_newT (M := fun a => a = dr)); (focus (walk_at "isall"; done)); (with_unfolding_all exact Nat.le_of_ble_eq_true rfl); intro v H2 hs hi; (try (have hd2 := Drs.same (by assumption) hs)))
  | ((with_reducible apply r_newLD); (focus assumption); (focus (walk_at "isall"; done)); (with_unfolding_all exact Nat.le_of_ble_eq_true rfl); intro v H2 hs hi; (try (have hd2 := Drs.same (by assumption) hs)))
  | ((with_reducible apply r_ixLD); (focus (walk_at "isd")); (focus assumption); (focus assumption); (focus ((simp only [List.length_cons, List.length_nil]); decide)); (intro d u hmem hu))
  | ((with_reducible apply r_newL); (with_unfolding_all exact Nat.le_of_ble_eq_true rfl); intro p H2 hn hs hl; (try (have hd2 := Drs.same (by assumption) hs)); (try (have hne := ne_dr (by assumption) hn)); (try (have hnu := ne_nu (by assumption) hn)))
  | ((with_reducible apply r_draw); (focus (assumption)); (intro n H2 hn hk hd))
  | ((with_reducible apply r_bm))
  | ((with_reducible apply r_app); (focus (walk_at "hat")); (focus ((refine size_lt ?_); (first | omega | (simp only [List.length_map]; omega) | (simp; omega)))); (intro H2 hold hk hl); (try (have hd2 := Drs.cellK (by assumption) hk (by assumption) (by assumption))))
  | ((with_reducible apply And.intro); (focus ((with_reducible apply r_tyL); (walk_at "hat"))))
  | ((with_reducible apply r_rng); (focus (first | assumption | omega)); (focus omega))
  | ((with_reducible apply r_local); (focus assumption); (focus (first | assumption | omega)); (intro d v H2 hi hok hk hd))
  | ((with_reducible apply r_visible); (focus assumption); (focus (walk_at "isd")); (focus assumption); (focus (first | assumption | omega)); (intro d v H2 hi hok hk hd))
  | ((with_reducible apply r_tupOf (M := fun a => a = dr)); (focus (walk_at "hat")); (focus (first | assumption | (refine IsAll.keep ?_ (by assumption); walk_at "km"))); (intro v H2 hs hi); (try (have hd2 := Drs.same (by assumption) hs)))
  | ((with_reducible apply r_int); (focus (walk_at "isd")))
  | ((with_reducible apply r_value); (focus (walk_at "isd")))
  | ((with_reducible apply r_row); (focus (walk_at "isd")))
  | ((with_reducible apply r_iTK); (focus (walk_at "hat")))
  | ((with_reducible apply r_gTup); (focus (walk_at "hat")); (focus ((with_unfolding_all rfl); done)))
  | ((with_reducible apply r_ix0T); (focus (walk_at "hat")))
  | ((with_reducible apply r_ixT); (focus (walk_at "hat")); (focus ((with_unfolding_all rfl); done)))
  | (with_reducible refine r_typeS ?_)
  | ((with_reducible apply r_type); (focus (walk_at "isd")))
  | (with_reducible refine ⟨_, _, rfl, rfl, (by assumption), ?_⟩)
  | ((with_reducible apply r_lenD); (focus (walk_at "isd")))
  | ((with_reducible apply r_lenT); (focus (walk_at "hat")))
  | ((with_reducible apply r_zipSK); (focus (walk_at "hat")))
  | ((with_reducible apply r_slT); (focus (walk_at "hat")); (intro p H2 hs hl))
  | ((with_reducible apply r_lenSh); (focus assumption))
  | ((with_reducible apply r_jsC); (focus (first | assumption | exact empty_len)); (focus decide); (focus decide); (intro acc' hacc))
  | ((with_reducible apply r_fmtS); (focus (first | assumption | exact empty_len)); (focus decide); (focus omega); (intro acc' hacc))
  | ((with_reducible apply r_fmtN); (focus (first | assumption | exact empty_len)); (focus decide); (focus assumption); (intro acc' hacc))
  | ((with_reducible apply r_bnd); (focus assumption); (intro p hp))
  | ((with_reducible apply r_cat (M := fun a => a = dr)); (focus (walk_at "isd")); (focus (walk_at "isd")); (focus (first | decide | (simp; done) | (simp; omega) | omega)); (intro v H2 hs hi); (try (have hd2 := Drs.same (by assumption) hs)))
  | ((with_reducible apply r_slTo (M := fun a => a = dr)); (focus (walk_at "isd")); (focus (first | decide | assumption | omega)); (intro v H2 hs hi); (try (have hd2 := Drs.same (by assumption) hs)))
  | ((with_reducible apply r_slFrom (M := fun a => a = dr)); (focus (walk_at "isd")); (focus (first | decide | assumption | omega)); (intro v H2 hs hi); (try (have hd2 := Drs.same (by assumption) hs)))
  | ((with_reducible apply r_rep (M := fun a => a = dr)); (focus (walk_at "isd")); (focus decide); (focus decide); (focus (first | (intro hnil; cases hnil) | assumption | simp)); (focus (first | decide | (simp; done) | (simp; omega))); (intro v H2 hs hi); (try (have hd2 := Drs.same (by assumption) hs)))
  | ((with_reducible apply r_listOf); (focus assumption); (focus (walk_at "isd")); (intro v H2 hs hi); (try (have hd2 := Drs.same (by assumption) hs)))
  | ((with_reducible apply r_ixStr (M := fun _ => True)); (focus (walk_at "isd")))
  | ((with_reducible apply r_cat (M := fun a => a = dr)); (focus (walk_at "isd")); (focus (walk_at "isd")); (focus (first | decide | (simp; done) | (simp; omega) | omega)); (intro v H2 hs hi); (try (have hd2 := Drs.same (by assumption) hs)))
  | ((with_reducible apply r_slTo (M := fun a => a = dr)); (focus (walk_at "isd")); (focus (first | decide | assumption | omega)); (intro v H2 hs hi); (try (have hd2 := Drs.same (by assumption) hs)))
  | ((with_reducible apply r_slFrom (M := fun a => a = dr)); (focus (walk_at "isd")); (focus (first | decide | assumption | omega)); (intro v H2 hs hi); (try (have hd2 := Drs.same (by assumption) hs)))
  | ((with_reducible apply r_rep (M := fun a => a = dr)); (focus (walk_at "isd")); (focus decide); (focus decide); (focus (first | (intro hnil; cases hnil) | assumption | simp)); (focus (first | decide | (simp; done) | (simp; omega))); (intro v H2 hs hi); (try (have hd2 := Drs.same (by assumption) hs)))
  | ((with_reducible apply r_listOf); (focus assumption); (focus (walk_at "isd")); (intro v H2 hs hi); (try (have hd2 := Drs.same (by assumption) hs)))
  | ((with_reducible apply r_ixStr (M := fun _ => True)); (focus (walk_at "isd")))
  | ((with_reducible apply r_cat (M := fun a => a = dr)); (focus (walk_at "isd")); (focus (walk_at "isd")); (focus (first | decide | (simp; done) | (simp; omega) | omega)); (intro v H2 hs hi); (try (have hd2 := Drs.same (by assumption) hs)))
  | ((with_reducible apply r_slTo (M := fun a => a = dr)); (focus (walk_at "isd")); (focus (first | decide | assumption | omega)); (intro v H2 hs hi); (try (have hd2 := Drs.same (by assumption) hs)))
  | ((with_reducible apply r_slFrom (M := fun a => a = dr)); (focus (walk_at "isd")); (focus (first | decide | assumption | omega)); (intro v H2 hs hi); (try (have hd2 := Drs.same (by assumption) hs)))
  | ((with_reducible apply r_rep (M := fun a => a = dr)); (focus (walk_at "isd")); (focus decide); (focus decide); (focus (first | (intro hnil; cases hnil) | assumption | simp)); (focus (first | decide | (simp; done) | (simp; omega))); (intro v H2 hs hi); (try (have hd2 := Drs.same (by assumption) hs)))
  | ((with_reducible apply r_listOf); (focus assumption); (focus (walk_at "isd")); (intro v H2 hs hi); (try (have hd2 := Drs.same (by assumption) hs)))
  | ((with_reducible apply r_ixStr (M := fun _ => True)); (focus (walk_at "isd")))
  | ((with_reducible apply r_cat (M := fun a => a = dr)); (focus (walk_at "isd")); (focus (walk_at "isd")); (focus (first | decide | (simp; done) | (simp; omega) | omega)); (intro v H2 hs hi); (try (have hd2 := Drs.same (by assumption) hs)))
  | ((with_reducible apply r_slTo (M := fun a => a = dr)); (focus (walk_at "isd")); (focus (first | decide | assumption | omega)); (intro v H2 hs hi); (try (have hd2 := Drs.same (by assumption) hs)))
  | ((with_reducible apply r_slFrom (M := fun a => a = dr)); (focus (walk_at "isd")); (focus (first | decide | assumption | omega)); (intro v H2 hs hi); (try (have hd2 := Drs.same (by assumption) hs)))
  | ((with_reducible apply r_rep (M := fun a => a = dr)); (focus (walk_at "isd")); (focus decide); (focus decide); (focus (first | (intro hnil; cases hnil) | assumption | simp)); (focus (first | decide | (simp; done) | (simp; omega))); (intro v H2 hs hi); (try (have hd2 := Drs.same (by assumption) hs)))
  | ((with_reducible apply r_listOf); (focus assumption); (focus (walk_at "isd")); (intro v H2 hs hi); (try (have hd2 := Drs.same (by assumption) hs)))
  | ((with_reducible apply r_ixStr (M := fun _ => True)); (focus (walk_at "isd")))
  | ((with_reducible apply r_cat (M := fun a => a = dr)); (focus (walk_at "isd")); (focus (walk_at "isd")); (focus (first | decide | (simp; done) | (simp; omega) | omega)); (intro v H2 hs hi); (try (have hd2 := Drs.same (by assumption) hs)))
  | ((with_reducible apply r_slTo (M := fun a => a = dr)); (focus (walk_at "isd")); (focus (first | decide | assumption | omega)); (intro v H2 hs hi); (try (have hd2 := Drs.same (by assumption) hs)))
  | ((with_reducible apply r_slFrom (M := fun a => a = dr)); (focus (walk_at "isd")); (focus (first | decide | assumption | omega)); (intro v H2 hs hi); (try (have hd2 := Drs.same (by assumption) hs)))
  | ((with_reducible apply r_rep (M := fun a => a = dr)); (focus (walk_at "isd")); (focus decide); (focus decide); (focus (first | (intro hnil; cases hnil) | assumption | simp)); (focus (first | decide | (simp; done) | (simp; omega))); (intro v H2 hs hi); (try (have hd2 := Drs.same (by assumption) hs)))
  | ((with_reducible apply r_listOf); (focus assumption); (focus (walk_at "isd")); (intro v H2 hs hi); (try (have hd2 := Drs.same (by assumption) hs)))
  | ((with_reducible apply r_ixStr (M := fun _ => True)); (focus (walk_at "isd")))
  | ((with_reducible apply r_cat (M := fun a => a = dr)); (focus (walk_at "isd")); (focus (walk_at "isd")); (focus (first | decide | (simp; done) | (simp; omega) | omega)); (intro v H2 hs hi); (try (have hd2 := Drs.same (by assumption) hs)))
  | ((with_reducible apply r_slTo (M := fun a => a = dr)); (focus (walk_at "isd")); (focus (first | decide | assumption | omega)); (intro v H2 hs hi); (try (have hd2 := Drs.same (by assumption) hs)))
  | ((with_reducible apply r_slFrom (M := fun a => a = dr)); (focus (walk_at "isd")); (focus (first | decide | assumption | omega)); (intro v H2 hs hi); (try (have hd2 := Drs.same (by assumption) hs)))
  | ((with_reducible apply r_rep (M := fun a => a = dr)); (focus (walk_at "isd")); (focus decide); (focus decide); (focus (first | (intro hnil; cases hnil) | assumption | simp)); (focus (first | decide | (simp; done) | (simp; omega))); (intro v H2 hs hi); (try (have hd2 := Drs.same (by assumption) hs)))
  | ((with_reducible apply r_listOf); (focus assumption); (focus (walk_at "isd")); (intro v H2 hs hi); (try (have hd2 := Drs.same (by assumption) hs)))
  | ((with_reducible apply r_ixStr); (focus assumption))
  | ((with_reducible apply r_cat (M := fun a => a = dr)); (focus (walk_at "isd")); (focus (walk_at "isd")); (focus (first | decide | (simp; done) | (simp; omega) | omega)); (intro v H2 hs hi); (try (have hd2 := Drs.same (by assumption) hs)))
  | ((with_reducible apply r_slTo (M := fun a => a = dr)); (focus (walk_at "isd")); (focus (first | decide | assumption | omega)); (intro v H2 hs hi); (try (have hd2 := Drs.same (by assumption) hs)))
  | ((with_reducible apply r_slFrom (M := fun a => a = dr)); (focus (walk_at "isd")); (focus (first | decide | assumption | omega)); (intro v H2 hs hi); (try (have hd2 := Drs.same (by assumption) hs)))
  | ((with_reducible apply r_rep (M := fun a => a = dr)); (focus (walk_at "isd")); (focus decide); (focus decide); (focus (first | (intro hnil; cases hnil) | assumption | simp)); (focus (first | decide | (simp; done) | (simp; omega))); (intro v H2 hs hi); (try (have hd2 := Drs.same (by assumption) hs)))
  | ((with_reducible apply r_listOf); (focus assumption); (focus (walk_at "isd")); (intro v H2 hs hi); (try (have hd2 := Drs.same (by assumption) hs)))
  | ((with_reducible apply r_ixStr); (focus assumption))
  | ((with_reducible apply r_cat (M := fun a => a = dr)); (focus (walk_at "isd")); (focus (walk_at "isd")); (focus (first | decide | (simp; done) | (simp; omega) | omega)); (intro v H2 hs hi); (try (have hd2 := Drs.same (by assumption) hs)))
  | ((with_reducible apply r_slTo (M := fun a => a = dr)); (focus (walk_at "isd")); (focus (first | decide | assumption | omega)); (intro v H2 hs hi); (try (have hd2 := Drs.same (by assumption) hs)))
  | ((with_reducible apply r_slFrom (M := fun a => a = dr)); (focus (walk_at "isd")); (focus (first | decide | assumption | omega)); (intro v H2 hs hi); (try (have hd2 := Drs.same (by assumption) hs)))
  | ((with_reducible apply r_rep (M := fun a => a = dr)); (focus (walk_at "isd")); (focus decide); (focus decide); (focus (first | (intro hnil; cases hnil) | assumption | simp)); (focus (first | decide | (simp; done) | (simp; omega))); (intro v H2 hs hi); (try (have hd2 := Drs.same (by assumption) hs)))
  | ((with_reducible apply r_listOf); (focus assumption); (focus (walk_at "isd")); (intro v H2 hs hi); (try (have hd2 := Drs.same (by assumption) hs)))
  | ((with_reducible apply r_ixStr); (focus assumption))
  | ((with_reducible apply r_cat (M := fun a => a = dr)); (focus (walk_at "isd")); (focus (walk_at "isd")); (focus (first | decide | (simp; done) | (simp; omega) | omega)); (intro v H2 hs hi); (try (have hd2 := Drs.same (by assumption) hs)))
  | ((with_reducible apply r_slTo (M := fun a => a = dr)); (focus (walk_at "isd")); (focus (first | decide | assumption | omega)); (intro v H2 hs hi); (try (have hd2 := Drs.same (by assumption) hs)))
  | ((with_reducible apply r_slFrom (M := fun a => a = dr)); (focus (walk_at "isd")); (focus (first | decide | assumption | omega)); (intro v H2 hs hi); (try (have hd2 := Drs.same (by assumption) hs)))
  | ((with_reducible apply r_rep (M := fun a => a = dr)); (focus (walk_at "isd")); (focus decide); (focus decide); (focus (first | (intro hnil; cases hnil) | assumption | simp)); (focus (first | decide | (simp; done) | (simp; omega))); (intro v H2 hs hi); (try (have hd2 := Drs.same (by assumption) hs)))
  | ((with_reducible apply r_listOf); (focus assumption); (focus (walk_at "isd")); (intro v H2 hs hi); (try (have hd2 := Drs.same (by assumption) hs)))
  | ((with_reducible apply r_ixStr); (focus assumption))
  | ((with_reducible apply r_cat (M := fun a => a = dr)); (focus (walk_at "isd")); (focus (walk_at "isd")); (focus (first | decide | (simp; done) | (simp; omega) | omega)); (intro v H2 hs hi); (try (have hd2 := Drs.same (by assumption) hs)))
  | ((with_reducible apply r_slTo (M := fun a => a = dr)); (focus (walk_at "isd")); (focus (first | decide | assumption | omega)); (intro v H2 hs hi); (try (have hd2 := Drs.same (by assumption) hs)))
  | ((with_reducible apply r_slFrom (M := fun a => a = dr)); (focus (walk_at "isd")); (focus (first | decide | assumption | omega)); (intro v H2 hs hi); (try (have hd2 := Drs.same (by assumption) hs)))
  | ((with_reducible apply r_rep (M := fun a => a = dr)); (focus (walk_at "isd")); (focus decide); (focus decide); (focus (first | (intro hnil; cases hnil) | assumption | simp)); (focus (first | decide | (simp; done) | (simp; omega))); (intro v H2 hs hi); (try (have hd2 := Drs.same (by assumption) hs)))
  | ((with_reducible apply r_listOf); (focus assumption); (focus (walk_at "isd")); (intro v H2 hs hi); (try (have hd2 := Drs.same (by assumption) hs)))
  | ((with_reducible apply r_ixStr); (focus assumption))
  | ((with_reducible apply r_cat (M := fun a => a = dr)); (focus (walk_at "isd")); (focus (walk_at "isd")); (focus (first | decide | (simp; done) | (simp; omega) | omega)); (intro v H2 hs hi); (try (have hd2 := Drs.same (by assumption) hs)))
  | ((with_reducible apply r_slTo (M := fun a => a = dr)); (focus (walk_at "isd")); (focus (first | decide | assumption | omega)); (intro v H2 hs hi); (try (have hd2 := Drs.same (by assumption) hs)))
  | ((with_reducible apply r_slFrom (M := fun a => a = dr)); (focus (walk_at "isd")); (focus (first | decide | assumption | omega)); (intro v H2 hs hi); (try (have hd2 := Drs.same (by assumption) hs)))
  | ((with_reducible apply r_rep (M := fun a => a = dr)); (focus (walk_at "isd")); (focus decide); (focus decide); (focus (first | (intro hnil; cases hnil) | assumption | simp)); (focus (first | decide | (simp; done) | (simp; omega))); (intro v H2 hs hi); (try (have hd2 := Drs.same (by assumption) hs)))
  | ((with_reducible apply r_listOf); (focus assumption); (focus (walk_at "isd")); (intro v H2 hs hi); (try (have hd2 := Drs.same (by assumption) hs)))
  | ((with_reducible apply r_ixStr); (focus assumption))
  | ((with_reducible apply r_cat (M := fun a => a = dr)); (focus (walk_at "isd")); (focus (walk_at "isd")); (focus (first | decide | (simp; omega) | omega)); (intro v H2 hs hi); (try (have hd2 := Drs.same (by assumption) hs)))
  | ((with_reducible apply r_slTo (M := fun a => a = dr)); (focus (walk_at "isd")); (focus (first | decide | assumption | omega)); (intro v H2 hs hi); (try (have hd2 := Drs.same (by assumption) hs)))
  | ((with_reducible apply r_slFrom (M := fun a => a = dr)); (focus (walk_at "isd")); (focus (first | decide | assumption | omega)); (intro v H2 hs hi); (try (have hd2 := Drs.same (by assumption) hs)))
  | ((with_reducible apply r_rep (M := fun a => a = dr)); (focus (walk_at "isd")); (focus decide); (focus decide); (focus (first | (intro hnil; cases hnil) | assumption | simp)); (focus (first | decide | (simp; omega))); (intro v H2 hs hi); (try (have hd2 := Drs.same (by assumption) hs)))
  | ((with_reducible apply r_listOf); (focus assumption); (focus (walk_at "isd")); (intro v H2 hs hi); (try (have hd2 := Drs.same (by assumption) hs)))
  | ((with_reducible apply r_ixStr); (focus assumption))
  | ((with_reducible apply r_cat (M := fun a => a = dr)); (focus (walk_at "isd")); (focus (walk_at "isd")); (focus (first | decide | (simp; omega) | omega)); (intro v H2 hs hi); (try (have hd2 := Drs.same (by assumption) hs)))
  | ((with_reducible apply r_slTo (M := fun a => a = dr)); (focus (walk_at "isd")); (focus (first | decide | assumption | omega)); (intro v H2 hs hi); (try (have hd2 := Drs.same (by assumption) hs)))
  | ((with_reducible apply r_slFrom (M := fun a => a = dr)); (focus (walk_at "isd")); (focus (first | decide | assumption | omega)); (intro v H2 hs hi); (try (have hd2 := Drs.same (by assumption) hs)))
  | ((with_reducible apply r_rep (M := fun a => a = dr)); (focus (walk_at "isd")); (focus decide); (focus decide); (focus (first | (intro hnil; cases hnil) | assumption | simp)); (focus (first | decide | (simp; omega))); (intro v H2 hs hi); (try (have hd2 := Drs.same (by assumption) hs)))
  | ((with_reducible apply r_listOf); (focus assumption); (focus (walk_at "isd")); (intro v H2 hs hi); (try (have hd2 := Drs.same (by assumption) hs)))
  | ((with_reducible apply r_ixStr); (focus assumption))
  | ((with_reducible apply r_cat (M := fun a => a = dr)); (focus (walk_at "isd")); (focus (walk_at "isd")); (focus (first | decide | (simp; omega) | omega)); (intro v H2 hs hi); (try (have hd2 := Drs.same (by assumption) hs)))
  | ((with_reducible apply r_slTo (M := fun a => a = dr)); (focus (walk_at "isd")); (focus (first | decide | assumption | omega)); (intro v H2 hs hi); (try (have hd2 := Drs.same (by assumption) hs)))
  | ((with_reducible apply r_slFrom (M := fun a => a = dr)); (focus (walk_at "isd")); (focus (first | decide | assumption | omega)); (intro v H2 hs hi); (try (have hd2 := Drs.same (by assumption) hs)))
  | ((with_reducible apply r_rep (M := fun a => a = dr)); (focus (walk_at "isd")); (focus decide); (focus decide); (focus (first | (intro hnil; cases hnil) | assumption | simp)); (focus (first | decide | (simp; omega))); (intro v H2 hs hi); (try (have hd2 := Drs.same (by assumption) hs)))
  | ((with_reducible apply r_listOf); (focus assumption); (focus (walk_at "isd")); (intro v H2 hs hi); (try (have hd2 := Drs.same (by assumption) hs)))
  | ((with_reducible apply r_ixStr); (focus assumption))
  | ((with_reducible apply r_cat (M := fun a => a = dr)); (focus (walk_at "isd")); (focus (walk_at "isd")); (focus (first | decide | (simp; omega) | omega)); (intro v H2 hs hi); (try (have hd2 := Drs.same (by assumption) hs)))
  | ((with_reducible apply r_slTo (M := fun a => a = dr)); (focus (walk_at "isd")); (focus (first | decide | assumption | omega)); (intro v H2 hs hi); (try (have hd2 := Drs.same (by assumption) hs)))
  | ((with_reducible apply r_slFrom (M := fun a => a = dr)); (focus (walk_at "isd")); (focus (first | decide | assumption | omega)); (intro v H2 hs hi); (try (have hd2 := Drs.same (by assumption) hs)))
  | ((with_reducible apply r_rep (M := fun a => a = dr)); (focus (walk_at "isd")); (focus decide); (focus decide); (focus (first | (intro hnil; cases hnil) | assumption | simp)); (focus (first | decide | (simp; omega))); (intro v H2 hs hi); (try (have hd2 := Drs.same (by assumption) hs)))
  | ((with_reducible apply r_listOf); (focus assumption); (focus (walk_at "isd")); (intro v H2 hs hi); (try (have hd2 := Drs.same (by assumption) hs)))
  | ((with_reducible apply r_ixStr); (focus assumption))
  | ((with_reducible apply r_cat (M := fun a => a = dr)); (focus (walk_at "isd")); (focus (walk_at "isd")); (focus (first | decide | (simp; omega) | omega)); (intro v H2 hs hi); (try (have hd2 := Drs.same (by assumption) hs)))
  | ((with_reducible apply r_slTo (M := fun a => a = dr)); (focus (walk_at "isd")); (focus (first | decide | assumption | omega)); (intro v H2 hs hi); (try (have hd2 := Drs.same (by assumption) hs)))
  | ((with_reducible apply r_slFrom (M := fun a => a = dr)); (focus (walk_at "isd")); (focus (first | decide | assumption | omega)); (intro v H2 hs hi); (try (have hd2 := Drs.same (by assumption) hs)))
  | ((with_reducible apply r_rep (M := fun a => a = dr)); (focus (walk_at "isd")); (focus decide); (focus decide); (focus (first | (intro hnil; cases hnil) | assumption | simp)); (focus (first | decide | (simp; omega))); (intro v H2 hs hi); (try (have hd2 := Drs.same (by assumption) hs)))
  | ((with_reducible apply r_listOf); (focus assumption); (focus (walk_at "isd")); (intro v H2 hs hi); (try (have hd2 := Drs.same (by assumption) hs)))
  | ((with_reducible apply r_ixStr); (focus assumption))
  | ((with_reducible apply r_cat (M := fun a => a = dr)); (focus (walk_at "isd")); (focus (walk_at "isd")); (focus (first | decide | (simp; omega) | omega)); (intro v H2 hs hi); (try (have hd2 := Drs.same (by assumption) hs)))
  | ((with_reducible apply r_slTo (M := fun a => a = dr)); (focus (walk_at "isd")); (focus (first | decide | assumption | omega)); (intro v H2 hs hi); (try (have hd2 := Drs.same (by assumption) hs)))
  | ((with_reducible apply r_slFrom (M := fun a => a = dr)); (focus (walk_at "isd")); (focus (first | decide | assumption | omega)); (intro v H2 hs hi); (try (have hd2 := Drs.same (by assumption) hs)))
  | ((with_reducible apply r_rep (M := fun a => a = dr)); (focus (walk_at "isd")); (focus decide); (focus decide); (focus (first | (intro hnil; cases hnil) | assumption | simp)); (focus (first | decide | (simp; omega))); (intro v H2 hs hi); (try (have hd2 := Drs.same (by assumption) hs)))
  | ((with_reducible apply r_listOf); (focus assumption); (focus (walk_at "isd")); (intro v H2 hs hi); (try (have hd2 := Drs.same (by assumption) hs)))
  | ((with_reducible apply r_ixStr); (focus assumption))
  | ((with_reducible apply r_cat (M := fun a => a = dr)); (focus (walk_at "isd")); (focus (walk_at "isd")); (focus (first | decide | (simp; omega) | omega)); (intro v H2 hs hi); (try (have hd2 := Drs.same (by assumption) hs)))
  | ((with_reducible apply r_slTo (M := fun a => a = dr)); (focus (walk_at "isd")); (focus (first | decide | assumption | omega)); (intro v H2 hs hi); (try (have hd2 := Drs.same (by assumption) hs)))
  | ((with_reducible apply r_slFrom (M := fun a => a = dr)); (focus (walk_at "isd")); (focus (first | decide | assumption | omega)); (intro v H2 hs hi); (try (have hd2 := Drs.same (by assumption) hs)))
  | ((with_reducible apply r_rep (M := fun a => a = dr)); (focus (walk_at "isd")); (focus decide); (focus decide); (focus (first | (intro hnil; cases hnil) | assumption | simp)); (focus (first | decide | (simp; omega))); (intro v H2 hs hi); (try (have hd2 := Drs.same (by assumption) hs)))
  | ((with_reducible apply r_listOf); (focus assumption); (focus (walk_at "isd")); (intro v H2 hs hi); (try (have hd2 := Drs.same (by assumption) hs)))
  | ((with_reducible apply r_ixStr); (focus assumption))
  | ((with_reducible apply r_cat (M := fun a => a = dr)); (focus (walk_at "isd")); (focus (walk_at "isd")); (focus (first | decide | (simp; omega) | omega)); (intro v H2 hs hi); (try (have hd2 := Drs.same (by assumption) hs)))
  | ((with_reducible apply r_slTo (M := fun a => a = dr)); (focus (walk_at "isd")); (focus (first | decide | assumption | omega)); (intro v H2 hs hi); (try (have hd2 := Drs.same (by assumption) hs)))
  | ((with_reducible apply r_slFrom (M := fun a => a = dr)); (focus (walk_at "isd")); (focus (first | decide | assumption | omega)); (intro v H2 hs hi); (try (have hd2 := Drs.same (by assumption) hs)))
  | ((with_reducible apply r_rep (M := fun a => a = dr)); (focus (walk_at "isd")); (focus decide); (focus decide); (focus (first | (intro hnil; cases hnil) | assumption | simp)); (focus (first | decide | (simp; omega))); (intro v H2 hs hi); (try (have hd2 := Drs.same (by assumption) hs)))
  | ((with_reducible apply r_listOf); (focus assumption); (focus (walk_at "isd")); (intro v H2 hs hi); (try (have hd2 := Drs.same (by assumption) hs)))
  | ((with_reducible apply r_ixStr); (focus assumption))
  | ((with_reducible apply r_lenL); (focus (walk_at "hat")))
  | ((with_reducible apply r_setL); (focus (walk_at "hat")); (focus ((with_unfolding_all rfl); done)); (intro H2 hk hl))
  | ((with_reducible apply r_ixMk); (focus (walk_at "hat")); (focus (assumption)); (focus assumption); (focus ((simp only [List.length_cons, List.length_nil]); decide)))
  | ((with_reducible apply r_ixI); (focus (walk_at "hat")); (focus (omega)); (focus (omega)); (intro n hn))
  | ((with_reducible apply r_mixed); (intro n hn0 hn1))
  | ((with_reducible apply r_lenP); (focus (walk_at "isd")))
  | ((with_reducible apply r_ixP); (focus (walk_at "isd")); (focus assumption); (focus assumption); (intro j pp u hj hp hu))
  | ((with_reducible apply r_ixP1); (focus assumption))
  | ((with_reducible apply r_ixL); (focus (walk_at "hat")); (focus ((with_unfolding_all rfl); done)))
  | (with_reducible refine r_memc ?_ ?_) | (with_reducible exact r_memn)))
local macro_rules | `(tactic| walk_at "go") => `(tactic| (repeat' (first | walk_at "rd" | walk_at "al")))

section
variable {K : PySem.W.Frag} {P : Program} {mg : Str → Option Value} {w : World} {base : Heap}
def sp_badi : Sp := fun vs H Q _ => ∃ (dr nu : Addr) (vp : V) (ps : Pl) (locks many size : Int), vs = [.ref dr, vp, .int locks, .int many, .int size] ∧ Drs dr nu H ∧ Is (fun _ => True) H (placesD ps) vp ∧ 0 ≤ locks ∧ 0 < many ∧ 0 ≤ size ∧ locks ≤ 1000 ∧ many ≤ 1000 ∧ size ≤ 1000 ∧ ps.length ≤ 4 ∧ ∀ d v H', Is (fun a => a = dr) H' d v → okI ps locks many size d = false → Sm 1 105 d → Keep dr H H' → Drs dr nu H' → Q v H'
theorem scX_law_bad_instruction : FnScope ["draws", "places", "locks", "many", "size", "x", "plain", "bad", "forms", "form", "parts", "more", "k"] ["draws", "places", "locks", "many", "size"] (defScope s_law_bad_instruction) := ⟨rfl, rfl, rfl, by decide +kernel, rfl, by decide +kernel, by decide +kernel⟩
theorem ok_badi (T : Txt K mg) : FnOk P w K mg base CX0 3 T.f_law_bad_instruction T.d_law_bad_instruction ["draws", "places", "locks", "many", "size"] sp_badi := by
  have G_law_draw : FnOk P w K mg base CX0 2 T.f_law_draw T.d_law_draw ["draws"] sp_draw := ok_draw T
  refine T.F_law_bad_instruction.ok scX_law_bad_instruction (fun vs H Q E h => ?_) (fun cdv A outer s H vs Q E hr h => ?_)
  · obtain ⟨_, _, _, _, _, _, _, rfl, _⟩ := h
    rfl
  · obtain ⟨dr, nu, vp, ps, locks, many, size, rfl, hD, hP, h0, h1, h2, hl0, hl1, hl2, hpl, q⟩ := h
    have nd := scX_law_bad_instruction.nd
    refine ⟨_, (pss_cons (ps_setLc (i := 6) (own := [("x", 5)]) (g := gName 5) (tt := tB (tOp (rIx K) (tOp (rIx K) (tVar 1) (tVar 5)) (tC (V.int 1)))) rfl nd rfl rfl (sw_true rfl rfl rfl (by decide +kernel)) (pi_range1 (by rfl) T.m_range (pa_cons (pe_callB call_len (by rfl) T.m_len PySem.boot_len (pa_cons (pv 1) pa_nil)) pa_nil)) (blkOk_by (own := [("x", 5)]) (N := ["draws", "places", "locks", "many", "size", "x", "plain", "bad", "forms", "form", "parts", "more", "k"]) (sc := defScope s_law_bad_instruction) (by decide +kernel)) (fun _ _ _ _ _ => pg_name (i := 5) nd rfl (Or.inl rfl)) (fun _ _ _ _ _ => (pts_one (pt_val (pe_ix ix_seq (pe_ix ix_seq (pv 1) (pv 5) (fun _ _ => rfl)) pe_int (fun _ _ => rfl))))) (fun _ _ _ _ _ => (pv 5)))
      (pss_cons (ps_set (i := 7) nd rfl (.inl rfl) (pe_lst (pa_cons (pe_tup (pa_cons pe_str (pa_cons pe_int pa_nil))) (pa_cons (pe_tup (pa_cons pe_str (pa_cons pe_int pa_nil))) (pa_cons (pe_tup (pa_cons pe_str (pa_cons pe_int pa_nil))) (pa_cons (pe_tup (pa_cons pe_str (pa_cons pe_int (pa_cons pe_int pa_nil)))) (pa_cons (pe_tup (pa_cons pe_str (pa_cons (pe_un un_neg pe_int) (pa_cons pe_int pa_nil)))) (pa_cons (pe_tup (pa_cons pe_str (pa_cons pe_int (pa_cons (pe_callB call_len (by rfl) T.m_len PySem.boot_len (pa_cons (pv 1) pa_nil)) pa_nil)))) (pa_cons (pe_tup (pa_cons pe_str (pa_cons (pe_callB call_len (by rfl) T.m_len PySem.boot_len (pa_cons (pv 1) pa_nil)) (pa_cons pe_int pa_nil)))) (pa_cons (pe_tup (pa_cons pe_str (pa_cons pe_int (pa_cons pe_bl pa_nil)))) (pa_cons (pe_tup (pa_cons pe_str (pa_cons (pv 2) pa_nil))) (pa_cons (pe_tup (pa_cons pe_str (pa_cons (pe_un un_neg pe_int) pa_nil))) (pa_cons (pe_tup (pa_cons pe_str (pa_cons pe_int (pa_cons (pv 3) (pa_cons pe_int pa_nil))))) (pa_cons (pe_tup (pa_cons pe_str (pa_cons (pe_op op_add (pv 4) pe_int) pa_nil))) (pa_cons (pe_tup (pa_cons pe_str (pa_cons pe_int (pa_cons (pe_un un_neg pe_int) pa_nil)))) (pa_cons (pe_tup (pa_cons pe_str (pa_cons pe_int (pa_cons pe_int pa_nil)))) (pa_cons (pe_tup (pa_cons pe_str (pa_cons pe_int (pa_cons (pe_un un_neg pe_int) pa_nil)))) (pa_cons (pe_tup (pa_cons pe_str (pa_cons pe_int (pa_cons pe_non pa_nil)))) (pa_cons (pe_tup (pa_cons pe_str (pa_cons pe_str (pa_cons pe_int pa_nil)))) (pa_cons (pe_tup (pa_cons pe_str (pa_cons pe_int pa_nil))) (pa_cons (pe_tup (pa_cons pe_str (pa_cons pe_int (pa_cons pe_int (pa_cons pe_int pa_nil))))) (pa_cons (pe_tup (pa_cons pe_str pa_nil)) (pa_cons (pe_tup (pa_cons pe_str (pa_cons pe_int (pa_cons pe_int pa_nil)))) (pa_cons pe_non (pa_cons (pe_tup pa_nil) (pa_cons pe_str (pa_cons (pe_lst (pa_cons pe_str pa_nil)) (pa_cons (pe_tup (pa_cons pe_str (pa_cons pe_int (pa_cons pe_int (pa_cons pe_int (pa_cons pe_int pa_nil)))))) (pa_cons (pe_tup (pa_cons pe_str (pa_cons pe_int (pa_cons pe_int (pa_cons pe_int pa_nil))))) (pa_cons (pe_tup (pa_cons pe_str (pa_cons pe_int (pa_cons (pe_callB call_len (by rfl) T.m_len PySem.boot_len (pa_cons (pv 1) pa_nil)) (pa_cons pe_int pa_nil))))) (pa_cons (pe_tup (pa_cons pe_non pa_nil)) (pa_cons (pe_tup (pa_cons pe_str (pa_cons pe_bl pa_nil))) (pa_cons (pe_tup (pa_cons pe_str (pa_cons pe_int (pa_cons pe_bl pa_nil)))) (pa_cons (pe_tup (pa_cons pe_str (pa_cons pe_int pa_nil))) pa_nil))))))))))))))))))))))))))))))))))
      (pss_cons (ps_if (PW.pt (pw_and (pt_cmpR op_gt (pe_callB call_len (by rfl) T.m_len PySem.boot_len (pa_cons (pv 6) pa_nil)) pe_int (nomark _)) (pw_and1 (pt_cmpR op_eq (pe_op op_mod (pe_call G_law_draw (hr.mono (by decide)) (by rfl) T.m_law_draw T.F_law_draw.kp T.b_law_draw .nil pass0 (pa_cons (pv 0) pa_nil)) pe_int) pe_int (nomark _))))) (pss_cons (ps_set (i := 5) nd rfl (.inl rfl) (pe_ix ix_seq (pv 6) (pe_op op_mod (pe_call G_law_draw (hr.mono (by decide)) (by rfl) T.m_law_draw T.F_law_draw.kp T.b_law_draw .nil pass0 (pa_cons (pv 0) pa_nil)) (pe_callB call_len (by rfl) T.m_len PySem.boot_len (pa_cons (pv 6) pa_nil))) (fun _ _ => rfl)))
      (pss_one (ps_ret (pe_ix ix_seq (pe_lst (pa_cons (pe_tup (pa_cons pe_str (pa_cons pe_int (pa_cons (pv 5) (pa_cons pe_int pa_nil))))) (pa_cons (pe_tup (pa_cons pe_str (pa_cons pe_int (pa_cons (pv 5) (pa_cons pe_int pa_nil))))) (pa_cons (pe_tup (pa_cons pe_str (pa_cons pe_int (pa_cons (pv 5) (pa_cons pe_int (pa_cons pe_int pa_nil)))))) (pa_cons (pe_tup (pa_cons pe_str (pa_cons pe_int (pa_cons (pv 5) (pa_cons pe_int pa_nil))))) pa_nil))))) (pe_op op_mod (pe_call G_law_draw (hr.mono (by decide)) (by rfl) T.m_law_draw T.F_law_draw.kp T.b_law_draw .nil pass0 (pa_cons (pv 0) pa_nil)) pe_int) (fun _ _ => rfl))))) pss_nil)
      (pss_cons (ps_if (pt_cmpR op_eq (pe_op op_mod (pe_call G_law_draw (hr.mono (by decide)) (by rfl) T.m_law_draw T.F_law_draw.kp T.b_law_draw .nil pass0 (pa_cons (pv 0) pa_nil)) pe_int) pe_int (nomark _)) (pss_cons (ps_set (i := 8) nd rfl (.inl rfl) (pe_lst (pa_cons (pe_tup (pa_cons pe_str (pa_cons pe_int pa_nil))) (pa_cons (pe_tup (pa_cons pe_str (pa_cons pe_int pa_nil))) (pa_cons (pe_tup (pa_cons pe_str (pa_cons pe_int pa_nil))) (pa_cons (pe_tup (pa_cons pe_str (pa_cons pe_int pa_nil))) (pa_cons (pe_tup (pa_cons pe_str (pa_cons pe_int pa_nil))) (pa_cons (pe_tup (pa_cons pe_str (pa_cons pe_int pa_nil))) (pa_cons (pe_tup (pa_cons pe_str (pa_cons pe_int pa_nil))) (pa_cons (pe_tup (pa_cons pe_str (pa_cons pe_int pa_nil))) pa_nil))))))))))
      (pss_cons (ps_set (i := 9) nd rfl (.inl rfl) (pe_ix ix_seq (pv 8) (pe_op op_mod (pe_call G_law_draw (hr.mono (by decide)) (by rfl) T.m_law_draw T.F_law_draw.kp T.b_law_draw .nil pass0 (pa_cons (pv 0) pa_nil)) pe_int) (fun _ _ => rfl)))
      (pss_cons (ps_setLc (i := 10) (own := [("k", 12)]) (g := gName 12) rfl nd rfl rfl (sw_true rfl rfl rfl (by decide +kernel)) (pi_range1 (by rfl) T.m_range (pa_cons (pe_ix ix_seq (pv 9) pe_int (fun _ _ => rfl)) pa_nil)) (blkOk_by (own := [("k", 12)]) (N := ["draws", "places", "locks", "many", "size", "x", "plain", "bad", "forms", "form", "parts", "more", "k"]) (sc := defScope s_law_bad_instruction) (by decide +kernel)) (fun _ _ _ _ _ => pg_name (i := 12) nd rfl (Or.inl rfl)) (fun _ _ _ _ _ => pts_nil) (fun _ _ _ _ _ => (pe_op op_mod (pe_call G_law_draw (hr.mono (by decide)) (by rfl) T.m_law_draw T.F_law_draw.kp T.b_law_draw .nil pass0 (pa_cons (pv 0) pa_nil)) pe_int)))
      (pss_cons (ps_asg (pe_ix ix_seq (pe_lst (pa_cons pe_int (pa_cons (pe_un un_neg pe_int) (pa_cons pe_int (pa_cons pe_bl (pa_cons pe_non (pa_cons pe_str pa_nil))))))) (pe_op op_mod (pe_call G_law_draw (hr.mono (by decide)) (by rfl) T.m_law_draw T.F_law_draw.kp T.b_law_draw .nil pass0 (pa_cons (pv 0) pa_nil)) pe_int) (fun _ _ => rfl)) (pg_sub (pv 10) (pe_op op_mod (pe_call G_law_draw (hr.mono (by decide)) (by rfl) T.m_law_draw T.F_law_draw.kp T.b_law_draw .nil pass0 (pa_cons (pv 0) pa_nil)) (pe_ix ix_seq (pv 9) pe_int (fun _ _ => rfl))) set_list))
      (pss_one (ps_ret (pe_op op_catA (pe_tup (pa_cons (pe_ix ix_seq (pv 9) pe_int (fun _ _ => rfl)) pa_nil)) (pe_callTy call_tup (by rfl) T.m_tuple (by decide +kernel) (pa_cons (pv 10) pa_nil))))))))) pss_nil)
      (pss_cons (ps_if (pt_cmpR op_eq (pe_op op_mod (pe_call G_law_draw (hr.mono (by decide)) (by rfl) T.m_law_draw T.F_law_draw.kp T.b_law_draw .nil pass0 (pa_cons (pv 0) pa_nil)) pe_int) pe_int (nomark _)) (pss_cons (ps_set (i := 11) nd rfl (.inl rfl) (pe_lst (pa_cons (pe_tup (pa_cons pe_str (pa_cons pe_int (pa_cons pe_int pa_nil)))) (pa_cons (pe_tup (pa_cons pe_str (pa_cons pe_int (pa_cons (pe_op op_add (pv 4) pe_int) pa_nil)))) (pa_cons (pe_tup (pa_cons pe_str (pa_cons pe_int (pa_cons (pe_un un_neg pe_int) (pa_cons pe_int pa_nil))))) (pa_cons (pe_tup (pa_cons pe_str (pa_cons pe_int (pa_cons pe_int (pa_cons pe_int pa_nil))))) (pa_cons (pe_tup (pa_cons pe_str (pa_cons pe_int (pa_cons pe_int (pa_cons pe_int pa_nil))))) (pa_cons (pe_tup (pa_cons pe_str (pa_cons pe_bl pa_nil))) (pa_cons (pe_tup (pa_cons pe_str (pa_cons pe_bl (pa_cons pe_int pa_nil)))) (pa_cons (pe_tup (pa_cons pe_str (pa_cons pe_int (pa_cons pe_int (pa_cons pe_int pa_nil))))) (pa_cons (pe_tup (pa_cons pe_str (pa_cons pe_int (pa_cons pe_int (pa_cons pe_int pa_nil))))) (pa_cons (pe_tup (pa_cons pe_str (pa_cons pe_int (pa_cons pe_int (pa_cons pe_int (pa_cons pe_int pa_nil)))))) (pa_cons (pe_tup (pa_cons pe_str (pa_cons pe_int (pa_cons (pe_un un_neg pe_int) (pa_cons pe_int pa_nil))))) (pa_cons (pe_tup (pa_cons pe_str (pa_cons (pe_un un_neg pe_int) pa_nil))) pa_nil))))))))))))))
      (pss_one (ps_ret (pe_ix ix_seq (pv 11) (pe_op op_mod (pe_call G_law_draw (hr.mono (by decide)) (by rfl) T.m_law_draw T.F_law_draw.kp T.b_law_draw .nil pass0 (pa_cons (pv 0) pa_nil)) pe_int) (fun _ _ => rfl))))) pss_nil)
      (pss_one (ps_ret (pe_ix ix_seq (pv 7) (pe_op op_mod (pe_call G_law_draw (hr.mono (by decide)) (by rfl) T.m_law_draw T.F_law_draw.kp T.b_law_draw .nil pass0 (pa_cons (pv 0) pa_nil)) pe_int) (fun _ _ => rfl))))))))), ?_⟩
    walk_at "go"
    refine lc_rng (by omega) (fun C hC => ⟨fun i H3 => ∃ ns : List Int, Same H H3 ∧ H3 C = some (.lst (ns.map V.int)) ∧ (ns.length : Int) ≤ i ∧ ∀ n ∈ ns, ∃ j : Nat, n = (j : Int) ∧ j < ps.length ∧ ∃ f, ps[j]? = some (f, true), ?_, ?_, ?_⟩)
    · exact ⟨[], same_upd hC, upd_same, by simp, fun _ h => by cases h⟩
    · intro i H3 hi0 hi1 ⟨ns, sm, hl, hlen, hns⟩
      have hP3 := Is.keep (KeepM.same sm) hP
      walk_at "go"
      · refine ⟨_, hl, size_lt (by rw [List.length_map]; omega), ns ++ [i], Same.cell sm hC Keep.upd, by rw [upd_same, ← snocI], by simp; omega, snocP hns ⟨j, hj, by omega, pp.1, by rw [hp, ← h]⟩⟩
      · exact ⟨ns, sm, hl, by omega, hns⟩
    · intro H3 ⟨ns, sm, hl, hlen, hns⟩
      have hD3 := Drs.same hD sm
      have hP3 := Is.keep (KeepM.same sm) hP
      have hCd := ne_dr hD hC
      have hlm : (ns.map V.int).length = ns.length := List.length_map _
      have k3 : Keep dr H H3 := Keep.same sm
      clear hD sm hP
      walk_at "go"
      · obtain ⟨j, rfl, hj, f, hpj⟩ := hns _ ‹_ ∈ ns›
        refine q d u _ hu ?_ ?_ (by walk_at "kp") (by assumption)
        rotate_left
        · refine memAll (R := fun d => Sm 1 105 d) hmem ?_
          repeat' (first | exact each0 | refine each ?_ ?_)
          all_goals (refine sm_row ?_ (by simp))
          all_goals (repeat' (first | exact each0 | refine each ?_ ?_))
          all_goals (walk_at "leaf")
        refine memAll (R := fun d => okI ps locks many size d = false) hmem ?_
        have hs0 : okNum ps locks many size .s (.int (j : Int)) = false := by rw [okNum_s hpj hj]; rfl
        repeat' (first | exact memn | refine memc ?_ ?_)
        all_goals refine okI_ne (by with_unfolding_all rfl) ?_
        all_goals exact okAll_bad (j := 1) (s := .s) (d := .int (j : Int)) rfl rfl hs0
      rotate_left
      · exact q d u _ hu (bad_more d hmem) (more_sm (ps := ps) (locks := locks) (many := many) h2 hl2 d hmem) (by walk_at "kp") (by assumption)
      · exact q d u _ hu (bad_list d hmem) (list_sm (by omega) h0 hl0 (by omega) hl1 h2 hl2 d hmem) (by walk_at "kp") (by assumption)
      rotate_left
      · exact q d u _ hu (bad_more d hmem) (more_sm (ps := ps) (locks := locks) (many := many) h2 hl2 d hmem) (by walk_at "kp") (by assumption)
      · exact q d u _ hu (bad_list d hmem) (list_sm (by omega) h0 hl0 (by omega) hl1 h2 hl2 d hmem) (by walk_at "kp") (by assumption)
      all_goals
        obtain ⟨wd, k, rfl, hk1, hk3, hw⟩ := regForm hmem
        have huT : Is (fun _ => True) H2 (.tuple [.str wd, .int (k : Int)]) u := hu
        have hkz : (0 : Int) < (k : Int) := by omega
        have kH2 : Keep dr H H2 := by walk_at "kp"
        have hD2 : Drs dr nu H2 := by assumption
        clear hu hmem
        walk_at "go"
        clear hs hi
        refine lc_rng (by omega) (fun C2 hC2 => ⟨fun i H4 => ∃ ns2 : List Int, Keep dr H2 H4 ∧ Drs dr nu H4 ∧ H4 C2 = some (.lst (ns2.map V.int)) ∧ (ns2.length : Int) = i ∧ ∀ n ∈ ns2, 0 ≤ n ∧ n < 4, ?_, ?_, ?_⟩)
        · have sC : Same H2 (upd H2 C2 (.lst [])) := same_upd hC2
          exact ⟨[], Keep.same sC, hD2.same sC, upd_same, rfl, each0⟩
        · intro i H4 hi0 hi1 ⟨ns2, k4, hd4, hc4, hlen4, hb4⟩
          have hCd2 : C2 ≠ dr := ne_dr hD2 hC2
          have hCn2 : C2 ≠ nu := ne_nu hD2 hC2
          walk_at "go"
          have hc5 : _ = some (HO.lst (ns2.map V.int)) := (by walk_at "hat" : H2 C2 = some (HO.lst (ns2.map V.int)))
          refine ⟨_, hc5, size_lt (by rw [List.length_map]; omega), ns2 ++ [m], ?_, ?_, by rw [upd_same, ← snocI], by simp; omega, snocB hb4 (by assumption) (by omega)⟩
          · exact Keep.cell (Keep.trans k4 (by assumption)) hC2 Keep.upd
          · exact Drs.cell (by assumption) hCd2 hCn2
        · intro H4 ⟨ns2, k4, hd4, hc4, hlen4, hb4⟩
          have hCd2 : C2 ≠ dr := ne_dr hD2 hC2
          have hCn2 : C2 ≠ nu := ne_nu hD2 hC2
          walk_at "go"
          have hc5 : H2 C2 = some (HO.lst (ns2.map V.int)) := by walk_at "hat"
          refine r_setL hc5 (ixN_ok hm0 (by rw [List.length_map]; omega)) (fun H5 hk5 hl5 => ?_)
          have hD5 : Drs dr nu H5 := Drs.cellK (by assumption) hk5 hCd2 hCn2
          have iaP : IsAll (fun a => a = dr) H5 ((ns2.map PyData.int).set m.toNat d) ((ns2.map V.int).set m.toNat u) := IsAll.set (badRegIs hmem hu) _ (IsAll.ints ns2)
          have huT5 := Is.keep2 huT (by walk_at "km" : KeepM (fun _ => True) _ H5)
          have k5 : Keep dr H H5 := Keep.trans kH2 (Keep.cell (by walk_at "kp") hC2 hk5)
          have hbadR := badReg hmem
          have hmemR := hmem
          clear hi hu hmem
          walk_at "go"
          refine r_ix0D huT5 (fun uw huw => ?_)
          cases huw
          walk_at "go"
          refine q _ _ _ hi ?_ (sm_row (each (shape_signs hw) (setSm hb4 (badRegSm hmemR) _)) (by simp; omega)) (by walk_at "kp") (by assumption)
          exact okI_ne hw (okAll_bad (j := m.toNat) (s := .r) (d := d) (getElem?_rep (by omega)) (by show ((ns2.map PyData.int).set m.toNat d)[m.toNat]? = some d; rw [List.getElem?_set_self (by rw [List.length_map]; omega)]) hbadR)
end
end EW
set_option Elab.async false
set_option linter.all false
set_option maxRecDepth 100000
set_option maxHeartbeats 16000000
set_option pp.maxSteps 250
namespace EW
open L2 PyProof.Rows PySem.Spec PySem
theorem places_all {M M' : Addr → Prop} {H : Hp} : ∀ {ps : Pl} {vs : List V}, IsAll M H (ps.map placeD) vs → IsAll M' H (ps.map placeD) vs
  | [], _, h => h
  | p :: r, _, ⟨x, vs, e, h, t⟩ => ⟨x, vs, e, h, places_all t⟩
theorem places_top {M M' : Addr → Prop} {H : Hp} {ps : Pl} {v : V} (h : Is M H (placesD ps) v) : Is M' H (placesD ps) v := by
  obtain ⟨a, xs, e, h1, t⟩ := h
  exact ⟨a, xs, e, h1, places_all t⟩
theorem r_badi {dr nu : Addr} {M : Addr → Prop} {vp : V} {ps : Pl} {locks many size : Int} {H : Hp} {Q : VK} {E : XK} (hd : Drs dr nu H) (hp : Is M H (placesD ps) vp) (h0 : 0 ≤ locks) (h1 : 0 < many) (h2 : 0 ≤ size) (l0 : locks ≤ 1000) (l1 : many ≤ 1000) (l2 : size ≤ 1000) (h4 : ps.length ≤ 4) (q : ∀ d v H', Is (fun a => a = dr) H' d v → okI ps locks many size d = false → Sm 1 105 d → Keep dr H H' → Drs dr nu H' → Q v H') : sp_badi ([.ref dr, vp, .int locks, .int many, .int size] ++ []) H Q E := ⟨dr, nu, vp, ps, locks, many, size, rfl, hd, places_top hp, h0, h1, h2, l0, l1, l2, h4, q⟩
theorem okP_vars {vs l cs ts : PyData} (h : okTup 0 4 okVar vs = false) : okP (.tuple [vs, l, cs, ts]) = false := by rw [okP_eq, h]; rfl
theorem okP_lock {vs l cs ts : PyData} (h : isInt 0 2 l = false) : okP (.tuple [vs, l, cs, ts]) = false := by rw [okP_eq, h, Bool.false_and, Bool.and_false]
theorem okP_codes {vs l cs ts : PyData} (h : okTup 1 6 (okCode (plOf vs) (intOf l) (clen cs)) cs = false) : okP (.tuple [vs, l, cs, ts]) = false := by rw [okP_eq, h, Bool.false_and, Bool.and_false, Bool.and_false]
theorem okP_thr {vs l cs ts : PyData} (h : okTup 1 4 (okThread (clen cs)) ts = false) : okP (.tuple [vs, l, cs, ts]) = false := by rw [okP_eq, h, Bool.and_false, Bool.and_false, Bool.and_false]
theorem mem_mid {α : Type} {x : α} {a b : List α} : x ∈ a ++ [x] ++ b := List.mem_append.mpr (.inl (List.mem_append.mpr (.inr (List.mem_singleton.mpr rfl))))
theorem len_mid {α : Type} {x : α} {l : List α} {j : Nat} (h : j < l.length) : (l.take j ++ [x] ++ l.drop (j + 1)).length = l.length := by simp; omega
theorem len_ins {α : Type} {x : α} {l : List α} {j : Nat} (h : j ≤ l.length) : (l.take j ++ [x] ++ l.drop j).length = l.length + 1 := by simp; omega
theorem rep_len {l : List PyData} (h : 1 ≤ l.length) : ∀ n : Nat, (List.replicate n (l.take (Int.toNat 1))).flatten.length = n
  | 0 => rfl
  | n + 1 => by
    rw [List.replicate_succ, List.flatten_cons, List.length_append, rep_len h n]
    cases l with
    | nil => simp at h
    | cons x r => show 1 + n = n + 1; omega
theorem tup_long {lo hi : Int} {ok : PyData → Bool} {ds : List PyData} (h : hi < ds.length) : okTup lo hi ok (.tuple ds) = false := by
  show (decide (lo ≤ (ds.length : Int) ∧ (ds.length : Int) ≤ hi) && ds.all ok) = false
  rw [decide_eq_false (by omega)]; rfl
theorem spo_code {ps : Pl} {locks : Int} {cs ts is : List PyData} {a k : Int} {d : PyData} (h0 : 0 ≤ a) (h1 : a < cs.length) (k0 : 0 ≤ k) (k1 : k < (is.length : Int) + 1) (hb : okI ps locks cs.length ((is.length : Int) + 1) d = false) :
    okP (.tuple [.tuple (ps.map placeD), .int locks, .tuple (cs.take a.toNat ++ [PyData.tuple (is.take k.toNat ++ [d] ++ is.drop k.toNat)] ++ cs.drop (a + 1).toNat), .tuple ts]) = false := by
  refine okP_codes (tup_bad mem_mid ?_)
  have e1 : clen (.tuple (cs.take a.toNat ++ [PyData.tuple (is.take k.toNat ++ [d] ++ is.drop k.toNat)] ++ cs.drop (a + 1).toNat)) = cs.length := by
    show (((cs.take a.toNat ++ [PyData.tuple (is.take k.toNat ++ [d] ++ is.drop k.toNat)] ++ cs.drop (a + 1).toNat).length : Nat) : Int) = cs.length
    have : (a + 1).toNat = a.toNat + 1 := by omega
    rw [this, len_mid (by omega)]
  have e2 : clen (.tuple (is.take k.toNat ++ [d] ++ is.drop k.toNat)) = (is.length : Int) + 1 := by
    show (((is.take k.toNat ++ [d] ++ is.drop k.toNat).length : Nat) : Int) = _
    rw [len_ins (by omega)]; omega
  have e3 : plOf (.tuple (ps.map placeD)) = ps := plOf_places ps
  unfold okCode
  rw [e1, e2, e3]
  exact tup_bad mem_mid hb
def badP1 (ps : Pl) (locks : Int) (cs ts is : List PyData) (a b : Nat) : List PyData := [.tuple (List.take (Int.toNat 3) [.tuple (ps.map placeD), .int locks, .tuple cs, .tuple ts]), .tuple ([.tuple (ps.map placeD), .int locks, .tuple cs, .tuple ts] ++ [.int 0]), .list [.tuple (ps.map placeD), .int locks, .tuple cs, .tuple ts], .none, .tuple [.list (ps.map placeD), .int locks, .tuple cs, .tuple ts], .tuple [.tuple (ps.map placeD), .int locks, .list cs, .tuple ts], .tuple [.tuple (ps.map placeD), .int locks, .tuple cs, .list ts], .tuple [.tuple (ps.map placeD), .int locks, .tuple (cs.take a ++ [.list is] ++ cs.drop b), .tuple ts]]
theorem bad_p1 {ps : Pl} {locks : Int} {cs ts is : List PyData} {a b : Nat} : ∀ d ∈ badP1 ps locks cs ts is a b, okP d = false :=
  memc rfl (memc rfl (memc rfl (memc rfl (memc (okP_vars rfl) (memc (okP_codes rfl) (memc (okP_thr rfl) (memc (okP_codes (tup_bad mem_mid rfl)) memn)))))))
def badP2 (ps : Pl) (locks : Int) (cs ts : List PyData) (a b : Nat) : List PyData := [.tuple [.tuple (ps.map placeD), .int locks, .tuple cs, .tuple []], .tuple [.tuple (ps.map placeD), .int locks, .tuple [], .tuple []], .tuple [.tuple (List.replicate (Int.toNat 5) [PyData.tuple [.int 0, .bool false]]).flatten, .int locks, .tuple cs, .tuple ts], .tuple [.tuple (ps.map placeD), .int locks, .tuple (List.replicate (Int.toNat 7) (cs.take (Int.toNat 1))).flatten, .tuple (ts.take (Int.toNat 1))], .tuple [.tuple (ps.map placeD), .int locks, .tuple cs, .tuple (List.replicate (Int.toNat 5) (ts.take (Int.toNat 1))).flatten], .tuple [.tuple (ps.map placeD), .int locks, .tuple (cs.take a ++ [.tuple (List.replicate (Int.toNat 17) [PyData.tuple [.str "fence"]]).flatten] ++ cs.drop b), .tuple ts]]
theorem bad_p2 {ps : Pl} {locks : Int} {cs ts : List PyData} {a b : Nat} (hc : 1 ≤ cs.length) (ht : 1 ≤ ts.length) : ∀ d ∈ badP2 ps locks cs ts a b, okP d = false :=
  memc (okP_thr rfl) (memc (okP_codes rfl) (memc (okP_vars rfl) (memc (okP_codes (tup_long (by rw [rep_len hc]; decide))) (memc (okP_thr (tup_long (by rw [rep_len ht]; decide))) (memc (okP_codes (tup_bad mem_mid (by unfold okCode; exact tup_long (by decide)))) memn)))))
def badThr (n : Int) : List PyData := [.tuple [.int n, .int 0], .tuple [.int (-1), .int 0], .tuple [.int 0, .int 1000], .tuple [.int 0, .none], .tuple [.int 0], .tuple [.int 0, .int 0, .int 0], .list [.int 0, .int 0], .none, .tuple [.bool true, .int 0], .tuple [.int 0, .bool true], .tuple [.int 0, .int (-1000)]]
theorem bad_thr {n : Int} : ∀ d ∈ badThr n, okThread n d = false := by
  unfold badThr
  repeat' (first | exact memn | refine memc ?_ ?_)
  all_goals first | rfl | (simp [okThread, isInt]; done) | (simp [okThread, isInt]; omega)
def badVar : List PyData := [.tuple [.int 1000, .bool false], .tuple [.int 0, .int 0], .tuple [.int 0, .none], .tuple [.int 0], .list [.int 0, .bool false], .none, .tuple [.bool true, .bool false], .tuple [.str "0", .bool false], .tuple [.int (-1000), .bool false]]
theorem bad_var : ∀ d ∈ badVar, okVar d = false := by
  unfold badVar
  repeat' (first | exact memn | refine memc ?_ ?_)
  all_goals first | rfl | (simp [okVar, isInt]; done)
def badLock : List PyData := [.int 3, .int (-1), .bool true, .none, .str "1"]
theorem bad_lock : ∀ d ∈ badLock, isInt 0 2 d = false := by
  unfold badLock
  repeat' (first | exact memn | refine memc ?_ ?_)
  all_goals first | rfl | (simp [isInt]; done)
local macro_rules | `(tactic| walk_at "leaf") => `(tactic| (first | exact (sm_int (by first | decide | omega) (by first | decide | omega)).leaf (by decide) | exact sm_none.leaf (by decide) | exact (sm_bool _).leaf (by decide) | exact sm_str (by decide) (by decide)))
local macro_rules | `(tactic| walk_at "smrow") => `(tactic| (first | (refine sm_row ?_ (by decide); repeat' (first | exact each0 | (refine each ?_ ?_)); all_goals (walk_at "leaf")) | (refine sm_rowL ?_ (by decide); repeat' (first | exact each0 | (refine each ?_ ?_)); all_goals (walk_at "leaf")) | (refine sm_row1 ?_; (walk_at "leaf"))))
theorem all_mid {α : Type} {R : α → Prop} {l : List α} {x : α} {a b : Nat} (h : ∀ y ∈ l, R y) (hx : R x) : ∀ y ∈ l.take a ++ [x] ++ l.drop b, R y := fun y hy => by
  rcases (List.mem_append.mp hy) with hy | hy
  · rcases (List.mem_append.mp hy) with hy | hy
    · exact h y (List.mem_of_mem_take hy)
    · rw [List.mem_singleton.mp hy]; exact hx
  · exact h y (List.mem_of_mem_drop hy)
theorem all_rep {α : Type} {R : α → Prop} {l : List α} {n : Nat} (h : ∀ y ∈ l, R y) : ∀ y ∈ (List.replicate n l).flatten, R y := fun y hy => by
  obtain ⟨k, hk, hy⟩ := List.mem_flatten.mp hy
  rw [(List.mem_replicate.mp hk).2] at hy
  exact h y hy
theorem len_mid2 {α : Type} {l : List α} {x : α} {a b n : Nat} (h : 2 * l.length + 1 ≤ n) : (l.take a ++ [x] ++ l.drop b).length ≤ n := by
  simp only [List.length_append, List.length_take, List.length_drop, List.length_cons, List.length_nil]; omega
theorem sm_code {is : List PyData} (h : ∀ i ∈ is, Sm 1 105 i) (l : is.length ≤ 17) : Sm 2 1802 (.tuple is) := sm_tup h l
theorem sm_codeL {is : List PyData} (h : ∀ i ∈ is, Sm 1 105 i) (l : is.length ≤ 17) : Sm 2 1802 (.list is) := sm_lst h l
theorem sm_codes {cs : List PyData} (h : ∀ i ∈ cs, Sm 2 1802 i) (l : cs.length ≤ 7) : Sm 3 12621 (.tuple cs) := sm_tup h l
theorem sm_codesL {cs : List PyData} (h : ∀ i ∈ cs, Sm 2 1802 i) (l : cs.length ≤ 7) : Sm 3 12621 (.list cs) := sm_lst h l
theorem sm_rows {is : List PyData} (h : ∀ i ∈ is, Sm 1 105 i) (l : is.length ≤ 17) : Sm 3 12621 (.tuple is) := (sm_code h l).mono (by decide) (by decide)
theorem sm_rowsL {is : List PyData} (h : ∀ i ∈ is, Sm 1 105 i) (l : is.length ≤ 17) : Sm 3 12621 (.list is) := (sm_codeL h l).mono (by decide) (by decide)
/-- a small datum that is None, a tuple or a list: what str is asked of -/
structure Top (d : PyData) : Prop where
  sm : Sm 8 1000000 d
  fm : d = .none ∨ (∃ ds, d = .tuple ds) ∨ ∃ ds, d = .list ds
theorem Top.ref {M : Addr → Prop} {H : Hp} {d : PyData} {v : V} (h : Top d) (i : Is M H d v) : d = .none ∨ ∃ a, v = .ref a := by
  rcases h.fm with rfl | ⟨ds, rfl⟩ | ⟨ds, rfl⟩
  · exact .inl rfl
  · obtain ⟨a, _, e, _⟩ := i
    exact .inr ⟨a, e⟩
  · obtain ⟨a, _, e, _⟩ := i
    exact .inr ⟨a, e⟩
theorem sm_top {ds : List PyData} (h : ∀ i ∈ ds, Sm 3 12621 i) (l : ds.length ≤ 5) : Top (.tuple ds) := ⟨(sm_tup h l).mono (by decide) (by decide), .inr (.inl ⟨_, rfl⟩)⟩
theorem sm_topL {ds : List PyData} (h : ∀ i ∈ ds, Sm 3 12621 i) (l : ds.length ≤ 5) : Top (.list ds) := ⟨(sm_lst h l).mono (by decide) (by decide), .inr (.inr ⟨_, rfl⟩)⟩
structure SmG (ps : Pl) (locks : Int) (cs ts : List PyData) : Prop where
  v : ∀ d ∈ ps.map placeD, Sm 1 105 d
  vl : (ps.map placeD).length ≤ 3
  l : Sm 3 12621 (.int locks)
  c : ∀ d ∈ cs, Sm 2 1802 d
  cl : cs.length ≤ 3
  t : ∀ d ∈ ts, Sm 1 105 d
  tl : ts.length ≤ 3
theorem good_sm {ps : Pl} {locks : Int} {cs ts : List PyData} (h : GoodP 8 ps locks cs ts) : SmG ps locks cs ts where
  v := fun d hd => by
    obtain ⟨p, hp, rfl⟩ := List.mem_map.mp hd
    obtain ⟨a, b⟩ := h.pv p hp
    exact sm_row (each ((sm_int (by omega) (by omega)).leaf (by decide)) (each ((sm_bool _).leaf (by decide)) each0)) (by simp)
  vl := by rw [List.length_map]; exact h.pl
  l := by have a := h.l0; have b := h.l1; exact (sm_int (by omega) (by omega)).mono (by decide) (by decide)
  c := fun d hd => by
    obtain ⟨is, rfl, hl, hi⟩ := (h.cg d hd).ex
    have a := h.pl
    have b := h.l1
    have c := h.c1
    exact sm_code (fun i hm => okI_sm (hi i hm) (by omega) (by omega) (by omega) (by omega)) (by omega)
  cl := h.c1
  t := fun d hd => by
    obtain ⟨k, a, rfl, k0, k1, a0, a1⟩ := (h.tg d hd).ex
    have c := h.c1
    exact sm_row (each ((sm_int (by omega) (by omega)).leaf (by decide)) (each ((sm_int (by omega) (by omega)).leaf (by decide)) each0)) (by simp)
  tl := h.t1
theorem sm_full {vs cs ts : List PyData} {l : PyData} (hv : ∀ d ∈ vs, Sm 1 105 d) (vl : vs.length ≤ 17) (hl : Sm 3 12621 l) (hc : ∀ d ∈ cs, Sm 2 1802 d) (cl : cs.length ≤ 7) (ht : ∀ d ∈ ts, Sm 1 105 d) (tl : ts.length ≤ 17) : Top (.tuple [.tuple vs, l, .tuple cs, .tuple ts]) :=
  sm_top (each (sm_rows hv vl) (each hl (each (sm_codes hc cl) (each (sm_rows ht tl) each0)))) (by simp)
theorem thr_sm {n : Int} (h0 : 0 ≤ n) (h1 : n ≤ 1000) : ∀ d ∈ badThr n, Sm 1 105 d := by
  unfold badThr
  repeat' (first | exact each0 | refine each ?_ ?_)
  all_goals first | (refine sm_row ?_ (by simp)) | (refine sm_rowL ?_ (by simp)) | (refine sm_row1 ?_)
  all_goals (repeat' (first | exact each0 | refine each ?_ ?_))
  all_goals (walk_at "leaf")
theorem var_sm : ∀ d ∈ badVar, Sm 1 105 d := by
  unfold badVar
  repeat' (first | exact each0 | refine each ?_ ?_)
  all_goals first | (refine sm_row ?_ (by simp)) | (refine sm_rowL ?_ (by simp)) | (refine sm_row1 ?_)
  all_goals (repeat' (first | exact each0 | refine each ?_ ?_))
  all_goals (walk_at "leaf")
theorem lock_sm : ∀ d ∈ badLock, Sm 3 12621 d := by
  unfold badLock
  repeat' (first | exact each0 | refine each ?_ ?_)
  all_goals (refine Sm.mono (k := 0) (b := 20) ?_ (by decide) (by decide))
  all_goals (walk_at "leaf")
theorem p1_sm {ps : Pl} {locks : Int} {cs ts is : List PyData} {a b : Nat} (g : SmG ps locks cs ts) (hi : ∀ i ∈ is, Sm 1 105 i) (il : is.length ≤ 8) : ∀ d ∈ badP1 ps locks cs ts is a b, Top d :=
  have vl := g.vl
  have cl := g.cl
  have tl := g.tl
  have V := sm_rows g.v (by omega)
  have C := sm_codes g.c (by omega)
  have T := sm_rows g.t (by omega)
  have all4 : ∀ x ∈ [PyData.tuple (ps.map placeD), .int locks, .tuple cs, .tuple ts], Sm 3 12621 x := each V (each g.l (each C (each T each0)))
  each (sm_top (fun x hx => all4 x (List.mem_of_mem_take hx)) (by with_unfolding_all exact Nat.le_of_ble_eq_true rfl)) (each (sm_top (List.forall_mem_append.mpr ⟨all4, each ((sm_int (by decide) (by decide)).mono (by decide) (by decide)) each0⟩) (by with_unfolding_all exact Nat.le_of_ble_eq_true rfl)) (each (sm_topL all4 (by with_unfolding_all exact Nat.le_of_ble_eq_true rfl)) (each ⟨sm_none.mono (by decide) (by decide), .inl rfl⟩
  (each (sm_top (each (sm_rowsL g.v (by omega)) (each g.l (each C (each T each0)))) (by simp))
  (each (sm_top (each V (each g.l (each (sm_codesL g.c (by omega)) (each T each0)))) (by simp))
  (each (sm_top (each V (each g.l (each C (each (sm_rowsL g.t (by omega)) each0)))) (by simp))
  (each (sm_full g.v (by omega) g.l (all_mid g.c (sm_codeL hi (by omega))) (len_mid2 (by omega)) g.t (by omega)) each0)))))))
theorem p2_sm {ps : Pl} {locks : Int} {cs ts : List PyData} {a b : Nat} (g : SmG ps locks cs ts) (hc : 1 ≤ cs.length) (ht : 1 ≤ ts.length) : ∀ d ∈ badP2 ps locks cs ts a b, Top d :=
  have vl := g.vl
  have cl := g.cl
  have tl := g.tl
  each (sm_full g.v (by omega) g.l g.c (by omega) each0 (by decide))
  (each (sm_full g.v (by omega) g.l each0 (by decide) each0 (by decide))
  (each (sm_full (all_rep (each (sm_row (each (by walk_at "leaf") (each (by walk_at "leaf") each0)) (by simp)) each0)) (by with_unfolding_all exact Nat.le_of_ble_eq_true rfl) g.l g.c (by omega) g.t (by omega))
  (each (sm_full g.v (by omega) g.l (all_rep fun x hx => g.c x (List.mem_of_mem_take hx)) (by rw [rep_len hc]; decide) (fun x hx => g.t x (List.mem_of_mem_take hx)) (by rw [List.length_take]; omega))
  (each (sm_full g.v (by omega) g.l g.c (by omega) (all_rep fun x hx => g.t x (List.mem_of_mem_take hx)) (by rw [rep_len ht]; decide))
  (each (sm_full g.v (by omega) g.l (all_mid g.c (sm_code (all_rep (each (sm_row (each (by walk_at "leaf") each0) (by simp)) each0)) (by with_unfolding_all exact Nat.le_of_ble_eq_true rfl))) (len_mid2 (by omega)) g.t (by omega)) each0)))))
set_option hygiene false
local macro_rules | `(tactic| walk_at "km") => `(tactic| (first
  | exact KeepM.refl
  | (refine KeepM.trans ?_ (KeepM.same (by assumption)); walk_at "km")
  | (refine KeepM.trans ?_ (Keep.toML (by assumption) (by assumption)); walk_at "km")
  | (refine KeepM.trans ?_ (Keep.toMD (by assumption) (by assumption)); walk_at "km")
  | (refine KeepM.trans ?_ (Keep.toM (by assumption) (by assumption) (by first | trivial | rfl)); walk_at "km")))
local macro_rules | `(tactic| walk_at "kp") => `(tactic| (first
  | exact Keep.refl
  | (refine Keep.trans ?_ (Keep.same (by assumption)); walk_at "kp")
  | (refine Keep.trans ?_ (by assumption); walk_at "kp")
  | (refine Keep.cell2 (by assumption) (by assumption) ?_; walk_at "kp")))
local macro_rules | `(tactic| walk_at "sm") => `(tactic| (first
  | exact Same.refl _
  | (refine Same.trans ?_ (by assumption); walk_at "sm")))
local macro_rules | `(tactic| walk_at "hat") => `(tactic| (first
  | assumption
  | (refine same_get (by assumption) ?_; walk_at "hat")
  | (refine Keep.get (by assumption) (by assumption) ?_; walk_at "hat")))
local macro_rules | `(tactic| walk_at "isd") => `(tactic| (with_reducible first
  | exact is_int | exact is_str | exact is_bl | exact is_non | assumption | (refine Is.weak (M := fun _ => True) (fun _ _ => trivial) (by assumption))
  | (refine Is.keep ?_ (by assumption); walk_at "km")))
local macro_rules | `(tactic| walk_at "isall") => `(tactic| (repeat (with_reducible first | exact IsAll.nil | (apply IsAll.cons; (walk_at "isd")))))
local macro_rules | `(tactic| walk_at "pos") => `(tactic| (first | decide | assumption | omega | (simp only [decide_eq_false_iff_not] at *; omega)))
local macro_rules | `(tactic| walk_at "rd") => `(tactic| (with_reducible first
  | refine r_seq ?_ | refine r_asg ?_ | refine r_name ?_ | refine r_C ?_ | refine r_op ?_ | refine r_un ?_ | refine r_rU ?_ | refine r_I0 ?_ | refine r_eqI ?_ | refine r_neI ?_ | refine r_test ?_ | refine r_tB ?_ | refine r_exk ?_ | refine r_and ?_ | refine r_or ?_ | refine r_not ?_ | refine r_ifS ?_ | refine r_ret ?_ | refine r_next ?_ | refine r_drop ?_ | refine r_nil ?_ | refine r_cons ?_ | refine r_call ?_ | refine r_CB ?_ | refine r_tup ?_ | refine r_lst ?_ | refine r_sub ?_ | refine r_gCons ?_ | refine r_pc ?_ | refine r_pn ?_ | (refine r_disp ?_; intro p H2 hn hs hl) | refine r_eqS ?_ | refine r_sl ?_ | refine r_noPart ?_ | refine r_part ?_ | refine r_partK ?_ | refine r_jsF ?_ | refine r_jsN ?_ | refine r_dget ?_ | refine r_iZ ?_ | refine r_gNil ?_ | refine r_isTy ?_ | refine r_notTy ?_ | refine r_andV ?_ | refine r_chain ?_ | refine r_andK (fun h => ?_) (fun h => ?_) | refine r_chK (fun h => ?_) (fun h => ?_) | refine r_andKb (fun h => ?_) (fun h => ?_) | refine r_for ?_ | refine r_lc ?_ | refine r_iL ?_ | refine r_iT ?_ | refine r_iR ?_
  | (apply r_var; (focus ((with_unfolding_all rfl); done)))
  | (refine r_mod ?_ ?_; (focus ((walk_at "pos"); done)); intro m hm0 hm1)
  | (refine r_I ?_ ?_; (focus ((first | decide | (unfold CMul; omega) | (unfold CDiv; omega) | (unfold CPow; omega) | omega); done)))
  | (apply r_wipe; (focus ((with_unfolding_all rfl); done))) | refine r_yes ?_ | refine iteT ?_ | refine iteF ?_ | refine r_ifeq (fun h => ?_) (fun h => ?_) | refine r_ifd (fun h => ?_) (fun h => ?_) | refine r_ifnd (fun h => ?_) (fun h => ?_) | refine ite2 (fun h => ?_) (fun h => ?_)))
local macro_rules | `(tactic| walk_at "al") => `(tactic| (first
  | ((with_reducible apply r_newT (M := fun a => a = dr)); (focus (walk_at "isall"; done)); (with_unfolding_all exact Nat.le_of_ble_eq_true rfl); intro v H2 hs hi; (try (have hd2 := Drs.same (by assumption) hs)))
  | ((with_reducible apply r_newLD); (focus assumption); (focus (walk_at "isall"; done)); (with_unfolding_all exact Nat.le_of_ble_eq_true rfl); intro v H2 hs hi; (try (have hd2 := Drs.same (by assumption) hs)))
  | ((with_reducible apply r_ixLD); (focus (walk_at "isd")); (focus assumption); (focus assumption); (focus ((simp only [List.length_cons, List.length_nil]); decide)); (intro d u hmem hu))
  | ((with_reducible apply r_newL); (with_unfolding_all exact Nat.le_of_ble_eq_true rfl); intro p H2 hn hs hl; (try (have hd2 := Drs.same (by assumption) hs)); (try (have hne := ne_dr (by assumption) hn)); (try (have hnu := ne_nu (by assumption) hn)))
  | ((with_reducible apply r_draw); (focus (assumption)); (intro n H2 hn hk hd))
  | ((with_reducible apply r_bm))
  | ((with_reducible apply r_app); (focus (walk_at "hat")); (focus ((refine size_lt ?_); (first | omega | (simp only [List.length_map]; omega) | (simp; omega)))); (intro H2 hold hk hl); (try (have hd2 := Drs.cellK (by assumption) hk (by assumption) (by assumption))))
  | ((with_reducible apply And.intro); (focus ((with_reducible apply r_tyL); (walk_at "hat"))))
  | ((with_reducible apply r_rng); (focus (first | assumption | omega)); (focus omega))
  | ((with_reducible apply r_local); (focus assumption); (focus (first | assumption | omega)); (intro d v H2 hi hok hk hd))
  | ((with_reducible apply r_visible); (focus assumption); (focus (walk_at "isd")); (focus assumption); (focus (first | assumption | omega)); (intro d v H2 hi hok hk hd))
  | ((with_reducible apply r_tupOf (M := fun a => a = dr)); (focus (walk_at "hat")); (focus (first | assumption | (refine IsAll.keep ?_ (by assumption); walk_at "km"))); (intro v H2 hs hi); (try (have hd2 := Drs.same (by assumption) hs)))
  | ((with_reducible apply r_int); (focus (walk_at "isd")))
  | ((with_reducible apply r_value); (focus (walk_at "isd")))
  | ((with_reducible apply r_row); (focus (walk_at "isd")))
  | ((with_reducible apply r_iTK); (focus (walk_at "hat")))
  | ((with_reducible apply r_gTup); (focus (walk_at "hat")); (focus ((with_unfolding_all rfl); done)))
  | ((with_reducible apply r_ix0T); (focus (walk_at "hat")))
  | ((with_reducible apply r_ixT); (focus (walk_at "hat")); (focus ((with_unfolding_all rfl); done)))
  | (with_reducible refine r_typeS ?_)
  | ((with_reducible apply r_type); (focus (walk_at "isd")))
  | (with_reducible refine ⟨_, _, rfl, rfl, (by assumption), ?_⟩)
  | ((with_reducible apply r_lenD); (focus (walk_at "isd")))
  | ((with_reducible apply r_lenT); (focus (walk_at "hat")))
  | ((with_reducible apply r_zipSK); (focus (walk_at "hat")))
  | ((with_reducible apply r_slT); (focus (walk_at "hat")); (intro p H2 hs hl))
  | ((with_reducible apply r_lenSh); (focus assumption))
  | ((with_reducible apply r_jsC); (focus (first | assumption | exact empty_len)); (focus decide); (focus decide); (intro acc' hacc))
  | ((with_reducible apply r_fmtS); (focus (first | assumption | exact empty_len)); (focus decide); (focus omega); (intro acc' hacc))
  | ((with_reducible apply r_fmtN); (focus (first | assumption | exact empty_len)); (focus decide); (focus assumption); (intro acc' hacc))
  | ((with_reducible apply r_bnd); (focus assumption); (intro p hp))
  | ((with_reducible apply r_cat (M := fun a => a = dr)); (focus (walk_at "isd")); (focus (walk_at "isd")); (focus (first | decide | (simp; done) | (simp; omega) | omega)); (intro v H2 hs hi); (try (have hd2 := Drs.same (by assumption) hs)))
  | ((with_reducible apply r_slTo (M := fun a => a = dr)); (focus (walk_at "isd")); (focus (first | decide | assumption | omega)); (intro v H2 hs hi); (try (have hd2 := Drs.same (by assumption) hs)))
  | ((with_reducible apply r_slFrom (M := fun a => a = dr)); (focus (walk_at "isd")); (focus (first | decide | assumption | omega)); (intro v H2 hs hi); (try (have hd2 := Drs.same (by assumption) hs)))
  | ((with_reducible apply r_rep (M := fun a => a = dr)); (focus (walk_at "isd")); (focus decide); (focus decide); (focus (first | (intro hnil; cases hnil) | assumption | simp)); (focus (first | decide | (simp; done) | (simp; omega))); (intro v H2 hs hi); (try (have hd2 := Drs.same (by assumption) hs)))
  | ((with_reducible apply r_listOf); (focus assumption); (focus (walk_at "isd")); (intro v H2 hs hi); (try (have hd2 := Drs.same (by assumption) hs)))
  | ((with_reducible apply r_ixStr (M := fun _ => True)); (focus (walk_at "isd")))
  | ((with_reducible apply r_cat (M := fun a => a = dr)); (focus (walk_at "isd")); (focus (walk_at "isd")); (focus (first | decide | (simp; done) | (simp; omega) | omega)); (intro v H2 hs hi); (try (have hd2 := Drs.same (by assumption) hs)))
  | ((with_reducible apply r_slTo (M := fun a => a = dr)); (focus (walk_at "isd")); (focus (first | decide | assumption | omega)); (intro v H2 hs hi); (try (have hd2 := Drs.same (by assumption) hs)))
  | ((with_reducible apply r_slFrom (M := fun a => a = dr)); (focus (walk_at "isd")); (focus (first | decide | assumption | omega)); (intro v H2 hs hi); (try (have hd2 := Drs.same (by assumption) hs)))
  | ((with_reducible apply r_rep (M := fun a => a = dr)); (focus (walk_at "isd")); (focus decide); (focus decide); (focus (first | (intro hnil; cases hnil) | assumption | simp)); (focus (first | decide | (simp; done) | (simp; omega))); (intro v H2 hs hi); (try (have hd2 := Drs.same (by assumption) hs)))
  | ((with_reducible apply r_listOf); (focus assumption); (focus (walk_at "isd")); (intro v H2 hs hi); (try (have hd2 := Drs.same (by assumption) hs)))
  | ((with_reducible apply r_ixStr (M := fun _ => True)); (focus (walk_at "isd")))
  | ((with_reducible apply r_cat (M := fun a => a = dr)); (focus (walk_at "isd")); (focus (walk_at "isd")); (focus (first | decide | (simp; done) | (simp; omega) | omega)); (intro v H2 hs hi); (try (have hd2 := Drs.same (by assumption) hs)))
  | ((with_reducible apply r_slTo (M := fun a => a = dr)); (focus (walk_at "isd")); (focus (first | decide | assumption | omega)); (intro v H2 hs hi); (try (have hd2 := Drs.same (by assumption) hs)))
  | ((with_reducible apply r_slFrom (M := fun a => a = dr)); (focus (walk_at "isd")); (focus (first | decide | assumption | omega)); (intro v H2 hs hi); (try (have hd2 := Drs.same (by assumption) hs)))
  | ((with_reducible apply r_rep (M := fun a => a = dr)); (focus (walk_at "isd")); (focus decide); (focus decide); (focus (first | (intro hnil; cases hnil) | assumption | simp)); (focus (first | decide | (simp; done) | (simp; omega))); (intro v H2 hs hi); (try (have hd2 := Drs.same (by assumption) hs)))
  | ((with_reducible apply r_listOf); (focus assumption); (focus (walk_at "isd")); (intro v H2 hs hi); (try (have hd2 := Drs.same (by assumption) hs)))
  | ((with_reducible apply r_ixStr (M := fun _ => True)); (focus (walk_at "isd")))
  | ((with_reducible apply r_cat (M := fun a => a = dr)); (focus (walk_at "isd")); (focus (walk_at "isd")); (focus (first | decide | (simp; done) | (simp; omega) | omega)); (intro v H2 hs hi); (try (have hd2 := Drs.same (by assumption) hs)))
  | ((with_reducible apply r_slTo (M := fun a => a = dr)); (focus (walk_at "isd")); (focus (first | decide | assumption | omega)); (intro v H2 hs hi); (try (have hd2 := Drs.same (by assumption) hs)))
  | ((with_reducible apply r_slFrom (M := fun a => a = dr)); (focus (walk_at "isd")); (focus (first | decide | assumption | omega)); (intro v H2 hs hi); (try (have hd2 := Drs.same (by assumption) hs)))
  | ((with_reducible apply r_rep (M := fun a => a = dr)); (focus (walk_at "isd")); (focus decide); (focus decide); (focus (first | (intro hnil; cases hnil) | assumption | simp)); (focus (first | decide | (simp; done) | (simp; omega))); (intro v H2 hs hi); (try (have hd2 := Drs.same (by assumption) hs)))
  | ((with_reducible apply r_listOf); (focus assumption); (focus (walk_at "isd")); (intro v H2 hs hi); (try (have hd2 := Drs.same (by assumption) hs)))
  | ((with_reducible apply r_ixStr (M := fun _ => True)); (focus (walk_at "isd")))
  | ((with_reducible apply r_cat (M := fun a => a = dr)); (focus (walk_at "isd")); (focus (walk_at "isd")); (focus (first | decide | (simp; done) | (simp; omega) | omega)); (intro v H2 hs hi); (try (have hd2 := Drs.same (by assumption) hs)))
  | ((with_reducible apply r_slTo (M := fun a => a = dr)); (focus (walk_at "isd")); (focus (first | decide | assumption | omega)); (intro v H2 hs hi); (try (have hd2 := Drs.same (by assumption) hs)))
  | ((with_reducible apply r_slFrom (M := fun a => a = dr)); (focus (walk_at "isd")); (focus (first | decide | assumption | omega)); (intro v H2 hs hi); (try (have hd2 := Drs.same (by assumption) hs)))
  | ((with_reducible apply r_rep (M := fun a => a = dr)); (focus (walk_at "isd")); (focus decide); (focus decide); (focus (first | (intro hnil; cases hnil) | assumption | simp)); (focus (first | decide | (simp; done) | (simp; omega))); (intro v H2 hs hi); (try (have hd2 := Drs.same (by assumption) hs)))
  | ((with_reducible apply r_listOf); (focus assumption); (focus (walk_at "isd")); (intro v H2 hs hi); (try (have hd2 := Drs.same (by assumption) hs)))
  | ((with_reducible apply r_ixStr (M := fun _ => True)); (focus (walk_at "isd")))
  | ((with_reducible apply r_cat (M := fun a => a = dr)); (focus (walk_at "isd")); (focus (walk_at "isd")); (focus (first | decide | (simp; done) | (simp; omega) | omega)); (intro v H2 hs hi); (try (have hd2 := Drs.same (by assumption) hs)))
  | ((with_reducible apply r_slTo (M := fun a => a = dr)); (focus (walk_at "isd")); (focus (first | decide | assumption | omega)); (intro v H2 hs hi); (try (have hd2 := Drs.same (by assumption) hs)))
  | ((with_reducible apply r_slFrom (M := fun a => a = dr)); (focus (walk_at "isd")); (focus (first | decide | assumption | omega)); (intro v H2 hs hi); (try (have hd2 := Drs.same (by assumption) hs)))
  | ((with_reducible apply r_rep (M := fun a => a = dr)); (focus (walk_at "isd")); (focus decide); (focus decide); (focus (first | (intro hnil; cases hnil) | assumption | simp)); (focus (first | decide | (simp; done) | (simp; omega))); (intro v H2 hs hi); (try (have hd2 := Drs.same (by assumption) hs)))
  | ((with_reducible apply r_listOf); (focus assumption); (focus (walk_at "isd")); (intro v H2 hs hi); (try (have hd2 := Drs.same (by assumption) hs)))
  | ((with_reducible apply r_ixStr); (focus assumption))
  | ((with_reducible apply r_cat (M := fun a => a = dr)); (focus (walk_at "isd")); (focus (walk_at "isd")); (focus (first | decide | (simp; done) | (simp; omega) | omega)); (intro v H2 hs hi); (try (have hd2 := Drs.same (by assumption) hs)))
  | ((with_reducible apply r_slTo (M := fun a => a = dr)); (focus (walk_at "isd")); (focus (first | decide | assumption | omega)); (intro v H2 hs hi); (try (have hd2 := Drs.same (by assumption) hs)))
  | ((with_reducible apply r_slFrom (M := fun a => a = dr)); (focus (walk_at "isd")); (focus (first | decide | assumption | omega)); (intro v H2 hs hi); (try (have hd2 := Drs.same (by assumption) hs)))
  | ((with_reducible apply r_rep (M := fun a => a = dr)); (focus (walk_at "isd")); (focus decide); (focus decide); (focus (first | (intro hnil; cases hnil) | assumption | simp)); (focus (first | decide | (simp; done) | (simp; omega))); (intro v H2 hs hi); (try (have hd2 := Drs.same (by assumption) hs)))
  | ((with_reducible apply r_listOf); (focus assumption); (focus (walk_at "isd")); (intro v H2 hs hi); (try (have hd2 := Drs.same (by assumption) hs)))
  | ((with_reducible apply r_ixStr); (focus assumption))
  | ((with_reducible apply r_cat (M := fun a => a = dr)); (focus (walk_at "isd")); (focus (walk_at "isd")); (focus (first | decide | (simp; done) | (simp; omega) | omega)); (intro v H2 hs hi); (try (have hd2 := Drs.same (by assumption) hs)))
  | ((with_reducible apply r_slTo (M := fun a => a = dr)); (focus (walk_at "isd")); (focus (first | decide | assumption | omega)); (intro v H2 hs hi); (try (have hd2 := Drs.same (by assumption) hs)))
  | ((with_reducible apply r_slFrom (M := fun a => a = dr)); (focus (walk_at "isd")); (focus (first | decide | assumption | omega)); (intro v H2 hs hi); (try (have hd2 := Drs.same (by assumption) hs)))
  | ((with_reducible apply r_rep (M := fun a => a = dr)); (focus (walk_at "isd")); (focus decide); (focus decide); (focus (first | (intro hnil; cases hnil) | assumption | simp)); (focus (first | decide | (simp; done) | (simp; omega))); (intro v H2 hs hi); (try (have hd2 := Drs.same (by assumption) hs)))
  | ((with_reducible apply r_listOf); (focus assumption); (focus (walk_at "isd")); (intro v H2 hs hi); (try (have hd2 := Drs.same (by assumption) hs)))
  | ((with_reducible apply r_ixStr); (focus assumption))
  | ((with_reducible apply r_cat (M := fun a => a = dr)); (focus (walk_at "isd")); (focus (walk_at "isd")); (focus (first | decide | (simp; done) | (simp; omega) | omega)); (intro v H2 hs hi); (try (have hd2 := Drs.same (by assumption) hs)))
  | ((with_reducible apply r_slTo (M := fun a => a = dr)); (focus (walk_at "isd")); (focus (first | decide | assumption | omega)); (intro v H2 hs hi); (try (have hd2 := Drs.same (by assumption) hs)))
  | ((with_reducible apply r_slFrom (M := fun a => a = dr)); (focus (walk_at "isd")); (focus (first | decide | assumption | omega)); (intro v H2 hs hi); (try (have hd2 := Drs.same (by assumption) hs)))
  | ((with_reducible apply r_rep (M := fun a => a = dr)); (focus (walk_at "isd")); (focus decide); (focus decide); (focus (first | (intro hnil; cases hnil) | assumption | simp)); (focus (first | decide | (simp; done) | (simp; omega))); (intro v H2 hs hi); (try (have hd2 := Drs.same (by assumption) hs)))
  | ((with_reducible apply r_listOf); (focus assumption); (focus (walk_at "isd")); (intro v H2 hs hi); (try (have hd2 := Drs.same (by assumption) hs)))
  | ((with_reducible apply r_ixStr); (focus assumption))
  | ((with_reducible apply r_cat (M := fun a => a = dr)); (focus (walk_at "isd")); (focus (walk_at "isd")); (focus (first | decide | (simp; done) | (simp; omega) | omega)); (intro v H2 hs hi); (try (have hd2 := Drs.same (by assumption) hs)))
  | ((with_reducible apply r_slTo (M := fun a => a = dr)); (focus (walk_at "isd")); (focus (first | decide | assumption | omega)); (intro v H2 hs hi); (try (have hd2 := Drs.same (by assumption) hs)))
  | ((with_reducible apply r_slFrom (M := fun a => a = dr)); (focus (walk_at "isd")); (focus (first | decide | assumption | omega)); (intro v H2 hs hi); (try (have hd2 := Drs.same (by assumption) hs)))
  | ((with_reducible apply r_rep (M := fun a => a = dr)); (focus (walk_at "isd")); (focus decide); (focus decide); (focus (first | (intro hnil; cases hnil) | assumption | simp)); (focus (first | decide | (simp; done) | (simp; omega))); (intro v H2 hs hi); (try (have hd2 := Drs.same (by assumption) hs)))
  | ((with_reducible apply r_listOf); (focus assumption); (focus (walk_at "isd")); (intro v H2 hs hi); (try (have hd2 := Drs.same (by assumption) hs)))
  | ((with_reducible apply r_ixStr); (focus assumption))
  | ((with_reducible apply r_cat (M := fun a => a = dr)); (focus (walk_at "isd")); (focus (walk_at "isd")); (focus (first | decide | (simp; done) | (simp; omega) | omega)); (intro v H2 hs hi); (try (have hd2 := Drs.same (by assumption) hs)))
  | ((with_reducible apply r_slTo (M := fun a => a = dr)); (focus (walk_at "isd")); (focus (first | decide | assumption | omega)); (intro v H2 hs hi); (try (have hd2 := Drs.same (by assumption) hs)))
  | ((with_reducible apply r_slFrom (M := fun a => a = dr)); (focus (walk_at "isd")); (focus (first | decide | assumption | omega)); (intro v H2 hs hi); (try (have hd2 := Drs.same (by assumption) hs)))
  | ((with_reducible apply r_rep (M := fun a => a = dr)); (focus (walk_at "isd")); (focus decide); (focus decide); (focus (first | (intro hnil; cases hnil) | assumption | simp)); (focus (first | decide | (simp; done) | (simp; omega))); (intro v H2 hs hi); (try (have hd2 := Drs.same (by assumption) hs)))
  | ((with_reducible apply r_listOf); (focus assumption); (focus (walk_at "isd")); (intro v H2 hs hi); (try (have hd2 := Drs.same (by assumption) hs)))
  | ((with_reducible apply r_ixStr); (focus assumption))
  | ((with_reducible apply r_cat (M := fun a => a = dr)); (focus (walk_at "isd")); (focus (walk_at "isd")); (focus (first | decide | (simp; omega) | omega)); (intro v H2 hs hi); (try (have hd2 := Drs.same (by assumption) hs)))
  | ((with_reducible apply r_slTo (M := fun a => a = dr)); (focus (walk_at "isd")); (focus (first | decide | assumption | omega)); (intro v H2 hs hi); (try (have hd2 := Drs.same (by assumption) hs)))
  | ((with_reducible apply r_slFrom (M := fun a => a = dr)); (focus (walk_at "isd")); (focus (first | decide | assumption | omega)); (intro v H2 hs hi); (try (have hd2 := Drs.same (by assumption) hs)))
  | ((with_reducible apply r_rep (M := fun a => a = dr)); (focus (walk_at "isd")); (focus decide); (focus decide); (focus (first | (intro hnil; cases hnil) | assumption | simp)); (focus (first | decide | (simp; omega))); (intro v H2 hs hi); (try (have hd2 := Drs.same (by assumption) hs)))
  | ((with_reducible apply r_listOf); (focus assumption); (focus (walk_at "isd")); (intro v H2 hs hi); (try (have hd2 := Drs.same (by assumption) hs)))
  | ((with_reducible apply r_ixStr); (focus assumption))
  | ((with_reducible apply r_cat (M := fun a => a = dr)); (focus (walk_at "isd")); (focus (walk_at "isd")); (focus (first | decide | (simp; omega) | omega)); (intro v H2 hs hi); (try (have hd2 := Drs.same (by assumption) hs)))
  | ((with_reducible apply r_slTo (M := fun a => a = dr)); (focus (walk_at "isd")); (focus (first | decide | assumption | omega)); (intro v H2 hs hi); (try (have hd2 := Drs.same (by assumption) hs)))
  | ((with_reducible apply r_slFrom (M := fun a => a = dr)); (focus (walk_at "isd")); (focus (first | decide | assumption | omega)); (intro v H2 hs hi); (try (have hd2 := Drs.same (by assumption) hs)))
  | ((with_reducible apply r_rep (M := fun a => a = dr)); (focus (walk_at "isd")); (focus decide); (focus decide); (focus (first | (intro hnil; cases hnil) | assumption | simp)); (focus (first | decide | (simp; omega))); (intro v H2 hs hi); (try (have hd2 := Drs.same (by assumption) hs)))
  | ((with_reducible apply r_listOf); (focus assumption); (focus (walk_at "isd")); (intro v H2 hs hi); (try (have hd2 := Drs.same (by assumption) hs)))
  | ((with_reducible apply r_ixStr); (focus assumption))
  | ((with_reducible apply r_cat (M := fun a => a = dr)); (focus (walk_at "isd")); (focus (walk_at "isd")); (focus (first | decide | (simp; omega) | omega)); (intro v H2 hs hi); (try (have hd2 := Drs.same (by assumption) hs)))
  | ((with_reducible apply r_slTo (M := fun a => a = dr)); (focus (walk_at "isd")); (focus (first | decide | assumption | omega)); (intro v H2 hs hi); (try (have hd2 := Drs.same (by assumption) hs)))
  | ((with_reducible apply r_slFrom (M := fun a => a = dr)); (focus (walk_at "isd")); (focus (first | decide | assumption | omega)); (intro v H2 hs hi); (try (have hd2 := Drs.same (by assumption) hs)))
  | ((with_reducible apply r_rep (M := fun a => a = dr)); (focus (walk_at "isd")); (focus decide); (focus decide); (focus (first | (intro hnil; cases hnil) | assumption | simp)); (focus (first | decide | (simp; omega))); (intro v H2 hs hi); (try (have hd2 := Drs.same (by assumption) hs)))
  | ((with_reducible apply r_listOf); (focus assumption); (focus (walk_at "isd")); (intro v H2 hs hi); (try (have hd2 := Drs.same (by assumption) hs)))
  | ((with_reducible apply r_ixStr); (focus assumption))
  | ((with_reducible apply r_cat (M := fun a => a = dr)); (focus (walk_at "isd")); (focus (walk_at "isd")); (focus (first | decide | (simp; omega) | omega)); (intro v H2 hs hi); (try (have hd2 := Drs.same (by assumption) hs)))
  | ((with_reducible apply r_slTo (M := fun a => a = dr)); (focus (walk_at "isd")); (focus (first | decide | assumption | omega)); (intro v H2 hs hi); (try (have hd2 := Drs.same (by assumption) hs)))
  | ((with_reducible apply r_slFrom (M := fun a => a = dr)); (focus (walk_at "isd")); (focus (first | decide | assumption | omega)); (intro v H2 hs hi); (try (have hd2 := Drs.same (by assumption) hs)))
  | ((with_reducible apply r_rep (M := fun a => a = dr)); (focus (walk_at "isd")); (focus decide); (focus decide); (focus (first | (intro hnil; cases hnil) | assumption | simp)); (focus (first | decide | (simp; omega))); (intro v H2 hs hi); (try (have hd2 := Drs.same (by assumption) hs)))
  | ((with_reducible apply r_listOf); (focus assumption); (focus (walk_at "isd")); (intro v H2 hs hi); (try (have hd2 := Drs.same (by assumption) hs)))
  | ((with_reducible apply r_ixStr); (focus assumption))
  | ((with_reducible apply r_cat (M := fun a => a = dr)); (focus (walk_at "isd")); (focus (walk_at "isd")); (focus (first | decide | (simp; omega) | omega)); (intro v H2 hs hi); (try (have hd2 := Drs.same (by assumption) hs)))
  | ((with_reducible apply r_slTo (M := fun a => a = dr)); (focus (walk_at "isd")); (focus (first | decide | assumption | omega)); (intro v H2 hs hi); (try (have hd2 := Drs.same (by assumption) hs)))
  | ((with_reducible apply r_slFrom (M := fun a => a = dr)); (focus (walk_at "isd")); (focus (first | decide | assumption | omega)); (intro v H2 hs hi); (try (have hd2 := Drs.same (by assumption) hs)))
  | ((with_reducible apply r_rep (M := fun a => a = dr)); (focus (walk_at "isd")); (focus decide); (focus decide); (focus (first | (intro hnil; cases hnil) | assumption | simp)); (focus (first | decide | (simp; omega))); (intro v H2 hs hi); (try (have hd2 := Drs.same (by assumption) hs)))
  | ((with_reducible apply r_listOf); (focus assumption); (focus (walk_at "isd")); (intro v H2 hs hi); (try (have hd2 := Drs.same (by assumption) hs)))
  | ((with_reducible apply r_ixStr); (focus assumption))
  | ((with_reducible apply r_cat (M := fun a => a = dr)); (focus (walk_at "isd")); (focus (walk_at "isd")); (focus (first | decide | (simp; omega) | omega)); (intro v H2 hs hi); (try (have hd2 := Drs.same (by assumption) hs)))
  | ((with_reducible apply r_slTo (M := fun a => a = dr)); (focus (walk_at "isd")); (focus (first | decide | assumption | omega)); (intro v H2 hs hi); (try (have hd2 := Drs.same (by assumption) hs)))
  | ((with_reducible apply r_slFrom (M := fun a => a = dr)); (focus (walk_at "isd")); (focus (first | decide | assumption | omega)); (intro v H2 hs hi); (try (have hd2 := Drs.same (by assumption) hs)))
  | ((with_reducible apply r_rep (M := fun a => a = dr)); (focus (walk_at "isd")); (focus decide); (focus decide); (focus (first | (intro hnil; cases hnil) | assumption | simp)); (focus (first | decide | (simp; omega))); (intro v H2 hs hi); (try (have hd2 := Drs.same (by assumption) hs)))
  | ((with_reducible apply r_listOf); (focus assumption); (focus (walk_at "isd")); (intro v H2 hs hi); (try (have hd2 := Drs.same (by assumption) hs)))
  | ((with_reducible apply r_ixStr); (focus assumption))
  | ((with_reducible apply r_cat (M := fun a => a = dr)); (focus (walk_at "isd")); (focus (walk_at "isd")); (focus (first | decide | (simp; omega) | omega)); (intro v H2 hs hi); (try (have hd2 := Drs.same (by assumption) hs)))
  | ((with_reducible apply r_slTo (M := fun a => a = dr)); (focus (walk_at "isd")); (focus (first | decide | assumption | omega)); (intro v H2 hs hi); (try (have hd2 := Drs.same (by assumption) hs)))
  | ((with_reducible apply r_slFrom (M := fun a => a = dr)); (focus (walk_at "isd")); (focus (first | decide | assumption | omega)); (intro v H2 hs hi); (try (have hd2 := Drs.same (by assumption) hs)))
  | ((with_reducible apply r_rep (M := fun a => a = dr)); (focus (walk_at "isd")); (focus decide); (focus decide); (focus (first | (intro hnil; cases hnil) | assumption | simp)); (focus (first | decide | (simp; omega))); (intro v H2 hs hi); (try (have hd2 := Drs.same (by assumption) hs)))
  | ((with_reducible apply r_listOf); (focus assumption); (focus (walk_at "isd")); (intro v H2 hs hi); (try (have hd2 := Drs.same (by assumption) hs)))
  | ((with_reducible apply r_ixStr); (focus assumption))
  | ((with_reducible apply r_cat (M := fun a => a = dr)); (focus (walk_at "isd")); (focus (walk_at "isd")); (focus (first | decide | (simp; omega) | omega)); (intro v H2 hs hi); (try (have hd2 := Drs.same (by assumption) hs)))
  | ((with_reducible apply r_slTo (M := fun a => a = dr)); (focus (walk_at "isd")); (focus (first | decide | assumption | omega)); (intro v H2 hs hi); (try (have hd2 := Drs.same (by assumption) hs)))
  | ((with_reducible apply r_slFrom (M := fun a => a = dr)); (focus (walk_at "isd")); (focus (first | decide | assumption | omega)); (intro v H2 hs hi); (try (have hd2 := Drs.same (by assumption) hs)))
  | ((with_reducible apply r_rep (M := fun a => a = dr)); (focus (walk_at "isd")); (focus decide); (focus decide); (focus (first | (intro hnil; cases hnil) | assumption | simp)); (focus (first | decide | (simp; omega))); (intro v H2 hs hi); (try (have hd2 := Drs.same (by assumption) hs)))
  | ((with_reducible apply r_listOf); (focus assumption); (focus (walk_at "isd")); (intro v H2 hs hi); (try (have hd2 := Drs.same (by assumption) hs)))
  | ((with_reducible apply r_ixStr); (focus assumption))
  | ((with_reducible apply r_cat (M := fun a => a = dr)); (focus (walk_at "isd")); (focus (walk_at "isd")); (focus (first | decide | (simp; omega) | omega)); (intro v H2 hs hi); (try (have hd2 := Drs.same (by assumption) hs)))
  | ((with_reducible apply r_slTo (M := fun a => a = dr)); (focus (walk_at "isd")); (focus (first | decide | assumption | omega)); (intro v H2 hs hi); (try (have hd2 := Drs.same (by assumption) hs)))
  | ((with_reducible apply r_slFrom (M := fun a => a = dr)); (focus (walk_at "isd")); (focus (first | decide | assumption | omega)); (intro v H2 hs hi); (try (have hd2 := Drs.same (by assumption) hs)))
  | ((with_reducible apply r_rep (M := fun a => a = dr)); (focus (walk_at "isd")); (focus decide); (focus decide); (focus (first | (intro hnil; cases hnil) | assumption | simp)); (focus (first | decide | (simp; omega))); (intro v H2 hs hi); (try (have hd2 := Drs.same (by assumption) hs)))
  | ((with_reducible apply r_listOf); (focus assumption); (focus (walk_at "isd")); (intro v H2 hs hi); (try (have hd2 := Drs.same (by assumption) hs)))
  | ((with_reducible apply r_ixStr); (focus assumption))
  | ((with_reducible apply r_cat (M := fun a => a = dr)); (focus (walk_at "isd")); (focus (walk_at "isd")); (focus (first | decide | (simp; omega) | omega)); (intro v H2 hs hi); (try (have hd2 := Drs.same (by assumption) hs)))
  | ((with_reducible apply r_slTo (M := fun a => a = dr)); (focus (walk_at "isd")); (focus (first | decide | assumption | omega)); (intro v H2 hs hi); (try (have hd2 := Drs.same (by assumption) hs)))
  | ((with_reducible apply r_slFrom (M := fun a => a = dr)); (focus (walk_at "isd")); (focus (first | decide | assumption | omega)); (intro v H2 hs hi); (try (have hd2 := Drs.same (by assumption) hs)))
  | ((with_reducible apply r_rep (M := fun a => a = dr)); (focus (walk_at "isd")); (focus decide); (focus decide); (focus (first | (intro hnil; cases hnil) | assumption | simp)); (focus (first | decide | (simp; omega))); (intro v H2 hs hi); (try (have hd2 := Drs.same (by assumption) hs)))
  | ((with_reducible apply r_listOf); (focus assumption); (focus (walk_at "isd")); (intro v H2 hs hi); (try (have hd2 := Drs.same (by assumption) hs)))
  | ((with_reducible apply r_ixStr); (focus assumption))
  | ((with_reducible apply r_lenL); (focus (walk_at "hat")))
  | ((with_reducible apply r_setL); (focus (walk_at "hat")); (focus ((with_unfolding_all rfl); done)); (intro H2 hk hl))
  | ((with_reducible apply r_ixMk); (focus (walk_at "hat")); (focus (assumption)); (focus assumption); (focus ((simp only [List.length_cons, List.length_nil]); decide)))
  | ((with_reducible apply r_ixI); (focus (walk_at "hat")); (focus (omega)); (focus (omega)); (intro n hn))
  | ((with_reducible apply r_mixed); (intro n hn0 hn1))
  | ((with_reducible apply r_lenP); (focus (walk_at "isd")))
  | ((with_reducible apply r_ixP); (focus (walk_at "isd")); (focus assumption); (focus assumption); (intro j pp u hj hp hu))
  | ((with_reducible apply r_ixP1); (focus assumption))
  | ((with_reducible apply r_ixL); (focus (walk_at "hat")); (focus ((with_unfolding_all rfl); done)))
  | (with_reducible refine r_memc ?_ ?_) | (with_reducible exact r_memn)))
local macro_rules | `(tactic| walk_at "go") => `(tactic| (repeat' (first | walk_at "rd" | walk_at "al")))

section
variable {K : PySem.W.Frag} {P : Program} {mg : Str → Option Value} {w : World} {base : Heap}
def sp_spoilt : Sp := fun vs H Q _ => ∃ (dr nu : Addr) (vp : V) (ps : Pl) (locks : Int) (cs ts : List PyData), vs = [.ref dr, vp] ∧ Drs dr nu H ∧ Is (fun _ => True) H (progD ps locks cs ts) vp ∧ GoodP 8 ps locks cs ts ∧ ∀ d v H', Is (fun a => a = dr) H' d v → okP d = false → Top d → Keep dr H H' → Drs dr nu H' → Q v H'
theorem ok_spoilt (T : Txt K mg) : FnOk P w K mg base CX0 4 T.f_law_spoilt T.d_law_spoilt ["draws", "program"] sp_spoilt := by
  have G_law_draw : FnOk P w K mg base CX0 2 T.f_law_draw T.d_law_draw ["draws"] sp_draw := ok_draw T
  have G_law_bad_instruction : FnOk P w K mg base CX0 3 T.f_law_bad_instruction T.d_law_bad_instruction ["draws", "places", "locks", "many", "size"] sp_badi := ok_badi T
  refine T.F_law_spoilt.ok sc_law_spoilt (fun vs H Q E h => ?_) (fun cdv A outer s H vs Q E hr h => ?_)
  · obtain ⟨_, _, _, _, _, _, _, rfl, _⟩ := h
    rfl
  · obtain ⟨dr, nu, vp, ps, locks, cs, ts, rfl, hD, hP, hG, q⟩ := h
    have nd := sc_law_spoilt.nd
    refine ⟨_, (pss_cons (ps_asg (pv 1) (pg_tup rfl (pgs_cons (pg_name (i := 2) nd rfl (.inl rfl)) (pgs_cons (pg_name (i := 3) nd rfl (.inl rfl)) (pgs_cons (pg_name (i := 4) nd rfl (.inl rfl)) (pgs_cons (pg_name (i := 5) nd rfl (.inl rfl)) pgs_nil))))))
      (pss_cons (ps_set (i := 6) nd rfl (.inl rfl) (pe_op op_mod (pe_call G_law_draw (hr.mono (by decide)) (by rfl) T.m_law_draw T.F_law_draw.kp T.b_law_draw .nil pass0 (pa_cons (pv 0) pa_nil)) (pe_callB call_len (by rfl) T.m_len PySem.boot_len (pa_cons (pv 4) pa_nil))))
      (pss_cons (ps_set (i := 7) nd rfl (.inl rfl) (pe_op op_mod (pe_call G_law_draw (hr.mono (by decide)) (by rfl) T.m_law_draw T.F_law_draw.kp T.b_law_draw .nil pass0 (pa_cons (pv 0) pa_nil)) (pe_callB call_len (by rfl) T.m_len PySem.boot_len (pa_cons (pv 5) pa_nil))))
      (pss_cons (ps_set (i := 8) nd rfl (.inl rfl) (pe_op op_mod (pe_call G_law_draw (hr.mono (by decide)) (by rfl) T.m_law_draw T.F_law_draw.kp T.b_law_draw .nil pass0 (pa_cons (pv 0) pa_nil)) pe_int))
      (pss_cons (ps_if (pt_cmpR op_lt (pv 8) pe_int (nomark _)) (pss_cons (ps_set (i := 9) nd rfl (.inl rfl) (pe_ix ix_seq (pv 4) (pv 6) (fun _ _ => rfl)))
      (pss_cons (ps_set (i := 10) nd rfl (.inl rfl) (pe_op op_mod (pe_call G_law_draw (hr.mono (by decide)) (by rfl) T.m_law_draw T.F_law_draw.kp T.b_law_draw .nil pass0 (pa_cons (pv 0) pa_nil)) (pe_op op_add (pe_callB call_len (by rfl) T.m_len PySem.boot_len (pa_cons (pv 9) pa_nil)) pe_int)))
      (pss_cons (ps_set (i := 11) nd rfl (.inl rfl) (pe_op op_catA (pe_op op_catA (pe_slice sl_tupA (pv 9) po_none (po_some (pv 10))) (pe_tup (pa_cons (pe_call G_law_bad_instruction (hr.mono (by decide)) (by rfl) T.m_law_bad_instruction T.F_law_bad_instruction.kp T.b_law_bad_instruction .nil pass0 (pa_cons (pv 0) (pa_cons (pv 2) (pa_cons (pv 3) (pa_cons (pe_callB call_len (by rfl) T.m_len PySem.boot_len (pa_cons (pv 4) pa_nil)) (pa_cons (pe_op op_add (pe_callB call_len (by rfl) T.m_len PySem.boot_len (pa_cons (pv 9) pa_nil)) pe_int) pa_nil)))))) pa_nil))) (pe_slice sl_tupA (pv 9) (po_some (pv 10)) po_none)))
      (pss_one (ps_ret (pe_tup (pa_cons (pv 2) (pa_cons (pv 3) (pa_cons (pe_op op_catA (pe_op op_catA (pe_slice sl_tupA (pv 4) po_none (po_some (pv 6))) (pe_tup (pa_cons (pv 11) pa_nil))) (pe_slice sl_tupA (pv 4) (po_some (pe_op op_add (pv 6) pe_int)) po_none)) (pa_cons (pv 5) pa_nil)))))))))) pss_nil)
      (pss_cons (ps_if (pt_cmpR op_eq (pv 8) pe_int (nomark _)) (pss_cons (ps_set (i := 12) nd rfl (.inl rfl) (pe_lst (pa_cons (pe_tup (pa_cons (pe_callB call_len (by rfl) T.m_len PySem.boot_len (pa_cons (pv 4) pa_nil)) (pa_cons pe_int pa_nil))) (pa_cons (pe_tup (pa_cons (pe_un un_neg pe_int) (pa_cons pe_int pa_nil))) (pa_cons (pe_tup (pa_cons pe_int (pa_cons pe_int pa_nil))) (pa_cons (pe_tup (pa_cons pe_int (pa_cons pe_non pa_nil))) (pa_cons (pe_tup (pa_cons pe_int pa_nil)) (pa_cons (pe_tup (pa_cons pe_int (pa_cons pe_int (pa_cons pe_int pa_nil)))) (pa_cons (pe_lst (pa_cons pe_int (pa_cons pe_int pa_nil))) (pa_cons pe_non (pa_cons (pe_tup (pa_cons pe_bl (pa_cons pe_int pa_nil))) (pa_cons (pe_tup (pa_cons pe_int (pa_cons pe_bl pa_nil))) (pa_cons (pe_tup (pa_cons pe_int (pa_cons (pe_un un_neg pe_int) pa_nil))) pa_nil)))))))))))))
      (pss_one (ps_ret (pe_tup (pa_cons (pv 2) (pa_cons (pv 3) (pa_cons (pv 4) (pa_cons (pe_op op_catA (pe_op op_catA (pe_slice sl_tupA (pv 5) po_none (po_some (pv 7))) (pe_tup (pa_cons (pe_ix ix_seq (pv 12) (pe_op op_mod (pe_call G_law_draw (hr.mono (by decide)) (by rfl) T.m_law_draw T.F_law_draw.kp T.b_law_draw .nil pass0 (pa_cons (pv 0) pa_nil)) pe_int) (fun _ _ => rfl)) pa_nil))) (pe_slice sl_tupA (pv 5) (po_some (pe_op op_add (pv 7) pe_int)) po_none)) pa_nil)))))))) pss_nil)
      (pss_cons (ps_if (pt_cmpR op_eq (pv 8) pe_int (nomark _)) (pss_cons (ps_set (i := 12) nd rfl (.inl rfl) (pe_lst (pa_cons (pe_tup (pa_cons pe_int (pa_cons pe_bl pa_nil))) (pa_cons (pe_tup (pa_cons pe_int (pa_cons pe_int pa_nil))) (pa_cons (pe_tup (pa_cons pe_int (pa_cons pe_non pa_nil))) (pa_cons (pe_tup (pa_cons pe_int pa_nil)) (pa_cons (pe_lst (pa_cons pe_int (pa_cons pe_bl pa_nil))) (pa_cons pe_non (pa_cons (pe_tup (pa_cons pe_bl (pa_cons pe_bl pa_nil))) (pa_cons (pe_tup (pa_cons pe_str (pa_cons pe_bl pa_nil))) (pa_cons (pe_tup (pa_cons (pe_un un_neg pe_int) (pa_cons pe_bl pa_nil))) pa_nil)))))))))))
      (pss_cons (ps_set (i := 13) nd rfl (.inl rfl) (pe_op op_mod (pe_call G_law_draw (hr.mono (by decide)) (by rfl) T.m_law_draw T.F_law_draw.kp T.b_law_draw .nil pass0 (pa_cons (pv 0) pa_nil)) (pe_op op_add (pe_callB call_len (by rfl) T.m_len PySem.boot_len (pa_cons (pv 2) pa_nil)) pe_int)))
      (pss_one (ps_ret (pe_tup (pa_cons (pe_op op_catA (pe_op op_catA (pe_slice sl_tupA (pv 2) po_none (po_some (pv 13))) (pe_tup (pa_cons (pe_ix ix_seq (pv 12) (pe_op op_mod (pe_call G_law_draw (hr.mono (by decide)) (by rfl) T.m_law_draw T.F_law_draw.kp T.b_law_draw .nil pass0 (pa_cons (pv 0) pa_nil)) pe_int) (fun _ _ => rfl)) pa_nil))) (pe_slice sl_tupA (pv 2) (po_some (pv 13)) po_none)) (pa_cons (pv 3) (pa_cons (pv 4) (pa_cons (pv 5) pa_nil))))))))) pss_nil)
      (pss_cons (ps_if (pt_cmpR op_eq (pv 8) pe_int (nomark _)) (pss_one (ps_ret (pe_tup (pa_cons (pv 2) (pa_cons (pe_ix ix_seq (pe_lst (pa_cons pe_int (pa_cons (pe_un un_neg pe_int) (pa_cons pe_bl (pa_cons pe_non (pa_cons pe_str pa_nil)))))) (pe_op op_mod (pe_call G_law_draw (hr.mono (by decide)) (by rfl) T.m_law_draw T.F_law_draw.kp T.b_law_draw .nil pass0 (pa_cons (pv 0) pa_nil)) pe_int) (fun _ _ => rfl)) (pa_cons (pv 4) (pa_cons (pv 5) pa_nil))))))) pss_nil)
      (pss_cons (ps_if (pt_cmpR op_eq (pv 8) pe_int (nomark _)) (pss_one (ps_ret (pe_ix ix_seq (pe_lst (pa_cons (pe_slice sl_tupA (pv 1) po_none (po_some pe_int)) (pa_cons (pe_op op_catA (pv 1) (pe_tup (pa_cons pe_int pa_nil))) (pa_cons (pe_callTy call_lst (by rfl) T.m_list (by decide +kernel) (pa_cons (pv 1) pa_nil)) (pa_cons pe_non (pa_cons (pe_tup (pa_cons (pe_callTy call_lst (by rfl) T.m_list (by decide +kernel) (pa_cons (pv 2) pa_nil)) (pa_cons (pv 3) (pa_cons (pv 4) (pa_cons (pv 5) pa_nil))))) (pa_cons (pe_tup (pa_cons (pv 2) (pa_cons (pv 3) (pa_cons (pe_callTy call_lst (by rfl) T.m_list (by decide +kernel) (pa_cons (pv 4) pa_nil)) (pa_cons (pv 5) pa_nil))))) (pa_cons (pe_tup (pa_cons (pv 2) (pa_cons (pv 3) (pa_cons (pv 4) (pa_cons (pe_callTy call_lst (by rfl) T.m_list (by decide +kernel) (pa_cons (pv 5) pa_nil)) pa_nil))))) (pa_cons (pe_tup (pa_cons (pv 2) (pa_cons (pv 3) (pa_cons (pe_op op_catA (pe_op op_catA (pe_slice sl_tupA (pv 4) po_none (po_some (pv 6))) (pe_tup (pa_cons (pe_callTy call_lst (by rfl) T.m_list (by decide +kernel) (pa_cons (pe_ix ix_seq (pv 4) (pv 6) (fun _ _ => rfl)) pa_nil)) pa_nil))) (pe_slice sl_tupA (pv 4) (po_some (pe_op op_add (pv 6) pe_int)) po_none)) (pa_cons (pv 5) pa_nil))))) pa_nil))))))))) (pe_op op_mod (pe_call G_law_draw (hr.mono (by decide)) (by rfl) T.m_law_draw T.F_law_draw.kp T.b_law_draw .nil pass0 (pa_cons (pv 0) pa_nil)) pe_int) (fun _ _ => rfl)))) pss_nil)
      (pss_one (ps_ret (pe_ix ix_seq (pe_lst (pa_cons (pe_tup (pa_cons (pv 2) (pa_cons (pv 3) (pa_cons (pv 4) (pa_cons (pe_tup pa_nil) pa_nil))))) (pa_cons (pe_tup (pa_cons (pv 2) (pa_cons (pv 3) (pa_cons (pe_tup pa_nil) (pa_cons (pe_tup pa_nil) pa_nil))))) (pa_cons (pe_tup (pa_cons (pe_op op_repT (pe_tup (pa_cons (pe_tup (pa_cons pe_int (pa_cons pe_bl pa_nil))) pa_nil)) pe_int) (pa_cons (pv 3) (pa_cons (pv 4) (pa_cons (pv 5) pa_nil))))) (pa_cons (pe_tup (pa_cons (pv 2) (pa_cons (pv 3) (pa_cons (pe_op op_repT (pe_slice sl_tupA (pv 4) po_none (po_some pe_int)) pe_int) (pa_cons (pe_slice sl_tupA (pv 5) po_none (po_some pe_int)) pa_nil))))) (pa_cons (pe_tup (pa_cons (pv 2) (pa_cons (pv 3) (pa_cons (pv 4) (pa_cons (pe_op op_repT (pe_slice sl_tupA (pv 5) po_none (po_some pe_int)) pe_int) pa_nil))))) (pa_cons (pe_tup (pa_cons (pv 2) (pa_cons (pv 3) (pa_cons (pe_op op_catA (pe_op op_catA (pe_slice sl_tupA (pv 4) po_none (po_some (pv 6))) (pe_tup (pa_cons (pe_op op_repT (pe_tup (pa_cons (pe_tup (pa_cons pe_str pa_nil)) pa_nil)) pe_int) pa_nil))) (pe_slice sl_tupA (pv 4) (po_some (pe_op op_add (pv 6) pe_int)) po_none)) (pa_cons (pv 5) pa_nil))))) pa_nil))))))) (pe_op op_mod (pe_call G_law_draw (hr.mono (by decide)) (by rfl) T.m_law_draw T.F_law_draw.kp T.b_law_draw .nil pass0 (pa_cons (pv 0) pa_nil)) pe_int) (fun _ _ => rfl))))))))))))), ?_⟩
    have hSG := good_sm hG
    have gvl := hSG.vl
    have gcl := hSG.cl
    have gtl := hSG.tl
    have hG0 := hG
    obtain ⟨g1, g2, gl0, gl1, c0, c1, cg, t0, t1, tg⟩ := hG
    have hPp : Is (fun a => a = dr) H (.tuple [placesD ps, .int locks, .tuple cs, .tuple ts]) vp := Is.weak (fun _ _ => trivial) hP
    clear hP
    obtain ⟨b, ys, rfl, hTp, v1, r1, rfl, i1, v2, r2, rfl, i2, v3, r3, rfl, i3, v4, r4, rfl, i4, rfl⟩ := id hPp
    cases i2
    have hc0 : (0 : Int) < (cs.length : Int) := by omega
    have ht0 : (0 : Int) < (ts.length : Int) := by omega
    have i1t : Is (fun a => a = dr) H (.tuple (ps.map placeD)) v1 := i1
    have hlp : (ps.map placeD).length = ps.length := List.length_map _
    have htk : ∀ l : List PyData, 1 ≤ l.length → l.take (Int.toNat 1) ≠ [] := fun l h e => by
      cases l with
      | nil => simp at h
      | cons x r => cases e
    have hct := htk cs c0
    have htt := htk ts t0
    clear htk
    walk_at "go"
    · refine r_ixD (by walk_at "isd") (by assumption) (by assumption) (fun j dj u hj hdj hu => ?_)
      obtain ⟨is, rfl, hil, hig⟩ := (cg dj (List.mem_of_getElem? hdj)).ex
      have hz : (0 : Int) < (is.length : Int) + 1 := by omega
      walk_at "go"
      refine r_badi (M := fun a => a = dr) (by assumption) (by walk_at "isd") gl0 hc0 (by omega) (by omega) (by omega) (by omega) (by omega) (fun dB vB HB hiB hbB hsB hkB hdB => ?_)
      walk_at "go"
      exact q _ _ _ hi (spo_code (by assumption) (by assumption) (by assumption) (by assumption) hbB) (sm_full hSG.v (by omega) hSG.l (all_mid hSG.c (sm_code (all_mid (fun i hm => okI_sm (hig i hm) (by omega) (by omega) (by omega) (by omega)) hsB) (len_mid2 (by omega)))) (len_mid2 (by omega)) hSG.t (by omega)) (by walk_at "kp") (by assumption)
    · exact q _ _ _ hi (okP_thr (tup_bad mem_mid (bad_thr _ hmem))) (sm_full hSG.v (by omega) hSG.l hSG.c (by omega) (all_mid hSG.t (thr_sm (by omega) (by omega) _ hmem)) (len_mid2 (by omega))) (by walk_at "kp") (by assumption)
    · exact q _ _ _ hi (okP_vars (tup_bad mem_mid (bad_var _ hmem))) (sm_full (all_mid hSG.v (var_sm _ hmem)) (len_mid2 (by omega)) hSG.l hSG.c (by omega) hSG.t (by omega)) (by walk_at "kp") (by assumption)
    · exact q _ _ _ hi (okP_lock (bad_lock _ hmem)) (sm_full hSG.v (by omega) (lock_sm _ hmem) hSG.c (by omega) hSG.t (by omega)) (by walk_at "kp") (by assumption)
    · refine r_ixD (by walk_at "isd") (by assumption) (by assumption) (fun j dj u hj hdj hu => ?_)
      obtain ⟨is, rfl, hil, hig⟩ := (cg dj (List.mem_of_getElem? hdj)).ex
      walk_at "go"
      exact q _ _ _ (by assumption) (bad_p1 _ hmem) (p1_sm hSG (fun i hm => okI_sm (hig i hm) (by omega) (by omega) (by omega) (by omega)) (by omega) _ hmem) (by walk_at "kp") (by assumption)
    · exact q _ _ _ (by assumption) (bad_p2 c0 t0 _ hmem) (p2_sm hSG c0 t0 _ hmem) (by walk_at "kp") (by assumption)
end
end EW
set_option Elab.async false
set_option linter.all false
set_option maxRecDepth 100000
set_option maxHeartbeats 16000000
set_option pp.maxSteps 250
namespace EW
open L2 PyProof.Rows PySem.Spec PySem
/-- isinstance(e, c) and isinstance(e, (c, ..)), e what the suite caught: asked where the class is known -/
def isEK (K : PySem.W.Frag) (a : Addr) (cls : Value) (dd : Option Addr) (xs : List V) (H : Hp) (Q : VK) : Prop :=
  ∃ D, cls = .ref D ∧ dd = none ∧ ExcC K D ∧
    ((∃ (c : V) (cv : Value) (b : Bool), xs = [.ref a, c] ∧ (∀ u, RelV c u → u = cv) ∧ PySem.W.kitOne K (.ref D) cv = some b ∧ Q (.bl b) H) ∨
     (∃ (p : Addr) (cs : List Addr) (b : Bool), xs = [.ref a, .ref p] ∧ H p = some (.tup (cs.map V.ref)) ∧ PySem.W.kitAny K (.ref D) (cs.map Value.ref) = some b ∧ Q (.bl b) H))
theorem refs_vals : ∀ {cs : List Addr} {us : List Value}, Vals (cs.map V.ref) us → us = cs.map Value.ref
  | [], _, .nil => rfl
  | c :: r, _, .cons h t => by
    have e : _ = Value.ref c := h
    rw [e, refs_vals t]; rfl
theorem call_isEK {X : Cx} {a : Addr} {cls : Value} {dd : Option Addr} {oe : Obj} {pn : List (Addr × Obj)} (hz : Zc cls dd oe) (hf : ∃ vs, oe.data = .fields vs) : CallR (X.suite a ((a, oe) :: pn)) (.builtin "isinstance") (isEK X.K a cls dd) := by
  intro pins now σ H xs us Q I r asks
  obtain ⟨D, rfl, rfl, C, h⟩ := asks
  rcases h with ⟨c, cv, b, rfl, hc, e, q⟩ | ⟨p, cs, b, rfl, hp, e, q⟩
  · exact call_isE C hz hf pins now σ H _ us Q I r ⟨c, cv, b, rfl, hc, e, q⟩
  · obtain ⟨u1, u2, rfl, r1, r2⟩ := vals2 r
    have eu1 : u1 = Value.ref a := r1
    cases eu1
    cases (show u2 = Value.ref p from r2)
    obtain ⟨there, _⟩ := I.pin (a, oe) (List.mem_append.mpr (.inl List.mem_cons_self))
    obtain ⟨vs, hv⟩ := hf
    have at_ : PySem.W.InstAt now.heap a oe D none := by
      obtain ⟨cl, dc, dt, sl⟩ := oe
      obtain ⟨z1, z2⟩ := hz
      dsimp only at z1 z2 hv
      subst z1 z2 hv
      exact ⟨there, rfl, rfl, trivial⟩
    obtain ⟨_, its, rv, ob, g1, g2, n, g3⟩ := (show ObjOk X.prog X.w H now.heap p (.tup (cs.map V.ref)) from I.hok p _ hp)
    have ei := refs_vals rv
    obtain ⟨oc, od, dt, sl⟩ := ob
    dsimp only at g2 g3
    subst g2 g3 ei
    exact PySem.W.kia_tup (PySem.W.handS_kitx_exc C.hg C.hk C.hs C.hd C.ha C.hn C.ht C.hm) I.kIn at_ g1 e (fun z => nomatch z) fun tk => ⟨.bl b, H, I.kept (t' := tk) fun _ _ z => z, rfl, q⟩
theorem r_isE1 {K : PySem.W.Frag} {a D : Addr} {c : V} {cv : Value} {b : Bool} {H : Hp} {Q : VK} (C : ExcC K D) (hc : ∀ u, RelV c u → u = cv) (e : PySem.W.kitOne K (.ref D) cv = some b) (q : Q (.bl b) H) : isEK K a (.ref D) none [.ref a, c] H Q := ⟨D, rfl, rfl, C, .inl ⟨c, cv, b, rfl, hc, e, q⟩⟩
theorem r_isET {K : PySem.W.Frag} {a D p : Addr} {cs : List Addr} {b : Bool} {H : Hp} {Q : VK} (C : ExcC K D) (hp : H p = some (.tup (cs.map V.ref))) (e : PySem.W.kitAny K (.ref D) (cs.map Value.ref) = some b) (q : Q (.bl b) H) : isEK K a (.ref D) none [.ref a, .ref p] H Q := ⟨D, rfl, rfl, C, .inr ⟨p, cs, b, rfl, hp, e, q⟩⟩
structure Txt3 (K : PySem.W.Frag) (mg : Str → Option Value) (C : Addr) where
  cE : Addr
  cA : Addr
  cG : Addr
  cS : Addr
  cT : Addr
  cL : Addr
  m_EveryweaveError : mg "EveryweaveError" = some (.ref cE)
  m_BadArgument : mg "BadArgument" = some (.ref cA)
  m_BadGraph : mg "BadGraph" = some (.ref cG)
  m_BadSchedule : mg "BadSchedule" = some (.ref cS)
  m_BadText : mg "BadText" = some (.ref cT)
  m_TooLarge : mg "TooLarge" = some (.ref cL)
  ex : ExcC K C
  kE : PySem.W.kitOne K (.ref C) (.ref cE) = some true
  kV : PySem.W.kitOne K (.ref C) (.type "ValueError") = some true
  kO : PySem.W.kitAny K (.ref C) [.ref cA, .ref cG, .ref cS, .ref cT, .ref cL] = some false
  me : PySem.W.exmOne K (.ref C) (.ref C) = some true
set_option hygiene false
local macro_rules | `(tactic| walk_at "km") => `(tactic| (first
  | exact KeepM.refl
  | (refine KeepM.trans ?_ (KeepM.same (by assumption)); walk_at "km")
  | (refine KeepM.trans ?_ (Keep.toML (by assumption) (by assumption)); walk_at "km")
  | (refine KeepM.trans ?_ (Keep.toMD (by assumption) (by assumption)); walk_at "km")
  | (refine KeepM.trans ?_ (Keep.toM (by assumption) (by assumption) (by first | trivial | rfl)); walk_at "km")))
local macro_rules | `(tactic| walk_at "kp") => `(tactic| (first
  | exact Keep.refl
  | (refine Keep.trans ?_ (Keep.same (by assumption)); walk_at "kp")
  | (refine Keep.trans ?_ (by assumption); walk_at "kp")
  | (refine Keep.cell2 (by assumption) (by assumption) ?_; walk_at "kp")))
local macro_rules | `(tactic| walk_at "sm") => `(tactic| (first
  | exact Same.refl _
  | (refine Same.trans ?_ (by assumption); walk_at "sm")))
local macro_rules | `(tactic| walk_at "hat") => `(tactic| (first
  | assumption
  | (refine same_get (by assumption) ?_; walk_at "hat")
  | (refine Keep.get (by assumption) (by assumption) ?_; walk_at "hat")))
local macro_rules | `(tactic| walk_at "isd") => `(tactic| (with_reducible first
  | exact is_int | exact is_str | exact is_bl | exact is_non | assumption
  | (refine Is.keep ?_ (by assumption); walk_at "km")))
local macro_rules | `(tactic| walk_at "isall") => `(tactic| (repeat (with_reducible first | exact IsAll.nil | (apply IsAll.cons; (walk_at "isd")))))
local macro_rules | `(tactic| walk_at "pos") => `(tactic| (first | decide | assumption | omega | (simp only [decide_eq_false_iff_not] at *; omega)))
local macro_rules | `(tactic| walk_at "rd") => `(tactic| (with_reducible first
  | refine r_seq ?_ | refine r_asg ?_ | refine r_name ?_ | refine r_C ?_ | refine r_op ?_ | refine r_un ?_ | refine r_rU ?_ | refine r_I0 ?_ | refine r_eqI ?_ | refine r_neI ?_ | refine r_test ?_ | refine r_tB ?_ | refine r_exk ?_ | refine r_and ?_ | refine r_or ?_ | refine r_not ?_ | refine r_ifS ?_ | refine r_ret ?_ | refine r_next ?_ | refine r_drop ?_ | refine r_nil ?_ | refine r_cons ?_ | refine r_call ?_ | refine r_CB ?_ | refine r_tup ?_ | refine r_lst ?_ | refine r_sub ?_ | refine r_gCons ?_ | refine r_pc ?_ | refine r_pn ?_ | (refine r_disp ?_; intro p H2 hn hs hl) | refine r_eqS ?_ | refine r_sl ?_ | refine r_noPart ?_ | refine r_part ?_ | refine r_partK ?_ | refine r_jsF ?_ | refine r_jsN ?_ | refine r_dget ?_ | refine r_iZ ?_ | refine r_gNil ?_ | refine r_isTy ?_ | refine r_notTy ?_ | refine r_andV ?_ | refine r_chain ?_ | refine r_andK (fun h => ?_) (fun h => ?_) | refine r_chK (fun h => ?_) (fun h => ?_) | refine r_andKb (fun h => ?_) (fun h => ?_) | refine r_for ?_ | refine r_lc ?_ | refine r_iL ?_ | refine r_iT ?_ | refine r_iR ?_
  | (apply r_var; (focus ((with_unfolding_all rfl); done)))
  | (refine r_mod ?_ ?_; (focus ((walk_at "pos"); done)); intro m hm0 hm1)
  | (refine r_I ?_ ?_; (focus ((first | decide | (unfold CMul; omega) | (unfold CDiv; omega) | (unfold CPow; omega) | omega); done)))
  | (apply r_wipe; (focus ((with_unfolding_all rfl); done))) | refine r_yes ?_ | refine iteT ?_ | refine iteF ?_ | refine r_ifeq (fun h => ?_) (fun h => ?_) | refine r_ifd (fun h => ?_) (fun h => ?_) | refine r_ifnd (fun h => ?_) (fun h => ?_) | refine ite2 (fun h => ?_) (fun h => ?_)))
local macro_rules | `(tactic| walk_at "al") => `(tactic| (first
  | ((with_reducible apply r_newT (M := fun _ => True)); (focus (walk_at "isall"; done)); (with_unfolding_all exact Nat.le_of_ble_eq_true rfl); intro v H2 hs hi; (try (have hd2 := Drs.same (by assumption) hs)))
  | ((with_reducible apply r_newL); (with_unfolding_all exact Nat.le_of_ble_eq_true rfl); intro p H2 hn hs hl; (try (have hd2 := Drs.same (by assumption) hs)); (try (have hne := ne_dr (by assumption) hn)); (try (have hnu := ne_nu (by assumption) hn)))
  | ((with_reducible apply r_draw); (focus (assumption)); (intro n H2 hn hk hd))
  | ((with_reducible apply r_bm))
  | ((with_reducible apply r_app); (focus (walk_at "hat")); (focus ((refine size_lt ?_); (first | omega | (simp only [List.length_map]; omega) | (simp; omega)))); (intro H2 hold hk hl); (try (have hd2 := Drs.cellK (by assumption) hk (by assumption) (by assumption))))
  | ((with_reducible apply And.intro); (focus ((with_reducible apply r_tyL); (walk_at "hat"))))
  | ((with_reducible apply r_rng); (focus (first | assumption | omega)); (focus omega))
  | ((with_reducible apply r_local); (focus assumption); (focus (first | assumption | omega)); (intro d v H2 hi hok hk hd))
  | ((with_reducible apply r_visible); (focus assumption); (focus (walk_at "isd")); (focus assumption); (focus (first | assumption | omega)); (intro d v H2 hi hok hk hd))
  | ((with_reducible apply r_tupOf (M := fun _ => True)); (focus (walk_at "hat")); (focus (first | assumption | (refine IsAll.keep ?_ (by assumption); walk_at "km"))); (intro v H2 hs hi); (try (have hd2 := Drs.same (by assumption) hs)))
  | ((with_reducible apply r_int); (focus (walk_at "isd")))
  | ((with_reducible apply r_value); (focus (walk_at "isd")))
  | ((with_reducible apply r_row); (focus (walk_at "isd")))
  | ((with_reducible apply r_iTK); (focus (walk_at "hat")))
  | ((with_reducible apply r_gTup); (focus (walk_at "hat")); (focus ((with_unfolding_all rfl); done)))
  | ((with_reducible apply r_ix0T); (focus (walk_at "hat")))
  | ((with_reducible apply r_ixT); (focus (walk_at "hat")); (focus ((with_unfolding_all rfl); done)))
  | (with_reducible refine r_typeS ?_)
  | ((with_reducible apply r_type); (focus (walk_at "isd")))
  | (with_reducible refine ⟨_, _, rfl, rfl, (by assumption), ?_⟩)
  | ((with_reducible apply r_lenD); (focus (walk_at "isd")))
  | ((with_reducible apply r_lenT); (focus (walk_at "hat")))
  | ((with_reducible apply r_zipSK); (focus (walk_at "hat")))
  | ((with_reducible apply r_slT); (focus (walk_at "hat")); (intro p H2 hs hl))
  | ((with_reducible apply r_lenSh); (focus assumption))
  | ((with_reducible apply r_jsC); (focus (first | assumption | exact empty_len)); (focus decide); (focus decide); (intro acc' hacc))
  | ((with_reducible apply r_fmtS); (focus (first | assumption | exact empty_len)); (focus decide); (focus omega); (intro acc' hacc))
  | ((with_reducible apply r_fmtN); (focus (first | assumption | exact empty_len)); (focus decide); (focus assumption); (intro acc' hacc))
  | ((with_reducible apply r_bnd); (focus assumption); (intro p hp))
  | ((with_reducible apply r_cat (M := fun a => a = dr)); (focus (walk_at "isd")); (focus (walk_at "isd")); (focus (first | decide | (simp; done) | (simp; omega) | omega)); (intro v H2 hs hi); (try (have hd2 := Drs.same (by assumption) hs)))
  | ((with_reducible apply r_slTo (M := fun a => a = dr)); (focus (walk_at "isd")); (focus (first | decide | assumption | omega)); (intro v H2 hs hi); (try (have hd2 := Drs.same (by assumption) hs)))
  | ((with_reducible apply r_slFrom (M := fun a => a = dr)); (focus (walk_at "isd")); (focus (first | decide | assumption | omega)); (intro v H2 hs hi); (try (have hd2 := Drs.same (by assumption) hs)))
  | ((with_reducible apply r_rep (M := fun a => a = dr)); (focus (walk_at "isd")); (focus decide); (focus decide); (focus (first | (intro hnil; cases hnil) | assumption | simp)); (focus (first | decide | (simp; done) | (simp; omega))); (intro v H2 hs hi); (try (have hd2 := Drs.same (by assumption) hs)))
  | ((with_reducible apply r_listOf); (focus assumption); (focus (walk_at "isd")); (intro v H2 hs hi); (try (have hd2 := Drs.same (by assumption) hs)))
  | ((with_reducible apply r_ixStr (M := fun _ => True)); (focus (walk_at "isd")))
  | ((with_reducible apply r_cat (M := fun a => a = dr)); (focus (walk_at "isd")); (focus (walk_at "isd")); (focus (first | decide | (simp; done) | (simp; omega) | omega)); (intro v H2 hs hi); (try (have hd2 := Drs.same (by assumption) hs)))
  | ((with_reducible apply r_slTo (M := fun a => a = dr)); (focus (walk_at "isd")); (focus (first | decide | assumption | omega)); (intro v H2 hs hi); (try (have hd2 := Drs.same (by assumption) hs)))
  | ((with_reducible apply r_slFrom (M := fun a => a = dr)); (focus (walk_at "isd")); (focus (first | decide | assumption | omega)); (intro v H2 hs hi); (try (have hd2 := Drs.same (by assumption) hs)))
  | ((with_reducible apply r_rep (M := fun a => a = dr)); (focus (walk_at "isd")); (focus decide); (focus decide); (focus (first | (intro hnil; cases hnil) | assumption | simp)); (focus (first | decide | (simp; done) | (simp; omega))); (intro v H2 hs hi); (try (have hd2 := Drs.same (by assumption) hs)))
  | ((with_reducible apply r_listOf); (focus assumption); (focus (walk_at "isd")); (intro v H2 hs hi); (try (have hd2 := Drs.same (by assumption) hs)))
  | ((with_reducible apply r_ixStr (M := fun _ => True)); (focus (walk_at "isd")))
  | ((with_reducible apply r_cat (M := fun a => a = dr)); (focus (walk_at "isd")); (focus (walk_at "isd")); (focus (first | decide | (simp; done) | (simp; omega) | omega)); (intro v H2 hs hi); (try (have hd2 := Drs.same (by assumption) hs)))
  | ((with_reducible apply r_slTo (M := fun a => a = dr)); (focus (walk_at "isd")); (focus (first | decide | assumption | omega)); (intro v H2 hs hi); (try (have hd2 := Drs.same (by assumption) hs)))
  | ((with_reducible apply r_slFrom (M := fun a => a = dr)); (focus (walk_at "isd")); (focus (first | decide | assumption | omega)); (intro v H2 hs hi); (try (have hd2 := Drs.same (by assumption) hs)))
  | ((with_reducible apply r_rep (M := fun a => a = dr)); (focus (walk_at "isd")); (focus decide); (focus decide); (focus (first | (intro hnil; cases hnil) | assumption | simp)); (focus (first | decide | (simp; done) | (simp; omega))); (intro v H2 hs hi); (try (have hd2 := Drs.same (by assumption) hs)))
  | ((with_reducible apply r_listOf); (focus assumption); (focus (walk_at "isd")); (intro v H2 hs hi); (try (have hd2 := Drs.same (by assumption) hs)))
  | ((with_reducible apply r_ixStr (M := fun _ => True)); (focus (walk_at "isd")))
  | ((with_reducible apply r_cat (M := fun a => a = dr)); (focus (walk_at "isd")); (focus (walk_at "isd")); (focus (first | decide | (simp; done) | (simp; omega) | omega)); (intro v H2 hs hi); (try (have hd2 := Drs.same (by assumption) hs)))
  | ((with_reducible apply r_slTo (M := fun a => a = dr)); (focus (walk_at "isd")); (focus (first | decide | assumption | omega)); (intro v H2 hs hi); (try (have hd2 := Drs.same (by assumption) hs)))
  | ((with_reducible apply r_slFrom (M := fun a => a = dr)); (focus (walk_at "isd")); (focus (first | decide | assumption | omega)); (intro v H2 hs hi); (try (have hd2 := Drs.same (by assumption) hs)))
  | ((with_reducible apply r_rep (M := fun a => a = dr)); (focus (walk_at "isd")); (focus decide); (focus decide); (focus (first | (intro hnil; cases hnil) | assumption | simp)); (focus (first | decide | (simp; done) | (simp; omega))); (intro v H2 hs hi); (try (have hd2 := Drs.same (by assumption) hs)))
  | ((with_reducible apply r_listOf); (focus assumption); (focus (walk_at "isd")); (intro v H2 hs hi); (try (have hd2 := Drs.same (by assumption) hs)))
  | ((with_reducible apply r_ixStr (M := fun _ => True)); (focus (walk_at "isd")))
  | ((with_reducible apply r_cat (M := fun a => a = dr)); (focus (walk_at "isd")); (focus (walk_at "isd")); (focus (first | decide | (simp; done) | (simp; omega) | omega)); (intro v H2 hs hi); (try (have hd2 := Drs.same (by assumption) hs)))
  | ((with_reducible apply r_slTo (M := fun a => a = dr)); (focus (walk_at "isd")); (focus (first | decide | assumption | omega)); (intro v H2 hs hi); (try (have hd2 := Drs.same (by assumption) hs)))
  | ((with_reducible apply r_slFrom (M := fun a => a = dr)); (focus (walk_at "isd")); (focus (first | decide | assumption | omega)); (intro v H2 hs hi); (try (have hd2 := Drs.same (by assumption) hs)))
  | ((with_reducible apply r_rep (M := fun a => a = dr)); (focus (walk_at "isd")); (focus decide); (focus decide); (focus (first | (intro hnil; cases hnil) | assumption | simp)); (focus (first | decide | (simp; done) | (simp; omega))); (intro v H2 hs hi); (try (have hd2 := Drs.same (by assumption) hs)))
  | ((with_reducible apply r_listOf); (focus assumption); (focus (walk_at "isd")); (intro v H2 hs hi); (try (have hd2 := Drs.same (by assumption) hs)))
  | ((with_reducible apply r_ixStr (M := fun _ => True)); (focus (walk_at "isd")))
  | ((with_reducible apply r_cat (M := fun a => a = dr)); (focus (walk_at "isd")); (focus (walk_at "isd")); (focus (first | decide | (simp; done) | (simp; omega) | omega)); (intro v H2 hs hi); (try (have hd2 := Drs.same (by assumption) hs)))
  | ((with_reducible apply r_slTo (M := fun a => a = dr)); (focus (walk_at "isd")); (focus (first | decide | assumption | omega)); (intro v H2 hs hi); (try (have hd2 := Drs.same (by assumption) hs)))
  | ((with_reducible apply r_slFrom (M := fun a => a = dr)); (focus (walk_at "isd")); (focus (first | decide | assumption | omega)); (intro v H2 hs hi); (try (have hd2 := Drs.same (by assumption) hs)))
  | ((with_reducible apply r_rep (M := fun a => a = dr)); (focus (walk_at "isd")); (focus decide); (focus decide); (focus (first | (intro hnil; cases hnil) | assumption | simp)); (focus (first | decide | (simp; done) | (simp; omega))); (intro v H2 hs hi); (try (have hd2 := Drs.same (by assumption) hs)))
  | ((with_reducible apply r_listOf); (focus assumption); (focus (walk_at "isd")); (intro v H2 hs hi); (try (have hd2 := Drs.same (by assumption) hs)))
  | ((with_reducible apply r_ixStr); (focus assumption))
  | ((with_reducible apply r_cat (M := fun a => a = dr)); (focus (walk_at "isd")); (focus (walk_at "isd")); (focus (first | decide | (simp; done) | (simp; omega) | omega)); (intro v H2 hs hi); (try (have hd2 := Drs.same (by assumption) hs)))
  | ((with_reducible apply r_slTo (M := fun a => a = dr)); (focus (walk_at "isd")); (focus (first | decide | assumption | omega)); (intro v H2 hs hi); (try (have hd2 := Drs.same (by assumption) hs)))
  | ((with_reducible apply r_slFrom (M := fun a => a = dr)); (focus (walk_at "isd")); (focus (first | decide | assumption | omega)); (intro v H2 hs hi); (try (have hd2 := Drs.same (by assumption) hs)))
  | ((with_reducible apply r_rep (M := fun a => a = dr)); (focus (walk_at "isd")); (focus decide); (focus decide); (focus (first | (intro hnil; cases hnil) | assumption | simp)); (focus (first | decide | (simp; done) | (simp; omega))); (intro v H2 hs hi); (try (have hd2 := Drs.same (by assumption) hs)))
  | ((with_reducible apply r_listOf); (focus assumption); (focus (walk_at "isd")); (intro v H2 hs hi); (try (have hd2 := Drs.same (by assumption) hs)))
  | ((with_reducible apply r_ixStr); (focus assumption))
  | ((with_reducible apply r_cat (M := fun a => a = dr)); (focus (walk_at "isd")); (focus (walk_at "isd")); (focus (first | decide | (simp; done) | (simp; omega) | omega)); (intro v H2 hs hi); (try (have hd2 := Drs.same (by assumption) hs)))
  | ((with_reducible apply r_slTo (M := fun a => a = dr)); (focus (walk_at "isd")); (focus (first | decide | assumption | omega)); (intro v H2 hs hi); (try (have hd2 := Drs.same (by assumption) hs)))
  | ((with_reducible apply r_slFrom (M := fun a => a = dr)); (focus (walk_at "isd")); (focus (first | decide | assumption | omega)); (intro v H2 hs hi); (try (have hd2 := Drs.same (by assumption) hs)))
  | ((with_reducible apply r_rep (M := fun a => a = dr)); (focus (walk_at "isd")); (focus decide); (focus decide); (focus (first | (intro hnil; cases hnil) | assumption | simp)); (focus (first | decide | (simp; done) | (simp; omega))); (intro v H2 hs hi); (try (have hd2 := Drs.same (by assumption) hs)))
  | ((with_reducible apply r_listOf); (focus assumption); (focus (walk_at "isd")); (intro v H2 hs hi); (try (have hd2 := Drs.same (by assumption) hs)))
  | ((with_reducible apply r_ixStr); (focus assumption))
  | ((with_reducible apply r_cat (M := fun a => a = dr)); (focus (walk_at "isd")); (focus (walk_at "isd")); (focus (first | decide | (simp; done) | (simp; omega) | omega)); (intro v H2 hs hi); (try (have hd2 := Drs.same (by assumption) hs)))
  | ((with_reducible apply r_slTo (M := fun a => a = dr)); (focus (walk_at "isd")); (focus (first | decide | assumption | omega)); (intro v H2 hs hi); (try (have hd2 := Drs.same (by assumption) hs)))
  | ((with_reducible apply r_slFrom (M := fun a => a = dr)); (focus (walk_at "isd")); (focus (first | decide | assumption | omega)); (intro v H2 hs hi); (try (have hd2 := Drs.same (by assumption) hs)))
  | ((with_reducible apply r_rep (M := fun a => a = dr)); (focus (walk_at "isd")); (focus decide); (focus decide); (focus (first | (intro hnil; cases hnil) | assumption | simp)); (focus (first | decide | (simp; done) | (simp; omega))); (intro v H2 hs hi); (try (have hd2 := Drs.same (by assumption) hs)))
  | ((with_reducible apply r_listOf); (focus assumption); (focus (walk_at "isd")); (intro v H2 hs hi); (try (have hd2 := Drs.same (by assumption) hs)))
  | ((with_reducible apply r_ixStr); (focus assumption))
  | ((with_reducible apply r_cat (M := fun a => a = dr)); (focus (walk_at "isd")); (focus (walk_at "isd")); (focus (first | decide | (simp; done) | (simp; omega) | omega)); (intro v H2 hs hi); (try (have hd2 := Drs.same (by assumption) hs)))
  | ((with_reducible apply r_slTo (M := fun a => a = dr)); (focus (walk_at "isd")); (focus (first | decide | assumption | omega)); (intro v H2 hs hi); (try (have hd2 := Drs.same (by assumption) hs)))
  | ((with_reducible apply r_slFrom (M := fun a => a = dr)); (focus (walk_at "isd")); (focus (first | decide | assumption | omega)); (intro v H2 hs hi); (try (have hd2 := Drs.same (by assumption) hs)))
  | ((with_reducible apply r_rep (M := fun a => a = dr)); (focus (walk_at "isd")); (focus decide); (focus decide); (focus (first | (intro hnil; cases hnil) | assumption | simp)); (focus (first | decide | (simp; done) | (simp; omega))); (intro v H2 hs hi); (try (have hd2 := Drs.same (by assumption) hs)))
  | ((with_reducible apply r_listOf); (focus assumption); (focus (walk_at "isd")); (intro v H2 hs hi); (try (have hd2 := Drs.same (by assumption) hs)))
  | ((with_reducible apply r_ixStr); (focus assumption))
  | ((with_reducible apply r_cat (M := fun a => a = dr)); (focus (walk_at "isd")); (focus (walk_at "isd")); (focus (first | decide | (simp; done) | (simp; omega) | omega)); (intro v H2 hs hi); (try (have hd2 := Drs.same (by assumption) hs)))
  | ((with_reducible apply r_slTo (M := fun a => a = dr)); (focus (walk_at "isd")); (focus (first | decide | assumption | omega)); (intro v H2 hs hi); (try (have hd2 := Drs.same (by assumption) hs)))
  | ((with_reducible apply r_slFrom (M := fun a => a = dr)); (focus (walk_at "isd")); (focus (first | decide | assumption | omega)); (intro v H2 hs hi); (try (have hd2 := Drs.same (by assumption) hs)))
  | ((with_reducible apply r_rep (M := fun a => a = dr)); (focus (walk_at "isd")); (focus decide); (focus decide); (focus (first | (intro hnil; cases hnil) | assumption | simp)); (focus (first | decide | (simp; done) | (simp; omega))); (intro v H2 hs hi); (try (have hd2 := Drs.same (by assumption) hs)))
  | ((with_reducible apply r_listOf); (focus assumption); (focus (walk_at "isd")); (intro v H2 hs hi); (try (have hd2 := Drs.same (by assumption) hs)))
  | ((with_reducible apply r_ixStr); (focus assumption))
  | ((with_reducible apply r_cat (M := fun a => a = dr)); (focus (walk_at "isd")); (focus (walk_at "isd")); (focus (first | decide | (simp; omega) | omega)); (intro v H2 hs hi); (try (have hd2 := Drs.same (by assumption) hs)))
  | ((with_reducible apply r_slTo (M := fun a => a = dr)); (focus (walk_at "isd")); (focus (first | decide | assumption | omega)); (intro v H2 hs hi); (try (have hd2 := Drs.same (by assumption) hs)))
  | ((with_reducible apply r_slFrom (M := fun a => a = dr)); (focus (walk_at "isd")); (focus (first | decide | assumption | omega)); (intro v H2 hs hi); (try (have hd2 := Drs.same (by assumption) hs)))
  | ((with_reducible apply r_rep (M := fun a => a = dr)); (focus (walk_at "isd")); (focus decide); (focus decide); (focus (first | (intro hnil; cases hnil) | assumption | simp)); (focus (first | decide | (simp; omega))); (intro v H2 hs hi); (try (have hd2 := Drs.same (by assumption) hs)))
  | ((with_reducible apply r_listOf); (focus assumption); (focus (walk_at "isd")); (intro v H2 hs hi); (try (have hd2 := Drs.same (by assumption) hs)))
  | ((with_reducible apply r_ixStr); (focus assumption))
  | ((with_reducible apply r_cat (M := fun a => a = dr)); (focus (walk_at "isd")); (focus (walk_at "isd")); (focus (first | decide | (simp; omega) | omega)); (intro v H2 hs hi); (try (have hd2 := Drs.same (by assumption) hs)))
  | ((with_reducible apply r_slTo (M := fun a => a = dr)); (focus (walk_at "isd")); (focus (first | decide | assumption | omega)); (intro v H2 hs hi); (try (have hd2 := Drs.same (by assumption) hs)))
  | ((with_reducible apply r_slFrom (M := fun a => a = dr)); (focus (walk_at "isd")); (focus (first | decide | assumption | omega)); (intro v H2 hs hi); (try (have hd2 := Drs.same (by assumption) hs)))
  | ((with_reducible apply r_rep (M := fun a => a = dr)); (focus (walk_at "isd")); (focus decide); (focus decide); (focus (first | (intro hnil; cases hnil) | assumption | simp)); (focus (first | decide | (simp; omega))); (intro v H2 hs hi); (try (have hd2 := Drs.same (by assumption) hs)))
  | ((with_reducible apply r_listOf); (focus assumption); (focus (walk_at "isd")); (intro v H2 hs hi); (try (have hd2 := Drs.same (by assumption) hs)))
  | ((with_reducible apply r_ixStr); (focus assumption))
  | ((with_reducible apply r_cat (M := fun a => a = dr)); (focus (walk_at "isd")); (focus (walk_at "isd")); (focus (first | decide | (simp; omega) | omega)); (intro v H2 hs hi); (try (have hd2 := Drs.same (by assumption) hs)))
  | ((with_reducible apply r_slTo (M := fun a => a = dr)); (focus (walk_at "isd")); (focus (first | decide | assumption | omega)); (intro v H2 hs hi); (try (have hd2 := Drs.same (by assumption) hs)))
  | ((with_reducible apply r_slFrom (M := fun a => a = dr)); (focus (walk_at "isd")); (focus (first | decide | assumption | omega)); (intro v H2 hs hi); (try (have hd2 := Drs.same (by assumption) hs)))
  | ((with_reducible apply r_rep (M := fun a => a = dr)); (focus (walk_at "isd")); (focus decide); (focus decide); (focus (first | (intro hnil; cases hnil) | assumption | simp)); (focus (first | decide | (simp; omega))); (intro v H2 hs hi); (try (have hd2 := Drs.same (by assumption) hs)))
  | ((with_reducible apply r_listOf); (focus assumption); (focus (walk_at "isd")); (intro v H2 hs hi); (try (have hd2 := Drs.same (by assumption) hs)))
  | ((with_reducible apply r_ixStr); (focus assumption))
  | ((with_reducible apply r_cat (M := fun a => a = dr)); (focus (walk_at "isd")); (focus (walk_at "isd")); (focus (first | decide | (simp; omega) | omega)); (intro v H2 hs hi); (try (have hd2 := Drs.same (by assumption) hs)))
  | ((with_reducible apply r_slTo (M := fun a => a = dr)); (focus (walk_at "isd")); (focus (first | decide | assumption | omega)); (intro v H2 hs hi); (try (have hd2 := Drs.same (by assumption) hs)))
  | ((with_reducible apply r_slFrom (M := fun a => a = dr)); (focus (walk_at "isd")); (focus (first | decide | assumption | omega)); (intro v H2 hs hi); (try (have hd2 := Drs.same (by assumption) hs)))
  | ((with_reducible apply r_rep (M := fun a => a = dr)); (focus (walk_at "isd")); (focus decide); (focus decide); (focus (first | (intro hnil; cases hnil) | assumption | simp)); (focus (first | decide | (simp; omega))); (intro v H2 hs hi); (try (have hd2 := Drs.same (by assumption) hs)))
  | ((with_reducible apply r_listOf); (focus assumption); (focus (walk_at "isd")); (intro v H2 hs hi); (try (have hd2 := Drs.same (by assumption) hs)))
  | ((with_reducible apply r_ixStr); (focus assumption))
  | ((with_reducible apply r_cat (M := fun a => a = dr)); (focus (walk_at "isd")); (focus (walk_at "isd")); (focus (first | decide | (simp; omega) | omega)); (intro v H2 hs hi); (try (have hd2 := Drs.same (by assumption) hs)))
  | ((with_reducible apply r_slTo (M := fun a => a = dr)); (focus (walk_at "isd")); (focus (first | decide | assumption | omega)); (intro v H2 hs hi); (try (have hd2 := Drs.same (by assumption) hs)))
  | ((with_reducible apply r_slFrom (M := fun a => a = dr)); (focus (walk_at "isd")); (focus (first | decide | assumption | omega)); (intro v H2 hs hi); (try (have hd2 := Drs.same (by assumption) hs)))
  | ((with_reducible apply r_rep (M := fun a => a = dr)); (focus (walk_at "isd")); (focus decide); (focus decide); (focus (first | (intro hnil; cases hnil) | assumption | simp)); (focus (first | decide | (simp; omega))); (intro v H2 hs hi); (try (have hd2 := Drs.same (by assumption) hs)))
  | ((with_reducible apply r_listOf); (focus assumption); (focus (walk_at "isd")); (intro v H2 hs hi); (try (have hd2 := Drs.same (by assumption) hs)))
  | ((with_reducible apply r_ixStr); (focus assumption))
  | ((with_reducible apply r_cat (M := fun a => a = dr)); (focus (walk_at "isd")); (focus (walk_at "isd")); (focus (first | decide | (simp; omega) | omega)); (intro v H2 hs hi); (try (have hd2 := Drs.same (by assumption) hs)))
  | ((with_reducible apply r_slTo (M := fun a => a = dr)); (focus (walk_at "isd")); (focus (first | decide | assumption | omega)); (intro v H2 hs hi); (try (have hd2 := Drs.same (by assumption) hs)))
  | ((with_reducible apply r_slFrom (M := fun a => a = dr)); (focus (walk_at "isd")); (focus (first | decide | assumption | omega)); (intro v H2 hs hi); (try (have hd2 := Drs.same (by assumption) hs)))
  | ((with_reducible apply r_rep (M := fun a => a = dr)); (focus (walk_at "isd")); (focus decide); (focus decide); (focus (first | (intro hnil; cases hnil) | assumption | simp)); (focus (first | decide | (simp; omega))); (intro v H2 hs hi); (try (have hd2 := Drs.same (by assumption) hs)))
  | ((with_reducible apply r_listOf); (focus assumption); (focus (walk_at "isd")); (intro v H2 hs hi); (try (have hd2 := Drs.same (by assumption) hs)))
  | ((with_reducible apply r_ixStr); (focus assumption))
  | ((with_reducible apply r_lenL); (focus (walk_at "hat")))
  | ((with_reducible apply r_setL); (focus (walk_at "hat")); (focus ((with_unfolding_all rfl); done)); (intro H2 hk hl))
  | ((with_reducible apply r_ixMk); (focus (walk_at "hat")); (focus (assumption)); (focus assumption); (focus ((simp only [List.length_cons, List.length_nil]); decide)))
  | ((with_reducible apply r_ixI); (focus (walk_at "hat")); (focus (omega)); (focus (omega)); (intro n hn))
  | ((with_reducible apply r_mixed); (intro n hn0 hn1))
  | ((with_reducible apply r_lenP); (focus (walk_at "isd")))
  | ((with_reducible apply r_ixP); (focus (walk_at "isd")); (focus assumption); (focus assumption); (intro j pp u hj hp hu))
  | ((with_reducible apply r_ixP1); (focus assumption))
  | ((with_reducible apply r_ixL); (focus (walk_at "hat")); (focus ((with_unfolding_all rfl); done)))
  | (with_reducible refine r_memc ?_ ?_) | (with_reducible exact r_memn)))
local macro_rules | `(tactic| walk_at "go") => `(tactic| (repeat' (first | walk_at "rd" | walk_at "al")))
section
variable {K : PySem.W.Frag} {P : Program} {mg : Str → Option Value} {w : World} {base : Heap}
def sp_isprog : Sp := fun vs H Q _ => ∃ (M : Addr → Prop) (d : PyData) (v : V), vs = [v] ∧ Is M H d v ∧ ∀ H', Same H H' → Q (.bl (okP d)) H'
theorem ok_isprog (T : Txt K mg) (T2 : Txt2 K w mg) (T3 : Txt3 K mg T2.C) : FnOk P w K mg base CX0 5 T.f_law_is_program T.d_law_is_program ["value"] sp_isprog := by
  have G_check_program : FnOk P w K mg base (L2.CX P w) 4 T.f_check_program T.d_check_program ["program"] (sp_check T2.C okP) := ok_prog T T2
  refine T.F_law_is_program.ok sc_law_is_program (fun vs H Q E h => ?_) (fun cdv A outer s H vs Q E hr h => ?_)
  · obtain ⟨_, _, _, rfl, _⟩ := h
    rfl
  · obtain ⟨M, d, v, rfl, hI, q⟩ := h
    have nd := sc_law_is_program.nd
    refine ⟨_, (pss_cons (ps_try_as (i := 1) rfl rfl nd rfl rfl ⟨rfl, by decide, .inl T2.m_BadProgram⟩ takes0 (fun W pn xe tk _ => (pss_one (ps_ret (pe_cmpR op_isN (pe_callS G_check_program (hr.mono (by decide)) (by rfl) T.m_check_program T.F_check_program.kp T.b_check_program (fun σ => passAt tk σ) (pa_cons (pv 0) pa_nil)) pe_non (nomark _)))))
      (fun a oe cls dd pn hz hf => (pss_cons (ps_if (PW.pt (pw_or (pt_not (pt_val (pe_callB (call_isEK hz hf) (by rfl) T.m_isinstance PyProof.Rows.boot_isinstance (pa_cons (pv 1) (pa_cons (pe_globR rfl T3.m_EveryweaveError) pa_nil))))) (pw_or1 (pt_not (pt_val (pe_callB (call_isEK hz hf) (by rfl) T.m_isinstance PyProof.Rows.boot_isinstance (pa_cons (pv 1) (pa_cons (pe_bltn (v := .ty "ValueError") (by rfl) T.m_ValueError (by decide +kernel) rfl) pa_nil)))))))) (pss_one (ps_ret pe_non)) pss_nil)
        (pss_one (ps_if (pt_val (pe_callB (call_isEK hz hf) (by rfl) T.m_isinstance PyProof.Rows.boot_isinstance (pa_cons (pv 1) (pa_cons (pe_tup (pa_cons (pe_globR rfl T3.m_BadArgument) (pa_cons (pe_globR rfl T3.m_BadGraph) (pa_cons (pe_globR rfl T3.m_BadSchedule) (pa_cons (pe_globR rfl T3.m_BadText) (pa_cons (pe_globR rfl T3.m_TooLarge) pa_nil)))))) pa_nil)))) (pss_one (ps_ret pe_non)) pss_nil))))) (pss_one (ps_ret pe_bl))), ?_⟩
    refine r_seq ?_
    refine ⟨v, rfl, ?_⟩
    cases hok : okP d with
    | true =>
      rw [hok] at q
      exact ⟨M, d, v, rfl, hI, fun _ H' s' => ⟨rfl, q H' s'⟩, fun z => absurd (hok.symm.trans z) (by decide)⟩
    | false =>
      rw [hok] at q
      refine ⟨M, d, v, rfl, hI, fun z => absurd (hok.symm.trans z) (by decide), fun _ H' s' => ?_⟩
      refine ⟨true, T3.me, fun _ a ha => ?_, fun z => by cases z⟩
      refine r_seq ?_
      walk_at "go"
      refine r_isE1 T3.ex (fun u hu => (show u = Value.ref T3.cE from hu)) T3.kE ?_
      refine ⟨true, rfl, ?_⟩
      refine iteF ?_
      walk_at "go"
      refine r_isE1 T3.ex (fun u hu => (show u = Value.type "ValueError" from hu)) T3.kV ?_
      refine ⟨true, rfl, ?_⟩
      refine iteF ?_
      walk_at "go"
      refine ⟨size1000 (Nat.le_of_ble_eq_true rfl), fun p hp => ?_⟩
      walk_at "go"
      refine r_isET (cs := [T3.cA, T3.cG, T3.cS, T3.cT, T3.cL]) T3.ex upd_same T3.kO ?_
      refine ⟨false, rfl, ?_⟩
      refine iteF ?_
      exact q _ (Same.trans s' (same_upd hp))
end
end EW
set_option Elab.async false
set_option linter.all false
set_option maxRecDepth 100000
set_option maxHeartbeats 4400000
namespace EWG
open L2 PyProof.Rows PySem.Spec PySem
/-- a def called under ONE state of the callers (here: where no repr is under way) -/
def RunAt (P : Program) (w : World) (K : PySem.W.Frag) (mg : Str → Option Value) (base : Heap) (k : Nat) (A : Around) (f : Addr) (fd : FuncData) (ps : List Str) (sp : Sp) : Prop :=
  ∀ (outer : List Env) (now : Shared) (H : Hp) (args : Args) (us : List Value) (vs : List V) (Q : VK) (E : XK), Room k A → Env0 P w K mg base A outer now H → BindsTo now fd args (ps.zip us) → Vals vs us → sp vs H Q E →
    codeAny (model P w) A (.call (.ref f) args) (CR CX0 outer P w H now Q E) now
theorem run_at {P : Program} {w : World} {K : PySem.W.Frag} {mg : Str → Option Value} {base : Heap} {k : Nat} {x qual : Str} {st : Stmt} {f : Addr} {fd : FuncData} {N ps : List Str} {sp : Sp} {A : Around} (F : Fun K x qual st f fd) (S : FnScope N ps (defScope st)) (len : ∀ vs H Q E, sp vs H Q E → vs.length = ps.length)
    (walk : ∀ (cdv : Value) (outer : List Env) (now : Shared) (H : Hp) (vs : List V) (Q : VK) (E : XK), Room k (A.deeper (envOfC qual (defScope st) now.heap.objs.size f cdv)) → sp vs H Q E →
      ∃ t, PSs (cxOf CX0 P w K mg base N qual (defScope st) f cdv A outer now H E).nox (defBody st) t ∧ t { nx := fun _ H' => Q .non H', rt := Q } (start N vs) H) : RunAt P w K mg base (k + 1) A f fd ps sp := by
  intro outer now H args us vs Q E room env binds rel promise
  obtain ⟨oc, od, kV, doc, pm, an, cdv, ct, osl, rfl, there, code⟩ := F.ex
  have many := len _ _ _ _ promise
  have written : K.In now.heap := env.mod.kin.keeps fun b o e => (env.bs b o e).1
  have nolim : now.heap.NoLimit := env.mod.nolimit.keeps fun b o e => (env.bs b o e).1
  have kinds : ∀ y ∈ ps.zip us, (defScope st).names.lookup y.1 = some .local ∨ ((defScope st).names.lookup y.1 = some .cell ∧ ((cellsFrom (now.heap.objs.size + 1) (defScope st).names []).lookup y.1).isSome = true) := by
    rintro ⟨n, v⟩ hy
    exact (S.par n (List.of_mem_zip hy).1).imp id fun q => ⟨q, PySem.W.cellsFrom_some _ _ _ (.inl q)⟩
  refine codeAny_call_function room.depth (written _ _ there) rfl S.co S.gen rfl (PySem.W.codeRec_of written code) (binds _ _ _ _ (wpAny_newFunctionEnv_cells S.kind kinds fun env1 e1 s1 made => ?_))
  cases e1
  obtain ⟨t, body, reading⟩ := walk cdv outer now H vs Q E (room.deeper _) promise
  have I := inv_start (CX := CX0) (P := P) (E := E) (cd := cdv) (f := f) (qual := qual) S room.hd env many rel made
  refine ⟨nolim.keeps made.toInCall.keep, codeAny_func (wpAny_mono (body.nox.run [] s1 (start N vs) H _ I reading) (fun fl s2 hs => ?_) fun _ _ hs => hs)⟩
  cases fl with
  | ret u => obtain ⟨v, _, H2, J, rv, q⟩ := hs; exact ⟨v, H2, J.os, J.bare, J.base, J.hok, rv, q⟩
  | next => obtain ⟨_, H2, J, q⟩ := hs; exact ⟨V.non, H2, J.os, J.bare, J.base, J.hok, rfl, q⟩
  | brk => obtain ⟨_, _, _, q⟩ := hs; exact q.elim
  | cont => obtain ⟨_, _, _, q⟩ := hs; exact q.elim
end EWG
set_option Elab.async false
set_option linter.all false
set_option maxRecDepth 100000
set_option maxHeartbeats 4400000
namespace EWG
open L2 PyProof.Rows PySem.Spec PySem
/-- the law, called by its caller: as the layer's end, for a def that is known under that caller alone -/
theorem law_at {P : Program} {w : World} {K : PySem.W.Frag} {mg mb : Str → Option Value} {k : Nat} {fa a : Addr} {fd : FuncData} {x : Str} {sp : Sp} {now : Shared} {us : List Value} {ns : List Int}
    (KX : K.In now.heap) (names : now.heap.Ns mainGlobals mg) (bn : now.heap.Ns builtinsNs mb) (boots : ∀ y : Str, y ≠ "__name__" → mb y = bootBuiltins y) (lim : now.heap.NoLimit) (still : now.gens = #[])
    (there : now.heap.get? a = some { cls := .type "list", data := .seq us.toArray }) (intsH : IntsAre us ns) (short : ns.length ≤ sizeLine) (room : Room k callerA)
    (F : ∀ base : Heap, K.In base → base.Ns mainGlobals mg → RunAt P w K mg base k callerA fa fd [x] sp) (binds : ∀ (s : Shared) (u : Value), BindsTo s fd ⟨[u], []⟩ [(x, u)])
    (asks : ∀ H : Hp, Only H → SqL K H a (ns.map V.int) → sp [.ref a] H (fun v _ => v = .bl true) fun _ _ _ => False) :
    codeAny (model P w) callerA (.call (.ref fa) ⟨[.ref a], []⟩) (fun r s' => r = .ok (.ret (.bool true)) ∧ OldK now.heap s'.heap ∧ s'.os = now.os ∧ AllBare s'.gens) now := by
  have rv := vals_ints intsH
  have many := intsH.length
  -- the abstract heap at the start: the script alone, where it is none of the module's own objects
  have main : ∀ H : Hp, (∀ b, H b = none ∨ (b = a ∧ K.lookup a = none ∧ H b = some (.frz { cls := .type "list", data := .seq us.toArray } (.lst (ns.map V.int))))) → SqL K H a (ns.map V.int) →
      codeAny (model P w) callerA (.call (.ref fa) ⟨[.ref a], []⟩) (fun r s' => r = .ok (.ret (.bool true)) ∧ OldK now.heap s'.heap ∧ s'.os = now.os ∧ AllBare s'.gens) now := by
    intro H one seq
    have ok : HOk P w H now.heap := fun b o e => by
      rcases one b with z | ⟨rfl, _, z⟩
      · rw [z] at e; cases e
      · rw [z] at e; cases e
        exact ⟨there, by rw [List.length_map]; exact short, us, _, rv, there⟩
    have only : Only H := fun b => (one b).imp id fun ⟨_, _, z⟩ => ⟨_, _, z⟩
    have seen : ∀ {b : Addr} {o : Obj}, now.heap.get? b = some o → b ≠ a ∨ K.lookup a ≠ none → (hidT now.heap H).get? b = some o := fun {b o} e n => hidT_get e ((one b).elim id fun ⟨q1, q2, _⟩ => (n.elim (fun z => z q1) fun z => z q2).elim)
    have dictNe : ∀ {b : Addr} {o : Obj} {es : Array DictEntry} {ep : Nat}, now.heap.get? b = some o → o.data = .dict es ep → b ≠ a := fun {b o es ep} e d z => by
      subst z
      rw [there] at e
      cases e
      exact nomatch d
    have nsB : ∀ {b : Addr} {m : Str → Option Value}, now.heap.Ns b m → (hidT now.heap H).Ns b m := by
      rintro b m ⟨o, es, ep, e, d, r⟩
      exact ⟨o, es, ep, seen e (.inl (dictNe e d)), d, r⟩
    have inB : K.In (hidT now.heap H) := fun b o e => seen (KX b o e) (if h : b = a then .inr (by subst h; rw [e]; exact fun z => by cases z) else .inl h)
    have md : Mod K mg (hidT now.heap H) := ⟨inB, nsB names, ⟨mb, nsB bn, boots⟩, let ⟨mc, h1, h2⟩ := lim; ⟨mc, nsB h1, h2⟩⟩
    have nil : ∀ {b : Addr}, b ∉ frs ([] : List Env) := fun {b} z => by cases z
    have env : Env0 P w K mg (hidT now.heap H) callerA [] now H := ⟨rfl, md, fun b o e => of_hidT e, Nat.le_of_eq (hidT_size _ _), trivial, fun b hb => (nil hb).elim, ok, .of_eq still⟩
    refine codeAny_mono (F _ inB (nsB names) [] now H ⟨[.ref a], []⟩ [.ref a] [.ref a] _ _ room env (binds now (.ref a)) (.cons rfl .nil) (asks H only seq)) fun r s' got => ?_
    match r, got with
    | .error e, got => exact got.elim
    | .ok .next, got => exact got.elim
    | .ok .brk, got => exact got.elim
    | .ok .cont, got => exact got.elim
    | .ok (.ret u), ⟨v, H2, os, bare, un, ok2, ru, q⟩ =>
      have ev : v = .bl true := q
      subst ev
      cases (show u = Value.bool true from ru)
      refine ⟨rfl, OldK.of_keep (fun b o e => ?_), os, bare⟩
      rcases one b with z | ⟨rfl, _, z⟩
      · exact un.keep b o e z nil (by simp)
      · rw [there] at e
        cases e
        exact (ok2 b _ (un.frzs b _ _ z)).1
  cases own : K.lookup a with
  | some o =>
    have e := KX a o own
    rw [there] at e
    cases e
    exact main (fun _ => none) (fun _ => .inl rfl) (.inr ⟨_, us.toArray, _, own, rfl, rfl, rfl, by rw [List.size_toArray, many]; exact short, by simpa using rv⟩)
  | none =>
    refine main (fun b => if b = a then some (.frz { cls := .type "list", data := .seq us.toArray } (.lst (ns.map V.int))) else none) (fun b => ?_) (.inl (.inr ⟨_, if_pos rfl⟩))
    by_cases h : b = a
    · exact .inr ⟨h, own, if_pos h⟩
    · exact .inl (if_neg h)
theorem walk_at {l : PySem.W.OpenLaw} {n k : Nat} {q : Program} {loose : List Str} {XP : (Str → Option Value) → Heap → Prop} {YP : World → Heap → Prop} {d : DefRec} {K : Params → PySem.W.Frag} {x : Str} {sp : World → Sp}
    (hn : l.most = some n) (hn2 : n ≤ sizeLine) (hdf : d.params.defaults = []) (room : Room k callerA) (hY : ∀ (w : World) (h : Heap), YP w h → (K w.params).In h)
    (F : ∀ (w : World) (mg : Str → Option Value) (fa : Addr) (h : Heap), (K w.params).In h → h.Ns mainGlobals mg → mg d.name = some (.ref fa) → ∃ fd : FuncData, (∀ (s : Shared) (u : Value), BindsTo s fd ⟨[u], []⟩ [(x, u)]) ∧
      ∀ base : Heap, (K w.params).In base → base.Ns mainGlobals mg → RunAt l.prog w (K w.params) mg base k callerA fa fd [x] (sp w))
    (asks : ∀ (w : World) (H : Hp) (a : Addr) (ns : List Int), ns.length ≤ n → Only H → SqL (K w.params) H a (ns.map V.int) → sp w [.ref a] H (fun v _ => v = .bl true) fun _ _ _ => False) :
    PySem.W.WalkO q loose XP YP l.row.toRowW d [] (fun fn given => PySem.call fn given) := by
  refine Att.attach_call hn hdf fun w s₀ s₁ mg mb fa o pm cd doc a vs ns G Y ho hd hcd hmg hobj intsH most still => ?_
  obtain ⟨fd, binds, runs⟩ := F w mg fa _ (hY w _ Y) G.T.g hmg
  exact law_at (hY w _ Y) G.T.g G.T.b G.T.builtins G.T.nolimit still hobj intsH (Nat.le_trans most hn2) room runs binds fun H hO hS => asks w H a ns most hO hS
end EWG
set_option Elab.async false
set_option linter.all false
set_option maxRecDepth 100000
set_option maxHeartbeats 4400000
namespace EW
open L2 PyProof.Rows PySem.Spec PySem
mutual
theorem Is.dp {K : PySem.W.Frag} {M : Addr → Prop} {H : Hp} : ∀ {d : PyData} {v : V}, Is M H d v → Dp K H v d
  | .none, _, h => by cases h; exact .non
  | .bool b, _, h => by cases h; exact .bl b
  | .int i, _, h => by cases h; exact .int i
  | .str s, _, h => by cases h; exact .str s
  | .list _, _, ⟨_, _, e, _, h, r⟩ => by subst e; exact .lst (.inl (.inl h)) (IsAll.dp r)
  | .tuple _, _, ⟨_, _, e, h, r⟩ => by subst e; exact .tup (.inl (.inl h)) (IsAll.dp r)
  | .dict _, _, h => False.elim h
theorem IsAll.dp {K : PySem.W.Frag} {M : Addr → Prop} {H : Hp} : ∀ {ds : List PyData} {vs : List V}, IsAll M H ds vs → DpAll K H vs ds
  | [], _, h => by cases h; exact .nil
  | _ :: _, _, ⟨_, _, e, h, t⟩ => by subst e; exact .cons (Is.dp h) (IsAll.dp t)
end
/-- str(x) of small data, where no repr is under way -/
def rStrD : List V → Hp → VK → Prop := fun xs H Q => ∃ (M : Addr → Prop) (d : PyData) (v : V), xs = [v] ∧ Is M H d v ∧ Sm 8 1000000 d ∧ (d = .none ∨ ∃ a, v = .ref a) ∧ Q (.str d.shown) H
theorem call_strD {X : Cx} (quiet : X.A.guards = some []) (room : X.A.units + 20 < cLine) : CallR X (.type "str") rStrD := by
  intro pins now σ H xs us Q I rel ask
  obtain ⟨M, d, v, rfl, hI, sm, kind, q⟩ := ask
  obtain ⟨u, rfl, ru⟩ := vals1 rel
  rcases kind with rfl | ⟨a, rfl⟩
  · cases hI
    cases (show u = Value.none from ru)
    exact PySem.P.str_of_none ⟨.str "None", H, I.tok _, ⟨_, rfl⟩, q⟩
  · cases (show u = Value.ref a from ru)
    obtain ⟨as, reads⟩ := Dp.reads I d (.ref a) (.ref a) (Is.dp hI) rfl
    have most : (1048576 : Nat) = 2 ^ 20 := by decide
    exact str_of_reads reads sm.sh (PyData.noDict_hsm sm.nd) quiet (by have := sm.dp; omega) (fun _ _ e => e) (fun h' t tk keep => ⟨.str d.shown, H, I.kept (t' := tk) keep, ⟨t, rfl⟩, q⟩) (PyData.shown_fits_bulk (B := 13) (by decide) (by decide) sm.lf (by have := sm.bk; omega))
end EW
set_option Elab.async false
set_option linter.all false
set_option maxRecDepth 100000
set_option maxHeartbeats 16000000
set_option pp.maxSteps 250
namespace EW
open L2 PyProof.Rows PySem.Spec PySem
set_option hygiene false
local macro_rules | `(tactic| walk_at "km") => `(tactic| (first
  | exact KeepM.refl
  | (refine KeepM.trans ?_ (KeepM.same (by assumption)); walk_at "km")
  | (refine KeepM.trans ?_ (Keep.toML (by assumption) (by assumption)); walk_at "km")
  | (refine KeepM.trans ?_ (Keep.toMD (by assumption) (by assumption)); walk_at "km")
  | (refine KeepM.trans ?_ (Keep.toM (by assumption) (by assumption) (by first | trivial | rfl)); walk_at "km")))
local macro_rules | `(tactic| walk_at "kp") => `(tactic| (first
  | exact Keep.refl
  | (refine Keep.trans ?_ (Keep.same (by assumption)); walk_at "kp")
  | (refine Keep.trans ?_ (by assumption); walk_at "kp")
  | (refine Keep.cell2 (by assumption) (by assumption) ?_; walk_at "kp")))
local macro_rules | `(tactic| walk_at "sm") => `(tactic| (first
  | exact Same.refl _
  | (refine Same.trans ?_ (by assumption); walk_at "sm")))
local macro_rules | `(tactic| walk_at "hat") => `(tactic| (first
  | assumption
  | (refine same_get (by assumption) ?_; walk_at "hat")
  | (refine Keep.get (by assumption) (by assumption) ?_; walk_at "hat")))
local macro_rules | `(tactic| walk_at "isd") => `(tactic| (with_reducible first
  | exact is_int | exact is_str | exact is_bl | exact is_non | assumption | (refine Is.weak (M := fun _ => True) (fun _ _ => trivial) (by assumption))
  | (refine Is.keep ?_ (by assumption); walk_at "km")))
local macro_rules | `(tactic| walk_at "isall") => `(tactic| (repeat (with_reducible first | exact IsAll.nil | (apply IsAll.cons; (walk_at "isd")))))
local macro_rules | `(tactic| walk_at "pos") => `(tactic| (first | decide | assumption | omega | (simp only [decide_eq_false_iff_not] at *; omega)))
local macro_rules | `(tactic| walk_at "rd") => `(tactic| (with_reducible first
  | refine r_seq ?_ | refine r_asg ?_ | refine r_name ?_ | refine r_C ?_ | refine r_op ?_ | refine r_un ?_ | refine r_rU ?_ | refine r_I0 ?_ | refine r_eqI ?_ | refine r_neI ?_ | refine r_test ?_ | refine r_tB ?_ | refine r_exk ?_ | refine r_and ?_ | refine r_or ?_ | refine r_not ?_ | refine r_ifS ?_ | refine r_ret ?_ | refine r_next ?_ | refine r_drop ?_ | refine r_nil ?_ | refine r_cons ?_ | refine r_call ?_ | refine r_CB ?_ | refine r_tup ?_ | refine r_lst ?_ | refine r_sub ?_ | refine r_gCons ?_ | refine r_pc ?_ | refine r_pn ?_ | (refine r_disp ?_; intro p H2 hn hs hl) | refine r_eqS ?_ | refine r_sl ?_ | refine r_noPart ?_ | refine r_part ?_ | refine r_partK ?_ | refine r_jsF ?_ | refine r_jsN ?_ | refine r_dget ?_ | refine r_iZ ?_ | refine r_gNil ?_ | refine r_isTy ?_ | refine r_notTy ?_ | refine r_andV ?_ | refine r_chain ?_ | refine r_andK (fun h => ?_) (fun h => ?_) | refine r_chK (fun h => ?_) (fun h => ?_) | refine r_andKb (fun h => ?_) (fun h => ?_) | refine r_for ?_ | refine r_lc ?_ | refine r_iL ?_ | refine r_iT ?_ | refine r_iR ?_
  | (apply r_var; (focus ((with_unfolding_all rfl); done)))
  | (refine r_mod ?_ ?_; (focus ((walk_at "pos"); done)); intro m hm0 hm1)
  | (refine r_I ?_ ?_; (focus ((first | decide | (unfold CMul; omega) | (unfold CDiv; omega) | (unfold CPow; omega) | omega); done)))
  | (apply r_wipe; (focus ((with_unfolding_all rfl); done))) | refine r_yes ?_ | refine iteT ?_ | refine iteF ?_ | refine r_ifeq (fun h => ?_) (fun h => ?_) | refine r_ifd (fun h => ?_) (fun h => ?_) | refine r_ifnd (fun h => ?_) (fun h => ?_) | refine ite2 (fun h => ?_) (fun h => ?_)))
local macro_rules | `(tactic| walk_at "al") => `(tactic| (first
  | ((with_reducible apply r_newT (M := fun a => a = dr)); (focus (walk_at "isall"; done)); (with_unfolding_all exact Nat.le_of_ble_eq_true rfl); intro v H2 hs hi; (try (have hd2 := Drs.same (by assumption) hs)))
  | ((with_reducible apply r_newLD); (focus assumption); (focus (walk_at "isall"; done)); (with_unfolding_all exact Nat.le_of_ble_eq_true rfl); intro v H2 hs hi; (try (have hd2 := Drs.same (by assumption) hs)))
  | ((with_reducible apply r_ixLD); (focus (walk_at "isd")); (focus assumption); (focus assumption); (focus ((simp only [List.length_cons, List.length_nil]); decide)); (intro d u hmem hu))
  | ((with_reducible apply r_newL); (with_unfolding_all exact Nat.le_of_ble_eq_true rfl); intro p H2 hn hs hl; (try (have hd2 := Drs.same (by assumption) hs)); (try (have hne := ne_dr (by assumption) hn)); (try (have hnu := ne_nu (by assumption) hn)))
  | ((with_reducible apply r_draw); (focus (assumption)); (intro n H2 hn hk hd))
  | ((with_reducible apply r_bm))
  | ((with_reducible apply r_app); (focus (walk_at "hat")); (focus ((refine size_lt ?_); (first | omega | (simp only [List.length_map]; omega) | (simp; omega)))); (intro H2 hold hk hl); (try (have hd2 := Drs.cellK (by assumption) hk (by assumption) (by assumption))))
  | ((with_reducible apply And.intro); (focus ((with_reducible apply r_tyL); (walk_at "hat"))))
  | ((with_reducible apply r_rng); (focus (first | assumption | omega)); (focus omega))
  | ((with_reducible apply r_local); (focus assumption); (focus (first | assumption | omega)); (intro d v H2 hi hok hk hd))
  | ((with_reducible apply r_visible); (focus assumption); (focus (walk_at "isd")); (focus assumption); (focus (first | assumption | omega)); (intro d v H2 hi hok hk hd))
  | ((with_reducible apply r_tupOf (M := fun a => a = dr)); (focus (walk_at "hat")); (focus (first | assumption | (refine IsAll.keep ?_ (by assumption); walk_at "km"))); (intro v H2 hs hi); (try (have hd2 := Drs.same (by assumption) hs)))
  | ((with_reducible apply r_int); (focus (walk_at "isd")))
  | ((with_reducible apply r_value); (focus (walk_at "isd")))
  | ((with_reducible apply r_row); (focus (walk_at "isd")))
  | ((with_reducible apply r_iTK); (focus (walk_at "hat")))
  | ((with_reducible apply r_gTup); (focus (walk_at "hat")); (focus ((with_unfolding_all rfl); done)))
  | ((with_reducible apply r_ix0T); (focus (walk_at "hat")))
  | ((with_reducible apply r_ixT); (focus (walk_at "hat")); (focus ((with_unfolding_all rfl); done)))
  | (with_reducible refine r_typeS ?_)
  | ((with_reducible apply r_type); (focus (walk_at "isd")))
  | (with_reducible refine ⟨_, _, rfl, rfl, (by assumption), ?_⟩)
  | ((with_reducible apply r_lenD); (focus (walk_at "isd")))
  | ((with_reducible apply r_lenT); (focus (walk_at "hat")))
  | ((with_reducible apply r_zipSK); (focus (walk_at "hat")))
  | ((with_reducible apply r_slT); (focus (walk_at "hat")); (intro p H2 hs hl))
  | ((with_reducible apply r_lenSh); (focus assumption))
  | ((with_reducible apply r_jsC); (focus (first | assumption | exact empty_len)); (focus decide); (focus decide); (intro acc' hacc))
  | ((with_reducible apply r_fmtS); (focus (first | assumption | exact empty_len)); (focus decide); (focus omega); (intro acc' hacc))
  | ((with_reducible apply r_fmtN); (focus (first | assumption | exact empty_len)); (focus decide); (focus assumption); (intro acc' hacc))
  | ((with_reducible apply r_bnd); (focus assumption); (intro p hp))
  | ((with_reducible apply r_cat (M := fun a => a = dr)); (focus (walk_at "isd")); (focus (walk_at "isd")); (focus (first | decide | (simp; done) | (simp; omega) | omega)); (intro v H2 hs hi); (try (have hd2 := Drs.same (by assumption) hs)))
  | ((with_reducible apply r_slTo (M := fun a => a = dr)); (focus (walk_at "isd")); (focus (first | decide | assumption | omega)); (intro v H2 hs hi); (try (have hd2 := Drs.same (by assumption) hs)))
  | ((with_reducible apply r_slFrom (M := fun a => a = dr)); (focus (walk_at "isd")); (focus (first | decide | assumption | omega)); (intro v H2 hs hi); (try (have hd2 := Drs.same (by assumption) hs)))
  | ((with_reducible apply r_rep (M := fun a => a = dr)); (focus (walk_at "isd")); (focus decide); (focus decide); (focus (first | (intro hnil; cases hnil) | assumption | simp)); (focus (first | decide | (simp; done) | (simp; omega))); (intro v H2 hs hi); (try (have hd2 := Drs.same (by assumption) hs)))
  | ((with_reducible apply r_listOf); (focus assumption); (focus (walk_at "isd")); (intro v H2 hs hi); (try (have hd2 := Drs.same (by assumption) hs)))
  | ((with_reducible apply r_ixStr (M := fun _ => True)); (focus (walk_at "isd")))
  | ((with_reducible apply r_cat (M := fun a => a = dr)); (focus (walk_at "isd")); (focus (walk_at "isd")); (focus (first | decide | (simp; done) | (simp; omega) | omega)); (intro v H2 hs hi); (try (have hd2 := Drs.same (by assumption) hs)))
  | ((with_reducible apply r_slTo (M := fun a => a = dr)); (focus (walk_at "isd")); (focus (first | decide | assumption | omega)); (intro v H2 hs hi); (try (have hd2 := Drs.same (by assumption) hs)))
  | ((with_reducible apply r_slFrom (M := fun a => a = dr)); (focus (walk_at "isd")); (focus (first | decide | assumption | omega)); (intro v H2 hs hi); (try (have hd2 := Drs.same (by assumption) hs)))
  | ((with_reducible apply r_rep (M := fun a => a = dr)); (focus (walk_at "isd")); (focus decide); (focus decide); (focus (first | (intro hnil; cases hnil) | assumption | simp)); (focus (first | decide | (simp; done) | (simp; omega))); (intro v H2 hs hi); (try (have hd2 := Drs.same (by assumption) hs)))
  | ((with_reducible apply r_listOf); (focus assumption); (focus (walk_at "isd")); (intro v H2 hs hi); (try (have hd2 := Drs.same (by assumption) hs)))
  | ((with_reducible apply r_ixStr (M := fun _ => True)); (focus (walk_at "isd")))
  | ((with_reducible apply r_cat (M := fun a => a = dr)); (focus (walk_at "isd")); (focus (walk_at "isd")); (focus (first | decide | (simp; done) | (simp; omega) | omega)); (intro v H2 hs hi); (try (have hd2 := Drs.same (by assumption) hs)))
  | ((with_reducible apply r_slTo (M := fun a => a = dr)); (focus (walk_at "isd")); (focus (first | decide | assumption | omega)); (intro v H2 hs hi); (try (have hd2 := Drs.same (by assumption) hs)))
  | ((with_reducible apply r_slFrom (M := fun a => a = dr)); (focus (walk_at "isd")); (focus (first | decide | assumption | omega)); (intro v H2 hs hi); (try (have hd2 := Drs.same (by assumption) hs)))
  | ((with_reducible apply r_rep (M := fun a => a = dr)); (focus (walk_at "isd")); (focus decide); (focus decide); (focus (first | (intro hnil; cases hnil) | assumption | simp)); (focus (first | decide | (simp; done) | (simp; omega))); (intro v H2 hs hi); (try (have hd2 := Drs.same (by assumption) hs)))
  | ((with_reducible apply r_listOf); (focus assumption); (focus (walk_at "isd")); (intro v H2 hs hi); (try (have hd2 := Drs.same (by assumption) hs)))
  | ((with_reducible apply r_ixStr (M := fun _ => True)); (focus (walk_at "isd")))
  | ((with_reducible apply r_cat (M := fun a => a = dr)); (focus (walk_at "isd")); (focus (walk_at "isd")); (focus (first | decide | (simp; done) | (simp; omega) | omega)); (intro v H2 hs hi); (try (have hd2 := Drs.same (by assumption) hs)))
  | ((with_reducible apply r_slTo (M := fun a => a = dr)); (focus (walk_at "isd")); (focus (first | decide | assumption | omega)); (intro v H2 hs hi); (try (have hd2 := Drs.same (by assumption) hs)))
  | ((with_reducible apply r_slFrom (M := fun a => a = dr)); (focus (walk_at "isd")); (focus (first | decide | assumption | omega)); (intro v H2 hs hi); (try (have hd2 := Drs.same (by assumption) hs)))
  | ((with_reducible apply r_rep (M := fun a => a = dr)); (focus (walk_at "isd")); (focus decide); (focus decide); (focus (first | (intro hnil; cases hnil) | assumption | simp)); (focus (first | decide | (simp; done) | (simp; omega))); (intro v H2 hs hi); (try (have hd2 := Drs.same (by assumption) hs)))
  | ((with_reducible apply r_listOf); (focus assumption); (focus (walk_at "isd")); (intro v H2 hs hi); (try (have hd2 := Drs.same (by assumption) hs)))
  | ((with_reducible apply r_ixStr (M := fun _ => True)); (focus (walk_at "isd")))
  | ((with_reducible apply r_cat (M := fun a => a = dr)); (focus (walk_at "isd")); (focus (walk_at "isd")); (focus (first | decide | (simp; done) | (simp; omega) | omega)); (intro v H2 hs hi); (try (have hd2 := Drs.same (by assumption) hs)))
  | ((with_reducible apply r_slTo (M := fun a => a = dr)); (focus (walk_at "isd")); (focus (first | decide | assumption | omega)); (intro v H2 hs hi); (try (have hd2 := Drs.same (by assumption) hs)))
  | ((with_reducible apply r_slFrom (M := fun a => a = dr)); (focus (walk_at "isd")); (focus (first | decide | assumption | omega)); (intro v H2 hs hi); (try (have hd2 := Drs.same (by assumption) hs)))
  | ((with_reducible apply r_rep (M := fun a => a = dr)); (focus (walk_at "isd")); (focus decide); (focus decide); (focus (first | (intro hnil; cases hnil) | assumption | simp)); (focus (first | decide | (simp; done) | (simp; omega))); (intro v H2 hs hi); (try (have hd2 := Drs.same (by assumption) hs)))
  | ((with_reducible apply r_listOf); (focus assumption); (focus (walk_at "isd")); (intro v H2 hs hi); (try (have hd2 := Drs.same (by assumption) hs)))
  | ((with_reducible apply r_ixStr (M := fun _ => True)); (focus (walk_at "isd")))
  | ((with_reducible apply r_cat (M := fun a => a = dr)); (focus (walk_at "isd")); (focus (walk_at "isd")); (focus (first | decide | (simp; done) | (simp; omega) | omega)); (intro v H2 hs hi); (try (have hd2 := Drs.same (by assumption) hs)))
  | ((with_reducible apply r_slTo (M := fun a => a = dr)); (focus (walk_at "isd")); (focus (first | decide | assumption | omega)); (intro v H2 hs hi); (try (have hd2 := Drs.same (by assumption) hs)))
  | ((with_reducible apply r_slFrom (M := fun a => a = dr)); (focus (walk_at "isd")); (focus (first | decide | assumption | omega)); (intro v H2 hs hi); (try (have hd2 := Drs.same (by assumption) hs)))
  | ((with_reducible apply r_rep (M := fun a => a = dr)); (focus (walk_at "isd")); (focus decide); (focus decide); (focus (first | (intro hnil; cases hnil) | assumption | simp)); (focus (first | decide | (simp; done) | (simp; omega))); (intro v H2 hs hi); (try (have hd2 := Drs.same (by assumption) hs)))
  | ((with_reducible apply r_listOf); (focus assumption); (focus (walk_at "isd")); (intro v H2 hs hi); (try (have hd2 := Drs.same (by assumption) hs)))
  | ((with_reducible apply r_ixStr); (focus assumption))
  | ((with_reducible apply r_cat (M := fun a => a = dr)); (focus (walk_at "isd")); (focus (walk_at "isd")); (focus (first | decide | (simp; done) | (simp; omega) | omega)); (intro v H2 hs hi); (try (have hd2 := Drs.same (by assumption) hs)))
  | ((with_reducible apply r_slTo (M := fun a => a = dr)); (focus (walk_at "isd")); (focus (first | decide | assumption | omega)); (intro v H2 hs hi); (try (have hd2 := Drs.same (by assumption) hs)))
  | ((with_reducible apply r_slFrom (M := fun a => a = dr)); (focus (walk_at "isd")); (focus (first | decide | assumption | omega)); (intro v H2 hs hi); (try (have hd2 := Drs.same (by assumption) hs)))
  | ((with_reducible apply r_rep (M := fun a => a = dr)); (focus (walk_at "isd")); (focus decide); (focus decide); (focus (first | (intro hnil; cases hnil) | assumption | simp)); (focus (first | decide | (simp; done) | (simp; omega))); (intro v H2 hs hi); (try (have hd2 := Drs.same (by assumption) hs)))
  | ((with_reducible apply r_listOf); (focus assumption); (focus (walk_at "isd")); (intro v H2 hs hi); (try (have hd2 := Drs.same (by assumption) hs)))
  | ((with_reducible apply r_ixStr); (focus assumption))
  | ((with_reducible apply r_cat (M := fun a => a = dr)); (focus (walk_at "isd")); (focus (walk_at "isd")); (focus (first | decide | (simp; done) | (simp; omega) | omega)); (intro v H2 hs hi); (try (have hd2 := Drs.same (by assumption) hs)))
  | ((with_reducible apply r_slTo (M := fun a => a = dr)); (focus (walk_at "isd")); (focus (first | decide | assumption | omega)); (intro v H2 hs hi); (try (have hd2 := Drs.same (by assumption) hs)))
  | ((with_reducible apply r_slFrom (M := fun a => a = dr)); (focus (walk_at "isd")); (focus (first | decide | assumption | omega)); (intro v H2 hs hi); (try (have hd2 := Drs.same (by assumption) hs)))
  | ((with_reducible apply r_rep (M := fun a => a = dr)); (focus (walk_at "isd")); (focus decide); (focus decide); (focus (first | (intro hnil; cases hnil) | assumption | simp)); (focus (first | decide | (simp; done) | (simp; omega))); (intro v H2 hs hi); (try (have hd2 := Drs.same (by assumption) hs)))
  | ((with_reducible apply r_listOf); (focus assumption); (focus (walk_at "isd")); (intro v H2 hs hi); (try (have hd2 := Drs.same (by assumption) hs)))
  | ((with_reducible apply r_ixStr); (focus assumption))
  | ((with_reducible apply r_cat (M := fun a => a = dr)); (focus (walk_at "isd")); (focus (walk_at "isd")); (focus (first | decide | (simp; done) | (simp; omega) | omega)); (intro v H2 hs hi); (try (have hd2 := Drs.same (by assumption) hs)))
  | ((with_reducible apply r_slTo (M := fun a => a = dr)); (focus (walk_at "isd")); (focus (first | decide | assumption | omega)); (intro v H2 hs hi); (try (have hd2 := Drs.same (by assumption) hs)))
  | ((with_reducible apply r_slFrom (M := fun a => a = dr)); (focus (walk_at "isd")); (focus (first | decide | assumption | omega)); (intro v H2 hs hi); (try (have hd2 := Drs.same (by assumption) hs)))
  | ((with_reducible apply r_rep (M := fun a => a = dr)); (focus (walk_at "isd")); (focus decide); (focus decide); (focus (first | (intro hnil; cases hnil) | assumption | simp)); (focus (first | decide | (simp; done) | (simp; omega))); (intro v H2 hs hi); (try (have hd2 := Drs.same (by assumption) hs)))
  | ((with_reducible apply r_listOf); (focus assumption); (focus (walk_at "isd")); (intro v H2 hs hi); (try (have hd2 := Drs.same (by assumption) hs)))
  | ((with_reducible apply r_ixStr); (focus assumption))
  | ((with_reducible apply r_cat (M := fun a => a = dr)); (focus (walk_at "isd")); (focus (walk_at "isd")); (focus (first | decide | (simp; done) | (simp; omega) | omega)); (intro v H2 hs hi); (try (have hd2 := Drs.same (by assumption) hs)))
  | ((with_reducible apply r_slTo (M := fun a => a = dr)); (focus (walk_at "isd")); (focus (first | decide | assumption | omega)); (intro v H2 hs hi); (try (have hd2 := Drs.same (by assumption) hs)))
  | ((with_reducible apply r_slFrom (M := fun a => a = dr)); (focus (walk_at "isd")); (focus (first | decide | assumption | omega)); (intro v H2 hs hi); (try (have hd2 := Drs.same (by assumption) hs)))
  | ((with_reducible apply r_rep (M := fun a => a = dr)); (focus (walk_at "isd")); (focus decide); (focus decide); (focus (first | (intro hnil; cases hnil) | assumption | simp)); (focus (first | decide | (simp; done) | (simp; omega))); (intro v H2 hs hi); (try (have hd2 := Drs.same (by assumption) hs)))
  | ((with_reducible apply r_listOf); (focus assumption); (focus (walk_at "isd")); (intro v H2 hs hi); (try (have hd2 := Drs.same (by assumption) hs)))
  | ((with_reducible apply r_ixStr); (focus assumption))
  | ((with_reducible apply r_cat (M := fun a => a = dr)); (focus (walk_at "isd")); (focus (walk_at "isd")); (focus (first | decide | (simp; done) | (simp; omega) | omega)); (intro v H2 hs hi); (try (have hd2 := Drs.same (by assumption) hs)))
  | ((with_reducible apply r_slTo (M := fun a => a = dr)); (focus (walk_at "isd")); (focus (first | decide | assumption | omega)); (intro v H2 hs hi); (try (have hd2 := Drs.same (by assumption) hs)))
  | ((with_reducible apply r_slFrom (M := fun a => a = dr)); (focus (walk_at "isd")); (focus (first | decide | assumption | omega)); (intro v H2 hs hi); (try (have hd2 := Drs.same (by assumption) hs)))
  | ((with_reducible apply r_rep (M := fun a => a = dr)); (focus (walk_at "isd")); (focus decide); (focus decide); (focus (first | (intro hnil; cases hnil) | assumption | simp)); (focus (first | decide | (simp; done) | (simp; omega))); (intro v H2 hs hi); (try (have hd2 := Drs.same (by assumption) hs)))
  | ((with_reducible apply r_listOf); (focus assumption); (focus (walk_at "isd")); (intro v H2 hs hi); (try (have hd2 := Drs.same (by assumption) hs)))
  | ((with_reducible apply r_ixStr); (focus assumption))
  | ((with_reducible apply r_cat (M := fun a => a = dr)); (focus (walk_at "isd")); (focus (walk_at "isd")); (focus (first | decide | (simp; omega) | omega)); (intro v H2 hs hi); (try (have hd2 := Drs.same (by assumption) hs)))
  | ((with_reducible apply r_slTo (M := fun a => a = dr)); (focus (walk_at "isd")); (focus (first | decide | assumption | omega)); (intro v H2 hs hi); (try (have hd2 := Drs.same (by assumption) hs)))
  | ((with_reducible apply r_slFrom (M := fun a => a = dr)); (focus (walk_at "isd")); (focus (first | decide | assumption | omega)); (intro v H2 hs hi); (try (have hd2 := Drs.same (by assumption) hs)))
  | ((with_reducible apply r_rep (M := fun a => a = dr)); (focus (walk_at "isd")); (focus decide); (focus decide); (focus (first | (intro hnil; cases hnil) | assumption | simp)); (focus (first | decide | (simp; omega))); (intro v H2 hs hi); (try (have hd2 := Drs.same (by assumption) hs)))
  | ((with_reducible apply r_listOf); (focus assumption); (focus (walk_at "isd")); (intro v H2 hs hi); (try (have hd2 := Drs.same (by assumption) hs)))
  | ((with_reducible apply r_ixStr); (focus assumption))
  | ((with_reducible apply r_cat (M := fun a => a = dr)); (focus (walk_at "isd")); (focus (walk_at "isd")); (focus (first | decide | (simp; omega) | omega)); (intro v H2 hs hi); (try (have hd2 := Drs.same (by assumption) hs)))
  | ((with_reducible apply r_slTo (M := fun a => a = dr)); (focus (walk_at "isd")); (focus (first | decide | assumption | omega)); (intro v H2 hs hi); (try (have hd2 := Drs.same (by assumption) hs)))
  | ((with_reducible apply r_slFrom (M := fun a => a = dr)); (focus (walk_at "isd")); (focus (first | decide | assumption | omega)); (intro v H2 hs hi); (try (have hd2 := Drs.same (by assumption) hs)))
  | ((with_reducible apply r_rep (M := fun a => a = dr)); (focus (walk_at "isd")); (focus decide); (focus decide); (focus (first | (intro hnil; cases hnil) | assumption | simp)); (focus (first | decide | (simp; omega))); (intro v H2 hs hi); (try (have hd2 := Drs.same (by assumption) hs)))
  | ((with_reducible apply r_listOf); (focus assumption); (focus (walk_at "isd")); (intro v H2 hs hi); (try (have hd2 := Drs.same (by assumption) hs)))
  | ((with_reducible apply r_ixStr); (focus assumption))
  | ((with_reducible apply r_cat (M := fun a => a = dr)); (focus (walk_at "isd")); (focus (walk_at "isd")); (focus (first | decide | (simp; omega) | omega)); (intro v H2 hs hi); (try (have hd2 := Drs.same (by assumption) hs)))
  | ((with_reducible apply r_slTo (M := fun a => a = dr)); (focus (walk_at "isd")); (focus (first | decide | assumption | omega)); (intro v H2 hs hi); (try (have hd2 := Drs.same (by assumption) hs)))
  | ((with_reducible apply r_slFrom (M := fun a => a = dr)); (focus (walk_at "isd")); (focus (first | decide | assumption | omega)); (intro v H2 hs hi); (try (have hd2 := Drs.same (by assumption) hs)))
  | ((with_reducible apply r_rep (M := fun a => a = dr)); (focus (walk_at "isd")); (focus decide); (focus decide); (focus (first | (intro hnil; cases hnil) | assumption | simp)); (focus (first | decide | (simp; omega))); (intro v H2 hs hi); (try (have hd2 := Drs.same (by assumption) hs)))
  | ((with_reducible apply r_listOf); (focus assumption); (focus (walk_at "isd")); (intro v H2 hs hi); (try (have hd2 := Drs.same (by assumption) hs)))
  | ((with_reducible apply r_ixStr); (focus assumption))
  | ((with_reducible apply r_cat (M := fun a => a = dr)); (focus (walk_at "isd")); (focus (walk_at "isd")); (focus (first | decide | (simp; omega) | omega)); (intro v H2 hs hi); (try (have hd2 := Drs.same (by assumption) hs)))
  | ((with_reducible apply r_slTo (M := fun a => a = dr)); (focus (walk_at "isd")); (focus (first | decide | assumption | omega)); (intro v H2 hs hi); (try (have hd2 := Drs.same (by assumption) hs)))
  | ((with_reducible apply r_slFrom (M := fun a => a = dr)); (focus (walk_at "isd")); (focus (first | decide | assumption | omega)); (intro v H2 hs hi); (try (have hd2 := Drs.same (by assumption) hs)))
  | ((with_reducible apply r_rep (M := fun a => a = dr)); (focus (walk_at "isd")); (focus decide); (focus decide); (focus (first | (intro hnil; cases hnil) | assumption | simp)); (focus (first | decide | (simp; omega))); (intro v H2 hs hi); (try (have hd2 := Drs.same (by assumption) hs)))
  | ((with_reducible apply r_listOf); (focus assumption); (focus (walk_at "isd")); (intro v H2 hs hi); (try (have hd2 := Drs.same (by assumption) hs)))
  | ((with_reducible apply r_ixStr); (focus assumption))
  | ((with_reducible apply r_cat (M := fun a => a = dr)); (focus (walk_at "isd")); (focus (walk_at "isd")); (focus (first | decide | (simp; omega) | omega)); (intro v H2 hs hi); (try (have hd2 := Drs.same (by assumption) hs)))
  | ((with_reducible apply r_slTo (M := fun a => a = dr)); (focus (walk_at "isd")); (focus (first | decide | assumption | omega)); (intro v H2 hs hi); (try (have hd2 := Drs.same (by assumption) hs)))
  | ((with_reducible apply r_slFrom (M := fun a => a = dr)); (focus (walk_at "isd")); (focus (first | decide | assumption | omega)); (intro v H2 hs hi); (try (have hd2 := Drs.same (by assumption) hs)))
  | ((with_reducible apply r_rep (M := fun a => a = dr)); (focus (walk_at "isd")); (focus decide); (focus decide); (focus (first | (intro hnil; cases hnil) | assumption | simp)); (focus (first | decide | (simp; omega))); (intro v H2 hs hi); (try (have hd2 := Drs.same (by assumption) hs)))
  | ((with_reducible apply r_listOf); (focus assumption); (focus (walk_at "isd")); (intro v H2 hs hi); (try (have hd2 := Drs.same (by assumption) hs)))
  | ((with_reducible apply r_ixStr); (focus assumption))
  | ((with_reducible apply r_cat (M := fun a => a = dr)); (focus (walk_at "isd")); (focus (walk_at "isd")); (focus (first | decide | (simp; omega) | omega)); (intro v H2 hs hi); (try (have hd2 := Drs.same (by assumption) hs)))
  | ((with_reducible apply r_slTo (M := fun a => a = dr)); (focus (walk_at "isd")); (focus (first | decide | assumption | omega)); (intro v H2 hs hi); (try (have hd2 := Drs.same (by assumption) hs)))
  | ((with_reducible apply r_slFrom (M := fun a => a = dr)); (focus (walk_at "isd")); (focus (first | decide | assumption | omega)); (intro v H2 hs hi); (try (have hd2 := Drs.same (by assumption) hs)))
  | ((with_reducible apply r_rep (M := fun a => a = dr)); (focus (walk_at "isd")); (focus decide); (focus decide); (focus (first | (intro hnil; cases hnil) | assumption | simp)); (focus (first | decide | (simp; omega))); (intro v H2 hs hi); (try (have hd2 := Drs.same (by assumption) hs)))
  | ((with_reducible apply r_listOf); (focus assumption); (focus (walk_at "isd")); (intro v H2 hs hi); (try (have hd2 := Drs.same (by assumption) hs)))
  | ((with_reducible apply r_ixStr); (focus assumption))
  | ((with_reducible apply r_cat (M := fun a => a = dr)); (focus (walk_at "isd")); (focus (walk_at "isd")); (focus (first | decide | (simp; omega) | omega)); (intro v H2 hs hi); (try (have hd2 := Drs.same (by assumption) hs)))
  | ((with_reducible apply r_slTo (M := fun a => a = dr)); (focus (walk_at "isd")); (focus (first | decide | assumption | omega)); (intro v H2 hs hi); (try (have hd2 := Drs.same (by assumption) hs)))
  | ((with_reducible apply r_slFrom (M := fun a => a = dr)); (focus (walk_at "isd")); (focus (first | decide | assumption | omega)); (intro v H2 hs hi); (try (have hd2 := Drs.same (by assumption) hs)))
  | ((with_reducible apply r_rep (M := fun a => a = dr)); (focus (walk_at "isd")); (focus decide); (focus decide); (focus (first | (intro hnil; cases hnil) | assumption | simp)); (focus (first | decide | (simp; omega))); (intro v H2 hs hi); (try (have hd2 := Drs.same (by assumption) hs)))
  | ((with_reducible apply r_listOf); (focus assumption); (focus (walk_at "isd")); (intro v H2 hs hi); (try (have hd2 := Drs.same (by assumption) hs)))
  | ((with_reducible apply r_ixStr); (focus assumption))
  | ((with_reducible apply r_cat (M := fun a => a = dr)); (focus (walk_at "isd")); (focus (walk_at "isd")); (focus (first | decide | (simp; omega) | omega)); (intro v H2 hs hi); (try (have hd2 := Drs.same (by assumption) hs)))
  | ((with_reducible apply r_slTo (M := fun a => a = dr)); (focus (walk_at "isd")); (focus (first | decide | assumption | omega)); (intro v H2 hs hi); (try (have hd2 := Drs.same (by assumption) hs)))
  | ((with_reducible apply r_slFrom (M := fun a => a = dr)); (focus (walk_at "isd")); (focus (first | decide | assumption | omega)); (intro v H2 hs hi); (try (have hd2 := Drs.same (by assumption) hs)))
  | ((with_reducible apply r_rep (M := fun a => a = dr)); (focus (walk_at "isd")); (focus decide); (focus decide); (focus (first | (intro hnil; cases hnil) | assumption | simp)); (focus (first | decide | (simp; omega))); (intro v H2 hs hi); (try (have hd2 := Drs.same (by assumption) hs)))
  | ((with_reducible apply r_listOf); (focus assumption); (focus (walk_at "isd")); (intro v H2 hs hi); (try (have hd2 := Drs.same (by assumption) hs)))
  | ((with_reducible apply r_ixStr); (focus assumption))
  | ((with_reducible apply r_lenL); (focus (walk_at "hat")))
  | ((with_reducible apply r_setL); (focus (walk_at "hat")); (focus ((with_unfolding_all rfl); done)); (intro H2 hk hl))
  | ((with_reducible apply r_ixMk); (focus (walk_at "hat")); (focus (assumption)); (focus assumption); (focus ((simp only [List.length_cons, List.length_nil]); decide)))
  | ((with_reducible apply r_ixI); (focus (walk_at "hat")); (focus (omega)); (focus (omega)); (intro n hn))
  | ((with_reducible apply r_mixed); (intro n hn0 hn1))
  | ((with_reducible apply r_lenP); (focus (walk_at "isd")))
  | ((with_reducible apply r_ixP); (focus (walk_at "isd")); (focus assumption); (focus assumption); (intro j pp u hj hp hu))
  | ((with_reducible apply r_ixP1); (focus assumption))
  | ((with_reducible apply r_ixL); (focus (walk_at "hat")); (focus ((with_unfolding_all rfl); done)))
  | (with_reducible refine r_memc ?_ ?_) | (with_reducible exact r_memn)))
local macro_rules | `(tactic| walk_at "go") => `(tactic| (repeat' (first | walk_at "rd" | walk_at "al")))

section
variable {K : PySem.W.Frag} {P : Program} {mg : Str → Option Value} {w : World} {base : Heap}
def sp_law (K : PySem.W.Frag) : Sp := fun vs H Q _ => ∃ (a : Addr) (cells : List Int), vs = [.ref a] ∧ SqL K H a (cells.map V.int) ∧ cells.length ≤ 63 ∧ ∀ H', Q (.bl true) H'
theorem good_ok {ps : Pl} {locks : Int} {cs ts : List PyData} (h : GoodP 8 ps locks cs ts) : okP (progD ps locks cs ts) = true := by
  have a := h.pl
  have b := h.l0
  have b1 := h.l1
  have c := h.c0
  have c1 := h.c1
  have d := h.t0
  have d1 := h.t1
  show (okTup 0 4 okVar (.tuple (ps.map placeD)) && (isInt 0 2 (.int locks) && (okTup 1 6 (okCode (plOf (.tuple (ps.map placeD))) locks cs.length) (.tuple cs) && okTup 1 4 (okThread cs.length) (.tuple ts)))) = true
  simp only [Bool.and_eq_true]
  have e3 : plOf (.tuple (ps.map placeD)) = ps := plOf_places ps
  rw [e3]
  refine ⟨Bool.and_eq_true _ _ |>.mpr ⟨decide_eq_true (by rw [List.length_map]; omega), List.all_eq_true.mpr fun x hx => ?_⟩, by simp [isInt]; omega, Bool.and_eq_true _ _ |>.mpr ⟨decide_eq_true (by omega), List.all_eq_true.mpr fun x hx => ?_⟩, Bool.and_eq_true _ _ |>.mpr ⟨decide_eq_true (by omega), List.all_eq_true.mpr fun x hx => ?_⟩⟩
  · obtain ⟨q, hq, rfl⟩ := List.mem_map.mp hx
    have := h.pv q hq
    show isInt (-999) 999 (.int q.1) = true
    simp [isInt]; omega
  · obtain ⟨is, rfl, hl, hi⟩ := (h.cg x hx).ex
    exact Bool.and_eq_true _ _ |>.mpr ⟨decide_eq_true (by omega), List.all_eq_true.mpr fun y hy => hi y hy⟩
  · obtain ⟨k, v, rfl, k0, k1, v0, v1⟩ := (h.tg x hx).ex
    show (isInt 0 ((cs.length : Int) - 1) (.int k) && isInt (-999) 999 (.int v)) = true
    simp [isInt]; omega
def fullD : PyData := .tuple
      [PyData.tuple (List.replicate (Int.toNat 4) [PyData.tuple [PyData.int (-999), PyData.bool true]]).flatten,
        PyData.int 2,
        PyData.tuple
          (List.replicate (Int.toNat 6)
              [PyData.tuple
                  ((List.replicate (Int.toNat 15) [PyData.tuple [PyData.str (Str.ofString "fence")]]).flatten ++
                    [PyData.tuple [PyData.str (Str.ofString "jump"), PyData.int 16]])]).flatten,
        PyData.tuple
          [PyData.tuple [PyData.int 5, PyData.int 999], PyData.tuple [PyData.int 0, PyData.int (-999)],
            PyData.tuple [PyData.int 1, PyData.int 0], PyData.tuple [PyData.int 2, PyData.int 0]]]
theorem full_ok : okP fullD = true := by decide +kernel
theorem run_law (T : Txt K mg) (T2 : Txt2 K w mg) (T3 : Txt3 K mg T2.C) {A : Around} (hg : A.guards = some []) : EWG.RunAt P w K mg base 7 A T.f_law T.d_law ["script"] (sp_law K) := by
  have G_law_numbers : FnOk P w K mg base CX0 2 T.f_law_numbers T.d_law_numbers ["script"] (sp_numbers K) := ok_numbers T
  have G_law_program : FnOk P w K mg base CX0 5 T.f_law_program T.d_law_program ["draws", "most"] sp_program := ok_program T
  have G_law_is_program : FnOk P w K mg base CX0 5 T.f_law_is_program T.d_law_is_program ["value"] sp_isprog := ok_isprog T T2 T3
  have G_law_spoilt : FnOk P w K mg base CX0 4 T.f_law_spoilt T.d_law_spoilt ["draws", "program"] sp_spoilt := ok_spoilt T
  refine EWG.run_at T.F_law sc_law (fun vs H Q E h => ?_) (fun cdv outer s H vs Q E hr h => ?_)
  · obtain ⟨_, _, rfl, _⟩ := h
    rfl
  · obtain ⟨a, cells, rfl, hS, hl, q⟩ := h
    have nd := sc_law.nd
    have hun : _ + 20 < cLine := Nat.lt_of_le_of_lt (Nat.add_le_add_left (by decide : 20 ≤ 16 * 6 + 200) _) (Nat.add_assoc .. ▸ hr.un)
    refine ⟨_, (pss_cons (ps_set (i := 1) nd rfl (.inl rfl) (pe_lst (pa_cons (pe_call G_law_numbers (hr.mono (by decide)) (by rfl) T.m_law_numbers T.F_law_numbers.kp T.b_law_numbers .nil pass0 (pa_cons (pv 0) pa_nil)) (pa_cons pe_int pa_nil))))
      (pss_cons (ps_set (i := 2) nd rfl (.inl rfl) (pe_call G_law_program (hr.mono (by decide)) (by rfl) T.m_law_program T.F_law_program.kp T.b_law_program .nil pass0 (pa_cons (pv 1) (pa_cons pe_int pa_nil))))
      (pss_cons (ps_if (pt_cmpR op_isnot_bl (pe_call G_law_is_program (hr.mono (by decide)) (by rfl) T.m_law_is_program T.F_law_is_program.kp T.b_law_is_program .nil pass0 (pa_cons (pv 2) pa_nil)) pe_bl (nomark _)) (pss_one (ps_ret pe_bl)) pss_nil)
      (pss_cons (ps_set (i := 3) nd rfl (.inl rfl) (pe_tup (pa_cons (pe_op op_repT (pe_tup (pa_cons (pe_tup (pa_cons (pe_un un_neg pe_int) (pa_cons pe_bl pa_nil))) pa_nil)) pe_int) (pa_cons pe_int (pa_cons (pe_op op_repT (pe_tup (pa_cons (pe_op op_catA (pe_op op_repT (pe_tup (pa_cons (pe_tup (pa_cons pe_str pa_nil)) pa_nil)) pe_int) (pe_tup (pa_cons (pe_tup (pa_cons pe_str (pa_cons pe_int pa_nil))) pa_nil))) pa_nil)) pe_int) (pa_cons (pe_tup (pa_cons (pe_tup (pa_cons pe_int (pa_cons pe_int pa_nil))) (pa_cons (pe_tup (pa_cons pe_int (pa_cons (pe_un un_neg pe_int) pa_nil))) (pa_cons (pe_tup (pa_cons pe_int (pa_cons pe_int pa_nil))) (pa_cons (pe_tup (pa_cons pe_int (pa_cons pe_int pa_nil))) pa_nil))))) pa_nil))))))
      (pss_cons (ps_if (pt_cmpR op_isnot_bl (pe_call G_law_is_program (hr.mono (by decide)) (by rfl) T.m_law_is_program T.F_law_is_program.kp T.b_law_is_program .nil pass0 (pa_cons (pv 3) pa_nil)) pe_bl (nomark _)) (pss_one (ps_ret pe_bl)) pss_nil)
      (pss_cons (ps_set (i := 4) nd rfl (.inl rfl) (pe_call G_law_spoilt (hr.mono (by decide)) (by rfl) T.m_law_spoilt T.F_law_spoilt.kp T.b_law_spoilt .nil pass0 (pa_cons (pv 1) (pa_cons (pv 2) pa_nil))))
      (pss_cons (ps_set (i := 5) nd rfl (.inl rfl) (pe_callTy (call_strD (show _ = _ from hg) hun) (by rfl) T.m_str (by decide +kernel) (pa_cons (pv 4) pa_nil)))
      (pss_one (ps_ret (pe_and (pe_cmpR op_is_bl (pe_call G_law_is_program (hr.mono (by decide)) (by rfl) T.m_law_is_program T.F_law_is_program.kp T.b_law_is_program .nil pass0 (pa_cons (pv 4) pa_nil)) pe_bl (nomark _)) (pe_one (pe_cmpR op_eq (pe_callTy (call_strD (show _ = _ from hg) hun) (by rfl) T.m_str (by decide +kernel) (pa_cons (pv 4) pa_nil)) (pv 5) (nomark _))))))))))))), ?_⟩
    walk_at "go"
    refine ⟨a, cells, rfl, hS, hl, fun nu ns H1 s1 hf hnu hnn => ?_⟩
    walk_at "go"
    obtain ⟨dr, hdr⟩ : ∃ d, d = p := ⟨p, rfl⟩
    subst hdr
    have hD : Drs dr nu H2 := ⟨0, ns, hl, Int.le_refl 0, same_get hs hnu, hnn⟩
    refine ⟨dr, nu, 8, rfl, hD, by decide, by decide, fun ps locks cs ts vp H3 hP hG k3 hD3 => ?_⟩
    walk_at "go"
    refine ⟨fun _ => True, _, vp, rfl, hP, fun H4 s4 => ?_⟩
    rw [good_ok hG]
    have hD4 := hD3.same s4
    have hP4 := Is.keep2 hP (KeepM.same s4)
    clear hS hf hnu hnn hn hs hl hD k3 hD3 hP s1
    walk_at "go"
    refine ⟨true, true, rfl, rfl, ?_⟩
    walk_at "go"
    · exact absurd rfl h
    refine ⟨fun a => a = dr, fullD, _, rfl, hi, fun H5 s5 => ?_⟩
    rw [full_ok]
    have hD5 := hd2.same s5
    have hP5 : Is (fun _ => True) H5 (progD ps locks cs ts) vp := Is.keep2 hP4 (by walk_at "km")
    clear hi hd2 hs hP4 hD4
    walk_at "go"
    refine ⟨true, true, rfl, rfl, ?_⟩
    walk_at "go"
    · exact absurd rfl h
    refine ⟨dr, nu, vp, ps, locks, cs, ts, rfl, hD5, hP5, hG, fun d u H6 hI hno hT k6 hD6 => ?_⟩
    walk_at "go"
    refine ⟨_, d, u, rfl, hI, hT.sm, hT.ref hI, ?_⟩
    walk_at "go"
    refine ⟨_, d, u, rfl, hI, fun H7 s7 => ?_⟩
    rw [hno]
    walk_at "go"
    refine ⟨false, false, rfl, rfl, ?_⟩
    walk_at "go"
    rotate_left
    · exact absurd rfl h
    refine ⟨_, d, u, rfl, Is.keep2 hI (KeepM.same s7), hT.sm, hT.ref hI, ?_⟩
    walk_at "go"
    show Q (V.bl (decide (d.shown = d.shown))) H7
    rw [decide_eq_true rfl]
    exact q _
end
end EW
set_option Elab.async false
set_option linter.all false
set_option maxRecDepth 100000
set_option maxHeartbeats 16000000
namespace EW
open L2 PyProof.Rows PySem.Spec PySem
/-! ### the end: what the top has left -/
/-- the entries of a table of shapes, as the top has written them -/
def EntOf : List DictEntry → List (Str × List Sh) → Prop
  | [], [] => True
  | e :: r, (k, s) :: q => (∃ t u, e.key = .str k t ∧ e.val = .str (shStr s) u) ∧ EntOf r q
  | _, _ => False
theorem EntOf.noref : ∀ {es : List DictEntry} {tab : List (Str × List Sh)}, EntOf es tab → es.any (·.refKey) = false
  | [], [], _ => rfl
  | e :: r, (k, s) :: q, ⟨⟨t, u, h1, _⟩, h⟩ => by
    rw [List.any_cons, EntOf.noref h, Bool.or_false]
    unfold DictEntry.refKey
    rw [h1]
theorem EntOf.find : ∀ {es : List DictEntry} {tab : List (Str × List Sh)} (z : Str), EntOf es tab →
    (tab.lookup z = none → es.find? (·.key.isStr z) = none) ∧ ∀ sh, tab.lookup z = some sh → ∃ e t, es.find? (·.key.isStr z) = some e ∧ e.val = .str (shStr sh) t
  | [], [], z, _ => ⟨fun _ => rfl, fun sh h => (nomatch h)⟩
  | e :: r, (k, s) :: q, z, ⟨⟨t, u, h1, h2⟩, h⟩ => by
    have ih := EntOf.find z h
    have hk : e.key.isStr z = (z == k) := by
      rw [PySem.W.isStr_of, h1]
      cases q : (z == k) with
      | true =>
        have e := eq_of_beq q
        subst e
        exact decide_eq_true rfl
      | false =>
        have ne : ¬ k = z := fun e => by
          subst e
          rw [beq_self_eq_true] at q
          cases q
        exact decide_eq_false ne
    rw [List.find?_cons, List.lookup_cons, hk]
    cases zk : (z == k) with
    | true => exact ⟨fun h => (nomatch h), fun sh h => ⟨e, u, rfl, by cases h; exact h2⟩⟩
    | false => exact ih
theorem dic_of {K : PySem.W.Frag} {w : World} {mg : Str → Option Value} {name : Str} {tab : List (Str × List Sh)} {d : Addr} {es : Array DictEntry} {n : Nat} (m : mg name = some (.ref d)) (l : K.lookup d = some ⟨.type "dict", none, .dict es n, #[]⟩)
    (lit : PySem.W.KeysLit w.params es.toList) (low : (d == sysModules) = false) (en : EntOf es.toList tab) : Nonempty (Dic K w mg name tab) := by
  refine ⟨⟨d, es, n, ⟨l, lit, low⟩, m, fun z => ?_⟩⟩
  obtain ⟨g1, g2⟩ := en.find z
  unfold PySem.W.nsIn
  rw [l]
  dsimp only
  cases q : tab.lookup z with
  | none =>
    rw [g1 q, en.noref]
    exact ⟨none, rfl, fun _ => rfl, fun _ h => (nomatch h)⟩
  | some sh =>
    obtain ⟨e, t, h1, h2⟩ := g2 sh q
    rw [h1]
    exact ⟨some e.val, rfl, fun h => (nomatch h), fun s hs => ⟨t, by cases hs; rw [h2]⟩⟩
theorem kit_yes {K : PySem.W.Frag} {C D : Addr} (h1 : PySem.W.isClsIn K D = true) (h2 : PySem.W.typeIn K (.ref D) = some (.type "type")) (h3 : PySem.W.subIn K (.ref C) (.ref D) = some true) : PySem.W.kitOne K (.ref C) (.ref D) = some true := by
  have e : ((PySem.W.clsIn K D).isSome && PySem.W.typeIn K (.ref D) == some (.type "type")) = true := by
    rw [show (PySem.W.clsIn K D).isSome = true from h1, h2]; rfl
  unfold PySem.W.kitOne PySem.W.kitCls
  dsimp only
  rw [if_pos e, h3, ite_self]
theorem kit_not {K : PySem.W.Frag} {C D : Addr} (h0 : PySem.W.subIn K (.ref C) (.ref C) = some true) (h1 : PySem.W.isClsIn K D = true) (h2 : PySem.W.typeIn K (.ref D) = some (.type "type")) (h3 : PySem.W.subIn K (.ref C) (.ref D) = some false) : PySem.W.kitOne K (.ref C) (.ref D) = some false := by
  have e : ((PySem.W.clsIn K D).isSome && PySem.W.typeIn K (.ref D) == some (.type "type")) = true := by
    rw [show (PySem.W.clsIn K D).isSome = true from h1, h2]; rfl
  have ne : ¬ ((Value.ref C == Value.ref D) = true) := fun z => by
    have z2 : C = D := by
      have := eq_of_beq z
      injection this
    subst z2
    rw [h0] at h3
    cases h3
  unfold PySem.W.kitOne PySem.W.kitCls
  dsimp only
  rw [if_neg ne, if_pos e, h3]
theorem kit_val {K : PySem.W.Frag} {C : Addr} (h3 : PySem.W.subIn K (.ref C) (.type "ValueError") = some true) : PySem.W.kitOne K (.ref C) (.type "ValueError") = some true := by
  unfold PySem.W.kitOne PySem.W.kitCls
  dsimp only
  rw [if_pos (by decide +kernel : PySem.W.kitMeta "ValueError" = true), h3, ite_self]
theorem kit_any {K : PySem.W.Frag} {C : Addr} : ∀ {l : List Value}, (∀ v ∈ l, PySem.W.kitOne K (.ref C) v = some false) → PySem.W.kitAny K (.ref C) l = some false
  | [], _ => rfl
  | v :: r, h => by
    unfold PySem.W.kitAny
    rw [h v List.mem_cons_self]
    exact kit_any fun u hu => h u (List.mem_cons_of_mem _ hu)
theorem exm_me {K : PySem.W.Frag} {S : Addr} (h1 : PySem.W.subIn K (.ref S) (.type "BaseException") = some true) (h2 : PySem.W.isClsIn K S = true) (h3 : PySem.W.typeIn K (.ref S) = some (.type "type")) (h4 : PySem.W.subIn K (.ref S) (.ref S) = some true) : PySem.W.exmOne K (.ref S) (.ref S) = some true := by
  have e1 : (PySem.W.subIn K (.ref S) (.type "BaseException") == some true) = true := by rw [h1]; rfl
  have q2 : ((PySem.W.clsIn K S).isSome && PySem.W.typeIn K (.ref S) == some (.type "type")) = true := by
    rw [show (PySem.W.clsIn K S).isSome = true from h2, h3]; rfl
  unfold PySem.W.exmOne PySem.W.kitCls
  dsimp only
  rw [if_pos e1, if_pos q2, h4]
theorem txt_mk {K : PySem.W.Frag} {h : Heap} {mg : Str → Option Value} (X : K.In h) (G : h.Ns mainGlobals mg)
    {f0 : Addr} {od0 an0 : Option Addr} {sl0 : Array (Option Value)} {oc0 kV0 dc0 pm0 cd0 ct0 : Value} {f1 : Addr} {od1 an1 : Option Addr} {sl1 : Array (Option Value)} {oc1 kV1 dc1 pm1 cd1 ct1 : Value} {f2 : Addr} {od2 an2 : Option Addr} {sl2 : Array (Option Value)} {oc2 kV2 dc2 pm2 cd2 ct2 : Value} {f3 : Addr} {od3 an3 : Option Addr} {sl3 : Array (Option Value)} {oc3 kV3 dc3 pm3 cd3 ct3 : Value} {f4 : Addr} {od4 an4 : Option Addr} {sl4 : Array (Option Value)} {oc4 kV4 dc4 pm4 cd4 ct4 : Value} {f5 : Addr} {od5 an5 : Option Addr} {sl5 : Array (Option Value)} {oc5 kV5 dc5 pm5 cd5 ct5 : Value} {f6 : Addr} {od6 an6 : Option Addr} {sl6 : Array (Option Value)} {oc6 kV6 dc6 pm6 cd6 ct6 : Value} {f7 : Addr} {od7 an7 : Option Addr} {sl7 : Array (Option Value)} {oc7 kV7 dc7 pm7 cd7 ct7 : Value} {f8 : Addr} {od8 an8 : Option Addr} {sl8 : Array (Option Value)} {oc8 kV8 dc8 pm8 cd8 ct8 : Value} {f9 : Addr} {od9 an9 : Option Addr} {sl9 : Array (Option Value)} {oc9 kV9 dc9 pm9 cd9 ct9 : Value} {f10 : Addr} {od10 an10 : Option Addr} {sl10 : Array (Option Value)} {oc10 kV10 dc10 pm10 cd10 ct10 : Value} {f11 : Addr} {od11 an11 : Option Addr} {sl11 : Array (Option Value)} {oc11 kV11 dc11 pm11 cd11 ct11 : Value} {f12 : Addr} {od12 an12 : Option Addr} {sl12 : Array (Option Value)} {oc12 kV12 dc12 pm12 cd12 ct12 : Value} {f13 : Addr} {od13 an13 : Option Addr} {sl13 : Array (Option Value)} {oc13 kV13 dc13 pm13 cd13 ct13 : Value} {f14 : Addr} {od14 an14 : Option Addr} {sl14 : Array (Option Value)} {oc14 kV14 dc14 pm14 cd14 ct14 : Value} {f15 : Addr} {od15 an15 : Option Addr} {sl15 : Array (Option Value)} {oc15 kV15 dc15 pm15 cd15 ct15 : Value} {f16 : Addr} {od16 an16 : Option Addr} {sl16 : Array (Option Value)} {oc16 kV16 dc16 pm16 cd16 ct16 : Value} {f17 : Addr} {od17 an17 : Option Addr} {sl17 : Array (Option Value)} {oc17 kV17 dc17 pm17 cd17 ct17 : Value} {f18 : Addr} {od18 an18 : Option Addr} {sl18 : Array (Option Value)} {oc18 kV18 dc18 pm18 cd18 ct18 : Value} {tk0 : Tok} {tk1 : Tok} {tk2 : Tok}
    (a0 : PySem.W.nsIn K mainGlobals "is_integer" = some (some (.ref f0)))
    (l0 : K.lookup f0 = some ⟨oc0, od0, .func (PySem.W.fnOf "is_integer" "is_integer" (defArgs s_is_integer) (defBody s_is_integer) (defScope s_is_integer) .none kV0 dc0 pm0 an0 cd0 ct0), sl0⟩)
    (c0 : PySem.W.codeIn K cd0 "is_integer" = true)
    (k0 : PySem.W.keepIn K (.ref f0) = true)
    (a1 : PySem.W.nsIn K mainGlobals "is_value" = some (some (.ref f1)))
    (l1 : K.lookup f1 = some ⟨oc1, od1, .func (PySem.W.fnOf "is_value" "is_value" (defArgs s_is_value) (defBody s_is_value) (defScope s_is_value) .none kV1 dc1 pm1 an1 cd1 ct1), sl1⟩)
    (c1 : PySem.W.codeIn K cd1 "is_value" = true)
    (k1 : PySem.W.keepIn K (.ref f1) = true)
    (a2 : PySem.W.nsIn K mainGlobals "is_row" = some (some (.ref f2)))
    (l2 : K.lookup f2 = some ⟨oc2, od2, .func (PySem.W.fnOf "is_row" "is_row" (defArgs s_is_row) (defBody s_is_row) (defScope s_is_row) .none kV2 dc2 pm2 an2 cd2 ct2), sl2⟩)
    (c2 : PySem.W.codeIn K cd2 "is_row" = true)
    (k2 : PySem.W.keepIn K (.ref f2) = true)
    (a3 : PySem.W.nsIn K mainGlobals "check_program" = some (some (.ref f3)))
    (l3 : K.lookup f3 = some ⟨oc3, od3, .func (PySem.W.fnOf "check_program" "check_program" (defArgs s_check_program) (defBody s_check_program) (defScope s_check_program) .none kV3 dc3 pm3 an3 cd3 ct3), sl3⟩)
    (c3 : PySem.W.codeIn K cd3 "check_program" = true)
    (k3 : PySem.W.keepIn K (.ref f3) = true)
    (a4 : PySem.W.nsIn K mainGlobals "check_variables" = some (some (.ref f4)))
    (l4 : K.lookup f4 = some ⟨oc4, od4, .func (PySem.W.fnOf "check_variables" "check_variables" (defArgs s_check_variables) (defBody s_check_variables) (defScope s_check_variables) .none kV4 dc4 pm4 an4 cd4 ct4), sl4⟩)
    (c4 : PySem.W.codeIn K cd4 "check_variables" = true)
    (k4 : PySem.W.keepIn K (.ref f4) = true)
    (a5 : PySem.W.nsIn K mainGlobals "check_threads" = some (some (.ref f5)))
    (l5 : K.lookup f5 = some ⟨oc5, od5, .func (PySem.W.fnOf "check_threads" "check_threads" (defArgs s_check_threads) (defBody s_check_threads) (defScope s_check_threads) .none kV5 dc5 pm5 an5 cd5 ct5), sl5⟩)
    (c5 : PySem.W.codeIn K cd5 "check_threads" = true)
    (k5 : PySem.W.keepIn K (.ref f5) = true)
    (a6 : PySem.W.nsIn K mainGlobals "check_code" = some (some (.ref f6)))
    (l6 : K.lookup f6 = some ⟨oc6, od6, .func (PySem.W.fnOf "check_code" "check_code" (defArgs s_check_code) (defBody s_check_code) (defScope s_check_code) .none kV6 dc6 pm6 an6 cd6 ct6), sl6⟩)
    (c6 : PySem.W.codeIn K cd6 "check_code" = true)
    (k6 : PySem.W.keepIn K (.ref f6) = true)
    (a7 : PySem.W.nsIn K mainGlobals "check_instruction" = some (some (.ref f7)))
    (l7 : K.lookup f7 = some ⟨oc7, od7, .func (PySem.W.fnOf "check_instruction" "check_instruction" (defArgs s_check_instruction) (defBody s_check_instruction) (defScope s_check_instruction) .none kV7 dc7 pm7 an7 cd7 ct7), sl7⟩)
    (c7 : PySem.W.codeIn K cd7 "check_instruction" = true)
    (k7 : PySem.W.keepIn K (.ref f7) = true)
    (a8 : PySem.W.nsIn K mainGlobals "shape_of" = some (some (.ref f8)))
    (l8 : K.lookup f8 = some ⟨oc8, od8, .func (PySem.W.fnOf "shape_of" "shape_of" (defArgs s_shape_of) (defBody s_shape_of) (defScope s_shape_of) .none kV8 dc8 pm8 an8 cd8 ct8), sl8⟩)
    (c8 : PySem.W.codeIn K cd8 "shape_of" = true)
    (k8 : PySem.W.keepIn K (.ref f8) = true)
    (a9 : PySem.W.nsIn K mainGlobals "_law_mixed" = some (some (.ref f9)))
    (l9 : K.lookup f9 = some ⟨oc9, od9, .func (PySem.W.fnOf "_law_mixed" "_law_mixed" (defArgs s_law_mixed) (defBody s_law_mixed) (defScope s_law_mixed) .none kV9 dc9 pm9 an9 cd9 ct9), sl9⟩)
    (c9 : PySem.W.codeIn K cd9 "_law_mixed" = true)
    (k9 : PySem.W.keepIn K (.ref f9) = true)
    (a10 : PySem.W.nsIn K mainGlobals "_law_numbers" = some (some (.ref f10)))
    (l10 : K.lookup f10 = some ⟨oc10, od10, .func (PySem.W.fnOf "_law_numbers" "_law_numbers" (defArgs s_law_numbers) (defBody s_law_numbers) (defScope s_law_numbers) .none kV10 dc10 pm10 an10 cd10 ct10), sl10⟩)
    (c10 : PySem.W.codeIn K cd10 "_law_numbers" = true)
    (k10 : PySem.W.keepIn K (.ref f10) = true)
    (a11 : PySem.W.nsIn K mainGlobals "_law_draw" = some (some (.ref f11)))
    (l11 : K.lookup f11 = some ⟨oc11, od11, .func (PySem.W.fnOf "_law_draw" "_law_draw" (defArgs s_law_draw) (defBody s_law_draw) (defScope s_law_draw) .none kV11 dc11 pm11 an11 cd11 ct11), sl11⟩)
    (c11 : PySem.W.codeIn K cd11 "_law_draw" = true)
    (k11 : PySem.W.keepIn K (.ref f11) = true)
    (a12 : PySem.W.nsIn K mainGlobals "_law_local" = some (some (.ref f12)))
    (l12 : K.lookup f12 = some ⟨oc12, od12, .func (PySem.W.fnOf "_law_local" "_law_local" (defArgs s_law_local) (defBody s_law_local) (defScope s_law_local) .none kV12 dc12 pm12 an12 cd12 ct12), sl12⟩)
    (c12 : PySem.W.codeIn K cd12 "_law_local" = true)
    (k12 : PySem.W.keepIn K (.ref f12) = true)
    (a13 : PySem.W.nsIn K mainGlobals "_law_visible" = some (some (.ref f13)))
    (l13 : K.lookup f13 = some ⟨oc13, od13, .func (PySem.W.fnOf "_law_visible" "_law_visible" (defArgs s_law_visible) (defBody s_law_visible) (defScope s_law_visible) .none kV13 dc13 pm13 an13 cd13 ct13), sl13⟩)
    (c13 : PySem.W.codeIn K cd13 "_law_visible" = true)
    (k13 : PySem.W.keepIn K (.ref f13) = true)
    (a14 : PySem.W.nsIn K mainGlobals "_law_program" = some (some (.ref f14)))
    (l14 : K.lookup f14 = some ⟨oc14, od14, .func (PySem.W.fnOf "_law_program" "_law_program" (defArgs s_law_program) (defBody s_law_program) (defScope s_law_program) .none kV14 dc14 pm14 an14 cd14 ct14), sl14⟩)
    (c14 : PySem.W.codeIn K cd14 "_law_program" = true)
    (k14 : PySem.W.keepIn K (.ref f14) = true)
    (a15 : PySem.W.nsIn K mainGlobals "_law_bad_instruction" = some (some (.ref f15)))
    (l15 : K.lookup f15 = some ⟨oc15, od15, .func (PySem.W.fnOf "_law_bad_instruction" "_law_bad_instruction" (defArgs s_law_bad_instruction) (defBody s_law_bad_instruction) (defScope s_law_bad_instruction) .none kV15 dc15 pm15 an15 cd15 ct15), sl15⟩)
    (c15 : PySem.W.codeIn K cd15 "_law_bad_instruction" = true)
    (k15 : PySem.W.keepIn K (.ref f15) = true)
    (a16 : PySem.W.nsIn K mainGlobals "_law_spoilt" = some (some (.ref f16)))
    (l16 : K.lookup f16 = some ⟨oc16, od16, .func (PySem.W.fnOf "_law_spoilt" "_law_spoilt" (defArgs s_law_spoilt) (defBody s_law_spoilt) (defScope s_law_spoilt) .none kV16 dc16 pm16 an16 cd16 ct16), sl16⟩)
    (c16 : PySem.W.codeIn K cd16 "_law_spoilt" = true)
    (k16 : PySem.W.keepIn K (.ref f16) = true)
    (a17 : PySem.W.nsIn K mainGlobals "_law_is_program" = some (some (.ref f17)))
    (l17 : K.lookup f17 = some ⟨oc17, od17, .func (PySem.W.fnOf "_law_is_program" "_law_is_program" (defArgs s_law_is_program) (defBody s_law_is_program) (defScope s_law_is_program) .none kV17 dc17 pm17 an17 cd17 ct17), sl17⟩)
    (c17 : PySem.W.codeIn K cd17 "_law_is_program" = true)
    (k17 : PySem.W.keepIn K (.ref f17) = true)
    (a18 : PySem.W.nsIn K mainGlobals "law" = some (some (.ref f18)))
    (l18 : K.lookup f18 = some ⟨oc18, od18, .func (PySem.W.fnOf "law" "law" (defArgs s_law) (defBody s_law) (defScope s_law) .none kV18 dc18 pm18 an18 cd18 ct18), sl18⟩)
    (c18 : PySem.W.codeIn K cd18 "law" = true)
    (k18 : PySem.W.keepIn K (.ref f18) = true)
    (z0 : PySem.W.nsIn K mainGlobals "len" = some none)
    (z1 : PySem.W.nsIn K mainGlobals "tuple" = some none)
    (z2 : PySem.W.nsIn K mainGlobals "list" = some none)
    (z3 : PySem.W.nsIn K mainGlobals "range" = some none)
    (z4 : PySem.W.nsIn K mainGlobals "zip" = some none)
    (z5 : PySem.W.nsIn K mainGlobals "str" = some none)
    (z6 : PySem.W.nsIn K mainGlobals "type" = some none)
    (z7 : PySem.W.nsIn K mainGlobals "isinstance" = some none)
    (z8 : PySem.W.nsIn K mainGlobals "ValueError" = some none)
    (z9 : PySem.W.nsIn K mainGlobals "int" = some none)
    (z10 : PySem.W.nsIn K mainGlobals "bool" = some none)
    (i0 : PySem.W.nsIn K mainGlobals "LEAST_VALUE" = some (some (.int (-999) tk0)))
    (i1 : PySem.W.nsIn K mainGlobals "GREATEST_VALUE" = some (some (.int (999) tk1)))
    (i2 : PySem.W.nsIn K mainGlobals "REGISTERS" = some (some (.int (4) tk2))) :
    ∃ T : Txt K mg, (∀ (s : Shared) (v : Value), BindsTo s T.d_law ⟨[v], []⟩ [("script", v)]) := by
  have F0 := fun_mk (st := s_is_integer) l0 c0 k0
  have F1 := fun_mk (st := s_is_value) l1 c1 k1
  have F2 := fun_mk (st := s_is_row) l2 c2 k2
  have F3 := fun_mk (st := s_check_program) l3 c3 k3
  have F4 := fun_mk (st := s_check_variables) l4 c4 k4
  have F5 := fun_mk (st := s_check_threads) l5 c5 k5
  have F6 := fun_mk (st := s_check_code) l6 c6 k6
  have F7 := fun_mk (st := s_check_instruction) l7 c7 k7
  have F8 := fun_mk (st := s_shape_of) l8 c8 k8
  have F9 := fun_mk (st := s_law_mixed) l9 c9 k9
  have F10 := fun_mk (st := s_law_numbers) l10 c10 k10
  have F11 := fun_mk (st := s_law_draw) l11 c11 k11
  have F12 := fun_mk (st := s_law_local) l12 c12 k12
  have F13 := fun_mk (st := s_law_visible) l13 c13 k13
  have F14 := fun_mk (st := s_law_program) l14 c14 k14
  have F15 := fun_mk (st := s_law_bad_instruction) l15 c15 k15
  have F16 := fun_mk (st := s_law_spoilt) l16 c16 k16
  have F17 := fun_mk (st := s_law_is_program) l17 c17 k17
  have F18 := fun_mk (st := s_law) l18 c18 k18
  exact ⟨{ f_is_integer := f0, d_is_integer := _, F_is_integer := F0, b_is_integer := F0.binds (ps := ["number", "least", "greatest"]) (fun _ _ _ _ _ _ us hl => match us, hl with | [_, _, _], _ => rfl), m_is_integer := PySem.W.mg_of X G a0, f_is_value := f1, d_is_value := _, F_is_value := F1, b_is_value := F1.binds (ps := ["number"]) (fun _ _ _ _ _ _ us hl => match us, hl with | [_], _ => rfl), m_is_value := PySem.W.mg_of X G a1, f_is_row := f2, d_is_row := _, F_is_row := F2, b_is_row := F2.binds (ps := ["row", "least", "greatest"]) (fun _ _ _ _ _ _ us hl => match us, hl with | [_, _, _], _ => rfl), m_is_row := PySem.W.mg_of X G a2, f_check_program := f3, d_check_program := _, F_check_program := F3, b_check_program := F3.binds (ps := ["program"]) (fun _ _ _ _ _ _ us hl => match us, hl with | [_], _ => rfl), m_check_program := PySem.W.mg_of X G a3, f_check_variables := f4, d_check_variables := _, F_check_variables := F4, b_check_variables := F4.binds (ps := ["variables"]) (fun _ _ _ _ _ _ us hl => match us, hl with | [_], _ => rfl), m_check_variables := PySem.W.mg_of X G a4, f_check_threads := f5, d_check_threads := _, F_check_threads := F5, b_check_threads := F5.binds (ps := ["threads", "many_codes"]) (fun _ _ _ _ _ _ us hl => match us, hl with | [_, _], _ => rfl), m_check_threads := PySem.W.mg_of X G a5, f_check_code := f6, d_check_code := _, F_check_code := F6, b_check_code := F6.binds (ps := ["code", "program"]) (fun _ _ _ _ _ _ us hl => match us, hl with | [_, _], _ => rfl), m_check_code := PySem.W.mg_of X G a6, f_check_instruction := f7, d_check_instruction := _, F_check_instruction := F7, b_check_instruction := F7.binds (ps := ["instruction", "bounds", "variables"]) (fun _ _ _ _ _ _ us hl => match us, hl with | [_, _, _], _ => rfl), m_check_instruction := PySem.W.mg_of X G a7, f_shape_of := f8, d_shape_of := _, F_shape_of := F8, b_shape_of := F8.binds (ps := ["instruction"]) (fun _ _ _ _ _ _ us hl => match us, hl with | [_], _ => rfl), m_shape_of := PySem.W.mg_of X G a8, f_law_mixed := f9, d_law_mixed := _, F_law_mixed := F9, b_law_mixed := F9.binds (ps := ["number", "k"]) (fun _ _ _ _ _ _ us hl => match us, hl with | [_, _], _ => rfl), m_law_mixed := PySem.W.mg_of X G a9, f_law_numbers := f10, d_law_numbers := _, F_law_numbers := F10, b_law_numbers := F10.binds (ps := ["script"]) (fun _ _ _ _ _ _ us hl => match us, hl with | [_], _ => rfl), m_law_numbers := PySem.W.mg_of X G a10, f_law_draw := f11, d_law_draw := _, F_law_draw := F11, b_law_draw := F11.binds (ps := ["draws"]) (fun _ _ _ _ _ _ us hl => match us, hl with | [_], _ => rfl), m_law_draw := PySem.W.mg_of X G a11, f_law_local := f12, d_law_local := _, F_law_local := F12, b_law_local := F12.binds (ps := ["draws", "size"]) (fun _ _ _ _ _ _ us hl => match us, hl with | [_, _], _ => rfl), m_law_local := PySem.W.mg_of X G a12, f_law_visible := f13, d_law_visible := _, F_law_visible := F13, b_law_visible := F13.binds (ps := ["draws", "places", "locks", "codes"]) (fun _ _ _ _ _ _ us hl => match us, hl with | [_, _, _, _], _ => rfl), m_law_visible := PySem.W.mg_of X G a13, f_law_program := f14, d_law_program := _, F_law_program := F14, b_law_program := F14.binds (ps := ["draws", "most"]) (fun _ _ _ _ _ _ us hl => match us, hl with | [_, _], _ => rfl), m_law_program := PySem.W.mg_of X G a14, f_law_bad_instruction := f15, d_law_bad_instruction := _, F_law_bad_instruction := F15, b_law_bad_instruction := F15.binds (ps := ["draws", "places", "locks", "many", "size"]) (fun _ _ _ _ _ _ us hl => match us, hl with | [_, _, _, _, _], _ => rfl), m_law_bad_instruction := PySem.W.mg_of X G a15, f_law_spoilt := f16, d_law_spoilt := _, F_law_spoilt := F16, b_law_spoilt := F16.binds (ps := ["draws", "program"]) (fun _ _ _ _ _ _ us hl => match us, hl with | [_, _], _ => rfl), m_law_spoilt := PySem.W.mg_of X G a16, f_law_is_program := f17, d_law_is_program := _, F_law_is_program := F17, b_law_is_program := F17.binds (ps := ["value"]) (fun _ _ _ _ _ _ us hl => match us, hl with | [_], _ => rfl), m_law_is_program := PySem.W.mg_of X G a17, f_law := f18, d_law := _, F_law := F18, b_law := F18.binds (ps := ["script"]) (fun _ _ _ _ _ _ us hl => match us, hl with | [_], _ => rfl), m_law := PySem.W.mg_of X G a18, m_len := PySem.W.mg_none_of X G z0, m_tuple := PySem.W.mg_none_of X G z1, m_list := PySem.W.mg_none_of X G z2, m_range := PySem.W.mg_none_of X G z3, m_zip := PySem.W.mg_none_of X G z4, m_str := PySem.W.mg_none_of X G z5, m_type := PySem.W.mg_none_of X G z6, m_isinstance := PySem.W.mg_none_of X G z7, m_ValueError := PySem.W.mg_none_of X G z8, m_int := PySem.W.mg_none_of X G z9, m_bool := PySem.W.mg_none_of X G z10, t_LEAST_VALUE := tk0, m_LEAST_VALUE := PySem.W.mg_of X G i0, t_GREATEST_VALUE := tk1, m_GREATEST_VALUE := PySem.W.mg_of X G i1, t_REGISTERS := tk2, m_REGISTERS := PySem.W.mg_of X G i2 }, fun s v => .of_eq rfl⟩
theorem txt23_mk {K : PySem.W.Frag} {w : World} {h : Heap} {mg : Str → Option Value} (X : K.In h) (G : h.Ns mainGlobals mg)
    {C cE cA cG cS cT cL d1 d2 : Addr} {es1 es2 : Array DictEntry} {n1 n2 : Nat}
    (aC : PySem.W.nsIn K mainGlobals "BadProgram" = some (some (.ref C)))
    (xC : PySem.W.excIn K C [.type "ValueError", .type "Exception", .type "BaseException", .type "object"] "ValueError.__new__" = true)
    (kC : PySem.W.keepIn K (.ref C) = true)
    (sC : PySem.W.subIn K (.ref C) (.type "BaseException") = some true)
    (tC : PySem.W.typeIn K (.ref C) = some (.type "type"))
    (ad1 : PySem.W.nsIn K mainGlobals "LOCAL_SHAPES" = some (some (.ref d1)))
    (ld1 : K.lookup d1 = some ⟨.type "dict", none, .dict es1 n1, #[]⟩)
    (kd1 : PySem.W.KeysLit w.params es1.toList)
    (sd1 : (d1 == sysModules) = false)
    (ed1 : EntOf es1.toList ltab)
    (ad2 : PySem.W.nsIn K mainGlobals "VISIBLE_SHAPES" = some (some (.ref d2)))
    (ld2 : K.lookup d2 = some ⟨.type "dict", none, .dict es2 n2, #[]⟩)
    (kd2 : PySem.W.KeysLit w.params es2.toList)
    (sd2 : (d2 == sysModules) = false)
    (ed2 : EntOf es2.toList vtab)
    (hg : PySem.W.findIn K (.ref C) "__getattribute__" = some (some (.builtin "BaseException.__getattribute__")))
    (hk : PySem.W.findIn K (.ref C) "__getattr__" = some none)
    (hd : PySem.W.hasDictIn K C = true)
    (ha : PySem.W.findIn K (.ref C) "__class__" = some (some (.builtin "object.__class__")))
    (hn : PySem.W.specialIn K (.builtin "object.__class__") "__get__" = some (some (.builtin "getset_descriptor.__get__")))
    (ht : PySem.W.takesIn K (.builtin "object.__class__") = some true)
    (hm : PySem.W.mroIn K C (.type "object") = some true)
    (iC : PySem.W.isClsIn K C = true)
    (sCC : PySem.W.subIn K (.ref C) (.ref C) = some true)
    (sCV : PySem.W.subIn K (.ref C) (.type "ValueError") = some true)
    (aE : PySem.W.nsIn K mainGlobals "EveryweaveError" = some (some (.ref cE)))
    (iE : PySem.W.isClsIn K cE = true)
    (tE : PySem.W.typeIn K (.ref cE) = some (.type "type"))
    (sE : PySem.W.subIn K (.ref C) (.ref cE) = some true)
    (aA : PySem.W.nsIn K mainGlobals "BadArgument" = some (some (.ref cA)))
    (iA : PySem.W.isClsIn K cA = true)
    (tA : PySem.W.typeIn K (.ref cA) = some (.type "type"))
    (sA : PySem.W.subIn K (.ref C) (.ref cA) = some false)
    (aG : PySem.W.nsIn K mainGlobals "BadGraph" = some (some (.ref cG)))
    (iG : PySem.W.isClsIn K cG = true)
    (tG : PySem.W.typeIn K (.ref cG) = some (.type "type"))
    (sG : PySem.W.subIn K (.ref C) (.ref cG) = some false)
    (aS : PySem.W.nsIn K mainGlobals "BadSchedule" = some (some (.ref cS)))
    (iS : PySem.W.isClsIn K cS = true)
    (tS : PySem.W.typeIn K (.ref cS) = some (.type "type"))
    (sS : PySem.W.subIn K (.ref C) (.ref cS) = some false)
    (aT : PySem.W.nsIn K mainGlobals "BadText" = some (some (.ref cT)))
    (iT : PySem.W.isClsIn K cT = true)
    (tT : PySem.W.typeIn K (.ref cT) = some (.type "type"))
    (sT : PySem.W.subIn K (.ref C) (.ref cT) = some false)
    (aL : PySem.W.nsIn K mainGlobals "TooLarge" = some (some (.ref cL)))
    (iL : PySem.W.isClsIn K cL = true)
    (tL : PySem.W.typeIn K (.ref cL) = some (.type "type"))
    (sL : PySem.W.subIn K (.ref C) (.ref cL) = some false) :
    ∃ T2 : Txt2 K w mg, Nonempty (Txt3 K mg T2.C) := by
  obtain ⟨D1⟩ := dic_of (w := w) (PySem.W.mg_of X G ad1) ld1 kd1 sd1 ed1
  obtain ⟨D2⟩ := dic_of (w := w) (PySem.W.mg_of X G ad2) ld2 kd2 sd2 ed2
  refine ⟨{ C := C, m_BadProgram := PySem.W.mg_of X G aC, x_BadProgram := xC, k_BadProgram := kC, sb_BadProgram := sC, ty_BadProgram := tC, LOCAL_SHAPES := D1, VISIBLE_SHAPES := D2 }, ⟨{ cE := cE, cA := cA, cG := cG, cS := cS, cT := cT, cL := cL, m_EveryweaveError := PySem.W.mg_of X G aE, m_BadArgument := PySem.W.mg_of X G aA, m_BadGraph := PySem.W.mg_of X G aG, m_BadSchedule := PySem.W.mg_of X G aS, m_BadText := PySem.W.mg_of X G aT, m_TooLarge := PySem.W.mg_of X G aL, ex := ⟨hg, hk, sC, hd, ha, hn, ht, hm⟩, kE := kit_yes iE tE sE, kV := kit_val sCV, kO := kit_any fun v hv => ?_, me := exm_me sC iC tC sCC }⟩⟩
  simp only [List.mem_cons, List.not_mem_nil, or_false] at hv
  rcases hv with rfl | rfl | rfl | rfl | rfl
  · exact kit_not sCC iA tA sA
  · exact kit_not sCC iG tG sG
  · exact kit_not sCC iS tS sS
  · exact kit_not sCC iT tT sT
  · exact kit_not sCC iL tL sL
theorem all_k1 {P : Program} {K : PySem.W.Frag} {w : World} {h : Heap} {mg : Str → Option Value} {fa : Addr} (X : K.In h) (G : h.Ns mainGlobals mg) (hfa : mg "law" = some (.ref fa))
    {f0 : Addr} {od0 an0 : Option Addr} {sl0 : Array (Option Value)} {oc0 kV0 dc0 pm0 cd0 ct0 : Value} {f1 : Addr} {od1 an1 : Option Addr} {sl1 : Array (Option Value)} {oc1 kV1 dc1 pm1 cd1 ct1 : Value} {f2 : Addr} {od2 an2 : Option Addr} {sl2 : Array (Option Value)} {oc2 kV2 dc2 pm2 cd2 ct2 : Value} {f3 : Addr} {od3 an3 : Option Addr} {sl3 : Array (Option Value)} {oc3 kV3 dc3 pm3 cd3 ct3 : Value} {f4 : Addr} {od4 an4 : Option Addr} {sl4 : Array (Option Value)} {oc4 kV4 dc4 pm4 cd4 ct4 : Value} {f5 : Addr} {od5 an5 : Option Addr} {sl5 : Array (Option Value)} {oc5 kV5 dc5 pm5 cd5 ct5 : Value} {f6 : Addr} {od6 an6 : Option Addr} {sl6 : Array (Option Value)} {oc6 kV6 dc6 pm6 cd6 ct6 : Value} {f7 : Addr} {od7 an7 : Option Addr} {sl7 : Array (Option Value)} {oc7 kV7 dc7 pm7 cd7 ct7 : Value} {f8 : Addr} {od8 an8 : Option Addr} {sl8 : Array (Option Value)} {oc8 kV8 dc8 pm8 cd8 ct8 : Value} {f9 : Addr} {od9 an9 : Option Addr} {sl9 : Array (Option Value)} {oc9 kV9 dc9 pm9 cd9 ct9 : Value} {f10 : Addr} {od10 an10 : Option Addr} {sl10 : Array (Option Value)} {oc10 kV10 dc10 pm10 cd10 ct10 : Value} {f11 : Addr} {od11 an11 : Option Addr} {sl11 : Array (Option Value)} {oc11 kV11 dc11 pm11 cd11 ct11 : Value} {f12 : Addr} {od12 an12 : Option Addr} {sl12 : Array (Option Value)} {oc12 kV12 dc12 pm12 cd12 ct12 : Value} {f13 : Addr} {od13 an13 : Option Addr} {sl13 : Array (Option Value)} {oc13 kV13 dc13 pm13 cd13 ct13 : Value} {f14 : Addr} {od14 an14 : Option Addr} {sl14 : Array (Option Value)} {oc14 kV14 dc14 pm14 cd14 ct14 : Value} {f15 : Addr} {od15 an15 : Option Addr} {sl15 : Array (Option Value)} {oc15 kV15 dc15 pm15 cd15 ct15 : Value} {f16 : Addr} {od16 an16 : Option Addr} {sl16 : Array (Option Value)} {oc16 kV16 dc16 pm16 cd16 ct16 : Value} {f17 : Addr} {od17 an17 : Option Addr} {sl17 : Array (Option Value)} {oc17 kV17 dc17 pm17 cd17 ct17 : Value} {f18 : Addr} {od18 an18 : Option Addr} {sl18 : Array (Option Value)} {oc18 kV18 dc18 pm18 cd18 ct18 : Value} {tk0 : Tok} {tk1 : Tok} {tk2 : Tok} {C cE cA cG cS cT cL d1 d2 : Addr} {es1 es2 : Array DictEntry} {n1 n2 : Nat}
    (a0 : PySem.W.nsIn K mainGlobals "is_integer" = some (some (.ref f0)))
    (l0 : K.lookup f0 = some ⟨oc0, od0, .func (PySem.W.fnOf "is_integer" "is_integer" (defArgs s_is_integer) (defBody s_is_integer) (defScope s_is_integer) .none kV0 dc0 pm0 an0 cd0 ct0), sl0⟩)
    (c0 : PySem.W.codeIn K cd0 "is_integer" = true)
    (k0 : PySem.W.keepIn K (.ref f0) = true)
    (a1 : PySem.W.nsIn K mainGlobals "is_value" = some (some (.ref f1)))
    (l1 : K.lookup f1 = some ⟨oc1, od1, .func (PySem.W.fnOf "is_value" "is_value" (defArgs s_is_value) (defBody s_is_value) (defScope s_is_value) .none kV1 dc1 pm1 an1 cd1 ct1), sl1⟩)
    (c1 : PySem.W.codeIn K cd1 "is_value" = true)
    (k1 : PySem.W.keepIn K (.ref f1) = true)
    (a2 : PySem.W.nsIn K mainGlobals "is_row" = some (some (.ref f2)))
    (l2 : K.lookup f2 = some ⟨oc2, od2, .func (PySem.W.fnOf "is_row" "is_row" (defArgs s_is_row) (defBody s_is_row) (defScope s_is_row) .none kV2 dc2 pm2 an2 cd2 ct2), sl2⟩)
    (c2 : PySem.W.codeIn K cd2 "is_row" = true)
    (k2 : PySem.W.keepIn K (.ref f2) = true)
    (a3 : PySem.W.nsIn K mainGlobals "check_program" = some (some (.ref f3)))
    (l3 : K.lookup f3 = some ⟨oc3, od3, .func (PySem.W.fnOf "check_program" "check_program" (defArgs s_check_program) (defBody s_check_program) (defScope s_check_program) .none kV3 dc3 pm3 an3 cd3 ct3), sl3⟩)
    (c3 : PySem.W.codeIn K cd3 "check_program" = true)
    (k3 : PySem.W.keepIn K (.ref f3) = true)
    (a4 : PySem.W.nsIn K mainGlobals "check_variables" = some (some (.ref f4)))
    (l4 : K.lookup f4 = some ⟨oc4, od4, .func (PySem.W.fnOf "check_variables" "check_variables" (defArgs s_check_variables) (defBody s_check_variables) (defScope s_check_variables) .none kV4 dc4 pm4 an4 cd4 ct4), sl4⟩)
    (c4 : PySem.W.codeIn K cd4 "check_variables" = true)
    (k4 : PySem.W.keepIn K (.ref f4) = true)
    (a5 : PySem.W.nsIn K mainGlobals "check_threads" = some (some (.ref f5)))
    (l5 : K.lookup f5 = some ⟨oc5, od5, .func (PySem.W.fnOf "check_threads" "check_threads" (defArgs s_check_threads) (defBody s_check_threads) (defScope s_check_threads) .none kV5 dc5 pm5 an5 cd5 ct5), sl5⟩)
    (c5 : PySem.W.codeIn K cd5 "check_threads" = true)
    (k5 : PySem.W.keepIn K (.ref f5) = true)
    (a6 : PySem.W.nsIn K mainGlobals "check_code" = some (some (.ref f6)))
    (l6 : K.lookup f6 = some ⟨oc6, od6, .func (PySem.W.fnOf "check_code" "check_code" (defArgs s_check_code) (defBody s_check_code) (defScope s_check_code) .none kV6 dc6 pm6 an6 cd6 ct6), sl6⟩)
    (c6 : PySem.W.codeIn K cd6 "check_code" = true)
    (k6 : PySem.W.keepIn K (.ref f6) = true)
    (a7 : PySem.W.nsIn K mainGlobals "check_instruction" = some (some (.ref f7)))
    (l7 : K.lookup f7 = some ⟨oc7, od7, .func (PySem.W.fnOf "check_instruction" "check_instruction" (defArgs s_check_instruction) (defBody s_check_instruction) (defScope s_check_instruction) .none kV7 dc7 pm7 an7 cd7 ct7), sl7⟩)
    (c7 : PySem.W.codeIn K cd7 "check_instruction" = true)
    (k7 : PySem.W.keepIn K (.ref f7) = true)
    (a8 : PySem.W.nsIn K mainGlobals "shape_of" = some (some (.ref f8)))
    (l8 : K.lookup f8 = some ⟨oc8, od8, .func (PySem.W.fnOf "shape_of" "shape_of" (defArgs s_shape_of) (defBody s_shape_of) (defScope s_shape_of) .none kV8 dc8 pm8 an8 cd8 ct8), sl8⟩)
    (c8 : PySem.W.codeIn K cd8 "shape_of" = true)
    (k8 : PySem.W.keepIn K (.ref f8) = true)
    (a9 : PySem.W.nsIn K mainGlobals "_law_mixed" = some (some (.ref f9)))
    (l9 : K.lookup f9 = some ⟨oc9, od9, .func (PySem.W.fnOf "_law_mixed" "_law_mixed" (defArgs s_law_mixed) (defBody s_law_mixed) (defScope s_law_mixed) .none kV9 dc9 pm9 an9 cd9 ct9), sl9⟩)
    (c9 : PySem.W.codeIn K cd9 "_law_mixed" = true)
    (k9 : PySem.W.keepIn K (.ref f9) = true)
    (a10 : PySem.W.nsIn K mainGlobals "_law_numbers" = some (some (.ref f10)))
    (l10 : K.lookup f10 = some ⟨oc10, od10, .func (PySem.W.fnOf "_law_numbers" "_law_numbers" (defArgs s_law_numbers) (defBody s_law_numbers) (defScope s_law_numbers) .none kV10 dc10 pm10 an10 cd10 ct10), sl10⟩)
    (c10 : PySem.W.codeIn K cd10 "_law_numbers" = true)
    (k10 : PySem.W.keepIn K (.ref f10) = true)
    (a11 : PySem.W.nsIn K mainGlobals "_law_draw" = some (some (.ref f11)))
    (l11 : K.lookup f11 = some ⟨oc11, od11, .func (PySem.W.fnOf "_law_draw" "_law_draw" (defArgs s_law_draw) (defBody s_law_draw) (defScope s_law_draw) .none kV11 dc11 pm11 an11 cd11 ct11), sl11⟩)
    (c11 : PySem.W.codeIn K cd11 "_law_draw" = true)
    (k11 : PySem.W.keepIn K (.ref f11) = true)
    (a12 : PySem.W.nsIn K mainGlobals "_law_local" = some (some (.ref f12)))
    (l12 : K.lookup f12 = some ⟨oc12, od12, .func (PySem.W.fnOf "_law_local" "_law_local" (defArgs s_law_local) (defBody s_law_local) (defScope s_law_local) .none kV12 dc12 pm12 an12 cd12 ct12), sl12⟩)
    (c12 : PySem.W.codeIn K cd12 "_law_local" = true)
    (k12 : PySem.W.keepIn K (.ref f12) = true)
    (a13 : PySem.W.nsIn K mainGlobals "_law_visible" = some (some (.ref f13)))
    (l13 : K.lookup f13 = some ⟨oc13, od13, .func (PySem.W.fnOf "_law_visible" "_law_visible" (defArgs s_law_visible) (defBody s_law_visible) (defScope s_law_visible) .none kV13 dc13 pm13 an13 cd13 ct13), sl13⟩)
    (c13 : PySem.W.codeIn K cd13 "_law_visible" = true)
    (k13 : PySem.W.keepIn K (.ref f13) = true)
    (a14 : PySem.W.nsIn K mainGlobals "_law_program" = some (some (.ref f14)))
    (l14 : K.lookup f14 = some ⟨oc14, od14, .func (PySem.W.fnOf "_law_program" "_law_program" (defArgs s_law_program) (defBody s_law_program) (defScope s_law_program) .none kV14 dc14 pm14 an14 cd14 ct14), sl14⟩)
    (c14 : PySem.W.codeIn K cd14 "_law_program" = true)
    (k14 : PySem.W.keepIn K (.ref f14) = true)
    (a15 : PySem.W.nsIn K mainGlobals "_law_bad_instruction" = some (some (.ref f15)))
    (l15 : K.lookup f15 = some ⟨oc15, od15, .func (PySem.W.fnOf "_law_bad_instruction" "_law_bad_instruction" (defArgs s_law_bad_instruction) (defBody s_law_bad_instruction) (defScope s_law_bad_instruction) .none kV15 dc15 pm15 an15 cd15 ct15), sl15⟩)
    (c15 : PySem.W.codeIn K cd15 "_law_bad_instruction" = true)
    (k15 : PySem.W.keepIn K (.ref f15) = true)
    (a16 : PySem.W.nsIn K mainGlobals "_law_spoilt" = some (some (.ref f16)))
    (l16 : K.lookup f16 = some ⟨oc16, od16, .func (PySem.W.fnOf "_law_spoilt" "_law_spoilt" (defArgs s_law_spoilt) (defBody s_law_spoilt) (defScope s_law_spoilt) .none kV16 dc16 pm16 an16 cd16 ct16), sl16⟩)
    (c16 : PySem.W.codeIn K cd16 "_law_spoilt" = true)
    (k16 : PySem.W.keepIn K (.ref f16) = true)
    (a17 : PySem.W.nsIn K mainGlobals "_law_is_program" = some (some (.ref f17)))
    (l17 : K.lookup f17 = some ⟨oc17, od17, .func (PySem.W.fnOf "_law_is_program" "_law_is_program" (defArgs s_law_is_program) (defBody s_law_is_program) (defScope s_law_is_program) .none kV17 dc17 pm17 an17 cd17 ct17), sl17⟩)
    (c17 : PySem.W.codeIn K cd17 "_law_is_program" = true)
    (k17 : PySem.W.keepIn K (.ref f17) = true)
    (a18 : PySem.W.nsIn K mainGlobals "law" = some (some (.ref f18)))
    (l18 : K.lookup f18 = some ⟨oc18, od18, .func (PySem.W.fnOf "law" "law" (defArgs s_law) (defBody s_law) (defScope s_law) .none kV18 dc18 pm18 an18 cd18 ct18), sl18⟩)
    (c18 : PySem.W.codeIn K cd18 "law" = true)
    (k18 : PySem.W.keepIn K (.ref f18) = true)
    (z0 : PySem.W.nsIn K mainGlobals "len" = some none)
    (z1 : PySem.W.nsIn K mainGlobals "tuple" = some none)
    (z2 : PySem.W.nsIn K mainGlobals "list" = some none)
    (z3 : PySem.W.nsIn K mainGlobals "range" = some none)
    (z4 : PySem.W.nsIn K mainGlobals "zip" = some none)
    (z5 : PySem.W.nsIn K mainGlobals "str" = some none)
    (z6 : PySem.W.nsIn K mainGlobals "type" = some none)
    (z7 : PySem.W.nsIn K mainGlobals "isinstance" = some none)
    (z8 : PySem.W.nsIn K mainGlobals "ValueError" = some none)
    (z9 : PySem.W.nsIn K mainGlobals "int" = some none)
    (z10 : PySem.W.nsIn K mainGlobals "bool" = some none)
    (i0 : PySem.W.nsIn K mainGlobals "LEAST_VALUE" = some (some (.int (-999) tk0)))
    (i1 : PySem.W.nsIn K mainGlobals "GREATEST_VALUE" = some (some (.int (999) tk1)))
    (i2 : PySem.W.nsIn K mainGlobals "REGISTERS" = some (some (.int (4) tk2)))
    (aC : PySem.W.nsIn K mainGlobals "BadProgram" = some (some (.ref C)))
    (xC : PySem.W.excIn K C [.type "ValueError", .type "Exception", .type "BaseException", .type "object"] "ValueError.__new__" = true)
    (kC : PySem.W.keepIn K (.ref C) = true)
    (sC : PySem.W.subIn K (.ref C) (.type "BaseException") = some true)
    (tC : PySem.W.typeIn K (.ref C) = some (.type "type"))
    (ad1 : PySem.W.nsIn K mainGlobals "LOCAL_SHAPES" = some (some (.ref d1)))
    (ld1 : K.lookup d1 = some ⟨.type "dict", none, .dict es1 n1, #[]⟩)
    (kd1 : PySem.W.KeysLit w.params es1.toList)
    (sd1 : (d1 == sysModules) = false)
    (ed1 : EntOf es1.toList ltab)
    (ad2 : PySem.W.nsIn K mainGlobals "VISIBLE_SHAPES" = some (some (.ref d2)))
    (ld2 : K.lookup d2 = some ⟨.type "dict", none, .dict es2 n2, #[]⟩)
    (kd2 : PySem.W.KeysLit w.params es2.toList)
    (sd2 : (d2 == sysModules) = false)
    (ed2 : EntOf es2.toList vtab)
    (hg : PySem.W.findIn K (.ref C) "__getattribute__" = some (some (.builtin "BaseException.__getattribute__")))
    (hk : PySem.W.findIn K (.ref C) "__getattr__" = some none)
    (hd : PySem.W.hasDictIn K C = true)
    (ha : PySem.W.findIn K (.ref C) "__class__" = some (some (.builtin "object.__class__")))
    (hn : PySem.W.specialIn K (.builtin "object.__class__") "__get__" = some (some (.builtin "getset_descriptor.__get__")))
    (ht : PySem.W.takesIn K (.builtin "object.__class__") = some true)
    (hm : PySem.W.mroIn K C (.type "object") = some true)
    (iC : PySem.W.isClsIn K C = true)
    (sCC : PySem.W.subIn K (.ref C) (.ref C) = some true)
    (sCV : PySem.W.subIn K (.ref C) (.type "ValueError") = some true)
    (aE : PySem.W.nsIn K mainGlobals "EveryweaveError" = some (some (.ref cE)))
    (iE : PySem.W.isClsIn K cE = true)
    (tE : PySem.W.typeIn K (.ref cE) = some (.type "type"))
    (sE : PySem.W.subIn K (.ref C) (.ref cE) = some true)
    (aA : PySem.W.nsIn K mainGlobals "BadArgument" = some (some (.ref cA)))
    (iA : PySem.W.isClsIn K cA = true)
    (tA : PySem.W.typeIn K (.ref cA) = some (.type "type"))
    (sA : PySem.W.subIn K (.ref C) (.ref cA) = some false)
    (aG : PySem.W.nsIn K mainGlobals "BadGraph" = some (some (.ref cG)))
    (iG : PySem.W.isClsIn K cG = true)
    (tG : PySem.W.typeIn K (.ref cG) = some (.type "type"))
    (sG : PySem.W.subIn K (.ref C) (.ref cG) = some false)
    (aS : PySem.W.nsIn K mainGlobals "BadSchedule" = some (some (.ref cS)))
    (iS : PySem.W.isClsIn K cS = true)
    (tS : PySem.W.typeIn K (.ref cS) = some (.type "type"))
    (sS : PySem.W.subIn K (.ref C) (.ref cS) = some false)
    (aT : PySem.W.nsIn K mainGlobals "BadText" = some (some (.ref cT)))
    (iT : PySem.W.isClsIn K cT = true)
    (tT : PySem.W.typeIn K (.ref cT) = some (.type "type"))
    (sT : PySem.W.subIn K (.ref C) (.ref cT) = some false)
    (aL : PySem.W.nsIn K mainGlobals "TooLarge" = some (some (.ref cL)))
    (iL : PySem.W.isClsIn K cL = true)
    (tL : PySem.W.typeIn K (.ref cL) = some (.type "type"))
    (sL : PySem.W.subIn K (.ref C) (.ref cL) = some false) :
    ∃ fd : FuncData, (∀ (s : Shared) (v : Value), BindsTo s fd ⟨[v], []⟩ [("script", v)]) ∧ ∀ base : Heap, K.In base → base.Ns mainGlobals mg → EWG.RunAt P w K mg base 7 callerA fa fd ["script"] (sp_law K) := by
  obtain ⟨T, hb⟩ := txt_mk X G a0 l0 c0 k0 a1 l1 c1 k1 a2 l2 c2 k2 a3 l3 c3 k3 a4 l4 c4 k4 a5 l5 c5 k5 a6 l6 c6 k6 a7 l7 c7 k7 a8 l8 c8 k8 a9 l9 c9 k9 a10 l10 c10 k10 a11 l11 c11 k11 a12 l12 c12 k12 a13 l13 c13 k13 a14 l14 c14 k14 a15 l15 c15 k15 a16 l16 c16 k16 a17 l17 c17 k17 a18 l18 c18 k18 z0 z1 z2 z3 z4 z5 z6 z7 z8 z9 z10 i0 i1 i2
  obtain ⟨T2, ⟨T3⟩⟩ := txt23_mk (w := w) X G aC xC kC sC tC ad1 ld1 kd1 sd1 ed1 ad2 ld2 kd2 sd2 ed2 hg hk hd ha hn ht hm iC sCC sCV aE iE tE sE aA iA tA sA aG iG tG sG aS iS tS sS aT iT tT sT aL iL tL sL
  have e := hfa.symm.trans T.m_law
  cases e
  exact ⟨T.d_law, hb, fun base _ _ => run_law T T2 T3 rfl⟩
end EW
set_option Elab.async false
set_option linter.all false
set_option maxRecDepth 100000
open PySem
open PySem.W
open PyProof.Rows
set_option maxHeartbeats 0 in
theorem PySem.Challenge.cw_everyweave_k01_programs_are_checked_holds : PySem.Challenge.rw_everyweave_k01_programs_are_checked.Holds := by
  w_on
  o_law
  k_head
  (case hw => w_witness2)
  k_fill
  refine EWG.walk_at (l := PySem.Challenge.rw_everyweave_k01_programs_are_checked) (n := 63) (k := 7) (x := "script") (sp := fun w => EW.sp_law _) rfl (by decide) rfl ⟨rfl, by decide, by decide⟩ (fun w h Y => PySem.W.kIn_of Y) ?F (fun w H a ns hl hO hS => ⟨a, ns, rfl, hS, hl, fun _ => rfl⟩)
  case F =>
    intro w mg fa h KX G hmg
    refine' EW.all_k1 KX G hmg ?a0 ?l0 ?c0 ?k0 ?a1 ?l1 ?c1 ?k1 ?a2 ?l2 ?c2 ?k2 ?a3 ?l3 ?c3 ?k3 ?a4 ?l4 ?c4 ?k4 ?a5 ?l5 ?c5 ?k5 ?a6 ?l6 ?c6 ?k6 ?a7 ?l7 ?c7 ?k7 ?a8 ?l8 ?c8 ?k8 ?a9 ?l9 ?c9 ?k9 ?a10 ?l10 ?c10 ?k10 ?a11 ?l11 ?c11 ?k11 ?a12 ?l12 ?c12 ?k12 ?a13 ?l13 ?c13 ?k13 ?a14 ?l14 ?c14 ?k14 ?a15 ?l15 ?c15 ?k15 ?a16 ?l16 ?c16 ?k16 ?a17 ?l17 ?c17 ?k17 ?a18 ?l18 ?c18 ?k18 ?z0 ?z1 ?z2 ?z3 ?z4 ?z5 ?z6 ?z7 ?z8 ?z9 ?z10 ?i0 ?i1 ?i2 ?aC ?xC ?kC ?sC ?tC ?ad1 ?ld1 ?kd1 ?sd1 ?ed1 ?ad2 ?ld2 ?kd2 ?sd2 ?ed2 ?hg ?hk ?hd ?ha ?hn ?ht ?hm ?iC ?sCC ?sCV ?aE ?iE ?tE ?sE ?aA ?iA ?tA ?sA ?aG ?iG ?tG ?sG ?aS ?iS ?tS ?sS ?aT ?iT ?tT ?sT ?aL ?iL ?tL ?sL
    (case a0 => k_is)
    (case l0 => k_is)
    (case c0 => k_is)
    (case k0 => k_is)
    (case a1 => k_is)
    (case l1 => k_is)
    (case c1 => k_is)
    (case k1 => k_is)
    (case a2 => k_is)
    (case l2 => k_is)
    (case c2 => k_is)
    (case k2 => k_is)
    (case a3 => k_is)
    (case l3 => k_is)
    (case c3 => k_is)
    (case k3 => k_is)
    (case a4 => k_is)
    (case l4 => k_is)
    (case c4 => k_is)
    (case k4 => k_is)
    (case a5 => k_is)
    (case l5 => k_is)
    (case c5 => k_is)
    (case k5 => k_is)
    (case a6 => k_is)
    (case l6 => k_is)
    (case c6 => k_is)
    (case k6 => k_is)
    (case a7 => k_is)
    (case l7 => k_is)
    (case c7 => k_is)
    (case k7 => k_is)
    (case a8 => k_is)
    (case l8 => k_is)
    (case c8 => k_is)
    (case k8 => k_is)
    (case a9 => k_is)
    (case l9 => k_is)
    (case c9 => k_is)
    (case k9 => k_is)
    (case a10 => k_is)
    (case l10 => k_is)
    (case c10 => k_is)
    (case k10 => k_is)
    (case a11 => k_is)
    (case l11 => k_is)
    (case c11 => k_is)
    (case k11 => k_is)
    (case a12 => k_is)
    (case l12 => k_is)
    (case c12 => k_is)
    (case k12 => k_is)
    (case a13 => k_is)
    (case l13 => k_is)
    (case c13 => k_is)
    (case k13 => k_is)
    (case a14 => k_is)
    (case l14 => k_is)
    (case c14 => k_is)
    (case k14 => k_is)
    (case a15 => k_is)
    (case l15 => k_is)
    (case c15 => k_is)
    (case k15 => k_is)
    (case a16 => k_is)
    (case l16 => k_is)
    (case c16 => k_is)
    (case k16 => k_is)
    (case a17 => k_is)
    (case l17 => k_is)
    (case c17 => k_is)
    (case k17 => k_is)
    (case a18 => k_is)
    (case l18 => k_is)
    (case c18 => k_is)
    (case k18 => k_is)
    (case z0 => k_is)
    (case z1 => k_is)
    (case z2 => k_is)
    (case z3 => k_is)
    (case z4 => k_is)
    (case z5 => k_is)
    (case z6 => k_is)
    (case z7 => k_is)
    (case z8 => k_is)
    (case z9 => k_is)
    (case z10 => k_is)
    (case i0 => k_is)
    (case i1 => k_is)
    (case i2 => k_is)
    (case aC => k_is)
    (case xC => k_exc)
    (case kC => k_is)
    (case sC => k_is)
    (case tC => k_is)
    (case ad1 => k_is)
    (case ld1 => k_is)
    (case kd1 => (repeat (first | exact trivial | refine ⟨⟨_, _, rfl, rfl⟩, ?_⟩)))
    (case sd1 => decide)
    (case ed1 => (repeat (first | exact trivial | refine ⟨⟨_, _, rfl, rfl⟩, ?_⟩)))
    (case ad2 => k_is)
    (case ld2 => k_is)
    (case kd2 => (repeat (first | exact trivial | refine ⟨⟨_, _, rfl, rfl⟩, ?_⟩)))
    (case sd2 => decide)
    (case ed2 => (repeat (first | exact trivial | refine ⟨⟨_, _, rfl, rfl⟩, ?_⟩)))
    (case hg => k_is)
    (case hk => k_is)
    (case hd => k_is)
    (case ha => k_is)
    (case hn => k_is)
    (case ht => k_is)
    (case hm => k_is)
    (case iC => k_is)
    (case sCC => k_is)
    (case sCV => k_is)
    (case aE => k_is)
    (case iE => k_is)
    (case tE => k_is)
    (case sE => k_is)
    (case aA => k_is)
    (case iA => k_is)
    (case tA => k_is)
    (case sA => k_is)
    (case aG => k_is)
    (case iG => k_is)
    (case tG => k_is)
    (case sG => k_is)
    (case aS => k_is)
    (case iS => k_is)
    (case tS => k_is)
    (case sS => k_is)
    (case aT => k_is)
    (case iT => k_is)
    (case tT => k_is)
    (case sT => k_is)
    (case aL => k_is)
    (case iL => k_is)
    (case tL => k_is)
    (case sL => k_is)
