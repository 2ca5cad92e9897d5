import PyProof.Rows.All
import Wide.All
import OpenK.AllK
import Wide.FinOn
import HandS.ForMost
import HandS.IsInst
import HandS.Walk
import HandS.SortRule
import HandS.DictTup
import HandS.ListItems
import HandS.Conv
import HandS.More
import KE.GoesEnum
import KE.GoesMore
import PySem.Challenge.RW_saylore_k03_books_refused
import KE.OsRunLaw
import HandS.ForExc
import HandS.FStr
import HandS.ExcInit
import KE.KExcSuper
import HandS.RaiseFrom
import HandS.Steps
import HandS.MakeKwOnly
import HandS.Finally
import HandS.Dict
import HandS.Star
import HandS.SetFor
import HandS.ExcIs
import HandS.ExcField
import KE.KExcIs
import HandS.Lambda
import HandS.EndOwn
import KE.KNestM
import KE.RegKSuper
import PyProof.StrOps2
import HandS.TupAny
import KE.KDictPairs
import HandS.TupMul
import HandS.Defaults
import KE.KDflt
import HandS.Comp
set_option Elab.async false
set_option linter.all false
set_option maxRecDepth 100000
set_option maxHeartbeats 16000000
namespace Say
open PySem PySem.Spec PyProof.Rows L2
/-! ### the text by places -/
def topS (i : Nat) : Stmt := PySem.Challenge.pw_saylore_k03_books_refused.main.body.getD i (.Pass ⟨0, 0, 0, 0⟩)
/-! ### texts as lists of signs -/
abbrev T (l : List Nat) : Str := ⟨l.toArray⟩
theorem T_list (z : Str) : T z.cps.toList = z := by
  cases z; rfl
@[simp] theorem T_cps (l : List Nat) : (T l).cps.toList = l := rfl
theorem T_len (l : List Nat) : (T l).length = l.length := by
  show l.toArray.size = l.length
  simp
theorem T_inj {a b : List Nat} (h : T a = T b) : a = b := by
  have := congrArg (fun z : Str => z.cps.toList) h
  exact this
/-! ### heaps -/
/-- all that was tracked is as it was, but at r -/
def Stp (r : Addr) (H H' : Hp) : Prop := ∀ b o, H b = some o → b ≠ r → H' b = some o
theorem Stp.refl (r : Addr) (H : Hp) : Stp r H H := fun _ _ h _ => h
theorem Stp.trans {r : Addr} {H H1 H2 : Hp} (a : Stp r H H1) (b : Stp r H1 H2) : Stp r H H2 := fun c o h n => b c o (a c o h n) n
theorem Stp.of {r : Addr} {H H' : Hp} (e : Same H H') : Stp r H H' := fun b o h _ => e b o h
theorem Stp.seq {K : PySem.W.Frag} {r a : Addr} {H H' : Hp} {xs : List V} (e : Stp r H H') (n : a ≠ r) (h : SqL K H a xs) : SqL K H' a xs := by
  rcases h with (h | ⟨o, h⟩) | h
  · exact .inl (.inl (e _ _ h n))
  · exact .inl (.inr ⟨o, e _ _ h n⟩)
  · exact .inr h
theorem same_new {H : Hp} {p : Addr} (h : H p = none) (o : HO) : Same H (upd H p o) := fun b u q => by rw [upd_ne (ne_of_none q h)]; exact q
theorem stp_at {r : Addr} {H : Hp} (o : HO) : Stp r H (upd H r o) := fun b u q n => by rw [upd_ne n]; exact q
/-- tuples stay (frozen ones: as they were made) -/
def KT (H H' : Hp) : Prop := (∀ t xs, H t = some (.tup xs) → H' t = some (.tup xs)) ∧ ∀ t o xs, H t = some (.frz o (.tup xs)) → H' t = some (.frz o (.tup xs))
theorem KT.by {H H' : Hp} (f : ∀ t u, H t = some u → ((∃ xs, u = .tup xs) ∨ ∃ o xs, u = .frz o (.tup xs)) → H' t = some u) : KT H H' := ⟨fun t xs h => f t _ h (.inl ⟨xs, rfl⟩), fun t o xs h => f t _ h (.inr ⟨o, xs, rfl⟩)⟩
theorem KT.refl (H : Hp) : KT H H := ⟨fun _ _ h => h, fun _ _ _ h => h⟩
theorem KT.trans {H H1 H2 : Hp} (a : KT H H1) (b : KT H1 H2) : KT H H2 := ⟨fun t xs h => b.1 t xs (a.1 t xs h), fun t o xs h => b.2 t o xs (a.2 t o xs h)⟩
theorem KT.of {H H' : Hp} (e : Same H H') : KT H H' := ⟨fun t xs h => e t _ h, fun t o xs h => e t _ h⟩
/-- the row that is drawn from: the script at a -/
structure RowAt (K : PySem.W.Frag) (H : Hp) (r a : Addr) (ns : List Int) : Prop where
  row : ∃ i c m : Int, H r = some (.lst [.ref a, .int i, .int c, .int m]) ∧ 0 ≤ i ∧ 0 ≤ m ∧ m < 2147483647
  scr : SqL K H a (ns.map V.int)
  le : ns.length ≤ 63
theorem ints_ne {ns : List Int} {a : Addr} {l : List V} : ns.map V.int ≠ V.ref a :: l := by
  cases ns with
  | nil => intro z; cases z
  | cons x r => intro z; cases z
theorem Stp.scr {K : PySem.W.Frag} {r a : Addr} {H H' : Hp} {ns : List Int} {l : List V} (e : Stp r H H') (hr : H r = some (.lst (.ref a :: l))) (h : SqL K H a (ns.map V.int)) : SqL K H' a (ns.map V.int) := by
  rcases h with (h | ⟨o, h⟩) | h
  · refine .inl (.inl (e _ _ h fun z => ?_))
    subst z
    rw [hr] at h
    exact ints_ne (HO.lst.inj (Option.some.inj h)).symm
  · refine .inl (.inr ⟨o, e _ _ h fun z => ?_⟩)
    subst z
    rw [hr] at h
    cases h
  · exact .inr h
theorem RowAt.stp {K : PySem.W.Frag} {H H' : Hp} {r a : Addr} {ns : List Int} (R : RowAt K H r a ns) (e : Same H H') : RowAt K H' r a ns := by
  obtain ⟨⟨i, c, m, h, q⟩, s, l⟩ := R
  exact ⟨⟨i, c, m, e _ _ h, q⟩, e.seq s, l⟩
theorem RowAt.kt {K : PySem.W.Frag} {H H' : Hp} {r a : Addr} {ns : List Int} (R : RowAt K H r a ns) (e : Stp r H H') : KT H H' := KT.by fun t u h hu => by
  obtain ⟨⟨i, c, m, q, _⟩, _⟩ := R
  exact e t _ h (ne_of h q (by rcases hu with ⟨_, rfl⟩ | ⟨_, _, rfl⟩ <;> (intro z; cases z)))
theorem RowAt.put {K : PySem.W.Frag} {H : Hp} {r a : Addr} {ns : List Int} (R : RowAt K H r a ns) {i c m : Int} (h0 : 0 ≤ i) (h1 : 0 ≤ m) (h2 : m < 2147483647) : RowAt K (upd H r (.lst [.ref a, .int i, .int c, .int m])) r a ns := by
  obtain ⟨⟨i', c', m', q, _⟩, s, l⟩ := R
  exact ⟨⟨i, c, m, upd_same, h0, h1, h2⟩, (stp_at _).scr q s, l⟩
theorem small {n : Nat} (h : n ≤ 16000000) : n ≤ sizeLine := Nat.le_trans h (by decide)
theorem smallM {n : Nat} (h : n ≤ 16000000) : n < sizeLine := Nat.lt_of_le_of_lt h (by decide)
/-- law's promise -/
def spLaw (K : PySem.W.Frag) : Sp := fun vs H Q _ => ∃ (a : Addr) (ns : List Int), vs = [.ref a] ∧ SqL K H a (ns.map V.int) ∧ ns.length ≤ 63 ∧ ∀ H', Q (.bl true) H'
/-- _law_taken -/
def spTaken (K : PySem.W.Frag) : Sp := fun vs H Q _ => ∃ (r a : Addr) (ns : List Int) (n : Int), vs = [.ref r, .int n] ∧ RowAt K H r a ns ∧ 0 < n ∧ n < 100000 ∧
  ∀ (k : Int) (H' : Hp), 0 ≤ k → k < n → Stp r H H' → RowAt K H' r a ns → Q (.int k) H'
end Say
namespace Say
open PySem PySem.Spec PyProof.Rows L2
theorem T_app (a b : List Nat) : T a ++ T b = T (a ++ b) := TL.ext_tl (by rw [TL.tl_append])
theorem hash_eq : ("#" : Str) = T [35] := by decide +kernel
theorem nil_eq : ("" : Str) = T [] := by decide +kernel
theorem joinL_nil : ∀ ls : List (List Nat), TL.joinL [] ls = ls.flatten
  | [] => rfl
  | [p] => by simp [TL.joinL]
  | p :: q :: r => by
    show p ++ ([] ++ TL.joinL [] (q :: r)) = _
    rw [joinL_nil (q :: r)]
    simp
theorem join_nil (ls : List (List Nat)) : Txt.join (T []) (ls.map T) = T ls.flatten := by
  refine TL.ext_tl ?_
  rw [TL.join_eq, TL.tl_join]
  show TL.joinL [] ((ls.map T).map TL.tl) = ls.flatten
  rw [List.map_map, ← joinL_nil]
  congr 1
  exact List.map_id' ls
theorem map_single : ∀ l : List Nat, (l.map fun c => [c]).flatten = l
  | [] => rfl
  | c :: r => by
    show [c] ++ (r.map fun c => [c]).flatten = c :: r
    rw [map_single r]; rfl
/-- the row's own list -/
def RowIn (H : Hp) (r a : Addr) : Prop := ∃ i c m : Int, H r = some (.lst [.ref a, .int i, .int c, .int m]) ∧ 0 ≤ i ∧ 0 ≤ m ∧ m < 2147483647
theorem RowAt.in {K : PySem.W.Frag} {H : Hp} {r a : Addr} {ns : List Int} (R : RowAt K H r a ns) : RowIn H r a := R.row
theorem RowAt.of {K : PySem.W.Frag} {H H' : Hp} {r a : Addr} {ns : List Int} (R : RowAt K H r a ns) (e : Stp r H H') (w : RowIn H' r a) : RowAt K H' r a ns := by
  obtain ⟨⟨i, c, m, q, _⟩, s, l⟩ := R
  exact ⟨w, e.scr q s, l⟩
theorem RowIn.upd {H : Hp} {r a D : Addr} {o : HO} (w : RowIn H r a) (n : r ≠ D) : RowIn (upd H D o) r a := by
  obtain ⟨i, c, m, q, b⟩ := w
  exact ⟨i, c, m, by rw [upd_ne n]; exact q, b⟩
theorem RowAt.nw {K : PySem.W.Frag} {H : Hp} {r a D : Addr} {ns : List Int} (R : RowAt K H r a ns) (h : H D = none) : r ≠ D := by
  obtain ⟨⟨i, c, m, q, _⟩, s, l⟩ := R
  exact ne_of_none q h
theorem Stp.put {r D : Addr} {H H' : Hp} (e : Stp r H H') (h : H D = none) (o : HO) : Stp r H (upd H' D o) := fun b u q n => by
  rw [upd_ne (ne_of_none q h)]
  exact e b u q n
theorem Stp.one {r D : Addr} {H H' : Hp} {o : HO} (e : Stp r H H') (h : H D = some o) (n : r ≠ D) : H' D = some o := e _ _ h (Ne.symm n)
/-- signs of a text, a list of one-sign texts -/
def sg (l : List Nat) : List V := l.map fun c => V.str (T [c])
theorem sg_map (l : List Nat) : sg l = ((l.map fun c => [c]).map T).map V.str := by
  unfold sg
  rw [List.map_map, List.map_map]
  rfl
theorem sg_len (l : List Nat) : (sg l).length = l.length := by unfold sg; rw [List.length_map]
theorem sum_ones : ∀ l : List Nat, (((l.map fun c => [c]).map T).map (fun z : Str => z.length)).sum = l.length
  | [] => rfl
  | c :: r => by
    show 1 + (((r.map fun c => [c]).map T).map (fun z : Str => z.length)).sum = r.length + 1
    rw [sum_ones r]; omega
end Say
namespace Say
open PySem PySem.Spec PyProof.Rows L2
/-- a def that stands at the module's name and keeps its promise -/
def Df (P : Program) (w : World) (K : PySem.W.Frag) (mg : Str → Option Value) (base : Heap) (x : Str) (ps : List Str) (k : Nat) (sp : Sp) : Prop :=
  ∃ f fd, FnOk P w K mg base CX0 k f fd ps sp ∧ PySem.W.keepIn K (.ref f) = true ∧ Binds K fd ps [] ∧ mg x = some (.ref f)
theorem hash_app (L : List Nat) : (Str.ofString "#" ++ T L) = T (35 :: L) := by
  rw [show Str.ofString "#" = T [35] from hash_eq, T_app]
  rfl
theorem app_hash (L : List Nat) : (T L ++ Str.ofString "#") = T (L ++ [35]) := by
  rw [show Str.ofString "#" = T [35] from hash_eq, T_app]
theorem T_at {l : List Nat} {i c : Nat} (h : (T l).cps[i]? = some c) : l[i]? = some c := by
  have h : l.toArray[i]? = some c := h
  rw [List.getElem?_toArray] at h
  exact h
theorem T_at' {l : List Nat} {i c : Nat} (h : l[i]? = some c) : (T l).cps[i]? = some c := by
  show l.toArray[i]? = some c
  rw [List.getElem?_toArray]
  exact h
theorem T_size (l : List Nat) : (T l).cps.size = l.length := by
  show l.toArray.size = _
  simp
theorem take_next {l : List Nat} {i c : Nat} (h : l[i]? = some c) : l.take (i + 1) = l.take i ++ [c] := by
  rw [List.take_add_one, h]; rfl
theorem sg_app (a : List Nat) (c : Nat) : sg a ++ [V.str (T [c])] = sg (a ++ [c]) := by
  unfold sg
  rw [List.map_append]
  rfl
theorem len_hash : (Str.ofString "#").length = 1 := by decide +kernel
end Say
namespace Say
open PySem PySem.Spec PyProof.Rows L2
theorem at_list {α : Type} {l : List α} {z : Int} (h : z.toNat < l.length) (h0 : 0 ≤ z) : atI l z = some l[z.toNat] := by
  have q : l[z.toNat]? = some l[z.toNat] := List.getElem?_eq_getElem h
  have := atI_nat q
  rwa [show ((z.toNat : Nat) : Int) = z by omega] at this
end Say
namespace Say
open PySem PySem.Spec PyProof.Rows L2
/-! ### the data -/
structure Rule where
  ah : List Nat
  ow : List Nat
  be : List Nat
  so : List Nat
def Rule.vs (ρ : Rule) : List V := [.str (T ρ.ah), .str (T ρ.ow), .str (T ρ.be), .str (T ρ.so)]
/-- a rule of a book of the letters L -/
structure RuleOk (L : List Nat) (ρ : Rule) : Prop where
  ah : ρ.ah.Sublist (35 :: L)
  ow : ∀ c ∈ ρ.ow, c ∈ L
  o1 : 1 ≤ ρ.ow.length
  o2 : ρ.ow.length ≤ 2
  be : ρ.be.Sublist (35 :: L)
  so : ∀ c ∈ ρ.so, 65 ≤ c ∧ c ≤ 90
  s3 : ρ.so.length ≤ 3
/-- the tuple at R holds the rules -/
def RulesAt (H : Hp) (R : Addr) (rs : List Rule) : Prop := ∃ ts : List Addr, H R = some (.tup (ts.map V.ref)) ∧ Paired (fun t ρ => H t = some (.tup (Rule.vs ρ))) ts rs
theorem paired_mono {α β : Type} {F G : α → β → Prop} (h : ∀ x y, F x y → G x y) : ∀ {xs : List α} {ys : List β}, Paired F xs ys → Paired G xs ys
  | _, _, .nil => .nil
  | _, _, .cons a b => .cons (h _ _ a) (paired_mono h b)
theorem paired_app {α β : Type} {F : α → β → Prop} : ∀ {xs : List α} {ys : List β} {xs' : List α} {ys' : List β}, Paired F xs ys → Paired F xs' ys' → Paired F (xs ++ xs') (ys ++ ys')
  | _, _, _, _, .nil, h => h
  | _, _, _, _, .cons a b, h => .cons a (paired_app b h)
theorem paired_len {α β : Type} {F : α → β → Prop} : ∀ {xs : List α} {ys : List β}, Paired F xs ys → xs.length = ys.length
  | _, _, .nil => rfl
  | _, _, .cons a b => by simp [paired_len b]
theorem paired_at {α β : Type} {F : α → β → Prop} : ∀ {xs : List α} {ys : List β}, Paired F xs ys → ∀ {i : Nat} {x : α}, xs[i]? = some x → ∃ y, ys[i]? = some y ∧ F x y
  | _, _, .nil, i, x, h => by cases h
  | _, _, .cons r t, 0, x, h => by
    have e := Option.some.inj h
    subst e
    exact ⟨_, rfl, r⟩
  | _, _, .cons r t, i + 1, x, h => paired_at t h
theorem paired_at' {α β : Type} {F : α → β → Prop} : ∀ {xs : List α} {ys : List β}, Paired F xs ys → ∀ {i : Nat} {y : β}, ys[i]? = some y → ∃ x, xs[i]? = some x ∧ F x y
  | _, _, .nil, i, x, h => by cases h
  | _, _, .cons r t, 0, x, h => by
    have e := Option.some.inj h
    subst e
    exact ⟨_, rfl, r⟩
  | _, _, .cons r t, i + 1, x, h => paired_at' t h
theorem RulesAt.kt {H H' : Hp} {R : Addr} {rs : List Rule} (h : RulesAt H R rs) (e : KT H H') : RulesAt H' R rs := by
  obtain ⟨ts, h1, h2⟩ := h
  exact ⟨ts, e.1 _ _ h1, paired_mono (fun t ρ q => e.1 _ _ q) h2⟩
theorem Stp.kt {r a : Addr} {H H' : Hp} (e : Stp r H H') (w : RowIn H r a) : KT H H' := KT.by fun t u h hu => by
  obtain ⟨i, c, m, q, _⟩ := w
  exact e t _ h (ne_of h q (by rcases hu with ⟨_, rfl⟩ | ⟨_, _, rfl⟩ <;> (intro z; cases z)))
theorem kt_new {H : Hp} {D : Addr} {o : HO} (h : H D = none) : KT H (upd H D o) := KT.of (same_new h o)
theorem kt_upd {H : Hp} {D : Addr} {l : List V} {o : HO} (h : H D = some (.lst l)) : KT H (upd H D o) := KT.by fun t u q hu => by
  rw [upd_ne (ne_of q h (by rcases hu with ⟨_, rfl⟩ | ⟨_, _, rfl⟩ <;> (intro z; cases z)))]
  exact q
end Say
namespace Say
open PySem PySem.Spec PyProof.Rows L2
/-- the built-in names that the text leaves alone -/
structure Bn (mg : Str → Option Value) : Prop where
  len : mg "len" = none
  rng : mg "range" = none
  tup : mg "tuple" = none
  lst : mg "list" = none
  isi : mg "isinstance" = none
  str : mg "str" = none
  all : mg "all" = none
  enu : mg "enumerate" = none
  srt : mg "sorted" = none
  bool : mg "bool" = none
def isText (l S : List Nat) (lo hi : Nat) : Bool := decide (lo ≤ l.length) && (decide (l.length ≤ hi) && l.all fun c => decide (c ∈ S))
theorem isText_of {l S : List Nat} {lo hi : Nat} (h1 : lo ≤ l.length) (h2 : l.length ≤ hi) (h3 : ∀ c ∈ l, c ∈ S) : isText l S lo hi = true := by
  unfold isText
  rw [decide_eq_true h1, decide_eq_true h2]
  simp only [Bool.true_and, List.all_eq_true, decide_eq_true_eq]
  exact h3
/-- each sign is more than the one ahead -/
def rises : List Nat → Bool
  | a :: b :: r => decide (a < b) && rises (b :: r)
  | _ => true
end Say
namespace Say
open PySem PySem.Spec PyProof.Rows L2
theorem atI_of {α : Type} {xs : List α} {z : Int} {j : Nat} {v : α} (h : xs[j]? = some v) (e : z = (j : Int)) : atI xs z = some v := by
  rw [e]
  exact atI_nat h
end Say
section
open PySem PySem.W PyProof.Rows
local macro_rules
  | `(tactic| o_head $H) => `(tactic| exact False.elim (by assumption))
/-- the objects that the walk reads, by name -/
theorem Say.early (no : False) : PySem.Challenge.rw_saylore_k03_books_refused.Holds := by
  w_on; o_law; k_head
namespace Say
abbrev pr : Program := PySem.Challenge.rw_saylore_k03_books_refused.prog
def qv : Program := { pr with main := { pr.main with body := (pr.main.body.zipIdx.filter fun x => ([0, 124] : List Nat).contains x.2).map (·.1) } }
def lo0 : List PySem.Str := ["_wall", "SayError", "BadBook", "BadWord", "BadSounds", "BadCount", "Unsaid", "NoLetter", "NoException", "OtherLetters", "BadSamples", "BadDeed", "Halted", "BadText", "SMALL", "CAPITALS", "EDGE", "NO_BOOK", "LETTERS", "RULES", "EXCEPTIONS", "MOST_RULES", "MOST_EXCEPTIONS", "LONGEST_WORD", "LONGEST_EXCEPTION", "LONGEST_RULE_SOUNDS", "LONGEST_SOUNDS", "checked_book", "check_letters", "check_rules"]
def lo1 : List PySem.Str := ["check_exceptions", "check_word", "check_excepted", "check_sounds", "is_rule", "is_beside", "is_exception", "is_excepted", "is_sounds", "is_text", "is_rising", "is_count", "OWN", "SOUNDS", "SETTLING", "fits", "first_fit", "steps_of", "taken", "ending", "ending_sounds", "word_sounds", "numbers_of", "sounds_of", "walk", "said", "walked", "LONG", "LONGEST_WRITING", "writings"]
def lo2 : List PySem.Str := ["ruled_writings", "longer_beginnings", "EVEN", "UNLIKE", "LEADS", "least_word", "keep", "lead_of", "stems_of", "UnsaidHunt", "UseHunt", "PartedHunt", "parted", "use", "unsaid", "idle", "free", "needless", "swapped", "SIZES", "Desk", "check_place", "check_deeds", "is_deed", "with_rule", "without_rule", "without_word", "MOST_SAMPLES", "least", "blamed"]
def lo3 : List PySem.Str := ["check_all", "check_samples", "are_said", "is_said", "Sayer", "EMPTY", "written", "marked", "_law_row", "_law_taken", "_law_letters", "_law_odd_book", "_law_text", "_law_side", "_law_rule", "_law_rules", "_law_alike", "_law_word", "_law_fits", "_law_walk", "_law_said"]
def lo : List PySem.Str := lo0 ++ lo1 ++ lo2 ++ lo3
def asL : List Addr := [2, 3, 33, 35, 36, 38, 39, 40, 47, 48, 49, 50, 53, 56, 61, 62, 64, 65, 67, 68, 69, 70, 71, 74, 81, 82, 83, 86, 93, 94, 95, 98, 105, 106, 107, 110, 113, 118, 119, 121, 122, 124, 125, 126, 127, 128, 131, 138, 139, 140, 143, 150, 151, 152, 155, 162, 163, 164, 167, 170, 175, 176, 178, 179, 181, 182, 183, 184, 185, 188, 191, 196, 197, 199, 200, 202, 203, 204, 205, 206, 209, 212, 217, 218, 220, 221, 223, 224, 225, 226, 227, 230, 233, 238, 239, 241, 242, 244, 245, 246, 247, 248, 251, 253, 254, 256, 257, 258, 260, 261, 263, 264, 265, 267, 268, 270, 271, 272, 274, 275, 277, 278, 279, 281, 282, 284, 285, 286, 288, 289, 291, 292, 293, 295, 296, 298, 299, 300, 302, 303, 305, 306, 307, 309, 310, 312, 313, 314, 316, 317, 319, 320, 321, 323, 324, 326, 327, 328, 330, 331, 333, 334, 335, 338, 339, 340, 343, 344, 345, 347, 348, 350, 351, 352, 354, 355, 357, 358, 359, 361, 362, 364, 365, 366, 368, 369, 371, 372, 373, 375, 376, 378, 379, 380, 382, 383, 385, 386, 387, 389, 390, 392, 393, 394, 396, 397, 399, 400, 401, 404, 405, 406, 409, 410, 411, 413, 414, 416, 417, 418, 420, 421, 423, 424, 425, 427, 428, 430, 431, 432, 433, 436, 437, 438, 440, 441, 443, 444, 445, 447, 448, 450, 451, 452, 453, 454, 456, 457, 459, 460, 461, 463, 464, 466, 467, 468, 470, 471, 473, 474, 475, 478, 479, 487, 489, 490, 492, 493, 494, 496, 497, 499, 500, 501, 503, 504, 506, 507, 508, 510, 511, 513, 514, 515, 516, 517, 518, 519, 529, 531, 532, 534, 535, 536, 538, 539, 541, 542, 543, 545, 546, 548, 549, 550, 552, 553, 555, 556, 557, 558, 559, 560, 561, 571, 573, 574, 576, 577, 578, 580, 581, 583, 584, 585, 587, 588, 590, 591, 592, 594, 595, 597, 598, 599, 601, 602, 604, 605, 606, 608, 609, 611, 612, 613, 614, 615, 616, 617, 620, 622, 623, 625, 626, 627, 629, 630, 632, 633, 634, 636, 637, 639, 640, 641, 644, 645, 646, 648, 649, 651, 652, 653, 656, 657, 658, 660, 661, 663, 664, 665, 673, 675, 676, 678, 679, 680, 682, 683, 685, 686, 687, 689, 690, 692, 693, 694, 696, 697, 699, 700, 701, 703, 704, 706, 707, 708, 710, 711, 713, 714, 715, 717, 718, 720, 721, 722, 724, 725, 727, 728, 729, 730, 732, 733, 735, 736, 737, 739, 740, 742, 743, 744, 746, 747, 749, 750, 751, 753, 754, 756, 757, 758, 761, 762, 763, 764, 765, 766, 767, 770, 772, 773, 775, 776, 777, 779, 780, 782, 783, 784, 786, 787, 789, 790, 791, 793, 794, 796, 797, 798, 800, 801, 803, 804, 805, 808, 809, 810, 813, 814, 815, 818, 819, 820, 822, 823, 825, 826, 827, 829, 830, 832, 833, 834, 836, 837, 839, 840, 841, 843, 844, 846, 847, 855, 857, 858, 860, 861, 862, 864, 865, 867, 868, 869, 871, 872, 874, 875, 876, 878, 879, 881, 882, 883, 885, 886, 888, 889, 890, 892, 893, 895, 896, 897, 899, 900, 902, 903, 904, 905, 906, 907, 908, 911, 914, 915, 916, 918, 919, 921, 922, 923, 925, 926, 928, 929, 930, 932, 933, 935, 936, 937, 939, 940, 942, 943, 944, 947, 948, 949, 952, 953, 954, 957, 958, 959, 961, 962, 964, 965, 966, 969, 970, 971, 974, 975, 976, 978, 979, 981, 982, 983, 985, 986, 988, 989, 990, 993, 994, 995, 998, 999, 1000, 1003, 1004]
def tsL : List Addr := [1001]
theorem ekL : ∀ P, asL = (Say.early.heap_39 P).map (·.1) := fun P => by kernel_rfl
abbrev xt (s : Shared) : Bool := xlAt qv [] s && recOk (RowW.records (OpenRow.toRowW (OpenLaw.row PySem.Challenge.rw_saylore_k03_books_refused))) s
/-- the run at a world -/
abbrev RunAt (w : World) : Prop := Option.map (fun x : Shared × SharedT => (HeadRun.looksF pr x.1.heap x.2.abs, HeadRun.seenQ qv lo (importedModules pr.main.body) xt x.2.abs, asL.map (HeadRun.getT x.2), tsL.map (HeadRun.getT x.2)))
      (HeadRun.wholeF (fun p => HeadRun.stepQ (HeadRun.denQ HeadRun.tabQ) p w) HeadRun.fenceQ 30000 pr) = some (true, openGood qv lo, (Say.early.heap_39 w.params).map (fun x => some x.2), tsL.map fun _ => some (tabObj #[]))
theorem run_f : ∀ w : World, RunAt (w.withFollow "special-get-raises" false) := fun w => by kernel_rfl
theorem run_t : ∀ w : World, RunAt (w.withFollow "special-get-raises" true) := fun w => by kernel_rfl
theorem leftT : LeftO pr qv lo xt (kmHook Say.early.heap_39 asL ekL [1001]).obs (kmHook Say.early.heap_39 asL ekL [1001]).val 30000 true := by
  refine HeadRun.left_imp fun w => ?_
  have z := byRow2 "special-get-raises" (P := RunAt) run_f run_t w
  have g : ∀ (s : SharedT) (l : List Addr), l.map (HeadRun.getT s) = l.map s.abs.heap.get? := fun s l => List.map_congr_left fun a _ => HeadRun.getT_eq s a
  simp only [RunAt, g] at z
  rw [HeadRun.wholeQ_eq]
  simp only [HeadRun.seenQ_eq]
  exact z
end Say
end
namespace Say
open PySem PySem.Spec PyProof.Rows L2
section
variable {P : Program} {w : World} {K : PySem.W.Frag} {mg : Str → Option Value} {base : Heap}
abbrev sIsText : Stmt := topS 42
theorem scIsText : FnScope ["text", "signs", "least", "most", "sign"] ["text", "signs", "least", "most"] (defScope sIsText) := ⟨rfl, rfl, rfl, by decide +kernel, rfl, by decide +kernel, by decide +kernel⟩
def spIsText : Sp := fun vs H Q _ => ∃ (l S : List Nat) (lo hi : Nat), vs = [.str (T l), .str (T S), .int lo, .int hi] ∧ l.length ≤ 100 ∧
  ∀ (H' : Hp), Same H H' → Q (.bl (isText l S lo hi)) H'
theorem ok_isText {f : Addr} {fd : FuncData} (F : Fun K "is_text" "is_text" sIsText f fd) (B : Bn mg) :
    FnOk P w K mg base CX0 1 f fd ["text", "signs", "least", "most"] spIsText := by
  refine F.ok scIsText (fun vs H Q E h => ?_) (fun cdv A outer s H vs Q E hr h => ?_)
  · obtain ⟨l, S, lo, hi, rfl, _⟩ := h
    rfl
  · obtain ⟨l, S, lo, hi, rfl, hz, q⟩ := h
    refine ⟨_, pss_cons (ps_if (PW.pt (pw_or (pt_not (pt_val (pe_callB call_isi (by rfl) B.isi (by decide +kernel) (pa_cons (pv 0) (pa_cons (pe_bltn (v := .ty "str") rfl B.str (by decide +kernel) rfl) pa_nil)))))
          (pw_or1 (pt_not (pt_chain op_le op_le (pv 2) (pe_callB call_len_str (by rfl) B.len PySem.boot_len (pa_cons (pv 0) pa_nil)) (pv 3)))))) (pss_one (ps_ret pe_bl)) pss_nil)
      (pss_one (ps_ret (pe_callB (cr_all rfl) (by rfl) B.all (by decide +kernel) (pa_cons (pe_lc (own := [("sign", 4)]) (g := gName 4) rfl scIsText.nd (pi_str (pv 0))
        (blkOk_by (N := ["text", "signs", "least", "most", "sign"]) (sc := defScope sIsText) (by decide +kernel)) (fun _ _ _ _ _ => pg_name (i := 4) scIsText.nd rfl (.inl rfl))
        (fun _ _ _ _ _ => pts_nil) (fun _ _ _ _ _ => pe_cmpR op_in_sign (pv 4) (pv 1) rfl)) pa_nil)))), ?_⟩
    refine ⟨_, rfl, _, _, .type "str", _, true, rfl, ClsV.ty _, .base (.str _), kit_ty (by decide +kernel), true, rfl, ?_⟩
    refine iteF ?_
    have hlen : (T l).length ≤ sizeLine := by rw [T_len]; exact small (by omega)
    refine ⟨_, rfl, _, rfl, _, rfl, hlen, _, _, rfl, rfl, _, rfl, ?_⟩
    have eT : (lo : Int) ≤ ((T l).length : Int) ↔ lo ≤ l.length := by rw [T_len]; omega
    have eU : ((T l).length : Int) ≤ (hi : Int) ↔ l.length ≤ hi := by rw [T_len]; omega
    refine ite2 (fun c1 => ?_) (fun c1 => ?_)
    · refine ⟨_, rfl, _, _, rfl, rfl, _, rfl, ?_⟩
      have c1' := eT.mp (of_decide_eq_true c1)
      by_cases c2 : ((T l).length : Int) ≤ (hi : Int)
      · rw [decide_eq_true c2]
        have c2' := eU.mp c2
        refine iteF ?_
        refine ⟨_, rfl, T l, rfl, fun D hD => ?_⟩
        refine lc_it (walk_str) (fun i H2 => H2 D = some (.lst (((l.take i).map fun c => decide (c ∈ S)).map V.bl)) ∧ Same H H2) ?_ (fun _ _ _ _ => trivial) ?_ ?_
        · exact ⟨upd_same, same_new hD _⟩
        · rintro i x H2 H2' hi' ⟨e1, e2⟩ ⟨rfl, c, hc, rfl⟩
          have hc := T_at hc
          refine ⟨rfl, ?_⟩
          refine ⟨_, rfl, _, rfl, c, T S, rfl, rfl, _, e1, ?_, ?_, ?_⟩
          · rw [List.length_map, List.length_map, List.length_take]
            exact small1000 (by omega)
          · rw [upd_same, take_next hc, List.map_append, List.map_append]
            rfl
          · exact fun b u q => by
              rw [upd_ne (ne_of_none q hD)]
              exact e2 b u q
        · rintro H2 ⟨e1, e2⟩
          rw [T_size, List.take_length] at e1
          refine ⟨D, _, rfl, .inl (.inl e1), ?_⟩
          have := q H2 e2
          unfold isText at this
          rw [decide_eq_true c1', decide_eq_true c2', Bool.true_and, Bool.true_and] at this
          rw [List.all_map]
          exact this
      · rw [decide_eq_false c2]
        refine iteT ?_
        have := q H (Same.refl H)
        unfold isText at this
        rw [decide_eq_false (fun z => c2 (eU.mpr z)), Bool.false_and, Bool.and_false] at this
        exact this
    · refine ⟨_, rfl, iteT ?_⟩
      have := q H (Same.refl H)
      unfold isText at this
      rw [decide_eq_false (fun z => c1 (decide_eq_true (eT.mpr z))), Bool.false_and] at this
      exact this
end
end Say
namespace Say
open PySem PySem.Spec PyProof.Rows L2
section
variable {P : Program} {w : World} {K : PySem.W.Frag} {mg : Str → Option Value} {base : Heap}
abbrev sRise : Stmt := topS 43
theorem scRise : FnScope ["text", "at"] ["text"] (defScope sRise) := ⟨rfl, rfl, rfl, by decide +kernel, rfl, by decide +kernel, by decide +kernel⟩
/-- the j-th sign against the next, for j below n -/
def risesTo (l : List Nat) (n : Nat) : List Bool := (List.range n).map fun j => decide ((l.getD j 0) < (l.getD (j + 1) 0))
theorem rises_range : ∀ l : List Nat, (risesTo l (l.length - 1)).all id = rises l
  | [] => rfl
  | [_] => rfl
  | a :: b :: r => by
    have ih := rises_range (b :: r)
    show (risesTo (a :: b :: r) (r.length + 1)).all id = (decide (a < b) && rises (b :: r))
    rw [← ih]
    unfold risesTo
    rw [List.range_succ_eq_map, List.map_cons, List.map_map, List.all_cons]
    rfl
theorem risesTo_next (l : List Nat) (n : Nat) : risesTo l (n + 1) = risesTo l n ++ [decide ((l.getD n 0) < (l.getD (n + 1) 0))] := by
  unfold risesTo
  rw [List.range_succ, List.map_append]
  rfl
theorem risesTo_len (l : List Nat) (n : Nat) : (risesTo l n).length = n := by
  unfold risesTo
  rw [List.length_map, List.length_range]
def spRise : Sp := fun vs H Q _ => ∃ (l : List Nat), vs = [.str (T l)] ∧ l.length ≤ 100 ∧ ∀ (H' : Hp), Same H H' → Q (.bl (rises l)) H'
theorem lt_one (a b : Nat) : decide (([a] : List Nat) < [b]) = decide (a < b) := by
  by_cases h : a < b
  · rw [decide_eq_true h, decide_eq_true]
    exact List.Lex.rel h
  · rw [decide_eq_false h, decide_eq_false]
    intro z
    cases z with
    | rel q => exact h q
    | cons q => cases q
theorem ok_rise {f : Addr} {fd : FuncData} (F : Fun K "is_rising" "is_rising" sRise f fd) (B : Bn mg) : FnOk P w K mg base CX0 1 f fd ["text"] spRise := by
  refine F.ok scRise (fun vs H Q E h => ?_) (fun cdv A outer s H vs Q E hr h => ?_)
  · obtain ⟨l, rfl, _⟩ := h
    rfl
  · obtain ⟨l, rfl, hz, q⟩ := h
    have hlen : (T l).length ≤ sizeLine := by rw [T_len]; exact small (by omega)
    refine ⟨_, pss_one (ps_ret (pe_callB (cr_all rfl) (by rfl) B.all (by decide +kernel) (pa_cons (pe_lc (own := [("at", 1)]) (g := gName 1) rfl scRise.nd
        (pi_range2 rfl B.rng (pa_cons pe_int (pa_cons (pe_callB call_len_str (by rfl) B.len PySem.boot_len (pa_cons (pv 0) pa_nil)) pa_nil)))
        (blkOk_by (N := ["text", "at"]) (sc := defScope sRise) (by decide +kernel)) (fun _ _ _ _ _ => pg_name (i := 1) scRise.nd rfl (.inl rfl))
        (fun _ _ _ _ _ => pts_nil) (fun _ _ _ _ _ => pe_cmpR op_lt_str (pe_ix ix_str (pv 0) (pe_op op_sub (pv 1) pe_int) (fun _ _ => rfl)) (pe_ix ix_str (pv 0) (pv 1) (fun _ _ => rfl)) (nomark _))) pa_nil))), ?_⟩
    refine ⟨_, rfl, _, rfl, hlen, 1, _, rfl, ⟨by decide, by decide, by omega, by rw [T_len]; omega⟩, fun D hD => ?_⟩
    refine lc_it (walk_range) (fun i H2 => H2 D = some (.lst ((risesTo l i).map V.bl)) ∧ Same H H2) ?_ (fun _ _ _ _ => trivial) ?_ ?_
    · exact ⟨upd_same, same_new hD _⟩
    · rintro i x H2 H2' hi' ⟨e1, e2⟩ ⟨rfl, rfl⟩
      rw [T_len] at hi'
      have g1 : i < l.length := by omega
      have g2 : i + 1 < l.length := by omega
      refine ⟨rfl, ?_⟩
      have q1 : (T l).cps.toList[i]? = some (l.getD i 0) := by rw [T_cps, List.getD_eq_getElem?_getD, List.getElem?_eq_getElem g1]; rfl
      have q2 : (T l).cps.toList[i + 1]? = some (l.getD (i + 1) 0) := by rw [T_cps, List.getD_eq_getElem?_getD, List.getElem?_eq_getElem g2]; rfl
      refine ⟨_, rfl, _, rfl, _, _, rfl, rfl, T l, 1 + (i : Int) - 1, l.getD i 0, rfl, rfl, hlen, atI_of q1 (by omega), ?_⟩
      refine ⟨_, rfl, _, rfl, T l, 1 + (i : Int), l.getD (i + 1) 0, rfl, rfl, hlen, atI_of q2 (by omega), ?_⟩
      refine ⟨_, _, rfl, rfl, _, e1, ?_, ?_, ?_⟩
      · rw [List.length_map, risesTo_len]
        exact small1000 (by omega)
      · rw [upd_same, risesTo_next, List.map_append]
        show some (HO.lst (_ ++ [V.bl (decide (([l.getD i 0] : List Nat) < [l.getD (i + 1) 0]))])) = _
        rw [lt_one]
        rfl
      · exact fun b u q => by
          rw [upd_ne (ne_of_none q hD)]
          exact e2 b u q
    · rintro H2 ⟨e1, e2⟩
      rw [show (((T l).length : Int) - 1).toNat = l.length - 1 by rw [T_len]; omega] at e1
      refine ⟨D, _, rfl, .inl (.inl e1), ?_⟩
      rw [rises_range]
      exact q H2 e2
end
end Say
namespace Say
open PySem PySem.Spec PyProof.Rows L2
/-- the letters of a book -/
structure LetOk (L : List Nat) : Prop where
  l2 : 2 ≤ L.length
  l4 : L.length ≤ 4
  up : rises L = true
  az : ∀ c ∈ L, 97 ≤ c ∧ c ≤ 122
theorem rises_iff : ∀ l : List Nat, rises l = true ↔ l.Pairwise (· < ·)
  | [] => by simp [rises]
  | [a] => by simp [rises]
  | a :: b :: r => by
    have ih := rises_iff (b :: r)
    show (decide (a < b) && rises (b :: r)) = true ↔ _
    rw [Bool.and_eq_true, ih, List.pairwise_cons (a := a)]
    constructor
    · rintro ⟨h1, h2⟩
      have h1 := of_decide_eq_true h1
      refine ⟨fun x hx => ?_, h2⟩
      rcases List.mem_cons.mp hx with rfl | hx
      · exact h1
      · exact Nat.lt_trans h1 ((List.pairwise_cons.mp h2).1 x hx)
    · rintro ⟨h1, h2⟩
      exact ⟨decide_eq_true (h1 b (List.mem_cons_self ..)), h2⟩
theorem LetOk.hash {L : List Nat} (h : LetOk L) : rises (35 :: L) = true := (rises_iff _).mpr (List.pairwise_cons.mpr ⟨fun c hc => by have := (h.az c hc).1; omega, (rises_iff _).mp h.up⟩)
theorem side_ok {L z : List Nat} (h : LetOk L) (s : z.Sublist (35 :: L)) : (isText z (35 :: L) 0 (L.length + 1) && rises z) = true := by
  rw [Bool.and_eq_true]
  exact ⟨isText_of (Nat.zero_le _) (by have := s.length_le; simpa using this) fun c hc => s.subset hc, (rises_iff _).mpr (((rises_iff _).mp h.hash).sublist s)⟩
/-- a constant that holds a number -/
abbrev KI (mg : Str → Option Value) (x : Str) (n : Int) : Prop := ∃ t, mg x = some (.int n t)
/-- what the module's constants hold -/
structure Cn (mg : Str → Option Value) : Prop where
  small : ∃ t, mg "SMALL" = some (.str "abcdefghijklmnopqrstuvwxyz" t)
  caps : ∃ t, mg "CAPITALS" = some (.str "ABCDEFGHIJKLMNOPQRSTUVWXYZ" t)
  edge : ∃ t, mg "EDGE" = some (.str "#" t)
  mrul : ∃ t, mg "MOST_RULES" = some (.int 12 t)
  lexc : ∃ t, mg "LONGEST_EXCEPTION" = some (.int 8 t)
  lrs : ∃ t, mg "LONGEST_RULE_SOUNDS" = some (.int 3 t)
  lso : ∃ t, mg "LONGEST_SOUNDS" = some (.int 36 t)
def smallL : List Nat := (List.range 26).map (· + 97)
def capsL : List Nat := (List.range 26).map (· + 65)
theorem small_eq : Str.ofString "abcdefghijklmnopqrstuvwxyz" = T smallL := by decide +kernel
theorem caps_eq : Str.ofString "ABCDEFGHIJKLMNOPQRSTUVWXYZ" = T capsL := by decide +kernel
theorem mem_small {c : Nat} (h : 97 ≤ c ∧ c ≤ 122) : c ∈ smallL := List.mem_map.mpr ⟨c - 97, List.mem_range.mpr (by omega), by omega⟩
theorem mem_caps {c : Nat} (h : 65 ≤ c ∧ c ≤ 90) : c ∈ capsL := List.mem_map.mpr ⟨c - 65, List.mem_range.mpr (by omega), by omega⟩
section
variable {P : Program} {w : World} {K : PySem.W.Frag} {mg : Str → Option Value} {base : Heap}
abbrev psIsText : List Str := ["text", "signs", "least", "most"]
abbrev sBeside : Stmt := topS 38
theorem scBeside : FnScope ["letters", "signs"] ["letters", "signs"] (defScope sBeside) := ⟨rfl, rfl, rfl, by decide +kernel, rfl, by decide +kernel, by decide +kernel⟩
def spBeside : Sp := fun vs H Q _ => ∃ (L z : List Nat), vs = [.str (T L), .str (T z)] ∧ L.length ≤ 50 ∧ z.length ≤ 100 ∧ ∀ (H' : Hp), Same H H' → Q (.bl (isText z (35 :: L) 0 (L.length + 1) && rises z)) H'
theorem ok_beside {f : Addr} {fd : FuncData} (F : Fun K "is_beside" "is_beside" sBeside f fd) (B : Bn mg) (C : Cn mg) (DT : Df P w K mg base "is_text" psIsText 1 spIsText) (DR : Df P w K mg base "is_rising" ["text"] 1 spRise) :
    FnOk P w K mg base CX0 2 f fd ["letters", "signs"] spBeside := by
  obtain ⟨fT, fdT, GT, kT, bT, mT⟩ := DT
  obtain ⟨fR, fdR, GR, kR, bR, mR⟩ := DR
  obtain ⟨tE, mE⟩ := C.edge
  refine F.ok scBeside (fun vs H Q E h => ?_) (fun cdv A outer s H vs Q E hr h => ?_)
  · obtain ⟨L, z, rfl, _⟩ := h
    rfl
  · obtain ⟨L, z, rfl, hL, hz, q⟩ := h
    refine ⟨_, pss_one (ps_ret (pe_and (pe_call GT hr (by rfl) mT kT bT .nil pass0 (pa_cons (pv 1) (pa_cons (pe_op op_add_str (pe_glob (v := .str "#") rfl mE ⟨_, rfl⟩) (pv 0)) (pa_cons pe_int (pa_cons (pe_op op_add (pe_callB call_len_str (by rfl) B.len PySem.boot_len (pa_cons (pv 0) pa_nil)) pe_int) pa_nil)))))
        (pe_one (pe_call GR hr (by rfl) mR kR bR .nil pass0 (pa_cons (pv 1) pa_nil))))), ?_⟩
    have hl : (T L).length ≤ sizeLine := by rw [T_len]; exact small (by omega)
    refine ⟨_, rfl, _, rfl, _, _, rfl, rfl, (by rw [len_hash, T_len]; exact small (by omega)), _, rfl, _, rfl, hl, _, _, rfl, rfl, z, 35 :: L, 0, L.length + 1, ?_, hz, fun H1 s1 => ?_⟩
    · rw [hash_app, T_len]
      rfl
    refine ⟨_, rfl, ite2 (fun c => ?_) (fun c => ?_)⟩
    · refine ⟨_, rfl, z, rfl, hz, fun H2 s2 => ?_⟩
      have := q H2 (s1.trans s2)
      rw [c, Bool.true_and] at this
      exact this
    · have := q H1 s1
      rw [Bool.eq_false_iff.mpr c, Bool.false_and] at this
      exact this
abbrev sIsRule : Stmt := topS 37
theorem scIsRule : FnScope ["letters", "rule", "ahead", "own", "behind", "sounds"] ["letters", "rule"] (defScope sIsRule) := ⟨rfl, rfl, rfl, by decide +kernel, rfl, by decide +kernel, by decide +kernel⟩
def spIsRule : Sp := fun vs H Q _ => ∃ (L : List Nat) (t : Addr) (ρ : Rule), vs = [.str (T L), .ref t] ∧ H t = some (.tup ρ.vs) ∧ LetOk L ∧ RuleOk L ρ ∧ ∀ (H' : Hp), Same H H' → Q (.bl true) H'
theorem ok_isRule {f : Addr} {fd : FuncData} (F : Fun K "is_rule" "is_rule" sIsRule f fd) (B : Bn mg) (C : Cn mg) (DT : Df P w K mg base "is_text" psIsText 1 spIsText) (DB : Df P w K mg base "is_beside" ["letters", "signs"] 2 spBeside) :
    FnOk P w K mg base CX0 3 f fd ["letters", "rule"] spIsRule := by
  obtain ⟨fT, fdT, GT, kT, bT, mT⟩ := DT
  obtain ⟨fB, fdB, GB, kB, bB, mB⟩ := DB
  obtain ⟨tC, mC⟩ := C.caps
  obtain ⟨tS, mS⟩ := C.lrs
  refine F.ok scIsRule (fun vs H Q E h => ?_) (fun cdv A outer s H vs Q E hr h => ?_)
  · obtain ⟨L, t, ρ, rfl, _⟩ := h
    rfl
  · obtain ⟨L, t, ρ, rfl, ht, hL, hρ, q⟩ := h
    have hr1 : Room 1 _ := hr.mono (by decide)
    refine ⟨_, pss_cons (ps_if (PW.pt (pw_or (pt_not (pt_val (pe_callB call_isi (by rfl) B.isi (by decide +kernel) (pa_cons (pv 1) (pa_cons (pe_bltn (v := .ty "tuple") rfl B.tup (by decide +kernel) rfl) pa_nil)))))
          (pw_or1 (pt_cmpR op_ne (pe_callB call_len (by rfl) B.len PySem.boot_len (pa_cons (pv 1) pa_nil)) pe_int (nomark _))))) (pss_one (ps_ret pe_bl)) pss_nil)
      (pss_cons (ps_asg (pv 1) (pg_tup (by rfl) (pgs_cons (pg_name (i := 2) scIsRule.nd rfl (.inl rfl)) (pgs_cons (pg_name (i := 3) scIsRule.nd rfl (.inl rfl)) (pgs_cons (pg_name (i := 4) scIsRule.nd rfl (.inl rfl)) (pgs_cons (pg_name (i := 5) scIsRule.nd rfl (.inl rfl)) pgs_nil))))))
      (pss_one (ps_ret (pe_and (pe_call GB hr (by rfl) mB kB bB .nil pass0 (pa_cons (pv 0) (pa_cons (pv 2) pa_nil)))
        (pe_and (pe_call GT hr1 (by rfl) mT kT bT .nil pass0 (pa_cons (pv 3) (pa_cons (pv 0) (pa_cons pe_int (pa_cons pe_int pa_nil)))))
        (pe_and (pe_call GB hr (by rfl) mB kB bB .nil pass0 (pa_cons (pv 0) (pa_cons (pv 4) pa_nil)))
        (pe_one (pe_call GT hr1 (by rfl) mT kT bT .nil pass0 (pa_cons (pv 5) (pa_cons (pe_glob (v := .str "ABCDEFGHIJKLMNOPQRSTUVWXYZ") rfl mC ⟨_, rfl⟩) (pa_cons pe_int (pa_cons (pe_glob (v := .int 3) rfl mS ⟨_, rfl⟩) pa_nil)))))))))))), ?_⟩
    have l5 := hρ.ah.length_le
    have l6 := hρ.be.length_le
    rw [List.length_cons] at l5 l6
    have l4 := hL.l4
    refine ⟨_, rfl, _, _, .type "tuple", _, true, rfl, ClsV.ty _, .base (.tup ht), kit_ty (by decide +kernel), true, rfl, iteF ?_⟩
    refine ⟨_, rfl, _, 4, rfl, .inr ⟨_, .inl (.inl ht), rfl⟩, rfl, _, rfl, iteF ?_⟩
    refine ⟨_, rfl, t, _, rfl, .inl (.inl ht), rfl, _, _, rfl, _, _, rfl, _, _, rfl, _, _, rfl, rfl, ?_⟩
    refine ⟨_, rfl, _, rfl, L, ρ.ah, rfl, by omega, by omega, fun H1 s1 => ?_⟩
    refine ⟨_, rfl, ?_⟩
    rw [side_ok hL hρ.ah]
    refine iteT ?_
    refine ⟨_, rfl, _, rfl, ρ.ow, L, 1, 2, rfl, (by have := hρ.o2; omega), fun H2 s2 => ?_⟩
    refine ⟨_, rfl, ?_⟩
    rw [isText_of hρ.o1 hρ.o2 hρ.ow]
    refine iteT ?_
    refine ⟨_, rfl, _, rfl, L, ρ.be, rfl, by omega, by omega, fun H3 s3 => ?_⟩
    refine ⟨_, rfl, ?_⟩
    rw [side_ok hL hρ.be]
    refine iteT ?_
    refine ⟨_, rfl, ρ.so, capsL, 0, 3, (by rw [caps_eq]; rfl), (by have := hρ.s3; omega), fun H4 s4 => ?_⟩
    rw [isText_of (Nat.zero_le _) hρ.s3 fun c hc => mem_caps (hρ.so c hc)]
    exact q H4 (s1.trans (s2.trans (s3.trans s4)))
end
end Say
namespace PySem
open Sem (wp)
open AutoSeq1 (wpAny_loadPart')
/-- enumerate(tuple): what the making of it meets -/
theorem say_meets_enumT (l : Addr) (o0 : Obj) (items : Array Value) (n : Nat) (clC : o0.cls = .type "tuple") (dtD : o0.data = .seq items n) :
    Meets (Builtin.«enumerate.__new__» ⟨[.type "enumerate", .ref l], []⟩) (fun _ R s => s.heap.get? l = some o0 ∧
      R (.ok (.ret (.ref (s.heap.push { cls := .type "tuple_iterator", data := .fields #[.ref l, .int 0 0] }).objs.size)))
        { s with heap := (s.heap.push { cls := .type "tuple_iterator", data := .fields #[.ref l, .int 0 0] }).push { cls := .type "enumerate", data := .fields #[.none, .bool false, .ref s.heap.objs.size, rawInt 0, .none, .none] } }) :=
  .of_wp fun prog w A R s h => by
    obtain ⟨txP, g, d, tkn, os⟩ := s; obtain ⟨lnT, h⟩ := h
    obtain ⟨oc, od, dt, osl⟩ := o0
    replace clC : oc = .type "tuple" := clC
    replace dtD : dt = .seq items n := dtD
    subst clC dtD
    have hsub := sub_enumerate
    have hL : Heap.IsTuple (Shared.heap ⟨txP, g, d, tkn, os⟩) l items := ⟨_, lnT, rfl, n, rfl⟩
    wp_walk using wpAny_loadPart' lnT
    refine wpAny_stack_any fun sta => wpAny_pure ?_
    split
    · rename_i c _ _ _ _ _
      cases (c == Value.type "enumerate")
      · wp_walk using wpAny_loadPart' lnT, wpAny_pyIter_tuple hL
        exact ⟨_, rfl, h⟩
      · wp_walk using wpAny_loadPart' lnT, wpAny_pyIter_tuple hL
        exact ⟨_, rfl, h⟩
    · wp_walk using wpAny_loadPart' lnT, wpAny_pyIter_tuple hL
      exact ⟨_, rfl, h⟩
section
variable {prog : Program} {w : World} {A : Around} {E : Value → Shared → Prop} {s : Shared}
theorem say_call_enumT {l : Addr} {items : Array Value} {Q : Value → Shared → Prop} (hL : s.heap.IsTuple l items)
    (h : ∀ h', IsEnum h' (s.heap.objs.size + 1) s.heap.objs.size 0 .none → h'.IsTupleIter s.heap.objs.size l 0 → h'.objs.size = s.heap.objs.size + 2 →
      (∀ b o, s.heap.get? b = some o → h'.get? b = some o) → Q (.ref (s.heap.objs.size + 1)) { s with heap := h' }) :
    wpAny (model prog w) A (call (.type "enumerate") [.ref l]) Q E s := by
  obtain ⟨o0, lnT, clC, n, dtD⟩ := hL
  refine callType_new F.called_enumerate (by decide) (F.typeCall_enumerate_1 _) (F.newCall_enumerate_1 _) (fun obj => F.args_object_init_2 obj _) F.entry_enumerate_new
    (say_meets_enumT l o0 items n clC dtD) ⟨lnT, ?_⟩
  have szT : (s.heap.push { cls := .type "tuple_iterator", data := .fields #[.ref l, .int 0 0] }).objs.size = s.heap.objs.size + 1 := Heap.size_push ..
  show _ ∧ _
  rw [szT]
  have hEn : IsEnum ((s.heap.push { cls := .type "tuple_iterator", data := .fields #[.ref l, .int 0 0] }).push
      { cls := .type "enumerate", data := .fields #[.none, .bool false, .ref s.heap.objs.size, rawInt 0, .none, .none] }) (s.heap.objs.size + 1) s.heap.objs.size 0 .none := by
    have := Heap.get?_push_size (s.heap.push { cls := .type "tuple_iterator", data := .fields #[.ref l, .int 0 0] })
      (o := { cls := .type "enumerate", data := .fields #[.none, .bool false, .ref s.heap.objs.size, rawInt 0, .none, .none] }) rfl
    rw [szT] at this; exact this
  refine ⟨⟨_, hEn, rfl⟩, h _ hEn ⟨_, Heap.get?_push_of_some _ (Heap.get?_push_size _ rfl), rfl, rfl⟩ (by rw [Heap.size_push, szT]) fun b o x => Heap.get?_push_of_some _ (Heap.get?_push_of_some _ x)⟩
theorem say_enumT_end {e it l : Addr} {i : Nat} {j : Int} {items : Array Value} {was : Value} {Q : Option Value → Shared → Prop} (noH : A.handled = none)
    (hEn : IsEnum s.heap e it j was) (hTi : s.heap.IsTupleIter it l i) (lnT : s.heap.IsTuple l items) (atI0 : items[i]? = none)
    (hQ : ∀ h', Heap.ExtBut it s.heap h' → Q none { s with heap := h' }) : wpAny (model prog w) A (pyNext (.ref e)) Q E s := by
  have isTup : s.TypeIs (.ref e) "enumerate" := ⟨_, hEn, rfl⟩
  unfold pyNext
  refine wpAny_bind (wpAny_attempt (wpAny_callSpecial?_slot (name := Str.ofString "__next__") isTup F.slot_enumerate_next
    (wpAny_call_entry F.slot_enumerate_next isTup F.entry_enumerate_next ?_ (F.args_enumerate_next_1 _))))
  show wpAny _ _ (field (.ref e) 2 >>= _) _ _ _
  refine wpAny_bind (wpAny_field hEn rfl (x := .ref it) rfl ?_)
  refine wpAny_bind (wpAny_nextOf_tuple_end noH hTi lnT atI0 fun h' x he' hx' => ?_)
  obtain ⟨o, obO, clC⟩ := hx'
  refine wpAny_bind (wpAny_isInstance (T := "StopIteration") (b := true) ⟨o, obO, clC⟩ isSubtype_stop ?_)
  exact wpAny_pure (hQ _ he')
end
end PySem
namespace Say
open PySem PySem.Spec PyProof.Rows L2
/-- the tuple at a adrs it stands at each turn, each item in a new pair -/
def IteT (K : PySem.W.Frag) (a : Addr) : It :=
  ⟨fun i H => ∃ (xs : List V) (x : V), SqT K H a xs ∧ xs[i]? = some x, fun i H v H' => ∃ T x, v = .ref T ∧ H T = none ∧ H' = upd H T (.tup [.int (i : Nat), x]) ∧ ∀ xs, SqT K H a xs → xs[i]? = some x, fun i H => ∃ xs : List V, SqT K H a xs ∧ xs.length ≤ i⟩
theorem enum_ne {h : Heap} {e it a : Addr} {i : Int} {was : Value} {items : Array Value} (hEn : IsEnum h e it i was) (isTup : h.IsTuple a items) : e ≠ a := fun z => by
  subst z
  obtain ⟨o, obO, clC, _⟩ := isTup
  have hEn : h.get? e = some _ := hEn
  rw [hEn] at obO
  cases obO
  exact absurd (Value.type.inj clC) (by decide)
theorem tit_ne {h : Heap} {it a : Addr} {i : Nat} {items : Array Value} (hEn : h.IsTupleIter it a i) (isTup : h.IsTuple a items) : a ≠ it := fun z => by
  subst z
  obtain ⟨o, obO, clC, _⟩ := isTup
  obtain ⟨o', ho', hc', _⟩ := hEn
  rw [obO] at ho'
  cases ho'
  rw [clC] at hc'
  exact absurd (Value.type.inj hc') (by decide)
theorem turn_enumT {P : Program} {w : World} {K : PySem.W.Frag} {els : List Expr} {k9 : Nat} {tps0 : Pos} (a e it : Addr) :
    Turn P w K (.Tuple els k9 tps0) (IteT K a) [e, it] e (fun i h => (∃ was, IsEnum h e it ((i : Nat) : Int) was) ∧ h.IsTupleIter it a i ∧ e ≠ it) where
  mem := by simp
  obj := fun i h sta b hb => by
    obtain ⟨⟨was, hEn⟩, ⟨o, obO, clC, dtD⟩, _⟩ := sta
    have e' : b = e ∨ b = it := by simpa using hb
    rcases e' with z | z
    · rw [z]; exact ⟨_, hEn, fun v q => nomatch q⟩
    · rw [z]; exact ⟨o, obO, fun v q => by rw [dtD] at q; cases q⟩
  keep := fun i h h' sta k => let ⟨⟨was, hEn⟩, hi, hAp⟩ := sta; ⟨⟨was, k e (by simp) _ hEn⟩, hi.at fun o q => k it (by simp) o q, hAp⟩
  item := by
    intro X hP hw hK clC i pn s σ H E I fresh0 sta gW
    subst hP hw hK
    obtain ⟨⟨was, hEn⟩, hTi, hAp⟩ := sta
    obtain ⟨xs, x, isT, atI0⟩ := gW
    obtain ⟨its, rel, p, szT⟩ := I.tuple isT
    have p : s.heap.IsTuple a its.toArray := p
    obtain ⟨u, getU, relU⟩ := rel.get atI0
    have ltE : e < s.heap.objs.size := Heap.lt_size hEn
    have ltI : it < s.heap.objs.size := by obtain ⟨_, q, _⟩ := hTi; exact Heap.lt_size q
    have ltN : i < its.toArray.size := by
      have := (List.getElem?_eq_some_iff.mp getU).1
      simpa using this
    refine wpAny_pyNext_enum_itemD (Draws.tuple (show X.A.in1.handled = none from I.ok.hd clC) it a (tit_ne hTi p) its.toArray) hEn ⟨hTi, p⟩ ltN hAp (by
      simp only [List.mem_cons, List.not_mem_nil, or_false, not_or]
      exact ⟨hAp, enum_ne hEn p⟩) fun u' h' tkn hu' obO hst' isTup szH kpT => ?_
    have eu : u' = u := by
      have h1 : its.toArray[i]? = some u' := hu'
      rw [List.getElem?_toArray, getU] at h1
      exact (Option.some.inj h1).symm
    subst eu
    obtain ⟨hit', p'⟩ := hst'
    refine ⟨_, rfl, wpAny_letOwnedTupleGo_enum (s := { s with heap := h', toks := tkn + 1 }) obO fun h'' he' butE => ?_⟩
    have hT2 : h''.get? s.heap.objs.size = some { cls := .type "tuple", data := .seq #[.int i tkn, u'] } := (butE.2 _ (Nat.ne_of_gt ltE)).trans isTup
    have new : ObjOk X.prog X.w (upd H s.heap.objs.size (.tup [.int (i : Nat), x])) h'' s.heap.objs.size (.tup [.int (i : Nat), x]) :=
      ⟨by show 2 ≤ sizeLine; decide, [.int i tkn, u'], .cons ⟨_, rfl⟩ (.cons relU .nil), ⟨_, hT2, rfl, _, rfl⟩⟩
    have I1 : Inv X pn σ (upd H s.heap.objs.size (.tup [.int (i : Nat), x])) { s with heap := h'', toks := tkn + 1 } :=
      I.turnedNew (ch := [e, it]) (fun b ob hb q => (butE.2 b (fun z => hb (by simp [z]))).trans (kpT b ob (fun z => hb (by simp [z])) (fun z => hb (by simp [z])) q)) fresh0 (Nat.le_refl _) new
    refine ⟨.ref s.heap.objs.size, _, I1, rfl, ⟨_, x, rfl, I.hok.fresh (Nat.le_refl _), rfl, fun ys hy => by rw [I.tuple_inj hy isT]; exact atI0⟩, ⟨⟨u', ?_⟩, hit'.at fun o q => (butE.2 it (Ne.symm hAp)).trans q, hAp⟩, fun b hb => ?_⟩
    · have q1 : ((i + 1 : Nat) : Int) = (i : Int) + 1 := by omega
      rw [q1]; exact he'
    · have hb' : b < s.heap.objs.size := by
        have e' : b = e ∨ b = it := by simpa using hb
        rcases e' with z | z
        · rw [z]; exact ltE
        · rw [z]; exact ltI
      rw [upd_ne (Nat.ne_of_lt hb')]
      exact (fresh0 b hb).1
  done := by
    intro X hP hw hK clC i pn s σ H E I fresh0 sta gW
    subst hP hw hK
    obtain ⟨⟨was, hEn⟩, hTi, hAp⟩ := sta
    obtain ⟨xs, isT, atI0⟩ := gW
    obtain ⟨its, rel, p, szT⟩ := I.tuple isT
    have p : s.heap.IsTuple a its.toArray := p
    obtain ⟨f0, f1, f2, f3, f4, f5⟩ := fresh0 it (by simp)
    have hl := rel.length
    exact say_enumT_end (I.ok.hd clC) hEn hTi p (by rw [List.getElem?_toArray]; exact List.getElem?_eq_none (by omega)) fun h' eb => ⟨rfl, I.turned (t' := s.toks) (fun b o hb q => eb b o hb q) f0 f1 f3 f4 f5⟩
  self := fun A i s Q E sta h => let ⟨⟨_, hEn⟩, _⟩ := sta; wpAny_pyIter_enum hEn h
def iEnumT (K : PySem.W.Frag) (ta : TA) : TI := fun σ H R => ta σ H fun vs H1 => ∃ a xs, vs = [.ref a] ∧ SqT K H1 a xs ∧ R (IteT K a) H1
theorem pi_enumT {X : Cx} {e : Expr} {ta : TA} {p pos tps0 : Pos} {els : List Expr} {k9 : Nat} (gW : Gl X "enumerate") (hm : X.mg "enumerate" = none) (atA : PA X [e] ta) (hs : starEach [e] X.env = [(false, eval e X.env)] := by rfl) :
    PI X (.Tuple els k9 tps0) (.Call (.Name "enumerate" p) [e] [] pos) (iEnumT X.K ta) := by
  refine ⟨fun pn s σ H R I h => ?_⟩
  refine Call_ (ld_blt I gW hm boot_enumerate (PyProof.Rows.callWith_type1 (thn (atA.run pos pn s σ H _ I h) fun args s1 ⟨vs, H1, I1, r1, q1⟩ => ?_) hs rfl))
  obtain ⟨a, xs, ex, isT, q⟩ := q1
  subst ex
  cases r1 with
  | cons r rst =>
    cases rst
    cases r
    obtain ⟨its, rel, p', szT⟩ := I1.tuple isT
    refine say_call_enumT (show s1.heap.IsTuple a its.toArray from p') fun h' hEn hTi szH kpT => wpAny_pyIter_enum hEn ?_
    have I2 : Inv X pn σ H1 { s1 with heap := h' } := I1.kept (t' := s1.toks) kpT
    refine ⟨s1.heap.objs.size + 1, [s1.heap.objs.size + 1, s1.heap.objs.size], _, _, H1, rfl, I2, turn_enumT a (s1.heap.objs.size + 1) s1.heap.objs.size, ⟨⟨.none, hEn⟩, hTi, Nat.succ_ne_self _⟩, fun b hb => ?_, q⟩
    have e' : b = s1.heap.objs.size + 1 ∨ b = s1.heap.objs.size := by simpa using hb
    have hle : s1.heap.objs.size ≤ b := by
      rcases e' with z | z
      · rw [z]; exact Nat.le_add_right _ _
      · rw [z]; exact Nat.le_refl _
    exact I1.fpOk hle (I1.hok.fresh hle)
theorem walk_enumT {K : PySem.W.Frag} {a : Addr} {xs : List V} : Walk (IteT K a) xs.length (fun H => SqT K H a xs) (YPair (fun i => some (.int (i : Nat))) (fun i => xs[i]?)) := by
  refine ⟨fun i _ hi q => ⟨xs, xs[i], q, by simp [hi]⟩, fun _ q => ⟨xs, q, Nat.le_refl _⟩, fun i H v H' _ q y => ?_⟩
  obtain ⟨T, x, h1, h2, h3, h4⟩ := y
  exact ⟨T, .int (i : Nat), x, h1, h2, h3, rfl, h4 xs q⟩
end Say
namespace Say
open PySem PySem.Spec PyProof.Rows L2
abbrev Exc := List Nat × List Nat
/-- an exception of a book of the letters L -/
structure ExcOk (L : List Nat) (e : Exc) : Prop where
  w : ∀ c ∈ e.1, c ∈ L
  w1 : 1 ≤ e.1.length
  w8 : e.1.length ≤ 8
  s : ∀ c ∈ e.2, 65 ≤ c ∧ c ≤ 90
  s36 : e.2.length ≤ 36
/-- a tuple as it was made: with no attributes of its own -/
def TupN (H : Hp) (a : Addr) (xs : List V) : Prop := ∃ o : Obj, H a = some (.frz o (.tup xs)) ∧ o.dict = none
theorem TupN.kt {H H' : Hp} {a : Addr} {xs : List V} (h : TupN H a xs) (e : KT H H') : TupN H' a xs := ⟨h.choose, e.2 _ _ _ h.choose_spec.1, h.choose_spec.2⟩
theorem TupN.rd {H : Hp} {a : Addr} {xs : List V} (h : TupN H a xs) : Rd H a (.tup xs) := .inr ⟨_, h.choose_spec.1⟩
def ExcsAt (H : Hp) (X : Addr) (es : List Exc) : Prop := ∃ ts : List Addr, TupN H X (ts.map V.ref) ∧ Paired (fun t (e : Exc) => H t = some (.tup [.str (T e.1), .str (T e.2)])) ts es
theorem ExcsAt.kt {H H' : Hp} {X : Addr} {es : List Exc} (h : ExcsAt H X es) (e : KT H H') : ExcsAt H' X es := by
  obtain ⟨ts, h1, h2⟩ := h
  exact ⟨ts, h1.kt e, paired_mono (fun t ρ q => e.1 _ _ q) h2⟩
structure BookOk (L : List Nat) (rs : List Rule) (es : List Exc) : Prop where
  lt : LetOk L
  rl : ∀ ρ ∈ rs, RuleOk L ρ
  r12 : rs.length ≤ 12
  ex : ∀ e ∈ es, ExcOk L e
  e8 : es.length ≤ 8
  up : es.Pairwise fun e f => e.1 < f.1
def BookAt (H : Hp) (b : Addr) (L : List Nat) (rs : List Rule) (es : List Exc) : Prop := ∃ R X, H b = some (.tup [.str (T L), .ref R, .ref X]) ∧ RulesAt H R rs ∧ ExcsAt H X es
theorem BookAt.kt {H H' : Hp} {b : Addr} {L : List Nat} {rs : List Rule} {es : List Exc} (h : BookAt H b L rs es) (e : KT H H') : BookAt H' b L rs es := by
  obtain ⟨R, X, h1, h2, h3⟩ := h
  exact ⟨R, X, e.1 _ _ h1, h2.kt e, h3.kt e⟩
section
variable {P : Program} {w : World} {K : PySem.W.Frag} {mg : Str → Option Value} {base : Heap}
abbrev sExcd : Stmt := topS 40
theorem scExcd : FnScope ["letters", "word"] ["letters", "word"] (defScope sExcd) := ⟨rfl, rfl, rfl, by decide +kernel, rfl, by decide +kernel, by decide +kernel⟩
def spExcd : Sp := fun vs H Q _ => ∃ (L z : List Nat), vs = [.str (T L), .str (T z)] ∧ z.length ≤ 100 ∧ ∀ (H' : Hp), Same H H' → Q (.bl (isText z L 1 8)) H'
theorem ok_excd {f : Addr} {fd : FuncData} (F : Fun K "is_excepted" "is_excepted" sExcd f fd) (C : Cn mg) (DT : Df P w K mg base "is_text" psIsText 1 spIsText) :
    FnOk P w K mg base CX0 2 f fd ["letters", "word"] spExcd := by
  obtain ⟨fT, fdT, GT, kT, bT, mT⟩ := DT
  obtain ⟨tX, mX⟩ := C.lexc
  refine F.ok scExcd (fun vs H Q E h => ?_) (fun cdv A outer s H vs Q E hr h => ?_)
  · obtain ⟨L, z, rfl, _⟩ := h
    rfl
  · obtain ⟨L, z, rfl, hl, q⟩ := h
    refine ⟨_, pss_one (ps_ret (pe_call GT hr (by rfl) mT kT bT .nil pass0 (pa_cons (pv 1) (pa_cons (pv 0) (pa_cons pe_int (pa_cons (pe_glob (v := .int 8) rfl mX ⟨_, rfl⟩) pa_nil)))))), ?_⟩
    exact ⟨_, rfl, _, rfl, z, L, 1, 8, rfl, hl, q⟩
abbrev sIsSo : Stmt := topS 41
theorem scIsSo : FnScope ["sounds"] ["sounds"] (defScope sIsSo) := ⟨rfl, rfl, rfl, by decide +kernel, rfl, by decide +kernel, by decide +kernel⟩
def spIsSo : Sp := fun vs H Q _ => ∃ (z : List Nat), vs = [.str (T z)] ∧ z.length ≤ 100 ∧ ∀ (H' : Hp), Same H H' → Q (.bl (isText z capsL 0 36)) H'
theorem ok_isSo {f : Addr} {fd : FuncData} (F : Fun K "is_sounds" "is_sounds" sIsSo f fd) (C : Cn mg) (DT : Df P w K mg base "is_text" psIsText 1 spIsText) :
    FnOk P w K mg base CX0 2 f fd ["sounds"] spIsSo := by
  obtain ⟨fT, fdT, GT, kT, bT, mT⟩ := DT
  obtain ⟨tC, mC⟩ := C.caps
  obtain ⟨tS, mS⟩ := C.lso
  refine F.ok scIsSo (fun vs H Q E h => ?_) (fun cdv A outer s H vs Q E hr h => ?_)
  · obtain ⟨z, rfl, _⟩ := h
    rfl
  · obtain ⟨z, rfl, hl, q⟩ := h
    refine ⟨_, pss_one (ps_ret (pe_call GT hr (by rfl) mT kT bT .nil pass0 (pa_cons (pv 0) (pa_cons (pe_glob (v := .str "ABCDEFGHIJKLMNOPQRSTUVWXYZ") rfl mC ⟨_, rfl⟩) (pa_cons pe_int (pa_cons (pe_glob (v := .int 36) rfl mS ⟨_, rfl⟩) pa_nil)))))), ?_⟩
    exact ⟨_, rfl, z, capsL, 0, 36, (by rw [caps_eq]; rfl), hl, q⟩
abbrev sIsExc : Stmt := topS 39
theorem scIsExc : FnScope ["letters", "pair", "word", "sounds"] ["letters", "pair"] (defScope sIsExc) := ⟨rfl, rfl, rfl, by decide +kernel, rfl, by decide +kernel, by decide +kernel⟩
def spIsExc : Sp := fun vs H Q _ => ∃ (L : List Nat) (t : Addr) (e : Exc), vs = [.str (T L), .ref t] ∧ H t = some (.tup [.str (T e.1), .str (T e.2)]) ∧ ExcOk L e ∧ ∀ (H' : Hp), Same H H' → Q (.bl true) H'
theorem ok_isExc {f : Addr} {fd : FuncData} (F : Fun K "is_exception" "is_exception" sIsExc f fd) (B : Bn mg) (DX : Df P w K mg base "is_excepted" ["letters", "word"] 2 spExcd) (DS : Df P w K mg base "is_sounds" ["sounds"] 2 spIsSo) :
    FnOk P w K mg base CX0 3 f fd ["letters", "pair"] spIsExc := by
  obtain ⟨fX, fdX, GX, kX, bX, mX⟩ := DX
  obtain ⟨fS, fdS, GS, kS, bS, mS⟩ := DS
  refine F.ok scIsExc (fun vs H Q E h => ?_) (fun cdv A outer s H vs Q E hr h => ?_)
  · obtain ⟨L, t, e, rfl, _⟩ := h
    rfl
  · obtain ⟨L, t, e, rfl, ht, ho, q⟩ := h
    refine ⟨_, pss_cons (ps_if (PW.pt (pw_or (pt_not (pt_val (pe_callB call_isi (by rfl) B.isi (by decide +kernel) (pa_cons (pv 1) (pa_cons (pe_bltn (v := .ty "tuple") rfl B.tup (by decide +kernel) rfl) pa_nil)))))
          (pw_or1 (pt_cmpR op_ne (pe_callB call_len (by rfl) B.len PySem.boot_len (pa_cons (pv 1) pa_nil)) pe_int (nomark _))))) (pss_one (ps_ret pe_bl)) pss_nil)
      (pss_cons (ps_asg (pv 1) (pg_tup (by rfl) (pgs_cons (pg_name (i := 2) scIsExc.nd rfl (.inl rfl)) (pgs_cons (pg_name (i := 3) scIsExc.nd rfl (.inl rfl)) pgs_nil))))
      (pss_one (ps_ret (pe_and (pe_call GX hr (by rfl) mX kX bX .nil pass0 (pa_cons (pv 0) (pa_cons (pv 2) pa_nil)))
        (pe_one (pe_call GS hr (by rfl) mS kS bS .nil pass0 (pa_cons (pv 3) pa_nil))))))), ?_⟩
    refine ⟨_, rfl, _, _, .type "tuple", _, true, rfl, ClsV.ty _, .base (.tup ht), kit_ty (by decide +kernel), true, rfl, iteF ?_⟩
    refine ⟨_, rfl, _, 2, rfl, .inr ⟨_, .inl (.inl ht), rfl⟩, rfl, _, rfl, iteF ?_⟩
    refine ⟨_, rfl, t, _, rfl, .inl (.inl ht), rfl, _, _, rfl, _, _, rfl, rfl, ?_⟩
    refine ⟨_, rfl, _, rfl, L, e.1, rfl, (by have := ho.w8; omega), fun H1 s1 => ?_⟩
    refine ⟨_, rfl, ?_⟩
    rw [isText_of ho.w1 ho.w8 ho.w]
    refine iteT ?_
    refine ⟨_, rfl, e.2, rfl, (by have := ho.s36; omega), fun H4 s4 => ?_⟩
    rw [isText_of (Nat.zero_le _) ho.s36 fun c hc => mem_caps (ho.s c hc)]
    exact q H4 (s1.trans s4)
abbrev sChL : Stmt := topS 31
theorem scChL : FnScope ["letters"] ["letters"] (defScope sChL) := ⟨rfl, rfl, rfl, by decide +kernel, rfl, by decide +kernel, by decide +kernel⟩
def spChL : Sp := fun vs H Q _ => ∃ (L : List Nat), vs = [.str (T L)] ∧ LetOk L ∧ ∀ (H' : Hp), Same H H' → Q .non H'
theorem ok_chL {f : Addr} {fd : FuncData} (F : Fun K "check_letters" "check_letters" sChL f fd) (C : Cn mg) (DT : Df P w K mg base "is_text" psIsText 1 spIsText) (DR : Df P w K mg base "is_rising" ["text"] 1 spRise) :
    FnOk P w K mg base CX0 2 f fd ["letters"] spChL := by
  obtain ⟨fT, fdT, GT, kT, bT, mT⟩ := DT
  obtain ⟨fR, fdR, GR, kR, bR, mR⟩ := DR
  obtain ⟨tS, mS⟩ := C.small
  refine F.ok scChL (fun vs H Q E h => ?_) (fun cdv A outer s H vs Q E hr h => ?_)
  · obtain ⟨L, rfl, _⟩ := h
    rfl
  · obtain ⟨L, rfl, hL, q⟩ := h
    refine ⟨_, pss_one (ps_if (PW.pt (pw_or (pt_not (pt_val (pe_call GT hr (by rfl) mT kT bT .nil pass0 (pa_cons (pv 0) (pa_cons (pe_glob (v := .str "abcdefghijklmnopqrstuvwxyz") rfl mS ⟨_, rfl⟩) (pa_cons pe_int (pa_cons pe_int pa_nil)))))))
        (pw_or1 (pt_not (pt_val (pe_call GR hr (by rfl) mR kR bR .nil pass0 (pa_cons (pv 0) pa_nil))))))) (pss_one ps_never) pss_nil), ?_⟩
    have l4 := hL.l4
    refine ⟨_, rfl, L, smallL, 2, 4, (by rw [small_eq]; rfl), by omega, fun H1 s1 => ?_⟩
    rw [isText_of hL.l2 hL.l4 fun c hc => mem_small (hL.az c hc)]
    refine ⟨true, rfl, iteF ?_⟩
    refine ⟨_, rfl, L, rfl, by omega, fun H2 s2 => ?_⟩
    rw [hL.up]
    refine ⟨true, rfl, iteF ?_⟩
    exact q H2 (s1.trans s2)
abbrev sChR : Stmt := topS 32
theorem scChR : FnScope ["letters", "rules", "number", "rule"] ["letters", "rules"] (defScope sChR) := ⟨rfl, rfl, rfl, by decide +kernel, rfl, by decide +kernel, by decide +kernel⟩
def spChR : Sp := fun vs H Q _ => ∃ (L : List Nat) (R : Addr) (rs : List Rule), vs = [.str (T L), .ref R] ∧ LetOk L ∧ RulesAt H R rs ∧ (∀ ρ ∈ rs, RuleOk L ρ) ∧ rs.length ≤ 12 ∧ ∀ (H' : Hp), Same H H' → Q .non H'
theorem ok_chR {f : Addr} {fd : FuncData} (F : Fun K "check_rules" "check_rules" sChR f fd) (B : Bn mg) (C : Cn mg) (DI : Df P w K mg base "is_rule" ["letters", "rule"] 3 spIsRule) :
    FnOk P w K mg base CX0 4 f fd ["letters", "rules"] spChR := by
  obtain ⟨fI, fdI, GI, kI, bI, mI⟩ := DI
  obtain ⟨tS, mS⟩ := C.mrul
  refine F.ok scChR (fun vs H Q E h => ?_) (fun cdv A outer s H vs Q E hr h => ?_)
  · obtain ⟨L, R, rs, rfl, _⟩ := h
    rfl
  · obtain ⟨L, R, rs, rfl, hL, ⟨ts, hR, hp⟩, ho, h12, q⟩ := h
    refine ⟨_, pss_cons (ps_if (pt_not (pt_val (pe_callB call_isi (by rfl) B.isi (by decide +kernel) (pa_cons (pv 1) (pa_cons (pe_bltn (v := .ty "tuple") rfl B.tup (by decide +kernel) rfl) pa_nil))))) (pss_one ps_never) pss_nil)
      (pss_one (ps_for PassesOwn.never rfl (pi_enumT (by rfl) B.enu (pa_cons (pv 1) pa_nil)) (pg_tup (by rfl) (pgs_cons (pg_name (i := 2) scChR.nd rfl (.inl rfl)) (pgs_cons (pg_name (i := 3) scChR.nd rfl (.inl rfl)) pgs_nil)))
        (pss_one (ps_if (PW.pt (pw_or (pt_cmpR op_eq (pv 2) (pe_glob (v := .int 12) rfl mS ⟨_, rfl⟩) (nomark _)) (pw_or1 (pt_not (pt_val (pe_call GI hr (by rfl) mI kI bI .nil pass0 (pa_cons (pv 0) (pa_cons (pv 3) pa_nil)))))))) (pss_one ps_never) pss_nil)))), ?_⟩
    refine ⟨_, rfl, _, _, .type "tuple", _, true, rfl, ClsV.ty _, .base (.tup hR), kit_ty (by decide +kernel), true, rfl, iteF ?_⟩
    refine ⟨_, rfl, R, _, rfl, .inl (.inl hR), for_it (walk_enumT (xs := ts.map V.ref)) (fun i σ H2 => Same H H2 ∧ ∃ v2 v3, σ = [some (.str (T L)), some (.ref R), v2, v3]) ⟨Same.refl H, _, _, rfl⟩ (fun i σ H2 _ h => .inl (.inl (h.1 _ _ hR))) ?_ ?_⟩
    · rintro i x σ H2 H3 hi ⟨s2, v2, v3, rfl⟩ ⟨t, x1, x2, rfl, ht, rfl, g1, g2⟩
      cases g1
      have g2 : (ts.map V.ref)[i]? = some x2 := g2
      rw [List.getElem?_map] at g2
      obtain ⟨a, ha, e⟩ := Option.map_eq_some_iff.mp g2
      subst e
      obtain ⟨ρ, hρ, hat⟩ := paired_at hp ha
      have sm := same_new ht (.tup [.int (i : Nat), .ref a])
      have hi2 : i < rs.length := (List.getElem?_eq_some_iff.mp hρ).1
      refine ⟨t, _, rfl, .inl (.inl upd_same), rfl, _, _, rfl, _, _, rfl, rfl, ?_⟩
      refine ⟨_, rfl, rfl, _, rfl, ?_⟩
      have nq : ¬ V.int ((i : Nat) : Int) = V.int 12 := fun z => by
        have := V.int.inj z
        omega
      rw [decide_eq_false nq]
      refine iteF ?_
      refine ⟨_, rfl, _, rfl, L, a, ρ, rfl, sm _ _ (s2 _ _ hat), hL, ho ρ (List.mem_of_getElem? hρ), fun H4 s4 => ?_⟩
      exact ⟨true, rfl, iteF ⟨s2.trans (sm.trans s4), _, _, rfl⟩⟩
    · rintro σ H2 ⟨s2, v2, v3, rfl⟩
      exact q H2 s2
end
end Say
namespace Say
open PySem PySem.Spec PyProof.Rows L2
section
variable {P : Program} {w : World} {K : PySem.W.Frag} {mg : Str → Option Value} {base : Heap}
abbrev sChE : Stmt := topS 33
theorem scChE : FnScope ["letters", "exceptions", "last", "number", "pair"] ["letters", "exceptions"] (defScope sChE) := ⟨rfl, rfl, rfl, by decide +kernel, rfl, by decide +kernel, by decide +kernel⟩
def spChE : Sp := fun vs H Q _ => ∃ (L : List Nat) (X : Addr) (es : List Exc), vs = [.str (T L), .ref X] ∧ ExcsAt H X es ∧ (∀ e ∈ es, ExcOk L e) ∧ es.length ≤ 8 ∧ (es.Pairwise fun e f => e.1 < f.1) ∧ ∀ (H' : Hp), Same H H' → Q .non H'
theorem ok_chE {f : Addr} {fd : FuncData} (F : Fun K "check_exceptions" "check_exceptions" sChE f fd) (B : Bn mg) (cM : KI mg "MOST_EXCEPTIONS" 8) (DI : Df P w K mg base "is_exception" ["letters", "pair"] 3 spIsExc) :
    FnOk P w K mg base CX0 4 f fd ["letters", "exceptions"] spChE := by
  obtain ⟨fI, fdI, GI, kI, bI, mI⟩ := DI
  obtain ⟨tS, mS⟩ := cM
  refine F.ok scChE (fun vs H Q E h => ?_) (fun cdv A outer s H vs Q E hr h => ?_)
  · obtain ⟨L, X, es, rfl, _⟩ := h
    rfl
  · obtain ⟨L, X, es, rfl, ⟨ts, hX, hp⟩, ho, h8, up, q⟩ := h
    refine ⟨_, pss_cons (ps_if (pt_not (pt_val (pe_callB call_isi (by rfl) B.isi (by decide +kernel) (pa_cons (pv 1) (pa_cons (pe_bltn (v := .ty "tuple") rfl B.tup (by decide +kernel) rfl) pa_nil))))) (pss_one ps_never) pss_nil)
      (pss_cons (ps_set (i := 2) scChE.nd rfl (.inl rfl) pe_str)
      (pss_one (ps_for PassesOwn.never rfl (pi_enumT (by rfl) B.enu (pa_cons (pv 1) pa_nil)) (pg_tup (by rfl) (pgs_cons (pg_name (i := 3) scChE.nd rfl (.inl rfl)) (pgs_cons (pg_name (i := 4) scChE.nd rfl (.inl rfl)) pgs_nil)))
        (pss_cons (ps_if (PW.pt (pw_or (pt_cmpR op_eq (pv 3) (pe_glob (v := .int 8) rfl mS ⟨_, rfl⟩) (nomark _)) (pw_or (pt_not (pt_val (pe_call GI hr (by rfl) mI kI bI .nil pass0 (pa_cons (pv 0) (pa_cons (pv 4) pa_nil)))))
            (pw_or1 (pt_cmpR op_le_str (pe_ix ix_tup (pv 4) pe_int (fun _ _ => rfl)) (pv 2) (nomark _)))))) (pss_one ps_never) pss_nil)
        (pss_one (ps_set (i := 2) scChE.nd rfl (.inl rfl) (pe_ix ix_tup (pv 4) pe_int (fun _ _ => rfl)))))))), ?_⟩
    refine ⟨_, rfl, _, _, .type "tuple", _, true, rfl, ClsV.ty _, .fTuple hX.choose_spec.1, kit_ty (by decide +kernel), true, rfl, iteF ?_⟩
    refine ⟨_, rfl, X, _, rfl, .inl hX.rd, for_it (walk_enumT (xs := ts.map V.ref)) (fun i σ H2 => Same H H2 ∧ ∃ l v3 v4, σ = [some (.str (T L)), some (.ref X), some (.str (T l)), v3, v4] ∧ ∀ e, es[i]? = some e → l < e.1) ⟨Same.refl H, [], _, _, by rw [← show Str.ofString "" = T [] from nil_eq]; rfl, fun e he => ?_⟩ (fun i σ H2 _ h => .inl (hX.kt (.of h.1)).rd) ?_ ?_⟩
    · have := (ho e (List.mem_of_getElem? he)).w1
      cases h : e.1 with
      | nil => rw [h] at this; exact absurd this (by decide)
      | cons a r => exact List.Lex.nil
    · rintro i x σ H2 H3 hi ⟨s2, l, v3, v4, rfl, hlt⟩ ⟨t, x1, x2, rfl, ht, rfl, g1, g2⟩
      cases g1
      have g2 : (ts.map V.ref)[i]? = some x2 := g2
      rw [List.getElem?_map] at g2
      obtain ⟨a, ha, e⟩ := Option.map_eq_some_iff.mp g2
      subst e
      obtain ⟨e, he, hat⟩ := paired_at hp ha
      have sm := same_new ht (.tup [.int (i : Nat), .ref a])
      have hi2 : i < es.length := (List.getElem?_eq_some_iff.mp he).1
      refine ⟨t, _, rfl, .inl (.inl upd_same), rfl, _, _, rfl, _, _, rfl, rfl, ?_⟩
      refine ⟨_, rfl, rfl, _, rfl, ?_⟩
      have nq : ¬ V.int ((i : Nat) : Int) = V.int 8 := fun z => by
        have := V.int.inj z
        omega
      rw [decide_eq_false nq]
      refine iteF ?_
      refine ⟨_, rfl, _, rfl, L, a, e, rfl, sm _ _ (s2 _ _ hat), ho e (List.mem_of_getElem? he), fun H4 s4 => ?_⟩
      have hat4 := s4 _ _ (sm _ _ (s2 _ _ hat))
      refine ⟨true, rfl, iteF ?_⟩
      refine ⟨_, rfl, a, _, 0, .str (T e.1), rfl, rfl, .inl (.inl hat4), atI_nat (j := 0) rfl, _, rfl, _, _, rfl, rfl, _, rfl, ?_⟩
      have lt := hlt e he
      rw [show decide ((T l).cps.toList < (T e.1).cps.toList) = true from decide_eq_true lt]
      refine iteF ?_
      refine ⟨_, rfl, a, _, 0, .str (T e.1), rfl, rfl, .inl (.inl hat4), atI_nat (j := 0) rfl, ?_⟩
      refine ⟨s2.trans (sm.trans s4), e.1, _, _, rfl, fun e' he' => ?_⟩
      exact (List.pairwise_iff_getElem.mp up) i (i + 1) hi2 (List.getElem?_eq_some_iff.mp he').1 (Nat.lt_succ_self _) |> fun h => by
        rw [(List.getElem?_eq_some_iff.mp he).2, (List.getElem?_eq_some_iff.mp he').2] at h
        exact h
    · rintro σ H2 ⟨s2, l, v3, v4, rfl, _⟩
      exact q H2 s2
abbrev sCh : Stmt := topS 30
theorem scCh : FnScope ["book", "letters", "rules", "exceptions"] ["book"] (defScope sCh) := ⟨rfl, rfl, rfl, by decide +kernel, rfl, by decide +kernel, by decide +kernel⟩
def spCh : Sp := fun vs H Q _ => ∃ (b : Addr) (L : List Nat) (rs : List Rule) (es : List Exc), vs = [.ref b] ∧ BookAt H b L rs es ∧ BookOk L rs es ∧ ∀ (H' : Hp), Same H H' → Q (.ref b) H'
theorem ok_ch {f : Addr} {fd : FuncData} (F : Fun K "checked_book" "checked_book" sCh f fd) (B : Bn mg) (DL : Df P w K mg base "check_letters" ["letters"] 2 spChL) (DR : Df P w K mg base "check_rules" ["letters", "rules"] 4 spChR)
    (DE : Df P w K mg base "check_exceptions" ["letters", "exceptions"] 4 spChE) : FnOk P w K mg base CX0 5 f fd ["book"] spCh := by
  obtain ⟨fL, fdL, GL, kL, bL, mL⟩ := DL
  obtain ⟨fR, fdR, GR, kR, bR, mR⟩ := DR
  obtain ⟨fE, fdE, GE, kE, bE, mE⟩ := DE
  refine F.ok scCh (fun vs H Q E h => ?_) (fun cdv A outer s H vs Q E hr h => ?_)
  · obtain ⟨b, L, rs, es, rfl, _⟩ := h
    rfl
  · obtain ⟨b, L, rs, es, rfl, ⟨R, X, hb, hR, hX⟩, ho, q⟩ := h
    refine ⟨_, pss_cons (ps_if (PW.pt (pw_or (pt_not (pt_val (pe_callB call_isi (by rfl) B.isi (by decide +kernel) (pa_cons (pv 0) (pa_cons (pe_bltn (v := .ty "tuple") rfl B.tup (by decide +kernel) rfl) pa_nil)))))
          (pw_or1 (pt_cmpR op_ne (pe_callB call_len (by rfl) B.len PySem.boot_len (pa_cons (pv 0) pa_nil)) pe_int (nomark _))))) (pss_one ps_never) pss_nil)
      (pss_cons (ps_asg (pv 0) (pg_tup (by rfl) (pgs_cons (pg_name (i := 1) scCh.nd rfl (.inl rfl)) (pgs_cons (pg_name (i := 2) scCh.nd rfl (.inl rfl)) (pgs_cons (pg_name (i := 3) scCh.nd rfl (.inl rfl)) pgs_nil)))))
      (pss_cons (ps_expr (pe_call GL (hr.mono (by decide)) (by rfl) mL kL bL .nil pass0 (pa_cons (pv 1) pa_nil)))
      (pss_cons (ps_expr (pe_call GR hr (by rfl) mR kR bR .nil pass0 (pa_cons (pv 1) (pa_cons (pv 2) pa_nil))))
      (pss_cons (ps_expr (pe_call GE hr (by rfl) mE kE bE .nil pass0 (pa_cons (pv 1) (pa_cons (pv 3) pa_nil))))
      (pss_one (ps_ret (pv 0))))))), ?_⟩
    refine ⟨_, rfl, _, _, .type "tuple", _, true, rfl, ClsV.ty _, .base (.tup hb), kit_ty (by decide +kernel), true, rfl, iteF ?_⟩
    refine ⟨_, rfl, _, 3, rfl, .inr ⟨_, .inl (.inl hb), rfl⟩, rfl, _, rfl, iteF ?_⟩
    refine ⟨_, rfl, b, _, rfl, .inl (.inl hb), rfl, _, _, rfl, _, _, rfl, _, _, rfl, rfl, ?_⟩
    refine ⟨_, rfl, L, rfl, ho.lt, fun H1 s1 => ?_⟩
    refine ⟨_, rfl, _, rfl, L, R, rs, rfl, ho.lt, hR.kt (.of s1), ho.rl, ho.r12, fun H2 s2 => ?_⟩
    refine ⟨_, rfl, _, rfl, L, X, es, rfl, hX.kt (.of (s1.trans s2)), ho.ex, ho.e8, ho.up, fun H3 s3 => ?_⟩
    exact ⟨_, rfl, q H3 (s1.trans (s2.trans s3))⟩
end
end Say
namespace Say
open PySem PySem.Spec PyProof.Rows L2
theorem tyL {K : PySem.W.Frag} {H : Hp} {a : Addr} {xs : List V} (h : SqL K H a xs) : TyX K H (.ref a) (.type "list") := by
  rcases h with (h | ⟨o, h⟩) | ⟨o, its, n, h, hc, _⟩
  · exact .base (.lst h)
  · exact .base (.frz h)
  · exact .kList h hc
theorem tyT {K : PySem.W.Frag} {H : Hp} {a : Addr} {xs : List V} (h : SqT K H a xs) : TyX K H (.ref a) (.type "tuple") := by
  rcases h with (h | ⟨o, h⟩) | ⟨o, its, n, h, hc, _⟩
  · exact .base (.tup h)
  · exact .fTuple h
  · exact .kTuple h hc
theorem seqT_same {K : PySem.W.Frag} {H H' : Hp} {a : Addr} {xs : List V} (e : Same H H') (h : SqT K H a xs) : SqT K H' a xs := by
  rcases h with (h | ⟨o, h⟩) | h
  · exact .inl (.inl (e _ _ h))
  · exact .inl (.inr ⟨o, e _ _ h⟩)
  · exact .inr h
def NoTup (K : PySem.W.Frag) (H : Hp) (v : V) : Prop := v = .non ∨ (∃ z, v = .str z) ∨ (∃ i, v = .int i) ∨ ∃ a xs, v = .ref a ∧ SqL K H a xs
def NoLst (K : PySem.W.Frag) (H : Hp) (v : V) : Prop := v = .non ∨ (∃ z, v = .str z) ∨ (∃ i, v = .int i) ∨ ∃ a xs, v = .ref a ∧ SqT K H a xs
theorem NoTup.ty {K : PySem.W.Frag} {H : Hp} {v : V} (h : NoTup K H v) : ∃ t, TyX K H v (.type t) ∧ kitB t "tuple" = some false := by
  rcases h with rfl | ⟨z, rfl⟩ | ⟨i, rfl⟩ | ⟨a, xs, rfl, h⟩
  · exact ⟨_, .base .non, by decide +kernel⟩
  · exact ⟨_, .base (.str _), by decide +kernel⟩
  · exact ⟨_, .base (.int _), by decide +kernel⟩
  · exact ⟨_, tyL h, by decide +kernel⟩
theorem NoLst.ty {K : PySem.W.Frag} {H : Hp} {v : V} (h : NoLst K H v) : ∃ t, TyX K H v (.type t) ∧ kitB t "list" = some false := by
  rcases h with rfl | ⟨z, rfl⟩ | ⟨i, rfl⟩ | ⟨a, xs, rfl, h⟩
  · exact ⟨_, .base .non, by decide +kernel⟩
  · exact ⟨_, .base (.str _), by decide +kernel⟩
  · exact ⟨_, .base (.int _), by decide +kernel⟩
  · exact ⟨_, tyT h, by decide +kernel⟩
theorem NoTup.same {K : PySem.W.Frag} {H H' : Hp} {v : V} (h : NoTup K H v) (s : Same H H') : NoTup K H' v := by
  rcases h with h | h | h | ⟨a, xs, h1, h2⟩
  · exact .inl h
  · exact .inr (.inl h)
  · exact .inr (.inr (.inl h))
  · exact .inr (.inr (.inr ⟨a, xs, h1, Same.seq s h2⟩))
/-- no text -/
def NoStr (K : PySem.W.Frag) (H : Hp) (v : V) : Prop := v = .non ∨ (∃ i, v = .int i) ∨ (∃ a xs, v = .ref a ∧ SqL K H a xs) ∨ ∃ a xs, v = .ref a ∧ SqT K H a xs
theorem NoStr.ty {K : PySem.W.Frag} {H : Hp} {v : V} (h : NoStr K H v) : ∃ t, TyX K H v (.type t) ∧ kitB t "str" = some false := by
  rcases h with rfl | ⟨i, rfl⟩ | ⟨a, xs, rfl, h⟩ | ⟨a, xs, rfl, h⟩
  · exact ⟨_, .base .non, by decide +kernel⟩
  · exact ⟨_, .base (.int _), by decide +kernel⟩
  · exact ⟨_, tyL h, by decide +kernel⟩
  · exact ⟨_, tyT h, by decide +kernel⟩
/-- a text, not too long, or none -/
def VOk (K : PySem.W.Frag) (H : Hp) (v : V) : Prop := (∃ z : List Nat, v = .str (T z) ∧ z.length ≤ 100) ∨ NoStr K H v
theorem NoStr.same {K : PySem.W.Frag} {H H' : Hp} {v : V} (h : NoStr K H v) (s : Same H H') : NoStr K H' v := by
  rcases h with h | h | ⟨a, xs, h1, h2⟩ | ⟨a, xs, h1, h2⟩
  · exact .inl h
  · exact .inr (.inl h)
  · exact .inr (.inr (.inl ⟨a, xs, h1, Same.seq s h2⟩))
  · exact .inr (.inr (.inr ⟨a, xs, h1, seqT_same s h2⟩))
theorem VOk.same {K : PySem.W.Frag} {H H' : Hp} {v : V} (h : VOk K H v) (s : Same H H') : VOk K H' v := by
  rcases h with h | h
  · exact .inl h
  · exact .inr (h.same s)
end Say
namespace PySem
namespace XBadBook
open PySem.W PySem.Calls PyProof.Rows PySem.HandSPX
/-! ### the text of BadBook.__init__ -/
abbrev sEx : Stmt := L2.inClass (Say.topS 4) 0
abbrev iA : Arguments := L2.defArgs sEx
abbrev iB : List Stmt := L2.defBody sEx
abbrev iS : Scope := L2.defScope sEx
def eF : Expr := match iB with
  | .Expr (.Call _ (e :: _) _ _) _ :: _ => e
  | _ => .Constant .none 0 ⟨0, 0, 0, 0⟩
theorem eF_eq : ∃ c1 c2 d2 c3 c4 d4 c0, eF = .JoinedStr [.Constant (.str "the book can't be: part ") 0 c1, .FormattedValue (.Name "part" c2) (-1) none d2, .Constant (.str ", number ") 0 c3, .FormattedValue (.Name "number" c4) (-1) none d4] c0 := ⟨_, _, _, _, _, _, _, rfl⟩
theorem slen (x y : Str) : (x ++ y).length = x.length + y.length := by rw [TL.len_tl, TL.tl_append, List.length_append, ← TL.len_tl, ← TL.len_tl]
theorem iS_cell : ∀ y ∈ iS.names, y.2 ≠ .cell := by decide +kernel
/-- what the written part says of BadBook, at C, and of its __init__, at fI -/
structure ExTxt (P : Program) (K : Frag) (mg : Str → Option Value) (C fI : Addr) : Prop where
  gC : mg "BadBook" = some (.ref C)
  sB : mg "super" = none
  cls : ∃ nm q N bs bm sn sub ab col dd k0 k1 k2 k3 k5, K.lookup C = some (excClassObj nm q C N bs bm true sn sub ab col dd k0 k1 k2 k3 k5 "ValueError.__new__") ∧ refsVE bm = true
  sa : findIn K (.ref C) "__setattr__" = some (some (.builtin "object.__setattr__"))
  noP0 : findIn K (.ref C) "part" = some none
  noP1 : findIn K (.ref C) "number" = some none
  iC : findIn K (.ref C) "__init__" = some (some (.ref fI))
  tC : typeIn K (.ref fI) = some (.type "function")
  kC : keepIn K (.ref C) = true
  exC : subIn K (.ref C) (.type "BaseException") = some true
  tyC : typeIn K (.ref C) = some (.type "type")
  sup : ks_superIn K C C "__init__" = some (some (.builtin "ValueError.__init__"))
  subV : subIn K (.ref C) (.type "ValueError") = some true
  any : nsIn K cStatics "thirdparty.any" = some none
  main : (P.main.scope.names.lookup ("super" : Str)).isSome = false
  fn : ∃ (oc : Value) (od : Option Addr) (doc pm : Value) (an : Option Addr) (cda cc : Addr) (ct : Value) (osl : Array (Option Value)),
    K.lookup fI = some ⟨oc, od, .func (ksFn "__init__" "BadBook.__init__" iA iB iS .none .none doc pm an (.ref cda) ct cc), osl⟩ ∧ codeIn K (.ref cda) "BadBook.__init__" = true ∧
    (∃ cl cld csl, K.lookup cc = some ⟨cl, cld, .cell (some (.ref C)), csl⟩) ∧ ∃ ccl cdd vs ccs file tf, K.lookup cda = some ⟨ccl, cdd, .fields vs, ccs⟩ ∧ vs[2]? = some (.str file tf) ∧ ((P.main.file : Str) == file) = true
/-- what __init__ leaves of a fresh exception at x -/
structure InitEnd (h h' : Heap) (x C dx : Addr) (v0 v1 : Value) : Prop where
  keep : ∀ b o, b ≠ x → h.get? b = some o → h'.get? b = some o
  obj : ∃ t1 : Addr, h'.get? x = some { cls := .ref C, dict := some dx, data := .fields #[.ref t1, .none, .none, .none, .bool false, .none] }
  dbig : h.objs.size ≤ dx
  dne : dx ≠ x
  ns : h'.Ns1 dx (fun y => if y = "number" then some v1 else if y = "part" then some v0 else none)
section
variable {prog : Program} {w : World} {A : Around} {E : Value → Shared → Prop} {R : Result → Shared → Prop} {s : Shared} {K : Frag} {mg : Str → Option Value} {C fI : Addr} {base : Heap}
theorem ld {M : Model} {s : Shared} {env : Env} {m : Str → Option Value} {x : Str} {pos : Pos} {v : Value} {Q : Value → Shared → Prop} {A : Around} {E : Value → Shared → Prop} (hn : s.heap.Ns env.locals m) (hv : m x = some v) (h : Q v s)
    (hk : env.scope.kind = .function) (hl : env.kindOf x = some .local) (hd : (x == ("__debug__" : Str)) = false := by decide) :
    wpAny M A (eval (.Name x pos) env) Q E s := wpAny_Name (wpAny_loadName_local hk hl hn hv h) hd
theorem ex_init (T : ExTxt prog K mg C fI) {x t0 : Addr} {i : Int} {ti : Tok} {j : Int} {tj : Tok} (B : L2.Mod K mg base) (kb : ∀ b o, base.get? b = some o → s.heap.get? b = some o) (hx : s.heap.get? x = some (excO C t0)) (hnx : base.get? x = none) (hi : i.natAbs.log2 < 1920) (hi2 : (toString i : Str).length ≤ 1000) (hj : j.natAbs.log2 < 1920) (hj2 : (toString j : Str).length ≤ 1000) (hroom : A.depth < recursionLimit)
    (hq : ∀ h' tk dx, InitEnd s.heap h' x C dx (.int i ti) (.int j tj) → R (.ok (.ret .none)) { s with heap := h', toks := tk }) :
    codeAny (model prog w) A (.call (.ref fI) ⟨[.ref x, .int i ti, .int j tj], []⟩) R s := by
  obtain ⟨oc, od, doc, pm, an, cda, cc, ct, osl, ho, hcd, ⟨cl, cld, csl, hcell⟩, ccl, cdd, vs, ccs, file, tf, hcode, hvs, hfile⟩ := T.fn
  obtain ⟨nm, q, N, bs, bm, sn, sub, ab, col, dd, k0, k1', k2, k3, k5, hC, hbm⟩ := T.cls
  obtain ⟨hp, g, dr, tk0, os⟩ := s
  have hcl : clsIn K C = some { name := nm, bases := bs, mro := .ref C :: bm, ns := N, qualname := q, hasDict := true, slotNames := sn, subclasses := sub, abstract := ab, collection := col, hasDel := false } := by unfold clsIn; rw [hC] <;> rfl
  have X : K.In hp := B.kin.keeps kb
  have nl : hp.NoLimit := B.nolimit.keeps kb
  refine ks_codeAny_call_defAt (fd := ksFn "__init__" "BadBook.__init__" iA iB iS .none .none doc pm an (.ref cda) ct cc) (body := iB) (binds := [("self", .ref x), ("part", .int i ti), ("number", .int j tj)])
    hroom (X _ _ ho) rfl nl (codeRec_of X hcd) rfl (BindsTo.of_eq (by first | rfl | with_unfolding_all rfl)) iS_cell (fun y hy => ?_) (fun h₀ hns k => ?_)
  · have e : y = (PySem.Str.ofString "self", Value.ref x) ∨ y = (PySem.Str.ofString "part", Value.int i ti) ∨ y = (PySem.Str.ofString "number", Value.int j tj) := by simpa using hy
    rcases e with rfl | rfl | rfl
    · exact (by decide +kernel : iS.names.lookup (PySem.Str.ofString "self") = some .local)
    · exact (by decide +kernel : iS.names.lookup (PySem.Str.ofString "part") = some .local)
    · exact (by decide +kernel : iS.names.lookup (PySem.Str.ofString "number") = some .local)
  generalize hL : (Shared.heap ⟨hp, g, dr, tk0, os⟩).objs.size = L at hns ⊢
  have henv : callEnv (ksFn "__init__" "BadBook.__init__" iA iB iS .none .none doc pm an (.ref cda) ct cc) L fI = ksEnv "BadBook.__init__" iS L fI (.ref cda) cc := rfl
  rw [henv]
  have X0 : K.In h₀ := X.keeps k
  have hx0 := k _ _ hx
  have kb0 : ∀ b o, base.get? b = some o → h₀.get? b = some o := fun b o e => k b o (kb b o e)
  obtain ⟨oC, hC0, hC1⟩ : ∃ oC, h₀.get? C = some oC ∧ oC.data = .cls { name := nm, bases := bs, mro := .ref C :: bm, ns := N, qualname := q, hasDict := true, slotNames := sn, subclasses := sub, abstract := ab, collection := col, hasDel := false } := ⟨_, X0 _ _ hC, rfl⟩
  have I0 : InstAt h₀ x (excO C t0) C none := ⟨hx0, rfl, rfl, trivial⟩
  obtain ⟨mb, hb1, hb2⟩ := B.blt
  have hxC : x ≠ C := fun z => by
    rw [z, hC0] at hx0
    cases hx0
    cases hC1
  have hsub : mroIn K C (.ref C) = some true := by
    unfold mroIn
    rw [hcl]
    simp
  have nS : iS.names.lookup (PySem.Str.ofString "super") = some .globalImplicit := by decide +kernel
  have nC : iS.names.lookup (PySem.Str.ofString "__class__") = some .free := by decide +kernel
  have nx : iS.names.lookup (PySem.Str.ofString "self") = some .local := by decide +kernel
  have np0 : iS.names.lookup (PySem.Str.ofString "part") = some .local := by decide +kernel
  have np1 : iS.names.lookup (PySem.Str.ofString "number") = some .local := by decide +kernel
  have hLx : L ≠ x := by
    rw [← hL]
    exact Nat.ne_of_gt (Heap.lt_size hx)
  refine ks_wpAt_execs_cons (ks_wpAt_Expr_any (ks_wpAt_MethodCall (ks_wpAt_super_base nS nC (by decide +kernel) rfl (X0 _ _ ho) rfl rfl rfl (X0 _ _ hcode) rfl hvs hfile T.main ?_)))
  refine ks_loadName_global rfl nS (loadGlobal_builtin (B.glob.keeps kb0) T.sB (hb1.keeps kb0) ((hb2 _ (by decide +kernel)).trans (by decide +kernel)) ⟨rfl, ?_⟩)
  refine wpAny_loadName_free rfl nC rfl ⟨_, X0 _ _ hcell, rfl⟩ ?_
  refine wpAny_loadName_local rfl nx hns rfl ?_
  refine ks_wpAny_isType_cls hC0 hC1 ⟨rfl, ?_⟩
  refine ks_wpAny_call_super hC0 hC1 hx0 rfl (fun c e => by cases e) (looks_mroIn X0 hsub) (fun h1 e1 k1 => ?_)
  have X1 : K.In h1 := X0.keeps k1
  have hx1 := k1 _ _ hx0
  have I1 : InstAt h1 x (excO C t0) C none := ⟨hx1, rfl, rfl, trivial⟩
  have hf : alongIn K "__init__" (((Value.ref C :: bm).dropWhile (· != .ref C)).drop 1) = some (some (.builtin "ValueError.__init__")) := by
    have := T.sup
    unfold ks_superIn at this
    rw [hcl] at this
    exact this
  refine kxs_getMethod kxs_ValueError e1 (looks_opaque X1 T.any) (l₀ := .ref C :: bm) (fun A Q E s k q => wpAny_bind ((looks_clsIn X1 hcl) A _ E s k (wpAny_pure q))) rfl X1 hf (I1.type.andThen (looks_subIn X1 T.subV)) hxC (by decide +kernel) ?_
  have hu : (h1.push (kxs_mw "ValueError.__init__" x)).get? h1.objs.size = some (kxs_mw "ValueError.__init__" x) := Heap.get?_push_size _ rfl
  have k2' : ∀ b o, h₀.get? b = some o → (h1.push (kxs_mw "ValueError.__init__" x)).get? b = some o := fun b o e => Heap.get?_push_of_some _ (k1 b o e)
  generalize h1.push (kxs_mw "ValueError.__init__" x) = h2 at hu k2' ⊢
  generalize h1.objs.size = u at hu ⊢
  have X2 : K.In h2 := X0.keeps k2'
  have hx2 := k2' _ _ hx0
  have hns2 := hns.keeps k2'
  -- the text that is handed on
  show wpAny _ _ (callWith _ (.ref u) [] _ []) _ _ _
  refine kxs_callWith (i := "ValueError.__init__") (x := x) rfl (evalArgs_plain ?_)
  show wpAny _ _ (spliced ((false, eval eF (ksEnv "BadBook.__init__" iS L fI (.ref cda) cc)) :: [])) _ _ _
  obtain ⟨c1, c2, d2, c3, c4, d4, c0, eFe⟩ := eF_eq
  rw [eFe]
  have z0 : Str.empty.length = 0 := by decide +kernel
  have z1 : (PySem.Str.ofString "the book can't be: part ").length = 24 := by decide +kernel
  have z2 : (PySem.Str.ofString ", number ").length = 9 := by decide +kernel
  refine Calls.spliced_cons (wpAny_JoinedStr ?_)
  refine wpAny_Constant_str ⟨_, _, rfl, (by show ((Str.empty ++ PySem.Str.ofString "the book can't be: part ")).length ≤ sizeLine; simp only [slen, z0, z1, z2, sizeLine_eq]; omega), ?_⟩
  refine wpAny_FormattedValue_plain (ld hns2 rfl ?_ rfl np0)
  refine wpAny_formatField_int hi ⟨_, _, rfl, (by show (((Str.empty ++ PySem.Str.ofString "the book can't be: part ") ++ (toString i : Str))).length ≤ sizeLine; simp only [slen, z0, z1, z2, sizeLine_eq]; omega), ?_⟩
  refine wpAny_Constant_str ⟨_, _, rfl, (by show ((((Str.empty ++ PySem.Str.ofString "the book can't be: part ") ++ (toString i : Str)) ++ PySem.Str.ofString ", number ")).length ≤ sizeLine; simp only [slen, z0, z1, z2, sizeLine_eq]; omega), ?_⟩
  refine wpAny_FormattedValue_plain (ld hns2 rfl ?_ rfl np1)
  refine wpAny_formatField_int hj ⟨_, _, rfl, (by show (((((Str.empty ++ PySem.Str.ofString "the book can't be: part ") ++ (toString i : Str)) ++ PySem.Str.ofString ", number ") ++ (toString j : Str))).length ≤ sizeLine; simp only [slen, z0, z1, z2, sizeLine_eq]; omega), ?_⟩
  refine ⟨(by show (((((Str.empty ++ PySem.Str.ofString "the book can't be: part ") ++ (toString i : Str)) ++ PySem.Str.ofString ", number ") ++ (toString j : Str))).length ≤ sizeLine; simp only [slen, z0, z1, z2, sizeLine_eq]; omega), ?_⟩
  refine Calls.spliced_nil ⟨hu, ?_⟩
  refine wpAny_call (codeAny_of_tree ?_)
  show wpAny _ _ (callAny (.ref u) ⟨_, []⟩) _ _ _
  simp only [callAny]
  refine wpAny_bind (wpAny_load hu ?_)
  simp only [kxs_mw, show (Value.type "method-wrapper" == Value.type "method" || Value.type "method-wrapper" == Value.type "builtin_function_or_method" || Value.type "method-wrapper" == Value.type "method-wrapper") = true by decide, if_true]
  refine KFB.if_so (by decide) ?_
  refine wpAny_bind (check_bound_init F.excBase_ValueError.toExcCallFacts (X2 _ _ hC) hx2 rfl ?_)
  refine wpAny_bind (wpAny_pure (wpAny_pure ?_))
  refine ⟨plainId_quiet F.excBase_ValueError.init.plain _, codeAny_builtin F.excBase_ValueError.initEntry ?_⟩
  refine exc_init_tree (cls := .ref C) (t0 := t0) (dv := none) (c2 := .none) (c3 := .none) (b4 := .bool false) hx2 (by rw [sizeLine_eq]; show 1 ≤ 16777216; decide) fun h3 k3 e3 _ => ?_
  have k3' : ∀ b o, b ≠ x → h₀.get? b = some o → h3.get? b = some o := fun b o hb e => k3 b o hb (k2' b o e)
  have X3 : K.In h3 := fun b o e => k3' b o (fun z => by
    have := B.kin b o e
    rw [z, hnx] at this
    cases this) (X0 b o e)
  have hns3 : h3.Ns L (fun y => (([("self", Value.ref x), ("part", .int i ti), ("number", .int j tj)] : List (Str × Value)).reverse.lookup y)) := hns.at fun o e => k3' L o hLx e
  show wpAt _ _ _ (execs (_ :: _ :: []) _) _ _ _
  refine ks_wpAt_execs_cons (ks_wpAt_Assign_Attr (wpAt_of_wpAny (ld hns3 rfl (ld hns3 rfl ?_ rfl nx) rfl np0)))
  refine set_plain X3 (ox := excO C h2.objs.size) (od := none) ⟨e3, rfl, rfl, trivial⟩ T.sa ?_
  refine exc_osa X3 e3 hcl (show refsVE (.ref C :: bm) = true from hbm) rfl T.noP0 (fun h4 tk4 dx k4 dn dne hx4 hn4 => ?_)
  have X4 : K.In h4 := fun b o e => k4 b o (fun z => by
    have := B.kin b o e
    rw [z, hnx] at this
    cases this) (X3 b o e)
  have hns4 : h4.Ns L (fun y => (([("self", Value.ref x), ("part", .int i ti), ("number", .int j tj)] : List (Str × Value)).reverse.lookup y)) := hns3.at fun o e => k4 L o hLx e
  have hLd : L ≠ dx := Nat.ne_of_lt (Nat.lt_of_lt_of_le hns3.lt dn)
  have hw4 : Within (fun y => if y = "part" then some (Value.int i ti) else none) ["part"] := fun y hy => by
    by_cases c : y = "part"
    · rw [c]; exact List.mem_singleton.mpr rfl
    · exact absurd (if_neg c) hy
  obtain ⟨oD, _, _, hoD, _, _⟩ := hn4.count hw4
  show wpAt _ _ _ (execs (_ :: []) _) _ _ _
  refine ks_wpAt_execs_cons (ks_wpAt_Assign_Attr (wpAt_of_wpAny (ld hns4 rfl (ld hns4 rfl ?_ rfl nx) rfl np1)))
  refine set_plain X4 (ox := { cls := .ref C, dict := some dx, data := .fields #[.ref h2.objs.size, .none, .none, .none, .bool false, .none] }) (od := some oD) ⟨hx4, rfl, rfl, hoD⟩ T.sa ?_
  refine PySem.OEX.osa_old X4 hx4 hn4 hw4 (by decide) hcl (show refsVE (.ref C :: bm) = true from hbm) rfl T.noP1 (fun h5 tk5 k5 hn5 => ?_)
  show wpAt _ _ _ (execs [] _) _ _ _
  refine wpAt_of_wpAny (wpAny_execs_nil ?_)
  have big : hp.objs.size ≤ dx := by
    have h1 : L < h3.objs.size := hns3.lt
    have h2 : hp.objs.size = L := hL
    exact Nat.le_trans (Nat.le_of_eq h2) (Nat.le_trans (Nat.le_of_lt h1) dn)
  refine hq h5 _ dx ⟨fun b o hb e => k5 b o (fun z => ?_) (k4 b o hb (k3' b o hb (k b o e))), ⟨_, k5 x _ (Ne.symm dne) hx4⟩, big, dne, hn5⟩
  have : b < hp.objs.size := Heap.lt_size e
  rw [z] at this
  exact absurd big (Nat.not_le.mpr this)
end
end XBadBook
end PySem
namespace PySem
namespace XBadBook
open PySem.W PySem.Calls PyProof.Rows PySem.HandSPX
/-- a made BadBook -/
structure OwnMade (h h' : Heap) (e C d : Addr) (v0 v1 : Value) : Prop where
  keep : ∀ b o, h.get? b = some o → h'.get? b = some o
  new : h.objs.size ≤ e
  obj : ∃ oe vs, h'.get? e = some oe ∧ oe.cls = .ref C ∧ oe.dict = some d ∧ oe.data = .fields vs ∧ vs[1]? = some .none ∧ vs[2]? = some .none ∧ 4 < vs.size
  dbig : h.objs.size ≤ d
  dne : d ≠ e
  ns : h'.Ns1 d (fun y => if y = "number" then some v1 else if y = "part" then some v0 else none)
theorem one_size (v0 v1 : Value) : [v0, v1].length ≤ sizeLine := by
  rw [sizeLine_eq]
  exact (by decide : 2 ≤ 16777216)
section
variable {prog : Program} {w : World} {A : Around} {E : Value → Shared → Prop} {R : Result → Shared → Prop} {s : Shared} {K : Frag} {mg : Str → Option Value} {C fI : Addr} {base : Heap}
theorem ex_made (T : ExTxt prog K mg C fI) {i : Int} {ti : Tok} {j : Int} {tj : Tok} (B : L2.Mod K mg base) (kb : ∀ b o, base.get? b = some o → s.heap.get? b = some o) (hi : i.natAbs.log2 < 1920) (hi2 : (toString i : Str).length ≤ 1000) (hj : j.natAbs.log2 < 1920) (hj2 : (toString j : Str).length ≤ 1000) (hroom : A.depth + 1 < recursionLimit)
    (hq : ∀ h' tk e d, OwnMade s.heap h' e C d (.int i ti) (.int j tj) → R (.ok (.ret (.ref e))) { s with heap := h', toks := tk }) :
    codeAny (model prog w) A (.call (.ref C) ⟨[.int i ti, .int j tj], []⟩) R s := by
  obtain ⟨nm, q, N, bs, bm, sn, sub, ab, col, dd, k0, k1, k2, k3, k5, hC, hbm⟩ := T.cls
  have X : K.In s.heap := B.kin.keeps kb
  obtain ⟨hp, g, dr, tk, os⟩ := s
  have k : ∀ b o, hp.get? b = some o → ((hp.push (kdv_tup [.int i ti, .int j tj])).push (excO C hp.objs.size)).get? b = some o := fun b o e => Heap.get?_push_of_some _ (Heap.get?_push_of_some _ e)
  have hget : ((hp.push (kdv_tup [.int i ti, .int j tj])).push (excO C hp.objs.size)).get? (hp.objs.size + 1) = some (excO C hp.objs.size) := by heap_get
  have hnx : base.get? (hp.objs.size + 1) = none := by
    cases e : base.get? (hp.objs.size + 1) with
    | none => rfl
    | some o =>
      have z : hp.get? (hp.objs.size + 1) = some o := kb _ _ e
      exact absurd (Nat.lt_of_succ_lt (Heap.lt_size z)) (Nat.lt_irrefl _)
  refine call_own F.excBase_ValueError (fun X => refsVE_contains X bm hbm) (X _ _ hC) (looks_findIn X T.iC) (fun self => bind_fn X self T.tC) (one_size (.int i ti) (.int j tj)) ?_
  refine ex_init (s := ⟨(hp.push (kdv_tup [.int i ti, .int j tj])).push (excO C hp.objs.size), g, dr, tk, os⟩) T B (fun b o e => k b o (kb b o e)) hget hnx hi hi2 hj hj2 ?_ fun h' tk' dx ⟨k', ⟨t1, hx⟩, dn, dne, hns⟩ => ?_
  · show A.depth + 1 < recursionLimit
    exact hroom
  · have old : ∀ b o, hp.get? b = some o → h'.get? b = some o := fun b o e => k' b o (Nat.ne_of_lt (Nat.lt_succ_of_lt (Heap.lt_size e))) (k b o e)
    have z : hp.objs.size + 1 + 1 ≤ dx := by
      first
        | (simpa only [Heap.size_push] using dn)
        | exact dn
        | (have q := dn; rw [Heap.size_push, Heap.size_push] at q; exact q)
    exact ⟨rfl, hq h' tk' (hp.objs.size + 1) dx ⟨old, Nat.le_succ _, ⟨_, _, hx, rfl, rfl, rfl, rfl, rfl, by show 4 < 6; decide⟩, Nat.le_trans (Nat.le_trans (Nat.le_succ _) (Nat.le_succ _)) z, dne, hns⟩⟩
end
end XBadBook
end PySem
namespace Say
open PySem PySem.Spec PyProof.Rows L2
theorem rel_BadBook {i j : Int} {ti tj : Tok} (f : Str) : RelO (List.lookup f ([(("number" : Str), .int j), (("part" : Str), .int i)] : List (Str × V))) (if f = "number" then some (Value.int j tj) else if f = "part" then some (Value.int i ti) else none) := by
  refine relO_put (f := "number") (mA := fun f => if f = "part" then some (Value.int i ti) else none) (y := .int j) (u := .int j tj) (fs := [(("part" : Str), .int i)]) ⟨_, rfl⟩ (fun g => ?_) f
  exact relO_put (f := "part") (mA := fun _ => none) (y := .int i) (u := .int i ti) (fs := []) ⟨_, rfl⟩ (fun _ => True.intro) g
section
variable {X : Cx} {C fI : Addr}
/-- BadBook(e) -/
def tMkBadBook (C : Addr) (ta : TA) : L2.St → Hp → XK → Prop := fun σ H Q => ta σ H fun vs H1 => ∃ i j : Int, vs = [.int i, .int j] ∧ (-1 ≤ i ∧ i ≤ 100) ∧ (-1 ≤ j ∧ j ≤ 100) ∧ ∀ d, H1 d = none → Q (.ref C) (some d) (upd H1 d (.xd [(("number" : Str), .int j), (("part" : Str), .int i)]))
theorem small_BadBook {i : Int} (h : -1 ≤ i ∧ i ≤ 100) : i.natAbs.log2 < 1920 ∧ (toString i : Str).length ≤ 1000 := by
  have key : ∀ q : Fin 102, ((q.1 : Int) - 1).natAbs.log2 < 1920 ∧ (toString ((q.1 : Int) - 1) : Str).length ≤ 1000 := by decide +kernel
  have e : i = (((i + 1).toNat : Nat) : Int) - 1 := by omega
  rw [e]
  exact key ⟨(i + 1).toNat, by omega⟩
theorem pmk5_BadBook {a b : Expr} {ta : TA} {p pos : Pos} {k : Nat} (T : PySem.XBadBook.ExTxt X.prog X.K X.mg C fI) (hr : L2H.RoomH k X.A) (ha : PA X [a, b] ta) (hg : Gl X "BadBook" := by rfl)
    (he : starEach (a :: [b]) X.env = (false, eval a X.env) :: starEach [b] X.env := by rfl) (hpl : (backTo pos (starEach [b] X.env)).any (·.1) = false := by rfl) :
    L2H.PMk5 X (.Call (.Name "BadBook" p) [a, b] [] pos) (tMkBadBook C ta) := by
  intro pins s σ H Q I h
  unfold tMkBadBook at h
  refine wpAny_Call_Name_kw (ld_glob I hg T.gC ?_)
  refine PySem.W.callWith_K (h₀ := X.base) I.ok.mod.kin T.kC (thn (ha.run pos pins s σ H _ I h) fun us s1 hh => ?_) he hpl
  obtain ⟨vs, H1, I1, r1, i, j, ev, ni, nj, q1⟩ := hh
  subst ev
  refine ⟨I1.kIn, ?_⟩
  obtain ⟨v', u', rfl, rv, ru⟩ := vals2 r1
  obtain ⟨ti, rfl⟩ := rv
  obtain ⟨tj, rfl⟩ := ru
  show wpAny _ _ (call (.ref C) [.int i ti, .int j tj]) _ _ _
  have b1 := I1.mod
  have b2 := I1.bk
  obtain ⟨hp, g, dr, tk, os⟩ := s1
  refine wpAny_call (PySem.XBadBook.ex_made T b1 b2 (small_BadBook ni).1 (small_BadBook ni).2 (small_BadBook nj).1 (small_BadBook nj).2 (by have := hr.dp; omega) fun h' tk' e d M => ?_)
  show L2N.MkP X pins σ Q (.ref e) ⟨h', g, dr, tk', os⟩ ∧ L2H.Six (.ref e) ⟨h', g, dr, tk', os⟩
  obtain ⟨oe, fv, hoe, hc, hd, hdat, h1, h2, h5⟩ := M.obj
  have hns := M.ns
  obtain ⟨G', g1, g2⟩ := restrict h' fun b => decide (b ≠ e)
  have gk : ∀ b, b ≠ e → G'.get? b = h'.get? b := fun b hb => g1 b (decide_eq_true hb)
  have ge : G'.get? e = none := g2 e (by simp)
  have old : ∀ b o, hp.get? b = some o → G'.get? b = some o := fun b o q => (gk b (Nat.ne_of_lt (Nat.lt_of_lt_of_le (Heap.lt_size q) M.new))).trans (M.keep b o q)
  have ob : ObjOk X.prog X.w (upd H1 d (.xd [(("number" : Str), .int j), (("part" : Str), .int i)])) G' d (.xd [(("number" : Str), .int j), (("part" : Str), .int i)]) :=
    ⟨_, hns.at (fun o q => (gk d M.dne).trans q), fun f => rel_BadBook f⟩
  have J : Inv X pins σ (upd H1 d (.xd [(("number" : Str), .int j), (("part" : Str), .int i)])) ⟨G', g, dr, tk', os⟩ := I1.laid (t' := tk') old M.dbig ob
  refine ⟨⟨e, oe, fv, ⟨G', g, dr, tk', os⟩, _, .ref C, some d, rfl, J, fun b o q => ?_, ge, hoe, ⟨hc, hd, fun ws z => by rw [hdat] at z; cases z; exact h2⟩, hdat, h1, ?_, rfl, I1.bare, raises_own T.exC T.tyC, q1 d (I1.hok.fresh M.dbig)⟩, fun a oe2 ws ea hg hd2 => ?_⟩
  · by_cases hb : b = e
    · have q' : G'.get? b = some o := q
      rw [hb, ge] at q'; cases q'
    · exact (gk b hb).symm.trans q
  · rw [upd_ne (Ne.symm M.dne)]
    exact I1.hok.fresh M.new
  · cases ea
    have hg2 : h'.get? e = some oe2 := hg
    rw [hoe] at hg2
    cases hg2
    rw [hdat] at hd2
    cases hd2
    exact h5
theorem pmk_BadBook {a b : Expr} {ta : TA} {p pos : Pos} {k : Nat} (T : PySem.XBadBook.ExTxt X.prog X.K X.mg C fI) (hr : Room k X.A) (ha : PA X [a, b] ta) (hg : Gl X "BadBook" := by rfl)
    (he : starEach (a :: [b]) X.env = (false, eval a X.env) :: starEach [b] X.env := by rfl) (hpl : (backTo pos (starEach [b] X.env)).any (·.1) = false := by rfl) :
    PMk X (.Call (.Name "BadBook" p) [a, b] [] pos) (tMkBadBook C ta) := fun pins s σ H Q I h => thn (pmk5_BadBook T (L2H.roomH_of hr) ha hg he hpl pins s σ H Q I h) fun u s1 ⟨⟨e, oe, vs, sI, H', cls, d, e1, J, k, hne, ha, hz, hd, h1, na, os, ag, r, q⟩, _⟩ => ⟨e, oe, vs, sI, H', cls, d, e1, J, k, hne, ha, hz.zc, hd, h1, na, os, ag, r, q⟩
/-- raise BadBook(e) -/
def tRaiseBadBook (C : Addr) (W : WX) (ta : TA) : TS := fun _ σ H => tMkBadBook C ta σ H fun cls d H' => W cls d σ H'
theorem ps_raiseBadBook {a b : Expr} {ta : TA} {W : WX} {p pos pos2 : Pos} {k : Nat} (hc : X.calm = true) (T : PySem.XBadBook.ExTxt X.prog X.K X.mg C fI) (hr : Room k X.A) (tk : Takes X W) (ha : PA X [a, b] ta) (hg : Gl X "BadBook" := by rfl)
    (he : starEach (a :: [b]) X.env = (false, eval a X.env) :: starEach [b] X.env := by rfl) (hpl : (backTo pos (starEach [b] X.env)).any (·.1) = false := by rfl) :
    PS X (.Raise (some (.Call (.Name "BadBook" p) [a, b] [] pos)) none pos2) (tRaiseBadBook C W ta) := ps_raise hc tk (pmk_BadBook T hr ha hg he hpl)
theorem ps_raiseBadBookN {a b : Expr} {ta : TA} {W : WX} {p pos pos2 : Pos} {k : Nat} (hc : X.calm = true) (T : PySem.XBadBook.ExTxt X.prog X.K X.mg C fI) (hr : Room k X.A) (tk : L2N.Takes X W) (ha : PA X [a, b] ta) (hg : Gl X "BadBook" := by rfl)
    (he : starEach (a :: [b]) X.env = (false, eval a X.env) :: starEach [b] X.env := by rfl) (hpl : (backTo pos (starEach [b] X.env)).any (·.1) = false := by rfl) :
    PS X (.Raise (some (.Call (.Name "BadBook" p) [a, b] [] pos)) none pos2) (tRaiseBadBook C W ta) := L2N.ps_raise hc tk (pmk5_BadBook T (L2H.roomH_of hr) ha hg he hpl).pmk
end
end Say
namespace Say
open PySem PySem.Spec PyProof.Rows L2
/-! ### any values held against what a book's parts are -/
def txV (v : V) (S : List Nat) (lo hi : Nat) : Bool := match v with
  | .str z => isText z.cps.toList S lo hi
  | _ => false
def riV (v : V) : Bool := match v with
  | .str z => rises z.cps.toList
  | _ => false
def besV (L : List Nat) (v : V) : Bool := txV v (35 :: L) 0 (L.length + 1) && riV v
def rulV (L : List Nat) (a o e s : V) : Bool := besV L a && (txV o L 1 2 && (besV L e && txV s capsL 0 3))
def excV (L : List Nat) (a s : V) : Bool := txV a L 1 8 && txV s capsL 0 36
/-- v as a rule: b tells whether it is one -/
def RulR (K : PySem.W.Frag) (H : Hp) (L : List Nat) (v : V) (b : Bool) : Prop := (NoTup K H v ∧ b = false) ∨ (∃ t xs, v = .ref t ∧ SqT K H t xs ∧ xs.length ≠ 4 ∧ b = false) ∨
  ∃ t a o e s, v = .ref t ∧ SqT K H t [a, o, e, s] ∧ VOk K H a ∧ VOk K H o ∧ VOk K H e ∧ VOk K H s ∧ b = rulV L a o e s
/-- v as an exception: its word, if it is one -/
def ExcR (K : PySem.W.Frag) (H : Hp) (L : List Nat) (v : V) (w : Option (List Nat)) : Prop := (NoTup K H v ∧ w = none) ∨ (∃ t xs, v = .ref t ∧ SqT K H t xs ∧ xs.length ≠ 2 ∧ w = none) ∨
  ∃ t a s, v = .ref t ∧ SqT K H t [a, s] ∧ VOk K H a ∧ VOk K H s ∧ ((excV L a s = false ∧ w = none) ∨ ∃ z, a = .str (T z) ∧ excV L a s = true ∧ w = some z)
theorem RulR.same {K : PySem.W.Frag} {H H' : Hp} {L : List Nat} {v : V} {b : Bool} (h : RulR K H L v b) (s : Same H H') : RulR K H' L v b := by
  rcases h with ⟨h, e⟩ | ⟨t, xs, h1, h2, h3, e⟩ | ⟨t, a, o, e, z, h1, h2, h3, h4, h5, h6, h7⟩
  · exact .inl ⟨h.same s, e⟩
  · exact .inr (.inl ⟨t, xs, h1, seqT_same s h2, h3, e⟩)
  · exact .inr (.inr ⟨t, a, o, e, z, h1, seqT_same s h2, h3.same s, h4.same s, h5.same s, h6.same s, h7⟩)
theorem ExcR.same {K : PySem.W.Frag} {H H' : Hp} {L : List Nat} {v : V} {b : Option (List Nat)} (h : ExcR K H L v b) (s : Same H H') : ExcR K H' L v b := by
  rcases h with ⟨h, e⟩ | ⟨t, xs, h1, h2, h3, e⟩ | ⟨t, a, z, h1, h2, h3, h4, h5⟩
  · exact .inl ⟨h.same s, e⟩
  · exact .inr (.inl ⟨t, xs, h1, seqT_same s h2, h3, e⟩)
  · exact .inr (.inr ⟨t, a, z, h1, seqT_same s h2, h3.same s, h4.same s, h5⟩)
/-- the first rule that can't be -/
def badR (bs : List Bool) (n : Nat) : Prop := n < bs.length ∧ (n = 12 ∨ bs[n]? = some false)
/-- the first exception that can't be -/
def lastW (ws : List (Option (List Nat))) : Nat → List Nat
  | 0 => []
  | n + 1 => (ws.getD n none).getD []
def badE (ws : List (Option (List Nat))) (n : Nat) : Prop := n < ws.length ∧ (n = 8 ∨ ws[n]? = some none ∨ ∃ w, ws[n]? = some (some w) ∧ ¬ lastW ws n < w)
/-- refused with a part and a number -/
def refB (CB : Addr) (H : Hp) (E : XK) (p n : Int) : Prop := ∀ d H', Same H H' → H d = none → H' d = some (.xd [(("number" : Str), .int n), (("part" : Str), .int p)]) → E (.ref CB) (some d) H'
theorem FnOk.orX {P : Program} {w : World} {K : PySem.W.Frag} {mg : Str → Option Value} {base : Heap} {CX : CXT} {k : Nat} {f : Addr} {fd : FuncData} {ps : List Str} {s1 s2 : Sp} (a : FnOk P w K mg base CX k f fd ps s1) (b : FnOk P w K mg base CX k f fd ps s2) :
    FnOk P w K mg base CX k f fd ps (fun vs H Q E => s1 vs H Q E ∨ s2 vs H Q E) :=
  ⟨fun vs H Q E h => h.elim (a.len vs H Q E) (b.len vs H Q E), fun A outer s H args us vs Q E hr e hb hv h => h.elim (a.run A outer s H args us vs Q E hr e hb hv) (b.run A outer s H args us vs Q E hr e hb hv)⟩
section
variable {P : Program} {w : World} {K : PySem.W.Frag} {mg : Str → Option Value} {base : Heap}
def spTxV (K : PySem.W.Frag) : Sp := fun vs H Q _ => ∃ (v : V) (S : List Nat) (lo hi : Nat), vs = [v, .str (T S), .int lo, .int hi] ∧ VOk K H v ∧ ∀ (H' : Hp), Same H H' → Q (.bl (txV v S lo hi)) H'
theorem ok_txV {f : Addr} {fd : FuncData} (F : Fun K "is_text" "is_text" sIsText f fd) (B : Bn mg) : FnOk P w K mg base CX0 1 f fd ["text", "signs", "least", "most"] (spTxV K) := by
  have G := ok_isText (P := P) (w := w) (base := base) F B
  have G2 : FnOk P w K mg base CX0 1 f fd ["text", "signs", "least", "most"] (fun vs H Q _ => ∃ (v : V) (S : List Nat) (lo hi : Nat), vs = [v, .str (T S), .int lo, .int hi] ∧ NoStr K H v ∧ Q (.bl false) H) := by
    refine F.ok scIsText (fun vs H Q E h => ?_) (fun cdv A outer s H vs Q E hr h => ?_)
    · obtain ⟨v, S, lo, hi, rfl, _⟩ := h
      rfl
    · obtain ⟨v, S, lo, hi, rfl, hz, q⟩ := h
      refine ⟨_, pss_cons (ps_if (PW.pt (pw_or (pt_not (pt_val (pe_callB call_isi (by rfl) B.isi (by decide +kernel) (pa_cons (pv 0) (pa_cons (pe_bltn (v := .ty "str") rfl B.str (by decide +kernel) rfl) pa_nil)))))
            (pw_or1 (pt_not (pt_chain op_le op_le (pv 2) (pe_callB call_len_str (by rfl) B.len PySem.boot_len (pa_cons (pv 0) pa_nil)) (pv 3)))))) (pss_one (ps_ret pe_bl)) pss_nil)
        (pss_one ps_never), ?_⟩
      obtain ⟨t, h1, h2⟩ := hz.ty
      exact ⟨_, rfl, _, _, .type t, _, false, rfl, ClsV.ty _, h1, kit_ty h2, false, rfl, iteT q⟩
  refine (FnOk.orX G G2).imp ?_
  rintro vs H Q E ⟨v, S, lo, hi, rfl, hv, q⟩
  rcases hv with ⟨z, rfl, hz⟩ | hv
  · exact .inl ⟨z, S, lo, hi, rfl, hz, q⟩
  · refine .inr ⟨v, S, lo, hi, rfl, hv, ?_⟩
    have := q H (Same.refl H)
    rcases hv with rfl | ⟨i, rfl⟩ | ⟨a, xs, rfl, h⟩ | ⟨a, xs, rfl, h⟩ <;> exact this
def spBesV (K : PySem.W.Frag) : Sp := fun vs H Q _ => ∃ (L : List Nat) (v : V), vs = [.str (T L), v] ∧ L.length ≤ 50 ∧ VOk K H v ∧ ∀ (H' : Hp), Same H H' → Q (.bl (besV L v)) H'
theorem ok_besV {f : Addr} {fd : FuncData} (F : Fun K "is_beside" "is_beside" sBeside f fd) (B : Bn mg) (C : Cn mg) (DT : Df P w K mg base "is_text" psIsText 1 (spTxV K)) (DR : Df P w K mg base "is_rising" ["text"] 1 spRise) :
    FnOk P w K mg base CX0 2 f fd ["letters", "signs"] (spBesV K) := by
  obtain ⟨fT, fdT, GT, kT, bT, mT⟩ := DT
  obtain ⟨fR, fdR, GR, kR, bR, mR⟩ := DR
  obtain ⟨tE, mE⟩ := C.edge
  refine F.ok scBeside (fun vs H Q E h => ?_) (fun cdv A outer s H vs Q E hr h => ?_)
  · obtain ⟨L, v, rfl, _⟩ := h
    rfl
  · obtain ⟨L, v, rfl, hL, hv, q⟩ := h
    refine ⟨_, pss_one (ps_ret (pe_and (pe_call GT hr (by rfl) mT kT bT .nil pass0 (pa_cons (pv 1) (pa_cons (pe_op op_add_str (pe_glob (v := .str "#") rfl mE ⟨_, rfl⟩) (pv 0)) (pa_cons pe_int (pa_cons (pe_op op_add (pe_callB call_len_str (by rfl) B.len PySem.boot_len (pa_cons (pv 0) pa_nil)) pe_int) pa_nil)))))
        (pe_one (pe_call GR hr (by rfl) mR kR bR .nil pass0 (pa_cons (pv 1) pa_nil))))), ?_⟩
    have hl : (T L).length ≤ sizeLine := by rw [T_len]; exact small (by omega)
    refine ⟨_, rfl, _, rfl, _, _, rfl, rfl, (by rw [len_hash, T_len]; exact small (by omega)), _, rfl, _, rfl, hl, _, _, rfl, rfl, v, 35 :: L, 0, L.length + 1, ?_, hv, fun H1 s1 => ?_⟩
    · rw [hash_app, T_len]
      rfl
    refine ⟨_, rfl, ite2 (fun c => ?_) (fun c => ?_)⟩
    · obtain ⟨z, rfl, hz⟩ : ∃ z : List Nat, v = .str (T z) ∧ z.length ≤ 100 := by
        rcases hv with h | h
        · exact h
        · rcases h with rfl | ⟨i, rfl⟩ | ⟨a, xs, rfl, h⟩ | ⟨a, xs, rfl, h⟩ <;> cases c
      refine ⟨_, rfl, z, rfl, hz, fun H2 s2 => ?_⟩
      have := q H2 (s1.trans s2)
      unfold besV at this
      rw [c, Bool.true_and] at this
      exact this
    · have := q H1 s1
      unfold besV at this
      rw [Bool.eq_false_iff.mpr c, Bool.false_and] at this
      exact this
def spIsRuV (K : PySem.W.Frag) : Sp := fun vs H Q _ => ∃ (L : List Nat) (v : V) (b : Bool), vs = [.str (T L), v] ∧ L.length ≤ 50 ∧ RulR K H L v b ∧ ∀ (H' : Hp), Same H H' → Q (.bl b) H'
theorem ok_isRuV {f : Addr} {fd : FuncData} (F : Fun K "is_rule" "is_rule" sIsRule f fd) (B : Bn mg) (C : Cn mg) (DT : Df P w K mg base "is_text" psIsText 1 (spTxV K)) (DB : Df P w K mg base "is_beside" ["letters", "signs"] 2 (spBesV K)) :
    FnOk P w K mg base CX0 3 f fd ["letters", "rule"] (spIsRuV K) := by
  obtain ⟨fT, fdT, GT, kT, bT, mT⟩ := DT
  obtain ⟨fB, fdB, GB, kB, bB, mB⟩ := DB
  obtain ⟨tC, mC⟩ := C.caps
  obtain ⟨tS, mS⟩ := C.lrs
  refine F.ok scIsRule (fun vs H Q E h => ?_) (fun cdv A outer s H vs Q E hr h => ?_)
  · obtain ⟨L, v, b, rfl, _⟩ := h
    rfl
  · obtain ⟨L, v, b, rfl, hL, hv, q⟩ := h
    have hr1 : Room 1 _ := hr.mono (by decide)
    refine ⟨_, pss_cons (ps_if (PW.pt (pw_or (pt_not (pt_val (pe_callB call_isi (by rfl) B.isi (by decide +kernel) (pa_cons (pv 1) (pa_cons (pe_bltn (v := .ty "tuple") rfl B.tup (by decide +kernel) rfl) pa_nil)))))
          (pw_or1 (pt_cmpR op_ne (pe_callB call_len (by rfl) B.len PySem.boot_len (pa_cons (pv 1) pa_nil)) pe_int (nomark _))))) (pss_one (ps_ret pe_bl)) pss_nil)
      (pss_cons (ps_asg (pv 1) (pg_tup (by rfl) (pgs_cons (pg_name (i := 2) scIsRule.nd rfl (.inl rfl)) (pgs_cons (pg_name (i := 3) scIsRule.nd rfl (.inl rfl)) (pgs_cons (pg_name (i := 4) scIsRule.nd rfl (.inl rfl)) (pgs_cons (pg_name (i := 5) scIsRule.nd rfl (.inl rfl)) pgs_nil))))))
      (pss_one (ps_ret (pe_and (pe_call GB hr (by rfl) mB kB bB .nil pass0 (pa_cons (pv 0) (pa_cons (pv 2) pa_nil)))
        (pe_and (pe_call GT hr1 (by rfl) mT kT bT .nil pass0 (pa_cons (pv 3) (pa_cons (pv 0) (pa_cons pe_int (pa_cons pe_int pa_nil)))))
        (pe_and (pe_call GB hr (by rfl) mB kB bB .nil pass0 (pa_cons (pv 0) (pa_cons (pv 4) pa_nil)))
        (pe_one (pe_call GT hr1 (by rfl) mT kT bT .nil pass0 (pa_cons (pv 5) (pa_cons (pe_glob (v := .str "ABCDEFGHIJKLMNOPQRSTUVWXYZ") rfl mC ⟨_, rfl⟩) (pa_cons pe_int (pa_cons (pe_glob (v := .int 3) rfl mS ⟨_, rfl⟩) pa_nil)))))))))))), ?_⟩
    rcases hv with ⟨hn, rfl⟩ | ⟨t, xs, rfl, ht, hl, rfl⟩ | ⟨t, a, o, e, z, rfl, ht, ha, ho, he, hz, rfl⟩
    · obtain ⟨t, h1, h2⟩ := hn.ty
      exact ⟨_, rfl, v, _, .type t, _, false, rfl, ClsV.ty _, h1, kit_ty h2, false, rfl, iteT (q H (Same.refl H))⟩
    · refine ⟨_, rfl, _, _, .type "tuple", _, true, rfl, ClsV.ty _, tyT ht, kit_ty (by decide +kernel), true, rfl, iteF ?_⟩
      refine ⟨_, rfl, _, _, rfl, .inr ⟨_, ht, rfl⟩, rfl, _, rfl, ?_⟩
      rw [show decide (V.int ((xs.length : Nat) : Int) = V.int 4) = false from decide_eq_false fun z => hl (by have := V.int.inj z; omega)]
      exact iteT (q H (Same.refl H))
    · refine ⟨_, rfl, _, _, .type "tuple", _, true, rfl, ClsV.ty _, tyT ht, kit_ty (by decide +kernel), true, rfl, iteF ?_⟩
      refine ⟨_, rfl, _, 4, rfl, .inr ⟨_, ht, rfl⟩, rfl, _, rfl, iteF ?_⟩
      refine ⟨_, rfl, t, _, rfl, ht, rfl, _, _, rfl, _, _, rfl, _, _, rfl, _, _, rfl, rfl, ?_⟩
      unfold rulV at q
      refine ⟨_, rfl, _, rfl, L, a, rfl, hL, ha, fun H1 s1 => ?_⟩
      refine ⟨_, rfl, ?_⟩
      cases c1 : besV L a with
      | false => rw [c1, Bool.false_and] at q; exact iteF (q H1 s1)
      | true =>
        rw [c1, Bool.true_and] at q
        refine iteT ?_
        refine ⟨_, rfl, _, rfl, o, L, 1, 2, rfl, ho.same s1, fun H2 s2 => ?_⟩
        refine ⟨_, rfl, ?_⟩
        cases c2 : txV o L 1 2 with
        | false => rw [c2, Bool.false_and] at q; exact iteF (q H2 (s1.trans s2))
        | true =>
          rw [c2, Bool.true_and] at q
          refine iteT ?_
          refine ⟨_, rfl, _, rfl, L, e, rfl, hL, he.same (s1.trans s2), fun H3 s3 => ?_⟩
          refine ⟨_, rfl, ?_⟩
          cases c3 : besV L e with
          | false => rw [c3, Bool.false_and] at q; exact iteF (q H3 ((s1.trans s2).trans s3))
          | true =>
            rw [c3, Bool.true_and] at q
            refine iteT ?_
            refine ⟨_, rfl, z, capsL, 0, 3, (by rw [caps_eq]; rfl), hz.same ((s1.trans s2).trans s3), fun H4 s4 => ?_⟩
            exact q H4 (((s1.trans s2).trans s3).trans s4)
def spExdV (K : PySem.W.Frag) : Sp := fun vs H Q _ => ∃ (L : List Nat) (v : V), vs = [.str (T L), v] ∧ VOk K H v ∧ ∀ (H' : Hp), Same H H' → Q (.bl (txV v L 1 8)) H'
theorem ok_exdV {f : Addr} {fd : FuncData} (F : Fun K "is_excepted" "is_excepted" sExcd f fd) (C : Cn mg) (DT : Df P w K mg base "is_text" psIsText 1 (spTxV K)) : FnOk P w K mg base CX0 2 f fd ["letters", "word"] (spExdV K) := by
  obtain ⟨fT, fdT, GT, kT, bT, mT⟩ := DT
  obtain ⟨tX, mX⟩ := C.lexc
  refine F.ok scExcd (fun vs H Q E h => ?_) (fun cdv A outer s H vs Q E hr h => ?_)
  · obtain ⟨L, z, rfl, _⟩ := h
    rfl
  · obtain ⟨L, z, rfl, hl, q⟩ := h
    refine ⟨_, pss_one (ps_ret (pe_call GT hr (by rfl) mT kT bT .nil pass0 (pa_cons (pv 1) (pa_cons (pv 0) (pa_cons pe_int (pa_cons (pe_glob (v := .int 8) rfl mX ⟨_, rfl⟩) pa_nil)))))), ?_⟩
    exact ⟨_, rfl, _, rfl, z, L, 1, 8, rfl, hl, q⟩
def spSoV (K : PySem.W.Frag) : Sp := fun vs H Q _ => ∃ (v : V), vs = [v] ∧ VOk K H v ∧ ∀ (H' : Hp), Same H H' → Q (.bl (txV v capsL 0 36)) H'
theorem ok_soV {f : Addr} {fd : FuncData} (F : Fun K "is_sounds" "is_sounds" sIsSo f fd) (C : Cn mg) (DT : Df P w K mg base "is_text" psIsText 1 (spTxV K)) : FnOk P w K mg base CX0 2 f fd ["sounds"] (spSoV K) := by
  obtain ⟨fT, fdT, GT, kT, bT, mT⟩ := DT
  obtain ⟨tC, mC⟩ := C.caps
  obtain ⟨tS, mS⟩ := C.lso
  refine F.ok scIsSo (fun vs H Q E h => ?_) (fun cdv A outer s H vs Q E hr h => ?_)
  · obtain ⟨z, rfl, _⟩ := h
    rfl
  · obtain ⟨z, rfl, hl, q⟩ := h
    refine ⟨_, pss_one (ps_ret (pe_call GT hr (by rfl) mT kT bT .nil pass0 (pa_cons (pv 0) (pa_cons (pe_glob (v := .str "ABCDEFGHIJKLMNOPQRSTUVWXYZ") rfl mC ⟨_, rfl⟩) (pa_cons pe_int (pa_cons (pe_glob (v := .int 36) rfl mS ⟨_, rfl⟩) pa_nil)))))), ?_⟩
    exact ⟨_, rfl, z, capsL, 0, 36, (by rw [caps_eq]; rfl), hl, q⟩
def spIsExV (K : PySem.W.Frag) : Sp := fun vs H Q _ => ∃ (L : List Nat) (v : V) (w : Option (List Nat)), vs = [.str (T L), v] ∧ ExcR K H L v w ∧ ∀ (H' : Hp), Same H H' → Q (.bl w.isSome) H'
theorem ok_isExV {f : Addr} {fd : FuncData} (F : Fun K "is_exception" "is_exception" sIsExc f fd) (B : Bn mg) (DX : Df P w K mg base "is_excepted" ["letters", "word"] 2 (spExdV K)) (DS : Df P w K mg base "is_sounds" ["sounds"] 2 (spSoV K)) :
    FnOk P w K mg base CX0 3 f fd ["letters", "pair"] (spIsExV K) := by
  obtain ⟨fX, fdX, GX, kX, bX, mX⟩ := DX
  obtain ⟨fS, fdS, GS, kS, bS, mS⟩ := DS
  refine F.ok scIsExc (fun vs H Q E h => ?_) (fun cdv A outer s H vs Q E hr h => ?_)
  · obtain ⟨L, v, w, rfl, _⟩ := h
    rfl
  · obtain ⟨L, v, w, rfl, hv, q⟩ := h
    refine ⟨_, pss_cons (ps_if (PW.pt (pw_or (pt_not (pt_val (pe_callB call_isi (by rfl) B.isi (by decide +kernel) (pa_cons (pv 1) (pa_cons (pe_bltn (v := .ty "tuple") rfl B.tup (by decide +kernel) rfl) pa_nil)))))
          (pw_or1 (pt_cmpR op_ne (pe_callB call_len (by rfl) B.len PySem.boot_len (pa_cons (pv 1) pa_nil)) pe_int (nomark _))))) (pss_one (ps_ret pe_bl)) pss_nil)
      (pss_cons (ps_asg (pv 1) (pg_tup (by rfl) (pgs_cons (pg_name (i := 2) scIsExc.nd rfl (.inl rfl)) (pgs_cons (pg_name (i := 3) scIsExc.nd rfl (.inl rfl)) pgs_nil))))
      (pss_one (ps_ret (pe_and (pe_call GX hr (by rfl) mX kX bX .nil pass0 (pa_cons (pv 0) (pa_cons (pv 2) pa_nil)))
        (pe_one (pe_call GS hr (by rfl) mS kS bS .nil pass0 (pa_cons (pv 3) pa_nil))))))), ?_⟩
    rcases hv with ⟨hn, rfl⟩ | ⟨t, xs, rfl, ht, hl, rfl⟩ | ⟨t, a, z, rfl, ht, ha, hz, hw⟩
    · obtain ⟨t, h1, h2⟩ := hn.ty
      exact ⟨_, rfl, v, _, .type t, _, false, rfl, ClsV.ty _, h1, kit_ty h2, false, rfl, iteT (q H (Same.refl H))⟩
    · refine ⟨_, rfl, _, _, .type "tuple", _, true, rfl, ClsV.ty _, tyT ht, kit_ty (by decide +kernel), true, rfl, iteF ?_⟩
      refine ⟨_, rfl, _, _, rfl, .inr ⟨_, ht, rfl⟩, rfl, _, rfl, ?_⟩
      rw [show decide (V.int ((xs.length : Nat) : Int) = V.int 2) = false from decide_eq_false fun z => hl (by have := V.int.inj z; omega)]
      exact iteT (q H (Same.refl H))
    · have hq : w.isSome = excV L a z := by
        rcases hw with ⟨h1, rfl⟩ | ⟨_, _, h1, rfl⟩ <;> rw [h1] <;> rfl
      rw [hq] at q
      unfold excV at q
      refine ⟨_, rfl, _, _, .type "tuple", _, true, rfl, ClsV.ty _, tyT ht, kit_ty (by decide +kernel), true, rfl, iteF ?_⟩
      refine ⟨_, rfl, _, 2, rfl, .inr ⟨_, ht, rfl⟩, rfl, _, rfl, iteF ?_⟩
      refine ⟨_, rfl, t, _, rfl, ht, rfl, _, _, rfl, _, _, rfl, rfl, ?_⟩
      refine ⟨_, rfl, _, rfl, L, a, rfl, ha, fun H1 s1 => ?_⟩
      refine ⟨_, rfl, ?_⟩
      cases c1 : txV a L 1 8 with
      | false => rw [c1, Bool.false_and] at q; exact iteF (q H1 s1)
      | true =>
        rw [c1, Bool.true_and] at q
        refine iteT ?_
        exact ⟨_, rfl, z, rfl, hz.same s1, fun H4 s4 => q H4 (s1.trans s4)⟩
end
end Say
namespace Say
open PySem PySem.Spec PyProof.Rows L2
theorem first_of {p : Nat → Prop} (h : ∃ n, p n) : ∃ n, p n ∧ ∀ m, m < n → ¬ p m := by
  obtain ⟨n, hn⟩ := h
  induction n using Nat.strongRecOn with
  | _ n ih =>
    by_cases c : ∃ m, m < n ∧ p m
    · obtain ⟨m, h1, h2⟩ := c
      exact ih m h1 h2
    · exact ⟨n, hn, fun m hm z => c ⟨m, hm, z⟩⟩
def letV (v : V) : Bool := txV v smallL 2 4 && riV v
/-- v as a tuple of rules: which are -/
def RsR (K : PySem.W.Frag) (H : Hp) (L : List Nat) (v : V) (o : Option (List Bool)) : Prop := (NoTup K H v ∧ o = none) ∨ ∃ t xs bs, v = .ref t ∧ SqT K H t xs ∧ xs.length ≤ 90 ∧ Paired (RulR K H L) xs bs ∧ o = some bs
def badRs (o : Option (List Bool)) (n : Nat) : Prop := match o with
  | none => n = 0
  | some bs => badR bs n
def EsR (K : PySem.W.Frag) (H : Hp) (L : List Nat) (v : V) (o : Option (List (Option (List Nat)))) : Prop := (NoTup K H v ∧ o = none) ∨ ∃ t xs ws, v = .ref t ∧ SqT K H t xs ∧ xs.length ≤ 90 ∧ Paired (ExcR K H L) xs ws ∧ o = some ws
def badEs (o : Option (List (Option (List Nat)))) (n : Nat) : Prop := match o with
  | none => n = 0
  | some ws => badE ws n
theorem RsR.same {K : PySem.W.Frag} {H H' : Hp} {L : List Nat} {v : V} {o : Option (List Bool)} (h : RsR K H L v o) (s : Same H H') : RsR K H' L v o := by
  rcases h with ⟨h, e⟩ | ⟨t, xs, bs, h1, h2, h3, h4, e⟩
  · exact .inl ⟨h.same s, e⟩
  · exact .inr ⟨t, xs, bs, h1, seqT_same s h2, h3, paired_mono (fun _ _ q => q.same s) h4, e⟩
theorem EsR.same {K : PySem.W.Frag} {H H' : Hp} {L : List Nat} {v : V} {o : Option (List (Option (List Nat)))} (h : EsR K H L v o) (s : Same H H') : EsR K H' L v o := by
  rcases h with ⟨h, e⟩ | ⟨t, xs, bs, h1, h2, h3, h4, e⟩
  · exact .inl ⟨h.same s, e⟩
  · exact .inr ⟨t, xs, bs, h1, seqT_same s h2, h3, paired_mono (fun _ _ q => q.same s) h4, e⟩
theorem refB.same {CB : Addr} {H H' : Hp} {E : XK} {p n : Int} (h : refB CB H E p n) (s : Same H H') : refB CB H' E p n := fun d H2 s2 hd hx => h d H2 (s.trans s2) (s.free hd) hx
section
variable {P : Program} {w : World} {K : PySem.W.Frag} {mg : Str → Option Value} {base : Heap} {CB fI : Addr}
def spChLV (K : PySem.W.Frag) (CB : Addr) : Sp := fun vs H Q E => ∃ (v : V), vs = [v] ∧ VOk K H v ∧ (letV v = true → ∀ (H' : Hp), Same H H' → Q .non H') ∧ (letV v = false → refB CB H E 0 0)
theorem ok_chLV {f : Addr} {fd : FuncData} (F : Fun K "check_letters" "check_letters" sChL f fd) (C : Cn mg) (cL : KI mg "LETTERS" 0) (O : PySem.XBadBook.ExTxt P K mg CB fI) (DT : Df P w K mg base "is_text" psIsText 1 (spTxV K)) (DR : Df P w K mg base "is_rising" ["text"] 1 spRise) :
    FnOk P w K mg base (L2.CX P w) 2 f fd ["letters"] (spChLV K CB) := by
  obtain ⟨fT, fdT, GT, kT, bT, mT⟩ := DT
  obtain ⟨fR, fdR, GR, kR, bR, mR⟩ := DR
  obtain ⟨tS, mS⟩ := C.small
  obtain ⟨tL, mL⟩ := cL
  refine F.okX scChL (fun vs H Q E h => ?_) (fun cdv A outer s H vs Q E hr h => ?_)
  · obtain ⟨L, rfl, _⟩ := h
    rfl
  · obtain ⟨v, rfl, hv, q1, q2⟩ := h
    refine ⟨_, pss_one (ps_if (PW.pt (pw_or (pt_not (pt_val (pe_call GT hr (by rfl) mT kT bT .nil pass0 (pa_cons (pv 0) (pa_cons (pe_glob (v := .str "abcdefghijklmnopqrstuvwxyz") rfl mS ⟨_, rfl⟩) (pa_cons pe_int (pa_cons pe_int pa_nil)))))))
        (pw_or1 (pt_not (pt_val (pe_call GR hr (by rfl) mR kR bR .nil pass0 (pa_cons (pv 0) pa_nil))))))) (pss_one (ps_raiseBadBook rfl O hr (takes_of rfl rfl rfl rfl) (by exact (pa_cons (pe_glob (v := .int 0) rfl mL ⟨_, rfl⟩) (pa_cons pe_int pa_nil))))) pss_nil), ?_⟩
    unfold letV at q1 q2
    refine ⟨_, rfl, v, smallL, 2, 4, (by rw [small_eq]; rfl), hv, fun H1 s1 => ?_⟩
    cases c1 : txV v smallL 2 4 with
    | false =>
      rw [c1] at q2
      refine ⟨false, rfl, iteT ?_⟩
      exact ⟨0, 0, rfl, ⟨by decide, by decide⟩, ⟨by decide, by decide⟩, fun d hd => q2 rfl d _ (s1.trans (same_new hd _)) (s1.free hd) upd_same⟩
    | true =>
      rw [c1, Bool.true_and] at q1 q2
      refine ⟨true, rfl, iteF ?_⟩
      obtain ⟨z, rfl, hz⟩ : ∃ z : List Nat, v = .str (T z) ∧ z.length ≤ 100 := by
        rcases hv with h | h
        · exact h
        · rcases h with rfl | ⟨i, rfl⟩ | ⟨a, xs, rfl, h⟩ | ⟨a, xs, rfl, h⟩ <;> cases c1
      refine ⟨_, rfl, z, rfl, hz, fun H2 s2 => ?_⟩
      have q1 : rises z = true → ∀ H', Same H H' → Q .non H' := q1
      have q2 : rises z = false → refB CB H E 0 0 := q2
      cases c2 : rises z with
      | true => exact ⟨true, rfl, iteF (q1 c2 H2 (s1.trans s2))⟩
      | false =>
        refine ⟨false, rfl, iteT ?_⟩
        exact ⟨0, 0, rfl, ⟨by decide, by decide⟩, ⟨by decide, by decide⟩, fun d hd => q2 c2 d _ ((s1.trans s2).trans (same_new hd _)) ((s1.trans s2).free hd) upd_same⟩
def spChRV (K : PySem.W.Frag) (CB : Addr) : Sp := fun vs H Q E => ∃ (L : List Nat) (v : V) (o : Option (List Bool)), vs = [.str (T L), v] ∧ L.length ≤ 50 ∧ RsR K H L v o ∧ ((∀ n, ¬ badRs o n) → ∀ (H' : Hp), Same H H' → Q .non H') ∧ (∀ n : Nat, badRs o n → (∀ m, m < n → ¬ badRs o m) → refB CB H E 1 n)
theorem ok_chRV {f : Addr} {fd : FuncData} (F : Fun K "check_rules" "check_rules" sChR f fd) (B : Bn mg) (C : Cn mg) (cR : KI mg "RULES" 1) (O : PySem.XBadBook.ExTxt P K mg CB fI) (DI : Df P w K mg base "is_rule" ["letters", "rule"] 3 (spIsRuV K)) :
    FnOk P w K mg base (L2.CX P w) 4 f fd ["letters", "rules"] (spChRV K CB) := by
  obtain ⟨fI, fdI, GI, kI, bI, mI⟩ := DI
  obtain ⟨tS, mS⟩ := C.mrul
  obtain ⟨tR, mR⟩ := cR
  refine F.okX scChR (fun vs H Q E h => ?_) (fun cdv A outer s H vs Q E hr h => ?_)
  · obtain ⟨L, v, o, rfl, _⟩ := h
    rfl
  · obtain ⟨L, v, o, rfl, hL, hv, q1, q2⟩ := h
    have px : PassesOwn (model P w) (A.deeper (envOfC "check_rules" (defScope sChR) s.heap.objs.size f cdv)) (envOfC "check_rules" (defScope sChR) s.heap.objs.size f cdv) (cxOf (L2.CX P w) P w K mg base ["letters", "rules", "number", "rule"] "check_rules" (defScope sChR) f cdv A outer s H E).xe := PassesOwn.leaving
    refine ⟨_, pss_cons (ps_if (pt_not (pt_val (pe_callB call_isi (by rfl) B.isi (by decide +kernel) (pa_cons (pv 1) (pa_cons (pe_bltn (v := .ty "tuple") rfl B.tup (by decide +kernel) rfl) pa_nil))))) (pss_one (ps_raiseBadBook rfl O hr (takes_of rfl rfl rfl rfl) (by exact (pa_cons (pe_glob (v := .int 1) rfl mR ⟨_, rfl⟩) (pa_cons pe_int pa_nil))))) pss_nil)
      (pss_one (ps_for px rfl (pi_enumT (by rfl) B.enu (pa_cons (pv 1) pa_nil)) (pg_tup (by rfl) (pgs_cons (pg_name (i := 2) scChR.nd rfl (.inl rfl)) (pgs_cons (pg_name (i := 3) scChR.nd rfl (.inl rfl)) pgs_nil)))
        (pss_one (ps_if (PW.pt (pw_or (pt_cmpR op_eq (pv 2) (pe_glob (v := .int 12) rfl mS ⟨_, rfl⟩) (nomark _)) (pw_or1 (pt_not (pt_val (pe_call GI hr (by rfl) mI kI bI .nil pass0 (pa_cons (pv 0) (pa_cons (pv 3) pa_nil)))))))) (pss_one (ps_raiseBadBook rfl O hr (takes_of rfl rfl rfl rfl) (by exact (pa_cons (pe_glob (v := .int 1) rfl mR ⟨_, rfl⟩) (pa_cons (pv 2) pa_nil))))) pss_nil)))), ?_⟩
    rcases hv with ⟨hn, rfl⟩ | ⟨t, xs, bs, rfl, ht, h90, hp, rfl⟩
    · obtain ⟨t, h1, h2⟩ := hn.ty
      refine ⟨_, rfl, v, _, .type t, _, false, rfl, ClsV.ty _, h1, kit_ty h2, false, rfl, iteT ?_⟩
      exact ⟨1, 0, rfl, ⟨by decide, by decide⟩, ⟨by decide, by decide⟩, fun d hd => q2 0 rfl (fun m hm => absurd hm (Nat.not_lt_zero m)) d _ (same_new hd _) hd upd_same⟩
    · have hl := paired_len hp
      refine ⟨_, rfl, _, _, .type "tuple", _, true, rfl, ClsV.ty _, tyT ht, kit_ty (by decide +kernel), true, rfl, iteF ?_⟩
      refine ⟨_, rfl, t, _, rfl, ht, for_it (walk_enumT (xs := xs)) (fun i σ H2 => Same H H2 ∧ (∃ v2 v3, σ = [some (.str (T L)), some (.ref t), v2, v3]) ∧ ∀ m, m < i → ¬ badR bs m) ⟨Same.refl H, ⟨_, _, rfl⟩, fun m hm => absurd hm (Nat.not_lt_zero m)⟩ (fun i σ H2 _ h => seqT_same h.1 ht) ?_ ?_⟩
      · rintro i x σ H2 H3 hi ⟨s2, ⟨v2, v3, rfl⟩, hb⟩ ⟨tt, x1, x2, rfl, htt, rfl, g1, g2⟩
        cases g1
        have g2 : xs[i]? = some x2 := g2
        obtain ⟨b, hbi, hv⟩ := paired_at hp g2
        have hib : i < bs.length := (List.getElem?_eq_some_iff.mp hbi).1
        have sm := same_new htt (.tup [.int (i : Nat), x2])
        refine ⟨tt, _, rfl, .inl (.inl upd_same), rfl, _, _, rfl, _, _, rfl, rfl, ?_⟩
        refine ⟨_, rfl, rfl, _, rfl, ?_⟩
        by_cases c : i = 12
        · rw [show decide (V.int ((i : Nat) : Int) = V.int 12) = true from decide_eq_true (by rw [c] <;> rfl)]
          refine iteT ?_
          exact ⟨_, rfl, 1, (i : Nat), rfl, ⟨by decide, by decide⟩, ⟨by omega, by omega⟩, fun d hd => q2 i ⟨hib, .inl c⟩ hb d _ ((s2.trans sm).trans (same_new hd _)) ((s2.trans sm).free hd) upd_same⟩
        · rw [show decide (V.int ((i : Nat) : Int) = V.int 12) = false from decide_eq_false fun z => c (by have := V.int.inj z; omega)]
          refine iteF ?_
          refine ⟨_, rfl, _, rfl, L, x2, b, rfl, hL, hv.same (s2.trans sm), fun H4 s4 => ?_⟩
          have s24 := (s2.trans sm).trans s4
          cases b with
          | true =>
            refine ⟨true, rfl, iteF ⟨s24, ⟨_, _, rfl⟩, fun m hm => ?_⟩⟩
            rcases Nat.lt_or_eq_of_le (Nat.le_of_lt_succ hm) with h | h
            · exact hb m h
            · rw [h]
              rintro ⟨_, z | z⟩
              · exact c z
              · rw [hbi] at z; cases z
          | false =>
            refine ⟨false, rfl, iteT ?_⟩
            exact ⟨_, rfl, 1, (i : Nat), rfl, ⟨by decide, by decide⟩, ⟨by omega, by omega⟩, fun d hd => q2 i ⟨hib, .inr hbi⟩ hb d _ (s24.trans (same_new hd _)) (s24.free hd) upd_same⟩
      · rintro σ H2 ⟨s2, _, hb⟩
        exact q1 (fun n hn => hb n (by have := hn.1; omega) hn) H2 s2
def spChEV (K : PySem.W.Frag) (CB : Addr) : Sp := fun vs H Q E => ∃ (L : List Nat) (v : V) (o : Option (List (Option (List Nat)))), vs = [.str (T L), v] ∧ EsR K H L v o ∧ ((∀ n, ¬ badEs o n) → ∀ (H' : Hp), Same H H' → Q .non H') ∧ (∀ n : Nat, badEs o n → (∀ m, m < n → ¬ badEs o m) → refB CB H E 2 n)
theorem ok_chEV {f : Addr} {fd : FuncData} (F : Fun K "check_exceptions" "check_exceptions" sChE f fd) (B : Bn mg) (cM : KI mg "MOST_EXCEPTIONS" 8) (cE : KI mg "EXCEPTIONS" 2) (O : PySem.XBadBook.ExTxt P K mg CB fI) (DI : Df P w K mg base "is_exception" ["letters", "pair"] 3 (spIsExV K)) :
    FnOk P w K mg base (L2.CX P w) 4 f fd ["letters", "exceptions"] (spChEV K CB) := by
  obtain ⟨fI, fdI, GI, kI, bI, mI⟩ := DI
  obtain ⟨tS, mS⟩ := cM
  obtain ⟨tR, mR⟩ := cE
  refine F.okX scChE (fun vs H Q E h => ?_) (fun cdv A outer s H vs Q E hr h => ?_)
  · obtain ⟨L, v, o, rfl, _⟩ := h
    rfl
  · obtain ⟨L, v, o, rfl, hv, q1, q2⟩ := h
    have px : PassesOwn (model P w) (A.deeper (envOfC "check_exceptions" (defScope sChE) s.heap.objs.size f cdv)) (envOfC "check_exceptions" (defScope sChE) s.heap.objs.size f cdv) (cxOf (L2.CX P w) P w K mg base ["letters", "exceptions", "last", "number", "pair"] "check_exceptions" (defScope sChE) f cdv A outer s H E).xe := PassesOwn.leaving
    refine ⟨_, pss_cons (ps_if (pt_not (pt_val (pe_callB call_isi (by rfl) B.isi (by decide +kernel) (pa_cons (pv 1) (pa_cons (pe_bltn (v := .ty "tuple") rfl B.tup (by decide +kernel) rfl) pa_nil))))) (pss_one (ps_raiseBadBook rfl O hr (takes_of rfl rfl rfl rfl) (by exact (pa_cons (pe_glob (v := .int 2) rfl mR ⟨_, rfl⟩) (pa_cons pe_int pa_nil))))) pss_nil)
      (pss_cons (ps_set (i := 2) scChE.nd rfl (.inl rfl) pe_str)
      (pss_one (ps_for px rfl (pi_enumT (by rfl) B.enu (pa_cons (pv 1) pa_nil)) (pg_tup (by rfl) (pgs_cons (pg_name (i := 3) scChE.nd rfl (.inl rfl)) (pgs_cons (pg_name (i := 4) scChE.nd rfl (.inl rfl)) pgs_nil)))
        (pss_cons (ps_if (PW.pt (pw_or (pt_cmpR op_eq (pv 3) (pe_glob (v := .int 8) rfl mS ⟨_, rfl⟩) (nomark _)) (pw_or (pt_not (pt_val (pe_call GI hr (by rfl) mI kI bI .nil pass0 (pa_cons (pv 0) (pa_cons (pv 4) pa_nil)))))
            (pw_or1 (pt_cmpR op_le_str (pe_ix ix_tup (pv 4) pe_int (fun _ _ => rfl)) (pv 2) (nomark _)))))) (pss_one (ps_raiseBadBook rfl O hr (takes_of rfl rfl rfl rfl) (by exact (pa_cons (pe_glob (v := .int 2) rfl mR ⟨_, rfl⟩) (pa_cons (pv 3) pa_nil))))) pss_nil)
        (pss_one (ps_set (i := 2) scChE.nd rfl (.inl rfl) (pe_ix ix_tup (pv 4) pe_int (fun _ _ => rfl)))))))), ?_⟩
    rcases hv with ⟨hn, rfl⟩ | ⟨t, xs, ws, rfl, ht, h90, hp, rfl⟩
    · obtain ⟨t, h1, h2⟩ := hn.ty
      refine ⟨_, rfl, v, _, .type t, _, false, rfl, ClsV.ty _, h1, kit_ty h2, false, rfl, iteT ?_⟩
      exact ⟨2, 0, rfl, ⟨by decide, by decide⟩, ⟨by decide, by decide⟩, fun d hd => q2 0 rfl (fun m hm => absurd hm (Nat.not_lt_zero m)) d _ (same_new hd _) hd upd_same⟩
    · have hl := paired_len hp
      refine ⟨_, rfl, _, _, .type "tuple", _, true, rfl, ClsV.ty _, tyT ht, kit_ty (by decide +kernel), true, rfl, iteF ?_⟩
      refine ⟨_, rfl, t, _, rfl, ht, for_it (walk_enumT (xs := xs)) (fun i σ H2 => Same H H2 ∧ (∃ v3 v4, σ = [some (.str (T L)), some (.ref t), some (.str (T (lastW ws i))), v3, v4]) ∧ ∀ m, m < i → ¬ badE ws m) ⟨Same.refl H, ⟨_, _, by rw [show lastW ws 0 = [] from rfl, ← show Str.ofString "" = T [] from nil_eq]; rfl⟩, fun m hm => absurd hm (Nat.not_lt_zero m)⟩ (fun i σ H2 _ h => seqT_same h.1 ht) ?_ ?_⟩
      · rintro i x σ H2 H3 hi ⟨s2, ⟨v3, v4, rfl⟩, hb⟩ ⟨tt, x1, x2, rfl, htt, rfl, g1, g2⟩
        cases g1
        have g2 : xs[i]? = some x2 := g2
        obtain ⟨b, hbi, hv⟩ := paired_at hp g2
        have hib : i < ws.length := (List.getElem?_eq_some_iff.mp hbi).1
        have sm := same_new htt (.tup [.int (i : Nat), x2])
        have ref : badE ws i → ∀ (H4 : Hp), Same H H4 → ∃ p n : Int, [V.int 2, V.int (i : Nat)] = [V.int p, V.int n] ∧ (-1 ≤ p ∧ p ≤ 100) ∧ (-1 ≤ n ∧ n ≤ 100) ∧ ∀ d, H4 d = none → E (.ref CB) (some d) (upd H4 d (.xd [(("number" : Str), .int n), (("part" : Str), .int p)])) := fun bd H4 s4 =>
          ⟨2, (i : Nat), rfl, ⟨by decide, by decide⟩, ⟨by omega, by omega⟩, fun d hd => q2 i bd hb d _ (s4.trans (same_new hd _)) (s4.free hd) upd_same⟩
        refine ⟨tt, _, rfl, .inl (.inl upd_same), rfl, _, _, rfl, _, _, rfl, rfl, ?_⟩
        refine ⟨_, rfl, rfl, _, rfl, ?_⟩
        by_cases c : i = 8
        · rw [show decide (V.int ((i : Nat) : Int) = V.int 8) = true from decide_eq_true (by rw [c] <;> rfl)]
          refine iteT ?_
          exact ⟨_, rfl, ref ⟨hib, .inl c⟩ _ (s2.trans sm)⟩
        · rw [show decide (V.int ((i : Nat) : Int) = V.int 8) = false from decide_eq_false fun z => c (by have := V.int.inj z; omega)]
          refine iteF ?_
          refine ⟨_, rfl, _, rfl, L, x2, b, rfl, hv.same (s2.trans sm), fun H4 s4 => ?_⟩
          have s24 := (s2.trans sm).trans s4
          cases b with
          | none =>
            refine ⟨false, rfl, iteT ?_⟩
            exact ⟨_, rfl, ref ⟨hib, .inr (.inl hbi)⟩ _ s24⟩
          | some wd =>
            refine ⟨true, rfl, iteF ?_⟩
            rcases hv.same s24 with ⟨_, e⟩ | ⟨_, _, _, _, _, e⟩ | ⟨u, a, z, rfl, hu, _, _, ⟨_, e⟩ | ⟨wd', rfl, _, e⟩⟩
            · cases e
            · cases e
            · cases e
            have e := Option.some.inj e
            subst e
            refine ⟨_, rfl, u, _, 0, .str (T wd), rfl, rfl, hu, atI_nat (j := 0) rfl, _, rfl, _, _, rfl, rfl, _, rfl, ?_⟩
            by_cases lt : lastW ws i < wd
            · rw [show decide ((T (lastW ws i)).cps.toList < (T wd).cps.toList) = true from decide_eq_true lt]
              refine iteF ?_
              refine ⟨_, rfl, u, _, 0, .str (T wd), rfl, rfl, hu, atI_nat (j := 0) rfl, ?_⟩
              refine ⟨s24, ⟨_, _, by rw [show lastW ws (i + 1) = wd by show (ws.getD i none).getD [] = wd; rw [List.getD_eq_getElem?_getD, hbi] <;> rfl]; rfl⟩, fun m hm => ?_⟩
              rcases Nat.lt_or_eq_of_le (Nat.le_of_lt_succ hm) with h | h
              · exact hb m h
              · rw [h]
                rintro ⟨_, z | z | ⟨w', z, n⟩⟩
                · exact c z
                · rw [hbi] at z; cases z
                · rw [hbi] at z
                  have := Option.some.inj (Option.some.inj z)
                  rw [← this] at n
                  exact n lt
            · rw [show decide ((T (lastW ws i)).cps.toList < (T wd).cps.toList) = false from decide_eq_false lt]
              refine iteT ?_
              exact ⟨_, rfl, ref ⟨hib, .inr (.inr ⟨wd, hbi, lt⟩)⟩ _ s24⟩
      · rintro σ H2 ⟨s2, _, hb⟩
        exact q1 (fun n hn => hb n (by have := hn.1; omega) hn) H2 s2
/-- any value as a book -/
def spChV (K : PySem.W.Frag) (CB : Addr) : Sp := fun vs H Q E => ∃ (v : V), vs = [v] ∧
  ((NoTup K H v ∧ refB CB H E (-1) 0) ∨ (∃ t xs, v = .ref t ∧ SqT K H t xs ∧ xs.length ≠ 3 ∧ refB CB H E (-1) 0) ∨
   ∃ t l r x, v = .ref t ∧ SqT K H t [l, r, x] ∧ VOk K H l ∧ (letV l = false → refB CB H E 0 0) ∧
     (∀ L, l = .str (T L) → letV l = true → ∃ o, RsR K H L r o ∧ (∀ n : Nat, badRs o n → (∀ m, m < n → ¬ badRs o m) → refB CB H E 1 n) ∧
       ((∀ n, ¬ badRs o n) → ∃ oe, EsR K H L x oe ∧ (∀ n : Nat, badEs oe n → (∀ m, m < n → ¬ badEs oe m) → refB CB H E 2 n) ∧ ((∀ n, ¬ badEs oe n) → ∀ H', Same H H' → Q v H'))))
theorem ok_chV {f : Addr} {fd : FuncData} (F : Fun K "checked_book" "checked_book" sCh f fd) (B : Bn mg) (cN : KI mg "NO_BOOK" (-1)) (O : PySem.XBadBook.ExTxt P K mg CB fI)
    {fL fR fE : Addr} {fdL fdR fdE : FuncData} (GL : FnOk P w K mg base (L2.CX P w) 2 fL fdL ["letters"] (spChLV K CB)) (kL : PySem.W.keepIn K (.ref fL) = true) (bL : Binds K fdL ["letters"] []) (mL : mg "check_letters" = some (.ref fL))
    (GR : FnOk P w K mg base (L2.CX P w) 4 fR fdR ["letters", "rules"] (spChRV K CB)) (kR : PySem.W.keepIn K (.ref fR) = true) (bR : Binds K fdR ["letters", "rules"] []) (mR : mg "check_rules" = some (.ref fR))
    (GE : FnOk P w K mg base (L2.CX P w) 4 fE fdE ["letters", "exceptions"] (spChEV K CB)) (kE : PySem.W.keepIn K (.ref fE) = true) (bE : Binds K fdE ["letters", "exceptions"] []) (mE : mg "check_exceptions" = some (.ref fE)) :
    FnOk P w K mg base (L2.CX P w) 5 f fd ["book"] (spChV K CB) := by
  obtain ⟨tN, mN⟩ := cN
  refine F.okX scCh (fun vs H Q E h => ?_) (fun cdv A outer s H vs Q E hr h => ?_)
  · obtain ⟨v, rfl, _⟩ := h
    rfl
  · obtain ⟨v, rfl, h⟩ := h
    have tk : Takes _ (fun cls d _ H => E cls d H) := takes_of (X := cxOf (L2.CX P w) P w K mg base ["book", "letters", "rules", "exceptions"] "checked_book" (defScope sCh) f cdv A outer s H E) rfl rfl rfl rfl
    refine ⟨_, pss_cons (ps_if (PW.pt (pw_or (pt_not (pt_val (pe_callB call_isi (by rfl) B.isi (by decide +kernel) (pa_cons (pv 0) (pa_cons (pe_bltn (v := .ty "tuple") rfl B.tup (by decide +kernel) rfl) pa_nil)))))
          (pw_or1 (pt_cmpR op_ne (pe_callB call_len (by rfl) B.len PySem.boot_len (pa_cons (pv 0) pa_nil)) pe_int (nomark _))))) (pss_one (ps_raiseBadBook rfl O hr (takes_of rfl rfl rfl rfl) (by exact (pa_cons (pe_glob (v := .int (-1)) rfl mN ⟨_, rfl⟩) (pa_cons pe_int pa_nil))))) pss_nil)
      (pss_cons (ps_asg (pv 0) (pg_tup (by rfl) (pgs_cons (pg_name (i := 1) scCh.nd rfl (.inl rfl)) (pgs_cons (pg_name (i := 2) scCh.nd rfl (.inl rfl)) (pgs_cons (pg_name (i := 3) scCh.nd rfl (.inl rfl)) pgs_nil)))))
      (pss_cons (ps_expr (pe_callS GL (hr.mono (by decide)) (by rfl) mL kL bL (fun σ => passAt tk σ) (by exact (pa_cons (pv 1) pa_nil))))
      (pss_cons (ps_expr (pe_callS GR hr (by rfl) mR kR bR (fun σ => passAt tk σ) (by exact (pa_cons (pv 1) (pa_cons (pv 2) pa_nil)))))
      (pss_cons (ps_expr (pe_callS GE hr (by rfl) mE kE bE (fun σ => passAt tk σ) (by exact (pa_cons (pv 1) (pa_cons (pv 3) pa_nil)))))
      (pss_one (ps_ret (pv 0))))))), ?_⟩
    have ref : refB CB H E (-1) 0 → ∃ p n : Int, [V.int (-1), V.int 0] = [V.int p, V.int n] ∧ (-1 ≤ p ∧ p ≤ 100) ∧ (-1 ≤ n ∧ n ≤ 100) ∧ ∀ d, H d = none → E (.ref CB) (some d) (upd H d (.xd [(("number" : Str), .int n), (("part" : Str), .int p)])) := fun q =>
      ⟨-1, 0, rfl, ⟨by decide, by decide⟩, ⟨by decide, by decide⟩, fun d hd => q d _ (same_new hd _) hd upd_same⟩
    rcases h with ⟨hn, q⟩ | ⟨t, xs, rfl, ht, hl, q⟩ | ⟨t, l, r, x, rfl, ht, hv, ql, q⟩
    · obtain ⟨t, h1, h2⟩ := hn.ty
      exact ⟨_, rfl, v, _, .type t, _, false, rfl, ClsV.ty _, h1, kit_ty h2, false, rfl, iteT (ref q)⟩
    · refine ⟨_, rfl, _, _, .type "tuple", _, true, rfl, ClsV.ty _, tyT ht, kit_ty (by decide +kernel), true, rfl, iteF ?_⟩
      refine ⟨_, rfl, _, _, rfl, .inr ⟨_, ht, rfl⟩, rfl, _, rfl, ?_⟩
      rw [show decide (V.int ((xs.length : Nat) : Int) = V.int 3) = false from decide_eq_false fun z => hl (by have := V.int.inj z; omega)]
      exact iteT (ref q)
    · refine ⟨_, rfl, _, _, .type "tuple", _, true, rfl, ClsV.ty _, tyT ht, kit_ty (by decide +kernel), true, rfl, iteF ?_⟩
      refine ⟨_, rfl, _, 3, rfl, .inr ⟨_, ht, rfl⟩, rfl, _, rfl, iteF ?_⟩
      refine ⟨_, rfl, t, _, rfl, ht, rfl, _, _, rfl, _, _, rfl, _, _, rfl, rfl, ?_⟩
      refine ⟨_, rfl, l, rfl, hv, fun hl H1 s1 => ?_, ql⟩
      obtain ⟨L, rfl, hz⟩ : ∃ z : List Nat, l = .str (T z) ∧ z.length ≤ 100 := by
        rcases hv with h | h
        · exact h
        · rcases h with rfl | ⟨i, rfl⟩ | ⟨a, xs, rfl, h⟩ | ⟨a, xs, rfl, h⟩ <;> cases hl
      have h4 : L.length ≤ 4 := by
        have : (isText L smallL 2 4 && rises L) = true := hl
        unfold isText at this
        simp only [Bool.and_eq_true, decide_eq_true_eq] at this
        exact this.1.2.1
      obtain ⟨o, hR, q2, q3⟩ := q L rfl hl
      refine ⟨_, rfl, _, rfl, L, r, o, rfl, by omega, hR.same s1, fun hno H2 s2 => ?_, fun n hn hm => (q2 n hn hm).same s1⟩
      obtain ⟨oe, hE, q4, q5⟩ := q3 hno
      refine ⟨_, rfl, _, rfl, L, x, oe, rfl, hE.same (s1.trans s2), fun hne H3 s3 => ?_, fun n hn hm => (q4 n hn hm).same (s1.trans s2)⟩
      exact ⟨_, rfl, q5 hne H3 ((s1.trans s2).trans s3)⟩
end
end Say
namespace Say
open PySem PySem.Spec PyProof.Rows L2
/-! ### doors that ask checked_book first -/
/-- a book that can't be: checked_book tells nothing of it -/
def Refused (K : PySem.W.Frag) (CB : Addr) (v : V) (H : Hp) (E : XK) : Prop := spChV K CB [v] H (fun _ _ => False) E
theorem Refused.to {K : PySem.W.Frag} {CB : Addr} {v : V} {H : Hp} {E : XK} {Q : VK} (h : Refused K CB v H E) : spChV K CB [v] H Q E := by
  obtain ⟨u, e, h⟩ := h
  refine ⟨u, e, h.imp id fun h => h.imp id fun ⟨t, l, r, x, h1, h2, h3, h4, h5⟩ => ⟨t, l, r, x, h1, h2, h3, h4, fun L e1 e2 => ?_⟩⟩
  obtain ⟨o, a1, a2, a3⟩ := h5 L e1 e2
  refine ⟨o, a1, a2, fun n1 => ?_⟩
  obtain ⟨oe, b1, b2, b3⟩ := a3 n1
  exact ⟨oe, b1, b2, fun n2 => ((b3 n2) H (Same.refl H)).elim⟩
def spDoor (K : PySem.W.Frag) (CB : Addr) (n : Nat) : Sp := fun vs H Q E => ∃ (v : V) (us : List V), vs = v :: us ∧ us.length = n ∧ Refused K CB v H E
section
variable {P : Program} {w : World} {K : PySem.W.Frag} {mg : Str → Option Value} {base : Heap} {CB : Addr}
abbrev sDUnsaid : Stmt := topS 82
abbrev nDUnsaid : List Str := ["book", "letters", "rules", "_"]
theorem scDUnsaid : FnScope nDUnsaid ["book"] (defScope sDUnsaid) := ⟨rfl, rfl, rfl, by decide +kernel, rfl, by decide +kernel, by decide +kernel⟩
theorem door_unsaid {f fC : Addr} {fd fdC : FuncData} (F : Fun K "unsaid" "unsaid" sDUnsaid f fd) (GC : FnOk P w K mg base (L2.CX P w) 5 fC fdC ["book"] (spChV K CB)) (kC : PySem.W.keepIn K (.ref fC) = true) (bC : Binds K fdC ["book"] []) (mC : mg "checked_book" = some (.ref fC)) :
    FnOk P w K mg base (L2.CX P w) 6 f fd ["book"] (spDoor K CB 0) := by
  refine F.okX scDUnsaid (fun vs H Q E h => ?_) (fun cdv A outer s H vs Q E hr h => ?_)
  · obtain ⟨v, us, rfl, h, _⟩ := h
    show us.length + 1 = _
    rw [h]
    rfl
  · obtain ⟨v, us, rfl, hl, hR⟩ := h
    have tk : Takes _ (fun cls d _ H => E cls d H) := takes_of (X := cxOf (L2.CX P w) P w K mg base nDUnsaid "unsaid" (defScope sDUnsaid) f cdv A outer s H E) rfl rfl rfl rfl
    refine ⟨_, pss_cons (ps_asg (pe_callS GC hr (by rfl) mC kC bC (fun σ => passAt tk σ) (by exact (pa_cons (pv 0) pa_nil))) (pg_tup (by rfl) (pgs_cons (pg_name (i := 1) scDUnsaid.nd rfl (.inl rfl)) (pgs_cons (pg_name (i := 2) scDUnsaid.nd rfl (.inl rfl)) (pgs_cons (pg_name (i := 3) scDUnsaid.nd rfl (.inl rfl)) pgs_nil))))) (pss_one ps_never), ?_⟩
    match us, hl with
    | [], _ => exact ⟨_, rfl, hR.to⟩
abbrev sDIdle : Stmt := topS 83
abbrev nDIdle : List Str := ["book", "letters", "rules", "_", "number"]
theorem scDIdle : FnScope nDIdle ["book"] (defScope sDIdle) := ⟨rfl, rfl, rfl, by decide +kernel, rfl, by decide +kernel, by decide +kernel⟩
theorem door_idle {f fC : Addr} {fd fdC : FuncData} (F : Fun K "idle" "idle" sDIdle f fd) (GC : FnOk P w K mg base (L2.CX P w) 5 fC fdC ["book"] (spChV K CB)) (kC : PySem.W.keepIn K (.ref fC) = true) (bC : Binds K fdC ["book"] []) (mC : mg "checked_book" = some (.ref fC)) :
    FnOk P w K mg base (L2.CX P w) 6 f fd ["book"] (spDoor K CB 0) := by
  refine F.okX scDIdle (fun vs H Q E h => ?_) (fun cdv A outer s H vs Q E hr h => ?_)
  · obtain ⟨v, us, rfl, h, _⟩ := h
    show us.length + 1 = _
    rw [h]
    rfl
  · obtain ⟨v, us, rfl, hl, hR⟩ := h
    have tk : Takes _ (fun cls d _ H => E cls d H) := takes_of (X := cxOf (L2.CX P w) P w K mg base nDIdle "idle" (defScope sDIdle) f cdv A outer s H E) rfl rfl rfl rfl
    refine ⟨_, pss_cons (ps_asg (pe_callS GC hr (by rfl) mC kC bC (fun σ => passAt tk σ) (by exact (pa_cons (pv 0) pa_nil))) (pg_tup (by rfl) (pgs_cons (pg_name (i := 1) scDIdle.nd rfl (.inr rfl)) (pgs_cons (pg_name (i := 2) scDIdle.nd rfl (.inr rfl)) (pgs_cons (pg_name (i := 3) scDIdle.nd rfl (.inl rfl)) pgs_nil))))) (pss_one ps_never), ?_⟩
    match us, hl with
    | [], _ => exact ⟨_, rfl, hR.to⟩
abbrev sDFree : Stmt := topS 84
abbrev nDFree : List Str := ["book", "letters", "rules", "_", "found", "number", "hunt"]
theorem scDFree : FnScope nDFree ["book"] (defScope sDFree) := ⟨rfl, rfl, rfl, by decide +kernel, rfl, by decide +kernel, by decide +kernel⟩
theorem door_free {f fC : Addr} {fd fdC : FuncData} (F : Fun K "free" "free" sDFree f fd) (GC : FnOk P w K mg base (L2.CX P w) 5 fC fdC ["book"] (spChV K CB)) (kC : PySem.W.keepIn K (.ref fC) = true) (bC : Binds K fdC ["book"] []) (mC : mg "checked_book" = some (.ref fC)) :
    FnOk P w K mg base (L2.CX P w) 6 f fd ["book"] (spDoor K CB 0) := by
  refine F.okX scDFree (fun vs H Q E h => ?_) (fun cdv A outer s H vs Q E hr h => ?_)
  · obtain ⟨v, us, rfl, h, _⟩ := h
    show us.length + 1 = _
    rw [h]
    rfl
  · obtain ⟨v, us, rfl, hl, hR⟩ := h
    have tk : Takes _ (fun cls d _ H => E cls d H) := takes_of (X := cxOf (L2.CX P w) P w K mg base nDFree "free" (defScope sDFree) f cdv A outer s H E) rfl rfl rfl rfl
    refine ⟨_, pss_cons (ps_asg (pe_callS GC hr (by rfl) mC kC bC (fun σ => passAt tk σ) (by exact (pa_cons (pv 0) pa_nil))) (pg_tup (by rfl) (pgs_cons (pg_name (i := 1) scDFree.nd rfl (.inl rfl)) (pgs_cons (pg_name (i := 2) scDFree.nd rfl (.inl rfl)) (pgs_cons (pg_name (i := 3) scDFree.nd rfl (.inl rfl)) pgs_nil))))) (pss_cons ps_never (pss_cons ps_never (pss_one ps_never))), ?_⟩
    match us, hl with
    | [], _ => exact ⟨_, rfl, hR.to⟩
abbrev sDNeedless : Stmt := topS 85
abbrev nDNeedless : List Str := ["book", "_", "rules", "exceptions", "word", "sounds"]
theorem scDNeedless : FnScope nDNeedless ["book"] (defScope sDNeedless) := ⟨rfl, rfl, rfl, by decide +kernel, rfl, by decide +kernel, by decide +kernel⟩
theorem door_needless {f fC : Addr} {fd fdC : FuncData} (F : Fun K "needless" "needless" sDNeedless f fd) (GC : FnOk P w K mg base (L2.CX P w) 5 fC fdC ["book"] (spChV K CB)) (kC : PySem.W.keepIn K (.ref fC) = true) (bC : Binds K fdC ["book"] []) (mC : mg "checked_book" = some (.ref fC)) :
    FnOk P w K mg base (L2.CX P w) 6 f fd ["book"] (spDoor K CB 0) := by
  refine F.okX scDNeedless (fun vs H Q E h => ?_) (fun cdv A outer s H vs Q E hr h => ?_)
  · obtain ⟨v, us, rfl, h, _⟩ := h
    show us.length + 1 = _
    rw [h]
    rfl
  · obtain ⟨v, us, rfl, hl, hR⟩ := h
    have tk : Takes _ (fun cls d _ H => E cls d H) := takes_of (X := cxOf (L2.CX P w) P w K mg base nDNeedless "needless" (defScope sDNeedless) f cdv A outer s H E) rfl rfl rfl rfl
    refine ⟨_, pss_cons (ps_asg (pe_callS GC hr (by rfl) mC kC bC (fun σ => passAt tk σ) (by exact (pa_cons (pv 0) pa_nil))) (pg_tup (by rfl) (pgs_cons (pg_name (i := 1) scDNeedless.nd rfl (.inl rfl)) (pgs_cons (pg_name (i := 2) scDNeedless.nd rfl (.inr rfl)) (pgs_cons (pg_name (i := 3) scDNeedless.nd rfl (.inl rfl)) pgs_nil))))) (pss_one ps_never), ?_⟩
    match us, hl with
    | [], _ => exact ⟨_, rfl, hR.to⟩
abbrev sDUse : Stmt := topS 81
abbrev nDUse : List Str := ["book", "number", "letters", "rules", "_"]
theorem scDUse : FnScope nDUse ["book", "number"] (defScope sDUse) := ⟨rfl, rfl, rfl, by decide +kernel, rfl, by decide +kernel, by decide +kernel⟩
theorem door_use {f fC : Addr} {fd fdC : FuncData} (F : Fun K "use" "use" sDUse f fd) (GC : FnOk P w K mg base (L2.CX P w) 5 fC fdC ["book"] (spChV K CB)) (kC : PySem.W.keepIn K (.ref fC) = true) (bC : Binds K fdC ["book"] []) (mC : mg "checked_book" = some (.ref fC)) :
    FnOk P w K mg base (L2.CX P w) 6 f fd ["book", "number"] (spDoor K CB 1) := by
  refine F.okX scDUse (fun vs H Q E h => ?_) (fun cdv A outer s H vs Q E hr h => ?_)
  · obtain ⟨v, us, rfl, h, _⟩ := h
    show us.length + 1 = _
    rw [h]
    rfl
  · obtain ⟨v, us, rfl, hl, hR⟩ := h
    have tk : Takes _ (fun cls d _ H => E cls d H) := takes_of (X := cxOf (L2.CX P w) P w K mg base nDUse "use" (defScope sDUse) f cdv A outer s H E) rfl rfl rfl rfl
    refine ⟨_, pss_cons (ps_asg (pe_callS GC hr (by rfl) mC kC bC (fun σ => passAt tk σ) (by exact (pa_cons (pv 0) pa_nil))) (pg_tup (by rfl) (pgs_cons (pg_name (i := 2) scDUse.nd rfl (.inl rfl)) (pgs_cons (pg_name (i := 3) scDUse.nd rfl (.inl rfl)) (pgs_cons (pg_name (i := 4) scDUse.nd rfl (.inl rfl)) pgs_nil))))) (pss_cons ps_never (pss_one ps_never)), ?_⟩
    match us, hl with
    | [u0], _ => exact ⟨_, rfl, hR.to⟩
abbrev sDSaid : Stmt := topS 60
abbrev nDSaid : List Str := ["book", "word", "letters", "rules", "exceptions", "written", "sounds"]
theorem scDSaid : FnScope nDSaid ["book", "word"] (defScope sDSaid) := ⟨rfl, rfl, rfl, by decide +kernel, rfl, by decide +kernel, by decide +kernel⟩
theorem door_said {f fC : Addr} {fd fdC : FuncData} (F : Fun K "said" "said" sDSaid f fd) (GC : FnOk P w K mg base (L2.CX P w) 5 fC fdC ["book"] (spChV K CB)) (kC : PySem.W.keepIn K (.ref fC) = true) (bC : Binds K fdC ["book"] []) (mC : mg "checked_book" = some (.ref fC)) :
    FnOk P w K mg base (L2.CX P w) 6 f fd ["book", "word"] (spDoor K CB 1) := by
  refine F.okX scDSaid (fun vs H Q E h => ?_) (fun cdv A outer s H vs Q E hr h => ?_)
  · obtain ⟨v, us, rfl, h, _⟩ := h
    show us.length + 1 = _
    rw [h]
    rfl
  · obtain ⟨v, us, rfl, hl, hR⟩ := h
    have tk : Takes _ (fun cls d _ H => E cls d H) := takes_of (X := cxOf (L2.CX P w) P w K mg base nDSaid "said" (defScope sDSaid) f cdv A outer s H E) rfl rfl rfl rfl
    refine ⟨_, pss_cons (ps_asg (pe_callS GC hr (by rfl) mC kC bC (fun σ => passAt tk σ) (by exact (pa_cons (pv 0) pa_nil))) (pg_tup (by rfl) (pgs_cons (pg_name (i := 2) scDSaid.nd rfl (.inl rfl)) (pgs_cons (pg_name (i := 3) scDSaid.nd rfl (.inl rfl)) (pgs_cons (pg_name (i := 4) scDSaid.nd rfl (.inl rfl)) pgs_nil))))) (pss_cons ps_never (pss_cons ps_never (pss_one ps_never))), ?_⟩
    match us, hl with
    | [u0], _ => exact ⟨_, rfl, hR.to⟩
abbrev sDWalk : Stmt := topS 59
abbrev nDWalk : List Str := ["book", "word", "letters", "rules", "_"]
theorem scDWalk : FnScope nDWalk ["book", "word"] (defScope sDWalk) := ⟨rfl, rfl, rfl, by decide +kernel, rfl, by decide +kernel, by decide +kernel⟩
theorem door_walk {f fC : Addr} {fd fdC : FuncData} (F : Fun K "walk" "walk" sDWalk f fd) (GC : FnOk P w K mg base (L2.CX P w) 5 fC fdC ["book"] (spChV K CB)) (kC : PySem.W.keepIn K (.ref fC) = true) (bC : Binds K fdC ["book"] []) (mC : mg "checked_book" = some (.ref fC)) :
    FnOk P w K mg base (L2.CX P w) 6 f fd ["book", "word"] (spDoor K CB 1) := by
  refine F.okX scDWalk (fun vs H Q E h => ?_) (fun cdv A outer s H vs Q E hr h => ?_)
  · obtain ⟨v, us, rfl, h, _⟩ := h
    show us.length + 1 = _
    rw [h]
    rfl
  · obtain ⟨v, us, rfl, hl, hR⟩ := h
    have tk : Takes _ (fun cls d _ H => E cls d H) := takes_of (X := cxOf (L2.CX P w) P w K mg base nDWalk "walk" (defScope sDWalk) f cdv A outer s H E) rfl rfl rfl rfl
    refine ⟨_, pss_cons (ps_asg (pe_callS GC hr (by rfl) mC kC bC (fun σ => passAt tk σ) (by exact (pa_cons (pv 0) pa_nil))) (pg_tup (by rfl) (pgs_cons (pg_name (i := 2) scDWalk.nd rfl (.inl rfl)) (pgs_cons (pg_name (i := 3) scDWalk.nd rfl (.inl rfl)) (pgs_cons (pg_name (i := 4) scDWalk.nd rfl (.inl rfl)) pgs_nil))))) (pss_cons ps_never (pss_one ps_never)), ?_⟩
    match us, hl with
    | [u0], _ => exact ⟨_, rfl, hR.to⟩
abbrev sDWritten : Stmt := topS 108
abbrev nDWritten : List Str := ["book", "letters", "rules", "exceptions", "rows", "rule", "pair", "word", "row"]
theorem scDWritten : FnScope nDWritten ["book"] (defScope sDWritten) := ⟨rfl, rfl, rfl, by decide +kernel, rfl, by decide +kernel, by decide +kernel⟩
theorem door_written {f fC : Addr} {fd fdC : FuncData} (F : Fun K "written" "written" sDWritten f fd) (GC : FnOk P w K mg base (L2.CX P w) 5 fC fdC ["book"] (spChV K CB)) (kC : PySem.W.keepIn K (.ref fC) = true) (bC : Binds K fdC ["book"] []) (mC : mg "checked_book" = some (.ref fC)) :
    FnOk P w K mg base (L2.CX P w) 6 f fd ["book"] (spDoor K CB 0) := by
  refine F.okX scDWritten (fun vs H Q E h => ?_) (fun cdv A outer s H vs Q E hr h => ?_)
  · obtain ⟨v, us, rfl, h, _⟩ := h
    show us.length + 1 = _
    rw [h]
    rfl
  · obtain ⟨v, us, rfl, hl, hR⟩ := h
    have tk : Takes _ (fun cls d _ H => E cls d H) := takes_of (X := cxOf (L2.CX P w) P w K mg base nDWritten "written" (defScope sDWritten) f cdv A outer s H E) rfl rfl rfl rfl
    refine ⟨_, pss_cons (ps_asg (pe_callS GC hr (by rfl) mC kC bC (fun σ => passAt tk σ) (by exact (pa_cons (pv 0) pa_nil))) (pg_tup (by rfl) (pgs_cons (pg_name (i := 1) scDWritten.nd rfl (.inl rfl)) (pgs_cons (pg_name (i := 2) scDWritten.nd rfl (.inl rfl)) (pgs_cons (pg_name (i := 3) scDWritten.nd rfl (.inl rfl)) pgs_nil))))) (pss_cons ps_never (pss_cons ps_never (pss_cons ps_never (pss_one ps_never)))), ?_⟩
    match us, hl with
    | [], _ => exact ⟨_, rfl, hR.to⟩
end
end Say
namespace Say
open PySem PySem.Spec PyProof.Rows L2
/-- letters that can't be, or rules that can't -/
def RefLR (K : PySem.W.Frag) (CB : Addr) (l r : V) (H : Hp) (E : XK) : Prop := VOk K H l ∧ (letV l = false → refB CB H E 0 0) ∧
  (letV l = true → ∃ (L : List Nat) (o : Option (List Bool)), l = .str (T L) ∧ L.length ≤ 50 ∧ (∀ H', Same H H' → RsR K H' L r o) ∧ (∃ n, badRs o n) ∧ ∀ n : Nat, badRs o n → (∀ m, m < n → ¬ badRs o m) → refB CB H E 1 n)
section
variable {P : Program} {w : World} {K : PySem.W.Frag} {mg : Str → Option Value} {base : Heap} {CB : Addr}
abbrev sDCa : Stmt := topS 100
abbrev nDCa : List Str := ["letters", "rules", "samples"]
theorem scDCa : FnScope nDCa ["letters", "rules", "samples"] (defScope sDCa) := ⟨rfl, rfl, rfl, by decide +kernel, rfl, by decide +kernel, by decide +kernel⟩
def spDoorL (K : PySem.W.Frag) (CB : Addr) : Sp := fun vs H Q E => ∃ (l r s : V), vs = [l, r, s] ∧ RefLR K CB l r H E
theorem door_all {f fL fR : Addr} {fd fdL fdR : FuncData} (F : Fun K "check_all" "check_all" sDCa f fd)
    (GL : FnOk P w K mg base (L2.CX P w) 2 fL fdL ["letters"] (spChLV K CB)) (kL : PySem.W.keepIn K (.ref fL) = true) (bL : Binds K fdL ["letters"] []) (mL : mg "check_letters" = some (.ref fL))
    (GR : FnOk P w K mg base (L2.CX P w) 4 fR fdR ["letters", "rules"] (spChRV K CB)) (kR : PySem.W.keepIn K (.ref fR) = true) (bR : Binds K fdR ["letters", "rules"] []) (mR : mg "check_rules" = some (.ref fR)) :
    FnOk P w K mg base (L2.CX P w) 5 f fd ["letters", "rules", "samples"] (spDoorL K CB) := by
  refine F.okX scDCa (fun vs H Q E h => ?_) (fun cdv A outer s H vs Q E hr h => ?_)
  · obtain ⟨l, r, s, rfl, _⟩ := h
    rfl
  · obtain ⟨l, r, sm, rfl, hv, q1, q2⟩ := h
    have tk : Takes _ (fun cls d _ H => E cls d H) := takes_of (X := cxOf (L2.CX P w) P w K mg base nDCa "check_all" (defScope sDCa) f cdv A outer s H E) rfl rfl rfl rfl
    refine ⟨_, pss_cons (ps_expr (pe_callS GL (hr.mono (by decide)) (by rfl) mL kL bL (fun σ => passAt tk σ) (by exact (pa_cons (pv 0) pa_nil))))
      (pss_cons (ps_expr (pe_callS GR hr (by rfl) mR kR bR (fun σ => passAt tk σ) (by exact (pa_cons (pv 0) (pa_cons (pv 1) pa_nil))))) (pss_one ps_never)), ?_⟩
    refine ⟨_, rfl, l, rfl, hv, fun c H1 s1 => ?_, q1⟩
    obtain ⟨L, o, rfl, l50, hR, ⟨n, hn⟩, q3⟩ := q2 c
    exact ⟨_, rfl, _, rfl, L, r, o, rfl, l50, hR H1 s1, fun no => absurd hn (no n), fun m hm hb => (q3 m hm hb).same s1⟩
abbrev sDLs : Stmt := topS 98
abbrev nDLs : List Str := ["letters", "rules", "samples", "many", "numbers", "number"]
theorem scDLs : FnScope nDLs ["letters", "rules", "samples"] (defScope sDLs) := ⟨rfl, rfl, rfl, by decide +kernel, rfl, by decide +kernel, by decide +kernel⟩
theorem door_least {f fA : Addr} {fd fdA : FuncData} (F : Fun K "least" "least" sDLs f fd) (GA : FnOk P w K mg base (L2.CX P w) 5 fA fdA ["letters", "rules", "samples"] (spDoorL K CB)) (kA : PySem.W.keepIn K (.ref fA) = true) (bA : Binds K fdA ["letters", "rules", "samples"] []) (mA : mg "check_all" = some (.ref fA)) :
    FnOk P w K mg base (L2.CX P w) 6 f fd ["letters", "rules", "samples"] (spDoorL K CB) := by
  refine F.okX scDLs (fun vs H Q E h => ?_) (fun cdv A outer s H vs Q E hr h => ?_)
  · obtain ⟨l, r, s, rfl, _⟩ := h
    rfl
  · obtain ⟨l, r, sm, rfl, hR⟩ := h
    have tk : Takes _ (fun cls d _ H => E cls d H) := takes_of (X := cxOf (L2.CX P w) P w K mg base nDLs "least" (defScope sDLs) f cdv A outer s H E) rfl rfl rfl rfl
    refine ⟨_, pss_cons (ps_expr (pe_callS GA hr (by rfl) mA kA bA (fun σ => passAt tk σ) (by exact (pa_cons (pv 0) (pa_cons (pv 1) (pa_cons (pv 2) pa_nil)))))) (pss_cons ps_never (pss_one ps_never)), ?_⟩
    exact ⟨_, rfl, _, rfl, _, rfl, l, r, sm, rfl, hR⟩
abbrev sDBm : Stmt := topS 99
abbrev nDBm : List Str := ["letters", "rules", "samples", "number", "sample"]
theorem scDBm : FnScope nDBm ["letters", "rules", "samples"] (defScope sDBm) := ⟨rfl, rfl, rfl, by decide +kernel, rfl, by decide +kernel, by decide +kernel⟩
theorem door_blamed {f fA : Addr} {fd fdA : FuncData} (F : Fun K "blamed" "blamed" sDBm f fd) (GA : FnOk P w K mg base (L2.CX P w) 5 fA fdA ["letters", "rules", "samples"] (spDoorL K CB)) (kA : PySem.W.keepIn K (.ref fA) = true) (bA : Binds K fdA ["letters", "rules", "samples"] []) (mA : mg "check_all" = some (.ref fA)) :
    FnOk P w K mg base (L2.CX P w) 6 f fd ["letters", "rules", "samples"] (spDoorL K CB) := by
  refine F.okX scDBm (fun vs H Q E h => ?_) (fun cdv A outer s H vs Q E hr h => ?_)
  · obtain ⟨l, r, s, rfl, _⟩ := h
    rfl
  · obtain ⟨l, r, sm, rfl, hR⟩ := h
    have tk : Takes _ (fun cls d _ H => E cls d H) := takes_of (X := cxOf (L2.CX P w) P w K mg base nDBm "blamed" (defScope sDBm) f cdv A outer s H E) rfl rfl rfl rfl
    refine ⟨_, pss_cons (ps_expr (pe_callS GA hr (by rfl) mA kA bA (fun σ => passAt tk σ) (by exact (pa_cons (pv 0) (pa_cons (pv 1) (pa_cons (pv 2) pa_nil)))))) (pss_one ps_never), ?_⟩
    exact ⟨_, rfl, _, rfl, _, rfl, l, r, sm, rfl, hR⟩
end
end Say
namespace L2
open PySem PySem.Spec PyProof.Rows
section
variable {X : Cx}
/-- o.f as one of several targets -/
def gAttr (K : PySem.W.Frag) (f : Str) (to : TE) : TG := fun v σ H Q => to σ H fun x H1 => ∃ a C dx fs, x = .ref a ∧ H1 a = some (.ins C dx fs) ∧ Cls K C ∧ NoAttr K C f ∧ fs.length < 1000 ∧ Q σ (upd H1 a (.ins C dx (putF f v fs)))
theorem pg_attr {o : Expr} {to : TE} {f : Str} {pos : Pos} (ho : PE X o to) : PG X (.Attribute o f pos) (gAttr X.K f to) := by
  refine ⟨fun pins s σ H v u Q I r h => ?_⟩
  rw [show assign (.Attribute o f pos) X.env u = (do
    let ov ← holding [u] (eval o X.env)
    standAt pos.atName
    holding [u, ov] (setAttr ov f u)
    release [u, ov] []) from assign_Attribute ..]
  refine wpAny_bind (wpAny_holding (thn (ho.run pins s σ H _ I h) fun ov s1 ⟨x, H1, I1, r1, a, C, dx, fs, ex, ea, c, n, l, q⟩ => ?_))
  subst ex
  obtain rfl : ov = Value.ref a := r1
  exact wpAny_bind (wpAny_standAt (wpAny_bind (wpAny_holding (setattr_ok I1 ea c n l r fun s2 I2 => wpAny_release ⟨σ, _, I2, q⟩))))
end
end L2
namespace Say
open PySem PySem.Spec PyProof.Rows L2
abbrev sDk (j : Nat) : Stmt := inClass (topS 89) j
/-- the three fields, as __init__ lays them -/
def fldD (b t : Addr) (i : Bool) : List (Str × V) := [("_book", .ref b), ("_told", .ref t), ("_idle", .bl i)]
theorem d_bk {b t : Addr} {i : Bool} : (fldD b t i).lookup ("_book" : Str) = some (.ref b) := rfl
theorem d_to {b t : Addr} {i : Bool} : (fldD b t i).lookup ("_told" : Str) = some (.ref t) := rfl
theorem d_id {b t : Addr} {i : Bool} : (fldD b t i).lookup ("_idle" : Str) = some (.bl i) := rfl
theorem p_bk {b t b' : Addr} {i : Bool} : putF "_book" (.ref b') (fldD b t i) = fldD b' t i := rfl
theorem p_id {b t : Addr} {i i' : Bool} : putF "_idle" (.bl i') (fldD b t i) = fldD b t i' := rfl
structure DkC (K : PySem.W.Frag) (C : Addr) : Prop where
  cl : Cls K C
  nB : NoAttr K C "_book"
  nT : NoAttr K C "_told"
  nI : NoAttr K C "_idle"
def wordsV (ws : List Str) : List V := ws.map V.str
/-- a desk at y: its book, what it told -/
structure DkAt (C : Addr) (H : Hp) (y b t : Addr) (L : List Nat) (rs : List Rule) (es : List Exc) (ws : List Str) (i : Bool) : Prop where
  ins : ∃ dx, H y = some (.ins C dx (fldD b t i))
  bk : BookAt H b L rs es
  told : H t = some (.lst (wordsV ws))
theorem DkAt.same {C : Addr} {H H' : Hp} {y b t : Addr} {L : List Nat} {rs : List Rule} {es : List Exc} {ws : List Str} {i : Bool} (h : DkAt C H y b t L rs es ws i) (e : Same H H') : DkAt C H' y b t L rs es ws i := by
  obtain ⟨⟨dx, h1⟩, h2, h3⟩ := h
  exact ⟨⟨dx, e _ _ h1⟩, h2.kt (.of e), e _ _ h3⟩
/-- all stays but the desk and what it told -/
def Kd (y t : Addr) (H H' : Hp) : Prop := ∀ b o, H b = some o → b ≠ y → b ≠ t → H' b = some o
theorem Kd.of {y t : Addr} {H H' : Hp} (e : Same H H') : Kd y t H H' := fun b o h _ _ => e b o h
theorem Kd.trans {y t : Addr} {H H1 H2 : Hp} (a : Kd y t H H1) (b : Kd y t H1 H2) : Kd y t H H2 := fun c o h n m => b c o (a c o h n m) n m
theorem Kd.y {y t : Addr} {H : Hp} (o : HO) : Kd y t H (upd H y o) := fun b u q n _ => by rw [upd_ne n]; exact q
theorem Kd.t {y t : Addr} {H : Hp} (o : HO) : Kd y t H (upd H t o) := fun b u q _ n => by rw [upd_ne n]; exact q
theorem Kd.kt {y t C dx : Addr} {fs : List (Str × V)} {l : List V} {H H' : Hp} (e : Kd y t H H') (hy : H y = some (.ins C dx fs)) (hp : H t = some (.lst l)) : KT H H' := KT.by fun a u h hu =>
  e a _ h (ne_of h hy (by rcases hu with ⟨_, rfl⟩ | ⟨_, _, rfl⟩ <;> (intro z; cases z))) (ne_of h hp (by rcases hu with ⟨_, rfl⟩ | ⟨_, _, rfl⟩ <;> (intro z; cases z)))
theorem DkAt.ne {C : Addr} {H : Hp} {y b t : Addr} {L : List Nat} {rs : List Rule} {es : List Exc} {ws : List Str} {i : Bool} (h : DkAt C H y b t L rs es ws i) : y ≠ t := by
  obtain ⟨⟨dx, h1⟩, _, h3⟩ := h
  exact ne_of h1 h3 (by intro z; cases z)
theorem DkAt.kt {C : Addr} {H H' : Hp} {y b t : Addr} {L : List Nat} {rs : List Rule} {es : List Exc} {ws : List Str} {i : Bool} (h : DkAt C H y b t L rs es ws i) (e : Kd y t H H') : KT H H' := by
  obtain ⟨⟨dx, h1⟩, _, h3⟩ := h
  exact e.kt h1 h3
section
variable {P : Program} {w : World} {K : PySem.W.Frag} {mg : Str → Option Value} {base : Heap}
theorem scDIn : FnScope ["self", "book"] ["self", "book"] (defScope (sDk 0)) := ⟨rfl, rfl, rfl, by decide +kernel, rfl, by decide +kernel, by decide +kernel⟩
def spDIn (C : Addr) : Sp := fun vs H Q _ => ∃ (y dx b : Addr) (L : List Nat) (rs : List Rule) (es : List Exc), vs = [.ref y, .ref b] ∧ H y = some (.ins C dx []) ∧ BookAt H b L rs es ∧ BookOk L rs es ∧
  ∀ (t : Addr) (H' : Hp), H t = none → Stp y H H' → DkAt C H' y b t L rs es [] true → Q .non H'
theorem ok_dIn {f C : Addr} {fd : FuncData} (F : Fun K "__init__" "Desk.__init__" (sDk 0) f fd) (S : DkC K C) (DCh : Df P w K mg base "checked_book" ["book"] 5 spCh) : FnOk P w K mg base CX0 6 f fd ["self", "book"] (spDIn C) := by
  obtain ⟨fCh, fdCh, GCh, kCh, bCh, mCh⟩ := DCh
  refine F.ok scDIn (fun vs H Q E h => ?_) (fun cdv A outer s H vs Q E hr h => ?_)
  · obtain ⟨y, dx, b, L, rs, es, rfl, _⟩ := h
    rfl
  · obtain ⟨y, dx, b, L, rs, es, rfl, hy, hB, oB, q⟩ := h
    refine ⟨_, pss_cons (ps_fld (pv 0) (pe_call GCh hr (by rfl) mCh kCh bCh .nil pass0 (pa_cons (pv 1) pa_nil)) rfl)
      (pss_cons (ps_fld (pv 0) (pe_lst pa_nil) rfl)
      (pss_one (ps_fld (pv 0) pe_bl rfl))), ?_⟩
    refine ⟨_, rfl, b, L, rs, es, rfl, hB, oB, fun H1 s1 => ?_⟩
    have hy1 := s1 _ _ hy
    have hB1 := hB.kt (.of s1)
    refine ⟨_, rfl, y, C, dx, _, rfl, hy1, S.cl, S.nB, (by show 0 < 1000; decide), ?_⟩
    refine ⟨(by show 0 ≤ sizeLine; decide), fun t ht => ?_⟩
    have nty : t ≠ y := fun z => by rw [z, upd_same] at ht; cases ht
    have ht1 : H1 t = none := by rw [upd_ne nty] at ht; exact ht
    have ht0 : H t = none := s1.free ht1
    refine ⟨_, rfl, y, C, dx, _, rfl, (by rw [upd_ne nty.symm]; exact upd_same), S.cl, S.nT, (by show 1 < 1000; decide), ?_⟩
    refine ⟨_, rfl, y, C, dx, _, rfl, upd_same, S.cl, S.nI, (by show 2 < 1000; decide), ?_⟩
    have st1 : ∀ c o, H1 c = some o → c ≠ y → (upd (upd (upd (upd H1 y (.ins C dx (putF "_book" (.ref b) []))) t (.lst [])) y (.ins C dx (putF "_told" (.ref t) (putF "_book" (.ref b) [])))) y (.ins C dx (putF "_idle" (.bl true) (putF "_told" (.ref t) (putF "_book" (.ref b) []))))) c = some o := fun c o hc n => by
      rw [upd_ne n, upd_ne n, upd_ne (ne_of_none hc ht1), upd_ne n]
      exact hc
    refine q t _ ht0 (fun c o hc n => st1 c o (s1 _ _ hc) n) ⟨⟨dx, upd_same⟩, hB1.kt (KT.by fun a u h hu => st1 a u h (ne_of h hy1 (by rcases hu with ⟨_, rfl⟩ | ⟨_, _, rfl⟩ <;> (intro z; cases z)))), ?_⟩
    rw [upd_ne nty, upd_ne nty, upd_same]
    rfl
theorem scDBk : FnScope ["self"] ["self"] (defScope (sDk 1)) := ⟨rfl, rfl, rfl, by decide +kernel, rfl, by decide +kernel, by decide +kernel⟩
def spDBk (C : Addr) : Sp := fun vs H Q _ => ∃ (y dx b t : Addr) (i : Bool), vs = [.ref y] ∧ H y = some (.ins C dx (fldD b t i)) ∧ Q (.ref b) H
theorem ok_dBk {f C : Addr} {fd : FuncData} {k : Nat} (F : Fun K "book" "Desk.book" (sDk 1) f fd) (S : DkC K C) : FnOk P w K mg base CX0 (k + 1) f fd ["self"] (spDBk C) := by
  refine F.ok scDBk (fun vs H Q E h => ?_) (fun cdv A outer s H vs Q E hr h => ?_)
  · obtain ⟨y, dx, b, t, i, rfl, _⟩ := h
    rfl
  · obtain ⟨y, dx, b, t, i, rfl, h1, q⟩ := h
    refine ⟨_, pss_one (ps_ret (pe_fld (pv 0) rfl)), ?_⟩
    exact ⟨_, rfl, y, C, dx, _, _, rfl, h1, S.cl, S.nB, d_bk, q⟩
end
/-! ### a method called with keywords -/
def tMethN (C : Addr) (m : Str) (n k : Nat) (sp : Sp) (gV : List V → List V → List V) (E : XK) (ta : TE) (t tk : TA) : TE := fun σ H Q => ta σ H fun x H1 => ∃ a dx fs, x = .ref a ∧ H1 a = some (.ins C dx fs) ∧ fs.lookup m = none ∧
  t σ H1 fun vs H2 => tk σ H2 fun zs H3 => vs.length = n ∧ zs.length = k ∧ sp (gV (.ref a :: vs) zs) H3 Q E
section
variable {X : Cx} {CX : CXT} {k n : Nat} {f C : Addr} {fd : FuncData} {ps ks : List Str} {sp : Sp} {E : XK} {m : Str} {apos pos : Pos} {o e : Expr} {es : List Expr} {kws : List Keyword} {ta : TE} {t tk : TA} {g : List Value → List Value → List Value} {gV : List V → List V → List V}
theorem pe_methN {pl : Sem Bool} (he : PE X o ta) (c : Cls X.K C) (hm : Meth X.K C m f) (F : FnOk X.prog X.w X.K X.mg X.base CX k f fd ps sp) (hr : Room k X.A) (hb : KBn X.K fd ps (n + 1) ks g gV) (hx : Passes CX X E)
    (ha : PA X (e :: es) t) (hkw : PK X kws tk) (hall : (backToKw pos (keywordEach kws X.env)).all (·.1.isSome) = true := by rfl) (hks : (backToKw pos (keywordEach kws X.env)).filterMap (·.1) = ks := by rfl)
    (hst : starEach (e :: es) X.env = (false, eval e X.env) :: starEach es X.env := by rfl)
    (hpl : ((backTo pos (starEach (e :: es) X.env)).any (·.1) || (backToKw pos (keywordEach kws X.env)).any (·.1.isNone)) = false := by rfl)
    (ht : eval (.Call (.Attribute o m apos) (e :: es) kws pos) X.env = (do
      let ov ← eval o X.env
      standAt apos.atName
      let (f, first) ← holding [ov] (getMethod ov m pl)
      callWith pos f first (backTo pos (starEach (e :: es) X.env)) (backToKw pos (keywordEach kws X.env))) := by rfl) :
    PE X (.Call (.Attribute o m apos) (e :: es) kws pos) (tMethN C m n ks.length sp gV E ta t tk) := by
  refine ⟨fun pins s σ H Q I h => ?_⟩
  refine PySem.W.methodCall_KW (pl := pl) (thn (he.run pins s σ H _ I h) fun u s1 ⟨x, H1, I1, rx, a, dx, fs, ex, ea, l, q⟩ => ?_) ht
  subst ex
  obtain rfl : u = Value.ref a := rx
  refine getmeth_ok I1 ea c hm l ?_
  refine PySem.W.callWith_KW (first := [.ref a]) (h₀ := X.base) I.ok.mod.kin hm.kp hall (thn (ha.run pos pins s1 σ H1 _ I1 q) fun us s2 ⟨vs, H2, I2, r, q2⟩ => ?_) hpl hst
  refine thn (hkw.run pos pins s2 σ H2 _ I2 q2) fun ws s3 ⟨zs, H3, I3, rz, l1, l2, q3⟩ => ⟨I3.kIn, ?_⟩
  rw [hks]
  exact run_fnN (us := .ref a :: us) (vs := .ref a :: vs) F hr hb hx I3 (.cons rfl r) rz (by rw [List.length_cons, l1]) l2 q3
end
end Say
namespace Say
open PySem PySem.Spec PyProof.Rows L2
/-- a written dict: what stands at a key, or none -/
def KGt (K : PySem.W.Frag) (w : World) (a : Addr) (x : Str) (v : V) : Prop :=
  ∃ es n r, K.lookup a = some ⟨.type "dict", none, .dict es n, #[]⟩ ∧ PySem.W.KeysLit w.params es.toList ∧ (a == sysModules) = false ∧ PySem.W.nsIn K a x = some r ∧ RelV v (r.getD .none)
section
variable {X : Cx} {o e : Expr} {apos cpos : Pos} {td ty : TE} {d : Addr}
/-- d.get(x) of a written dict -/
def tKGet (K : PySem.W.Frag) (w : World) (d : Addr) (td ty : TE) : TE := fun σ H Q => td σ H fun x H1 => x = .ref d ∧ ty σ H1 fun y H2 => ∃ (z : Str) (v : V), y = .str z ∧ KGt K w d z v ∧ Q v H2
theorem pe_kget {es : Array DictEntry} {n : Nat} (hl : X.K.lookup d = some ⟨.type "dict", none, .dict es n, #[]⟩) (hk : PySem.W.KeysLit X.w.params es.toList) (ho : PE X o td) (he : PE X e ty) (m : M1 X o "get" apos e cpos) :
    PE X (.Call (.Attribute o "get" apos) [e] [] cpos) (tKGet X.K X.w d td ty) := by
  refine ⟨fun pins s σ H Q I h => ?_⟩
  refine wpAny_Call_method m.base m.few m.line PySem.F.plainAttrs_dict PySem.F.slot_dict_get PySem.F.type_dict_get (thn (ho.run pins s σ H _ I h) fun u s1 ⟨x, H1, I1, rx, ex, q1⟩ => ?_)
  subst ex
  obtain rfl : u = Value.ref d := rx
  have hm1 := PySem.W.mapOf_K (prog := X.prog) (w := X.w) I1.kIn hl hk
  refine ⟨hm1.typeIs, fun b hb => ?_, ?_⟩
  · cases hb
    exact ⟨_, I1.kIn _ _ hl, rfl⟩
  rw [m.trees]
  refine Calls.callWith_builtin rfl (Calls.evalArgs_plain (Calls.spliced_cons (thn (he.run pins s1 σ H1 _ I1 q1) fun iv s2 ⟨y, H2, I2, ry, z, v, ey, g, q2⟩ => Calls.spliced_nil ?_)))
  subst ey
  obtain ⟨t, rfl⟩ := ry
  obtain ⟨es', n', r, hl', hk', lo, e, rv⟩ := g
  have hm := PySem.W.mapOf_K (prog := X.prog) (w := X.w) I2.kIn hl' hk'
  refine call_meetsIn PySem.F.slot_dict_get hm.typeIs PySem.F.entry_dict_get (PySem.F.args_dict_get_2 _ _) (meets_dict_get (strKind X.prog X.w) d (strKind_is X.prog X.w z t) lo) ⟨_, hm, ?_⟩
  rw [PySem.W.find_K hl' e]
  exact ⟨v, H2, I2.tok _, rv, q2⟩
end
end Say
namespace Say
open PySem PySem.Spec PyProof.Rows L2
/-! ### written dicts with texts for keys -/
def tabV (kvs : List (Str × V)) (x : Str) : V := ((kvs.find? fun kv => kv.1 == x).map (·.2)).getD .non
theorem tab_find {x : Str} : ∀ {l : List DictEntry} {kvs : List (Str × V)}, Paired (fun (e : DictEntry) (kv : Str × V) => (∃ t, e.key = .str kv.1 t) ∧ RelV kv.2 e.val) l kvs →
    l.any (·.refKey) = false ∧ ((l.find? (·.key.isStr x) = none ∧ kvs.find? (fun kv => kv.1 == x) = none) ∨ ∃ e kv, l.find? (·.key.isStr x) = some e ∧ kvs.find? (fun kv => kv.1 == x) = some kv ∧ RelV kv.2 e.val)
  | _, _, .nil => ⟨rfl, .inl ⟨rfl, rfl⟩⟩
  | e :: l, kv :: kvs, .cons h r => by
    obtain ⟨⟨t, ht⟩, hv⟩ := h
    obtain ⟨h1, h2⟩ := tab_find (x := x) r
    have hk : e.key.isStr x = (kv.1 == x) := by rw [ht] <;> rfl
    have hr : e.refKey = false := by unfold DictEntry.refKey; rw [ht] <;> rfl
    refine ⟨by rw [List.any_cons, hr, h1] <;> rfl, ?_⟩
    rw [List.find?_cons, List.find?_cons, hk]
    cases c : kv.1 == x with
    | true => exact .inr ⟨e, kv, rfl, rfl, hv⟩
    | false => exact h2
theorem kgt_all {K : PySem.W.Frag} {w : World} {a : Addr} {es : Array DictEntry} {n : Nat} {kvs : List (Str × V)} (hl : K.lookup a = some ⟨.type "dict", none, .dict es n, #[]⟩) (hk : PySem.W.KeysLit w.params es.toList) (lo : (a == sysModules) = false)
    (h : Paired (fun (e : DictEntry) (kv : Str × V) => (∃ t, e.key = .str kv.1 t) ∧ RelV kv.2 e.val) es.toList kvs) (x : Str) : KGt K w a x (tabV kvs x) := by
  obtain ⟨h1, h2⟩ := tab_find (x := x) h
  unfold tabV
  rcases h2 with ⟨e1, e2⟩ | ⟨e, kv, e1, e2, r⟩
  · refine ⟨es, n, none, hl, hk, lo, ?_, by rw [e2] <;> rfl⟩
    unfold PySem.W.nsIn
    rw [hl]
    show (match es.toList.find? (·.key.isStr x) with | some e => some (some e.val) | none => if es.toList.any (·.refKey) then none else some none) = some none
    rw [e1, h1]
    rfl
  · refine ⟨es, n, some e.val, hl, hk, lo, ?_, by rw [e2]; exact r⟩
    unfold PySem.W.nsIn
    rw [hl]
    show (match es.toList.find? (·.key.isStr x) with | some e => some (some e.val) | none => if es.toList.any (·.refKey) then none else some none) = some (some e.val)
    rw [e1]
theorem rel_none {v : V} (h : RelV v .none) : v = .non := by
  cases v with
  | non => rfl
  | bl b => have h : Value.none = Value.bool b := h; cases h
  | int i => obtain ⟨_, z⟩ := (show ∃ t, Value.none = Value.int i t from h); cases z
  | str i => obtain ⟨_, z⟩ := (show ∃ t, Value.none = Value.str i t from h); cases z
  | byt i => obtain ⟨_, z⟩ := (show ∃ t, Value.none = Value.bytes i t from h); cases z
  | flt i => obtain ⟨_, z⟩ := (show ∃ t, Value.none = Value.float i t from h); cases z
  | ref a => have h : Value.none = Value.ref a := h; cases h
  | ty a => have h : Value.none = Value.type a := h; cases h
theorem KGt.dct {K : PySem.W.Frag} {w : World} {a : Addr} {x : Str} {v : V} (h : KGt K w a x v) (n : v ≠ .non) : KDct K w a x v := by
  obtain ⟨es, m, r, hl, hk, lo, e, rv⟩ := h
  cases r with
  | none =>
    exact absurd (rel_none rv) n
  | some u => exact ⟨es, m, u, hl, hk, e, rv⟩
def strV (r : List (List Nat)) : List V := (r.map T).map V.str
theorem strV_flat (r : List (List Nat)) : (strV r).all flatV = true := by
  unfold strV
  rw [List.all_map, List.all_map, List.all_eq_true]
  intro z _
  rfl
theorem inV_str (x : List Nat) (r : List (List Nat)) : inV (.str (T x)) (strV r) = r.contains x := by
  unfold inV strV
  rw [List.any_map, List.any_map, List.contains_eq_any_beq, Bool.eq_iff_iff, List.any_eq_true, List.any_eq_true]
  refine ⟨fun ⟨z, hz, h⟩ => ⟨z, hz, ?_⟩, fun ⟨z, hz, h⟩ => ⟨z, hz, ?_⟩⟩
  · have h : (T z == T x) = true := h
    rw [beq_iff_eq] at h ⊢
    exact (T_inj h).symm
  · rw [beq_iff_eq] at h
    show (T z == T x) = true
    rw [h, beq_self_eq_true]
theorem strV_at {r : List (List Nat)} {i : Nat} {z : List Nat} (h : r[i]? = some z) : (strV r)[i]? = some (.str (T z)) := by
  unfold strV
  rw [List.map_map, List.getElem?_map, h]
  rfl
theorem strV_len (r : List (List Nat)) : (strV r).length = r.length := by unfold strV; rw [List.length_map, List.length_map]
end Say
namespace PySem
namespace XBadDeed
open PySem.W PySem.Calls PyProof.Rows PySem.HandSPX
/-! ### the text of BadDeed.__init__ -/
abbrev sEx : Stmt := L2.inClass (Say.topS 13) 0
abbrev iA : Arguments := L2.defArgs sEx
abbrev iB : List Stmt := L2.defBody sEx
abbrev iS : Scope := L2.defScope sEx
def eF : Expr := match iB with
  | .Expr (.Call _ (e :: _) _ _) _ :: _ => e
  | _ => .Constant .none 0 ⟨0, 0, 0, 0⟩
theorem eF_eq : ∃ c1 c2 d2 c3 c0, eF = .JoinedStr [.Constant (.str "deed ") 0 c1, .FormattedValue (.Name "number" c2) (-1) none d2, .Constant (.str " can't be") 0 c3] c0 := ⟨_, _, _, _, _, rfl⟩
theorem slen (x y : Str) : (x ++ y).length = x.length + y.length := by rw [TL.len_tl, TL.tl_append, List.length_append, ← TL.len_tl, ← TL.len_tl]
theorem iS_cell : ∀ y ∈ iS.names, y.2 ≠ .cell := by decide +kernel
/-- what the written part says of BadDeed, at C, and of its __init__, at fI -/
structure ExTxt (P : Program) (K : Frag) (mg : Str → Option Value) (C fI : Addr) : Prop where
  gC : mg "BadDeed" = some (.ref C)
  sB : mg "super" = none
  cls : ∃ nm q N bs bm sn sub ab col dd k0 k1 k2 k3 k5, K.lookup C = some (excClassObj nm q C N bs bm true sn sub ab col dd k0 k1 k2 k3 k5 "ValueError.__new__") ∧ refsVE bm = true
  sa : findIn K (.ref C) "__setattr__" = some (some (.builtin "object.__setattr__"))
  noP0 : findIn K (.ref C) "number" = some none
  iC : findIn K (.ref C) "__init__" = some (some (.ref fI))
  tC : typeIn K (.ref fI) = some (.type "function")
  kC : keepIn K (.ref C) = true
  exC : subIn K (.ref C) (.type "BaseException") = some true
  tyC : typeIn K (.ref C) = some (.type "type")
  sup : ks_superIn K C C "__init__" = some (some (.builtin "ValueError.__init__"))
  subV : subIn K (.ref C) (.type "ValueError") = some true
  any : nsIn K cStatics "thirdparty.any" = some none
  main : (P.main.scope.names.lookup ("super" : Str)).isSome = false
  fn : ∃ (oc : Value) (od : Option Addr) (doc pm : Value) (an : Option Addr) (cda cc : Addr) (ct : Value) (osl : Array (Option Value)),
    K.lookup fI = some ⟨oc, od, .func (ksFn "__init__" "BadDeed.__init__" iA iB iS .none .none doc pm an (.ref cda) ct cc), osl⟩ ∧ codeIn K (.ref cda) "BadDeed.__init__" = true ∧
    (∃ cl cld csl, K.lookup cc = some ⟨cl, cld, .cell (some (.ref C)), csl⟩) ∧ ∃ ccl cdd vs ccs file tf, K.lookup cda = some ⟨ccl, cdd, .fields vs, ccs⟩ ∧ vs[2]? = some (.str file tf) ∧ ((P.main.file : Str) == file) = true
/-- what __init__ leaves of a fresh exception at x -/
structure InitEnd (h h' : Heap) (x C dx : Addr) (v0 : Value) : Prop where
  keep : ∀ b o, b ≠ x → h.get? b = some o → h'.get? b = some o
  obj : ∃ t1 : Addr, h'.get? x = some { cls := .ref C, dict := some dx, data := .fields #[.ref t1, .none, .none, .none, .bool false, .none] }
  dbig : h.objs.size ≤ dx
  dne : dx ≠ x
  ns : h'.Ns1 dx (fun y => if y = "number" then some v0 else none)
section
variable {prog : Program} {w : World} {A : Around} {E : Value → Shared → Prop} {R : Result → Shared → Prop} {s : Shared} {K : Frag} {mg : Str → Option Value} {C fI : Addr} {base : Heap}
theorem ld {M : Model} {s : Shared} {env : Env} {m : Str → Option Value} {x : Str} {pos : Pos} {v : Value} {Q : Value → Shared → Prop} {A : Around} {E : Value → Shared → Prop} (hn : s.heap.Ns env.locals m) (hv : m x = some v) (h : Q v s)
    (hk : env.scope.kind = .function) (hl : env.kindOf x = some .local) (hd : (x == ("__debug__" : Str)) = false := by decide) :
    wpAny M A (eval (.Name x pos) env) Q E s := wpAny_Name (wpAny_loadName_local hk hl hn hv h) hd
theorem ex_init (T : ExTxt prog K mg C fI) {x t0 : Addr} {i : Int} {ti : Tok} (B : L2.Mod K mg base) (kb : ∀ b o, base.get? b = some o → s.heap.get? b = some o) (hx : s.heap.get? x = some (excO C t0)) (hnx : base.get? x = none) (hi : i.natAbs.log2 < 1920) (hi2 : (toString i : Str).length ≤ 1000) (hroom : A.depth < recursionLimit)
    (hq : ∀ h' tk dx, InitEnd s.heap h' x C dx (.int i ti) → R (.ok (.ret .none)) { s with heap := h', toks := tk }) :
    codeAny (model prog w) A (.call (.ref fI) ⟨[.ref x, .int i ti], []⟩) R s := by
  obtain ⟨oc, od, doc, pm, an, cda, cc, ct, osl, ho, hcd, ⟨cl, cld, csl, hcell⟩, ccl, cdd, vs, ccs, file, tf, hcode, hvs, hfile⟩ := T.fn
  obtain ⟨nm, q, N, bs, bm, sn, sub, ab, col, dd, k0, k1', k2, k3, k5, hC, hbm⟩ := T.cls
  obtain ⟨hp, g, dr, tk0, os⟩ := s
  have hcl : clsIn K C = some { name := nm, bases := bs, mro := .ref C :: bm, ns := N, qualname := q, hasDict := true, slotNames := sn, subclasses := sub, abstract := ab, collection := col, hasDel := false } := by unfold clsIn; rw [hC] <;> rfl
  have X : K.In hp := B.kin.keeps kb
  have nl : hp.NoLimit := B.nolimit.keeps kb
  refine ks_codeAny_call_defAt (fd := ksFn "__init__" "BadDeed.__init__" iA iB iS .none .none doc pm an (.ref cda) ct cc) (body := iB) (binds := [("self", .ref x), ("number", .int i ti)])
    hroom (X _ _ ho) rfl nl (codeRec_of X hcd) rfl (BindsTo.of_eq (by first | rfl | with_unfolding_all rfl)) iS_cell (fun y hy => ?_) (fun h₀ hns k => ?_)
  · have e : y = (PySem.Str.ofString "self", Value.ref x) ∨ y = (PySem.Str.ofString "number", Value.int i ti) := by simpa using hy
    rcases e with rfl | rfl
    · exact (by decide +kernel : iS.names.lookup (PySem.Str.ofString "self") = some .local)
    · exact (by decide +kernel : iS.names.lookup (PySem.Str.ofString "number") = some .local)
  generalize hL : (Shared.heap ⟨hp, g, dr, tk0, os⟩).objs.size = L at hns ⊢
  have henv : callEnv (ksFn "__init__" "BadDeed.__init__" iA iB iS .none .none doc pm an (.ref cda) ct cc) L fI = ksEnv "BadDeed.__init__" iS L fI (.ref cda) cc := rfl
  rw [henv]
  have X0 : K.In h₀ := X.keeps k
  have hx0 := k _ _ hx
  have kb0 : ∀ b o, base.get? b = some o → h₀.get? b = some o := fun b o e => k b o (kb b o e)
  obtain ⟨oC, hC0, hC1⟩ : ∃ oC, h₀.get? C = some oC ∧ oC.data = .cls { name := nm, bases := bs, mro := .ref C :: bm, ns := N, qualname := q, hasDict := true, slotNames := sn, subclasses := sub, abstract := ab, collection := col, hasDel := false } := ⟨_, X0 _ _ hC, rfl⟩
  have I0 : InstAt h₀ x (excO C t0) C none := ⟨hx0, rfl, rfl, trivial⟩
  obtain ⟨mb, hb1, hb2⟩ := B.blt
  have hxC : x ≠ C := fun z => by
    rw [z, hC0] at hx0
    cases hx0
    cases hC1
  have hsub : mroIn K C (.ref C) = some true := by
    unfold mroIn
    rw [hcl]
    simp
  have nS : iS.names.lookup (PySem.Str.ofString "super") = some .globalImplicit := by decide +kernel
  have nC : iS.names.lookup (PySem.Str.ofString "__class__") = some .free := by decide +kernel
  have nx : iS.names.lookup (PySem.Str.ofString "self") = some .local := by decide +kernel
  have np0 : iS.names.lookup (PySem.Str.ofString "number") = some .local := by decide +kernel
  have hLx : L ≠ x := by
    rw [← hL]
    exact Nat.ne_of_gt (Heap.lt_size hx)
  refine ks_wpAt_execs_cons (ks_wpAt_Expr_any (ks_wpAt_MethodCall (ks_wpAt_super_base nS nC (by decide +kernel) rfl (X0 _ _ ho) rfl rfl rfl (X0 _ _ hcode) rfl hvs hfile T.main ?_)))
  refine ks_loadName_global rfl nS (loadGlobal_builtin (B.glob.keeps kb0) T.sB (hb1.keeps kb0) ((hb2 _ (by decide +kernel)).trans (by decide +kernel)) ⟨rfl, ?_⟩)
  refine wpAny_loadName_free rfl nC rfl ⟨_, X0 _ _ hcell, rfl⟩ ?_
  refine wpAny_loadName_local rfl nx hns rfl ?_
  refine ks_wpAny_isType_cls hC0 hC1 ⟨rfl, ?_⟩
  refine ks_wpAny_call_super hC0 hC1 hx0 rfl (fun c e => by cases e) (looks_mroIn X0 hsub) (fun h1 e1 k1 => ?_)
  have X1 : K.In h1 := X0.keeps k1
  have hx1 := k1 _ _ hx0
  have I1 : InstAt h1 x (excO C t0) C none := ⟨hx1, rfl, rfl, trivial⟩
  have hf : alongIn K "__init__" (((Value.ref C :: bm).dropWhile (· != .ref C)).drop 1) = some (some (.builtin "ValueError.__init__")) := by
    have := T.sup
    unfold ks_superIn at this
    rw [hcl] at this
    exact this
  refine kxs_getMethod kxs_ValueError e1 (looks_opaque X1 T.any) (l₀ := .ref C :: bm) (fun A Q E s k q => wpAny_bind ((looks_clsIn X1 hcl) A _ E s k (wpAny_pure q))) rfl X1 hf (I1.type.andThen (looks_subIn X1 T.subV)) hxC (by decide +kernel) ?_
  have hu : (h1.push (kxs_mw "ValueError.__init__" x)).get? h1.objs.size = some (kxs_mw "ValueError.__init__" x) := Heap.get?_push_size _ rfl
  have k2' : ∀ b o, h₀.get? b = some o → (h1.push (kxs_mw "ValueError.__init__" x)).get? b = some o := fun b o e => Heap.get?_push_of_some _ (k1 b o e)
  generalize h1.push (kxs_mw "ValueError.__init__" x) = h2 at hu k2' ⊢
  generalize h1.objs.size = u at hu ⊢
  have X2 : K.In h2 := X0.keeps k2'
  have hx2 := k2' _ _ hx0
  have hns2 := hns.keeps k2'
  -- the text that is handed on
  show wpAny _ _ (callWith _ (.ref u) [] _ []) _ _ _
  refine kxs_callWith (i := "ValueError.__init__") (x := x) rfl (evalArgs_plain ?_)
  show wpAny _ _ (spliced ((false, eval eF (ksEnv "BadDeed.__init__" iS L fI (.ref cda) cc)) :: [])) _ _ _
  obtain ⟨c1, c2, d2, c3, c0, eFe⟩ := eF_eq
  rw [eFe]
  have z0 : Str.empty.length = 0 := by decide +kernel
  have z1 : (PySem.Str.ofString "deed ").length = 5 := by decide +kernel
  have z2 : (PySem.Str.ofString " can't be").length = 9 := by decide +kernel
  refine Calls.spliced_cons (wpAny_JoinedStr ?_)
  refine wpAny_Constant_str ⟨_, _, rfl, (by show ((Str.empty ++ PySem.Str.ofString "deed ")).length ≤ sizeLine; simp only [slen, z0, z1, z2, sizeLine_eq]; omega), ?_⟩
  refine wpAny_FormattedValue_plain (ld hns2 rfl ?_ rfl np0)
  refine wpAny_formatField_int hi ⟨_, _, rfl, (by show (((Str.empty ++ PySem.Str.ofString "deed ") ++ (toString i : Str))).length ≤ sizeLine; simp only [slen, z0, z1, z2, sizeLine_eq]; omega), ?_⟩
  refine wpAny_Constant_str ⟨_, _, rfl, (by show ((((Str.empty ++ PySem.Str.ofString "deed ") ++ (toString i : Str)) ++ PySem.Str.ofString " can't be")).length ≤ sizeLine; simp only [slen, z0, z1, z2, sizeLine_eq]; omega), ?_⟩
  refine ⟨(by show ((((Str.empty ++ PySem.Str.ofString "deed ") ++ (toString i : Str)) ++ PySem.Str.ofString " can't be")).length ≤ sizeLine; simp only [slen, z0, z1, z2, sizeLine_eq]; omega), ?_⟩
  refine Calls.spliced_nil ⟨hu, ?_⟩
  refine wpAny_call (codeAny_of_tree ?_)
  show wpAny _ _ (callAny (.ref u) ⟨_, []⟩) _ _ _
  simp only [callAny]
  refine wpAny_bind (wpAny_load hu ?_)
  simp only [kxs_mw, show (Value.type "method-wrapper" == Value.type "method" || Value.type "method-wrapper" == Value.type "builtin_function_or_method" || Value.type "method-wrapper" == Value.type "method-wrapper") = true by decide, if_true]
  refine KFB.if_so (by decide) ?_
  refine wpAny_bind (check_bound_init F.excBase_ValueError.toExcCallFacts (X2 _ _ hC) hx2 rfl ?_)
  refine wpAny_bind (wpAny_pure (wpAny_pure ?_))
  refine ⟨plainId_quiet F.excBase_ValueError.init.plain _, codeAny_builtin F.excBase_ValueError.initEntry ?_⟩
  refine exc_init_tree (cls := .ref C) (t0 := t0) (dv := none) (c2 := .none) (c3 := .none) (b4 := .bool false) hx2 (by rw [sizeLine_eq]; show 1 ≤ 16777216; decide) fun h3 k3 e3 _ => ?_
  have k3' : ∀ b o, b ≠ x → h₀.get? b = some o → h3.get? b = some o := fun b o hb e => k3 b o hb (k2' b o e)
  have X3 : K.In h3 := fun b o e => k3' b o (fun z => by
    have := B.kin b o e
    rw [z, hnx] at this
    cases this) (X0 b o e)
  have hns3 : h3.Ns L (fun y => (([("self", Value.ref x), ("number", .int i ti)] : List (Str × Value)).reverse.lookup y)) := hns.at fun o e => k3' L o hLx e
  show wpAt _ _ _ (execs (_ :: []) _) _ _ _
  refine ks_wpAt_execs_cons (ks_wpAt_Assign_Attr (wpAt_of_wpAny (ld hns3 rfl (ld hns3 rfl ?_ rfl nx) rfl np0)))
  refine set_plain X3 (ox := excO C h2.objs.size) (od := none) ⟨e3, rfl, rfl, trivial⟩ T.sa ?_
  refine exc_osa X3 e3 hcl (show refsVE (.ref C :: bm) = true from hbm) rfl T.noP0 (fun h4 tk4 dx k4 dn dne hx4 hn4 => ?_)
  show wpAt _ _ _ (execs [] _) _ _ _
  refine wpAt_of_wpAny (wpAny_execs_nil ?_)
  have big : hp.objs.size ≤ dx := by
    have h1 : L < h3.objs.size := hns3.lt
    have h2 : hp.objs.size = L := hL
    exact Nat.le_trans (Nat.le_of_eq h2) (Nat.le_trans (Nat.le_of_lt h1) dn)
  exact hq h4 _ dx ⟨fun b o hb e => k4 b o hb (k3' b o hb (k b o e)), ⟨_, hx4⟩, big, dne, hn4⟩
end
end XBadDeed
end PySem
namespace PySem
namespace XBadDeed
open PySem.W PySem.Calls PyProof.Rows PySem.HandSPX
/-- a made BadDeed -/
structure OwnMade (h h' : Heap) (e C d : Addr) (v0 : Value) : Prop where
  keep : ∀ b o, h.get? b = some o → h'.get? b = some o
  new : h.objs.size ≤ e
  obj : ∃ oe vs, h'.get? e = some oe ∧ oe.cls = .ref C ∧ oe.dict = some d ∧ oe.data = .fields vs ∧ vs[1]? = some .none
  dbig : h.objs.size ≤ d
  dne : d ≠ e
  ns : h'.Ns1 d (fun y => if y = "number" then some v0 else none)
theorem one_size (v0 : Value) : [v0].length ≤ sizeLine := by
  rw [sizeLine_eq]
  exact (by decide : 1 ≤ 16777216)
section
variable {prog : Program} {w : World} {A : Around} {E : Value → Shared → Prop} {R : Result → Shared → Prop} {s : Shared} {K : Frag} {mg : Str → Option Value} {C fI : Addr} {base : Heap}
theorem ex_made (T : ExTxt prog K mg C fI) {i : Int} {ti : Tok} (B : L2.Mod K mg base) (kb : ∀ b o, base.get? b = some o → s.heap.get? b = some o) (hi : i.natAbs.log2 < 1920) (hi2 : (toString i : Str).length ≤ 1000) (hroom : A.depth + 1 < recursionLimit)
    (hq : ∀ h' tk e d, OwnMade s.heap h' e C d (.int i ti) → R (.ok (.ret (.ref e))) { s with heap := h', toks := tk }) :
    codeAny (model prog w) A (.call (.ref C) ⟨[.int i ti], []⟩) R s := by
  obtain ⟨nm, q, N, bs, bm, sn, sub, ab, col, dd, k0, k1, k2, k3, k5, hC, hbm⟩ := T.cls
  have X : K.In s.heap := B.kin.keeps kb
  obtain ⟨hp, g, dr, tk, os⟩ := s
  have k : ∀ b o, hp.get? b = some o → ((hp.push (kdv_tup [.int i ti])).push (excO C hp.objs.size)).get? b = some o := fun b o e => Heap.get?_push_of_some _ (Heap.get?_push_of_some _ e)
  have hget : ((hp.push (kdv_tup [.int i ti])).push (excO C hp.objs.size)).get? (hp.objs.size + 1) = some (excO C hp.objs.size) := by heap_get
  have hnx : base.get? (hp.objs.size + 1) = none := by
    cases e : base.get? (hp.objs.size + 1) with
    | none => rfl
    | some o =>
      have z : hp.get? (hp.objs.size + 1) = some o := kb _ _ e
      exact absurd (Nat.lt_of_succ_lt (Heap.lt_size z)) (Nat.lt_irrefl _)
  refine call_own F.excBase_ValueError (fun X => refsVE_contains X bm hbm) (X _ _ hC) (looks_findIn X T.iC) (fun self => bind_fn X self T.tC) (one_size (.int i ti)) ?_
  refine ex_init (s := ⟨(hp.push (kdv_tup [.int i ti])).push (excO C hp.objs.size), g, dr, tk, os⟩) T B (fun b o e => k b o (kb b o e)) hget hnx hi hi2 ?_ fun h' tk' dx ⟨k', ⟨t1, hx⟩, dn, dne, hns⟩ => ?_
  · show A.depth + 1 < recursionLimit
    exact hroom
  · have old : ∀ b o, hp.get? b = some o → h'.get? b = some o := fun b o e => k' b o (Nat.ne_of_lt (Nat.lt_succ_of_lt (Heap.lt_size e))) (k b o e)
    have z : hp.objs.size + 1 + 1 ≤ dx := by
      first
        | (simpa only [Heap.size_push] using dn)
        | exact dn
        | (have q := dn; rw [Heap.size_push, Heap.size_push] at q; exact q)
    exact ⟨rfl, hq h' tk' (hp.objs.size + 1) dx ⟨old, Nat.le_succ _, ⟨_, _, hx, rfl, rfl, rfl, rfl⟩, Nat.le_trans (Nat.le_trans (Nat.le_succ _) (Nat.le_succ _)) z, dne, hns⟩⟩
end
end XBadDeed
end PySem
namespace Say
open PySem PySem.Spec PyProof.Rows L2
theorem rel_BadDeed {i : Int} {ti : Tok} (f : Str) : RelO (List.lookup f ([(("number" : Str), .int i)] : List (Str × V))) (if f = "number" then some (Value.int i ti) else none) := by
  refine relO_put (f := "number") (mA := fun _ => none) (y := .int i) (u := .int i ti) (fs := []) ⟨_, rfl⟩ (fun g => ?_) f
  exact True.intro
section
variable {X : Cx} {C fI : Addr}
/-- BadDeed(e) -/
def tMkBadDeed (C : Addr) (ta : TA) : L2.St → Hp → XK → Prop := fun σ H Q => ta σ H fun vs H1 => ∃ i : Int, vs = [.int i] ∧ (-1 ≤ i ∧ i ≤ 100) ∧ ∀ d, H1 d = none → Q (.ref C) (some d) (upd H1 d (.xd [(("number" : Str), .int i)]))
theorem small_BadDeed {i : Int} (h : -1 ≤ i ∧ i ≤ 100) : i.natAbs.log2 < 1920 ∧ (toString i : Str).length ≤ 1000 := by
  have key : ∀ q : Fin 102, ((q.1 : Int) - 1).natAbs.log2 < 1920 ∧ (toString ((q.1 : Int) - 1) : Str).length ≤ 1000 := by decide +kernel
  have e : i = (((i + 1).toNat : Nat) : Int) - 1 := by omega
  rw [e]
  exact key ⟨(i + 1).toNat, by omega⟩
theorem pmk_BadDeed {a : Expr} {ta : TA} {p pos : Pos} {k : Nat} (T : PySem.XBadDeed.ExTxt X.prog X.K X.mg C fI) (hr : Room k X.A) (ha : PA X [a] ta) (hg : Gl X "BadDeed" := by rfl)
    (he : starEach (a :: []) X.env = (false, eval a X.env) :: starEach [] X.env := by rfl) (hpl : (backTo pos (starEach [] X.env)).any (·.1) = false := by rfl) :
    PMk X (.Call (.Name "BadDeed" p) [a] [] pos) (tMkBadDeed C ta) := by
  intro pins s σ H Q I h
  unfold tMkBadDeed at h
  refine wpAny_Call_Name_kw (ld_glob I hg T.gC ?_)
  refine PySem.W.callWith_K (h₀ := X.base) I.ok.mod.kin T.kC (thn (ha.run pos pins s σ H _ I h) fun us s1 hh => ?_) he hpl
  obtain ⟨vs, H1, I1, r1, i, ev, ni, q1⟩ := hh
  subst ev
  refine ⟨I1.kIn, ?_⟩
  obtain ⟨v', rfl, rv⟩ := vals1 r1
  obtain ⟨ti, rfl⟩ := rv
  show wpAny _ _ (call (.ref C) [.int i ti]) _ _ _
  have b1 := I1.mod
  have b2 := I1.bk
  obtain ⟨hp, g, dr, tk, os⟩ := s1
  refine wpAny_call (PySem.XBadDeed.ex_made T b1 b2 (small_BadDeed ni).1 (small_BadDeed ni).2 (by have := hr.dp; omega) fun h' tk' e d M => ?_)
  show MkP X pins σ Q (.ref e) ⟨h', g, dr, tk', os⟩
  obtain ⟨oe, fv, hoe, hc, hd, hdat, h1⟩ := M.obj
  have hns := M.ns
  obtain ⟨G', g1, g2⟩ := restrict h' fun b => decide (b ≠ e)
  have gk : ∀ b, b ≠ e → G'.get? b = h'.get? b := fun b hb => g1 b (decide_eq_true hb)
  have ge : G'.get? e = none := g2 e (by simp)
  have old : ∀ b o, hp.get? b = some o → G'.get? b = some o := fun b o q => (gk b (Nat.ne_of_lt (Nat.lt_of_lt_of_le (Heap.lt_size q) M.new))).trans (M.keep b o q)
  have ob : ObjOk X.prog X.w (upd H1 d (.xd [(("number" : Str), .int i)])) G' d (.xd [(("number" : Str), .int i)]) :=
    ⟨_, hns.at (fun o q => (gk d M.dne).trans q), fun f => rel_BadDeed f⟩
  have J : Inv X pins σ (upd H1 d (.xd [(("number" : Str), .int i)])) ⟨G', g, dr, tk', os⟩ := I1.laid (t' := tk') old M.dbig ob
  refine ⟨e, oe, fv, ⟨G', g, dr, tk', os⟩, _, .ref C, some d, rfl, J, fun b o q => ?_, ge, hoe, ⟨hc, hd⟩, hdat, h1, ?_, rfl, I1.bare, raises_own T.exC T.tyC, q1 d (I1.hok.fresh M.dbig)⟩
  · by_cases hb : b = e
    · have q' : G'.get? b = some o := q
      rw [hb, ge] at q'; cases q'
    · exact (gk b hb).symm.trans q
  · rw [upd_ne (Ne.symm M.dne)]
    exact I1.hok.fresh M.new
/-- raise BadDeed(e) -/
def tRaiseBadDeed (C : Addr) (W : WX) (ta : TA) : TS := fun _ σ H => tMkBadDeed C ta σ H fun cls d H' => W cls d σ H'
theorem ps_raiseBadDeed {a : Expr} {ta : TA} {W : WX} {p pos pos2 : Pos} {k : Nat} (hc : X.calm = true) (T : PySem.XBadDeed.ExTxt X.prog X.K X.mg C fI) (hr : Room k X.A) (tk : Takes X W) (ha : PA X [a] ta) (hg : Gl X "BadDeed" := by rfl)
    (he : starEach (a :: []) X.env = (false, eval a X.env) :: starEach [] X.env := by rfl) (hpl : (backTo pos (starEach [] X.env)).any (·.1) = false := by rfl) :
    PS X (.Raise (some (.Call (.Name "BadDeed" p) [a] [] pos)) none pos2) (tRaiseBadDeed C W ta) := ps_raise hc tk (pmk_BadDeed T hr ha hg he hpl)
end
end Say
namespace Say
open PySem PySem.Spec PyProof.Rows L2
/-- does the rule fit at the place of the signs -/
def fitsL (ρ : Rule) (z : List Nat) (i : Nat) : Bool :=
  if (z.drop i).take ρ.ow.length = ρ.ow then (decide (ρ.ah = []) || decide (z.getD (i - 1) 0 ∈ ρ.ah)) && (decide (ρ.be = []) || decide (z.getD (i + ρ.ow.length) 0 ∈ ρ.be)) else false
/-- a word between its edges -/
def sgn (wd : List Nat) : List Nat := 35 :: (wd ++ [35])
theorem sgn_len (wd : List Nat) : (sgn wd).length = wd.length + 2 := by simp [sgn]
theorem sgn_last (wd : List Nat) : (sgn wd)[wd.length + 1]? = some 35 := by
  unfold sgn
  rw [List.getElem?_cons_succ, List.getElem?_append_right (Nat.le_refl _), Nat.sub_self]
  rfl
theorem cut_at {z : List Nat} {i n : Nat} (h : i ≤ z.length) : cutS (T z) (some (i : Int)) (some ((i + n : Nat) : Int)) = T ((z.drop i).take n) := by
  unfold cutS
  rw [T_len, HT.sIx_nat, HT.sIx_nat, Nat.min_eq_left h]
  show T ((z.drop i).take (min (i + n) z.length - i)) = _
  congr 1
  by_cases c : i + n ≤ z.length
  · rw [Nat.min_eq_left c, Nat.add_sub_cancel_left]
  · rw [Nat.min_eq_right (by omega), List.take_of_length_le (by rw [List.length_drop]; omega), List.take_of_length_le (by rw [List.length_drop]; omega)]
theorem fit_room {wd ow : List Nat} {i : Nat} (h : ((sgn wd).drop i).take ow.length = ow) (h1 : 1 ≤ ow.length) (h35 : 35 ∉ ow) : i + ow.length ≤ wd.length + 1 := by
  have hl := congrArg List.length h
  rw [List.length_take, List.length_drop, sgn_len] at hl
  refine Decidable.byContradiction fun n => h35 ?_
  have e : i + ow.length = wd.length + 2 := by omega
  have g : ow[ow.length - 1]? = some 35 := by
    rw [← h, List.getElem?_take_of_lt (by rw [h]; omega), List.getElem?_drop]
    rw [show i + ((((sgn wd).drop i).take ow.length).length - 1) = wd.length + 1 by rw [h]; omega]
    exact sgn_last wd
  exact List.mem_of_getElem? g
theorem dec_nil (l : List Nat) : decide (V.str (T l) = V.str (Str.ofString "")) = decide (l = []) := by
  rw [show Str.ofString "" = T [] from nil_eq]
  refine decide_eq_decide.mpr ⟨fun z => T_inj (V.str.inj z), fun z => by rw [z]⟩
section
variable {P : Program} {w : World} {K : PySem.W.Frag} {mg : Str → Option Value} {base : Heap}
abbrev sFits : Stmt := topS 49
theorem scFits : FnScope ["rule", "signs", "at", "ahead", "own", "behind", "_", "past"] ["rule", "signs", "at"] (defScope sFits) := ⟨rfl, rfl, rfl, by decide +kernel, rfl, by decide +kernel, by decide +kernel⟩
/-- where its letters stand, the sign behind them stands, too -/
def RoomAt (ρ : Rule) (z : List Nat) (i : Nat) : Prop := (z.drop i).take ρ.ow.length = ρ.ow → i + ρ.ow.length < z.length
def spFits : Sp := fun vs H Q _ => ∃ (t : Addr) (ρ : Rule) (z : List Nat) (i : Nat), vs = [.ref t, .str (T z), .int i] ∧ H t = some (.tup ρ.vs) ∧ ρ.ow.length ≤ 2 ∧ 1 ≤ i ∧ i ≤ z.length ∧ z.length ≤ 100 ∧ RoomAt ρ z i ∧
  Q (.bl (fitsL ρ z i)) H
theorem ok_fits {f : Addr} {fd : FuncData} (F : Fun K "fits" "fits" sFits f fd) (B : Bn mg) : FnOk P w K mg base CX0 1 f fd ["rule", "signs", "at"] spFits := by
  refine F.ok scFits (fun vs H Q E h => ?_) (fun cdv A outer s H vs Q E hr h => ?_)
  · obtain ⟨t, ρ, z, i, rfl, _⟩ := h
    rfl
  · obtain ⟨t, ρ, z, i, rfl, ht, h2, hi1, hi, hw, hroom, q⟩ := h
    refine ⟨_, pss_cons (ps_asg (pv 0) (pg_tup (by rfl) (pgs_cons (pg_name (i := 3) scFits.nd rfl (.inl rfl)) (pgs_cons (pg_name (i := 4) scFits.nd rfl (.inl rfl)) (pgs_cons (pg_name (i := 5) scFits.nd rfl (.inl rfl)) (pgs_cons (pg_name (i := 6) scFits.nd rfl (.inl rfl)) pgs_nil))))))
      (pss_cons (ps_set (i := 7) scFits.nd rfl (.inl rfl) (pe_op op_add (pv 2) (pe_callB call_len_str (by rfl) B.len PySem.boot_len (pa_cons (pv 4) pa_nil))))
      (pss_cons (ps_if (pt_cmpR op_ne (pe_slice sl_str (pv 1) (po_some (pv 2)) (po_some (pv 7))) (pv 4) (nomark _)) (pss_one (ps_ret pe_bl)) pss_nil)
      (pss_one (ps_ret (pe_and (pe_or (pe_cmpR op_eq (pv 3) pe_str (nomark _)) (pe_one (pe_cmpR op_in_sign (pe_ix ix_str (pv 1) (pe_op op_sub (pv 2) pe_int) (fun _ _ => rfl)) (pv 3) rfl)))
        (pe_one (pe_or (pe_cmpR op_eq (pv 5) pe_str (nomark _)) (pe_one (pe_cmpR op_in_sign (pe_ix ix_str (pv 1) (pv 7) (fun _ _ => rfl)) (pv 5) rfl))))))))), ?_⟩
    have hzl : (T z).length ≤ sizeLine := by rw [T_len]; exact small (by omega)
    have hol : (T ρ.ow).length ≤ sizeLine := by rw [T_len]; exact small (by omega)
    refine ⟨_, rfl, t, _, rfl, .inl (.inl ht), rfl, _, _, rfl, _, _, rfl, _, _, rfl, _, _, rfl, rfl, ?_⟩
    refine ⟨_, rfl, _, rfl, _, rfl, hol, _, _, rfl, rfl, ?_⟩
    refine ⟨_, rfl, _, rfl, _, rfl, _, rfl, _, rfl, T z, rfl, hzl, _, rfl, ?_⟩
    rw [show ((i : Nat) : Int) + ((T ρ.ow).length : Int) = ((i + ρ.ow.length : Nat) : Int) by rw [T_len]; omega, cut_at (by omega)]
    refine ⟨rfl, _, rfl, ?_⟩
    have eow : (V.str (T ((z.drop i).take ρ.ow.length)) = V.str (T ρ.ow)) ↔ (z.drop i).take ρ.ow.length = ρ.ow :=
      ⟨fun z => T_inj (V.str.inj z), fun z => by rw [z]⟩
    by_cases c : (z.drop i).take ρ.ow.length = ρ.ow
    · rw [decide_eq_true (eow.mpr c)]
      refine iteF ?_
      have room := hroom c
      unfold fitsL at q
      rw [if_pos c] at q
      -- ahead
      refine ⟨_, rfl, rfl, _, rfl, ?_⟩
      rw [dec_nil]
      have g1 : (T z).cps.toList[i - 1]? = some (z.getD (i - 1) 0) := by rw [T_cps, List.getD_eq_getElem?_getD, List.getElem?_eq_getElem (by omega)]; rfl
      have g2 : (T z).cps.toList[i + ρ.ow.length]? = some (z.getD (i + ρ.ow.length) 0) := by rw [T_cps, List.getD_eq_getElem?_getD, List.getElem?_eq_getElem (by omega)]; rfl
      refine ite2 (fun c1 => ?_) (fun c1 => ?_)
      · refine ⟨true, rfl, iteT ?_⟩
        have q2 : Q (.bl (decide (ρ.be = []) || decide (z.getD (i + ρ.ow.length) 0 ∈ ρ.be))) H := by
          rw [c1, Bool.true_or, Bool.true_and] at q; exact q
        refine ⟨_, rfl, rfl, _, rfl, ?_⟩
        rw [dec_nil]
        refine ite2 (fun d1 => ?_) (fun d1 => ?_)
        · rw [d1, Bool.true_or] at q2
          exact q2
        · rw [Bool.eq_false_iff.mpr d1, Bool.false_or] at q2
          exact ⟨_, rfl, _, rfl, T z, _, _, rfl, rfl, hzl, atI_of g2 (by rw [T_len]; omega), _, rfl, _, T ρ.be, rfl, rfl, q2⟩
      · rw [Bool.eq_false_iff.mpr c1, Bool.false_or] at q
        refine ⟨_, rfl, _, rfl, _, _, rfl, rfl, T z, _, _, rfl, rfl, hzl, atI_of g1 (by omega), _, rfl, _, T ρ.ah, rfl, rfl, _, rfl, ?_⟩
        refine ite2 (fun c2 => ?_) (fun c2 => ?_)
        · have q2 : Q (.bl (decide (ρ.be = []) || decide (z.getD (i + ρ.ow.length) 0 ∈ ρ.be))) H := by
            rw [show decide (z.getD (i - 1) 0 ∈ ρ.ah) = true from c2, Bool.true_and] at q; exact q
          refine ⟨_, rfl, rfl, _, rfl, ?_⟩
          rw [dec_nil]
          refine ite2 (fun d1 => ?_) (fun d1 => ?_)
          · rw [d1, Bool.true_or] at q2
            exact q2
          · rw [Bool.eq_false_iff.mpr d1, Bool.false_or] at q2
            exact ⟨_, rfl, _, rfl, T z, _, _, rfl, rfl, hzl, atI_of g2 (by rw [T_len]; omega), _, rfl, _, T ρ.be, rfl, rfl, q2⟩
        · rw [show decide (z.getD (i - 1) 0 ∈ ρ.ah) = false from Bool.eq_false_iff.mpr c2, Bool.false_and] at q
          exact q
    · rw [decide_eq_false fun z => c (eow.mp z)]
      refine iteT ?_
      unfold fitsL at q
      rw [if_neg c] at q
      exact q
end
end Say
namespace Say
open PySem PySem.Spec PyProof.Rows L2
/-- the number of the first rule that fits -/
def ff (rs : List Rule) (z : List Nat) (i : Nat) : Option Nat := rs.findIdx? fun ρ => fitsL ρ z i
def ruleAt (rs : List Rule) (k : Nat) : Rule := rs.getD k ⟨[], [], [], []⟩
/-- the steps from a place on, and where it is stuck -/
def wk (rs : List Rule) (z : List Nat) : Nat → Nat → List (Nat × Nat) × Option Nat
  | 0, _ => ([], none)
  | m + 1, i => if i < z.length - 1 then
      match ff rs z i with
      | none => ([], some (i - 1))
      | some k => ((i - 1, k) :: (wk rs z m (i + (ruleAt rs k).ow.length)).1, (wk rs z m (i + (ruleAt rs k).ow.length)).2)
    else ([], none)
def W (rs : List Rule) (wd : List Nat) : List (Nat × Nat) × Option Nat := wk rs (sgn wd) (wd.length + 1) 1
theorem wk_end (rs : List Rule) (z : List Nat) (m i : Nat) (h : ¬ i < z.length - 1) : wk rs z m i = ([], none) := by
  cases m with
  | zero => rfl
  | succ m =>
    unfold wk
    rw [if_neg h]
theorem wk_none {rs : List Rule} {z : List Nat} {m i : Nat} (h : i < z.length - 1) (e : ff rs z i = none) : wk rs z (m + 1) i = ([], some (i - 1)) := by
  rw [wk, if_pos h, e]
theorem wk_some {rs : List Rule} {z : List Nat} {m i k : Nat} (h : i < z.length - 1) (e : ff rs z i = some k) : wk rs z (m + 1) i = ((i - 1, k) :: (wk rs z m (i + (ruleAt rs k).ow.length)).1, (wk rs z m (i + (ruleAt rs k).ow.length)).2) := by
  rw [wk, if_pos h, e]
theorem wk_len (rs : List Rule) (z : List Nat) : ∀ m i : Nat, (wk rs z m i).1.length ≤ m
  | 0, _ => Nat.le_refl 0
  | m + 1, i => by
    by_cases h : i < z.length - 1
    · cases e : ff rs z i with
      | none => rw [wk_none h e]; exact Nat.zero_le _
      | some k =>
        rw [wk_some h e]
        exact Nat.succ_le_succ (wk_len rs z m _)
    · rw [wk_end rs z _ i h]
      exact Nat.zero_le _
theorem ff_lt {rs : List Rule} {z : List Nat} {i k : Nat} (e : ff rs z i = some k) : k < rs.length := by
  obtain ⟨h, _⟩ := List.findIdx?_eq_some_iff_getElem.mp e
  exact h
theorem ruleAt_eq {rs : List Rule} {k : Nat} {ρ : Rule} (h : rs[k]? = some ρ) : ruleAt rs k = ρ := by
  unfold ruleAt
  rw [List.getD_eq_getElem?_getD, h]
  rfl
/-- what rules ask for the walk -/
structure RlOk (ρ : Rule) : Prop where
  o1 : 1 ≤ ρ.ow.length
  o2 : ρ.ow.length ≤ 2
  h35 : 35 ∉ ρ.ow
  s3 : ρ.so.length ≤ 3
theorem RuleOk.rl {L : List Nat} {ρ : Rule} (hL : LetOk L) (h : RuleOk L ρ) : RlOk ρ := ⟨h.o1, h.o2, fun z => by have := (hL.az _ (h.ow _ z)).1; omega, h.s3⟩
theorem BookOk.rls {L : List Nat} {rs : List Rule} {es : List Exc} (h : BookOk L rs es) : ∀ ρ ∈ rs, RlOk ρ := fun ρ hρ => (h.rl ρ hρ).rl h.lt
theorem eqT {a b : List Nat} : decide (V.str (T a) = V.str (T b)) = decide (a = b) := decide_eq_decide.mpr ⟨fun z => T_inj (V.str.inj z), fun z => by rw [z]⟩
theorem wk_stuck (rs : List Rule) (z : List Nat) : ∀ m i p : Nat, 1 ≤ i → (wk rs z m i).2 = some p → p + 2 ≤ z.length
  | 0, i, p, _, h => by cases h
  | m + 1, i, p, hi, h => by
    by_cases c : i < z.length - 1
    · cases e : ff rs z i with
      | none =>
        rw [wk_none c e] at h
        cases h
        omega
      | some k =>
        rw [wk_some c e] at h
        exact wk_stuck rs z m _ p (by omega) h
    · rw [wk_end rs z _ i c] at h
      cases h
theorem W_stuck {rs : List Rule} {wd : List Nat} {p : Nat} (h : (W rs wd).2 = some p) : p ≤ wd.length := by
  have := wk_stuck rs (sgn wd) _ 1 p (Nat.le_refl 1) h
  rw [sgn_len] at this
  omega
section
variable {P : Program} {w : World} {K : PySem.W.Frag} {mg : Str → Option Value} {base : Heap}
abbrev sFF : Stmt := topS 50
theorem scFF : FnScope ["rules", "signs", "at", "number", "rule"] ["rules", "signs", "at"] (defScope sFF) := ⟨rfl, rfl, rfl, by decide +kernel, rfl, by decide +kernel, by decide +kernel⟩
def optI : Option Nat → V
  | none => .non
  | some k => .int k
def spFF : Sp := fun vs H Q _ => ∃ (R : Addr) (rs : List Rule) (z : List Nat) (i : Nat), vs = [.ref R, .str (T z), .int i] ∧ RulesAt H R rs ∧ (∀ ρ ∈ rs, RlOk ρ) ∧ 1 ≤ i ∧ i ≤ z.length ∧ z.length ≤ 100 ∧ (∀ ρ ∈ rs, RoomAt ρ z i) ∧
  ∀ H', Same H H' → Q (optI (ff rs z i)) H'
theorem room_sgn {rs : List Rule} (h : ∀ ρ ∈ rs, RlOk ρ) (wd : List Nat) (i : Nat) : ∀ ρ ∈ rs, RoomAt ρ (sgn wd) i := fun ρ hρ c => by
  have := fit_room c (h ρ hρ).o1 (h ρ hρ).h35
  rw [sgn_len]
  omega
theorem ok_FF {f : Addr} {fd : FuncData} (F : Fun K "first_fit" "first_fit" sFF f fd) (B : Bn mg) (DF : Df P w K mg base "fits" ["rule", "signs", "at"] 1 spFits) : FnOk P w K mg base CX0 2 f fd ["rules", "signs", "at"] spFF := by
  obtain ⟨fF, fdF, GF, kF, bF, mF⟩ := DF
  refine F.ok scFF (fun vs H Q E h => ?_) (fun cdv A outer s H vs Q E hr h => ?_)
  · obtain ⟨R, rs, z, i, rfl, _⟩ := h
    rfl
  · obtain ⟨R, rs, z, i, rfl, ⟨ts, hR, hp⟩, ho, hi1, hi, hw, hrm, q⟩ := h
    refine ⟨_, pss_cons (ps_for PassesOwn.never rfl (pi_enumT (by rfl) B.enu (pa_cons (pv 0) pa_nil)) (pg_tup (by rfl) (pgs_cons (pg_name (i := 3) scFF.nd rfl (.inl rfl)) (pgs_cons (pg_name (i := 4) scFF.nd rfl (.inl rfl)) pgs_nil)))
        (pss_one (ps_if (pt_val (pe_call GF hr (by rfl) mF kF bF .nil pass0 (pa_cons (pv 4) (pa_cons (pv 1) (pa_cons (pv 2) pa_nil))))) (pss_one (ps_ret (pv 3))) pss_nil)))
      (pss_one (ps_ret pe_non)), ?_⟩
    refine ⟨_, rfl, R, _, rfl, .inl (.inl hR), for_it (walk_enumT (xs := ts.map V.ref)) (fun j σ H2 => Same H H2 ∧ (∃ v3 v4, σ = [some (.ref R), some (.str (T z)), some (.int i), v3, v4]) ∧ ∀ k ρ, k < j → rs[k]? = some ρ → fitsL ρ z i = false)
      ⟨Same.refl H, ⟨_, _, rfl⟩, fun k ρ h => absurd h (Nat.not_lt_zero k)⟩ (fun j σ H2 _ h => .inl (.inl (h.1 _ _ hR))) ?_ ?_⟩
    · rintro j x σ H2 H3 hj ⟨s2, ⟨v3, v4, rfl⟩, hn⟩ ⟨t, x1, x2, rfl, ht, rfl, g1, g2⟩
      cases g1
      have g2 : (ts.map V.ref)[j]? = some x2 := g2
      rw [List.getElem?_map] at g2
      obtain ⟨a, ha, e⟩ := Option.map_eq_some_iff.mp g2
      subst e
      obtain ⟨ρ, hρ, hat⟩ := paired_at hp ha
      have hm := ho ρ (List.mem_of_getElem? hρ)
      have sm := same_new ht (.tup [.int (j : Nat), .ref a])
      refine ⟨t, _, rfl, .inl (.inl upd_same), rfl, _, _, rfl, _, _, rfl, rfl, ?_⟩
      refine ⟨_, rfl, _, rfl, _, rfl, a, ρ, z, i, rfl, sm _ _ (s2 _ _ hat), hm.o2, hi1, hi, hw, hrm ρ (List.mem_of_getElem? hρ), _, rfl, ite2 (fun c => ?_) (fun c => ?_)⟩
      · refine ⟨_, rfl, ?_⟩
        have := q _ (s2.trans sm)
        have e : ff rs z i = some j := by
          refine List.findIdx?_eq_some_iff_getElem.mpr ⟨(List.getElem?_eq_some_iff.mp hρ).1, ?_, fun k hk => ?_⟩
          · rw [(List.getElem?_eq_some_iff.mp hρ).2]
            exact c
          · rw [hn k _ hk (List.getElem?_eq_getElem (by have := (List.getElem?_eq_some_iff.mp hρ).1; omega))]
            exact Bool.false_ne_true
        rw [e] at this
        exact this
      · refine ⟨s2.trans sm, ⟨_, _, rfl⟩, fun k ρ' hk hk' => ?_⟩
        by_cases e : k = j
        · subst e
          rw [hρ] at hk'
          cases hk'
          exact Bool.eq_false_iff.mpr c
        · exact hn k ρ' (by omega) hk'
    · rintro σ H2 ⟨s2, ⟨v3, v4, rfl⟩, hn⟩
      have := q _ s2
      have e : ff rs z i = none := by
        refine List.findIdx?_eq_none_iff.mpr fun ρ hρ => ?_
        obtain ⟨k, hk⟩ := List.mem_iff_getElem?.mp hρ
        have hl := (List.getElem?_eq_some_iff.mp hk).1
        exact hn k ρ (by rw [List.length_map, paired_len hp]; exact hl) hk
      rw [e] at this
      exact this
abbrev sSt : Stmt := topS 51
theorem scSt : FnScope ["rules", "tail", "signs", "steps", "at", "number"] ["rules", "tail"] (defScope sSt) := ⟨rfl, rfl, rfl, by decide +kernel, rfl, by decide +kernel, by decide +kernel⟩
/-- the list at D holds steps -/
def StepsAt (H : Hp) (D : Addr) (ss : List (Nat × Nat)) : Prop := ∃ ts : List Addr, H D = some (.lst (ts.map V.ref)) ∧ Paired (fun t (s : Nat × Nat) => H t = some (.tup [.int (s.1 : Nat), .int (s.2 : Nat)])) ts ss
theorem StepsAt.same {H H' : Hp} {D : Addr} {ss : List (Nat × Nat)} (h : StepsAt H D ss) (e : Same H H') : StepsAt H' D ss := by
  obtain ⟨ts, h1, h2⟩ := h
  exact ⟨ts, e _ _ h1, paired_mono (fun t ρ q => e _ _ q) h2⟩
theorem len1 (tl : List Nat) : (tl ++ [35]).length = tl.length + 1 := by simp
/-- a tail's steps, and where it is stuck -/
def Wt (rs : List Rule) (tl : List Nat) : List (Nat × Nat) × Option Nat := wk rs (tl ++ [35]) tl.length 1
theorem W_Wt (rs : List Rule) (wd : List Nat) : W rs wd = Wt rs (35 :: wd) := rfl
theorem fit_roomT {tl ow : List Nat} {i : Nat} (h : ((tl ++ [35]).drop i).take ow.length = ow) (h1 : 1 ≤ ow.length) (h35 : 35 ∉ ow) : i + ow.length ≤ tl.length := by
  have hl := congrArg List.length h
  rw [List.length_take, List.length_drop, List.length_append, List.length_singleton] at hl
  refine Decidable.byContradiction fun n => h35 ?_
  have e : i + ow.length = tl.length + 1 := by omega
  have g : ow[ow.length - 1]? = some 35 := by
    rw [← h, List.getElem?_take_of_lt (by rw [h]; omega), List.getElem?_drop]
    rw [show i + ((((tl ++ [35] : List Nat).drop i).take ow.length).length - 1) = tl.length by rw [h]; omega]
    rw [List.getElem?_append_right (Nat.le_refl _), Nat.sub_self]
    rfl
  exact List.mem_of_getElem? g
theorem room_tl {rs : List Rule} (h : ∀ ρ ∈ rs, RlOk ρ) (tl : List Nat) (i : Nat) : ∀ ρ ∈ rs, RoomAt ρ (tl ++ [35]) i := fun ρ hρ c => by
  have := fit_roomT c (h ρ hρ).o1 (h ρ hρ).h35
  rw [List.length_append, List.length_singleton]
  omega
def spSt : Sp := fun vs H Q _ => ∃ (R : Addr) (rs : List Rule) (tl : List Nat), vs = [.ref R, .str (T tl)] ∧ RulesAt H R rs ∧ (∀ ρ ∈ rs, RlOk ρ) ∧ 1 ≤ tl.length ∧ tl.length ≤ 81 ∧
  ∀ (t D : Addr) (H' : Hp), Same H H' → H D = none → H' t = some (.tup [.ref D, optI (Wt rs tl).2]) → StepsAt H' D (Wt rs tl).1 → Q (.ref t) H'
theorem ok_St {f : Addr} {fd : FuncData} (F : Fun K "steps_of" "steps_of" sSt f fd) (B : Bn mg) (C : Cn mg) (cO : KI mg "OWN" 1) (DF : Df P w K mg base "first_fit" ["rules", "signs", "at"] 2 spFF) : FnOk P w K mg base CX0 3 f fd ["rules", "tail"] spSt := by
  obtain ⟨fF, fdF, GF, kF, bF, mF⟩ := DF
  obtain ⟨tE, mE⟩ := C.edge
  obtain ⟨tO, mO⟩ := cO
  refine F.ok scSt (fun vs H Q E h => ?_) (fun cdv A outer s H vs Q E hr h => ?_)
  · obtain ⟨R, rs, tl, rfl, _⟩ := h
    rfl
  · obtain ⟨R, rs, tl, rfl, hR, ho, hl1, hw, q⟩ := h
    refine ⟨_, pss_cons (ps_set (i := 2) scSt.nd rfl (.inl rfl) (pe_op op_add_str (pv 1) (pe_glob (v := .str "#") rfl mE ⟨_, rfl⟩)))
      (pss_cons (ps_set (i := 3) scSt.nd rfl (.inl rfl) (pe_lst pa_nil))
      (pss_cons (ps_set (i := 4) scSt.nd rfl (.inl rfl) pe_int)
      (pss_cons (ps_while PassesOwn.never (pt_cmpR op_lt (pv 4) (pe_op op_sub (pe_callB call_len_str (by rfl) B.len PySem.boot_len (pa_cons (pv 2) pa_nil)) pe_int) (nomark _))
        (pss_cons (ps_set (i := 5) scSt.nd rfl (.inl rfl) (pe_call GF hr (by rfl) mF kF bF .nil pass0 (pa_cons (pv 0) (pa_cons (pv 2) (pa_cons (pv 4) pa_nil)))))
        (pss_cons (ps_if (pt_cmpR op_isN (pv 5) pe_non (nomark _)) (pss_one (ps_ret (pe_tup (pa_cons (pv 3) (pa_cons (pe_op op_sub (pv 4) pe_int) pa_nil))))) pss_nil)
        (pss_cons (ps_expr (pe_bm PySem.F.plainAttrs_list PySem.F.slot_list_append PySem.F.type_list_append mt_append (pv 3) (pa_cons (pe_tup (pa_cons (pe_op op_sub (pv 4) pe_int) (pa_cons (pv 5) pa_nil))) pa_nil)))
        (pss_one (ps_aug (i := 4) scSt.nd rfl (.inl rfl) (pe_callB call_len_str (by rfl) B.len PySem.boot_len (pa_cons (pe_ix ix_tup (pe_ix ix_tup (pv 0) (pv 5) (fun _ _ => rfl)) (pe_glob (v := .int 1) rfl mO ⟨_, rfl⟩) (fun _ _ => rfl)) pa_nil)) ip_add))))))
      (pss_one (ps_ret (pe_tup (pa_cons (pv 3) (pa_cons pe_non pa_nil)))))))), ?_⟩
    refine ⟨_, rfl, _, _, rfl, rfl, (by rw [len_hash, T_len]; exact small (by omega)), ?_⟩
    rw [app_hash]
    show tSeq _ _ _ _ _
    refine ⟨(by show 0 ≤ sizeLine; decide), fun D hD => ?_⟩
    obtain ⟨rts, hRt, hRp⟩ := id hR
    have zl : (T (tl ++ [35])).length = tl.length + 1 := by rw [T_len, len1]
    have hz0 : (T (tl ++ [35])).length ≤ sizeLine := by rw [zl]; exact small (by omega)
    refine ⟨fun m σ H2 => ∃ (i : Nat) (acc : List (Nat × Nat)) (v5 : Option V), σ = [some (.ref R), some (.str (T tl)), some (.str (T (tl ++ [35]))), some (.ref D), some (.int i), v5] ∧ 1 ≤ i ∧ tl.length + 1 ≤ i + m ∧ Same H H2 ∧ StepsAt H2 D acc ∧
      Wt rs tl = (acc ++ (wk rs (tl ++ [35]) m i).1, (wk rs (tl ++ [35]) m i).2), ⟨tl.length, 1, [], _, rfl, Nat.le_refl _, by omega, same_new hD _, ⟨[], upd_same, .nil⟩, rfl⟩, fun m σ H2 hW => ?_⟩
    obtain ⟨i, acc, v5, rfl, hi1, hm, s2, hS, hW⟩ := hW
    refine ⟨_, rfl, _, rfl, _, rfl, hz0, _, _, rfl, rfl, _, _, rfl, rfl, _, rfl, ite2 (fun c => ?_) (fun c => ?_)⟩
    · have c' : (i : Int) < ((T (tl ++ [35])).length : Int) - 1 := of_decide_eq_true c
      rw [zl] at c'
      have hi : i < tl.length := by omega
      have hlt : i < (tl ++ [35]).length - 1 := by rw [len1]; omega
      obtain ⟨m', rfl⟩ : ∃ m', m = m' + 1 := ⟨m - 1, by omega⟩
      refine ⟨fun σ' H' => ∃ (i : Nat) (acc : List (Nat × Nat)) (v5 : Option V), σ' = [some (.ref R), some (.str (T tl)), some (.str (T (tl ++ [35]))), some (.ref D), some (.int i), v5] ∧ 1 ≤ i ∧ tl.length + 1 ≤ i + m' ∧ Same H H' ∧ StepsAt H' D acc ∧
        Wt rs tl = (acc ++ (wk rs (tl ++ [35]) m' i).1, (wk rs (tl ++ [35]) m' i).2), fun σ' H' h => ⟨m', Nat.lt_succ_self _, h⟩, ?_⟩
      refine ⟨_, rfl, _, rfl, _, rfl, R, rs, tl ++ [35], i, rfl, hR.kt (.of s2), ho, hi1, by rw [len1]; omega, by rw [len1]; omega, room_tl ho tl i, fun H3 s3 => ?_⟩
      have s23 := s2.trans s3
      obtain ⟨ts, hDl, hDp⟩ := hS.same s3
      cases e : ff rs (tl ++ [35]) i with
      | none =>
        rw [wk_none hlt e] at hW
        refine ⟨_, rfl, rfl, _, rfl, iteT ?_⟩
        refine ⟨_, rfl, _, rfl, _, _, rfl, rfl, (by show 2 ≤ sizeLine; decide), fun t ht => ?_⟩
        have sm := same_new ht (.tup [.ref D, .int ((i : Int) - 1)])
        refine q t D _ (s23.trans sm) hD ?_ ?_
        · rw [upd_same, hW]
          show some (HO.tup [V.ref D, V.int ((i : Int) - 1)]) = some (HO.tup [V.ref D, V.int ((i - 1 : Nat) : Int)])
          rw [show ((i - 1 : Nat) : Int) = (i : Int) - 1 by omega]
        · rw [hW, List.append_nil]
          exact StepsAt.same ⟨ts, hDl, hDp⟩ sm
      | some k =>
        rw [wk_some hlt e] at hW
        have hk := ff_lt e
        obtain ⟨a, ha, hat⟩ := paired_at' hRp (List.getElem?_eq_getElem hk)
        have hm2 := ho _ (List.getElem_mem hk)
        have er : ruleAt rs k = rs[k] := ruleAt_eq (List.getElem?_eq_getElem hk)
        refine ⟨_, rfl, rfl, _, rfl, ?_⟩
        rw [show decide (optI (some k) = V.non) = false from decide_eq_false (fun z => by cases z)]
        refine iteF ?_
        refine ⟨_, rfl, .inl ⟨rfl, _, .inl (.inl hDl)⟩, _, rfl, _, _, rfl, rfl, _, rfl, (by show 2 ≤ sizeLine; decide), fun t ht => ?_⟩
        have sm := same_new ht (.tup [.int ((i : Int) - 1), .int (k : Nat)])
        have hDl' := sm _ _ hDl
        have sall : Same H (upd (upd H3 t (.tup [.int ((i : Int) - 1), .int (k : Nat)])) D (.lst (ts.map V.ref ++ [.ref t]))) := fun b u e => by
          rw [upd_ne (ne_of_none e hD)]
          exact sm _ _ (s23 _ _ e)
        refine ⟨D, _, _, rfl, rfl, hDl', ?_, ?_⟩
        · rw [List.length_map, paired_len hDp]
          have l1 : (Wt rs tl).1.length ≤ tl.length := wk_len rs (tl ++ [35]) tl.length 1
          rw [hW] at l1
          simp at l1
          exact small1000 (by omega)
        · have kR : Same H3 (upd (upd H3 t (.tup [.int ((i : Int) - 1), .int (k : Nat)])) D (.lst (ts.map V.ref ++ [.ref t]))) → True := fun _ => trivial
          have atR := sall _ _ hRt
          have ata := sall _ _ hat
          refine ⟨_, rfl, _, rfl, _, rfl, R, _, (k : Int), .ref a, rfl, rfl, .inl (.inl atR), atI_nat (by rw [List.getElem?_map, ha]; rfl), a, _, 1, .str (T rs[k].ow), rfl, rfl, .inl (.inl ata), atI_nat (j := 1) rfl, _, rfl, (by rw [T_len]; have := hm2.o2; exact small (by omega)), _, _, rfl, rfl, ?_⟩
          refine ⟨i + rs[k].ow.length, acc ++ [(i - 1, k)], some (.int (k : Nat)), ?_, by omega, by have := hm2.o1; omega, sall, ?_, ?_⟩
          · have ee : ((i + rs[k].ow.length : Nat) : Int) = (i : Int) + ((T rs[k].ow).length : Int) := by rw [T_len]; omega
            rw [ee]
            rfl
          · refine ⟨ts ++ [t], by rw [upd_same, List.map_append]; rfl, paired_app (paired_mono (fun t' s h => ?_) hDp) (.cons ?_ .nil)⟩
            · rw [upd_ne (ne_of h hDl (by intro z; cases z))]
              exact sm _ _ h
            · rw [upd_ne (ne_of_none hDl ht).symm, upd_same]
              show some (HO.tup [V.int ((i : Int) - 1), V.int (k : Nat)]) = some (HO.tup [V.int ((i - 1 : Nat) : Int), V.int (k : Nat)])
              rw [show ((i - 1 : Nat) : Int) = (i : Int) - 1 by omega]
          · rw [hW, er, List.append_assoc]
            rfl
    · have c' : ¬ (i : Int) < ((T (tl ++ [35])).length : Int) - 1 := of_decide_eq_false (Bool.eq_false_iff.mpr c)
      rw [zl] at c'
      rw [wk_end rs (tl ++ [35]) m i (by rw [len1]; omega)] at hW
      refine ⟨_, rfl, (by show 2 ≤ sizeLine; decide), fun t ht => ?_⟩
      have sm := same_new ht (.tup [.ref D, .non])
      refine q t D _ (s2.trans sm) hD ?_ ?_
      · rw [upd_same, hW]
        rfl
      · rw [hW, List.append_nil]
        exact hS.same sm
def LWAt (H : Hp) (t : Addr) (q : List (Nat × Nat) × Option Nat) : Prop := match q.2 with
  | some p => H t = some (.tup [.str (Str.ofString "unsaid"), .int (p : Nat)])
  | none => ∃ D, H t = some (.tup [.str (T []), .ref D]) ∧ StepsAt H D q.1
theorem LWAt.same {H H' : Hp} {t : Addr} {q : List (Nat × Nat) × Option Nat} (h : LWAt H t q) (e : Same H H') : LWAt H' t q := by
  obtain ⟨l, o⟩ := q
  cases o with
  | some p => exact e _ _ h
  | none =>
    obtain ⟨D', h1, h2⟩ := h
    exact ⟨D', e _ _ h1, h2.same e⟩
end
end Say
namespace Say
open PySem PySem.Spec PyProof.Rows L2
theorem Same.seqT {K : PySem.W.Frag} {H H' : Hp} {a : Addr} {xs : List V} (e : Same H H') (h : SqT K H a xs) : SqT K H' a xs := by
  rcases h with (h | ⟨o, h⟩) | h
  · exact .inl (.inl (e _ _ h))
  · exact .inl (.inr ⟨o, e _ _ h⟩)
  · exact .inr h
mutual
theorem dp_same {K : PySem.W.Frag} {H H' : Hp} (e : Same H H') : ∀ {v : V} {d : PyData}, Dp K H v d → Dp K H' v d
  | _, _, .non => .non
  | _, _, .bl b => .bl b
  | _, _, .int i => .int i
  | _, _, .str x => .str x
  | _, _, .lst h a => .lst (Same.seq e h) (dpa_same e a)
  | _, _, .tup h a => .tup (Same.seqT e h) (dpa_same e a)
theorem dpa_same {K : PySem.W.Frag} {H H' : Hp} (e : Same H H') : ∀ {vs : List V} {ds : List PyData}, DpAll K H vs ds → DpAll K H' vs ds
  | _, _, .nil => .nil
  | _, _, .cons h t => .cons (dp_same e h) (dpa_same e t)
end
theorem dpa_len {K : PySem.W.Frag} {H : Hp} : ∀ {vs : List V} {ds : List PyData}, DpAll K H vs ds → vs.length = ds.length
  | _, _, .nil => rfl
  | _, _, .cons _ t => by simp [dpa_len t]
theorem dpa_at {K : PySem.W.Frag} {H : Hp} : ∀ {vs : List V} {ds : List PyData}, DpAll K H vs ds → ∀ {i : Nat} {d : PyData}, ds[i]? = some d → ∃ v, vs[i]? = some v ∧ Dp K H v d
  | _, _, .nil, i, d, h => by cases h
  | _, _, .cons a t, 0, d, h => by
    cases h
    exact ⟨_, rfl, a⟩
  | _, _, .cons a t, i + 1, d, h => dpa_at t h
/-- data with no dicts, its lists not long -/
inductive Few : PyData → Prop
  | non : Few .none
  | bl (b : Bool) : Few (.bool b)
  | int (i : Int) : Few (.int i)
  | str (x : Str) : Few (.str x)
  | lst {ds : List PyData} : ds.length ≤ 1000 → (∀ d ∈ ds, Few d) → Few (.list ds)
  | tup {ds : List PyData} : ds.length ≤ 1000 → (∀ d ∈ ds, Few d) → Few (.tuple ds)
theorem depth_mem : ∀ {ds : List PyData} {d : PyData}, d ∈ ds → d.depth ≤ PyData.depthAll ds
  | x :: r, d, h => by
    unfold PyData.depthAll
    rcases List.mem_cons.mp h with rfl | h
    · exact Nat.le_max_left _ _
    · exact Nat.le_trans (depth_mem h) (Nat.le_max_right _ _)
end Say
namespace Say
open PySem PySem.Spec PyProof.Rows L2
section
variable {P : Program} {w : World} {K : PySem.W.Frag} {mg : Str → Option Value} {base : Heap}
theorem ty_list {H : Hp} {a : Addr} {xs : List V} (h : SqL K H a xs) : TyX K H (.ref a) (.type "list") := by
  rcases h with (h | ⟨o, h⟩) | ⟨o, its, n, h, hc, _⟩
  · exact .base (.lst h)
  · exact .base (.frz h)
  · exact .kList h hc
theorem ty_tup {H : Hp} {a : Addr} {xs : List V} (h : SqT K H a xs) : TyX K H (.ref a) (.type "tuple") := by
  rcases h with (h | ⟨o, h⟩) | ⟨o, its, n, h, hc, _⟩
  · exact .base (.tup h)
  · exact .fTuple h
  · exact .kTuple h hc
abbrev sAl : Stmt := topS 119
abbrev psAl : List Str := ["_law_found", "_law_due"]
theorem scAl : FnScope ["_law_found", "_law_due", "_law_same_kind", "_law_k"] ["_law_found", "_law_due"] (defScope sAl) := ⟨rfl, rfl, rfl, by decide +kernel, rfl, by decide +kernel, by decide +kernel⟩
/-- two values of the same data, not too deep -/
def spAl (K : PySem.W.Frag) (n : Nat) : Sp := fun vs H Q _ => ∃ (x y : V) (d : PyData), vs = [x, y] ∧ Dp K H x d ∧ Dp K H y d ∧ Few d ∧ d.depth < n ∧ ∀ H', Same H H' → Q (.bl true) H'
theorem kit2 {t a b : String} {r : Bool} (h : (match kitB t a, kitB t b with | some true, _ => some true | some false, some x => some x | _, _ => none) = some r) (h2 : kitB t b ≠ none) : PySem.W.kitAny K (.type t) [.type a, .type b] = some r := by
  cases ha : kitB t a with
  | none => rw [ha] at h; cases h
  | some x =>
    rw [ha] at h
    cases x with
    | true =>
      have h : some true = some r := h
      cases h
      exact kitAny_cons (kit_ty ha) (fun z => by cases z) fun _ => rfl
    | false =>
      cases hb : kitB t b with
      | none => exact absurd hb h2
      | some y =>
        rw [hb] at h
        have h : some y = some r := h
        cases h
        refine kitAny_cons (kit_ty ha) (fun _ => ?_) fun z => by cases z
        refine kitAny_cons (kit_ty hb) (fun z => ?_) fun z => z
        rw [z]
        exact kitAny_nil
def tTL : TE := tTup (tCons (tC (.ty "tuple")) (tCons (tC (.ty "list")) tNil))
theorem ok_al {f : Addr} {fd : FuncData} {n : Nat} (F : Fun K "_law_alike" "_law_alike" sAl f fd) (G : FnOk P w K mg base CX0 n f fd psAl (spAl K n)) (bG : Binds K fd psAl []) (mG : mg "_law_alike" = some (.ref f)) (B : Bn mg) :
    FnOk P w K mg base CX0 (n + 1) f fd psAl (spAl K (n + 1)) := by
  refine F.ok scAl (fun vs H Q E h => ?_) (fun cdv A outer s H vs Q E hr h => ?_)
  · obtain ⟨x, y, d, rfl, _⟩ := h
    rfl
  · obtain ⟨x, y, d, rfl, hx, hy, hF, hd, q⟩ := h
    refine ⟨_, pss_cons (ps_if (pt_val (pe_callB call_isiT (by rfl) B.isi (by decide +kernel) (pa_cons (pv 1) (pa_cons (pe_tup (pa_cons (pe_bltn (v := .ty "tuple") rfl B.tup (by decide +kernel) rfl) (pa_cons (pe_bltn (v := .ty "list") rfl B.lst (by decide +kernel) rfl) pa_nil))) pa_nil))))
        (pss_cons (ps_if (PW.pt (pw_or (pt_cmpR op_ne (pe_callB call_isi (by rfl) B.isi (by decide +kernel) (pa_cons (pv 0) (pa_cons (pe_bltn (v := .ty "tuple") rfl B.tup (by decide +kernel) rfl) pa_nil))) (pe_callB call_isi (by rfl) B.isi (by decide +kernel) (pa_cons (pv 1) (pa_cons (pe_bltn (v := .ty "tuple") rfl B.tup (by decide +kernel) rfl) pa_nil))) (nomark _))
            (pw_or1 (pt_not (pt_val (pe_callB call_isiT (by rfl) B.isi (by decide +kernel) (pa_cons (pv 0) (pa_cons (pe_tup (pa_cons (pe_bltn (v := .ty "tuple") rfl B.tup (by decide +kernel) rfl) (pa_cons (pe_bltn (v := .ty "list") rfl B.lst (by decide +kernel) rfl) pa_nil))) pa_nil)))))))) (pss_one (ps_ret pe_bl)) pss_nil)
        (pss_cons (ps_if (pt_cmpR op_ne (pe_callB call_len (by rfl) B.len PySem.boot_len (pa_cons (pv 0) pa_nil)) (pe_callB call_len (by rfl) B.len PySem.boot_len (pa_cons (pv 1) pa_nil)) (nomark _)) (pss_one (ps_ret pe_bl)) pss_nil)
        (pss_one (ps_ret (pe_cmpR (op_eqD hr.units) (pe_lc (own := [("_law_k", 3)]) (g := gName 3) (te := tVar 3) (tt := tNot (tB (tCall (spAl K n) [] E0 (tCons (tOp (rIx K) (tVar 0) (tVar 3)) (tCons (tOp (rIx K) (tVar 1) (tVar 3)) tNil))))) rfl scAl.nd
            (pi_range1 rfl B.rng (pa_cons (pe_callB call_len (by rfl) B.len PySem.boot_len (pa_cons (pv 1) pa_nil)) pa_nil))
            (blkOk_by (N := ["_law_found", "_law_due", "_law_same_kind", "_law_k"]) (sc := defScope sAl) (by decide +kernel)) (fun _ _ _ _ _ => pg_name (i := 3) scAl.nd rfl (.inl rfl))
            (fun _ _ _ _ _ => pts_one (pt_not (pt_val (pe_call G hr (by rfl) mG F.kp bG .nil pass0 (pa_cons (pe_ix ix_seq (pv 0) (pv 3) (fun _ _ => rfl)) (pa_cons (pe_ix ix_seq (pv 1) (pv 3) (fun _ _ => rfl)) pa_nil)))))) (fun _ _ _ _ _ => pv 3)) (pe_lst pa_nil) (nomark _)))))) pss_nil)
      (pss_cons (ps_if (PW.pt (pw_or (pt_cmpR op_isN (pv 1) pe_non (nomark _)) (pw_or1 (pt_cmpR op_isN (pv 0) pe_non (nomark _))))) (pss_one (ps_ret (pe_and (pe_cmpR op_isN (pv 1) pe_non (nomark _)) (pe_one (pe_cmpR op_isN (pv 0) pe_non (nomark _)))))) pss_nil)
      (pss_cons (ps_set (i := 2) scAl.nd rfl (.inl rfl) (pe_cmpR op_eq (pe_callB call_isi (by rfl) B.isi (by decide +kernel) (pa_cons (pv 1) (pa_cons (pe_bltn (v := .ty "str") rfl B.str (by decide +kernel) rfl) pa_nil))) (pe_callB call_isi (by rfl) B.isi (by decide +kernel) (pa_cons (pv 0) (pa_cons (pe_bltn (v := .ty "str") rfl B.str (by decide +kernel) rfl) pa_nil))) (nomark _)))
      (pss_one (ps_ret (pe_and (pv 2) (pe_and (pe_cmpR op_eq (pe_callB call_isi (by rfl) B.isi (by decide +kernel) (pa_cons (pv 1) (pa_cons (pe_bltn (v := .ty "bool") rfl B.bool (by decide +kernel) rfl) pa_nil))) (pe_callB call_isi (by rfl) B.isi (by decide +kernel) (pa_cons (pv 0) (pa_cons (pe_bltn (v := .ty "bool") rfl B.bool (by decide +kernel) rfl) pa_nil))) (nomark _))
        (pe_one (pe_cmpR op_eq (pv 0) (pv 1) (nomark _))))))))), ?_⟩
    have clsTL : Paired ClsV [.ty "tuple", .ty "list"] [.type "tuple", .type "list"] := .cons (.ty _) (.cons (.ty _) .nil)
    cases d with
    | none =>
      cases hx
      cases hy
      refine ⟨_, rfl, (by show 2 ≤ sizeLine; decide), fun N hN => ?_⟩
      have sN := same_new hN (.tup [.ty "tuple", .ty "list"])
      refine ⟨_, N, _, .type "NoneType", _, false, rfl, upd_same, clsTL, .base (.non), kit2 (by decide +kernel) (by decide +kernel), false, rfl, iteF ?_⟩
      refine ⟨_, rfl, rfl, _, rfl, iteT ?_⟩
      refine ⟨_, rfl, rfl, _, rfl, iteT ?_⟩
      exact ⟨_, rfl, rfl, q _ sN⟩
    | bool v =>
      cases hx
      cases hy
      refine ⟨_, rfl, (by show 2 ≤ sizeLine; decide), fun N hN => ?_⟩
      have sN := same_new hN (.tup [.ty "tuple", .ty "list"])
      refine ⟨_, N, _, .type "bool", _, false, rfl, upd_same, clsTL, .base (.bl _), kit2 (by decide +kernel) (by decide +kernel), false, rfl, iteF ?_⟩
      have nn : decide (V.bl v = V.non) = false := decide_eq_false (fun z => by cases z)
      refine ⟨_, rfl, rfl, _, rfl, ?_⟩
      rw [nn]
      refine iteF ?_
      refine ⟨_, rfl, rfl, _, rfl, ?_⟩
      rw [nn]
      refine iteF ?_
      refine ⟨_, rfl, _, _, .type "bool", _, false, rfl, ClsV.ty _, .base (.bl _), kit_ty (by decide +kernel), _, rfl, _, _, .type "bool", _, false, rfl, ClsV.ty _, .base (.bl _), kit_ty (by decide +kernel), rfl, ?_⟩
      refine ⟨_, rfl, true, rfl, iteT ?_⟩
      refine ⟨_, rfl, _, _, .type "bool", _, true, rfl, ClsV.ty _, .base (.bl _), kit_ty (by decide +kernel), _, rfl, _, _, .type "bool", _, true, rfl, ClsV.ty _, .base (.bl _), kit_ty (by decide +kernel), rfl, true, rfl, iteT ?_⟩
      refine ⟨_, rfl, _, rfl, rfl, ?_⟩
      rw [decide_eq_true rfl]
      exact q _ sN
    | int v =>
      cases hx
      cases hy
      refine ⟨_, rfl, (by show 2 ≤ sizeLine; decide), fun N hN => ?_⟩
      have sN := same_new hN (.tup [.ty "tuple", .ty "list"])
      refine ⟨_, N, _, .type "int", _, false, rfl, upd_same, clsTL, .base (.int _), kit2 (by decide +kernel) (by decide +kernel), false, rfl, iteF ?_⟩
      have nn : decide (V.int v = V.non) = false := decide_eq_false (fun z => by cases z)
      refine ⟨_, rfl, rfl, _, rfl, ?_⟩
      rw [nn]
      refine iteF ?_
      refine ⟨_, rfl, rfl, _, rfl, ?_⟩
      rw [nn]
      refine iteF ?_
      refine ⟨_, rfl, _, _, .type "int", _, false, rfl, ClsV.ty _, .base (.int _), kit_ty (by decide +kernel), _, rfl, _, _, .type "int", _, false, rfl, ClsV.ty _, .base (.int _), kit_ty (by decide +kernel), rfl, ?_⟩
      refine ⟨_, rfl, true, rfl, iteT ?_⟩
      refine ⟨_, rfl, _, _, .type "int", _, false, rfl, ClsV.ty _, .base (.int _), kit_ty (by decide +kernel), _, rfl, _, _, .type "int", _, false, rfl, ClsV.ty _, .base (.int _), kit_ty (by decide +kernel), rfl, true, rfl, iteT ?_⟩
      refine ⟨_, rfl, _, rfl, rfl, ?_⟩
      rw [decide_eq_true rfl]
      exact q _ sN
    | str v =>
      cases hx
      cases hy
      refine ⟨_, rfl, (by show 2 ≤ sizeLine; decide), fun N hN => ?_⟩
      have sN := same_new hN (.tup [.ty "tuple", .ty "list"])
      refine ⟨_, N, _, .type "str", _, false, rfl, upd_same, clsTL, .base (.str _), kit2 (by decide +kernel) (by decide +kernel), false, rfl, iteF ?_⟩
      have nn : decide (V.str v = V.non) = false := decide_eq_false (fun z => by cases z)
      refine ⟨_, rfl, rfl, _, rfl, ?_⟩
      rw [nn]
      refine iteF ?_
      refine ⟨_, rfl, rfl, _, rfl, ?_⟩
      rw [nn]
      refine iteF ?_
      refine ⟨_, rfl, _, _, .type "str", _, true, rfl, ClsV.ty _, .base (.str _), kit_ty (by decide +kernel), _, rfl, _, _, .type "str", _, true, rfl, ClsV.ty _, .base (.str _), kit_ty (by decide +kernel), rfl, ?_⟩
      refine ⟨_, rfl, true, rfl, iteT ?_⟩
      refine ⟨_, rfl, _, _, .type "str", _, false, rfl, ClsV.ty _, .base (.str _), kit_ty (by decide +kernel), _, rfl, _, _, .type "str", _, false, rfl, ClsV.ty _, .base (.str _), kit_ty (by decide +kernel), rfl, true, rfl, iteT ?_⟩
      refine ⟨_, rfl, _, rfl, rfl, ?_⟩
      rw [decide_eq_true rfl]
      exact q _ sN
    | list ds =>
      cases hx with
      | @lst xa xs _ hxs dx =>
      cases hy with
      | @lst ya ys _ hys dy =>
      cases hF with
      | lst hlen hFs =>
      have lx := dpa_len dx
      have ly := dpa_len dy
      have hd' : PyData.depthAll ds + 1 < n + 1 := hd
      refine ⟨_, rfl, (by show 2 ≤ sizeLine; decide), fun N hN => ?_⟩
      have sN := same_new hN (.tup [.ty "tuple", .ty "list"])
      refine ⟨_, N, _, .type "list", _, true, rfl, upd_same, clsTL, ty_list (Same.seq sN hys), kit2 (by decide +kernel) (by decide +kernel), true, rfl, iteT ?_⟩
      refine ⟨_, rfl, _, _, .type "list", _, false, rfl, ClsV.ty _, ty_list (Same.seq sN hxs), kit_ty (by decide +kernel), _, rfl, _, _, .type "list", _, false, rfl, ClsV.ty _, ty_list (Same.seq sN hys), kit_ty (by decide +kernel), rfl, _, rfl, iteF ?_⟩
      refine ⟨_, rfl, (by show 2 ≤ sizeLine; decide), fun M hM => ?_⟩
      have sM := sN.trans (same_new hM (.tup [.ty "tuple", .ty "list"]))
      refine ⟨_, M, _, .type "list", _, true, rfl, upd_same, clsTL, ty_list (Same.seq sM hxs), kit2 (by decide +kernel) (by decide +kernel), true, rfl, iteF ?_⟩
      refine ⟨_, rfl, _, _, rfl, .inl ⟨_, Same.seq sM hxs, rfl⟩, _, rfl, _, _, rfl, .inl ⟨_, Same.seq sM hys, rfl⟩, rfl, _, rfl, ?_⟩
      rw [lx, ly, decide_eq_true rfl]
      refine iteF ?_
      refine ⟨_, rfl, _, _, rfl, .inl ⟨_, Same.seq sM hys, rfl⟩, _, rfl, by omega, by rw [ly]; omega, fun D hD => ?_⟩
      refine lc_it (walk_range) (fun i H2 => H2 D = some (.lst []) ∧ Same H H2) ?_ (fun _ _ _ _ => trivial) ?_ ?_
      · exact ⟨upd_same, sM.trans (same_new hD _)⟩
      · rintro i v H2 H2' hi ⟨e1, e2⟩ ⟨rfl, rfl⟩
        have hi2 : i < ds.length := by rw [ly] at hi; omega
        obtain ⟨vx, gx, px⟩ := dpa_at dx (List.getElem?_eq_getElem hi2)
        obtain ⟨vy, gy, py⟩ := dpa_at dy (List.getElem?_eq_getElem hi2)
        have hm : ds[i] ∈ ds := List.getElem_mem hi2
        refine ⟨rfl, ?_⟩
        refine ⟨_, rfl, _, rfl, .inl ⟨xa, _, _, _, rfl, rfl, Same.seq e2 hxs, atI_of gx (by omega), ?_⟩⟩
        refine ⟨_, rfl, _, rfl, .inl ⟨ya, _, _, _, rfl, rfl, Same.seq e2 hys, atI_of gy (by omega), ?_⟩⟩
        refine ⟨vx, vy, ds[i], rfl, dp_same e2 px, dp_same e2 py, hFs _ hm, by have := depth_mem hm; omega, fun H3 s3 => ?_⟩
        exact ⟨true, rfl, iteF ⟨s3 _ _ e1, e2.trans s3⟩⟩
      · rintro H2 ⟨e1, e2⟩
        refine ⟨(by show 0 ≤ sizeLine; decide), fun E' hE => ?_⟩
        have sE := same_new hE (.lst [])
        refine ⟨.list [], .list [], .lst (.inl (.inl (sE _ _ e1))) .nil, .lst (.inl (.inl upd_same)) .nil, by decide +kernel, by decide +kernel, ?_⟩
        exact q _ (e2.trans sE)
    | tuple ds =>
      cases hx with
      | @tup xa xs _ hxs dx =>
      cases hy with
      | @tup ya ys _ hys dy =>
      cases hF with
      | tup hlen hFs =>
      have lx := dpa_len dx
      have ly := dpa_len dy
      have hd' : PyData.depthAll ds + 1 < n + 1 := hd
      refine ⟨_, rfl, (by show 2 ≤ sizeLine; decide), fun N hN => ?_⟩
      have sN := same_new hN (.tup [.ty "tuple", .ty "list"])
      refine ⟨_, N, _, .type "tuple", _, true, rfl, upd_same, clsTL, ty_tup (Same.seqT sN hys), kit2 (by decide +kernel) (by decide +kernel), true, rfl, iteT ?_⟩
      refine ⟨_, rfl, _, _, .type "tuple", _, true, rfl, ClsV.ty _, ty_tup (Same.seqT sN hxs), kit_ty (by decide +kernel), _, rfl, _, _, .type "tuple", _, true, rfl, ClsV.ty _, ty_tup (Same.seqT sN hys), kit_ty (by decide +kernel), rfl, _, rfl, iteF ?_⟩
      refine ⟨_, rfl, (by show 2 ≤ sizeLine; decide), fun M hM => ?_⟩
      have sM := sN.trans (same_new hM (.tup [.ty "tuple", .ty "list"]))
      refine ⟨_, M, _, .type "tuple", _, true, rfl, upd_same, clsTL, ty_tup (Same.seqT sM hxs), kit2 (by decide +kernel) (by decide +kernel), true, rfl, iteF ?_⟩
      refine ⟨_, rfl, _, _, rfl, .inr ⟨_, Same.seqT sM hxs, rfl⟩, _, rfl, _, _, rfl, .inr ⟨_, Same.seqT sM hys, rfl⟩, rfl, _, rfl, ?_⟩
      rw [lx, ly, decide_eq_true rfl]
      refine iteF ?_
      refine ⟨_, rfl, _, _, rfl, .inr ⟨_, Same.seqT sM hys, rfl⟩, _, rfl, by omega, by rw [ly]; omega, fun D hD => ?_⟩
      refine lc_it (walk_range) (fun i H2 => H2 D = some (.lst []) ∧ Same H H2) ?_ (fun _ _ _ _ => trivial) ?_ ?_
      · exact ⟨upd_same, sM.trans (same_new hD _)⟩
      · rintro i v H2 H2' hi ⟨e1, e2⟩ ⟨rfl, rfl⟩
        have hi2 : i < ds.length := by rw [ly] at hi; omega
        obtain ⟨vx, gx, px⟩ := dpa_at dx (List.getElem?_eq_getElem hi2)
        obtain ⟨vy, gy, py⟩ := dpa_at dy (List.getElem?_eq_getElem hi2)
        have hm : ds[i] ∈ ds := List.getElem_mem hi2
        refine ⟨rfl, ?_⟩
        refine ⟨_, rfl, _, rfl, .inr (.inl ⟨xa, _, _, _, rfl, rfl, Same.seqT e2 hxs, atI_of gx (by omega), ?_⟩)⟩
        refine ⟨_, rfl, _, rfl, .inr (.inl ⟨ya, _, _, _, rfl, rfl, Same.seqT e2 hys, atI_of gy (by omega), ?_⟩)⟩
        refine ⟨vx, vy, ds[i], rfl, dp_same e2 px, dp_same e2 py, hFs _ hm, by have := depth_mem hm; omega, fun H3 s3 => ?_⟩
        exact ⟨true, rfl, iteF ⟨s3 _ _ e1, e2.trans s3⟩⟩
      · rintro H2 ⟨e1, e2⟩
        refine ⟨(by show 0 ≤ sizeLine; decide), fun E' hE => ?_⟩
        have sE := same_new hE (.lst [])
        refine ⟨.list [], .list [], .lst (.inl (.inl (sE _ _ e1))) .nil, .lst (.inl (.inl upd_same)) .nil, by decide +kernel, by decide +kernel, ?_⟩
        exact q _ (e2.trans sE)
    | dict kvs => cases hF
theorem al_all {f : Addr} {fd : FuncData} (F : Fun K "_law_alike" "_law_alike" sAl f fd) (bG : Binds K fd psAl []) (mG : mg "_law_alike" = some (.ref f)) (B : Bn mg) : ∀ n : Nat, FnOk P w K mg base CX0 n f fd psAl (spAl K n)
  | 0 => by
    have no : ∀ vs H Q E, ¬ spAl K 0 vs H Q E := fun vs H Q E h => by
      obtain ⟨x, y, d, _, _, _, _, hd, _⟩ := h
      exact Nat.not_lt_zero _ hd
    exact ⟨fun vs H Q E h => absurd h (no vs H Q E), fun A outer s H args us vs Q E _ _ _ _ h => absurd h (no vs H Q E)⟩
  | n + 1 => ok_al F (al_all F bG mG B n) bG mG B
end
end Say
namespace Say
open PySem PySem.Spec PyProof.Rows L2
def dkTab : List (Str × V) := [("put", .int 3), ("drop", .int 2), ("move", .int 3), ("learn", .int 3), ("forget", .int 2)]
/-- what the module's dict of sizes holds -/
structure DeedK (K : PySem.W.Frag) (w : World) (mg : Str → Option Value) : Prop where
  sz : ∃ a es n, mg "SIZES" = some (.ref a) ∧ K.lookup a = some ⟨.type "dict", none, .dict es n, #[]⟩ ∧ PySem.W.KeysLit w.params es.toList ∧ ∀ h : Str, KGt K w a h (tabV dkTab h)
def isDeedM (xs : List V) : Bool := match xs with
  | .str z :: r => decide (tabV dkTab z = .int (r.length + 1 : Nat))
  | _ => false
def HeadOk (xs : List V) : Prop := ∀ y r, xs = y :: r → (∃ z, y = .str z) ∨ ∃ i, y = .int i
/-- x is a deed, or none -/
def DV (K : PySem.W.Frag) (H : Hp) (x : V) (b : Bool) : Prop := (∃ a ys, x = .ref a ∧ SqT K H a ys ∧ HeadOk ys ∧ isDeedM ys = b) ∨ (NoTup K H x ∧ b = false)
theorem DV.same {K : PySem.W.Frag} {H H' : Hp} {x : V} {b : Bool} (h : DV K H x b) (s : Same H H') : DV K H' x b := by
  rcases h with ⟨a, ys, h1, h2, h3, h4⟩ | ⟨h1, h2⟩
  · exact .inl ⟨a, ys, h1, Same.seqT s h2, h3, h4⟩
  · exact .inr ⟨h1.same s, h2⟩
section
variable {P : Program} {w : World} {K : PySem.W.Frag} {mg : Str → Option Value} {base : Heap}
abbrev sIsD : Stmt := topS 92
theorem scIsD : FnScope ["deed"] ["deed"] (defScope sIsD) := ⟨rfl, rfl, rfl, by decide +kernel, rfl, by decide +kernel, by decide +kernel⟩
def spIsD (K : PySem.W.Frag) : Sp := fun vs H Q _ => ∃ (v : V) (b : Bool), vs = [v] ∧ DV K H v b ∧ Q (.bl b) H
theorem ok_isD {f : Addr} {fd : FuncData} {k : Nat} (F : Fun K "is_deed" "is_deed" sIsD f fd) (B : Bn mg) (DK : DeedK K w mg) : FnOk P w K mg base CX0 (k + 1) f fd ["deed"] (spIsD K) := by
  obtain ⟨aS, es, n, mS, lS, kS, gS⟩ := DK
  refine F.ok scIsD (fun vs H Q E h => ?_) (fun cdv A outer s H vs Q E hr h => ?_)
  · obtain ⟨v, b, rfl, _⟩ := h
    rfl
  · obtain ⟨v, b, rfl, hv, q⟩ := h
    refine ⟨_, pss_cons (ps_if (PW.pt (pw_or (pt_not (pt_val (pe_callB call_isi (by rfl) B.isi (by decide +kernel) (pa_cons (pv 0) (pa_cons (pe_bltn (v := .ty "tuple") rfl B.tup (by decide +kernel) rfl) pa_nil)))))
          (pw_or (pt_cmpR op_eq (pe_callB call_len (by rfl) B.len PySem.boot_len (pa_cons (pv 0) pa_nil)) pe_int (nomark _))
          (pw_or1 (pt_not (pt_val (pe_callB call_isi (by rfl) B.isi (by decide +kernel) (pa_cons (pe_ix ix_tup (pv 0) pe_int (fun _ _ => rfl)) (pa_cons (pe_bltn (v := .ty "str") rfl B.str (by decide +kernel) rfl) pa_nil))))))))) (pss_one (ps_ret pe_bl)) pss_nil)
      (pss_one (ps_ret (pe_cmpR op_eq (pe_kget (d := aS) lS kS (pe_glob (v := .ref aS) rfl mS rfl) (pe_ix ix_tup (pv 0) pe_int (fun _ _ => rfl)) ⟨rfl, rfl, rfl, rfl⟩) (pe_callB call_len (by rfl) B.len PySem.boot_len (pa_cons (pv 0) pa_nil)) (nomark _)))), ?_⟩
    rcases hv with ⟨a, ys, rfl, ht, hh, rfl⟩ | ⟨hn, rfl⟩
    · refine ⟨_, rfl, _, _, .type "tuple", _, true, rfl, ClsV.ty _, ty_tup ht, kit_ty (by decide +kernel), true, rfl, iteF ?_⟩
      cases ys with
      | nil =>
        refine ⟨_, rfl, _, _, rfl, .inr ⟨_, ht, rfl⟩, rfl, _, rfl, ?_⟩
        exact iteT q
      | cons y r =>
        refine ⟨_, rfl, _, _, rfl, .inr ⟨_, ht, rfl⟩, rfl, _, rfl, ?_⟩
        rw [show decide (V.int (((y :: r).length : Nat) : Int) = V.int 0) = false from decide_eq_false fun z => by
          have := V.int.inj z
          rw [List.length_cons] at this
          omega]
        refine iteF ?_
        rcases hh y r rfl with ⟨z, rfl⟩ | ⟨i, rfl⟩
        · refine ⟨_, rfl, a, _, 0, .str z, rfl, rfl, ht, atI_nat (j := 0) rfl, _, _, .type "str", _, true, rfl, ClsV.ty _, .base (.str _), kit_ty (by decide +kernel), true, rfl, iteF ?_⟩
          refine ⟨rfl, _, rfl, a, _, 0, .str z, rfl, rfl, ht, atI_nat (j := 0) rfl, z, tabV dkTab z, rfl, gS z, ?_⟩
          refine ⟨_, rfl, _, _, rfl, .inr ⟨_, ht, rfl⟩, ?_, q⟩
          unfold tabV
          generalize hf : (dkTab.find? fun kv => kv.1 == z) = o
          cases o with
          | none => rfl
          | some kv =>
            have hm := List.mem_of_find?_eq_some hf
            simp only [dkTab, List.mem_cons, List.not_mem_nil, or_false] at hm
            rcases hm with rfl | rfl | rfl | rfl | rfl <;> rfl
        · refine ⟨_, rfl, a, _, 0, .int i, rfl, rfl, ht, atI_nat (j := 0) rfl, _, _, .type "int", _, false, rfl, ClsV.ty _, .base (.int _), kit_ty (by decide +kernel), false, rfl, iteT ?_⟩
          exact q
    · obtain ⟨t, h1, h2⟩ := hn.ty
      exact ⟨_, rfl, v, _, .type t, _, false, rfl, ClsV.ty _, h1, kit_ty h2, false, rfl, iteT q⟩
abbrev sCd : Stmt := topS 91
abbrev nCd : List Str := ["deeds", "number", "deed"]
theorem scCd : FnScope nCd ["deeds"] (defScope sCd) := ⟨rfl, rfl, rfl, by decide +kernel, rfl, by decide +kernel, by decide +kernel⟩
/-- the list's deeds, by which is one -/
def spCd (K : PySem.W.Frag) (CD : Addr) : Sp := fun vs H Q E => ∃ v, vs = [v] ∧
  ((NoLst K H v ∧ ∀ d H', Same H H' → H d = none → H' d = some (.xd [(("number" : Str), .int 0)]) → E (.ref CD) (some d) H') ∨
   ∃ (D : Addr) (xs : List V) (bs : List Bool), v = .ref D ∧ SqL K H D xs ∧ xs.length ≤ 100 ∧ Paired (DV K H) xs bs ∧
    ((∀ b ∈ bs, b = true) → ∀ H', Same H H' → Q .non H') ∧
    (∀ n : Nat, bs[n]? = some false → (∀ m, m < n → bs[m]? = some true) → ∀ d H', Same H H' → H d = none → H' d = some (.xd [(("number" : Str), .int (n : Nat))]) → E (.ref CD) (some d) H'))
theorem ok_cd {f CD fI : Addr} {fd : FuncData} (F : Fun K "check_deeds" "check_deeds" sCd f fd) (B : Bn mg) (O : PySem.XBadDeed.ExTxt P K mg CD fI) (DI : Df P w K mg base "is_deed" ["deed"] 1 (spIsD K)) : FnOk P w K mg base (L2.CX P w) 2 f fd ["deeds"] (spCd K CD) := by
  obtain ⟨fI, fdI, GI, kI, bI, mI⟩ := DI
  refine F.okX scCd (fun vs H Q E h => ?_) (fun cdv A outer s H vs Q E hr h => ?_)
  · obtain ⟨v, rfl, _⟩ := h
    rfl
  · obtain ⟨v, rfl, h⟩ := h
    have px : PassesOwn (model P w) (A.deeper (envOfC "check_deeds" (defScope sCd) s.heap.objs.size f cdv)) (envOfC "check_deeds" (defScope sCd) s.heap.objs.size f cdv) (cxOf (L2.CX P w) P w K mg base nCd "check_deeds" (defScope sCd) f cdv A outer s H E).xe := PassesOwn.leaving
    refine ⟨_, pss_cons (ps_if (pt_not (pt_val (pe_callB call_isi (by rfl) B.isi (by decide +kernel) (pa_cons (pv 0) (pa_cons (pe_bltn (v := .ty "list") rfl B.lst (by decide +kernel) rfl) pa_nil))))) (pss_one (ps_raiseBadDeed rfl O hr (takes_of rfl rfl rfl rfl) (by exact (pa_cons pe_int pa_nil)))) pss_nil)
      (pss_one (ps_for px rfl (pi_enum (by rfl) B.enu (pa_cons (pv 0) pa_nil)) (pg_tup (by rfl) (pgs_cons (pg_name (i := 1) scCd.nd rfl (.inl rfl)) (pgs_cons (pg_name (i := 2) scCd.nd rfl (.inl rfl)) pgs_nil)))
        (pss_one (ps_if (pt_not (pt_val (pe_call GI hr (by rfl) mI kI bI .nil pass0 (pa_cons (pv 2) pa_nil)))) (pss_one (ps_raiseBadDeed rfl O hr (takes_of rfl rfl rfl rfl) (by exact (pa_cons (pv 1) pa_nil)))) pss_nil)))), ?_⟩
    rcases h with ⟨hn, q⟩ | ⟨D, xs, bs, rfl, hD, h100, hp, q1, q2⟩
    · obtain ⟨t, h1, h2⟩ := hn.ty
      refine ⟨_, rfl, v, _, .type t, _, false, rfl, ClsV.ty _, h1, kit_ty h2, false, rfl, iteT ?_⟩
      exact ⟨0, rfl, ⟨by decide, by decide⟩, fun d hd => q d _ (same_new hd _) hd upd_same⟩
    · refine ⟨_, rfl, _, _, .type "list", _, true, rfl, ClsV.ty _, ty_list hD, kit_ty (by decide +kernel), true, rfl, iteF ?_⟩
      refine ⟨_, rfl, D, _, rfl, hD, for_it (walk_enum (xs := xs)) (fun i σ H2 => Same H H2 ∧ (∃ v1 v2, σ = [some (.ref D), v1, v2]) ∧ ∀ m, m < i → bs[m]? = some true) ⟨Same.refl H, ⟨_, _, rfl⟩, fun m hm => absurd hm (Nat.not_lt_zero m)⟩ (fun i σ H2 _ h => Same.seq h.1 hD) ?_ ?_⟩
      · rintro i x σ H2 H3 hi ⟨s2, ⟨v1, v2, rfl⟩, hb⟩ ⟨t, x1, x2, rfl, ht, rfl, g1, g2⟩
        cases g1
        have g2 : xs[i]? = some x2 := g2
        obtain ⟨b, hbi, hv⟩ := paired_at hp g2
        have sm := same_new ht (.tup [.int (i : Nat), x2])
        refine ⟨t, _, rfl, .inl (.inl upd_same), rfl, _, _, rfl, _, _, rfl, rfl, ?_⟩
        refine ⟨_, rfl, x2, b, rfl, hv.same (s2.trans sm), ?_⟩
        cases b with
        | true =>
          refine ⟨true, rfl, iteF ⟨s2.trans sm, ⟨_, _, rfl⟩, fun m hm => ?_⟩⟩
          rcases Nat.lt_or_eq_of_le (Nat.le_of_lt_succ hm) with h | h
          · exact hb m h
          · rw [h]; exact hbi
        | false =>
          refine ⟨false, rfl, iteT ?_⟩
          exact ⟨_, rfl, (i : Nat), rfl, ⟨by omega, by omega⟩, fun d hd => q2 i hbi hb d _ ((s2.trans sm).trans (same_new hd _)) ((s2.trans sm).free hd) upd_same⟩
      · rintro σ H2 ⟨s2, _, hb⟩
        refine q1 (fun b hbm => ?_) H2 s2
        obtain ⟨m, hm⟩ := List.mem_iff_getElem?.mp hbm
        have := (List.getElem?_eq_some_iff.mp hm).1
        have hl := paired_len hp
        have e := hb m (by omega)
        rw [hm] at e
        exact Option.some.inj e
end
end Say
namespace PySem
namespace UnsX
open PySem.W PySem.Calls PyProof.Rows PySem.HandSPX
/-! ### the text of Unsaid.__init__ -/
abbrev sUns : Stmt := L2.inClass (Say.topS 8) 0
abbrev iA : Arguments := L2.defArgs sUns
abbrev iB : List Stmt := L2.defBody sUns
abbrev iS : Scope := L2.defScope sUns
def eF : Expr := match iB with
  | .Expr (.Call _ (e :: _) _ _) _ :: _ => e
  | _ => .Constant .none 0 ⟨0, 0, 0, 0⟩
theorem eF_eq : ∃ c1 c2 c3 c4, eF = .JoinedStr [.Constant (.str "no rule fits at place ") 0 c1, .FormattedValue (.Name "place" c2) (-1) none c3] c4 := ⟨_, _, _, _, rfl⟩
theorem iS_cell : ∀ y ∈ iS.names, y.2 ≠ .cell := by decide +kernel
/-- what the written part says of Unsaid, at C, and of its __init__, at fI -/
structure UnsTxt (P : Program) (K : Frag) (mg : Str → Option Value) (C fI : Addr) : Prop where
  gC : mg "Unsaid" = some (.ref C)
  sB : mg "super" = none
  cls : ∃ nm q N bs bm sn sub ab col dd k0 k1 k2 k3 k5, K.lookup C = some (excClassObj nm q C N bs bm true sn sub ab col dd k0 k1 k2 k3 k5 "ValueError.__new__") ∧ refsVE bm = true
  sa : findIn K (.ref C) "__setattr__" = some (some (.builtin "object.__setattr__"))
  noP : findIn K (.ref C) "place" = some none
  iC : findIn K (.ref C) "__init__" = some (some (.ref fI))
  tC : typeIn K (.ref fI) = some (.type "function")
  kC : keepIn K (.ref C) = true
  exC : subIn K (.ref C) (.type "BaseException") = some true
  tyC : typeIn K (.ref C) = some (.type "type")
  sup : ks_superIn K C C "__init__" = some (some (.builtin "ValueError.__init__"))
  subV : subIn K (.ref C) (.type "ValueError") = some true
  any : nsIn K cStatics "thirdparty.any" = some none
  main : (P.main.scope.names.lookup ("super" : Str)).isSome = false
  fn : ∃ (oc : Value) (od : Option Addr) (doc pm : Value) (an : Option Addr) (cda cc : Addr) (ct : Value) (osl : Array (Option Value)),
    K.lookup fI = some ⟨oc, od, .func (ksFn "__init__" "Unsaid.__init__" iA iB iS .none .none doc pm an (.ref cda) ct cc), osl⟩ ∧ codeIn K (.ref cda) "Unsaid.__init__" = true ∧
    (∃ cl cld csl, K.lookup cc = some ⟨cl, cld, .cell (some (.ref C)), csl⟩) ∧ ∃ ccl cdd vs ccs file tf, K.lookup cda = some ⟨ccl, cdd, .fields vs, ccs⟩ ∧ vs[2]? = some (.str file tf) ∧ ((P.main.file : Str) == file) = true
/-- what __init__ leaves of a fresh exception at x -/
structure InitEnd (h h' : Heap) (x C dx : Addr) (v : Value) : Prop where
  keep : ∀ b o, b ≠ x → h.get? b = some o → h'.get? b = some o
  obj : ∃ t1 : Addr, h'.get? x = some { cls := .ref C, dict := some dx, data := .fields #[.ref t1, .none, .none, .none, .bool false, .none] }
  dbig : h.objs.size ≤ dx
  dne : dx ≠ x
  ns : h'.Ns1 dx (fun y => if y = "place" then some v else none)
section
variable {prog : Program} {w : World} {A : Around} {E : Value → Shared → Prop} {R : Result → Shared → Prop} {s : Shared} {K : Frag} {mg : Str → Option Value} {C fI : Addr} {base : Heap}
theorem ld {M : Model} {s : Shared} {env : Env} {m : Str → Option Value} {x : Str} {pos : Pos} {v : Value} {Q : Value → Shared → Prop} {A : Around} {E : Value → Shared → Prop} (hn : s.heap.Ns env.locals m) (hv : m x = some v) (h : Q v s)
    (hk : env.scope.kind = .function) (hl : env.kindOf x = some .local) (hd : (x == ("__debug__" : Str)) = false := by decide) :
    wpAny M A (eval (.Name x pos) env) Q E s := wpAny_Name (wpAny_loadName_local hk hl hn hv h) hd
theorem uns_init (T : UnsTxt prog K mg C fI) {x t0 : Addr} {i : Int} {ti : Tok} (B : L2.Mod K mg base) (kb : ∀ b o, base.get? b = some o → s.heap.get? b = some o) (hx : s.heap.get? x = some (excO C t0)) (hnx : base.get? x = none) (hi : i.natAbs.log2 < 1920) (hi2 : (toString i : Str).length ≤ 1000) (hroom : A.depth < recursionLimit)
    (hq : ∀ h' tk dx, InitEnd s.heap h' x C dx (.int i ti) → R (.ok (.ret .none)) { s with heap := h', toks := tk }) :
    codeAny (model prog w) A (.call (.ref fI) ⟨[.ref x, .int i ti], []⟩) R s := by
  obtain ⟨oc, od, doc, pm, an, cda, cc, ct, osl, ho, hcd, ⟨cl, cld, csl, hcell⟩, ccl, cdd, vs, ccs, file, tf, hcode, hvs, hfile⟩ := T.fn
  obtain ⟨nm, q, N, bs, bm, sn, sub, ab, col, dd, k0, k1', k2, k3, k5, hC, hbm⟩ := T.cls
  obtain ⟨hp, g, dr, tk0, os⟩ := s
  have hcl : clsIn K C = some { name := nm, bases := bs, mro := .ref C :: bm, ns := N, qualname := q, hasDict := true, slotNames := sn, subclasses := sub, abstract := ab, collection := col, hasDel := false } := by unfold clsIn; rw [hC] <;> rfl
  have X : K.In hp := B.kin.keeps kb
  have nl : hp.NoLimit := B.nolimit.keeps kb
  refine ks_codeAny_call_defAt (fd := ksFn "__init__" "Unsaid.__init__" iA iB iS .none .none doc pm an (.ref cda) ct cc) (body := iB) (binds := [("self", .ref x), ("place", .int i ti)])
    hroom (X _ _ ho) rfl nl (codeRec_of X hcd) rfl (BindsTo.of_eq (by first | rfl | with_unfolding_all rfl)) iS_cell (fun y hy => ?_) (fun h₀ hns k => ?_)
  · have e : y = (PySem.Str.ofString "self", Value.ref x) ∨ y = (PySem.Str.ofString "place", Value.int i ti) := by simpa using hy
    rcases e with rfl | rfl
    · exact (by decide +kernel : iS.names.lookup (PySem.Str.ofString "self") = some .local)
    · exact (by decide +kernel : iS.names.lookup (PySem.Str.ofString "place") = some .local)
  generalize hL : (Shared.heap ⟨hp, g, dr, tk0, os⟩).objs.size = L at hns ⊢
  have henv : callEnv (ksFn "__init__" "Unsaid.__init__" iA iB iS .none .none doc pm an (.ref cda) ct cc) L fI = ksEnv "Unsaid.__init__" iS L fI (.ref cda) cc := rfl
  rw [henv]
  have X0 : K.In h₀ := X.keeps k
  have hx0 := k _ _ hx
  have kb0 : ∀ b o, base.get? b = some o → h₀.get? b = some o := fun b o e => k b o (kb b o e)
  obtain ⟨oC, hC0, hC1⟩ : ∃ oC, h₀.get? C = some oC ∧ oC.data = .cls { name := nm, bases := bs, mro := .ref C :: bm, ns := N, qualname := q, hasDict := true, slotNames := sn, subclasses := sub, abstract := ab, collection := col, hasDel := false } := ⟨_, X0 _ _ hC, rfl⟩
  have I0 : InstAt h₀ x (excO C t0) C none := ⟨hx0, rfl, rfl, trivial⟩
  obtain ⟨mb, hb1, hb2⟩ := B.blt
  have hxC : x ≠ C := fun z => by
    rw [z, hC0] at hx0
    cases hx0
    cases hC1
  have hsub : mroIn K C (.ref C) = some true := by
    unfold mroIn
    rw [hcl]
    simp
  have nS : iS.names.lookup (PySem.Str.ofString "super") = some .globalImplicit := by decide +kernel
  have nC : iS.names.lookup (PySem.Str.ofString "__class__") = some .free := by decide +kernel
  have nx : iS.names.lookup (PySem.Str.ofString "self") = some .local := by decide +kernel
  have np : iS.names.lookup (PySem.Str.ofString "place") = some .local := by decide +kernel
  have hLx : L ≠ x := by
    rw [← hL]
    exact Nat.ne_of_gt (Heap.lt_size hx)
  refine ks_wpAt_execs_cons (ks_wpAt_Expr_any (ks_wpAt_MethodCall (ks_wpAt_super_base nS nC (by decide +kernel) rfl (X0 _ _ ho) rfl rfl rfl (X0 _ _ hcode) rfl hvs hfile T.main ?_)))
  refine ks_loadName_global rfl nS (loadGlobal_builtin (B.glob.keeps kb0) T.sB (hb1.keeps kb0) ((hb2 _ (by decide +kernel)).trans (by decide +kernel)) ⟨rfl, ?_⟩)
  refine wpAny_loadName_free rfl nC rfl ⟨_, X0 _ _ hcell, rfl⟩ ?_
  refine wpAny_loadName_local rfl nx hns rfl ?_
  refine ks_wpAny_isType_cls hC0 hC1 ⟨rfl, ?_⟩
  refine ks_wpAny_call_super hC0 hC1 hx0 rfl (fun c e => by cases e) (looks_mroIn X0 hsub) (fun h1 e1 k1 => ?_)
  have X1 : K.In h1 := X0.keeps k1
  have hx1 := k1 _ _ hx0
  have I1 : InstAt h1 x (excO C t0) C none := ⟨hx1, rfl, rfl, trivial⟩
  have hf : alongIn K "__init__" (((Value.ref C :: bm).dropWhile (· != .ref C)).drop 1) = some (some (.builtin "ValueError.__init__")) := by
    have := T.sup
    unfold ks_superIn at this
    rw [hcl] at this
    exact this
  refine kxs_getMethod kxs_ValueError e1 (looks_opaque X1 T.any) (l₀ := .ref C :: bm) (fun A Q E s k q => wpAny_bind ((looks_clsIn X1 hcl) A _ E s k (wpAny_pure q))) rfl X1 hf (I1.type.andThen (looks_subIn X1 T.subV)) hxC (by decide +kernel) ?_
  have hu : (h1.push (kxs_mw "ValueError.__init__" x)).get? h1.objs.size = some (kxs_mw "ValueError.__init__" x) := Heap.get?_push_size _ rfl
  have k2' : ∀ b o, h₀.get? b = some o → (h1.push (kxs_mw "ValueError.__init__" x)).get? b = some o := fun b o e => Heap.get?_push_of_some _ (k1 b o e)
  generalize h1.push (kxs_mw "ValueError.__init__" x) = h2 at hu k2' ⊢
  generalize h1.objs.size = u at hu ⊢
  have X2 : K.In h2 := X0.keeps k2'
  have hx2 := k2' _ _ hx0
  have hns2 := hns.keeps k2'
  -- the text that is handed on
  show wpAny _ _ (callWith _ (.ref u) [] _ []) _ _ _
  refine kxs_callWith (i := "ValueError.__init__") (x := x) rfl (evalArgs_plain ?_)
  show wpAny _ _ (spliced ((false, eval eF (ksEnv "Unsaid.__init__" iS L fI (.ref cda) cc)) :: [])) _ _ _
  obtain ⟨c1, c2, c3, c4, eFe⟩ := eF_eq
  rw [eFe]
  refine Calls.spliced_cons (wpAny_JoinedStr ?_)
  refine wpAny_Constant_str ⟨_, _, rfl, by decide +kernel, ?_⟩
  refine wpAny_FormattedValue_plain (ld hns2 rfl ?_ rfl np) 
  have hlen : (Str.empty ++ PySem.Str.ofString "no rule fits at place " ++ (toString i : Str)).length ≤ sizeLine := by
    rw [TL.len_tl, TL.tl_append, List.length_append, ← TL.len_tl, ← TL.len_tl, sizeLine_eq]
    have : (Str.empty ++ PySem.Str.ofString "no rule fits at place ").length = 22 := by decide +kernel
    omega
  refine wpAny_formatField_int hi ⟨_, _, rfl, hlen, ?_⟩
  refine ⟨hlen, ?_⟩
  refine Calls.spliced_nil ⟨hu, ?_⟩
  refine wpAny_call (codeAny_of_tree ?_)
  show wpAny _ _ (callAny (.ref u) ⟨_, []⟩) _ _ _
  simp only [callAny]
  refine wpAny_bind (wpAny_load hu ?_)
  simp only [kxs_mw, show (Value.type "method-wrapper" == Value.type "method" || Value.type "method-wrapper" == Value.type "builtin_function_or_method" || Value.type "method-wrapper" == Value.type "method-wrapper") = true by decide, if_true]
  refine KFB.if_so (by decide) ?_
  refine wpAny_bind (check_bound_init F.excBase_ValueError.toExcCallFacts (X2 _ _ hC) hx2 rfl ?_)
  refine wpAny_bind (wpAny_pure (wpAny_pure ?_))
  refine ⟨plainId_quiet F.excBase_ValueError.init.plain _, codeAny_builtin F.excBase_ValueError.initEntry ?_⟩
  refine exc_init_tree (cls := .ref C) (t0 := t0) (dv := none) (c2 := .none) (c3 := .none) (b4 := .bool false) hx2 (by rw [sizeLine_eq]; show 1 ≤ 16777216; decide) fun h3 k3 e3 _ => ?_
  have k3' : ∀ b o, b ≠ x → h₀.get? b = some o → h3.get? b = some o := fun b o hb e => k3 b o hb (k2' b o e)
  have X3 : K.In h3 := fun b o e => k3' b o (fun z => by
    have := B.kin b o e
    rw [z, hnx] at this
    cases this) (X0 b o e)
  have hns3 : h3.Ns L (fun y => (([("self", Value.ref x), ("place", .int i ti)] : List (Str × Value)).reverse.lookup y)) := hns.at fun o e => k3' L o hLx e
  show wpAt _ _ _ (execs (_ :: []) _) _ _ _
  refine ks_wpAt_execs_cons (ks_wpAt_Assign_Attr (wpAt_of_wpAny (ld hns3 rfl (ld hns3 rfl ?_ rfl nx) rfl np)))
  refine set_plain X3 (ox := excO C h2.objs.size) (od := none) ⟨e3, rfl, rfl, trivial⟩ T.sa ?_
  refine exc_osa X3 e3 hcl (show refsVE (.ref C :: bm) = true from hbm) rfl T.noP (fun h4 tk4 dx k4 dn dne hx4 hn4 => ?_)
  show wpAt _ _ _ (execs [] _) _ _ _
  refine wpAt_of_wpAny (wpAny_execs_nil ?_)
  have big : hp.objs.size ≤ dx := by
    have h1 : L < h3.objs.size := hns3.lt
    have h2 : hp.objs.size = L := hL
    exact Nat.le_trans (Nat.le_of_eq h2) (Nat.le_trans (Nat.le_of_lt h1) dn)
  exact hq h4 _ dx ⟨fun b o hb e => k4 b o hb (k3' b o hb (k b o e)), ⟨_, hx4⟩, big, dne, hn4⟩
end
end UnsX
end PySem
namespace PySem
namespace UnsX
open PySem.W PySem.Calls PyProof.Rows PySem.HandSPX
/-- a made Unsaid -/
structure OwnMade (h h' : Heap) (e C d : Addr) (v : Value) : Prop where
  keep : ∀ b o, h.get? b = some o → h'.get? b = some o
  new : h.objs.size ≤ e
  obj : ∃ oe vs, h'.get? e = some oe ∧ oe.cls = .ref C ∧ oe.dict = some d ∧ oe.data = .fields vs ∧ vs[1]? = some .none
  dbig : h.objs.size ≤ d
  dne : d ≠ e
  ns : h'.Ns1 d (fun y => if y = "place" then some v else none)
theorem one_size (v : Value) : [v].length ≤ sizeLine := by
  rw [sizeLine_eq]
  exact (by decide : 1 ≤ 16777216)
section
variable {prog : Program} {w : World} {A : Around} {E : Value → Shared → Prop} {R : Result → Shared → Prop} {s : Shared} {K : Frag} {mg : Str → Option Value} {C fI : Addr} {base : Heap}
theorem uns_made (T : UnsTxt prog K mg C fI) {i : Int} {ti : Tok} (B : L2.Mod K mg base) (kb : ∀ b o, base.get? b = some o → s.heap.get? b = some o) (hi : i.natAbs.log2 < 1920) (hi2 : (toString i : Str).length ≤ 1000) (hroom : A.depth + 1 < recursionLimit)
    (hq : ∀ h' tk e d, OwnMade s.heap h' e C d (.int i ti) → R (.ok (.ret (.ref e))) { s with heap := h', toks := tk }) :
    codeAny (model prog w) A (.call (.ref C) ⟨[.int i ti], []⟩) R s := by
  obtain ⟨nm, q, N, bs, bm, sn, sub, ab, col, dd, k0, k1, k2, k3, k5, hC, hbm⟩ := T.cls
  have X : K.In s.heap := B.kin.keeps kb
  obtain ⟨hp, g, dr, tk, os⟩ := s
  have k : ∀ b o, hp.get? b = some o → ((hp.push (kdv_tup [.int i ti])).push (excO C hp.objs.size)).get? b = some o := fun b o e => Heap.get?_push_of_some _ (Heap.get?_push_of_some _ e)
  have hget : ((hp.push (kdv_tup [.int i ti])).push (excO C hp.objs.size)).get? (hp.objs.size + 1) = some (excO C hp.objs.size) := by heap_get
  have hnx : base.get? (hp.objs.size + 1) = none := by
    cases e : base.get? (hp.objs.size + 1) with
    | none => rfl
    | some o =>
      have z : hp.get? (hp.objs.size + 1) = some o := kb _ _ e
      exact absurd (Nat.lt_of_succ_lt (Heap.lt_size z)) (Nat.lt_irrefl _)
  refine call_own F.excBase_ValueError (fun X => refsVE_contains X bm hbm) (X _ _ hC) (looks_findIn X T.iC) (fun self => bind_fn X self T.tC) (one_size (.int i ti)) ?_
  refine uns_init (s := ⟨(hp.push (kdv_tup [.int i ti])).push (excO C hp.objs.size), g, dr, tk, os⟩) T B (fun b o e => k b o (kb b o e)) hget hnx hi hi2 ?_ fun h' tk' dx ⟨k', ⟨t1, hx⟩, dn, dne, hns⟩ => ?_
  · show A.depth + 1 < recursionLimit
    exact hroom
  · have old : ∀ b o, hp.get? b = some o → h'.get? b = some o := fun b o e => k' b o (Nat.ne_of_lt (Nat.lt_succ_of_lt (Heap.lt_size e))) (k b o e)
    have z : hp.objs.size + 1 + 1 ≤ dx := by
      first
        | (simpa only [Heap.size_push] using dn)
        | exact dn
        | (have q := dn; rw [Heap.size_push, Heap.size_push] at q; exact q)
    exact ⟨rfl, hq h' tk' (hp.objs.size + 1) dx ⟨old, Nat.le_succ _, ⟨_, _, hx, rfl, rfl, rfl, rfl⟩, Nat.le_trans (Nat.le_trans (Nat.le_succ _) (Nat.le_succ _)) z, dne, hns⟩⟩
end
end UnsX
end PySem
namespace Say
open PySem PySem.Spec PyProof.Rows L2
theorem relO_pl {v : V} {v' : Value} (r : RelV v v') (f : Str) : RelO (List.lookup f [(("place" : Str), v)]) (if f = "place" then some v' else none) := by
  by_cases hw : f = "place"
  · subst hw
    rw [if_pos rfl]
    have q : List.lookup ("place" : Str) [(("place" : Str), v)] = some v := by simp [List.lookup]
    rw [q]
    exact r
  · rw [if_neg hw]
    have qw : (f == ("place" : Str)) = false := by simpa using hw
    have q2 : List.lookup f [(("place" : Str), v)] = none := by simp [List.lookup, qw]
    rw [q2]
    trivial
section
variable {X : Cx} {C fI : Addr}
/-- Unsaid(e) -/
def tMkUns (C : Addr) (ta : TA) : L2.St → Hp → XK → Prop := fun σ H Q => ta σ H fun vs H1 => ∃ p : Nat, vs = [.int p] ∧ p ≤ 100 ∧ ∀ d, H1 d = none → Q (.ref C) (some d) (upd H1 d (.xd [(("place" : Str), .int p)]))
theorem small_num {p : Nat} (h : p ≤ 100) : (p : Int).natAbs.log2 < 1920 ∧ (toString (p : Int) : Str).length ≤ 1000 := by
  have key : ∀ q : Fin 101, ((q.1 : Int)).natAbs.log2 < 1920 ∧ (toString (q.1 : Int) : Str).length ≤ 1000 := by decide +kernel
  exact key ⟨p, by omega⟩
theorem pmk_uns {a : Expr} {ta : TA} {p pos : Pos} {k : Nat} (T : PySem.UnsX.UnsTxt X.prog X.K X.mg C fI) (hr : Room k X.A) (ha : PA X [a] ta) (hg : Gl X "Unsaid" := by rfl)
    (he : starEach (a :: []) X.env = (false, eval a X.env) :: starEach [] X.env := by rfl) (hpl : (backTo pos (starEach [] X.env)).any (·.1) = false := by rfl) :
    PMk X (.Call (.Name "Unsaid" p) [a] [] pos) (tMkUns C ta) := by
  intro pins s σ H Q I h
  unfold tMkUns at h
  refine wpAny_Call_Name_kw (ld_glob I hg T.gC ?_)
  refine PySem.W.callWith_K (h₀ := X.base) I.ok.mod.kin T.kC (thn (ha.run pos pins s σ H _ I h) fun us s1 hh => ?_) he hpl
  obtain ⟨vs, H1, I1, r1, n, ev, hn, q1⟩ := hh
  subst ev
  refine ⟨I1.kIn, ?_⟩
  cases r1 with
  | cons rv rn =>
    rename_i v' us'
    cases rn
    obtain ⟨tv, rfl⟩ := rv
    show wpAny _ _ (call (.ref C) [.int n tv]) _ _ _
    have b1 := I1.mod
    have b2 := I1.bk
    obtain ⟨hp, g, dr, tk, os⟩ := s1
    refine wpAny_call (PySem.UnsX.uns_made T b1 b2 (small_num hn).1 (small_num hn).2 (by have := hr.dp; omega) fun h' tk' e d M => ?_)
    show MkP X pins σ Q (.ref e) ⟨h', g, dr, tk', os⟩
    obtain ⟨oe, fv, hoe, hc, hd, hdat, h1⟩ := M.obj
    have hns := M.ns
    obtain ⟨G', g1, g2⟩ := restrict h' fun b => decide (b ≠ e)
    have gk : ∀ b, b ≠ e → G'.get? b = h'.get? b := fun b hb => g1 b (decide_eq_true hb)
    have ge : G'.get? e = none := g2 e (by simp)
    have old : ∀ b o, hp.get? b = some o → G'.get? b = some o := fun b o q => (gk b (Nat.ne_of_lt (Nat.lt_of_lt_of_le (Heap.lt_size q) M.new))).trans (M.keep b o q)
    have ob : ObjOk X.prog X.w (upd H1 d (.xd [(("place" : Str), .int n)])) G' d (.xd [(("place" : Str), .int n)]) :=
      ⟨_, hns.at (fun o q => (gk d M.dne).trans q), fun f => relO_pl (v := .int n) ⟨tv, rfl⟩ f⟩
    have J : Inv X pins σ (upd H1 d (.xd [(("place" : Str), .int n)])) ⟨G', g, dr, tk', os⟩ := I1.laid (t' := tk') old M.dbig ob
    refine ⟨e, oe, fv, ⟨G', g, dr, tk', os⟩, _, .ref C, some d, rfl, J, fun b o q => ?_, ge, hoe, ⟨hc, hd⟩, hdat, h1, ?_, rfl, I1.bare, raises_own T.exC T.tyC, q1 d (I1.hok.fresh M.dbig)⟩
    · by_cases hb : b = e
      · have q' : G'.get? b = some o := q
        rw [hb, ge] at q'; cases q'
      · exact (gk b hb).symm.trans q
    · rw [upd_ne (Ne.symm M.dne)]
      exact I1.hok.fresh M.new
/-- raise Unsaid(e) -/
def tRaiseUns (C : Addr) (W : WX) (ta : TA) : TS := fun _ σ H => tMkUns C ta σ H fun cls d H' => W cls d σ H'
theorem ps_raiseUns {a : Expr} {ta : TA} {W : WX} {p pos pos2 : Pos} {k : Nat} (hc : X.calm = true) (T : PySem.UnsX.UnsTxt X.prog X.K X.mg C fI) (hr : Room k X.A) (tk : Takes X W) (ha : PA X [a] ta) (hg : Gl X "Unsaid" := by rfl)
    (he : starEach (a :: []) X.env = (false, eval a X.env) :: starEach [] X.env := by rfl) (hpl : (backTo pos (starEach [] X.env)).any (·.1) = false := by rfl) :
    PS X (.Raise (some (.Call (.Name "Unsaid" p) [a] [] pos)) none pos2) (tRaiseUns C W ta) := ps_raise hc tk (pmk_uns T hr ha hg he hpl)
end
end Say
namespace Say
open PySem PySem.Spec PyProof.Rows L2
theorem count_eqU {x : V} : ∀ {xs : List V} {us : List Value}, Vals xs us → xs.all flatV = true → us.countP (eqU x) = xs.countP fun y => eqV y x
  | _, _, .nil, _ => rfl
  | y :: xs, u :: us, .cons r t, f => by
    rw [List.all_cons, Bool.and_eq_true] at f
    have ih := count_eqU (x := x) t f.2
    rw [List.countP_cons, List.countP_cons, ih, eqU_of r f.1]
section
variable {X : Cx}
/-- l.count(y) of plain values -/
def rCntV (K : PySem.W.Frag) : V → List V → Hp → VK → Prop := fun x xs H Q => ∃ (p : Addr) (ys : List V) (y : V), x = .ref p ∧ xs = [y] ∧ SqL K H p ys ∧ flatV y = true ∧ ys.all flatV = true ∧ Q (.int ((ys.countP fun z => eqV z y : Nat) : Int)) H
theorem mt_countV : MtR X "list.count" (rCntV X.K) := by
  intro pins s σ H x xs v us Q I rx rxs h
  obtain ⟨p, ys, y, rfl, rfl, hs, fy, fys, q⟩ := h
  cases rx
  obtain ⟨u, rfl, ru⟩ := rxs.one
  obtain ⟨its, rv, ⟨⟨cls, dd, data, sl⟩, n, ho, hc, hdn, hd⟩, hlen⟩ := I.list hs
  simp only at hc hd
  subst hc hd
  refine call_meets PySem.F.slot_list_count ⟨_, ho, rfl⟩ PySem.F.entry_list_count (PySem.F.args_list_count_2 _ _)
    (SeqAt.list_countAt p its.toArray n dd sl u (eqU y)) ⟨ho, fun u' hu' => mem_eqAt ru fy rv fys u' (by simpa using hu'), ?_⟩
  have ec : its.toArray.toList.countP (eqU y) = ys.countP fun z => eqV z y := count_eqU rv fys
  refine ⟨.int _, H, I.tok _, ⟨s.toks, ?_⟩, q⟩
  rw [ec]
/-- isinstance(e, c), e the caught one, an instance of D with a dict -/
def rIsED (K : PySem.W.Frag) (D a : Addr) (cls : Value) (d : Option Addr) : List V → Hp → VK → Prop := fun xs H Q => ∃ (c : V) (cv : Value) (b : Bool) (dd : Addr) (fs : List (Str × V)), xs = [.ref a, c] ∧ ClsV c cv ∧ cls = .ref D ∧ d = some dd ∧ H dd = some (.xd fs) ∧ PySem.W.kitOne K (.ref D) cv = some b ∧ Q (.bl b) H
theorem call_isED {a D : Addr} {oe : Obj} {cls : Value} {d : Option Addr} {pn : List (Addr × Obj)} (C : ExcC X.K D) (hz : Zc cls d oe) (hf : ∃ vs, oe.data = .fields vs) : CallR (X.suite a ((a, oe) :: pn)) (.builtin "isinstance") (rIsED X.K D a cls d) := by
  intro pins s σ H xs us Q I r h
  obtain ⟨c, cv, b, dd, fs, rfl, hcv, ecl, ed, hH, e, q⟩ := h
  subst ed
  subst ecl
  obtain ⟨u1, u2, rfl, r1, r2⟩ := vals2 r
  cases (show u1 = Value.ref a from r1)
  have ec := hcv.eq r2
  subst ec
  obtain ⟨hget, _⟩ := I.pin (a, oe) (List.mem_append.mpr (.inl List.mem_cons_self))
  obtain ⟨vs, hv⟩ := hf
  have hx : ObjOk X.prog X.w H s.heap dd (.xd fs) := I.hok dd _ hH
  obtain ⟨mA, hns, hr⟩ := hx
  obtain ⟨od, ho, hl⟩ := lookIn_ns hns
  have J : PySem.W.InstAt s.heap a oe D (some od) := ⟨hget, hz.1, by unfold PySem.W.notCls; rw [hv] <;> rfl, by rw [hz.2]; exact ho⟩
  have hcl : (PySem.W.clsIn X.K D).isSome = true := by
    obtain ⟨cd, hc, _⟩ := PySem.W.any_some C.hd
    rw [hc]; rfl
  exact PySem.W.kia_one (PySem.W.kitx_exc hcl C.hg C.hk C.hs C.ha C.hn C.ht C.hm) I.kIn J e (fun z => nomatch z) fun tk => ⟨.bl b, H, I.kept (t' := tk) fun _ _ z => z, rfl, q⟩
/-- what may be known of the caught one's dict -/
def Held (H : Hp) (d : Option Addr) : Prop := d = none ∨ ∃ (dd : Addr) (fs : List (Str × V)), d = some dd ∧ H dd = some (.xd fs)
theorem Held.same {H H' : Hp} {d : Option Addr} (h : Held H d) (e : ∀ b o, H b = some o → H' b = some o) : Held H' d := by
  rcases h with h | ⟨dd, fs, h1, h2⟩
  · exact .inl h
  · exact .inr ⟨dd, fs, h1, e _ _ h2⟩
/-- isinstance(e, c), e the caught one, an instance of D -/
def rIsEA (K : PySem.W.Frag) (D a : Addr) (cls : Value) (d : Option Addr) : List V → Hp → VK → Prop := fun xs H Q => ∃ (c : V) (cv : Value) (b : Bool), xs = [.ref a, c] ∧ ClsV c cv ∧ cls = .ref D ∧ Held H d ∧ PySem.W.kitOne K (.ref D) cv = some b ∧ Q (.bl b) H
theorem call_isEA {a D : Addr} {oe : Obj} {cls : Value} {d : Option Addr} {pn : List (Addr × Obj)} (C : ExcC X.K D) (hz : Zc cls d oe) (hf : ∃ vs, oe.data = .fields vs) : CallR (X.suite a ((a, oe) :: pn)) (.builtin "isinstance") (rIsEA X.K D a cls d) := by
  intro pins s σ H xs us Q I r h
  obtain ⟨c, cv, b, rfl, hcv, ecl, hH, e, q⟩ := h
  subst ecl
  obtain ⟨u1, u2, rfl, r1, r2⟩ := vals2 r
  cases (show u1 = Value.ref a from r1)
  have ec := hcv.eq r2
  subst ec
  obtain ⟨hget, _⟩ := I.pin (a, oe) (List.mem_append.mpr (.inl List.mem_cons_self))
  obtain ⟨vs, hv⟩ := hf
  have hcl : (PySem.W.clsIn X.K D).isSome = true := by
    obtain ⟨cd, hc, _⟩ := PySem.W.any_some C.hd
    rw [hc]; rfl
  obtain ⟨od, J⟩ : ∃ od, PySem.W.InstAt s.heap a oe D od := by
    rcases hH with ed | ⟨dd, fs, ed, hH⟩
    · subst ed
      obtain ⟨oc, od, oda, osl⟩ := oe
      obtain ⟨h1, h2⟩ := hz
      dsimp only at h1 h2 hv
      subst h1 h2 hv
      exact ⟨none, hget, rfl, rfl, trivial⟩
    · subst ed
      have hx : ObjOk X.prog X.w H s.heap dd (.xd fs) := I.hok dd _ hH
      obtain ⟨mA, hns, hr⟩ := hx
      obtain ⟨od, ho, hl⟩ := lookIn_ns hns
      exact ⟨some od, hget, hz.1, by unfold PySem.W.notCls; rw [hv] <;> rfl, by rw [hz.2]; exact ho⟩
  exact PySem.W.kia_one (PySem.W.kitx_exc hcl C.hg C.hk C.hs C.ha C.hn C.ht C.hm) I.kIn J e (fun z => nomatch z) fun tk => ⟨.bl b, H, I.kept (t' := tk) fun _ _ z => z, rfl, q⟩
end
end Say
namespace Say
open PySem PySem.Spec PyProof.Rows L2
/-- what the top says of the classes that are asked for, the caught one's class at CU, the j-th of the twelve -/
structure WordC (K : PySem.W.Frag) (mg : Str → Option Value) (CU : Addr) (j : Nat) : Prop where
  say : ∃ c, mg "SayError" = some (.ref c) ∧ PySem.W.exmOne K (.ref CU) (.ref c) = some true
  book : ∃ c, mg "BadBook" = some (.ref c) ∧ PySem.W.kitOne K (.ref CU) (.ref c) = some (decide (0 = j))
  word : ∃ c, mg "BadWord" = some (.ref c) ∧ PySem.W.kitOne K (.ref CU) (.ref c) = some (decide (1 = j))
  snds : ∃ c, mg "BadSounds" = some (.ref c) ∧ PySem.W.kitOne K (.ref CU) (.ref c) = some (decide (2 = j))
  coun : ∃ c, mg "BadCount" = some (.ref c) ∧ PySem.W.kitOne K (.ref CU) (.ref c) = some (decide (3 = j))
  uns : ∃ c, mg "Unsaid" = some (.ref c) ∧ PySem.W.kitOne K (.ref CU) (.ref c) = some (decide (4 = j))
  lett : ∃ c, mg "NoLetter" = some (.ref c) ∧ PySem.W.kitOne K (.ref CU) (.ref c) = some (decide (5 = j))
  exce : ∃ c, mg "NoException" = some (.ref c) ∧ PySem.W.kitOne K (.ref CU) (.ref c) = some (decide (6 = j))
  othe : ∃ c, mg "OtherLetters" = some (.ref c) ∧ PySem.W.kitOne K (.ref CU) (.ref c) = some (decide (7 = j))
  samp : ∃ c, mg "BadSamples" = some (.ref c) ∧ PySem.W.kitOne K (.ref CU) (.ref c) = some (decide (8 = j))
  deed : ∃ c, mg "BadDeed" = some (.ref c) ∧ PySem.W.kitOne K (.ref CU) (.ref c) = some (decide (9 = j))
  halt : ∃ c, mg "Halted" = some (.ref c) ∧ PySem.W.kitOne K (.ref CU) (.ref c) = some (decide (10 = j))
  text : ∃ c, mg "BadText" = some (.ref c) ∧ PySem.W.kitOne K (.ref CU) (.ref c) = some (decide (11 = j))
  val : mg "ValueError" = none
  kv : PySem.W.kitOne K (.ref CU) (.type "ValueError") = some true
  exc : ExcC K CU
  xf : XfC K CU
  noP : PySem.W.findIn K (.ref CU) "place" = some none
  noN : PySem.W.findIn K (.ref CU) "number" = some none
  noA : PySem.W.findIn K (.ref CU) "part" = some none
  noD : PySem.W.findIn K (.ref CU) "done" = some none
  noR : PySem.W.findIn K (.ref CU) "row" = some none
/-- the name of the j-th -/
def nmJ (j : Nat) : Str := (["book", "word", "sounds", "count", "unsaid", "letter", "exception", "others", "samples", "deed", "halted", "text"] : List Str).getD j ""
def plainJ (j : Nat) : Bool := decide (j = 1) || (decide (j = 2) || (decide (j = 3) || (decide (j = 5) || (decide (j = 6) || decide (j = 7)))))
def toldJ (j : Nat) : Bool := decide (j < 12)
def bsJ (j : Nat) : List V := [.bl (decide (0 = j)), .bl (decide (1 = j)), .bl (decide (2 = j)), .bl (decide (3 = j)), .bl (decide (4 = j)), .bl (decide (5 = j)), .bl (decide (6 = j)), .bl (decide (7 = j)), .bl (decide (8 = j)), .bl (decide (9 = j)), .bl (decide (10 = j)), .bl (decide (11 = j))]
theorem plain_cases {j : Nat} (h : plainJ j = true) : j = 1 ∨ j = 2 ∨ j = 3 ∨ j = 5 ∨ j = 6 ∨ j = 7 := by
  unfold plainJ at h
  simpa using h
theorem told_cases {j : Nat} (h : toldJ j = true) : j = 0 ∨ j = 1 ∨ j = 2 ∨ j = 3 ∨ j = 4 ∨ j = 5 ∨ j = 6 ∨ j = 7 ∨ j = 8 ∨ j = 9 ∨ j = 10 ∨ j = 11 := by
  have h := of_decide_eq_true h
  omega
theorem told_facts {j : Nat} (h : toldJ j = true) : (bsJ j).all flatV = true ∧ ((bsJ j).countP fun z => eqV z (.bl true)) = 1 ∧ (bsJ j)[j]? = some (.bl true) ∧ (∀ (m : Nat) (z : V), m < j → (bsJ j)[m]? = some z → eqV z (.bl true) = false) ∧
    atI ([.str "book", .str "word", .str "sounds", .str "count", .str "unsaid", .str "letter", .str "exception", .str "others", .str "samples", .str "deed"] ++ [.str "halted", .str "text"] : List V) (j : Nat) = some (.str (nmJ j)) := by
  have key : ∀ (m : Nat) (z : V), m < j → (bsJ j)[m]? = some z → eqV z (.bl true) = false := fun m z hm hz => by
    have hj := of_decide_eq_true h
    have hk : ∀ a b : Nat, a ≠ b → eqV (.bl (decide (a = b))) (.bl true) = false := fun a b n => by rw [decide_eq_false n]; rfl
    match m, hm, hz with
    | 0, hm, e => cases e; exact hk _ _ (Nat.ne_of_lt hm)
    | 1, hm, e => cases e; exact hk _ _ (Nat.ne_of_lt hm)
    | 2, hm, e => cases e; exact hk _ _ (Nat.ne_of_lt hm)
    | 3, hm, e => cases e; exact hk _ _ (Nat.ne_of_lt hm)
    | 4, hm, e => cases e; exact hk _ _ (Nat.ne_of_lt hm)
    | 5, hm, e => cases e; exact hk _ _ (Nat.ne_of_lt hm)
    | 6, hm, e => cases e; exact hk _ _ (Nat.ne_of_lt hm)
    | 7, hm, e => cases e; exact hk _ _ (Nat.ne_of_lt hm)
    | 8, hm, e => cases e; exact hk _ _ (Nat.ne_of_lt hm)
    | 9, hm, e => cases e; exact hk _ _ (Nat.ne_of_lt hm)
    | 10, hm, e => cases e; exact hk _ _ (Nat.ne_of_lt hm)
    | 11, hm, e => cases e; exact hk _ _ (Nat.ne_of_lt hm)
    | m + 12, hm, e => omega
  rcases told_cases h with rfl | rfl | rfl | rfl | rfl | rfl | rfl | rfl | rfl | rfl | rfl | rfl
  all_goals exact ⟨rfl, rfl, rfl, key, rfl⟩
theorem plain_facts {j : Nat} (h : plainJ j = true) : nmJ j ≠ "book" ∧ nmJ j ≠ "halted" ∧ nmJ j ≠ "unsaid" ∧ nmJ j ≠ "text" ∧ nmJ j ≠ "samples" ∧ nmJ j ≠ "deed" := by
  rcases plain_cases h with rfl | rfl | rfl | rfl | rfl | rfl
  all_goals exact ⟨by decide +kernel, by decide +kernel, by decide +kernel, by decide +kernel, by decide +kernel, by decide +kernel⟩
/-- a wish that may ask how many slots there are -/
theorem takes_len {X : Cx} {W : WX} {n : Nat} (h : X.N.length = n) (tk : Takes X W) : Takes X (fun cls d σ H => σ.length = n → W cls d σ H) := fun u s' xx => by
  obtain ⟨a, B, sI, pins, σ, H, cls, d, e, I, nb, up, sky, na, os, ag, w⟩ := xx
  exact tk u s' ⟨a, B, sI, pins, σ, H, cls, d, e, I, nb, up, sky, na, os, ag, w (I.len.trans h)⟩
abbrev sLWo : Stmt := topS 120
abbrev nLWo : List Str := ["_law_work", "_law_found", "_law_e", "_law_kinds", "_law_names", "_law_name"]
theorem scLWo : FnScope nLWo ["_law_work"] (defScope sLWo) := ⟨rfl, rfl, rfl, by decide +kernel, rfl, by decide +kernel, by decide +kernel⟩
abbrev suLWo : List Stmt := match defBody sLWo with
  | _ :: .Try _ (.ExceptHandler _ _ b _ :: _) _ _ _ :: _ => b
  | _ => []
section
variable {X : Cx} {g CU : Addr} {cdg : Value} {s : Shared} {H : Hp}
abbrev cxLWo (X : Cx) (g : Addr) (cdg : Value) (s : Shared) (H : Hp) : Cx := (cxOf C8.CX0 X.prog X.w X.K X.mg X.base nLWo "_law_word" (defScope sLWo) g cdg X.A X.stack s H C8.E0).nox
/-- what the caught one is told as -/
def tellsJ (j : Nat) (d : Option Addr) (H : Hp) (R : Hp → Addr → Prop) : Prop :=
  (j = 4 ∧ ∃ (dd : Addr) (p : Nat), d = some dd ∧ H dd = some (.xd [(("place" : Str), .int p)]) ∧ R = fun H2 t => H2 t = some (.tup [.str "unsaid", .int p])) ∨
  (plainJ j = true ∧ Held H d ∧ R = fun H2 t => H2 t = some (.tup [.str (nmJ j), .non])) ∨
  (j = 0 ∧ ∃ (dd : Addr) (p n : Int), d = some dd ∧ H dd = some (.xd [(("number" : Str), .int n), (("part" : Str), .int p)]) ∧ R = fun H2 t => ∃ q, H2 q = some (.tup [.int p, .int n]) ∧ H2 t = some (.tup [.str "book", .ref q])) ∨
  (j = 10 ∧ ∃ (dd : Addr) (n m : Int), d = some dd ∧ H dd = some (.xd [(("done" : Str), .int m), (("number" : Str), .int n)]) ∧ R = fun H2 t => ∃ q, H2 q = some (.tup [.int n, .int m]) ∧ H2 t = some (.tup [.str "halted", .ref q])) ∨
  (j = 11 ∧ ∃ (dd : Addr) (n : Int), d = some dd ∧ H dd = some (.xd [(("row" : Str), .int n)]) ∧ R = fun H2 t => H2 t = some (.tup [.str "text", .int n])) ∨
  ((j = 8 ∨ j = 9) ∧ ∃ (dd : Addr) (n : Int), d = some dd ∧ H dd = some (.xd [(("number" : Str), .int n)]) ∧ R = fun H2 t => H2 t = some (.tup [.str (nmJ j), .int n]))
theorem word_suite {j : Nat} (B : Bn X.mg) (WC : WordC X.K X.mg CU j) (a : Addr) (oe : Obj) (cls : Value) (d : Option Addr) (pn : List (Addr × Obj)) (hz : Zc cls d oe) (hf : ∃ vs, oe.data = .fields vs) : ∃ t : TS,
    PSs ((cxLWo X g cdg s H).suite a ((a, oe) :: pn)) suLWo t ∧
    ∀ (R : Hp → Addr → Prop) (D : Ends) (σ : L2.St) (H1 : Hp), cls = .ref CU → σ.length = 6 → H1 a = none → tellsJ j d H1 R → (∀ (t : Addr) (H2 : Hp), Same H1 H2 → R H2 t → D.rt (.ref t) H2) →
      t D (σ.set 2 (some (.ref a))) H1 := by
  obtain ⟨c1, m1, k1⟩ := WC.book
  obtain ⟨c2, m2, k2⟩ := WC.word
  obtain ⟨c3, m3, k3⟩ := WC.snds
  obtain ⟨c4, m4, k4⟩ := WC.coun
  obtain ⟨c5, m5, k5⟩ := WC.uns
  obtain ⟨c6, m6, k6⟩ := WC.lett
  obtain ⟨c7, m7, k7⟩ := WC.exce
  obtain ⟨c8, m8, k8⟩ := WC.othe
  obtain ⟨c9, m9, k9⟩ := WC.samp
  obtain ⟨c10, m10, k10⟩ := WC.deed
  obtain ⟨c11, m11, k11⟩ := WC.halt
  obtain ⟨c12, m12, k12⟩ := WC.text
  have EC := WC.exc
  have XF := WC.xf
  have isE : CallR ((cxLWo X g cdg s H).suite a ((a, oe) :: pn)) (.builtin "isinstance") (rIsEA X.K CU a cls d) := call_isEA (X := cxLWo X g cdg s H) EC hz hf
  refine ⟨_, pss_cons (ps_set (i := 3) scLWo.nd rfl (.inl rfl) (pe_lst (pa_cons (pe_callB isE (by rfl) B.isi (by decide +kernel) (pa_cons (pv 2) (pa_cons (pe_glob (v := .ref c1) (by rfl) m1 rfl) pa_nil))) (pa_cons (pe_callB isE (by rfl) B.isi (by decide +kernel) (pa_cons (pv 2) (pa_cons (pe_glob (v := .ref c2) (by rfl) m2 rfl) pa_nil)))
        (pa_cons (pe_callB isE (by rfl) B.isi (by decide +kernel) (pa_cons (pv 2) (pa_cons (pe_glob (v := .ref c3) (by rfl) m3 rfl) pa_nil))) (pa_cons (pe_callB isE (by rfl) B.isi (by decide +kernel) (pa_cons (pv 2) (pa_cons (pe_glob (v := .ref c4) (by rfl) m4 rfl) pa_nil))) pa_nil))))))
      (pss_cons (ps_set (i := 3) scLWo.nd rfl (.inl rfl) (pe_op op_cat (pv 3) (pe_lst (pa_cons (pe_callB isE (by rfl) B.isi (by decide +kernel) (pa_cons (pv 2) (pa_cons (pe_glob (v := .ref c5) (by rfl) m5 rfl) pa_nil))) (pa_cons (pe_callB isE (by rfl) B.isi (by decide +kernel) (pa_cons (pv 2) (pa_cons (pe_glob (v := .ref c6) (by rfl) m6 rfl) pa_nil)))
        (pa_cons (pe_callB isE (by rfl) B.isi (by decide +kernel) (pa_cons (pv 2) (pa_cons (pe_glob (v := .ref c7) (by rfl) m7 rfl) pa_nil))) pa_nil))))))
      (pss_cons (ps_set (i := 3) scLWo.nd rfl (.inl rfl) (pe_op op_cat (pv 3) (pe_lst (pa_cons (pe_callB isE (by rfl) B.isi (by decide +kernel) (pa_cons (pv 2) (pa_cons (pe_glob (v := .ref c8) (by rfl) m8 rfl) pa_nil))) (pa_cons (pe_callB isE (by rfl) B.isi (by decide +kernel) (pa_cons (pv 2) (pa_cons (pe_glob (v := .ref c9) (by rfl) m9 rfl) pa_nil)))
        (pa_cons (pe_callB isE (by rfl) B.isi (by decide +kernel) (pa_cons (pv 2) (pa_cons (pe_glob (v := .ref c10) (by rfl) m10 rfl) pa_nil))) pa_nil))))))
      (pss_cons (ps_set (i := 3) scLWo.nd rfl (.inl rfl) (pe_op op_cat (pv 3) (pe_lst (pa_cons (pe_callB isE (by rfl) B.isi (by decide +kernel) (pa_cons (pv 2) (pa_cons (pe_glob (v := .ref c11) (by rfl) m11 rfl) pa_nil))) (pa_cons (pe_callB isE (by rfl) B.isi (by decide +kernel) (pa_cons (pv 2) (pa_cons (pe_glob (v := .ref c12) (by rfl) m12 rfl) pa_nil))) pa_nil)))))
      (pss_cons (ps_set (i := 4) scLWo.nd rfl (.inl rfl) (pe_lst (pa_cons pe_str (pa_cons pe_str (pa_cons pe_str (pa_cons pe_str (pa_cons pe_str (pa_cons pe_str (pa_cons pe_str (pa_cons pe_str (pa_cons pe_str (pa_cons pe_str pa_nil))))))))))))
      (pss_cons (ps_if (PW.pt (pw_or (pt_cmpR op_ne (pe_bm PySem.F.plainAttrs_list PySem.F.slot_list_count PySem.F.type_list_count mt_countV (pv 3) (pa_cons pe_bl pa_nil)) pe_int (nomark _)) (pw_or1 (pt_not (pt_val (pe_callB isE (by rfl) B.isi (by decide +kernel) (pa_cons (pv 2) (pa_cons (pe_bltn (v := .ty "ValueError") (by rfl) WC.val (by decide +kernel) rfl) pa_nil)))))))) (pss_one ps_never) pss_nil)
      (pss_cons (ps_set (i := 5) scLWo.nd rfl (.inl rfl) (pe_ix ix_list (pe_op op_cat (pv 4) (pe_lst (pa_cons pe_str (pa_cons pe_str pa_nil)))) (pe_bm PySem.F.plainAttrs_list PySem.F.slot_list_index PySem.F.type_list_index mt_index (pv 3) (pa_cons pe_bl pa_nil)) (fun _ _ => rfl)))
      (pss_cons (ps_if (pt_cmpR op_eq (pv 5) pe_str (nomark _)) (pss_one (ps_ret (pe_tup (pa_cons (pv 5) (pa_cons (pe_tup (pa_cons (pe_xf XF WC.noA hz hf (pv 2)) (pa_cons (pe_xf XF WC.noN hz hf (pv 2)) pa_nil))) pa_nil))))) pss_nil)
      (pss_cons (ps_if (pt_cmpR op_eq (pv 5) pe_str (nomark _)) (pss_one (ps_ret (pe_tup (pa_cons (pv 5) (pa_cons (pe_tup (pa_cons (pe_xf XF WC.noN hz hf (pv 2)) (pa_cons (pe_xf XF WC.noD hz hf (pv 2)) pa_nil))) pa_nil))))) pss_nil)
      (pss_cons (ps_if (pt_cmpR op_eq (pv 5) pe_str (nomark _)) (pss_one (ps_ret (pe_tup (pa_cons (pv 5) (pa_cons (pe_xf XF WC.noP hz hf (pv 2)) pa_nil))))) pss_nil)
      (pss_cons (ps_if (pt_cmpR op_eq (pv 5) pe_str (nomark _)) (pss_one (ps_ret (pe_tup (pa_cons (pv 5) (pa_cons (pe_xf XF WC.noR hz hf (pv 2)) pa_nil))))) pss_nil)
      (pss_one (ps_ret (pe_ifExp (pt_cmpR op_in_seq (pv 5) (pe_tup (pa_cons pe_str (pa_cons pe_str pa_nil))) rfl) (pe_tup (pa_cons (pv 5) (pa_cons (pe_xf XF WC.noN hz hf (pv 2)) pa_nil))) (pe_tup (pa_cons (pv 5) (pa_cons pe_non pa_nil)))))))))))))))), ?_⟩
  intro R D σ H1 ec hl ha hT q
  obtain ⟨x0, x1, x2, x3, x4, x5, rfl⟩ : ∃ x0 x1 x2 x3 x4 x5, σ = [x0, x1, x2, x3, x4, x5] := by
    rcases σ with _ | ⟨x0, _ | ⟨x1, _ | ⟨x2, _ | ⟨x3, _ | ⟨x4, _ | ⟨x5, _ | ⟨x6, r⟩⟩⟩⟩⟩⟩⟩ <;> simp at hl
    exact ⟨_, _, _, _, _, _, rfl⟩
  show tSeq _ _ _ [x0, x1, some (.ref a), x3, x4, x5] H1
  have fr : ∀ {Hx Hy : Hp} {x y : Addr} {o u : HO}, Hy = upd Hx x o → Hx x = none → Hx y = some u → Hy y = some u := fun e n h => by
    rw [e, upd_ne (ne_of_none h n)]
    exact h
  have hj : toldJ j = true := by
    rcases hT with ⟨rfl, _⟩ | ⟨e, _⟩ | ⟨rfl, _⟩ | ⟨rfl, _⟩ | ⟨rfl, _⟩ | ⟨rfl | rfl, _⟩
    case inr.inl => exact decide_eq_true (by have := plain_cases e; omega)
    all_goals exact decide_eq_true (by decide)
  have hH : Held H1 d := by
    rcases hT with ⟨_, dd, p, e1, e2, _⟩ | ⟨_, e, _⟩ | ⟨_, dd, p, n, e1, e2, _⟩ | ⟨_, dd, p, n, e1, e2, _⟩ | ⟨_, dd, n, e1, e2, _⟩ | ⟨_, dd, n, e1, e2, _⟩
    case inr.inl => exact e
    all_goals exact .inr ⟨dd, _, e1, e2⟩
  obtain ⟨fall, fcnt, fat, fno, fnm⟩ := told_facts hj
  refine ⟨_, rfl, _, _, _, rfl, .own _, ec, hH, k1, _, rfl, _, _, _, rfl, .own _, ec, hH, k2, _, rfl, _, _, _, rfl, .own _, ec, hH, k3, _, rfl, _, _, _, rfl, .own _, ec, hH, k4, ?_⟩
  refine ⟨(by show 4 ≤ sizeLine; decide), fun p1 n1 => ?_⟩
  obtain ⟨H2, e2⟩ : ∃ H2, H2 = upd H1 p1 (.lst [.bl (decide (0 = j)), .bl (decide (1 = j)), .bl (decide (2 = j)), .bl (decide (3 = j))]) := ⟨_, rfl⟩
  have g2 : H2 p1 = some (.lst [.bl (decide (0 = j)), .bl (decide (1 = j)), .bl (decide (2 = j)), .bl (decide (3 = j))]) := by rw [e2]; exact upd_same
  have S2 : Same H1 H2 := by rw [e2]; exact same_new n1 _
  have h2 := hH.same S2
  rw [← e2]
  clear e2
  refine ⟨_, rfl, _, rfl, _, _, _, rfl, .own _, ec, h2, k5, _, rfl, _, _, _, rfl, .own _, ec, h2, k6, _, rfl, _, _, _, rfl, .own _, ec, h2, k7, ?_⟩
  refine ⟨(by show 3 ≤ sizeLine; decide), fun p2 np2 => ?_⟩
  refine ⟨_, _, _, _, rfl, rfl, fr rfl np2 g2, upd_same, (by show 4 + 3 ≤ sizeLine; decide), fun p3 np3 => ?_⟩
  obtain ⟨H3, e3⟩ : ∃ H3, H3 = upd (upd H2 p2 (.lst [.bl (decide (4 = j)), .bl (decide (5 = j)), .bl (decide (6 = j))])) p3 (.lst ([.bl (decide (0 = j)), .bl (decide (1 = j)), .bl (decide (2 = j)), .bl (decide (3 = j))] ++ [.bl (decide (4 = j)), .bl (decide (5 = j)), .bl (decide (6 = j))])) := ⟨_, rfl⟩
  have g3 : H3 p3 = some (.lst [.bl (decide (0 = j)), .bl (decide (1 = j)), .bl (decide (2 = j)), .bl (decide (3 = j)), .bl (decide (4 = j)), .bl (decide (5 = j)), .bl (decide (6 = j))]) := by rw [e3]; exact upd_same
  have S3 : Same H1 H3 := by rw [e3]; exact (S2.trans (same_new np2 _)).trans (same_new np3 _)
  have h3 := hH.same S3
  rw [← e3]
  clear e3
  refine ⟨_, rfl, _, rfl, _, _, _, rfl, .own _, ec, h3, k8, _, rfl, _, _, _, rfl, .own _, ec, h3, k9, _, rfl, _, _, _, rfl, .own _, ec, h3, k10, ?_⟩
  refine ⟨(by show 3 ≤ sizeLine; decide), fun p4 np4 => ?_⟩
  refine ⟨_, _, _, _, rfl, rfl, fr rfl np4 g3, upd_same, (by show 7 + 3 ≤ sizeLine; decide), fun p5 np5 => ?_⟩
  obtain ⟨H4, e4⟩ : ∃ H4, H4 = upd (upd H3 p4 (.lst [.bl (decide (7 = j)), .bl (decide (8 = j)), .bl (decide (9 = j))])) p5 (.lst ([.bl (decide (0 = j)), .bl (decide (1 = j)), .bl (decide (2 = j)), .bl (decide (3 = j)), .bl (decide (4 = j)), .bl (decide (5 = j)), .bl (decide (6 = j))] ++ [.bl (decide (7 = j)), .bl (decide (8 = j)), .bl (decide (9 = j))])) := ⟨_, rfl⟩
  have g4 : H4 p5 = some (.lst [.bl (decide (0 = j)), .bl (decide (1 = j)), .bl (decide (2 = j)), .bl (decide (3 = j)), .bl (decide (4 = j)), .bl (decide (5 = j)), .bl (decide (6 = j)), .bl (decide (7 = j)), .bl (decide (8 = j)), .bl (decide (9 = j))]) := by rw [e4]; exact upd_same
  have S4 : Same H1 H4 := by rw [e4]; exact (S3.trans (same_new np4 _)).trans (same_new np5 _)
  have h4 := hH.same S4
  rw [← e4]
  clear e4
  refine ⟨_, rfl, _, rfl, _, _, _, rfl, .own _, ec, h4, k11, _, rfl, _, _, _, rfl, .own _, ec, h4, k12, ?_⟩
  refine ⟨(by show 2 ≤ sizeLine; decide), fun p6 np6 => ?_⟩
  refine ⟨_, _, _, _, rfl, rfl, fr rfl np6 g4, upd_same, (by show 10 + 2 ≤ sizeLine; decide), fun p7 np7 => ?_⟩
  obtain ⟨H5, e5⟩ : ∃ H5, H5 = upd (upd H4 p6 (.lst [.bl (decide (10 = j)), .bl (decide (11 = j))])) p7 (.lst ([.bl (decide (0 = j)), .bl (decide (1 = j)), .bl (decide (2 = j)), .bl (decide (3 = j)), .bl (decide (4 = j)), .bl (decide (5 = j)), .bl (decide (6 = j)), .bl (decide (7 = j)), .bl (decide (8 = j)), .bl (decide (9 = j))] ++ [.bl (decide (10 = j)), .bl (decide (11 = j))])) := ⟨_, rfl⟩
  have g5 : H5 p7 = some (.lst (bsJ j)) := by rw [e5]; exact upd_same
  have S5 : Same H1 H5 := by rw [e5]; exact (S4.trans (same_new np6 _)).trans (same_new np7 _)
  have h5 := hH.same S5
  rw [← e5]
  clear e5
  refine ⟨(by show 10 ≤ sizeLine; decide), fun p8 n8 => ?_⟩
  obtain ⟨H6, e6⟩ : ∃ H6, H6 = upd H5 p8 (.lst [.str "book", .str "word", .str "sounds", .str "count", .str "unsaid", .str "letter", .str "exception", .str "others", .str "samples", .str "deed"]) := ⟨_, rfl⟩
  have g6 : H6 p8 = some (.lst [.str "book", .str "word", .str "sounds", .str "count", .str "unsaid", .str "letter", .str "exception", .str "others", .str "samples", .str "deed"]) := by rw [e6]; exact upd_same
  have S6 : Same H1 H6 := by rw [e6]; exact S5.trans (same_new n8 _)
  have g6' := fr e6 n8 g5
  have h6 := hH.same S6
  rw [← e6]
  clear e6
  refine ⟨_, rfl, .inl ⟨rfl, _, .inl (.inl g6')⟩, p7, bsJ j, _, rfl, rfl, .inl (.inl g6'), rfl, fall, ?_⟩
  rw [fcnt]
  refine ⟨rfl, _, rfl, iteF ?_⟩
  refine ⟨_, rfl, _, _, _, rfl, .ty _, ec, h6, WC.kv, true, rfl, iteF ?_⟩
  refine ⟨_, rfl, (by show 2 ≤ sizeLine; decide), fun p9 n9 => ?_⟩
  refine ⟨_, _, _, _, rfl, rfl, fr rfl n9 g6, upd_same, (by show 10 + 2 ≤ sizeLine; decide), fun p10 n10 => ?_⟩
  have S69 := (same_new n9 (.lst [.str "halted", .str "text"])).trans (same_new n10 (.lst ([.str "book", .str "word", .str "sounds", .str "count", .str "unsaid", .str "letter", .str "exception", .str "others", .str "samples", .str "deed"] ++ [.str "halted", .str "text"])))
  have S9 := S6.trans S69
  have g9 := S69 _ _ g6'
  refine ⟨_, rfl, .inl ⟨rfl, _, .inl (.inl g9)⟩, p7, bsJ j, _, j, .bl true, rfl, rfl, .inl (.inl g9), rfl, fall, fat, rfl, fno, ?_⟩
  refine ⟨p10, _, _, .str (nmJ j), rfl, rfl, .inl (.inl upd_same), fnm, ?_⟩
  have ne : ∀ {z : Str}, nmJ j ≠ z → decide (V.str (nmJ j) = V.str z) = false := fun h => decide_eq_false fun e => h (V.str.inj e)
  rcases hT with ⟨rfl, dd, p, e1, e2, rfl⟩ | ⟨hp, hHd, rfl⟩ | ⟨rfl, dd, p, n, e1, e2, rfl⟩ | ⟨rfl, dd, n, m, e1, e2, rfl⟩ | ⟨rfl, dd, n, e1, e2, rfl⟩ | ⟨hj, dd, n, e1, e2, rfl⟩
  · refine ⟨_, rfl, rfl, _, rfl, iteF ?_⟩
    refine ⟨_, rfl, rfl, _, rfl, iteF ?_⟩
    refine ⟨_, rfl, rfl, _, rfl, iteT ?_⟩
    have h9 := S9 _ _ e2
    refine ⟨_, rfl, _, rfl, rfl, ec, dd, _, _, e1, h9, by rfl, ?_⟩
    refine ⟨(by show 2 ≤ sizeLine; decide), fun t nt => ?_⟩
    exact q t _ (S9.trans (same_new nt _)) upd_same
  · obtain ⟨f5, f6, f1, f2, f3, f4⟩ := plain_facts hp
    refine ⟨_, rfl, rfl, _, rfl, ?_⟩
    rw [ne f5]
    refine iteF ?_
    refine ⟨_, rfl, rfl, _, rfl, ?_⟩
    rw [ne f6]
    refine iteF ?_
    refine ⟨_, rfl, rfl, _, rfl, ?_⟩
    rw [ne f1]
    refine iteF ?_
    refine ⟨_, rfl, rfl, _, rfl, ?_⟩
    rw [ne f2]
    refine iteF ?_
    refine ⟨_, rfl, (by show 2 ≤ sizeLine; decide), fun p11 n11 => ?_⟩
    have S11 := S9.trans (same_new n11 (.tup [.str "samples", .str "deed"]))
    refine ⟨p11, _, rfl, .inr (.inl (.inl upd_same)), rfl, by rfl, _, rfl, ?_⟩
    have hin : inV (V.str (nmJ j)) [.str "samples", .str "deed"] = false := by
      unfold inV
      simp only [List.any_cons, List.any_nil, Bool.or_false, eqV]
      rw [beq_eq_false_iff_ne.mpr (Ne.symm f3), beq_eq_false_iff_ne.mpr (Ne.symm f4)]
      rfl
    simp only [hin, Bool.false_eq_true, if_false]
    refine ⟨_, rfl, (by show 2 ≤ sizeLine; decide), fun t nt => ?_⟩
    exact q t _ (S11.trans (same_new nt _)) upd_same
  · refine ⟨_, rfl, rfl, _, rfl, iteT ?_⟩
    have h9 := S9 _ _ e2
    refine ⟨_, rfl, _, rfl, rfl, ec, dd, _, _, e1, h9, by rfl, _, rfl, rfl, ec, dd, _, _, e1, h9, by rfl, ?_⟩
    refine ⟨(by show 2 ≤ sizeLine; decide), fun u nu => ⟨(by show 2 ≤ sizeLine; decide), fun t nt => ?_⟩⟩
    have su := same_new nu (.tup [.int p, .int n])
    have st := same_new nt (.tup [.str (nmJ 0), .ref u])
    exact q t _ (S9.trans (su.trans st)) ⟨u, st _ _ upd_same, upd_same⟩
  · refine ⟨_, rfl, rfl, _, rfl, iteF ?_⟩
    refine ⟨_, rfl, rfl, _, rfl, iteT ?_⟩
    have h9 := S9 _ _ e2
    refine ⟨_, rfl, _, rfl, rfl, ec, dd, _, _, e1, h9, by rfl, _, rfl, rfl, ec, dd, _, _, e1, h9, by rfl, ?_⟩
    refine ⟨(by show 2 ≤ sizeLine; decide), fun u nu => ⟨(by show 2 ≤ sizeLine; decide), fun t nt => ?_⟩⟩
    have su := same_new nu (.tup [.int n, .int m])
    have st := same_new nt (.tup [.str (nmJ 10), .ref u])
    exact q t _ (S9.trans (su.trans st)) ⟨u, st _ _ upd_same, upd_same⟩
  · refine ⟨_, rfl, rfl, _, rfl, iteF ?_⟩
    refine ⟨_, rfl, rfl, _, rfl, iteF ?_⟩
    refine ⟨_, rfl, rfl, _, rfl, iteF ?_⟩
    refine ⟨_, rfl, rfl, _, rfl, iteT ?_⟩
    have h9 := S9 _ _ e2
    refine ⟨_, rfl, _, rfl, rfl, ec, dd, _, _, e1, h9, by rfl, ?_⟩
    refine ⟨(by show 2 ≤ sizeLine; decide), fun t nt => ?_⟩
    exact q t _ (S9.trans (same_new nt _)) upd_same
  · have nj : ∀ {z : Str}, (nmJ 8 ≠ z ∧ nmJ 9 ≠ z) → nmJ j ≠ z := fun h => by
      rcases hj with rfl | rfl
      · exact h.1
      · exact h.2
    refine ⟨_, rfl, rfl, _, rfl, ?_⟩
    rw [ne (nj ⟨by decide +kernel, by decide +kernel⟩)]
    refine iteF ?_
    refine ⟨_, rfl, rfl, _, rfl, ?_⟩
    rw [ne (nj ⟨by decide +kernel, by decide +kernel⟩)]
    refine iteF ?_
    refine ⟨_, rfl, rfl, _, rfl, ?_⟩
    rw [ne (nj ⟨by decide +kernel, by decide +kernel⟩)]
    refine iteF ?_
    refine ⟨_, rfl, rfl, _, rfl, ?_⟩
    rw [ne (nj ⟨by decide +kernel, by decide +kernel⟩)]
    refine iteF ?_
    refine ⟨_, rfl, (by show 2 ≤ sizeLine; decide), fun p11 n11 => ?_⟩
    have S11 := S9.trans (same_new n11 (.tup [.str "samples", .str "deed"]))
    refine ⟨p11, _, rfl, .inr (.inl (.inl upd_same)), rfl, by rfl, _, rfl, ?_⟩
    have hin : inV (V.str (nmJ j)) [.str "samples", .str "deed"] = true := by rcases hj with rfl | rfl <;> decide +kernel
    simp only [hin, if_true]
    have h11 := S11 _ _ e2
    refine ⟨_, rfl, _, rfl, rfl, ec, dd, _, _, e1, h11, by rfl, ?_⟩
    refine ⟨(by show 2 ≤ sizeLine; decide), fun t nt => ?_⟩
    exact q t _ (S11.trans (same_new nt _)) upd_same
/-- how it was refused, told -/
def echW (K : PySem.W.Frag) (mg : Str → Option Value) (Q : VK) : XK := fun cls d H' => ∃ (CU : Addr) (j : Nat) (R : Hp → Addr → Prop), WordC K mg CU j ∧ cls = .ref CU ∧ tellsJ j d H' R ∧ ∀ (t : Addr) (H2 : Hp), Same H' H2 → R H2 t → Q (.ref t) H2
/-- _law_word: ("", what is told), or how it was refused -/
def TTw (K : PySem.W.Frag) (mg : Str → Option Value) : (XK → Hp → VK → Prop) → Hp → VK → Prop := fun tl H Q => ∀ D, H D = none → ∀ post : VK,
  (∀ v H', H' D = some (.lst []) → (∀ (t : Addr) (H2 : Hp), Stp D H' H2 → H2 t = some (.tup [.str "", v]) → Q (.ref t) H2) → post v H') → tl (echW K mg Q) (upd H D (.lst [])) post
theorem word_gives {q : Str} (B : Bn X.mg) {cS : Addr} (mS : X.mg "SayError" = some (.ref cS)) : LamX.GivesTo X nLWo "_law_word" (defScope sLWo) g cdg (defBody sLWo) "_law_work" q (TTw X.K X.mg) := by
  intro f c' s H Q tl act hc h
  refine ⟨_, pss_cons (ps_set (i := 1) scLWo.nd rfl (.inl rfl) (pe_lst pa_nil))
    (pss_cons (ps_try_as (X := cxLWo X g cdg s H) (i := 2) (c := .ref cS) (Wout := fun _ _ _ _ => False)
        (tb := fun W D σ H => ∃ Ech : XK, (∀ cls d σ' H', Ech cls d H' → σ'.length = 6 → W cls d σ' H') ∧ tDrop (tBM X.K "list" rAppend (tVar 1) (tCons (fun σZ HZ Q => σZ[0]? = some (some (.ref f)) ∧ HZ c' = some (LamX.CodeO c' q) ∧ tl Ech HZ Q) tNil)) D σ H)
        (ts := fun a' cls d D σ H1 => ∀ oe pn, Zc cls d oe → (∃ vs, oe.data = .fields vs) → ∃ t : TS, PSs ((cxLWo X g cdg s H).suite a' ((a', oe) :: pn)) suLWo t ∧ t D σ H1)
        rfl rfl scLWo.nd rfl rfl ⟨by rfl, by decide, .inl mS⟩ LamX.takes0
        (fun W pn xe tk _ => ?_)
        (fun a oe cls d pn hz hf => ?_))
    (pss_one (ps_ret (pe_tup (pa_cons pe_str (pa_cons (pe_ix ix_list (pv 1) pe_int (fun _ _ => rfl)) pa_nil)))))), ?_⟩
  · refine ⟨fun pins s' σ H' D I h' => ?_⟩
    obtain ⟨Ech, hW, h1⟩ := h'
    have tk6 : Takes ((cxLWo X g cdg s H).tr pn xe) (fun cls d σ H => σ.length = 6 → W cls d σ H) := takes_len rfl tk
    exact (pss_one (ps_expr (pe_bm PySem.F.plainAttrs_list PySem.F.slot_list_append PySem.F.type_list_append mt_append (pv 1) (pa_cons (act (fun cls d σ H => σ.length = 6 → W cls d σ H) pn xe Ech _ _ tk6 hW) pa_nil)))).run pins s' σ H' D I h1
  · refine ⟨fun pins s' σ H' D I h' => ?_⟩
    obtain ⟨t, ht, q1⟩ := h' oe pn hz hf
    exact ht.run pins s' σ H' D I q1
  · refine ⟨(by show 0 ≤ sizeLine; decide), fun D hD => ?_⟩
    refine ⟨echW X.K X.mg Q, fun cls d σ' H' he hl => ?_, _, rfl, .inl ⟨rfl, _, .inl (.inl upd_same)⟩, rfl, by rw [upd_ne (ne_of_none hc hD)]; exact hc, h D hD _ fun v H' hv k => ?_⟩
    · obtain ⟨CU, j, xs, WC, rfl, hT, k⟩ := he
      obtain ⟨c2, e2, xS⟩ := WC.say
      rw [mS] at e2
      cases e2
      refine ⟨true, xS, fun _ a ha oe pn hz hf => ?_, fun z => Bool.noConfusion z⟩
      obtain ⟨t, ht, q1⟩ := word_suite (g := g) (cdg := cdg) (s := s) (H := H) B WC a oe _ _ pn hz hf
      exact ⟨t, ht, q1 xs _ σ' H' rfl hl ha hT k⟩
    · refine ⟨D, _, _, rfl, rfl, hv, (by show 0 < sizeLine; decide), ?_⟩
      refine ⟨_, rfl, D, _, _, v, rfl, rfl, .inl (.inl upd_same), rfl, ?_⟩
      refine ⟨(by show 2 ≤ sizeLine; decide), fun t nt => ?_⟩
      exact k t _ ((stp_at _).trans (.of (same_new nt _))) upd_same
end
end Say
namespace Say
open PySem PySem.Spec PyProof.Rows L2
/-! ### what a lambda's making leaves -/
theorem KT.extN {H H' : Hp} (e : LamX.ExtN H H') : KT H H' := KT.by fun t u h hu => e t _ h (fun ps z => by rcases hu with ⟨_, rfl⟩ | ⟨_, _, rfl⟩ <;> cases z)
theorem RowAt.extN {K : PySem.W.Frag} {H H' : Hp} {r a : Addr} {ns : List Int} (R : RowAt K H r a ns) (e : LamX.ExtN H H') : RowAt K H' r a ns := by
  obtain ⟨⟨i, c, m, q, b⟩, sc, le⟩ := R
  refine ⟨⟨i, c, m, e _ _ q (fun ps z => by cases z), b⟩, ?_, le⟩
  rcases sc with (sc | ⟨o, sc⟩) | sc
  · exact .inl (.inl (e _ _ sc (fun ps z => by cases z)))
  · exact .inl (.inr ⟨o, e _ _ sc (fun ps z => by cases z)⟩)
  · exact .inr sc
theorem tabs_stp {Tt : List (Addr × Str)} {H H' : Hp} {r a : Addr} (t : LamX.Tabs Tt H) (w : RowIn H r a) (e : Stp r H H') : LamX.Tabs Tt H' := fun p hp => by
  obtain ⟨i, c, m, q, _⟩ := w
  obtain ⟨ps, h1, h2, h3⟩ := t p hp
  refine ⟨ps, e _ _ h1 (ne_of h1 q (by intro z; cases z)), h2, fun pos cv hc => ?_⟩
  obtain ⟨c', e1, e2⟩ := h3 pos cv hc
  exact ⟨c', e1, e _ _ e2 (ne_of e2 q (by intro z; unfold LamX.CodeO at z; cases z))⟩
theorem same_fresh {H H' : Hp} {D : Addr} {o : HO} (e : Same H H') (h : H D = none) : Same H (upd H' D o) := fun b u q => by
  rw [upd_ne (ne_of_none q h)]
  exact e b u q
theorem same_stp {H H' H2 : Hp} {D : Addr} (e : Same H H') (h : H D = none) (s : Stp D H' H2) : Same H H2 := fun b u q => s b u (e b u q) (ne_of_none q h)
end Say
namespace Say
open PySem PySem.Spec PyProof.Rows L2
theorem passE {X : Cx} : Passes (L2.CX X.prog X.w) X (fun _ _ _ => False) := fun _ _ _ _ _ _ _ h => by
  obtain ⟨_, _, _, _, _, _, _, _, _, _, _, _, e⟩ := h
  exact e.elim
theorem ExtN.seqL {K : PySem.W.Frag} {H H' : Hp} {a : Addr} {xs : List V} (e : LamX.ExtN H H') (h : SqL K H a xs) : SqL K H' a xs := by
  rcases h with (h | ⟨o, h⟩) | h
  · exact .inl (.inl (e _ _ h (fun ps z => by cases z)))
  · exact .inl (.inr ⟨o, e _ _ h (fun ps z => by cases z)⟩)
  · exact .inr h
theorem ExtN.seqT {K : PySem.W.Frag} {H H' : Hp} {a : Addr} {xs : List V} (e : LamX.ExtN H H') (h : SqT K H a xs) : SqT K H' a xs := by
  rcases h with (h | ⟨o, h⟩) | h
  · exact .inl (.inl (e _ _ h (fun ps z => by cases z)))
  · exact .inl (.inr ⟨o, e _ _ h (fun ps z => by cases z)⟩)
  · exact .inr h
theorem NoTup.extN {K : PySem.W.Frag} {H H' : Hp} {v : V} (h : NoTup K H v) (s : LamX.ExtN H H') : NoTup K H' v := by
  rcases h with h | h | h | ⟨a, xs, h1, h2⟩
  · exact .inl h
  · exact .inr (.inl h)
  · exact .inr (.inr (.inl h))
  · exact .inr (.inr (.inr ⟨a, xs, h1, ExtN.seqL s h2⟩))
theorem NoLst.extN {K : PySem.W.Frag} {H H' : Hp} {v : V} (h : NoLst K H v) (s : LamX.ExtN H H') : NoLst K H' v := by
  rcases h with h | h | h | ⟨a, xs, h1, h2⟩
  · exact .inl h
  · exact .inr (.inl h)
  · exact .inr (.inr (.inl h))
  · exact .inr (.inr (.inr ⟨a, xs, h1, ExtN.seqT s h2⟩))
theorem DV.extN {K : PySem.W.Frag} {H H' : Hp} {x : V} {b : Bool} (h : DV K H x b) (s : LamX.ExtN H H') : DV K H' x b := by
  rcases h with ⟨a, ys, h1, h2, h3, h4⟩ | ⟨h1, h2⟩
  · exact .inl ⟨a, ys, h1, ExtN.seqT s h2, h3, h4⟩
  · exact .inr ⟨h1.extN s, h2⟩
theorem DkAt.extN {C : Addr} {H H' : Hp} {y b t : Addr} {L : List Nat} {rs : List Rule} {es : List Exc} {ws : List Str} {i : Bool} (h : DkAt C H y b t L rs es ws i) (e : LamX.ExtN H H') : DkAt C H' y b t L rs es ws i := by
  obtain ⟨⟨dx, h1⟩, h2, h3⟩ := h
  exact ⟨⟨dx, e _ _ h1 (fun ps z => by cases z)⟩, h2.kt (.extN e), e _ _ h3 (fun ps z => by cases z)⟩
end Say
namespace Say
open PySem PySem.Spec PyProof.Rows L2
theorem RowAt.ktL {K : PySem.W.Frag} {H H' : Hp} {r a D : Addr} {ns : List Int} {xs : List V} (R : RowAt K H r a ns) (h : H D = some (.lst xs)) (n : ∀ l, xs ≠ .ref a :: l) : D ≠ r := fun z => by
  obtain ⟨⟨i, c, m, q, _⟩, _⟩ := R
  rw [z, q] at h
  exact n _ (HO.lst.inj (Option.some.inj h)).symm
theorem NoTup.stp {K : PySem.W.Frag} {H H' : Hp} {v : V} {r a : Addr} {ns : List Int} (h : NoTup K H v) (s : Stp r H H') (R' : RowAt K H' r a ns) : NoTup K H' v := by
  rcases h with h | h | h | ⟨b, xs, h1, h2⟩
  · exact .inl h
  · exact .inr (.inl h)
  · exact .inr (.inr (.inl h))
  · refine .inr (.inr (.inr ?_))
    by_cases e : b = r
    · obtain ⟨⟨i, c, m, q, _⟩, _⟩ := R'
      exact ⟨b, _, h1, .inl (.inl (by rw [e]; exact q))⟩
    · exact ⟨b, xs, h1, Stp.seq s e h2⟩
theorem seqT_stp {K : PySem.W.Frag} {H H' : Hp} {r a b : Addr} {ns : List Int} {xs : List V} (h : SqT K H b xs) (R : RowAt K H r a ns) (s : Stp r H H') : SqT K H' b xs := by
  obtain ⟨⟨i, c, m, q, _⟩, _⟩ := R
  rcases h with (h | ⟨o, h⟩) | h
  · exact .inl (.inl (s _ _ h (ne_of h q (by intro z; cases z))))
  · exact .inl (.inr ⟨o, s _ _ h (ne_of h q (by intro z; cases z))⟩)
  · exact .inr h
theorem NoLst.stp {K : PySem.W.Frag} {H H' : Hp} {v : V} {r a : Addr} {ns : List Int} (h : NoLst K H v) (R : RowAt K H r a ns) (s : Stp r H H') : NoLst K H' v := by
  rcases h with h | h | h | ⟨b, xs, h1, h2⟩
  · exact .inl h
  · exact .inr (.inl h)
  · exact .inr (.inr (.inl h))
  · exact .inr (.inr (.inr ⟨b, xs, h1, seqT_stp h2 R s⟩))
theorem DV.stp {K : PySem.W.Frag} {H H' : Hp} {x : V} {b : Bool} {r a : Addr} {ns : List Int} (h : DV K H x b) (R : RowAt K H r a ns) (s : Stp r H H') (R' : RowAt K H' r a ns) : DV K H' x b := by
  rcases h with ⟨t, ys, h1, h2, h3, h4⟩ | ⟨h1, h2⟩
  · exact .inl ⟨t, ys, h1, seqT_stp h2 R s, h3, h4⟩
  · exact .inr ⟨h1.stp s R', h2⟩
theorem words_ne {ws : List Str} {a : Addr} {l : List V} : wordsV ws ≠ .ref a :: l := by
  cases ws with
  | nil => intro z; cases z
  | cons w r => intro z; cases z
theorem DkAt.stp {K : PySem.W.Frag} {C : Addr} {H H' : Hp} {y b t r a : Addr} {ns : List Int} {L : List Nat} {rs : List Rule} {es : List Exc} {ws : List Str} {i : Bool} (h : DkAt C H y b t L rs es ws i) (R : RowAt K H r a ns) (s : Stp r H H') : DkAt C H' y b t L rs es ws i := by
  have nt := R.ktL (H' := H') h.told (fun l => words_ne)
  have k := R.kt s
  obtain ⟨⟨dx, h1⟩, h2, h3⟩ := h
  obtain ⟨⟨i, c, m, q, _⟩, _⟩ := R
  exact ⟨⟨dx, s _ _ h1 (ne_of h1 q (by intro z; cases z))⟩, h2.kt k, s _ _ h3 nt⟩
theorem tabs_lst {Tt : List (Addr × Str)} {H : Hp} {W : Addr} {l l' : List V} (T : LamX.Tabs Tt H) (h : H W = some (.lst l)) : LamX.Tabs Tt (upd H W (.lst l')) := fun p hp => by
  obtain ⟨ps, h1, h2, h3⟩ := T p hp
  refine ⟨ps, by rw [upd_ne (ne_of h1 h (by intro z; cases z))]; exact h1, h2, fun pos cv hc => ?_⟩
  obtain ⟨c', e1, e2⟩ := h3 pos cv hc
  exact ⟨c', e1, by rw [upd_ne (ne_of e2 h (by intro z; unfold LamX.CodeO at z; cases z))]; exact e2⟩
theorem ext_fresh {H H' : Hp} {W : Addr} {o : HO} (e : LamX.ExtN H H') (h : H W = none) : LamX.ExtN H (upd H' W o) := fun b u hb n => by
  rw [upd_ne (ne_of_none hb h)]
  exact e b u hb n
end Say
namespace Say
open PySem PySem.Spec PyProof.Rows L2
section
variable {P : Program} {w : World} {K : PySem.W.Frag} {mg : Str → Option Value} {base : Heap}
abbrev sTaken : Stmt := topS 112
theorem scTaken : FnScope ["_law_row_here", "_law_many", "_law_found", "_law_cell"] ["_law_row_here", "_law_many"] (defScope sTaken) := ⟨rfl, rfl, rfl, by decide +kernel, rfl, by decide +kernel, by decide +kernel⟩
theorem fmod_in {x n : Int} (h : 0 < n) : 0 ≤ x.fmod n ∧ x.fmod n < n := ⟨Int.fmod_nonneg_of_pos _ h, Int.fmod_lt_of_pos _ h⟩
theorem ok_taken {f : Addr} {fd : FuncData} {k : Nat} (F : Fun K "_law_taken" "_law_taken" sTaken f fd) (ml : mg "len" = none) : FnOk P w K mg base CX0 (k + 1) f fd ["_law_row_here", "_law_many"] (spTaken K) := by
  refine F.ok scTaken (fun vs H Q E h => ?_) (fun cdv A outer s H vs Q E hr h => ?_)
  · obtain ⟨r, a, ns, n, rfl, _⟩ := h
    rfl
  · obtain ⟨r, a, ns, n, rfl, R, h0, h1, q⟩ := h
    obtain ⟨⟨i, c, m, hR, hi, hm0, hm1⟩, hS, hle⟩ := id R
    refine ⟨_, pss_cons (ps_if (pt_cmpR op_gt (pe_ix ix_list (pv 0) pe_int (fun _ _ => rfl)) pe_int (nomark _))
        (pss_cons (ps_set (i := 2) scTaken.nd rfl (.inl rfl) (pe_op op_modN (pe_ix ix_list (pv 0) pe_int (fun _ _ => rfl)) (pv 1)))
        (pss_cons (ps_asg (pe_op op_fdivN (pe_ix ix_list (pv 0) pe_int (fun _ _ => rfl)) (pv 1)) (pg_sub (pv 0) pe_int set_list))
        (pss_one (ps_ret (pv 2))))) pss_nil)
      (pss_cons (ps_if (pt_cmpR op_lt (pe_ix ix_list (pv 0) pe_int (fun _ _ => rfl)) (pe_callB call_len_seq (by rfl) ml PySem.boot_len (pa_cons (pe_ix ix_list (pv 0) pe_int (fun _ _ => rfl)) pa_nil)) (nomark _))
        (pss_cons (ps_set (i := 3) scTaken.nd rfl (.inl rfl) (pe_ix ix_list (pe_ix ix_list (pv 0) pe_int (fun _ _ => rfl)) (pe_ix ix_list (pv 0) pe_int (fun _ _ => rfl)) (fun _ _ => rfl)))
        (pss_cons (ps_asg (pe_op op_add (pe_ix ix_list (pv 0) pe_int (fun _ _ => rfl)) pe_int) (pg_sub (pv 0) pe_int set_list))
        (pss_cons (ps_if (pt_cmpR op_ge (pv 3) (pe_op op_pow pe_int pe_int) (nomark _))
          (pss_one (ps_asg (pe_op op_fdivN (pv 3) (pv 1)) (pg_sub (pv 0) pe_int set_list))) pss_nil)
        (pss_one (ps_ret (pe_op op_modN (pv 3) (pv 1))))))) pss_nil)
      (pss_cons (ps_asg (pe_op op_modN (pe_op op_add (pe_op op_mul (pe_ix ix_list (pv 0) pe_int (fun _ _ => rfl)) pe_int) pe_int) pe_int) (pg_sub (pv 0) pe_int set_list))
      (pss_one (ps_ret (pe_op op_modN (pe_op op_fdivN (pe_ix ix_list (pv 0) pe_int (fun _ _ => rfl)) pe_int) (pv 1)))))), ?_⟩
    have hL : SqL K H r [.ref a, .int i, .int c, .int m] := .inl (.inl hR)
    have gn : n ≠ 0 ∧ n.natAbs < 1073741824 := ⟨by omega, by omega⟩
    -- row[2] > 0
    refine ⟨_, rfl, r, _, 2, .int c, rfl, rfl, hL, atI_nat (j := 2) rfl, _, _, rfl, rfl, _, rfl, ite2 (fun e => ?_) (fun e => ?_)⟩
    · refine ⟨_, rfl, r, _, 2, .int c, rfl, rfl, hL, atI_nat (j := 2) rfl, _, rfl, _, _, rfl, rfl, gn.1, ?_⟩
      refine ⟨_, rfl, r, _, 2, .int c, rfl, rfl, hL, atI_nat (j := 2) rfl, _, rfl, _, _, rfl, rfl, gn, ?_⟩
      refine ⟨_, rfl, r, _, 2, 2, rfl, rfl, hR, rfl, ?_⟩
      refine ⟨_, rfl, ?_⟩
      exact q _ _ (fmod_in h0).1 (fmod_in h0).2 (stp_at _) (R.put hi hm0 hm1)
    -- row[1] < len(row[0])
    refine ⟨_, rfl, r, _, 1, .int i, rfl, rfl, hL, atI_nat (j := 1) rfl, _, rfl, r, _, 0, .ref a, rfl, rfl, hL, atI_nat (j := 0) rfl, a, _, rfl, .inl hS, _, _, rfl, rfl, _, rfl, ite2 (fun e1 => ?_) (fun e1 => ?_)⟩
    · have e2 : i < ((ns.map V.int).length : Int) := of_decide_eq_true e1
      rw [List.length_map] at e2
      have hj : i.toNat < ns.length := by omega
      have gx : (ns.map V.int)[i.toNat]? = some (.int ns[i.toNat]) := by
        rw [List.getElem?_map, List.getElem?_eq_getElem hj]
        rfl
      refine ⟨_, rfl, r, _, 0, .ref a, rfl, rfl, hL, atI_nat (j := 0) rfl, _, rfl, r, _, 1, .int i, rfl, rfl, hL, atI_nat (j := 1) rfl, a, _, i, .int ns[i.toNat], rfl, rfl, hS, at_of (j := i.toNat) (by omega) gx, ?_⟩
      refine ⟨_, rfl, r, _, 1, .int i, rfl, rfl, hL, atI_nat (j := 1) rfl, _, _, rfl, rfl, ?_⟩
      refine ⟨_, rfl, r, _, 1, 1, rfl, rfl, hR, rfl, ?_⟩
      have R1 : RowAt K (upd H r (.lst [.ref a, .int (i + 1), .int c, .int m])) r a ns := R.put (by omega) hm0 hm1
      refine ⟨_, rfl, _, _, rfl, rfl, ⟨by decide, by decide, by decide⟩, _, _, rfl, rfl, _, rfl, ite2 (fun e3 => ?_) (fun e3 => ?_)⟩
      · refine ⟨_, rfl, _, rfl, _, _, rfl, rfl, gn, ?_⟩
        refine ⟨_, rfl, r, _, 2, 2, rfl, rfl, upd_same, rfl, ?_⟩
        refine ⟨_, rfl, _, rfl, _, _, rfl, rfl, gn.1, ?_⟩
        exact q _ _ (fmod_in h0).1 (fmod_in h0).2 ((stp_at _).trans (stp_at _)) (R1.put (by omega) hm0 hm1)
      · refine ⟨_, rfl, _, rfl, _, _, rfl, rfl, gn.1, ?_⟩
        exact q _ _ (fmod_in h0).1 (fmod_in h0).2 (stp_at _) R1
    · refine ⟨_, rfl, r, _, 3, .int m, rfl, rfl, hL, atI_nat (j := 3) rfl, _, _, rfl, rfl, .inl ⟨by omega, by omega⟩, _, _, rfl, rfl, _, _, rfl, rfl, (by show (2147483647 : Int) ≠ 0; decide), ?_⟩
      refine ⟨_, rfl, r, _, 3, 3, rfl, rfl, hR, rfl, ?_⟩
      have b := fmod_in (x := m * 48271 + 12345) (n := 2147483647) (by decide)
      have R1 : RowAt K (upd H r (.lst [.ref a, .int i, .int c, .int ((m * 48271 + 12345).fmod 2147483647)])) r a ns := R.put hi b.1 b.2
      refine ⟨_, rfl, r, _, 3, .int ((m * 48271 + 12345).fmod 2147483647), rfl, rfl, .inl (.inl upd_same), atI_nat (j := 3) rfl, _, _, rfl, rfl, ⟨by decide, by decide⟩, _, rfl, _, _, rfl, rfl, gn.1, ?_⟩
      exact q _ _ (fmod_in h0).1 (fmod_in h0).2 (stp_at _) R1
end
end Say
namespace Say
open PySem PySem.Spec PyProof.Rows L2
def lets : List (List Nat) := [[97, 98], [97, 98, 99], [97, 99], [97, 98, 99, 100]]
section
variable {P : Program} {w : World} {K : PySem.W.Frag} {mg : Str → Option Value} {base : Heap}
abbrev sSide : Stmt := topS 116
theorem scSide : FnScope ["_law_row_here", "_law_letters_here", "_law_sign"] ["_law_row_here", "_law_letters_here"] (defScope sSide) := ⟨rfl, rfl, rfl, by decide +kernel, rfl, by decide +kernel, by decide +kernel⟩
def spSide (K : PySem.W.Frag) : Sp := fun vs H Q _ => ∃ (r a : Addr) (ns : List Int) (L : List Nat), vs = [.ref r, .str (T L)] ∧ RowAt K H r a ns ∧ L.length ≤ 4 ∧
  ∀ (z : List Nat) (H' : Hp), z.Sublist (35 :: L) → Stp r H H' → RowAt K H' r a ns → Q (.str (T z)) H'
theorem ok_side {f : Addr} {fd : FuncData} (F : Fun K "_law_side" "_law_side" sSide f fd) (DT : Df P w K mg base "_law_taken" ["_law_row_here", "_law_many"] 1 (spTaken K)) :
    FnOk P w K mg base CX0 2 f fd ["_law_row_here", "_law_letters_here"] (spSide K) := by
  obtain ⟨fT, fdT, GT, kT, bT, mT⟩ := DT
  refine F.ok scSide (fun vs H Q E h => ?_) (fun cdv A outer s H vs Q E hr h => ?_)
  · obtain ⟨r, a, ns, L, rfl, _⟩ := h
    rfl
  · obtain ⟨r, a, ns, L, rfl, R, hl, q⟩ := h
    refine ⟨_, pss_cons (ps_if (pt_cmpR op_eq (pe_call GT hr (by rfl) mT kT bT .nil pass0 (pa_cons (pv 0) (pa_cons pe_int pa_nil))) pe_int (nomark _)) (pss_one (ps_ret pe_str)) pss_nil)
      (pss_one (ps_ret (pe_join pe_str (pe_lc (own := [("_law_sign", 2)]) (g := gName 2) rfl scSide.nd (pi_str (pe_op op_add_str pe_str (pv 1)))
        (blkOk_by (N := ["_law_row_here", "_law_letters_here", "_law_sign"]) (sc := defScope sSide) (by decide +kernel)) (fun _ _ _ _ _ => pg_name (i := 2) scSide.nd rfl (.inl rfl))
        (fun _ _ _ _ _ => pts_one (pt_cmpR op_eq (pe_call GT hr (by rfl) mT kT bT .nil pass0 (pa_cons (pv 0) (pa_cons pe_int pa_nil))) pe_int (nomark _))) (fun _ _ _ _ _ => pv 2))))), ?_⟩
    refine ⟨_, rfl, r, a, ns, 2, rfl, R, by decide, by decide, fun k1 H1 h0 h1 s1 R1 => ?_⟩
    refine ⟨rfl, _, rfl, ite2 (fun _ => ?_) (fun _ => ?_)⟩
    · have e := q [] H1 (List.nil_sublist _) s1 R1
      exact e
    refine ⟨⟨_, rfl⟩, _, rfl, _, _, rfl, rfl, (by rw [len_hash, T_len]; exact small (by omega)), ?_⟩
    refine ⟨T (35 :: L), congrArg V.str (hash_app L), fun D hD => ?_⟩
    refine lc_it (walk_str) (fun i H2 => ∃ acc : List Nat, H2 D = some (.lst (sg acc)) ∧ acc.Sublist ((35 :: L).take i) ∧ Stp r H1 H2 ∧ RowIn H2 r a) ?_ (fun _ _ _ _ => trivial) ?_ ?_
    · exact ⟨[], upd_same, List.nil_sublist _, Stp.of (same_new hD _), R1.in.upd (R1.nw hD)⟩
    · rintro i x H2 H2' hi ⟨acc, e1, e2, e3, e4⟩ ⟨rfl, c, hc, rfl⟩
      have hc := T_at hc
      have tk := take_next hc
      refine ⟨rfl, _, rfl, r, a, ns, 2, rfl, R1.of e3 e4, by decide, by decide, fun k2 H3 h0 h1 s2 R2 => ?_⟩
      have e1' := s2.one e1 (R1.nw hD)
      refine ⟨rfl, _, rfl, ite2 (fun _ => ?_) (fun _ => ?_)⟩
      · refine ⟨_, rfl, _, e1', ?_, acc ++ [c], ?_, ?_, (e3.trans s2).put hD _, R2.in.upd (R1.nw hD)⟩
        · have := e2.length_le
          rw [sg_len]
          rw [List.length_take, List.length_cons] at this
          exact small1000 (by omega)
        · rw [upd_same]
          exact congrArg (fun l => some (HO.lst l)) (sg_app acc c)
        · rw [tk]
          exact e2.append (List.Sublist.refl [c])
      · refine ⟨acc, e1', ?_, e3.trans s2, R2.in⟩
        rw [tk]
        exact e2.trans (List.sublist_append_left _ _)
    · rintro H2 ⟨acc, e1, e2, e3, e4⟩
      rw [T_size, List.take_length] at e2
      refine ⟨Str.ofString "", D, (acc.map fun c => [c]).map T, rfl, rfl, .inl (.inl (.inl ?_)), ?_, ?_⟩
      · rw [e1, sg_map]
      · rw [sum_ones]
        have := e2.length_le
        rw [List.length_cons] at this
        show acc.length + _ * 0 ≤ _
        omega
      · rw [show Str.ofString "" = T [] from nil_eq, join_nil, map_single]
        exact q acc H2 e2 (s1.trans e3) (R1.of e3 e4)
end
end Say
namespace Say
open PySem PySem.Spec PyProof.Rows L2
section
variable {P : Program} {w : World} {K : PySem.W.Frag} {mg : Str → Option Value} {base : Heap}
abbrev sLetters : Stmt := topS 113
theorem scLetters : FnScope ["_law_row_here"] ["_law_row_here"] (defScope sLetters) := ⟨rfl, rfl, rfl, by decide +kernel, rfl, by decide +kernel, by decide +kernel⟩
def spLetters (K : PySem.W.Frag) : Sp := fun vs H Q _ => ∃ (r a : Addr) (ns : List Int), vs = [.ref r] ∧ RowAt K H r a ns ∧
  ∀ (L : List Nat) (H' : Hp), L ∈ lets → Stp r H H' → RowAt K H' r a ns → Q (.str (T L)) H'
theorem ok_letters {f : Addr} {fd : FuncData} (F : Fun K "_law_letters" "_law_letters" sLetters f fd) (DT : Df P w K mg base "_law_taken" ["_law_row_here", "_law_many"] 1 (spTaken K)) :
    FnOk P w K mg base CX0 2 f fd ["_law_row_here"] (spLetters K) := by
  obtain ⟨fT, fdT, GT, kT, bT, mT⟩ := DT
  refine F.ok scLetters (fun vs H Q E h => ?_) (fun cdv A outer s H vs Q E hr h => ?_)
  · obtain ⟨r, a, ns, rfl, _⟩ := h
    rfl
  · obtain ⟨r, a, ns, rfl, R, q⟩ := h
    refine ⟨_, pss_one (ps_ret (pe_ix ix_list (pe_lst (pa_cons pe_str (pa_cons pe_str (pa_cons pe_str (pa_cons pe_str pa_nil))))) (pe_call GT hr (by rfl) mT kT bT .nil pass0 (pa_cons (pv 0) (pa_cons pe_int pa_nil))) (fun _ _ => rfl))), ?_⟩
    refine ⟨(by show 4 ≤ sizeLine; decide), fun p hp => ?_⟩
    have sm := same_new hp (.lst [V.str "ab", .str "abc", .str "ac", .str "abcd"])
    refine ⟨_, rfl, r, a, ns, 4, rfl, R.stp sm, by decide, by decide, fun k1 H1 h0 h1 s1 R1 => ?_⟩
    have hL : SqL K H1 p [V.str "ab", .str "abc", .str "ac", .str "abcd"] := .inl (.inl (s1 _ _ upd_same (R.nw hp).symm))
    have hk : k1 = 0 ∨ k1 = 1 ∨ k1 = 2 ∨ k1 = 3 := by omega
    rcases hk with e | e | e | e
    · exact ⟨p, _, k1, V.str (T [97, 98]), rfl, rfl, hL, at_of (j := 0) e (by decide +kernel), q _ H1 (by decide) ((Stp.of sm).trans s1) R1⟩
    · exact ⟨p, _, k1, V.str (T [97, 98, 99]), rfl, rfl, hL, at_of (j := 1) e (by decide +kernel), q _ H1 (by decide) ((Stp.of sm).trans s1) R1⟩
    · exact ⟨p, _, k1, V.str (T [97, 99]), rfl, rfl, hL, at_of (j := 2) e (by decide +kernel), q _ H1 (by decide) ((Stp.of sm).trans s1) R1⟩
    · exact ⟨p, _, k1, V.str (T [97, 98, 99, 100]), rfl, rfl, hL, at_of (j := 3) e (by decide +kernel), q _ H1 (by decide) ((Stp.of sm).trans s1) R1⟩
end
end Say
namespace Say
open PySem PySem.Spec PyProof.Rows L2
/-! ### a sign, repeated -/
theorem fold_one (c : Nat) : ∀ (m : Nat) (acc : Array Nat), (List.replicate m #[c]).foldl (· ++ ·) acc = acc ++ (List.replicate m c).toArray
  | 0, acc => by simp
  | m + 1, acc => by
    rw [List.replicate_succ, List.foldl_cons, fold_one c m]
    apply Array.ext'
    simp [List.replicate_succ]
theorem op_repS {X : Cx} : OpR X (binaryOp .Mult) (fun x y H Q => ∃ (c k : Nat), x = .str (T [c]) ∧ y = .int (k : Nat) ∧ 2 ≤ k ∧ k ≤ 100 ∧ Q (.str (T (List.replicate k c))) H) := by
  intro pins s σ H x y v u Q I rx ry h
  obtain ⟨c, k, rfl, rfl, h1, h2, q⟩ := h
  obtain ⟨t, rfl⟩ := rx
  obtain ⟨t', rfl⟩ := ry
  have hlen : (T [c]).length = 1 := T_len [c]
  have hn1 : ¬ ((k : Int) < 1) := by omega
  have hn2 : ((k : Int) == 1 || (T [c]).length == 0) = false := by
    rw [hlen, Bool.or_eq_false_iff]
    exact ⟨beq_false_of_ne (by omega), rfl⟩
  refine PySem.P.mul_str (by rw [decide_eq_false (by omega), decide_eq_false (by omega)]; rfl) (fun _ _ => ?_) (fun _ _ => ?_) ?_
  · rw [hlen]
    have h : (1 : Int) ≤ (2 ^ 63 - 1) / (k : Int) := by
      rw [Int.le_ediv_iff_mul_le (by omega)]
      omega
    exact Int.not_lt.mpr h
  · rw [hlen]
    show Builtin.Str.tooLong (1 * ((k : Int)).toNat) = false
    have : 1 * ((k : Int)).toNat ≤ 100 := by omega
    generalize 1 * ((k : Int)).toNat = m at this
    unfold Builtin.Str.tooLong
    exact decide_eq_false (Nat.not_lt.mpr (small (by omega)))
  · rw [if_neg hn1, if_neg (by rw [hn2]; exact Bool.false_ne_true)]
    have e : (⟨(List.replicate ((k : Int)).toNat (T [c]).cps).foldl (· ++ ·) #[]⟩ : Str) = T (List.replicate k c) := by
      rw [show ((k : Int)).toNat = k from rfl, show (T [c]).cps = #[c] from rfl, fold_one]
      show (⟨#[] ++ (List.replicate k c).toArray⟩ : Str) = ⟨(List.replicate k c).toArray⟩
      rw [Array.empty_append]
    rw [e]
    refine ⟨?_, .str (T (List.replicate k c)), H, I.tok _, ⟨_, rfl⟩, q⟩
    show (T (List.replicate k c)).length ≤ _
    rw [T_len, List.length_replicate]
    exact Nat.le_trans h2 (by decide)
/-- any number of times, none too -/
theorem op_repA {X : Cx} : OpR X (binaryOp .Mult) (fun x y H Q => ∃ (c k : Nat), x = .str (T [c]) ∧ y = .int (k : Nat) ∧ k ≤ 100 ∧ Q (.str (T (List.replicate k c))) H) := by
  intro pins s σ H x y v u Q I rx ry h
  obtain ⟨c, k, rfl, rfl, h2, q⟩ := h
  by_cases h1 : 2 ≤ k
  · exact op_repS pins s σ H _ _ v u Q I rx ry ⟨c, k, rfl, rfl, h1, h2, q⟩
  obtain ⟨t, rfl⟩ := rx
  obtain ⟨t', rfl⟩ := ry
  refine PySem.P.mul_str (by rw [decide_eq_false (by omega), decide_eq_false (by omega)]; rfl) (fun h3 h4 => ?_) (fun h3 h4 => ?_) ?_
  · rw [Bool.or_eq_false_iff] at h4
    have := h4.1
    rw [show (k : Int) = 1 by omega] at this
    cases this
  · rw [Bool.or_eq_false_iff] at h4
    have := h4.1
    rw [show (k : Int) = 1 by omega] at this
    cases this
  · by_cases h0 : k = 0
    · subst h0
      rw [if_pos (by decide)]
      refine ⟨by decide, .str (T []), H, I.tok _, ⟨_, rfl⟩, q⟩
    · have : k = 1 := by omega
      subst this
      rw [if_neg (by decide), if_pos (by rfl)]
      exact ⟨.str (T [c]), H, I, ⟨_, rfl⟩, q⟩
end Say
namespace Say
open PySem PySem.Spec PyProof.Rows L2
section
variable {X : Cx}
/-- tuples of this text: t + u -/
theorem op_catV : OpR X (binaryOp .Add) (fun x y H Q => ∃ a b xs ys, x = .ref a ∧ y = .ref b ∧ H a = some (.tup xs) ∧ H b = some (.tup ys) ∧ xs.length + ys.length ≤ sizeLine ∧ ∀ (p : Addr) (H' : Hp), Same H H' → H' p = some (.tup (xs ++ ys)) → Q (.ref p) H') := by
  intro pins s σ H x y v u Q I rx ry h
  obtain ⟨a, b, xs, ys, e1, e2, ha, hb, hz, q⟩ := h
  refine op_catA pins s σ H x y v u Q I rx ry ⟨a, b, xs, ys, e1, e2, .inl (.inl ha), .inl (.inl hb), hz, fun e => ?_, fun _ e => ?_, fun _ _ p hp => ?_⟩
  · subst e
    exact q b H (Same.refl H) hb
  · subst e
    refine q a H (Same.refl H) ?_
    rw [List.append_nil]
    exact ha
  · exact q p _ (same_new hp _) upd_same
end
end Say
namespace Say
open PySem PySem.Spec PyProof.Rows L2
section
variable {X : Cx}
/-- tuple(xs) of a list: a tuple as it is made -/
theorem call_tupN : CallR X (.type "tuple") (fun xs H Q => ∃ p ys, xs = [.ref p] ∧ SqL X.K H p ys ∧ ∀ (l : Addr) (o : Obj), o.dict = none → H l = none → Q (.ref l) (upd H l (.frz o (.tup ys)))) := by
  intro pins s σ H xs us Q I r h
  obtain ⟨p, ys, rfl, hq, q⟩ := h
  obtain ⟨u, rfl, rx⟩ := vals1 r
  cases rx
  obtain ⟨its, r', pl, hz⟩ := I.list hq
  have hlen := r'.length
  refine call_tuple_list pl.isList (fun h' kp => ?_) (by simp only [List.size_toArray] <;> omega)
  have I1 : Inv X pins σ H { s with heap := h' } := I.kept (t' := s.toks) kp
  have I2 : Inv X pins σ (upd H h'.objs.size (.frz { cls := .type "tuple", data := .seq its.toArray } (.tup ys))) { s with heap := h'.push { cls := .type "tuple", data := .seq its.toArray } } :=
    I1.laid (t' := s.toks) (fun b o e => Heap.get?_push_of_some _ e) (Nat.le_refl _) (show ObjOk X.prog X.w _ _ _ (.frz _ (.tup ys)) from ⟨Heap.get?_push_size _ rfl, hz, its, r', IsTup.new _ _⟩)
  exact ⟨.ref h'.objs.size, _, I2, rfl, q _ _ rfl (I1.hok.fresh (Nat.le_refl _))⟩
theorem pairs_ofT {pins : List (Addr × Obj)} {σ : L2.St} {H : Hp} {s : Shared} (I : L2.Inv X pins σ H s) : ∀ {ps : List Addr} {kvs : List (Key × V)}, Paired (fun p kv => SqT X.K H p [kV kv.1, kv.2]) ps kvs →
    ∃ (prs : List (Key × Value)) (vs : List (Value × Value)), KV kvs prs ∧ prs.length = ps.length ∧ vs.length = ps.length ∧
      ∀ (j : Nat) (k v : Value), vs[j]? = some (k, v) → ∃ (b : Addr) (q : Key), ps[j]? = some b ∧ prs[j]? = some (q, v) ∧ IsTup s.heap b #[k, v] ∧ keyIs q k = true
  | _, _, .nil => ⟨[], [], .nil, rfl, rfl, fun j k v e => by simp at e⟩
  | _, _, .cons (a := p) (b := kv) h t => by
    obtain ⟨prs, vs, r, hl, hl2, hp⟩ := pairs_ofT I t
    obtain ⟨its, rv, ht, _⟩ := I.tuple h
    obtain ⟨u, y, ei, ru, ry⟩ := vals2 rv
    subst ei
    refine ⟨(kv.1, y) :: prs, (u, y) :: vs, .cons ⟨rfl, ry⟩ r, by rw [List.length_cons, List.length_cons, hl], by rw [List.length_cons, List.length_cons, hl2], fun j k v e => ?_⟩
    cases j with
    | zero =>
      have e' : (u, y) = (k, v) := Option.some.inj e
      cases e'
      exact ⟨p, kv.1, rfl, rfl, ht, kV_is (P := X.prog) (w := X.w) ru⟩
    | succ j =>
      obtain ⟨b, q, e1, e2, e3⟩ := hp j k v (by simpa using e)
      exact ⟨b, q, by simpa using e1, by simpa using e2, e3⟩
/-- a display, as it is made -/
def tTupN (t : TA) : TE := fun σ H Q => t σ H fun xs H1 => xs.length ≤ sizeLine ∧ ∀ (p : Addr) (o : Obj), o.dict = none → H1 p = none → Q (.ref p) (upd H1 p (.frz o (.tup xs)))
theorem pe_tupN {es : List Expr} {t : TA} {pos : Pos} {x1} (h : PA X es t) : PE X (.Tuple es x1 pos) (tTupN t) := by
  refine ⟨fun pins s σ H Q I hq => ?_⟩
  refine wpAny_Tuple_spliced (thn (h.run pos pins s σ H _ I hq) fun us s1 ⟨xs, H1, I1, r, z, q⟩ => ⟨by rw [← r.length]; exact z, ?_⟩)
  have hf : H1 s1.heap.objs.size = none := I1.hok.fresh (Nat.le_refl _)
  exact ⟨.ref s1.heap.objs.size, upd H1 s1.heap.objs.size (.frz _ (.tup xs)), I1.laid (t' := s1.toks) (fun b u e => Heap.get?_push_of_some _ e) (Nat.le_refl _) ⟨Heap.get?_push_size _ rfl, z, us, r, ⟨_, Heap.get?_push_size _ rfl, rfl, _, rfl⟩⟩, rfl, q _ _ rfl hf⟩
/-- dict(ps) of such a tuple of pairs -/
theorem call_dictT (hcalm : X.calm = true) : CallR X (.type "dict") (fun xs H Q => ∃ (a : Addr) (ps : List Addr) (kvs : List (Key × V)), xs = [.ref a] ∧ TupN H a (ps.map V.ref) ∧ Paired (fun p kv => SqT X.K H p [kV kv.1, kv.2]) ps kvs ∧
    ∀ p, H p = none → Q (.ref p) (upd H p (.dK (mergeK [] kvs)))) := by
  intro pins s σ H xs us Q I r q
  obtain ⟨a, ps, kvs, ex, hq, hp, q⟩ := q
  subst ex
  obtain ⟨u, eu, rx⟩ := vals1 r
  subst eu
  cases rx
  obtain ⟨o, hH, hd⟩ := hq
  obtain ⟨ho, hz, its, rv, ⟨o', ho', hc, n, hdat⟩⟩ : s.heap.get? a = some o ∧ (ps.map V.ref).length ≤ sizeLine ∧ ∃ its : List Value, Vals (ps.map V.ref) its ∧ IsTup s.heap a its.toArray := I.hok _ _ hH
  have eo : o' = o := Option.some.inj (ho'.symm.trans ho)
  subst eo
  have ei := refs_at rv
  subst ei
  rw [List.length_map] at hz
  obtain ⟨prs, vs, rel, hl, hl2, hpr⟩ := pairs_ofT I hp
  refine PySem.call_dict_pairs (knd := mixKind X.prog X.w) (kvs := prs) (PySem.PairArg.tuple a (ps.map Value.ref).toArray (fun j => (ps[j]?).getD 0) vs) (I.ok.hd hcalm) ⟨⟨o', n, ho, hc, hd, hdat⟩, by simp [hl2], fun j k v e => ?_⟩ ⟨by rw [hl, hl2], fun j k v e => ?_⟩ (by rw [hl2]; exact hz) fun h' tk hd' k => ?_
  · obtain ⟨b, q', e1, _, e3, _⟩ := hpr j k v e
    refine ⟨by simp [e1], .inl ?_⟩
    show s.heap.IsTuple ((ps[j]?).getD 0) _
    rw [e1]
    exact e3
  · obtain ⟨b, q', e1, e2, _, e4⟩ := hpr j k v e
    exact ⟨q', e2, e4⟩
  · have hm : (s.heap.objs.size == sysModules) = false := beq_eq_false_iff_ne.mpr (Nat.ne_of_gt I.big)
    have hlen : (mergeK [] kvs).length ≤ sizeLine := by
      refine Nat.le_trans (length_mergeK kvs []) ?_
      rw [List.length_nil, Nat.zero_add, rel.length, hl]
      exact hz
    have k' : ∀ b o, s.heap.get? b = some o → h'.get? b = some o := fun b o e => k b o (by simp) e
    exact ⟨.ref s.heap.objs.size, upd H s.heap.objs.size (.dK (mergeK [] kvs)), I.laid (t' := tk) k' (Nat.le_refl _) (show ObjOk X.prog X.w _ _ _ (.dK (mergeK [] kvs)) from ⟨hlen, hm, merged [] prs, KV.merge rel .nil, hd'⟩), rfl, q _ (I.hok.fresh (Nat.le_refl _))⟩
end
end Say
namespace Say
open PySem PySem.Spec PyProof.Rows L2
section
variable {X : Cx}
/-- t[lo:hi] of a tuple, as it is made: t itself where it is the whole -/
def rSlN (K : PySem.W.Frag) : V → Option Int → Option Int → Hp → VK → Prop := fun x lo hi H Q => ∃ a xs, x = .ref a ∧ SqT K H a xs ∧
  (HT.sIx xs.length 0 lo = 0 ∧ HT.sIx xs.length xs.length hi = xs.length → Q (.ref a) H) ∧ (¬ (HT.sIx xs.length 0 lo = 0 ∧ HT.sIx xs.length xs.length hi = xs.length) → ∀ (p : Addr) (o : Obj), o.dict = none → H p = none → Q (.ref p) (upd H p (.frz o (.tup (cutV xs lo hi)))))
theorem sl_tupN : SlR X (rSlN X.K) := by
  intro pins s σ H x v vl vu lo hi sl Q I rx hs pl pu h
  obtain ⟨a, xs, rfl, hx, q1, q2⟩ := h
  cases rx
  obtain ⟨its, r, ht, hz⟩ := I.tuple hx
  have hlen : its.toArray.size = xs.length := by rw [List.size_toArray]; exact r.length.symm
  refine ⟨"tuple", _, PyProof.Rows.slot_tuple_getitem.lookup, ht.typeIs, ?_⟩
  by_cases hw : HT.sIx xs.length 0 lo = 0 ∧ HT.sIx xs.length xs.length hi = xs.length
  · exact getItem_tuple_whole ht hs pl pu (by rw [hlen]; exact hw) ⟨.ref a, H, I, rfl, q1 hw⟩
  · refine HT.getItem_tuple_cut ht hs pl pu (by rw [hlen]; exact hw) ?_ (by rw [hlen]; exact hz)
    rw [hlen]
    have rr := (r.drop (HT.sIx xs.length 0 lo)).take (HT.sIx xs.length xs.length hi - HT.sIx xs.length 0 lo)
    exact ⟨.ref s.heap.objs.size, _, I.laid (t' := s.toks) (fun b ob e => Heap.get?_push_of_some _ e) (Nat.le_refl _) (show ObjOk X.prog X.w _ _ _ (.frz _ (.tup (cutV xs lo hi))) from ⟨Heap.get?_push_size _ rfl, Nat.le_trans (cutV_length xs lo hi) hz, _, rr, IsTup.new _ _⟩), rfl, q2 hw _ _ rfl (I.hok.fresh (Nat.le_refl _))⟩
/-- t[lo:hi] of a tuple as it was made, whatever is cut -/
theorem sl_tupQ : SlR X (fun x lo hi H Q => ∃ a xs, x = .ref a ∧ TupN H a xs ∧ ∀ (p : Addr) (H' : Hp), (∀ b o, H b = some o → H' b = some o) → TupN H' p (cutV xs lo hi) → Q (.ref p) H') := by
  intro pins s σ H x v vl vu lo hi sl Q I rx hs pl pu h
  obtain ⟨a, xs, e, ha, q⟩ := h
  refine sl_tupN pins s σ H x v vl vu lo hi sl Q I rx hs pl pu ⟨a, xs, e, .inl (.inr ⟨_, ha.choose_spec.1⟩), fun hw => ?_, fun hw p o ho hp => ?_⟩
  · refine q a H (fun _ _ h => h) ?_
    have : cutV xs lo hi = xs := by
      unfold cutV
      rw [hw.1, hw.2, List.drop_zero, Nat.sub_zero, List.take_length]
    rw [this]
    exact ha
  · refine q p _ (fun b u hb => ?_) ⟨o, upd_same, ho⟩
    rw [upd_ne (fun z => by rw [z, hp] at hb; cases hb)]
    exact hb
end
end Say
namespace Say
open PySem PySem.Spec PyProof.Rows L2
theorem sl_tupW {X : Cx} : SlR X (fun x lo hi H Q => ∃ a xs, x = .ref a ∧ H a = some (.tup xs) ∧ ∀ (p : Addr) (H' : Hp), Same H H' → H' p = some (.tup (cutV xs lo hi)) → Q (.ref p) H') := by
  intro pins s σ H x v vl vu lo hi sl Q I rx hs pl pu h
  obtain ⟨a, xs, e, ha, q⟩ := h
  refine sl_tupA pins s σ H x v vl vu lo hi sl Q I rx hs pl pu ⟨a, xs, e, .inl (.inl ha), fun hw => ?_, fun hw p hp => ?_⟩
  · refine q a H (Same.refl H) ?_
    have : cutV xs lo hi = xs := by
      unfold cutV
      rw [hw.1, hw.2, List.drop_zero, Nat.sub_zero, List.take_length]
    rw [this]
    exact ha
  · exact q p _ (same_new hp _) upd_same
theorem paired_takeW {α β : Type} {F : α → β → Prop} : ∀ (m : Nat) {l : List α} {k : List β}, Paired F l k → Paired F (l.take m) (k.take m)
  | 0, _, _, _ => .nil
  | _ + 1, _, _, .nil => .nil
  | m + 1, _, _, .cons a t => .cons a (paired_takeW m t)
theorem cut_takeW (xs : List V) (k : Nat) : cutV xs none (some (k : Int)) = xs.take k := by
  unfold cutV
  rw [HT.sIx_none, HT.sIx_nat, List.drop_zero, Nat.sub_zero]
  rcases Nat.le_total k xs.length with h | h
  · rw [Nat.min_eq_left h]
  · rw [Nat.min_eq_right h, List.take_length, List.take_of_length_le h]
theorem rules_take {H H' : Hp} {R p : Addr} {rs : List Rule} {ts : List Addr} (k : Nat) (pR : Paired (fun t ρ => H t = some (.tup (Rule.vs ρ))) ts rs) (s : Same H H') (hp : H' p = some (.tup (cutV (ts.map V.ref) none (some (k : Int))))) : RulesAt H' p (rs.take k) := by
  refine ⟨ts.take k, ?_, paired_takeW k (paired_mono (fun t ρ h => s _ _ h) pR)⟩
  rw [hp, cut_takeW, List.map_take]
theorem excs_take {H H' : Hp} {p : Addr} {es : List Exc} {ts : List Addr} (k : Nat) (pX : Paired (fun t (e : Exc) => H t = some (.tup [.str (T e.1), .str (T e.2)])) ts es) (s : Same H H') (hp : TupN H' p (cutV (ts.map V.ref) none (some (k : Int)))) : ExcsAt H' p (es.take k) := by
  refine ⟨ts.take k, ?_, paired_takeW k (paired_mono (fun t ρ h => s _ _ h) pX)⟩
  rw [cut_takeW, ← List.map_take] at hp
  exact hp
end Say
namespace Say
open PySem PySem.Spec PyProof.Rows L2
theorem newH {H : Hp} {p : Addr} (h : H p = none) (o : HO) : ∃ H', upd H p o = H' ∧ Same H H' ∧ H' p = some o := ⟨_, rfl, same_new h o, upd_same⟩
theorem cutDrop (xs : List V) (k : Nat) : cutV xs (some (k : Int)) none = xs.drop k := by
  unfold cutV
  rw [HT.sIx_none, HT.sIx_nat]
  by_cases h : k ≤ xs.length
  · rw [Nat.min_eq_left h, List.take_of_length_le]
    rw [List.length_drop]
    omega
  · rw [Nat.min_eq_right (by omega), List.drop_eq_nil_of_le (Nat.le_refl _), List.drop_eq_nil_of_le (by omega)]
    exact List.take_nil
/-! ### values that are no books, as they stay -/
/-- tuples stay as they are; lists stay lists -/
structure Kp (K : PySem.W.Frag) (H H' : Hp) : Prop where
  t : ∀ a xs, SqT K H a xs → SqT K H' a xs
  l : ∀ a xs, SqL K H a xs → ∃ ys, SqL K H' a ys
section
variable {K : PySem.W.Frag} {H H' H2 : Hp} {L : List Nat} {v : V}
theorem Kp.trans (a : Kp K H H') (b : Kp K H' H2) : Kp K H H2 := ⟨fun p xs h => b.t p xs (a.t p xs h), fun p xs h => by obtain ⟨ys, h⟩ := a.l p xs h; exact b.l p ys h⟩
theorem Kp.of (s : Same H H') : Kp K H H' := ⟨fun p xs h => seqT_same s h, fun p xs h => ⟨xs, Same.seq s h⟩⟩
theorem Kp.ext (s : LamX.ExtN H H') : Kp K H H' := ⟨fun p xs h => ExtN.seqT s h, fun p xs h => ⟨xs, ExtN.seqL s h⟩⟩
theorem Kp.stp {r a : Addr} {ns : List Int} (R : RowAt K H r a ns) (s : Stp r H H') (R' : RowAt K H' r a ns) : Kp K H H' := by
  refine ⟨fun p xs h => seqT_stp h R s, fun p xs h => ?_⟩
  by_cases e : p = r
  · obtain ⟨⟨i, c, m, q, _⟩, _⟩ := R'
    exact ⟨_, .inl (.inl (by rw [e]; exact q))⟩
  · exact ⟨xs, Stp.seq s e h⟩
theorem NoTup.kp (h : NoTup K H v) (s : Kp K H H') : NoTup K H' v := by
  rcases h with h | h | h | ⟨a, xs, h1, h2⟩
  · exact .inl h
  · exact .inr (.inl h)
  · exact .inr (.inr (.inl h))
  · obtain ⟨ys, h⟩ := s.l a xs h2
    exact .inr (.inr (.inr ⟨a, ys, h1, h⟩))
theorem VOk.kp (h : VOk K H v) (s : Kp K H H') : VOk K H' v := by
  rcases h with h | h | h | ⟨a, xs, h1, h2⟩ | ⟨a, xs, h1, h2⟩
  · exact .inl h
  · exact .inr (.inl h)
  · exact .inr (.inr (.inl h))
  · obtain ⟨ys, h⟩ := s.l a xs h2
    exact .inr (.inr (.inr (.inl ⟨a, ys, h1, h⟩)))
  · exact .inr (.inr (.inr (.inr ⟨a, xs, h1, s.t _ _ h2⟩)))
theorem RulR.kp {b : Bool} (h : RulR K H L v b) (s : Kp K H H') : RulR K H' L v b := by
  rcases h with ⟨h, e⟩ | ⟨t, xs, h1, h2, h3, e⟩ | ⟨t, a, o, e, z, h1, h2, h3, h4, h5, h6, h7⟩
  · exact .inl ⟨h.kp s, e⟩
  · exact .inr (.inl ⟨t, xs, h1, s.t _ _ h2, h3, e⟩)
  · exact .inr (.inr ⟨t, a, o, e, z, h1, s.t _ _ h2, h3.kp s, h4.kp s, h5.kp s, h6.kp s, h7⟩)
theorem ExcR.kp {b : Option (List Nat)} (h : ExcR K H L v b) (s : Kp K H H') : ExcR K H' L v b := by
  rcases h with ⟨h, e⟩ | ⟨t, xs, h1, h2, h3, e⟩ | ⟨t, a, z, h1, h2, h3, h4, h5⟩
  · exact .inl ⟨h.kp s, e⟩
  · exact .inr (.inl ⟨t, xs, h1, s.t _ _ h2, h3, e⟩)
  · exact .inr (.inr ⟨t, a, z, h1, s.t _ _ h2, h3.kp s, h4.kp s, h5⟩)
theorem RsR.kp {o : Option (List Bool)} (h : RsR K H L v o) (s : Kp K H H') : RsR K H' L v o := by
  rcases h with ⟨h, e⟩ | ⟨t, xs, bs, h1, h2, h3, h4, e⟩
  · exact .inl ⟨h.kp s, e⟩
  · exact .inr ⟨t, xs, bs, h1, s.t _ _ h2, h3, paired_mono (fun _ _ q => q.kp s) h4, e⟩
theorem EsR.kp {o : Option (List (Option (List Nat)))} (h : EsR K H L v o) (s : Kp K H H') : EsR K H' L v o := by
  rcases h with ⟨h, e⟩ | ⟨t, xs, bs, h1, h2, h3, h4, e⟩
  · exact .inl ⟨h.kp s, e⟩
  · exact .inr ⟨t, xs, bs, h1, s.t _ _ h2, h3, paired_mono (fun _ _ q => q.kp s) h4, e⟩
/-- refused as a book: what of it, and where -/
def BadV (K : PySem.W.Frag) (H : Hp) (v : V) (p n : Int) : Prop := (p = -1 ∧ n = 0 ∧ (NoTup K H v ∨ ∃ t xs, v = .ref t ∧ SqT K H t xs ∧ xs.length ≠ 3)) ∨
  ∃ t l r x, v = .ref t ∧ SqT K H t [l, r, x] ∧ VOk K H l ∧ ((letV l = false ∧ p = 0 ∧ n = 0) ∨
    ∃ (L : List Nat) (o : Option (List Bool)), l = .str (T L) ∧ letV l = true ∧ L.length ≤ 50 ∧ RsR K H L r o ∧ ((p = 1 ∧ ∃ k : Nat, n = k ∧ badRs o k ∧ ∀ m, m < k → ¬ badRs o m) ∨
      (p = 2 ∧ (∀ k, ¬ badRs o k) ∧ ∃ oe, EsR K H L x oe ∧ ∃ k : Nat, n = k ∧ badEs oe k ∧ ∀ m, m < k → ¬ badEs oe m)))
theorem BadV.kp {p n : Int} (h : BadV K H v p n) (s : Kp K H H') : BadV K H' v p n := by
  rcases h with ⟨e1, e2, h | ⟨t, xs, h1, h2, h3⟩⟩ | ⟨t, l, r, x, e, h1, h2, h | ⟨L, o, h3, h4, h5, h6, h | ⟨e1, e2, oe, h7, h8⟩⟩⟩
  · exact .inl ⟨e1, e2, .inl (h.kp s)⟩
  · exact .inl ⟨e1, e2, .inr ⟨t, xs, h1, s.t _ _ h2, h3⟩⟩
  · exact .inr ⟨t, l, r, x, e, s.t _ _ h1, h2.kp s, .inl h⟩
  · exact .inr ⟨t, l, r, x, e, s.t _ _ h1, h2.kp s, .inr ⟨L, o, h3, h4, h5, h6.kp s, .inl h⟩⟩
  · exact .inr ⟨t, l, r, x, e, s.t _ _ h1, h2.kp s, .inr ⟨L, o, h3, h4, h5, h6.kp s, .inr ⟨e1, e2, oe, h7.kp s, h8⟩⟩⟩
/-- three parts, one of them refused -/
def Bad3 (K : PySem.W.Frag) (H : Hp) (v : V) (p n : Int) : Prop := ∃ t l r x, v = .ref t ∧ SqT K H t [l, r, x] ∧ VOk K H l ∧ ((letV l = false ∧ p = 0 ∧ n = 0) ∨
    ∃ (L : List Nat) (o : Option (List Bool)), l = .str (T L) ∧ letV l = true ∧ L.length ≤ 50 ∧ RsR K H L r o ∧ ((p = 1 ∧ ∃ k : Nat, n = k ∧ badRs o k ∧ ∀ m, m < k → ¬ badRs o m) ∨
      (p = 2 ∧ (∀ k, ¬ badRs o k) ∧ ∃ oe, EsR K H L x oe ∧ ∃ k : Nat, n = k ∧ badEs oe k ∧ ∀ m, m < k → ¬ badEs oe m)))
theorem Bad3.kp {p n : Int} (h : Bad3 K H v p n) (s : Kp K H H') : Bad3 K H' v p n := by
  rcases h with ⟨t, l, r, x, e, h1, h2, h | ⟨L, o, h3, h4, h5, h6, h | ⟨e1, e2, oe, h7, h8⟩⟩⟩
  · exact ⟨t, l, r, x, e, s.t _ _ h1, h2.kp s, .inl h⟩
  · exact ⟨t, l, r, x, e, s.t _ _ h1, h2.kp s, .inr ⟨L, o, h3, h4, h5, h6.kp s, .inl h⟩⟩
  · exact ⟨t, l, r, x, e, s.t _ _ h1, h2.kp s, .inr ⟨L, o, h3, h4, h5, h6.kp s, .inr ⟨e1, e2, oe, h7.kp s, h8⟩⟩⟩
theorem first_uniq {q : Nat → Prop} {m k : Nat} (h1 : q m) (h2 : ∀ i, i < m → ¬ q i) (h3 : q k) (h4 : ∀ i, i < k → ¬ q i) : m = k := by
  rcases Nat.lt_trichotomy m k with h | h | h
  · exact absurd h1 (h4 m h)
  · exact h
  · exact absurd h3 (h2 k h)
theorem BadV.refused {CB : Addr} {E : XK} {p n : Int} (h : BadV K H v p n) (q : refB CB H E p n) : Refused K CB v H E := by
  rcases h with ⟨rfl, rfl, h | ⟨t, xs, rfl, h2, h3⟩⟩ | ⟨t, l, r, x, rfl, h1, h2, ⟨hl, rfl, rfl⟩ | ⟨L, o, rfl, h4, h5, h6, h⟩⟩
  · exact ⟨v, rfl, .inl ⟨h, q⟩⟩
  · exact ⟨_, rfl, .inr (.inl ⟨t, xs, rfl, h2, h3, q⟩)⟩
  · exact ⟨_, rfl, .inr (.inr ⟨t, l, r, x, rfl, h1, h2, fun _ => q, fun L e1 e2 => by rw [hl] at e2; cases e2⟩)⟩
  · refine ⟨_, rfl, .inr (.inr ⟨t, _, r, x, rfl, h1, h2, (fun c => by rw [h4] at c; cases c), fun L' e1 e2 => ?_⟩)⟩
    have e : L = L' := T_inj (V.str.inj e1)
    subst e
    rcases h with ⟨rfl, k, rfl, b1, b2⟩ | ⟨rfl, b0, oe, h7, k, rfl, b1, b2⟩
    · exact ⟨o, h6, fun m c1 c2 => by rw [first_uniq c1 c2 b1 b2]; exact q, fun no => absurd b1 (no k)⟩
    · exact ⟨o, h6, fun m c1 c2 => absurd c1 (b0 m), fun no => ⟨oe, h7, fun m c1 c2 => by rw [first_uniq c1 c2 b1 b2]; exact q, fun no2 => absurd b1 (no2 k)⟩⟩
/-- of three parts, the letters or the rules of it refused: told so when asked with samples -/
theorem Bad3.lr {CB : Addr} {E : XK} {p n : Int} (h : Bad3 K H v p n) (hp : p < 2) (q : refB CB H E p n) : ∃ t l r x, v = .ref t ∧ SqT K H t [l, r, x] ∧ RefLR K CB l r H E := by
  rcases h with ⟨t, l, r, x, rfl, h1, h2, ⟨hl, rfl, rfl⟩ | ⟨L, o, rfl, h4, h5, h6, h⟩⟩
  · exact ⟨t, l, r, x, rfl, h1, h2, fun _ => q, fun c => by rw [hl] at c; cases c⟩
  · refine ⟨t, _, r, x, rfl, h1, h2, (fun c => by rw [h4] at c; cases c), fun _ => ?_⟩
    rcases h with ⟨rfl, k, rfl, b1, b2⟩ | ⟨rfl, _⟩
    · exact ⟨L, o, rfl, h5, fun H' s => h6.same s, ⟨k, b1⟩, fun m c1 c2 => by rw [first_uniq c1 c2 b1 b2]; exact q⟩
    · exact absurd hp (by decide)
/-! ### how a value comes to be none -/
theorem bad_kind (h : NoTup K H v) : BadV K H v (-1) 0 := .inl ⟨rfl, rfl, .inl h⟩
theorem bad_len {t : Addr} {xs : List V} (h : H t = some (.tup xs)) (n : xs.length ≠ 3) : BadV K H (.ref t) (-1) 0 := .inl ⟨rfl, rfl, .inr ⟨t, xs, rfl, .inl (.inl h), n⟩⟩
theorem bad_lets {t : Addr} {l r x : V} (h : H t = some (.tup [l, r, x])) (h1 : VOk K H l) (h2 : letV l = false) : BadV K H (.ref t) 0 0 := .inr ⟨t, l, r, x, rfl, .inl (.inl h), h1, .inl ⟨h2, rfl, rfl⟩⟩
theorem lets_ok (h : L ∈ lets) : letV (.str (T L)) = true ∧ L.length ≤ 4 := by
  have : ∀ l ∈ lets, letV (.str (T l)) = true ∧ l.length ≤ 4 := by decide +kernel
  exact this L h
theorem lets_vok (h : L ∈ lets) : VOk K H (.str (T L)) := .inl ⟨L, rfl, Nat.le_trans (lets_ok h).2 (by decide)⟩
theorem bad_rules {t : Addr} {r x : V} (hL : L ∈ lets) (h : H t = some (.tup [.str (T L), r, x])) (hn : NoTup K H r) : BadV K H (.ref t) 1 0 :=
  .inr ⟨t, _, r, x, rfl, .inl (.inl h), lets_vok hL, .inr ⟨L, none, rfl, (lets_ok hL).1, Nat.le_trans (lets_ok hL).2 (by decide), .inl ⟨hn, rfl⟩, .inl ⟨rfl, 0, rfl, rfl, fun m hm => absurd hm (Nat.not_lt_zero m)⟩⟩⟩
/-- a good rule is one -/
theorem rul_good {p : Addr} {ρ : Rule} (hL : L ∈ lets) (h : H p = some (.tup ρ.vs)) (o : RuleOk L ρ) : RulR K H L (.ref p) true := by
  have l4 := (lets_ok hL).2
  have hs : ∀ l ∈ lets, ∀ z, z.Sublist (35 :: l) → rises z = true := fun l hl z hz => (rises_iff _).mpr (((rises_iff _).mp ((by decide +kernel : ∀ l ∈ lets, rises (35 :: l) = true) l hl)).sublist hz)
  have hb : ∀ z : List Nat, z.Sublist (35 :: L) → besV L (.str (T z)) = true := fun z hz => by
    show (isText z (35 :: L) 0 (L.length + 1) && rises z) = true
    rw [isText_of (Nat.zero_le _) (by have := hz.length_le; simpa using this) fun c hc => hz.subset hc, hs L hL z hz]
    rfl
  have sl : ∀ z : List Nat, z.Sublist (35 :: L) → z.length ≤ 100 := fun z hz => by have := hz.length_le; rw [List.length_cons] at this; omega
  refine .inr (.inr ⟨p, .str (T ρ.ah), .str (T ρ.ow), .str (T ρ.be), .str (T ρ.so), rfl, .inl (.inl h), .inl ⟨_, rfl, sl _ o.ah⟩, .inl ⟨_, rfl, by have := o.o2; omega⟩, .inl ⟨_, rfl, sl _ o.be⟩, .inl ⟨_, rfl, by have := o.s3; omega⟩, ?_⟩)
  unfold rulV
  rw [hb _ o.ah, hb _ o.be, show txV (.str (T ρ.ow)) L 1 2 = isText ρ.ow L 1 2 from rfl, isText_of o.o1 o.o2 o.ow, show txV (.str (T ρ.so)) capsL 0 3 = isText ρ.so capsL 0 3 from rfl, isText_of (Nat.zero_le _) o.s3 fun c hc => mem_caps (o.so c hc)]
  rfl
theorem rul_len {p : Addr} {xs : List V} (h : H p = some (.tup xs)) (n : xs.length ≠ 4) : RulR K H L (.ref p) false := .inr (.inl ⟨p, xs, rfl, .inl (.inl h), n, rfl⟩)
theorem rul_kind (h : NoTup K H v) : RulR K H L v false := .inl ⟨h, rfl⟩
theorem rul_badV {p : Addr} {a o e s : V} (h : H p = some (.tup [a, o, e, s])) (l1 : VOk K H a) (l2 : VOk K H o) (l3 : VOk K H e) (l4 : VOk K H s) (bad : rulV L a o e s = false) : RulR K H L (.ref p) false := .inr (.inr ⟨p, _, _, _, _, rfl, .inl (.inl h), l1, l2, l3, l4, bad.symm⟩)
theorem paired_trues {xs : List V} (h : ∀ x ∈ xs, RulR K H L x true) : Paired (RulR K H L) xs (List.replicate xs.length true) := by
  induction xs with
  | nil => exact .nil
  | cons x r ih => exact .cons (h x (List.mem_cons_self ..)) (ih fun y hy => h y (List.mem_cons_of_mem _ hy))
theorem paired_appV {α β : Type} {F : α → β → Prop} : ∀ {xs : List α} {ys : List β} {us : List α} {ws : List β}, Paired F xs ys → Paired F us ws → Paired F (xs ++ us) (ys ++ ws)
  | _, _, _, _, .nil, h => h
  | _, _, _, _, .cons a r, h => .cons a (paired_appV r h)
theorem rs_good {R : Addr} {rs : List Rule} (hL : L ∈ lets) (h : RulesAt H R rs) (ok : ∀ ρ ∈ rs, RuleOk L ρ) (n : rs.length ≤ 12) : ∃ o, RsR K H L (.ref R) o ∧ ∀ k, ¬ badRs o k := by
  obtain ⟨ts, h1, h2⟩ := h
  have lr := paired_len h2
  refine ⟨_, .inr ⟨R, ts.map V.ref, _, rfl, .inl (.inl h1), by rw [List.length_map]; omega, paired_trues fun x hx => ?_, rfl⟩, fun k hk => ?_⟩
  · obtain ⟨t, ht, rfl⟩ := List.mem_map.mp hx
    obtain ⟨j, hj⟩ := List.mem_iff_getElem?.mp ht
    obtain ⟨ρ, hρ, hH⟩ := paired_at h2 hj
    exact rul_good hL hH (ok ρ (List.mem_of_getElem? hρ))
  · obtain ⟨k1, k2⟩ := hk
    rw [List.length_replicate, List.length_map] at k1
    rcases k2 with k2 | k2
    · omega
    · have := List.mem_of_getElem? k2
      rw [List.mem_replicate] at this
      exact absurd this.2 (by decide)
/-- good rules, and one among them that is none -/
theorem bad_rule {t R : Addr} {rs : List Rule} {ts : List Addr} {x : V} {k : Nat} (hL : L ∈ lets) (hp : Paired (fun t ρ => H t = some (.tup (Rule.vs ρ))) ts rs) (ok : ∀ ρ ∈ rs, RuleOk L ρ) (n : rs.length ≤ 9) (hk : k ≤ rs.length)
    (h : H t = some (.tup [.str (T L), .ref R, x])) (hR : H R = some (.tup ((ts.map V.ref).take k ++ [v] ++ (ts.map V.ref).drop k))) (bad : RulR K H L v false) : BadV K H (.ref t) 1 k := by
  have lr := paired_len hp
  have good : ∀ y ∈ ts.map V.ref, RulR K H L y true := fun y hy => by
    obtain ⟨u, hu, rfl⟩ := List.mem_map.mp hy
    obtain ⟨j, hj⟩ := List.mem_iff_getElem?.mp hu
    obtain ⟨ρ, hρ, hH⟩ := paired_at hp hj
    exact rul_good hL hH (ok ρ (List.mem_of_getElem? hρ))
  have lt : ((ts.map V.ref).take k).length = k := by rw [List.length_take, List.length_map]; omega
  refine .inr ⟨t, _, _, x, rfl, .inl (.inl h), lets_vok hL, .inr ⟨L, some (List.replicate k true ++ [false] ++ List.replicate ((ts.map V.ref).drop k).length true), rfl, (lets_ok hL).1, Nat.le_trans (lets_ok hL).2 (by decide), .inr ⟨R, _, _, rfl, .inl (.inl hR), ?_, ?_, rfl⟩, .inl ⟨rfl, k, rfl, ?_, fun m hm => ?_⟩⟩⟩
  · rw [List.length_append, List.length_append, List.length_take, List.length_drop, List.length_map]
    show _ + 1 + _ ≤ 90
    omega
  · have := paired_trues (K := K) (H := H) (L := L) (xs := (ts.map V.ref).take k) fun y hy => good y (List.take_subset _ _ hy)
    rw [lt] at this
    exact paired_appV (paired_appV this (.cons bad .nil)) (paired_trues fun y hy => good y (List.drop_subset _ _ hy))
  · refine ⟨?_, .inr ?_⟩
    · rw [List.length_append, List.length_append, List.length_replicate]
      show k < k + 1 + _
      omega
    · rw [List.append_assoc, List.getElem?_append_right (by rw [List.length_replicate]; omega), List.length_replicate, Nat.sub_self]
      rfl
  · rintro ⟨_, h | h⟩
    · omega
    · rw [List.append_assoc, List.getElem?_append_left (by rw [List.length_replicate]; exact hm), List.getElem?_replicate, if_pos hm] at h
      cases h
/-- 'a', with no letters beside -/
def rulA : Rule := ⟨[], [97], [], [65]⟩
theorem rulA_ok {L : List Nat} (h : 97 ∈ L) : RuleOk L rulA := ⟨List.nil_sublist _, fun c hc => by rw [List.mem_singleton.mp hc]; exact h, by decide, by decide, List.nil_sublist _, by decide, by decide⟩
theorem rulA_vs : Rule.vs rulA = [.str "", .str (T [97]), .str "", .str "A"] := by
  show [V.str (T []), .str (T [97]), .str (T []), .str (T [65])] = _
  rw [show (Str.ofString "") = T [] from nil_eq, show (Str.ofString "A") = T [65] by decide +kernel]
/-- thirteen of them -/
theorem bad_many {t R p : Addr} {ρ : Rule} {x : V} (hL : L ∈ lets) (hp : H p = some (.tup ρ.vs)) (ok : RuleOk L ρ) (h : H t = some (.tup [.str (T L), .ref R, x])) (hR : H R = some (.tup (List.replicate 13 (V.ref p)))) : BadV K H (.ref t) 1 12 := by
  refine .inr ⟨t, _, _, x, rfl, .inl (.inl h), lets_vok hL, .inr ⟨L, some (List.replicate 13 true), rfl, (lets_ok hL).1, Nat.le_trans (lets_ok hL).2 (by decide), .inr ⟨R, _, _, rfl, .inl (.inl hR), by rw [List.length_replicate]; decide, ?_, rfl⟩, .inl ⟨rfl, 12, rfl, ⟨by decide, .inl rfl⟩, fun m hm => ?_⟩⟩⟩
  · have := paired_trues (K := K) (H := H) (L := L) (xs := List.replicate 13 (V.ref p)) fun y hy => by
      rw [(List.mem_replicate.mp hy).2]
      exact rul_good hL hp ok
    rw [List.length_replicate] at this
    exact this
  · rintro ⟨_, h | h⟩
    · omega
    · have := List.mem_of_getElem? h
      rw [List.mem_replicate] at this
      exact absurd this.2 (by decide)
theorem bad_excs {t R : Addr} {rs : List Rule} {x : V} (hL : L ∈ lets) (hR : RulesAt H R rs) (ok : ∀ ρ ∈ rs, RuleOk L ρ) (n : rs.length ≤ 12) (h : H t = some (.tup [.str (T L), .ref R, x])) (hx : NoTup K H x) : BadV K H (.ref t) 2 0 := by
  obtain ⟨o, h1, h2⟩ := rs_good (K := K) hL hR ok n
  exact .inr ⟨t, _, _, x, rfl, .inl (.inl h), lets_vok hL, .inr ⟨L, o, rfl, (lets_ok hL).1, Nat.le_trans (lets_ok hL).2 (by decide), h1, .inr ⟨rfl, h2, none, .inl ⟨hx, rfl⟩, 0, rfl, rfl, fun m hm => absurd hm (Nat.not_lt_zero m)⟩⟩⟩
theorem exc_len {p : Addr} {xs : List V} (h : H p = some (.tup xs)) (n : xs.length ≠ 2) : ExcR K H L (.ref p) none := .inr (.inl ⟨p, xs, rfl, .inl (.inl h), n, rfl⟩)
theorem exc_kind (h : NoTup K H v) : ExcR K H L v none := .inl ⟨h, rfl⟩
theorem exc_badV {p : Addr} {a s : V} (h : H p = some (.tup [a, s])) (l1 : VOk K H a) (l2 : VOk K H s) (bad : excV L a s = false) : ExcR K H L (.ref p) none := .inr (.inr ⟨p, _, _, rfl, .inl (.inl h), l1, l2, .inl ⟨bad, rfl⟩⟩)
theorem exc_goodV {p : Addr} {z : List Nat} {s : V} (h : H p = some (.tup [.str (T z), s])) (l1 : z.length ≤ 100) (l2 : VOk K H s) (good : excV L (.str (T z)) s = true) : ExcR K H L (.ref p) (some z) := .inr (.inr ⟨p, _, _, rfl, .inl (.inl h), .inl ⟨z, rfl, l1⟩, l2, .inr ⟨z, rfl, good, rfl⟩⟩)
/-- the second of three exceptions is none, or stands no further than the first -/
theorem bad_exc {t R X p q : Addr} {rs : List Rule} {w : Option (List Nat)} (hL : L ∈ lets) (hR : RulesAt H R rs) (ok : ∀ ρ ∈ rs, RuleOk L ρ) (n : rs.length ≤ 12) (h : H t = some (.tup [.str (T L), .ref R, .ref X])) (hX : H X = some (.tup [.ref p, v, .ref q]))
    (h1 : ExcR K H L (.ref p) (some [97])) (h2 : ExcR K H L v w) (bad : w = none ∨ ∃ z, w = some z ∧ ¬ [97] < z) (h3 : ∃ w3, ExcR K H L (.ref q) w3) : BadV K H (.ref t) 2 1 := by
  obtain ⟨o, g1, g2⟩ := rs_good (K := K) hL hR ok n
  obtain ⟨w3, h3⟩ := h3
  refine .inr ⟨t, _, _, _, rfl, .inl (.inl h), lets_vok hL, .inr ⟨L, o, rfl, (lets_ok hL).1, Nat.le_trans (lets_ok hL).2 (by decide), g1, .inr ⟨rfl, g2, some [some [97], w, w3], .inr ⟨X, _, _, rfl, .inl (.inl hX), (by show 3 ≤ 90; decide), .cons h1 (.cons h2 (.cons h3 .nil)), rfl⟩, 1, rfl, ⟨by show 1 < 3; decide, .inr ?_⟩, fun m hm => ?_⟩⟩⟩
  · rcases bad with rfl | ⟨z, rfl, nz⟩
    · exact .inl rfl
    · exact .inr ⟨z, rfl, nz⟩
  · obtain rfl : m = 0 := by omega
    rintro ⟨_, h | h | ⟨z, h, nz⟩⟩
    · cases h
    · cases h
    · cases h
      exact nz (by show ([] : List Nat) < [97]; decide)
/-- nine good ones -/
theorem bad_nine {t R X : Addr} {rs : List Rule} {ts : List Addr} {es : List Exc} (hL : L ∈ lets) (hR : RulesAt H R rs) (ok : ∀ ρ ∈ rs, RuleOk L ρ) (n : rs.length ≤ 12) (h : H t = some (.tup [.str (T L), .ref R, .ref X])) (hX : H X = some (.tup (ts.map V.ref)))
    (hp : Paired (fun t (e : Exc) => H t = some (.tup [.str (T e.1), .str (T e.2)])) ts es) (l9 : es.length = 9) (st : es.Pairwise fun e f => e.1 < f.1) (ge : ∀ e ∈ es, excV L (.str (T e.1)) (.str (T e.2)) = true ∧ e.1.length ≤ 100 ∧ e.2.length ≤ 100 ∧ ([] : List Nat) < e.1) : BadV K H (.ref t) 2 8 := by
  obtain ⟨o, g1, g2⟩ := rs_good (K := K) hL hR ok n
  have lr := paired_len hp
  have hv : Paired (ExcR K H L) (ts.map V.ref) (es.map fun e => some e.1) := by
    clear l9 st hX lr
    induction hp with
    | nil => exact .nil
    | @cons t e ts es hH r ih =>
      obtain ⟨k1, k2, k3, _⟩ := ge e (List.mem_cons_self ..)
      exact .cons (exc_goodV hH k2 (.inl ⟨_, rfl, k3⟩) k1) (ih fun e he => ge e (List.mem_cons_of_mem _ he))
  refine .inr ⟨t, _, _, _, rfl, .inl (.inl h), lets_vok hL, .inr ⟨L, o, rfl, (lets_ok hL).1, Nat.le_trans (lets_ok hL).2 (by decide), g1, .inr ⟨rfl, g2, some (es.map fun e => some e.1), .inr ⟨X, _, _, rfl, .inl (.inl hX), by rw [List.length_map]; omega, hv, rfl⟩, 8, rfl, ⟨by rw [List.length_map]; omega, .inl rfl⟩, fun m hm => ?_⟩⟩⟩
  rintro ⟨k, h | h | ⟨z, h, nz⟩⟩
  · omega
  · rw [List.getElem?_map] at h
    cases he : es[m]? with
    | none => rw [he] at h; cases h
    | some e => rw [he] at h; cases h
  · rw [List.getElem?_map] at h
    cases he : es[m]? with
    | none => rw [he] at h; cases h
    | some e =>
      rw [he] at h
      cases h
      apply nz
      cases m with
      | zero => exact (ge e (List.mem_of_getElem? he)).2.2.2
      | succ m =>
        have hm2 : m < es.length := by omega
        show ((es.map fun e => some e.1).getD m none).getD [] < e.1
        rw [List.getD_eq_getElem?_getD, List.getElem?_map, List.getElem?_eq_getElem hm2]
        obtain ⟨hm3, he⟩ := List.getElem?_eq_some_iff.mp he
        have := List.pairwise_iff_getElem.mp st m (m + 1) hm2 hm3 (Nat.lt_succ_self m)
        rw [he] at this
        exact this
end
end Say
namespace SrtT
open PySem PySem.Spec PyProof.Rows L2 SrtO
/-- by the first text, then by the second -/
def lexT (p q : Str × Str) : Bool := if p.1 = q.1 then decide (p.2.cps.toList < q.2.cps.toList) else decide (p.1.cps.toList < q.1.cps.toList)
theorem str_of {x y : Str} (h : x.cps.toList = y.cps.toList) : x = y := TL.ext_tl h
theorem lexT_no {p q : Str × Str} : lexT p q = false ↔ (q.1.cps.toList < p.1.cps.toList ∨ (p.1 = q.1 ∧ q.2.cps.toList ≤ p.2.cps.toList)) := by
  unfold lexT
  by_cases h : p.1 = q.1
  · rw [if_pos h]
    constructor
    · intro z
      exact .inr ⟨h, List.not_lt.mp (of_decide_eq_false z)⟩
    · rintro (z | ⟨_, z⟩)
      · rw [h] at z
        exact absurd z (List.lt_irrefl _)
      · exact decide_eq_false (List.not_lt.mpr z)
  · rw [if_neg h]
    constructor
    · intro z
      have le := List.not_lt.mp (of_decide_eq_false z)
      refine .inl ?_
      refine Decidable.byContradiction fun n => h (str_of (List.le_antisymm (List.not_lt.mp n) le))
    · rintro (z | ⟨e, _⟩)
      · exact decide_eq_false (List.not_lt.mpr (List.le_of_lt z))
      · exact absurd e h
theorem lexT_yes {p q : Str × Str} (h : lexT p q = true) : p.1.cps.toList < q.1.cps.toList ∨ (p.1 = q.1 ∧ p.2.cps.toList < q.2.cps.toList) := by
  unfold lexT at h
  by_cases e : p.1 = q.1
  · rw [if_pos e] at h
    exact .inr ⟨e, of_decide_eq_true h⟩
  · rw [if_neg e] at h
    exact .inl (of_decide_eq_true h)
theorem swoT {α : Type} (k : α → Str × Str) : Swo fun v u => lexT (k v) (k u) := by
  refine ⟨fun x y h => ?_, fun x y z h1 h2 => ?_⟩
  · refine lexT_no.mpr ?_
    rcases lexT_yes h with q | ⟨e, q⟩
    · exact .inl q
    · exact .inr ⟨e.symm, List.le_of_lt q⟩
  · refine lexT_no.mpr ?_
    rcases lexT_no.mp h1 with a | ⟨e, a⟩
    · rcases lexT_no.mp h2 with b | ⟨e', b⟩
      · exact .inl (List.lt_trans a b)
      · exact .inl (by rw [e']; exact a)
    · rcases lexT_no.mp h2 with b | ⟨e', b⟩
      · exact .inl (by rw [← e]; exact b)
      · exact .inr ⟨e'.trans e, List.le_trans a b⟩
/-- v is a tuple of the two texts -/
def IsTx (h : Heap) (v : Value) (x y : Str) : Prop := ∃ a o t u n, v = .ref a ∧ h.get? a = some o ∧ o.cls = .type "tuple" ∧ o.data = .seq #[.str x t, .str y u] n
theorem IsTx.keeps {h h' : Heap} {v : Value} {x y : Str} (p : IsTx h v x y) (k : ∀ b o, h.get? b = some o → o.cls = .type "tuple" → h'.get? b = some o) : IsTx h' v x y := by
  obtain ⟨a, o, t, u, n, e, obO, clC, dtD⟩ := p
  exact ⟨a, o, t, u, n, e, k _ _ obO clC, clC, dtD⟩
section
variable {prog : Program} {w : World} {A : Around} {E : Value → Shared → Prop} {s : Shared}
theorem tx_cmp {vs : List Value} {k : Value → Str × Str} (txP : ∀ v ∈ vs, IsTx s.heap v (k v).1 (k v).2) : Cmp prog w A s (tuples' true) (fun p => p.1 ∈ vs) (lt2 fun v u => lexT (k v) (k u)) := by
  intro p q hm hm'
  have h1 := txP _ hm
  have h2 := txP _ hm'
  show wpAny (model prog w) A (keyLt' (tuples' true) p.1 q.1) (fun r s' => s' = s ∧ r = lexT (k p.1) (k q.1)) (fun _ _ => False) s
  unfold lexT
  generalize (k p.1).1 = x at h1 ⊢
  generalize (k p.1).2 = y at h1 ⊢
  generalize (k q.1).1 = x' at h2 ⊢
  generalize (k q.1).2 = y' at h2 ⊢
  obtain ⟨a, o, t, u, n, e, obO, clC, dtD⟩ := h1
  obtain ⟨a', o', t', u', n', e', ho', hc', hd'⟩ := h2
  rw [e, e']
  refine PySem.W.kat_lt obO dtD ho' hd' ?_
  show PySem.W.KatLex prog w A true (decide (2 < 2)) _ [(.str x t, .str x' t'), (.str y u, .str y' u')] 0 s
  refine PySem.W.kat_cons (SeqAt.EqAt.str_str x t x' t' prog w _ _ ?_)
  refine PySem.W.kat_go (fun q1 => ?_) (fun q1 => ?_)
  · have ex : x = x' := by simpa using q1
    refine PySem.W.kat_yes (PySem.W.kat_cons (SeqAt.EqAt.str_str y u y' u' prog w _ _ ?_))
    refine PySem.W.kat_go (fun q2 => ?_) (fun q2 => ?_)
    · have ey : y = y' := by simpa using q2
      have q3 : (if x = x' then decide (y.cps.toList < y'.cps.toList) else decide (x.cps.toList < x'.cps.toList)) = false := by
        rw [if_pos ex, ey]
        exact decide_eq_false (List.lt_irrefl _)
      exact PySem.W.kat_yes (PySem.W.kat_nil ⟨rfl, q3.symm⟩)
    · have q3 : (if x = x' then decide (y.cps.toList < y'.cps.toList) else decide (x.cps.toList < x'.cps.toList)) = decide (y.cps.toList < y'.cps.toList) := if_pos ex
      refine PySem.W.kat_no (PySem.W.kat_one _ _ (PyProof.Rows.lt_str ?_))
      exact (show s = s ∧ decide (y.cps.toList < y'.cps.toList) = (if x = x' then decide (y.cps.toList < y'.cps.toList) else decide (x.cps.toList < x'.cps.toList)) from ⟨rfl, q3.symm⟩)
  · have ex : ¬ x = x' := by simpa using q1
    have q3 : (if x = x' then decide (y.cps.toList < y'.cps.toList) else decide (x.cps.toList < x'.cps.toList)) = decide (x.cps.toList < x'.cps.toList) := if_neg ex
    exact PySem.W.kat_no (oneLt_str ⟨rfl, q3.symm⟩)
theorem firsts_tx {h : Heap} : ∀ {vs : List Value}, (∀ v ∈ vs, ∃ x y, IsTx h v x y) → ∃ fs, PySem.W.KatTups h vs fs ∧ fs.length = vs.length ∧ ∀ f ∈ fs, ∃ x t, f = Value.str x t
  | [], _ => ⟨[], trivial, rfl, fun _ h => nomatch h⟩
  | v :: vs, txP => by
    obtain ⟨x, y, a, o, t, u, n, rfl, obO, clC, dtD⟩ := txP v (List.mem_cons_self ..)
    obtain ⟨fs, h1, h2, h3⟩ := firsts_tx (vs := vs) fun v inV => txP v (List.mem_cons_of_mem _ inV)
    refine ⟨.str x t :: fs, .cons obO clC dtD rfl h1, by simp [h2], fun f fresh0 => ?_⟩
    rcases List.mem_cons.mp fresh0 with rfl | fresh0
    · exact ⟨_, _, rfl⟩
    · exact h3 f fresh0
theorem tx_sortable {a : Addr} {vs : List Value} {k : Value → Str × Str} (h0 : 0 < vs.length) (txP : ∀ v ∈ vs, IsTx s.heap v (k v).1 (k v).2) (atA : ∀ o, s.heap.get? a = some o → o.cls ≠ .type "tuple") : SortableO prog w A s a vs fun v u => lexT (k v) (k u) := by
  intro h' keep
  have hp' : ∀ v ∈ vs, IsTx h' v (k v).1 (k v).2 := fun v hm => (txP v hm).keeps fun b o e c => keep b o (fun z => by subst z; exact atA o e c) e
  obtain ⟨fs, h1, h2, h3⟩ := firsts_tx fun v hm => ⟨_, _, hp' v hm⟩
  refine ⟨tuples' true, fun Q E isT => ?_, tx_cmp hp'⟩
  refine PySem.W.kat_kind (T := .type "str") h1 (by omega) (fun f hm => ?_) (by rfl) ?_
  · obtain ⟨x, t, rfl⟩ := h3 f hm
    exact PySem.W.Looks.now
  · have e : (Value.type "str" != Value.type "tuple") = true := by first | decide +kernel | rfl | decide
    rw [e]
    exact isT
end
/-- the texts of a tuple of two -/
def txOf (h : Heap) (v : Value) : Str × Str := match v with
  | .ref a => match h.get? a with
    | some o => match o.data with
      | .seq its _ => match its.toList with
        | [.str x _, .str y _] => (x, y)
        | _ => (Str.empty, Str.empty)
      | _ => (Str.empty, Str.empty)
    | none => (Str.empty, Str.empty)
  | _ => (Str.empty, Str.empty)
theorem IsTx.tx {h : Heap} {v : Value} {x y : Str} (p : IsTx h v x y) : txOf h v = (x, y) := by
  obtain ⟨a, o, t, u, n, rfl, obO, clC, dtD⟩ := p
  unfold txOf
  simp only [obO, dtD]
end SrtT
namespace Say
open PySem PySem.Spec PyProof.Rows L2 L2.DX
section
variable {X : Cx}
/-- d.items() of a dict with int and text keys -/
def rItemsK : V → List V → Hp → VK → Prop := fun x xs H Q => ∃ (a : Addr) (kvs : List (Key × V)), x = .ref a ∧ xs = [] ∧ H a = some (.dK kvs) ∧ ∀ p, H p = none → Q (.ref p) (upd H p (itemsO p a))
theorem mt_itemsK : MtR X "dict.items" rItemsK := by
  intro pn s σ H x xs v args Q I rx rxs h
  obtain ⟨a, kvs, rfl, rfl, atA, q⟩ := h
  cases rx
  cases rxs
  obtain ⟨szT, dtD, vs, kv, o, es, ep, obO, atI0, hdat, _⟩ := (show ObjOk X.prog X.w H s.heap a (.dK kvs) from I.hok a _ atA)
  refine DT.callItems (es := es) (ep := ep) dtD ⟨o, obO, atI0, hdat⟩ ?_
  have fresh0 : H s.heap.objs.size = none := I.hok.fresh (Nat.le_refl _)
  exact ⟨.ref s.heap.objs.size, upd H s.heap.objs.size (itemsO s.heap.objs.size a), I.laid (t' := s.toks) (fun b u e => Heap.get?_push_of_some _ e) (Nat.le_refl _) (itemsO_ok (Heap.get?_push_size _ rfl)), rfl, q _ fresh0⟩
abbrev entS (e : Str × Str) : Key × V := (Sum.inr e.1, V.str e.2)
/-- sorted(d.items()), keys and values texts -/
def rSortTx : List V → Hp → VK → Prop := fun vs H Q => ∃ (p a : Addr) (es : List (Str × Str)), vs = [.ref p] ∧ H p = some (itemsO p a) ∧ H a = some (.dK (es.map entS)) ∧ es.length ≤ 1000 ∧
  ∀ (H' : Hp) (l : Addr) (ps : List (Addr × Str × Str)), (∀ b o, H b = some o → H' b = some o) → (ps.map (·.2)).Perm es → (ps.map (·.2)).Pairwise (fun e f => SrtT.lexT f e = false) → H l = none → H' l = some (.lst (ps.map fun z => V.ref z.1)) →
    (∀ z ∈ ps, H' z.1 = some (.tup [.str z.2.1, .str z.2.2])) → Q (.ref l) H'
theorem key_txt {x : Str} {v : Value} (h : keyIs (Sum.inr x : Key) v = true) : ∃ t, v = .str x t := by
  rcases keyIs_shape h with ⟨i, t, e, rfl⟩ | ⟨y, t, e, rfl⟩
  · cases e
  · cases e
    exact ⟨t, rfl⟩
theorem ent_at {P : Program} {w : World} : ∀ {l : List DictEntry} {vs : List (Key × Value)} {ks : List (Str × Str)}, Pairs (mixKind P w) l vs → KV (ks.map entS) vs → Paired (fun (e : DictEntry) (k : Str × Str) => (∃ t, e.key = .str k.1 t) ∧ ∃ u, e.val = .str k.2 u) l ks
  | [], _, ks, .nil, kv => by
    cases ks with
    | nil => exact .nil
    | cons k r => cases kv
  | e :: l, _, ks, .cons h1 h2 h3, kv => by
    cases ks with
    | nil => cases kv
    | cons k r =>
      cases kv with
      | cons g1 g2 =>
        refine .cons ⟨?_, ?_⟩ (ent_at h3 g2)
        · obtain ⟨g3, g4⟩ := g1
          rw [← g3] at h1
          exact key_txt h1
        · rw [h2]
          exact g1.2
def adr : Value → Addr
  | .ref a => a
  | _ => 0
theorem cr_sortedTx (clC : X.calm = true) : CallR X (.builtin "sorted") rSortTx := by
  intro pn s σ H xs args Q I r h
  obtain ⟨p, a, ks, rfl, txP, atA, h64, q⟩ := h
  obtain rfl := Vals.ref1 r
  have vw : s.heap.IsItemsView p a := (show ObjOk X.prog X.w H s.heap p (itemsO p a) from I.hok p _ txP).1
  obtain ⟨szT, dtD, vs, kv, o, es, ep, obO, atI0, hdat, hKo, hPs, hn⟩ := (show ObjOk X.prog X.w H s.heap a (.dK (ks.map entS)) from I.hok a _ atA)
  have ents := ent_at hPs kv
  have l0 : es.size = ks.length := by rw [← Array.length_toList]; exact paired_len ents
  have noH : X.A.handled = none := I.ok.hd clC
  refine DT.sortedI (es := es) (ep := ep) noH vw ⟨o, obO, atI0, hdat⟩ (by rw [sizeLine_eq]; omega) fun h' tkn adrs kpT ltN lnT mdG => ?_
  have lenA : adrs.length = ks.length := by omega
  have nodupA : adrs.Nodup := List.Pairwise.imp (fun h => Nat.ne_of_lt h) mdG.rise
  have prs : ∀ (j : Nat) (b : Addr), adrs[j]? = some b → ∃ (e : Str × Str) (t u : Tok), ks[j]? = some e ∧ h'.get? b = some { cls := .type "tuple", data := .seq #[Value.str e.1 t, Value.str e.2 u] } := by
    intro j b atJ
    obtain ⟨en', hEn, gW⟩ := mdG.pairs j b atJ
    rw [← Array.getElem?_toList] at hEn
    obtain ⟨e, q1, ⟨t, q2⟩, ⟨u, q3⟩⟩ := paired_at ents hEn
    exact ⟨e, t, u, q1, by rw [gW, q2, q3]⟩
  have atL : (h'.push { cls := .type "list", data := .seq (adrs.map Value.ref).toArray }).get? h'.objs.size = some (seqObj "list" (adrs.map Value.ref).toArray 0) := Heap.get?_push_size _ rfl
  have kpS : ∀ b o, s.heap.get? b = some o → (h'.push { cls := .type "list", data := .seq (adrs.map Value.ref).toArray }).get? b = some o := fun b o e => Heap.get?_push_of_some _ (kpT b o e)
  have neL : ∀ b o, h'.get? b = some o → b ≠ h'.objs.size := fun b o e => Nat.ne_of_lt (Heap.lt_size e)
  generalize hh2 : h'.push { cls := .type "list", data := .seq (adrs.map Value.ref).toArray } = h2 at atL kpS ⊢
  have kpM : ∀ b o, h'.get? b = some o → h2.get? b = some o := fun b o e => by rw [← hh2]; exact Heap.get?_push_of_some _ e
  have pin : ∀ (j : Nat) (b : Addr) (e : Str × Str), adrs[j]? = some b → ks[j]? = some e → SrtT.IsTx h2 (.ref b) e.1 e.2 := by
    intro j b e atJ hEn
    obtain ⟨e', t, u, he', gW⟩ := prs j b atJ
    cases he'.symm.trans hEn
    exact ⟨b, _, t, u, 0, rfl, kpM _ _ gW, rfl, rfl⟩
  have allTx : ∀ v ∈ adrs.map Value.ref, SrtT.IsTx h2 v (SrtT.txOf h2 v).1 (SrtT.txOf h2 v).2 := by
    intro v hv'
    obtain ⟨b, hb, rfl⟩ := List.mem_map.mp hv'
    obtain ⟨j, atJ⟩ := List.mem_iff_getElem?.mp hb
    obtain ⟨e, t, u, hEn, _⟩ := prs j b atJ
    have := pin j b e atJ hEn
    rw [this.tx]
    exact this
  have mapTx : (adrs.map Value.ref).map (SrtT.txOf h2) = ks := by
    refine List.ext_getElem? fun j => ?_
    rw [List.getElem?_map, List.getElem?_map]
    cases atJ : adrs[j]? with
    | none =>
      have := List.getElem?_eq_none_iff.mp atJ
      rw [List.getElem?_eq_none (by omega)]
      rfl
    | some b =>
      obtain ⟨e, t, u, hEn, _⟩ := prs j b atJ
      rw [hEn]
      show some (SrtT.txOf h2 (.ref b)) = some e
      rw [(pin j b e atJ hEn).tx]
  refine wpAny_call_entry PyProof.Rows.slot_list_sort ⟨_, atL, rfl⟩ PyProof.Rows.entry_list_sort
    (SrtO.list_sort_ord (s := { s with heap := h2, toks := tkn }) (SrtT.swoT (SrtT.txOf h2)) atL (by rw [List.length_map, sizeLine_eq]; omega) (fun h2' => SrtT.tx_sortable (by omega) allTx fun o e => ?_) fun out o1 o2 => ⟨.none, rfl, ?_⟩) (PyProof.Rows.args_list_sort _)
  · have e : h2.get? h'.objs.size = some o := e
    rw [atL] at e
    cases e
    intro c
    exact absurd (Value.type.inj c) (by decide)
  · show EP X pn σ Q (.ref h'.objs.size) { s with heap := sortedHeap h2 h'.objs.size (adrs.map Value.ref) out.toArray, toks := tkn }
    have hrf : ∀ v ∈ out, v = .ref (adr v) := fun v inV => by
      obtain ⟨b, _, rfl⟩ := List.mem_map.mp (o2.perm.mem_iff.mp inV)
      rfl
    have kpF : ∀ b o, b ≠ h'.objs.size → h2.get? b = some o → (sortedHeap h2 h'.objs.size (adrs.map Value.ref) out.toArray).get? b = some o := fun b o hb e => (PyProof.Rows.sortedHeap_old hb (Heap.lt_size e)).trans e
    have kpAll : ∀ b o, s.heap.get? b = some o → (sortedHeap h2 h'.objs.size (adrs.map Value.ref) out.toArray).get? b = some o := fun b o e => kpF b o (neL _ _ (kpT b o e)) (kpS b o e)
    obtain ⟨sdF, atF⟩ := PyProof.Rows.sortedHeap_at (vs := adrs.map Value.ref) (out := out.toArray) atL
    have I1 : Inv X pn σ H { s with heap := sortedHeap h2 h'.objs.size (adrs.map Value.ref) out.toArray, toks := tkn } := I.kept (t' := tkn) kpAll
    have noL : H h'.objs.size = none := I.hok.fresh (Nat.le_of_lt ltN)
    have prm : ((out.map fun v => (adr v, SrtT.txOf h2 v)).map (·.2)).Perm ks := by
      have e := o2.perm.map (SrtT.txOf h2)
      rw [mapTx] at e
      rw [List.map_map]
      exact e
    have srtd0 : ((out.map fun v => (adr v, SrtT.txOf h2 v)).map (·.2)).Pairwise (fun e f => SrtT.lexT f e = false) := by
      rw [List.map_map, List.pairwise_map]
      exact o1
    have len0 : ((out.map fun v => (adr v, SrtT.txOf h2 v)).map fun z => V.ref z.1).length ≤ sizeLine := by
      have e := prm.length_eq
      rw [List.length_map] at e
      rw [List.length_map, sizeLine_eq]
      omega
    have rel : ∀ l : List Value, (∀ v ∈ l, v = .ref (adr v)) → Vals ((l.map fun v => (adr v, SrtT.txOf h2 v)).map fun z => V.ref z.1) l := by
      intro l
      induction l with
      | nil => intro _; exact .nil
      | cons v l ih =>
        intro inV
        refine .cons ?_ (ih fun u getU => inV u (List.mem_cons_of_mem _ getU))
        have := inV v (List.mem_cons_self ..)
        exact this
    have I2 : Inv X pn σ (upd H h'.objs.size (.lst ((out.map fun v => (adr v, SrtT.txOf h2 v)).map fun z => V.ref z.1))) { s with heap := sortedHeap h2 h'.objs.size (adrs.map Value.ref) out.toArray, toks := tkn } :=
      I1.take (h' := sortedHeap h2 h'.objs.size (adrs.map Value.ref) out.toArray) (t' := tkn) (fun b ob _ e => e) (I.fpOk (Nat.le_of_lt ltN) noL) ⟨len0, out, sdF, rel out hrf, atF⟩
    obtain ⟨H2, I3, g, tps⟩ := takeT (P := fun b vs => ∃ (j : Nat) (e : Str × Str), adrs[j]? = some b ∧ ks[j]? = some e ∧ vs = [.str e.1, .str e.2]) I adrs _ I2 nodupA fun b hb => by
      obtain ⟨j, atJ⟩ := List.mem_iff_getElem?.mp hb
      obtain ⟨e, t, u, hEn, gW⟩ := prs j b atJ
      have geB : s.heap.objs.size ≤ b := Nat.le_of_lt (mdG.above b hb)
      refine ⟨geB, ?_, [.str e.1, .str e.2], ⟨j, e, atJ, hEn, rfl⟩, fun H3 => ⟨(by rw [sizeLine_eq]; show 2 ≤ 16777216; omega), [Value.str e.1 t, Value.str e.2 u], .cons ⟨t, rfl⟩ (.cons ⟨u, rfl⟩ .nil), ⟨_, kpF _ _ (neL _ _ gW) (kpM _ _ gW), rfl, 0, rfl⟩⟩⟩
      rw [upd_ne (neL _ _ gW)]
      exact I.hok.fresh geB
    have grow : ∀ b o, H b = some o → H2 b = some o := fun b o e => g b o (by rw [upd_ne (ne_of_none e noL)]; exact e)
    refine ⟨.ref h'.objs.size, H2, I3, rfl, q H2 h'.objs.size _ grow prm srtd0 noL (g _ _ upd_same) fun z' hz' => ?_⟩
    obtain ⟨v, inV, rfl⟩ := List.mem_map.mp hz'
    obtain ⟨b, hb, e⟩ := List.mem_map.mp (o2.perm.mem_iff.mp inV)
    subst e
    obtain ⟨vs', ⟨j, e, j1, j2, ev⟩, hH⟩ := tps b hb
    show H2 b = some (.tup [.str (SrtT.txOf h2 (.ref b)).1, .str (SrtT.txOf h2 (.ref b)).2])
    rw [(pin j b e j1 j2).tx, hH, ev]
end
end Say
namespace Say
open PySem PySem.Spec PyProof.Rows L2
/-! ### the exceptions of a dict -/
def ent (e : Exc) : Key × V := (Sum.inr (T e.1), V.str (T e.2))
def putE (es : List Exc) (wd so : List Nat) : List Exc := if (es.any fun e => decide (e.1 = wd)) = true then es.map (fun e => if e.1 = wd then (e.1, so) else e) else es ++ [(wd, so)]
theorem key_eq {a b : List Nat} : ((Sum.inr (T a) : Key) = Sum.inr (T b)) ↔ a = b := ⟨fun h => T_inj (Sum.inr.inj h), fun h => by rw [h]⟩
theorem any_ent (wd : List Nat) : ∀ es : List Exc, ((es.map ent).any fun kv => decide (kv.1 = (Sum.inr (T wd) : Key))) = es.any fun e => decide (e.1 = wd)
  | [] => rfl
  | e :: r => by
    rw [List.map_cons, List.any_cons, List.any_cons, any_ent wd r]
    congr 1
    exact decide_eq_decide.mpr key_eq
theorem put_ent (es : List Exc) (wd so : List Nat) : putK (es.map ent) (Sum.inr (T wd) : Key) (V.str (T so)) = (putE es wd so).map ent := by
  unfold putK putE
  rw [any_ent]
  by_cases c : (es.any fun e => decide (e.1 = wd)) = true
  · rw [if_pos c, if_pos c, List.map_map, List.map_map]
    refine List.map_congr_left fun e _ => ?_
    show (if (ent e).1 = (Sum.inr (T wd) : Key) then ((ent e).1, V.str (T so)) else ent e) = ent (if e.1 = wd then (e.1, so) else e)
    by_cases h : e.1 = wd
    · rw [if_pos h, if_pos (show (ent e).1 = (Sum.inr (T wd) : Key) from key_eq.mpr h)]
      rfl
    · rw [if_neg h, if_neg (show ¬ (ent e).1 = (Sum.inr (T wd) : Key) from fun z => h (key_eq.mp z))]
  · rw [if_neg c, if_neg c, List.map_append]
    rfl
theorem putE_len (es : List Exc) (wd so : List Nat) : (putE es wd so).length ≤ es.length + 1 := by
  unfold putE
  split
  · rw [List.length_map]; omega
  · rw [List.length_append]; exact Nat.le_refl _
theorem putE_ok {L : List Nat} {es : List Exc} {wd so : List Nat} (h : ∀ e ∈ es, ExcOk L e) (h1 : ExcOk L (wd, so)) : ∀ e ∈ putE es wd so, ExcOk L e := by
  intro e he
  unfold putE at he
  split at he
  · obtain ⟨e', he', rfl⟩ := List.mem_map.mp he
    by_cases c : e'.1 = wd
    · rw [if_pos c, c]
      exact h1
    · rw [if_neg c]
      exact h e' he'
  · rcases List.mem_append.mp he with he | he
    · exact h e he
    · rw [List.mem_singleton.mp he]
      exact h1
theorem putE_nd {es : List Exc} {wd so : List Nat} (h : (es.map (·.1)).Nodup) : ((putE es wd so).map (·.1)).Nodup := by
  unfold putE
  split
  · rename_i c
    rw [List.map_map]
    have : es.map ((·.1) ∘ fun e : Exc => if e.1 = wd then (e.1, so) else e) = es.map (·.1) := List.map_congr_left fun e _ => by
      show (if e.1 = wd then (e.1, so) else e).1 = e.1
      split <;> rfl
    rw [this]
    exact h
  · rename_i c
    rw [List.map_append]
    refine List.nodup_append.mpr ⟨h, by simp, fun a ha b hb => ?_⟩
    intro z
    refine c (List.any_eq_true.mpr ?_)
    obtain ⟨e, he, rfl⟩ := List.mem_map.mp ha
    have hb : b = wd := by simpa using hb
    exact ⟨e, he, decide_eq_true (by rw [← hb]; exact z)⟩
/-- by its word there is one exception at most -/
theorem one_of {es : List Exc} (h : (es.map (·.1)).Nodup) {e f : Exc} (he : e ∈ es) (hf : f ∈ es) (hw : e.1 = f.1) : e = f := by
  obtain ⟨i, hi⟩ := List.mem_iff_getElem?.mp he
  obtain ⟨j, hj⟩ := List.mem_iff_getElem?.mp hf
  have e1 : (es.map (·.1))[i]? = some e.1 := by rw [List.getElem?_map, hi]; rfl
  have e2 : (es.map (·.1))[j]? = some e.1 := by rw [List.getElem?_map, hj, hw]; rfl
  have := nd_ix h e1 e2
  subst this
  exact Option.some.inj (hi.symm.trans hj)
theorem valV_ent {es : List Exc} (h : (es.map (·.1)).Nodup) {e : Exc} (he : e ∈ es) : valV (es.map ent) (Sum.inr (T e.1) : Key) = some (V.str (T e.2)) := by
  unfold valV
  cases hf : (es.map ent).find? fun kv => decide (kv.1 = (Sum.inr (T e.1) : Key)) with
  | none =>
    have := List.find?_eq_none.mp hf (ent e) (List.mem_map.mpr ⟨e, he, rfl⟩)
    exact absurd (decide_eq_true rfl) this
  | some kv =>
    have h1 := List.find?_some hf
    obtain ⟨f, hfm, rfl⟩ := List.mem_map.mp (List.mem_of_find?_eq_some hf)
    have h2 : f.1 = e.1 := key_eq.mp (of_decide_eq_true h1)
    rw [one_of h hfm he h2]
    rfl
theorem find_ent {es : List Exc} (h : (es.map (·.1)).Nodup) {e : Exc} (he : e ∈ es) : es.find? (fun f => decide (f.1 = e.1)) = some e := by
  cases hf : es.find? fun f => decide (f.1 = e.1) with
  | none => exact absurd (decide_eq_true rfl) (List.find?_eq_none.mp hf e he)
  | some f => rw [one_of h (List.mem_of_find?_eq_some hf) he (of_decide_eq_true (List.find?_some (p := fun f : Exc => decide (f.1 = e.1)) hf))]
/-! ### sorted -/
theorem uniq_sorted {α : Type} {r : α → α → Prop} (as : ∀ a b, r a b → ¬ r b a) : ∀ {l m : List α}, l.Perm m → l.Pairwise r → m.Pairwise r → l = m
  | [], m, p, _, _ => (List.Perm.eq_nil p.symm).symm
  | a :: l, [], p, _, _ => absurd p.length_eq (by simp)
  | a :: l, b :: m, p, h1, h2 => by
    have ha := p.mem_iff.mp (List.mem_cons_self (a := a) (l := l))
    have hb := p.mem_iff.mpr (List.mem_cons_self (a := b) (l := m))
    have e : a = b := by
      rcases List.mem_cons.mp ha with e | ha
      · exact e
      · rcases List.mem_cons.mp hb with e | hb
        · exact e.symm
        · exact absurd ((List.pairwise_cons.mp h1).1 b hb) (as _ _ ((List.pairwise_cons.mp h2).1 a ha))
    subst e
    rw [uniq_sorted as p.cons_inv (List.pairwise_cons.mp h1).2 (List.pairwise_cons.mp h2).2]
theorem lt_asym (a b : List Nat) (h : a < b) : ¬ b < a := List.lt_asymm h
theorem le_of_ltCps {a b : List Nat} (h : ltCps b a = false) : a ≤ b := by
  rw [ltCps_eq] at h
  exact List.not_lt.mp (of_decide_eq_false h)
theorem rising_pw : ∀ (l : List Str) (p : Str), risingS p l = true → (p :: l).Pairwise fun a b => a.cps.toList ≤ b.cps.toList
  | [], p, _ => List.pairwise_singleton _ _
  | x :: r, p, h => by
    have h : (!ltCps x.cps.toList p.cps.toList && risingS x r) = true := h
    rw [Bool.and_eq_true] at h
    have ih := rising_pw r x h.2
    have px : p.cps.toList ≤ x.cps.toList := le_of_ltCps (by simpa using h.1)
    refine List.pairwise_cons.mpr ⟨fun y hy => ?_, ih⟩
    rcases List.mem_cons.mp hy with rfl | hy
    · exact px
    · exact List.le_trans px ((List.pairwise_cons.mp ih).1 y hy)
theorem sortedS_pw : ∀ {l : List Str}, sortedS l = true → l.Pairwise fun a b => a.cps.toList ≤ b.cps.toList
  | [], _ => .nil
  | x :: r, h => rising_pw r x h
def wordsS (es : List Exc) : List Str := es.map fun e => T e.1
theorem strict_words {es : List Exc} (up : es.Pairwise fun e f => e.1 < f.1) : (wordsS es).Pairwise fun a b => a.cps.toList < b.cps.toList := by
  unfold wordsS
  rw [List.pairwise_map]
  exact up
theorem strict_of {l : List Str} (h : l.Pairwise fun a b => a.cps.toList ≤ b.cps.toList) (nd : l.Nodup) : l.Pairwise fun a b => a.cps.toList < b.cps.toList := by
  refine List.Pairwise.imp_of_mem (fun {a b} _ _ h => ?_) (List.Pairwise.and h nd)
  obtain ⟨h1, h2⟩ := h
  refine Decidable.byContradiction fun n => h2 (TL.ext_tl (List.le_antisymm h1 (List.not_lt.mp n)))
theorem nd_strict {l : List Str} (h : l.Pairwise fun a b => a.cps.toList < b.cps.toList) : l.Nodup := by
  refine List.Pairwise.imp (fun {a b} h => ?_) h
  intro z
  rw [z] at h
  exact List.lt_irrefl _ h
theorem sorted_keys {es es' : List Exc} {ys : List Str} (hp : es'.Perm es) (up : es'.Pairwise fun e f => e.1 < f.1) (hy : ys.Perm (wordsS es)) (hs : sortedS ys = true) : ys = wordsS es' := by
  have s' := strict_words up
  have p2 : ys.Perm (wordsS es') := hy.trans (hp.symm.map fun e : Exc => T e.1)
  exact uniq_sorted (r := fun a b : Str => a.cps.toList < b.cps.toList) (fun a b h => lt_asym _ _ h) p2 (strict_of (sortedS_pw hs) (p2.nodup_iff.mpr (nd_strict s'))) s'
def tt (e : Exc) : Str × Str := (T e.1, T e.2)
def bk (z : Str × Str) : Exc := (z.1.cps.toList, z.2.cps.toList)
theorem tt_bk (z : Str × Str) : tt (bk z) = z := by
  show (T z.1.cps.toList, T z.2.cps.toList) = z
  rw [T_list, T_list]
theorem bk_tt (e : Exc) : bk (tt e) = e := rfl
theorem sort_exc {es : List Exc} (nd : (es.map (·.1)).Nodup) {qs : List (Str × Str)} (hp : qs.Perm (es.map tt)) (hs : qs.Pairwise fun e f => SrtT.lexT f e = false) :
    qs = (qs.map bk).map tt ∧ (qs.map bk).Perm es ∧ (qs.map bk).Pairwise fun e f => e.1 < f.1 := by
  have e1 : qs = (qs.map bk).map tt := by
    rw [List.map_map]
    conv => lhs; rw [← List.map_id qs]
    exact List.map_congr_left fun z _ => (tt_bk z).symm
  have e2 : (qs.map bk).Perm es := by
    have := hp.map bk
    rw [List.map_map] at this
    have e3 : es.map (bk ∘ tt) = es := by
      conv => rhs; rw [← List.map_id es]
      exact List.map_congr_left fun e _ => rfl
    rwa [e3] at this
  refine ⟨e1, e2, ?_⟩
  have nd2 : ((qs.map bk).map (·.1)).Nodup := (e2.map (·.1)).nodup_iff.mpr nd
  rw [List.pairwise_map]
  have nd3 : qs.Pairwise fun a b => ¬ (bk a).1 = (bk b).1 := by
    have : ((qs.map bk).map (·.1)).Pairwise (· ≠ ·) := nd2
    rw [List.pairwise_map, List.pairwise_map] at this
    exact this
  refine List.Pairwise.imp_of_mem (fun {a b} _ _ h => ?_) (List.Pairwise.and hs nd3)
  obtain ⟨h1, h2⟩ := h
  rcases SrtT.lexT_no.mp h1 with q | ⟨q, _⟩
  · exact q
  · exact absurd (congrArg (fun z : Str => z.cps.toList) q.symm) h2
end Say
namespace Say
open PySem PySem.Spec PyProof.Rows L2
theorem paired_map {α β γ : Type} {F : α → β → Prop} {f : γ → α} {g : γ → β} : ∀ {l : List γ}, (∀ z ∈ l, F (f z) (g z)) → Paired F (l.map f) (l.map g)
  | [], _ => .nil
  | z :: l, h => .cons (h z (List.mem_cons_self ..)) (paired_map fun y hy => h y (List.mem_cons_of_mem _ hy))
theorem strOk_T {l : List Nat} (h : ∀ c ∈ l, c < 1114112) : PyData.strOk (T l) = true := by
  show l.toArray.all (· < 0x110000) = true
  rw [List.all_toArray, List.all_eq_true]
  intro c hc
  exact decide_eq_true (h c hc)
theorem shaped_two {x y : PyData} (hx : x.canLay0 = true) (hy : y.canLay0 = true) (dx : x.depth = 0) (dy : y.depth = 0) : SeqAt.shaped (.tuple [x, y]) = true := by
  unfold SeqAt.shaped
  rw [Bool.and_eq_true]
  refine ⟨?_, ?_⟩
  · show PyData.canLayAll0 [x, y] = true
    simp [PyData.canLayAll0, hx, hy]
  · refine decide_eq_true ?_
    show PyData.depthAll [x, y] + 1 ≤ 64
    simp [PyData.depthAll, dx, dy]
/-- the row stays where all but a dict does -/
theorem RowAt.stpD {K : PySem.W.Frag} {H H' : Hp} {r a F : Addr} {ns : List Int} {kvs : List (Key × V)} (R : RowAt K H r a ns) (hF : H F = some (.dK kvs)) (e : Stp F H H') : RowAt K H' r a ns := by
  obtain ⟨⟨i', c', m', q', b'⟩, sc, le⟩ := R
  refine ⟨⟨i', c', m', e _ _ q' (ne_of q' hF (by intro z; cases z)), b'⟩, ?_, le⟩
  rcases sc with (sc | ⟨o, sc⟩) | sc
  · exact .inl (.inl (e _ _ sc (ne_of sc hF (by intro z; cases z))))
  · exact .inl (.inr ⟨o, e _ _ sc (ne_of sc hF (by intro z; cases z))⟩)
  · exact .inr sc
end Say
namespace Say
open PySem PySem.Spec PyProof.Rows L2
section
variable {X : Cx}
theorem map_tx {H : Hp} {h : Heap} (one : ∀ (t : Addr) (e : Exc), H t = some (.tup [.str (T e.1), .str (T e.2)]) → SrtT.IsTx h (.ref t) (T e.1) (T e.2)) : ∀ {ts : List Addr} {es : List Exc}, Paired (fun t (e : Exc) => H t = some (.tup [.str (T e.1), .str (T e.2)])) ts es → ts.map (SrtT.txOf h ∘ Value.ref) = es.map tt
  | _, _, .nil => rfl
  | _, _, .cons (a := t) (b := e) hH r => by
    rw [List.map_cons, List.map_cons, map_tx one r]
    congr 1
    exact (one t e hH).tx
/-- sorted(ps) of a list of pairs of texts, the first texts unlike -/
def rSortTL (K : PySem.W.Frag) : List V → Hp → VK → Prop := fun vs H Q => ∃ (a : Addr) (ts : List Addr) (es : List Exc), vs = [.ref a] ∧ SqL K H a (ts.map V.ref) ∧ Paired (fun t (e : Exc) => H t = some (.tup [.str (T e.1), .str (T e.2)])) ts es ∧ (es.map (·.1)).Nodup ∧
  ∀ (ts' : List Addr) (es' : List Exc) (p : Addr), es'.Perm es → (es'.Pairwise fun e f => e.1 < f.1) → Paired (fun t (e : Exc) => H t = some (.tup [.str (T e.1), .str (T e.2)])) ts' es' → H p = none → Q (.ref p) (upd H p (.lst (ts'.map V.ref)))
theorem cr_sortTL : CallR X (.builtin "sorted") (rSortTL X.K) := by
  intro pins s σ H vs us Q I r h
  obtain ⟨a, ts, es, rfl, hs, hp, nd, q⟩ := h
  obtain ⟨its, rv, hl, hz⟩ := I.list hs
  obtain ⟨u, rfl, ru⟩ := vals1 r
  obtain rfl : u = Value.ref a := ru
  obtain rfl := refs_at rv
  rw [List.length_map] at hz
  have one : ∀ (t : Addr) (e : Exc), H t = some (.tup [.str (T e.1), .str (T e.2)]) → SrtT.IsTx s.heap (.ref t) (T e.1) (T e.2) := fun t e ht => by
    obtain ⟨_, its2, r2, o, ho, hc, n, hd⟩ := I.hok _ _ ht
    obtain ⟨u1, u2, rfl, ri, rj⟩ := vals2 r2
    obtain ⟨t1, rfl⟩ := ri
    obtain ⟨t2, rfl⟩ := rj
    exact ⟨t, o, t1, t2, n, rfl, ho, hc, hd⟩
  have each : ∀ v ∈ ts.map Value.ref, ∃ (t : Addr) (e : Exc), v = .ref t ∧ H t = some (.tup [.str (T e.1), .str (T e.2)]) ∧ SrtT.txOf s.heap v = tt e := fun v hv => by
    obtain ⟨t, ht, rfl⟩ := List.mem_map.mp hv
    obtain ⟨j, hj⟩ := List.mem_iff_getElem?.mp ht
    obtain ⟨e, he, hH⟩ := paired_at hp hj
    exact ⟨t, e, rfl, hH, (one t e hH).tx⟩
  have allTx : ∀ v ∈ ts.map Value.ref, SrtT.IsTx s.heap v (SrtT.txOf s.heap v).1 (SrtT.txOf s.heap v).2 := fun v hv => by
    obtain ⟨t, e, rfl, hH, ht⟩ := each v hv
    rw [ht]
    exact one t e hH
  have mapTx : (ts.map Value.ref).map (SrtT.txOf s.heap) = es.map tt := by
    rw [List.map_map]
    exact map_tx one hp
  refine SrtO.sorted_ord (SrtT.swoT (SrtT.txOf s.heap)) hl.isList (by rw [List.length_map]; exact hz) (fun h2 h₁ a' ha' keep => ?_) fun out o1 o2 => ?_
  · exact SrtT.tx_sortable (by omega) (fun v hv => (allTx v hv).keeps fun b o e _ => (keep b o e).2) fun o e c => by
      have e : h₁.get? a' = some o := e
      rw [ha'] at e
      cases e
      exact absurd (Value.type.inj c) (by decide)
  · obtain ⟨ep, he'⟩ := PyProof.Rows.sortedAll_at s.heap (ts.map Value.ref) out.toArray
    have hm : ∀ v ∈ out, v ∈ ts.map Value.ref := fun v hv => o2.perm.mem_iff.mp hv
    have perm : (out.map (SrtT.txOf s.heap)).Perm (es.map tt) := by
      have := o2.perm.map (SrtT.txOf s.heap)
      rwa [mapTx] at this
    have srt : (out.map (SrtT.txOf s.heap)).Pairwise fun e f => SrtT.lexT f e = false := by
      rw [List.pairwise_map]
      exact o1
    obtain ⟨p1, p2, p3⟩ := sort_exc nd perm srt
    have lo : out.length = ts.length := by rw [o2.perm.length_eq, List.length_map]
    have hvals : Vals ((out.map adr).map V.ref) out := by
      clear o1 o2 ep he' perm srt p1 p2 p3 lo
      induction out with
      | nil => exact .nil
      | cons v r ih =>
        refine .cons ?_ (ih fun u hu => hm u (List.mem_cons_of_mem _ hu))
        obtain ⟨t, e, rfl, _, _⟩ := each v (hm v (List.mem_cons_self ..))
        exact rfl
    refine ⟨.ref _, upd H (s.heap.objs.size + 1) (.lst ((out.map adr).map V.ref)), I.laid (t' := s.toks) (fun _ _ => PyProof.Rows.sortedAll_old) (Nat.le_succ _) ⟨by rw [List.length_map, List.length_map, lo]; exact hz, out, ep, hvals, he'⟩, rfl, q _ ((out.map (SrtT.txOf s.heap)).map bk) _ p2 p3 ?_ (I.hok.fresh (Nat.le_succ _))⟩
    rw [List.map_map]
    refine paired_map fun v hv => ?_
    obtain ⟨t, e, rfl, hH, ht⟩ := each v (hm v hv)
    show H t = some (.tup [.str (T (bk (SrtT.txOf s.heap (.ref t))).1), .str (T (bk (SrtT.txOf s.heap (.ref t))).2)])
    rw [ht, bk_tt]
    exact hH
end
end Say
/-! a tuple of pairs of texts, sorted -/
namespace SrtO
open PySem PySem.Spec PyProof PyProof.Rows
section
variable {prog : Program} {w : World} {A : Around} {E : Value → Shared → Prop} {s : Shared}
theorem collectTup {l : Addr} {vs : List Value} {o : Obj} {n : Nat} {Q : List Value → Shared → Prop} (ho : s.heap.get? l = some o) (hc : o.cls = .type "tuple") (hd : o.data = .seq vs.toArray n)
    (hz : vs.length ≤ sizeLine) (h : Q vs { s with heap := (s.heap.push (seqObj "list" #[] 0)).update s.heap.objs.size (Obj.mapSeq (· ++ vs.toArray)) }) :
    wpAny (model prog w) A (collect (.ref l)) Q E s := by
  unfold collect
  refine wpAny_bind (wpAny_runValue (codeAny_builtin entry_proto_collect' (show wpAny _ _ (do again (.builtin "list.__iadd__" ⟨[← newList [], .ref l], []⟩)) _ _ s from wpAny_bind (wpAny_newList (wpAny_pure ⟨Code.quiet_builtin _ (by decide +kernel), codeAny_builtin entry_list_iadd' ?_⟩)))))
  have grown : (s.heap.push (seqObj "list" #[] 0)).get? s.heap.objs.size = some (seqObj "list" #[] 0) := Heap.get?_push_size _ rfl
  have at2 : (s.heap.push (seqObj "list" #[] 0)).get? l = some o := Heap.get?_push_of_some _ ho
  show wpAny _ _ (Builtin.List.listExtendWith (.ref s.heap.objs.size) (.ref l) (.ref s.heap.objs.size)) _ _ { s with heap := s.heap.push (seqObj "list" #[] 0) }
  unfold Builtin.List.listExtendWith
  have same : (Value.type "tuple" == Value.type "tuple") = true := by rfl
  refine wpAny_bind (wpAny_typeOf (T := "tuple") ⟨o, at2, hc⟩ ?_)
  rw [if_pos (by rw [same]; simp)]
  refine wpAny_bind (listItems_at at2 hd (wpAny_bind (listItems_at grown rfl ?_)))
  rw [if_neg (by simp)]
  refine wpAny_bind (listUpdate_at grown rfl (wpAny_pure ?_) (Nat.zero_le _) (by show (#[] ++ vs.toArray).size ≤ sizeLine + 1; simp only [Array.size_append, List.size_toArray, List.length_nil]; omega))
  refine wpAny_bind (wpAny_load (get?_update_seq grown _) ?_)
  have e : ((#[] : Array Value) ++ vs.toArray).toList = vs := by simp
  show wpAny _ _ (pure ((#[] : Array Value) ++ vs.toArray).toList) Q E _
  rw [e]
  exact wpAny_pure h
theorem sorted_ordTup {l : Addr} {vs : List Value} {ltv : Value → Value → Bool} {o : Obj} {n : Nat} {Q : Value → Shared → Prop} (O : Swo ltv) (ho : s.heap.get? l = some o) (hc : o.cls = .type "tuple") (hd : o.data = .seq vs.toArray n) (hz : vs.length ≤ sizeLine)
    (hS : 2 ≤ vs.length → ∀ (h₁ : Heap) (a : Addr), h₁.get? a = some (seqObj "list" vs.toArray 0) → (∀ b o, s.heap.get? b = some o → b ≠ a ∧ h₁.get? b = some o) → SortableO prog w A.in1.in1 { s with heap := h₁ } a vs ltv)
    (h : ∀ out : List Value, Srtd ltv out → Stb ltv out vs → Q (.ref (s.heap.objs.size + 1)) { s with heap := sortedAll s.heap vs out.toArray }) :
    wpAny (model prog w) A (call (.builtin "sorted") [.ref l]) Q E s := by
  refine Calls.call_function_entry kind_sorted plain_sorted entry_sorted (args_sorted1 _) ?_
  unfold Builtin.«sorted»
  refine wpAny_bind (m := checkCount "sorted" 1 1 _) (wpAny_pure (wpAny_bind (collectTup ho hc hd hz (wpAny_bind (wpAny_newList ?_ hz)))))
  obtain ⟨hA, eA⟩ : ∃ hA, (s.heap.push (seqObj "list" #[] 0)).update s.heap.objs.size (Obj.mapSeq (· ++ vs.toArray)) = hA := ⟨_, rfl⟩
  have sz : hA.objs.size = s.heap.objs.size + 1 := by
    rw [← eA, Heap.size_update, size_push']
  have new : (hA.push (seqObj "list" vs.toArray 0)).get? (s.heap.objs.size + 1) = some (seqObj "list" vs.toArray 0) := by
    rw [← sz]
    exact Heap.get?_push_size _ rfl
  have stay : ∀ b o, s.heap.get? b = some o → b ≠ s.heap.objs.size + 1 ∧ (hA.push (seqObj "list" vs.toArray 0)).get? b = some o := fun b o q => by
    have lt : b < s.heap.objs.size := Heap.lt_size q
    refine ⟨Nat.ne_of_lt (Nat.lt_succ_of_lt lt), Heap.get?_push_of_some _ ?_⟩
    rw [← eA, Heap.get?_update_ne _ _ _ _ (Nat.ne_of_lt lt)]
    exact Heap.get?_push_of_some _ q
  have fin : ∀ out : List Value, { s with heap := sortedHeap (hA.push (seqObj "list" vs.toArray 0)) (s.heap.objs.size + 1) vs out.toArray } = { s with heap := sortedAll s.heap vs out.toArray } := fun out => by
    rw [← eA]
    rfl
  rw [eA]
  show wpAny _ _ _ _ _ { s with heap := hA.push (seqObj "list" vs.toArray 0) }
  rw [sz]
  refine wpAny_bind (wpAny_holding (wpAny_call_entry slot_list_sort ⟨_, new, rfl⟩ entry_list_sort (list_sort_ord O new hz (fun h2 => hS h2 _ _ new stay) fun out hs hb => ⟨_, rfl, wpAny_pure ⟨_, rfl, ?_⟩⟩) (args_list_sort _)))
  have := h out hs hb
  rw [← fin out] at this
  exact this
end
end SrtO
namespace Say
open PySem PySem.Spec PyProof.Rows L2
section
variable {X : Cx}
/-- sorted(ps) of a tuple of pairs of texts, the first texts unlike -/
def rSortTT (K : PySem.W.Frag) : List V → Hp → VK → Prop := fun vs H Q => ∃ (a : Addr) (ts : List Addr) (es : List Exc), vs = [.ref a] ∧ SqT K H a (ts.map V.ref) ∧ Paired (fun t (e : Exc) => H t = some (.tup [.str (T e.1), .str (T e.2)])) ts es ∧ (es.map (·.1)).Nodup ∧
  ∀ (ts' : List Addr) (es' : List Exc) (p : Addr), es'.Perm es → (es'.Pairwise fun e f => e.1 < f.1) → Paired (fun t (e : Exc) => H t = some (.tup [.str (T e.1), .str (T e.2)])) ts' es' → H p = none → Q (.ref p) (upd H p (.lst (ts'.map V.ref)))
theorem cr_sortTT : CallR X (.builtin "sorted") (rSortTT X.K) := by
  intro pins s σ H vs us Q I r h
  obtain ⟨a, ts, es, rfl, hs, hp, nd, q⟩ := h
  obtain ⟨its, rv, ⟨o, ho, hc, n, hd⟩, hz⟩ := I.tuple hs
  obtain ⟨u, rfl, ru⟩ := vals1 r
  obtain rfl : u = Value.ref a := ru
  obtain rfl := refs_at rv
  rw [List.length_map] at hz
  have one : ∀ (t : Addr) (e : Exc), H t = some (.tup [.str (T e.1), .str (T e.2)]) → SrtT.IsTx s.heap (.ref t) (T e.1) (T e.2) := fun t e ht => by
    obtain ⟨_, its2, r2, o, ho, hc, n, hd⟩ := I.hok _ _ ht
    obtain ⟨u1, u2, rfl, ri, rj⟩ := vals2 r2
    obtain ⟨t1, rfl⟩ := ri
    obtain ⟨t2, rfl⟩ := rj
    exact ⟨t, o, t1, t2, n, rfl, ho, hc, hd⟩
  have each : ∀ v ∈ ts.map Value.ref, ∃ (t : Addr) (e : Exc), v = .ref t ∧ H t = some (.tup [.str (T e.1), .str (T e.2)]) ∧ SrtT.txOf s.heap v = tt e := fun v hv => by
    obtain ⟨t, ht, rfl⟩ := List.mem_map.mp hv
    obtain ⟨j, hj⟩ := List.mem_iff_getElem?.mp ht
    obtain ⟨e, he, hH⟩ := paired_at hp hj
    exact ⟨t, e, rfl, hH, (one t e hH).tx⟩
  have allTx : ∀ v ∈ ts.map Value.ref, SrtT.IsTx s.heap v (SrtT.txOf s.heap v).1 (SrtT.txOf s.heap v).2 := fun v hv => by
    obtain ⟨t, e, rfl, hH, ht⟩ := each v hv
    rw [ht]
    exact one t e hH
  have mapTx : (ts.map Value.ref).map (SrtT.txOf s.heap) = es.map tt := by
    rw [List.map_map]
    exact map_tx one hp
  refine SrtO.sorted_ordTup (SrtT.swoT (SrtT.txOf s.heap)) ho hc hd (by rw [List.length_map]; exact hz) (fun h2 h₁ a' ha' keep => ?_) fun out o1 o2 => ?_
  · exact SrtT.tx_sortable (by omega) (fun v hv => (allTx v hv).keeps fun b o e _ => (keep b o e).2) fun o e c => by
      have e : h₁.get? a' = some o := e
      rw [ha'] at e
      cases e
      exact absurd (Value.type.inj c) (by decide)
  · obtain ⟨ep, he'⟩ := PyProof.Rows.sortedAll_at s.heap (ts.map Value.ref) out.toArray
    have hm : ∀ v ∈ out, v ∈ ts.map Value.ref := fun v hv => o2.perm.mem_iff.mp hv
    have perm : (out.map (SrtT.txOf s.heap)).Perm (es.map tt) := by
      have := o2.perm.map (SrtT.txOf s.heap)
      rwa [mapTx] at this
    have srt : (out.map (SrtT.txOf s.heap)).Pairwise fun e f => SrtT.lexT f e = false := by
      rw [List.pairwise_map]
      exact o1
    obtain ⟨p1, p2, p3⟩ := sort_exc nd perm srt
    have lo : out.length = ts.length := by rw [o2.perm.length_eq, List.length_map]
    have hvals : Vals ((out.map adr).map V.ref) out := by
      clear o1 o2 ep he' perm srt p1 p2 p3 lo
      induction out with
      | nil => exact .nil
      | cons v r ih =>
        refine .cons ?_ (ih fun u hu => hm u (List.mem_cons_of_mem _ hu))
        obtain ⟨t, e, rfl, _, _⟩ := each v (hm v (List.mem_cons_self ..))
        exact rfl
    refine ⟨.ref _, upd H (s.heap.objs.size + 1) (.lst ((out.map adr).map V.ref)), I.laid (t' := s.toks) (fun _ _ => PyProof.Rows.sortedAll_old) (Nat.le_succ _) ⟨by rw [List.length_map, List.length_map, lo]; exact hz, out, ep, hvals, he'⟩, rfl, q _ ((out.map (SrtT.txOf s.heap)).map bk) _ p2 p3 ?_ (I.hok.fresh (Nat.le_succ _))⟩
    rw [List.map_map]
    refine paired_map fun v hv => ?_
    obtain ⟨t, e, rfl, hH, ht⟩ := each v (hm v hv)
    show H t = some (.tup [.str (T (bk (SrtT.txOf s.heap (.ref t))).1), .str (T (bk (SrtT.txOf s.heap (.ref t))).2)])
    rw [ht, bk_tt]
    exact hH
end
end Say
namespace Say
open PySem PySem.Spec PyProof.Rows L2
def nineE (c : Nat) : List Exc := (List.range 9).map fun k => (List.replicate (k % 4 + 1) 97 ++ List.replicate (k / 4) c, [65])
theorem vok_str {K : PySem.W.Frag} {H : Hp} {s : Str} (h : s.cps.size ≤ 100) : VOk K H (.str s) := .inl ⟨s.cps.toList, by
  show V.str s = .str ⟨s.cps.toList.toArray⟩
  rw [Array.toArray_toList], by simpa using h⟩
structure OS (K : PySem.W.Frag) (r a : Addr) (ns : List Int) (RT : Addr) (rs : List Rule) (H0 H : Hp) : Prop where
  R : RowAt K H r a ns
  hR : RulesAt H RT rs
  st : Stp r H0 H
section
variable {K : PySem.W.Frag} {r a RT : Addr} {ns : List Int} {rs : List Rule} {H0 H H' : Hp}
theorem OS.same (h : OS K r a ns RT rs H0 H) (s : Same H H') : OS K r a ns RT rs H0 H' := ⟨h.R.stp s, h.hR.kt (.of s), h.st.trans (.of s)⟩
theorem OS.stp (h : OS K r a ns RT rs H0 H) (s : Stp r H H') (R' : RowAt K H' r a ns) : OS K r a ns RT rs H0 H' := ⟨R', h.hR.kt (h.R.kt s), h.st.trans s⟩
end
section
variable {P : Program} {w : World} {K : PySem.W.Frag} {mg : Str → Option Value} {base : Heap}
abbrev sOdd : Stmt := topS 114
abbrev nOdd : List Str := ["_law_row_here", "_law_letters_here", "_law_rules_here", "_law_far", "_law_good", "_law_way", "_law_some", "_law_odd", "_law_at", "_law_many", "_law_k"]
theorem scOdd : FnScope nOdd ["_law_row_here", "_law_letters_here", "_law_rules_here"] (defScope sOdd) := ⟨rfl, rfl, rfl, by decide +kernel, rfl, by decide +kernel, by decide +kernel⟩
def spOdd (K : PySem.W.Frag) : Sp := fun vs H Q _ => ∃ (r a : Addr) (ns : List Int) (L : List Nat) (RT : Addr) (rs : List Rule), vs = [.ref r, .str (T L), .ref RT] ∧ RowAt K H r a ns ∧ L ∈ lets ∧ RulesAt H RT rs ∧ (∀ ρ ∈ rs, RuleOk L ρ) ∧ rs.length ≤ 9 ∧
  ∀ (t u : Addr) (v : V) (p n : Int) (H' : Hp), H' t = some (.tup [v, .ref u]) → H' u = some (.tup [.int p, .int n]) → BadV K H' v p n → (-1 ≤ p ∧ p ≤ 2) → (0 ≤ n ∧ n ≤ 20) → Stp r H H' → RowAt K H' r a ns → Q (.ref t) H'
theorem ok_odd {f : Addr} {fd : FuncData} (F : Fun K "_law_odd_book" "_law_odd_book" sOdd f fd) (B : Bn mg) (DT : Df P w K mg base "_law_taken" ["_law_row_here", "_law_many"] 1 (spTaken K)) :
    FnOk P w K mg base CX0 2 f fd ["_law_row_here", "_law_letters_here", "_law_rules_here"] (spOdd K) := by
  obtain ⟨fT, fdT, GT, kT, bT, mT⟩ := DT
  refine F.ok scOdd (fun vs H Q E h => ?_) (fun cdv A outer s H vs Q E hr h => ?_)
  · obtain ⟨r, a, ns, L, RT, rs, rfl, _⟩ := h
    rfl
  · obtain ⟨r, a, ns, L, RT, rs, rfl, R0, hL, hR0, ok, n9, q⟩ := h
    have hr1 : Room 1 _ := hr.mono (by decide)
    refine ⟨_, pss_cons (ps_set (i := 3) scOdd.nd rfl (.inl rfl) (pe_call GT hr1 (by rfl) mT kT bT .nil pass0 (pa_cons (pv 0) (pa_cons pe_int pa_nil))))
      (pss_cons (ps_set (i := 4) scOdd.nd rfl (.inl rfl) (pe_tup (pa_cons pe_str (pa_cons (pe_ix ix_str (pv 1) pe_int (fun _ _ => rfl)) (pa_cons pe_str (pa_cons pe_str pa_nil))))))
      (pss_cons (ps_set (i := 5) scOdd.nd rfl (.inl rfl) (pe_call GT hr1 (by rfl) mT kT bT .nil pass0 (pa_cons (pv 0) (pa_cons pe_int pa_nil))))
      (pss_cons (ps_if (pt_cmpR op_eq (pv 5) pe_int (nomark _)) (pss_cons (ps_set (i := 6) scOdd.nd rfl (.inl rfl) (pe_lst (pa_cons (pe_tup (pa_cons (pv 1) (pa_cons (pv 2) pa_nil))) (pa_cons (pe_tup (pa_cons (pv 1) (pa_cons (pv 2) (pa_cons (pe_tup pa_nil) (pa_cons (pe_tup pa_nil) pa_nil))))) (pa_cons (pe_lst (pa_cons (pv 1) (pa_cons (pv 2) (pa_cons (pe_tup pa_nil) pa_nil)))) (pa_cons pe_non (pa_cons pe_int (pa_cons (pv 1) pa_nil))))))))
        (pss_one (ps_ret (pe_tup (pa_cons (pe_ix ix_list (pv 6) (pe_call GT hr1 (by rfl) mT kT bT .nil pass0 (pa_cons (pv 0) (pa_cons pe_int pa_nil))) (fun _ _ => rfl)) (pa_cons (pe_tup (pa_cons (pe_op op_sub pe_int pe_int) (pa_cons pe_int pa_nil))) pa_nil)))))) pss_nil)
      (pss_cons (ps_if (pt_cmpR op_eq (pv 5) pe_int (nomark _)) (pss_cons (ps_set (i := 6) scOdd.nd rfl (.inl rfl) (pe_lst (pa_cons pe_str (pa_cons pe_str (pa_cons pe_str (pa_cons pe_str (pa_cons pe_str (pa_cons pe_str (pa_cons pe_str (pa_cons pe_int (pa_cons pe_non (pa_cons (pe_tup (pa_cons pe_str (pa_cons pe_str pa_nil))) (pa_cons pe_str pa_nil)))))))))))))
        (pss_one (ps_ret (pe_tup (pa_cons (pe_tup (pa_cons (pe_ix ix_list (pv 6) (pe_call GT hr1 (by rfl) mT kT bT .nil pass0 (pa_cons (pv 0) (pa_cons pe_int pa_nil))) (fun _ _ => rfl)) (pa_cons pe_int (pa_cons pe_int pa_nil)))) (pa_cons (pe_tup (pa_cons pe_int (pa_cons pe_int pa_nil))) pa_nil)))))) pss_nil)
      (pss_cons (ps_if (pt_cmpR op_eq (pv 5) pe_int (nomark _)) (pss_cons (ps_if (pt_cmpR op_eq (pe_call GT hr1 (by rfl) mT kT bT .nil pass0 (pa_cons (pv 0) (pa_cons pe_int pa_nil))) pe_int (nomark _)) (pss_one (ps_ret (pe_tup (pa_cons (pe_tup (pa_cons (pv 1) (pa_cons (pe_ix ix_list (pe_lst (pa_cons (pe_callTy call_list_of (by rfl) B.lst (by decide +kernel) (pa_cons (pv 2) pa_nil)) (pa_cons pe_non (pa_cons pe_str (pa_cons pe_int pa_nil))))) (pe_call GT hr1 (by rfl) mT kT bT .nil pass0 (pa_cons (pv 0) (pa_cons pe_int pa_nil))) (fun _ _ => rfl)) (pa_cons pe_int pa_nil)))) (pa_cons (pe_tup (pa_cons pe_int (pa_cons pe_int pa_nil))) pa_nil))))) pss_nil)
        (pss_cons (ps_set (i := 7) scOdd.nd rfl (.inl rfl) (pe_lst (pa_cons (pe_tup pa_nil) (pa_cons (pe_slice sl_tupW (pv 4) po_none (po_some pe_int)) (pa_cons (pe_op op_catV (pv 4) (pe_tup (pa_cons pe_str pa_nil))) (pa_cons (pe_callTy call_list_of (by rfl) B.lst (by decide +kernel) (pa_cons (pv 4) pa_nil)) (pa_cons pe_non (pa_cons (pe_tup (pa_cons pe_str (pa_cons pe_str (pa_cons pe_str (pa_cons pe_str pa_nil))))) (pa_cons (pe_tup (pa_cons pe_str (pa_cons (pe_op op_repS pe_str pe_int) (pa_cons pe_str (pa_cons pe_str pa_nil))))) pa_nil)))))))))
        (pss_cons (ps_set (i := 7) scOdd.nd rfl (.inl rfl) (pe_op op_cat (pv 7) (pe_lst (pa_cons (pe_tup (pa_cons pe_str (pa_cons pe_str (pa_cons pe_str (pa_cons pe_str pa_nil))))) (pa_cons (pe_tup (pa_cons pe_str (pa_cons pe_str (pa_cons pe_str (pa_cons pe_str pa_nil))))) (pa_cons (pe_tup (pa_cons pe_str (pa_cons pe_str (pa_cons pe_str (pa_cons pe_str pa_nil))))) (pa_cons (pe_tup (pa_cons pe_str (pa_cons pe_str (pa_cons pe_str (pa_cons pe_str pa_nil))))) pa_nil)))))))
        (pss_cons (ps_set (i := 7) scOdd.nd rfl (.inl rfl) (pe_op op_cat (pv 7) (pe_lst (pa_cons (pe_tup (pa_cons pe_str (pa_cons pe_str (pa_cons pe_str (pa_cons pe_str pa_nil))))) (pa_cons (pe_tup (pa_cons pe_str (pa_cons pe_str (pa_cons pe_int (pa_cons pe_str pa_nil))))) (pa_cons (pe_tup (pa_cons pe_str (pa_cons pe_str (pa_cons pe_str (pa_cons pe_str pa_nil))))) (pa_cons (pe_tup (pa_cons pe_str (pa_cons pe_str (pa_cons pe_str (pa_cons pe_str pa_nil))))) pa_nil)))))))
        (pss_cons (ps_set (i := 7) scOdd.nd rfl (.inl rfl) (pe_op op_cat (pv 7) (pe_lst (pa_cons (pe_tup (pa_cons pe_str (pa_cons pe_str (pa_cons pe_str (pa_cons pe_non pa_nil))))) (pa_cons (pe_tup (pa_cons pe_non (pa_cons pe_str (pa_cons pe_str (pa_cons pe_str pa_nil))))) (pa_cons (pe_tup (pa_cons pe_str (pa_cons pe_int (pa_cons pe_str (pa_cons pe_str pa_nil))))) pa_nil))))))
        (pss_cons (ps_set (i := 8) scOdd.nd rfl (.inl rfl) (pe_call GT hr1 (by rfl) mT kT bT .nil pass0 (pa_cons (pv 0) (pa_cons (pe_op op_add (pe_callB call_len (by rfl) B.len PySem.boot_len (pa_cons (pv 2) pa_nil)) pe_int) pa_nil))))
        (pss_cons (ps_if (pt_cmpR op_eq (pv 3) pe_int (nomark _)) (pss_one (ps_ret (pe_tup (pa_cons (pe_tup (pa_cons (pv 1) (pa_cons (pe_op op_repT (pe_tup (pa_cons (pv 4) pa_nil)) pe_int) (pa_cons (pe_tup pa_nil) pa_nil)))) (pa_cons (pe_tup (pa_cons pe_int (pa_cons pe_int pa_nil))) pa_nil))))) pss_nil)
        (pss_one (ps_ret (pe_tup (pa_cons (pe_tup (pa_cons (pv 1) (pa_cons (pe_op op_catV (pe_op op_catV (pe_slice sl_tupW (pv 2) po_none (po_some (pv 8))) (pe_tup (pa_cons (pe_ix ix_list (pv 7) (pe_call GT hr1 (by rfl) mT kT bT .nil pass0 (pa_cons (pv 0) (pa_cons pe_int pa_nil))) (fun _ _ => rfl)) pa_nil))) (pe_slice sl_tupW (pv 2) (po_some (pv 8)) po_none)) (pa_cons pe_int pa_nil)))) (pa_cons (pe_tup (pa_cons pe_int (pa_cons (pv 8) pa_nil))) pa_nil)))))))))))) pss_nil)
      (pss_cons (ps_set (i := 6) scOdd.nd rfl (.inl rfl) (pe_lst (pa_cons (pe_lst pa_nil) (pa_cons pe_non (pa_cons pe_str (pa_cons pe_int pa_nil))))))
      (pss_cons (ps_if (pt_cmpR op_eq (pe_call GT hr1 (by rfl) mT kT bT .nil pass0 (pa_cons (pv 0) (pa_cons pe_int pa_nil))) pe_int (nomark _)) (pss_one (ps_ret (pe_tup (pa_cons (pe_tup (pa_cons (pv 1) (pa_cons (pv 2) (pa_cons (pe_ix ix_list (pv 6) (pe_call GT hr1 (by rfl) mT kT bT .nil pass0 (pa_cons (pv 0) (pa_cons pe_int pa_nil))) (fun _ _ => rfl)) pa_nil)))) (pa_cons (pe_tup (pa_cons pe_int (pa_cons pe_int pa_nil))) pa_nil))))) pss_nil)
      (pss_cons (ps_set (i := 7) scOdd.nd rfl (.inl rfl) (pe_lst (pa_cons (pe_tup pa_nil) (pa_cons (pe_tup (pa_cons pe_str pa_nil)) (pa_cons (pe_tup (pa_cons pe_str (pa_cons pe_str (pa_cons pe_str pa_nil)))) (pa_cons (pe_lst (pa_cons pe_str (pa_cons pe_str pa_nil))) (pa_cons (pe_tup (pa_cons pe_str (pa_cons pe_str pa_nil))) (pa_cons (pe_tup (pa_cons (pe_op op_repS pe_str pe_int) (pa_cons pe_str pa_nil))) (pa_cons (pe_tup (pa_cons pe_str (pa_cons pe_str pa_nil))) (pa_cons (pe_tup (pa_cons pe_str (pa_cons pe_str pa_nil))) pa_nil))))))))))
      (pss_cons (ps_set (i := 7) scOdd.nd rfl (.inl rfl) (pe_op op_cat (pv 7) (pe_lst (pa_cons (pe_tup (pa_cons pe_str (pa_cons (pe_op op_repS pe_str pe_int) pa_nil))) pa_nil))))
      (pss_cons (ps_set (i := 7) scOdd.nd rfl (.inl rfl) (pe_op op_cat (pv 7) (pe_lst (pa_cons (pe_tup (pa_cons pe_str (pa_cons pe_str pa_nil))) (pa_cons (pe_tup (pa_cons pe_int (pa_cons pe_str pa_nil))) (pa_cons (pe_tup (pa_cons pe_str (pa_cons pe_non pa_nil))) (pa_cons pe_non pa_nil)))))))
      (pss_cons (ps_if (pt_cmpR op_eq (pv 3) pe_int (nomark _)) (pss_cons (ps_set (i := 9) scOdd.nd rfl (.inl rfl) (pe_callTy call_tuple_of (by rfl) B.tup (by decide +kernel) (pa_cons (pe_lc (own := [("_law_k", 10)]) (g := gName 10) rfl scOdd.nd (pi_range1 rfl B.rng (pa_cons pe_int pa_nil)) (blkOk_by (N := nOdd) (sc := defScope sOdd) (by decide +kernel)) (fun _ _ _ _ _ => pg_name (i := 10) scOdd.nd rfl (.inl rfl)) (fun _ _ _ _ _ => pts_nil) (fun _ _ _ _ _ => (pe_tup (pa_cons (pe_op op_add_str (pe_op op_repA pe_str (pe_op op_add (pe_op op_modN (pv 10) pe_int) pe_int)) (pe_op op_repA (pe_ix ix_str (pv 1) pe_int (fun _ _ => rfl)) (pe_op op_fdivN (pv 10) pe_int))) (pa_cons pe_str pa_nil))))) pa_nil)))
        (pss_one (ps_ret (pe_tup (pa_cons (pe_tup (pa_cons (pv 1) (pa_cons (pv 2) (pa_cons (pe_callTy call_tuple_of (by rfl) B.tup (by decide +kernel) (pa_cons (pe_callB cr_sortTT (by rfl) B.srt (by decide +kernel) (pa_cons (pv 9) pa_nil)) pa_nil)) pa_nil)))) (pa_cons (pe_tup (pa_cons pe_int (pa_cons pe_int pa_nil))) pa_nil)))))) pss_nil)
      (pss_one (ps_ret (pe_tup (pa_cons (pe_tup (pa_cons (pv 1) (pa_cons (pv 2) (pa_cons (pe_tup (pa_cons (pe_tup (pa_cons pe_str (pa_cons pe_str pa_nil))) (pa_cons (pe_ix ix_list (pv 7) (pe_call GT hr1 (by rfl) mT kT bT .nil pass0 (pa_cons (pv 0) (pa_cons pe_int pa_nil))) (fun _ _ => rfl)) (pa_cons (pe_tup (pa_cons pe_str (pa_cons pe_int pa_nil))) pa_nil)))) pa_nil)))) (pa_cons (pe_tup (pa_cons pe_int (pa_cons pe_int pa_nil))) pa_nil)))))))))))))))), ?_⟩
    simp only [L2.start, List.length_cons, List.length_nil, List.map_cons, List.map_nil, Nat.zero_add, Nat.reduceAdd, Nat.reduceSub, List.replicate, List.cons_append, List.nil_append, List.set_cons_succ, List.set_cons_zero]
    obtain ⟨c1, Lr, rfl⟩ : ∃ c1 Lr, L = 97 :: c1 :: Lr := by
      simp only [lets, List.mem_cons, List.not_mem_nil, or_false] at hL
      rcases hL with rfl | rfl | rfl | rfl <;> exact ⟨_, _, rfl⟩
    have l4 := (lets_ok hL).2
    have h0 : OS K r a ns RT rs H H := ⟨R0, hR0, fun b o h _ => h⟩
    have fin : ∀ {H1 : Hp}, OS K r a ns RT rs H H1 → ∀ {v : V} {p n : Int}, BadV K H1 v p n → (-1 ≤ p ∧ p ≤ 2) → (0 ≤ n ∧ n ≤ 20) →
        2 ≤ sizeLine ∧ ∀ u, H1 u = none → 2 ≤ sizeLine ∧ ∀ t, (upd H1 u (.tup [.int p, .int n])) t = none → Q (.ref t) (upd (upd H1 u (.tup [.int p, .int n])) t (.tup [v, .ref u])) := fun {H1} h1 {v p n} hb hp hn => by
      refine ⟨by decide, fun u nu => ⟨by decide, fun t nt => ?_⟩⟩
      have s2 := same_new nu (.tup [.int p, .int n])
      have s3 := same_new nt (.tup [v, .ref u])
      have hu : (upd H1 u (.tup [.int p, .int n])) u = some (.tup [.int p, .int n]) := upd_same
      have h3 := h1.same (s2.trans s3)
      exact q t u v p n _ upd_same (s3 _ _ hu) (hb.kp (.of (s2.trans s3))) hp hn h3.st h3.R
    -- drawn
    refine ⟨_, rfl, r, a, ns, 20, rfl, h0.R, by decide, by decide, fun far H1 a1 b1 s1 R1 => ?_⟩
    have h1 := h0.stp s1 R1
    refine ⟨_, rfl, T (97 :: c1 :: Lr), 0, 97, rfl, rfl, (by rw [T_len]; exact small (by omega)), atI_nat (j := 0) rfl, ?_⟩
    refine ⟨(by show 4 ≤ sizeLine; decide), fun gd ngd => ?_⟩
    obtain ⟨H2, e2, m2, hG0⟩ := newH ngd (.tup [.str "", .str (T [97]), .str "", .str "A"])
    rw [show upd H1 gd _ = H2 from e2]
    have h2 := h1.same m2
    refine ⟨_, rfl, r, a, ns, 4, rfl, h2.R, by decide, by decide, fun way HS a3 b3 s3 R3 => ?_⟩
    have hS := h2.stp s3 R3
    have hG := (h2.R.kt s3).1 _ _ hG0
    clear hG0 e2
    simp only [List.set_cons_succ, List.set_cons_zero]
    refine ⟨_, rfl, rfl, _, rfl, ite2 (fun cw => ?_) (fun cw => ?_)⟩
    · clear cw
      refine ⟨_, rfl, ?_⟩
      refine ⟨_, rfl, ?_⟩
      refine ⟨(by show 2 ≤ sizeLine; decide), fun p1 np1 => ?_⟩
      obtain ⟨Ha1, e1, m1, g1⟩ := newH np1 (.tup [.str (T (97 :: c1 :: Lr)), .ref RT])
      rw [show upd HS p1 _ = Ha1 from e1]
      refine ⟨_, rfl, ?_⟩
      refine ⟨_, rfl, ?_⟩
      refine ⟨(by show 0 ≤ sizeLine; decide), fun p2 np2 => ?_⟩
      obtain ⟨Ha2, e2, m2, g2⟩ := newH np2 (.tup [])
      rw [show upd Ha1 p2 _ = Ha2 from e2]
      refine ⟨(by show 0 ≤ sizeLine; decide), fun p3 np3 => ?_⟩
      obtain ⟨Ha3, e3, m3, g3⟩ := newH np3 (.tup [])
      rw [show upd Ha2 p3 _ = Ha3 from e3]
      refine ⟨(by show 4 ≤ sizeLine; decide), fun p4 np4 => ?_⟩
      obtain ⟨Ha4, e4, m4, g4⟩ := newH np4 (.tup [.str (T (97 :: c1 :: Lr)), .ref RT, .ref p2, .ref p3])
      rw [show upd Ha3 p4 _ = Ha4 from e4]
      refine ⟨_, rfl, ?_⟩
      refine ⟨_, rfl, ?_⟩
      refine ⟨(by show 0 ≤ sizeLine; decide), fun p5 np5 => ?_⟩
      obtain ⟨Ha5, e5, m5, g5⟩ := newH np5 (.tup [])
      rw [show upd Ha4 p5 _ = Ha5 from e5]
      refine ⟨(by show 3 ≤ sizeLine; decide), fun p6 np6 => ?_⟩
      obtain ⟨Ha6, e6, m6, g6⟩ := newH np6 (.lst [.str (T (97 :: c1 :: Lr)), .ref RT, .ref p5])
      rw [show upd Ha5 p6 _ = Ha6 from e6]
      refine ⟨_, rfl, ?_⟩
      refine ⟨(by show 6 ≤ sizeLine; decide), fun p7 np7 => ?_⟩
      obtain ⟨Ha7, e7, m7, g7⟩ := newH np7 (.lst [.ref p1, .ref p4, .ref p6, .non, .int 5, .str (T (97 :: c1 :: Lr))])
      rw [show upd Ha6 p7 _ = Ha7 from e7]
      simp only [List.set_cons_succ, List.set_cons_zero]
      have hz := hS.same (m1.trans (m2.trans (m3.trans (m4.trans (m5.trans (m6.trans (m7)))))))
      have nw : r ≠ p7 := hS.R.nw ((m1.trans (m2.trans (m3.trans (m4.trans (m5.trans (m6)))))).free np7)
      obtain ⟨xs, hlen, gD, hAll⟩ : ∃ xs : List V, xs.length = 6 ∧ Ha7 p7 = some (.lst xs) ∧ ∀ x ∈ xs, BadV K Ha7 x (-1) 0 := by
        refine ⟨[.ref p1, .ref p4, .ref p6, .non, .int 5, .str (T (97 :: c1 :: Lr))], rfl, (Same.refl _) _ _ g7, fun x hx => ?_⟩
        simp only [List.mem_cons, List.not_mem_nil, or_false] at hx
        rcases hx with rfl | rfl | rfl | rfl | rfl | rfl
        · exact bad_len ((m2.trans (m3.trans (m4.trans (m5.trans (m6.trans (m7)))))) _ _ g1) (by show ¬ (2 = 3); decide)
        · exact bad_len ((m5.trans (m6.trans (m7))) _ _ g4) (by show ¬ (4 = 3); decide)
        · exact bad_kind (.inr (.inr (.inr ⟨_, _, rfl, .inl (.inl ((m7) _ _ g6))⟩)))
        · exact bad_kind (.inl rfl)
        · exact bad_kind (.inr (.inr (.inl ⟨_, rfl⟩)))
        · exact bad_kind (.inr (.inl ⟨_, rfl⟩))
      clear g1 g2 g3 g4 g5 g6 g7
      refine ⟨_, rfl, _, rfl, r, a, ns, 6, rfl, hz.R, by decide, by decide, fun k HP ka kb sp Rp => ?_⟩
      have hp := hz.stp sp Rp
      have kp := Kp.stp hz.R sp Rp
      obtain ⟨x, hx⟩ : ∃ x, xs[k.toNat]? = some x := ⟨_, List.getElem?_eq_getElem (by omega)⟩
      have bad := hAll x (List.mem_of_getElem? hx)
      refine ⟨p7, _, k, x, rfl, rfl, .inl (.inl (sp _ _ gD (Ne.symm nw))), at_of (j := k.toNat) (by omega) hx, ?_⟩
      refine ⟨_, _, rfl, rfl, ?_⟩
      exact fin hp (bad.kp kp) ⟨by decide, by decide⟩ ⟨by decide, by decide⟩
    refine ⟨_, rfl, rfl, _, rfl, ite2 (fun cw2 => ?_) (fun cw2 => ?_)⟩
    · clear cw cw2
      refine ⟨(by show 2 ≤ sizeLine; decide), fun p1 np1 => ?_⟩
      obtain ⟨Hb1, e1, m1, g1⟩ := newH np1 (.tup [.str "a", .str "b"])
      rw [show upd HS p1 _ = Hb1 from e1]
      refine ⟨(by show 11 ≤ sizeLine; decide), fun p2 np2 => ?_⟩
      obtain ⟨Hb2, e2, m2, g2⟩ := newH np2 (.lst [.str "", .str "a", .str "abcde", .str "ba", .str "aa", .str "aB", .str "a1", .int 5, .non, .ref p1, .str "#a"])
      rw [show upd Hb1 p2 _ = Hb2 from e2]
      simp only [List.set_cons_succ, List.set_cons_zero]
      have hz := hS.same (m1.trans (m2))
      have nw : r ≠ p2 := hS.R.nw ((m1).free np2)
      obtain ⟨xs, hlen, gD, hAll⟩ : ∃ xs : List V, xs.length = 11 ∧ Hb2 p2 = some (.lst xs) ∧ ∀ x ∈ xs, VOk K Hb2 x ∧ letV x = false := by
        refine ⟨[.str "", .str "a", .str "abcde", .str "ba", .str "aa", .str "aB", .str "a1", .int 5, .non, .ref p1, .str "#a"], rfl, (Same.refl _) _ _ g2, fun x hx => ?_⟩
        simp only [List.mem_cons, List.not_mem_nil, or_false] at hx
        rcases hx with rfl | rfl | rfl | rfl | rfl | rfl | rfl | rfl | rfl | rfl | rfl
        · exact ⟨(vok_str (by decide +kernel)), by decide +kernel⟩
        · exact ⟨(vok_str (by decide +kernel)), by decide +kernel⟩
        · exact ⟨(vok_str (by decide +kernel)), by decide +kernel⟩
        · exact ⟨(vok_str (by decide +kernel)), by decide +kernel⟩
        · exact ⟨(vok_str (by decide +kernel)), by decide +kernel⟩
        · exact ⟨(vok_str (by decide +kernel)), by decide +kernel⟩
        · exact ⟨(vok_str (by decide +kernel)), by decide +kernel⟩
        · exact ⟨(.inr (.inr (.inl ⟨_, rfl⟩))), rfl⟩
        · exact ⟨(.inr (.inl rfl)), rfl⟩
        · exact ⟨(.inr (.inr (.inr (.inr ⟨_, _, rfl, .inl (.inl ((m2) _ _ g1))⟩)))), rfl⟩
        · exact ⟨(vok_str (by decide +kernel)), by decide +kernel⟩
      clear g1 g2
      refine ⟨_, rfl, _, rfl, r, a, ns, 11, rfl, hz.R, by decide, by decide, fun k HP ka kb sp Rp => ?_⟩
      have hp := hz.stp sp Rp
      have kp := Kp.stp hz.R sp Rp
      obtain ⟨x, hx⟩ : ∃ x, xs[k.toNat]? = some x := ⟨_, List.getElem?_eq_getElem (by omega)⟩
      have bad := hAll x (List.mem_of_getElem? hx)
      refine ⟨p2, _, k, x, rfl, rfl, .inl (.inl (sp _ _ gD (Ne.symm nw))), at_of (j := k.toNat) (by omega) hx, ?_⟩
      refine ⟨(by show 3 ≤ sizeLine; decide), fun t nt => ?_⟩
      obtain ⟨HT, et, mt, gt⟩ := newH nt (.tup [x, .int 5, .int 5])
      rw [show upd HP t _ = HT from et]
      exact fin (hp.same mt) (bad_lets gt (bad.1.kp (kp.trans (.of mt))) bad.2) ⟨by decide, by decide⟩ ⟨by decide, by decide⟩
    refine ⟨_, rfl, rfl, _, rfl, ite2 (fun cw3 => ?_) (fun cw3 => ?_)⟩
    · clear cw cw2 cw3
      obtain ⟨ts, hRT, hPT⟩ := id hS.hR
      refine ⟨_, rfl, r, a, ns, 5, rfl, hS.R, by decide, by decide, fun k5 HU a5 b5 s5 R5 => ?_⟩
      have hU := hS.stp s5 R5
      have ktU := hS.R.kt s5
      have hGU := ktU.1 _ _ hG
      have hRU := ktU.1 _ _ hRT
      have hPU := paired_mono (fun t ρ h => ktU.1 _ _ h) hPT
      clear hG hRT hPT
      refine ⟨rfl, _, rfl, ite2 (fun c5 => ?_) (fun c5 => ?_)⟩
      · clear c5
        refine ⟨_, rfl, _, rfl, RT, _, rfl, .inr (.inl (.inl hRU)), ?_⟩
        intro lr nlr
        obtain ⟨H6, e6, m6, g6⟩ := newH nlr (.lst (ts.map V.ref))
        rw [show upd HU lr _ = H6 from e6]
        refine ⟨(by show 4 ≤ sizeLine; decide), fun ls nls => ?_⟩
        obtain ⟨H7, e7, m7, g7⟩ := newH nls (.lst [.ref lr, .non, .str "ab", .int 5])
        rw [show upd H6 ls _ = H7 from e7]
        have hz := hU.same (m6.trans m7)
        have nw : r ≠ ls := hU.R.nw (m6.free nls)
        obtain ⟨xs, hlen, gD, hAll⟩ : ∃ xs : List V, xs.length = 4 ∧ H7 ls = some (.lst xs) ∧ ∀ x ∈ xs, NoTup K H7 x := by
          refine ⟨[.ref lr, .non, .str "ab", .int 5], rfl, g7, fun x hx => ?_⟩
          simp only [List.mem_cons, List.not_mem_nil, or_false] at hx
          rcases hx with rfl | rfl | rfl | rfl
          · exact .inr (.inr (.inr ⟨_, _, rfl, .inl (.inl (m7 _ _ g6))⟩))
          · exact .inl rfl
          · exact .inr (.inl ⟨_, rfl⟩)
          · exact .inr (.inr (.inl ⟨_, rfl⟩))
        clear g6 g7
        refine ⟨_, rfl, r, a, ns, 4, rfl, hz.R, by decide, by decide, fun k HP ka kb sp Rp => ?_⟩
        have hp := hz.stp sp Rp
        have kp := Kp.stp hz.R sp Rp
        obtain ⟨x, hx⟩ : ∃ x, xs[k.toNat]? = some x := ⟨_, List.getElem?_eq_getElem (by omega)⟩
        have bad := hAll x (List.mem_of_getElem? hx)
        refine ⟨ls, _, k, x, rfl, rfl, .inl (.inl (sp _ _ gD (Ne.symm nw))), at_of (j := k.toNat) (by omega) hx, ?_⟩
        refine ⟨(by show 3 ≤ sizeLine; decide), fun t nt => ?_⟩
        obtain ⟨HT, et, mt, gt⟩ := newH nt (.tup [.str (T (97 :: c1 :: Lr)), x, .int 5])
        rw [show upd HP t _ = HT from et]
        exact fin (hp.same mt) (bad_rules hL gt (bad.kp (kp.trans (.of mt)))) ⟨by decide, by decide⟩ ⟨by decide, by decide⟩
      have hG := hGU
      refine ⟨(by show 0 ≤ sizeLine; decide), fun p1 np1 => ?_⟩
      obtain ⟨Hc1, e1, m1, g1⟩ := newH np1 (.tup [])
      rw [show upd HU p1 _ = Hc1 from e1]
      refine ⟨_, rfl, 3, rfl, gd, _, rfl, (m1) _ _ hG, fun p2 Hc2 m2 g2 => ?_⟩
      rw [show (3 : Int) = ((3 : Nat) : Int) from rfl, cut_takeW] at g2
      refine ⟨_, rfl, ?_⟩
      refine ⟨(by show 1 ≤ sizeLine; decide), fun p3 np3 => ?_⟩
      obtain ⟨Hc3, e3, m3, g3⟩ := newH np3 (.tup [.str ""])
      rw [show upd Hc2 p3 _ = Hc3 from e3]
      refine ⟨gd, p3, _, _, rfl, rfl, (m1.trans (m2.trans (m3))) _ _ hG, g3, (by show 4 + 1 ≤ sizeLine; decide), fun p4 Hc4 m4 g4 => ?_⟩
      refine ⟨_, rfl, gd, _, rfl, .inr (.inl (.inl ((m1.trans (m2.trans (m3.trans (m4)))) _ _ hG))), ?_⟩
      intro p5 np5
      obtain ⟨Hc5, e5, m5, g5⟩ := newH np5 (.lst [.str "", .str (T [97]), .str "", .str "A"])
      rw [show upd Hc4 p5 _ = Hc5 from e5]
      refine ⟨(by show 4 ≤ sizeLine; decide), fun p6 np6 => ?_⟩
      obtain ⟨Hc6, e6, m6, g6⟩ := newH np6 (.tup [.str "", .str "", .str "", .str "A"])
      rw [show upd Hc5 p6 _ = Hc6 from e6]
      refine ⟨97, 3, (by decide +kernel), rfl, (by decide), (by decide), ?_⟩
      refine ⟨(by show 4 ≤ sizeLine; decide), fun p7 np7 => ?_⟩
      obtain ⟨Hc7, e7, m7, g7⟩ := newH np7 (.tup [.str "", .str (T (List.replicate 3 97)), .str "", .str "A"])
      rw [show upd Hc6 p7 _ = Hc7 from e7]
      refine ⟨(by show 7 ≤ sizeLine; decide), fun p8 np8 => ?_⟩
      obtain ⟨Hc8, e8, m8, g8⟩ := newH np8 (.lst [.ref p1, .ref p2, .ref p4, .ref p5, .non, .ref p6, .ref p7])
      rw [show upd Hc7 p8 _ = Hc8 from e8]
      simp only [List.set_cons_succ, List.set_cons_zero]
      refine ⟨_, rfl, ?_⟩
      refine ⟨(by show 4 ≤ sizeLine; decide), fun p9 np9 => ?_⟩
      obtain ⟨Hc9, e9, m9, g9⟩ := newH np9 (.tup [.str "", .str "z", .str "", .str ""])
      rw [show upd Hc8 p9 _ = Hc9 from e9]
      refine ⟨(by show 4 ≤ sizeLine; decide), fun p10 np10 => ?_⟩
      obtain ⟨Hc10, e10, m10, g10⟩ := newH np10 (.tup [.str "z", .str "a", .str "", .str "A"])
      rw [show upd Hc9 p10 _ = Hc10 from e10]
      refine ⟨(by show 4 ≤ sizeLine; decide), fun p11 np11 => ?_⟩
      obtain ⟨Hc11, e11, m11, g11⟩ := newH np11 (.tup [.str "a#", .str "a", .str "", .str ""])
      rw [show upd Hc10 p11 _ = Hc11 from e11]
      refine ⟨(by show 4 ≤ sizeLine; decide), fun p12 np12 => ?_⟩
      obtain ⟨Hc12, e12, m12, g12⟩ := newH np12 (.tup [.str "aa", .str "a", .str "", .str ""])
      rw [show upd Hc11 p12 _ = Hc12 from e12]
      refine ⟨(by show 4 ≤ sizeLine; decide), fun p13 np13 => ?_⟩
      obtain ⟨Hc13, e13, m13, g13⟩ := newH np13 (.lst [.ref p9, .ref p10, .ref p11, .ref p12])
      rw [show upd Hc12 p13 _ = Hc13 from e13]
      refine ⟨p8, p13, _, _, rfl, rfl, (m9.trans (m10.trans (m11.trans (m12.trans (m13))))) _ _ g8, (Same.refl _) _ _ g13, (by show 7 + 4 ≤ sizeLine; decide), fun p14 np14 => ?_⟩
      obtain ⟨Hc14, e14, m14, g14⟩ := newH np14 (.lst ([.ref p1, .ref p2, .ref p4, .ref p5, .non, .ref p6, .ref p7] ++ [.ref p9, .ref p10, .ref p11, .ref p12]))
      rw [show upd Hc13 p14 _ = Hc14 from e14]
      have g14 : Hc14 p14 = some (.lst [.ref p1, .ref p2, .ref p4, .ref p5, .non, .ref p6, .ref p7, .ref p9, .ref p10, .ref p11, .ref p12]) := g14
      simp only [List.set_cons_succ, List.set_cons_zero]
      refine ⟨_, rfl, ?_⟩
      refine ⟨(by show 4 ≤ sizeLine; decide), fun p15 np15 => ?_⟩
      obtain ⟨Hc15, e15, m15, g15⟩ := newH np15 (.tup [.str "", .str "a", .str "#z", .str ""])
      rw [show upd Hc14 p15 _ = Hc15 from e15]
      refine ⟨(by show 4 ≤ sizeLine; decide), fun p16 np16 => ?_⟩
      obtain ⟨Hc16, e16, m16, g16⟩ := newH np16 (.tup [.str "", .str "a", .int 5, .str ""])
      rw [show upd Hc15 p16 _ = Hc16 from e16]
      refine ⟨(by show 4 ≤ sizeLine; decide), fun p17 np17 => ?_⟩
      obtain ⟨Hc17, e17, m17, g17⟩ := newH np17 (.tup [.str "", .str "a", .str "", .str "ABDE"])
      rw [show upd Hc16 p17 _ = Hc17 from e17]
      refine ⟨(by show 4 ≤ sizeLine; decide), fun p18 np18 => ?_⟩
      obtain ⟨Hc18, e18, m18, g18⟩ := newH np18 (.tup [.str "", .str "a", .str "", .str "a"])
      rw [show upd Hc17 p18 _ = Hc18 from e18]
      refine ⟨(by show 4 ≤ sizeLine; decide), fun p19 np19 => ?_⟩
      obtain ⟨Hc19, e19, m19, g19⟩ := newH np19 (.lst [.ref p15, .ref p16, .ref p17, .ref p18])
      rw [show upd Hc18 p19 _ = Hc19 from e19]
      refine ⟨p14, p19, _, _, rfl, rfl, (m15.trans (m16.trans (m17.trans (m18.trans (m19))))) _ _ g14, (Same.refl _) _ _ g19, (by show 11 + 4 ≤ sizeLine; decide), fun p20 np20 => ?_⟩
      obtain ⟨Hc20, e20, m20, g20⟩ := newH np20 (.lst ([.ref p1, .ref p2, .ref p4, .ref p5, .non, .ref p6, .ref p7, .ref p9, .ref p10, .ref p11, .ref p12] ++ [.ref p15, .ref p16, .ref p17, .ref p18]))
      rw [show upd Hc19 p20 _ = Hc20 from e20]
      have g20 : Hc20 p20 = some (.lst [.ref p1, .ref p2, .ref p4, .ref p5, .non, .ref p6, .ref p7, .ref p9, .ref p10, .ref p11, .ref p12, .ref p15, .ref p16, .ref p17, .ref p18]) := g20
      simp only [List.set_cons_succ, List.set_cons_zero]
      refine ⟨_, rfl, ?_⟩
      refine ⟨(by show 4 ≤ sizeLine; decide), fun p21 np21 => ?_⟩
      obtain ⟨Hc21, e21, m21, g21⟩ := newH np21 (.tup [.str "", .str "a", .str "", .non])
      rw [show upd Hc20 p21 _ = Hc21 from e21]
      refine ⟨(by show 4 ≤ sizeLine; decide), fun p22 np22 => ?_⟩
      obtain ⟨Hc22, e22, m22, g22⟩ := newH np22 (.tup [.non, .str "a", .str "", .str ""])
      rw [show upd Hc21 p22 _ = Hc22 from e22]
      refine ⟨(by show 4 ≤ sizeLine; decide), fun p23 np23 => ?_⟩
      obtain ⟨Hc23, e23, m23, g23⟩ := newH np23 (.tup [.str "", .int 5, .str "", .str ""])
      rw [show upd Hc22 p23 _ = Hc23 from e23]
      refine ⟨(by show 3 ≤ sizeLine; decide), fun p24 np24 => ?_⟩
      obtain ⟨Hc24, e24, m24, g24⟩ := newH np24 (.lst [.ref p21, .ref p22, .ref p23])
      rw [show upd Hc23 p24 _ = Hc24 from e24]
      refine ⟨p20, p24, _, _, rfl, rfl, (m21.trans (m22.trans (m23.trans (m24)))) _ _ g20, (Same.refl _) _ _ g24, (by show 15 + 3 ≤ sizeLine; decide), fun p25 np25 => ?_⟩
      obtain ⟨Hc25, e25, m25, g25⟩ := newH np25 (.lst ([.ref p1, .ref p2, .ref p4, .ref p5, .non, .ref p6, .ref p7, .ref p9, .ref p10, .ref p11, .ref p12, .ref p15, .ref p16, .ref p17, .ref p18] ++ [.ref p21, .ref p22, .ref p23]))
      rw [show upd Hc24 p25 _ = Hc25 from e25]
      have g25 : Hc25 p25 = some (.lst [.ref p1, .ref p2, .ref p4, .ref p5, .non, .ref p6, .ref p7, .ref p9, .ref p10, .ref p11, .ref p12, .ref p15, .ref p16, .ref p17, .ref p18, .ref p21, .ref p22, .ref p23]) := g25
      simp only [List.set_cons_succ, List.set_cons_zero]
      have hz := hU.same (m1.trans (m2.trans (m3.trans (m4.trans (m5.trans (m6.trans (m7.trans (m8.trans (m9.trans (m10.trans (m11.trans (m12.trans (m13.trans (m14.trans (m15.trans (m16.trans (m17.trans (m18.trans (m19.trans (m20.trans (m21.trans (m22.trans (m23.trans (m24.trans (m25)))))))))))))))))))))))))
      have nw : r ≠ p25 := hU.R.nw ((m1.trans (m2.trans (m3.trans (m4.trans (m5.trans (m6.trans (m7.trans (m8.trans (m9.trans (m10.trans (m11.trans (m12.trans (m13.trans (m14.trans (m15.trans (m16.trans (m17.trans (m18.trans (m19.trans (m20.trans (m21.trans (m22.trans (m23.trans (m24)))))))))))))))))))))))).free np25)
      have ex : ∃ xs : List V, xs.length = 18 ∧ Hc25 p25 = some (.lst xs) ∧ ∀ x ∈ xs, RulR K Hc25 (97 :: c1 :: Lr) x false := by
        refine ⟨[.ref p1, .ref p2, .ref p4, .ref p5, .non, .ref p6, .ref p7, .ref p9, .ref p10, .ref p11, .ref p12, .ref p15, .ref p16, .ref p17, .ref p18, .ref p21, .ref p22, .ref p23], rfl, (Same.refl _) _ _ g25, fun x hx => ?_⟩
        simp only [List.mem_cons, List.not_mem_nil, or_false] at hx
        rcases hx with rfl | rfl | rfl | rfl | rfl | rfl | rfl | rfl | rfl | rfl | rfl | rfl | rfl | rfl | rfl | rfl | rfl | rfl
        · exact rul_len ((m2.trans (m3.trans (m4.trans (m5.trans (m6.trans (m7.trans (m8.trans (m9.trans (m10.trans (m11.trans (m12.trans (m13.trans (m14.trans (m15.trans (m16.trans (m17.trans (m18.trans (m19.trans (m20.trans (m21.trans (m22.trans (m23.trans (m24.trans (m25)))))))))))))))))))))))) _ _ g1) (by show ¬ (0 = 4); decide)
        · exact rul_len ((m3.trans (m4.trans (m5.trans (m6.trans (m7.trans (m8.trans (m9.trans (m10.trans (m11.trans (m12.trans (m13.trans (m14.trans (m15.trans (m16.trans (m17.trans (m18.trans (m19.trans (m20.trans (m21.trans (m22.trans (m23.trans (m24.trans (m25))))))))))))))))))))))) _ _ g2) (by show ¬ (3 = 4); decide)
        · exact rul_len ((m5.trans (m6.trans (m7.trans (m8.trans (m9.trans (m10.trans (m11.trans (m12.trans (m13.trans (m14.trans (m15.trans (m16.trans (m17.trans (m18.trans (m19.trans (m20.trans (m21.trans (m22.trans (m23.trans (m24.trans (m25))))))))))))))))))))) _ _ g4) (by show ¬ (5 = 4); decide)
        · exact rul_kind (.inr (.inr (.inr ⟨_, _, rfl, .inl (.inl ((m6.trans (m7.trans (m8.trans (m9.trans (m10.trans (m11.trans (m12.trans (m13.trans (m14.trans (m15.trans (m16.trans (m17.trans (m18.trans (m19.trans (m20.trans (m21.trans (m22.trans (m23.trans (m24.trans (m25)))))))))))))))))))) _ _ g5))⟩)))
        · exact rul_kind (.inl rfl)
        · exact rul_badV ((m7.trans (m8.trans (m9.trans (m10.trans (m11.trans (m12.trans (m13.trans (m14.trans (m15.trans (m16.trans (m17.trans (m18.trans (m19.trans (m20.trans (m21.trans (m22.trans (m23.trans (m24.trans (m25))))))))))))))))))) _ _ g6) (vok_str (by decide +kernel)) (vok_str (by decide +kernel)) (vok_str (by decide +kernel)) (vok_str (by decide +kernel)) ((by decide +kernel : ∀ l ∈ lets, rulV l (.str "") (.str "") (.str "") (.str "A") = false) _ hL)
        · exact rul_badV ((m8.trans (m9.trans (m10.trans (m11.trans (m12.trans (m13.trans (m14.trans (m15.trans (m16.trans (m17.trans (m18.trans (m19.trans (m20.trans (m21.trans (m22.trans (m23.trans (m24.trans (m25)))))))))))))))))) _ _ g7) (vok_str (by decide +kernel)) (vok_str (by decide +kernel)) (vok_str (by decide +kernel)) (vok_str (by decide +kernel)) ((by decide +kernel : ∀ l ∈ lets, rulV l (.str "") (.str (T (List.replicate 3 97))) (.str "") (.str "A") = false) _ hL)
        · exact rul_badV ((m10.trans (m11.trans (m12.trans (m13.trans (m14.trans (m15.trans (m16.trans (m17.trans (m18.trans (m19.trans (m20.trans (m21.trans (m22.trans (m23.trans (m24.trans (m25)))))))))))))))) _ _ g9) (vok_str (by decide +kernel)) (vok_str (by decide +kernel)) (vok_str (by decide +kernel)) (vok_str (by decide +kernel)) ((by decide +kernel : ∀ l ∈ lets, rulV l (.str "") (.str "z") (.str "") (.str "") = false) _ hL)
        · exact rul_badV ((m11.trans (m12.trans (m13.trans (m14.trans (m15.trans (m16.trans (m17.trans (m18.trans (m19.trans (m20.trans (m21.trans (m22.trans (m23.trans (m24.trans (m25))))))))))))))) _ _ g10) (vok_str (by decide +kernel)) (vok_str (by decide +kernel)) (vok_str (by decide +kernel)) (vok_str (by decide +kernel)) ((by decide +kernel : ∀ l ∈ lets, rulV l (.str "z") (.str "a") (.str "") (.str "A") = false) _ hL)
        · exact rul_badV ((m12.trans (m13.trans (m14.trans (m15.trans (m16.trans (m17.trans (m18.trans (m19.trans (m20.trans (m21.trans (m22.trans (m23.trans (m24.trans (m25)))))))))))))) _ _ g11) (vok_str (by decide +kernel)) (vok_str (by decide +kernel)) (vok_str (by decide +kernel)) (vok_str (by decide +kernel)) ((by decide +kernel : ∀ l ∈ lets, rulV l (.str "a#") (.str "a") (.str "") (.str "") = false) _ hL)
        · exact rul_badV ((m13.trans (m14.trans (m15.trans (m16.trans (m17.trans (m18.trans (m19.trans (m20.trans (m21.trans (m22.trans (m23.trans (m24.trans (m25))))))))))))) _ _ g12) (vok_str (by decide +kernel)) (vok_str (by decide +kernel)) (vok_str (by decide +kernel)) (vok_str (by decide +kernel)) ((by decide +kernel : ∀ l ∈ lets, rulV l (.str "aa") (.str "a") (.str "") (.str "") = false) _ hL)
        · exact rul_badV ((m16.trans (m17.trans (m18.trans (m19.trans (m20.trans (m21.trans (m22.trans (m23.trans (m24.trans (m25)))))))))) _ _ g15) (vok_str (by decide +kernel)) (vok_str (by decide +kernel)) (vok_str (by decide +kernel)) (vok_str (by decide +kernel)) ((by decide +kernel : ∀ l ∈ lets, rulV l (.str "") (.str "a") (.str "#z") (.str "") = false) _ hL)
        · exact rul_badV ((m17.trans (m18.trans (m19.trans (m20.trans (m21.trans (m22.trans (m23.trans (m24.trans (m25))))))))) _ _ g16) (vok_str (by decide +kernel)) (vok_str (by decide +kernel)) (.inr (.inr (.inl ⟨_, rfl⟩))) (vok_str (by decide +kernel)) ((by decide +kernel : ∀ l ∈ lets, rulV l (.str "") (.str "a") (.int 5) (.str "") = false) _ hL)
        · exact rul_badV ((m18.trans (m19.trans (m20.trans (m21.trans (m22.trans (m23.trans (m24.trans (m25)))))))) _ _ g17) (vok_str (by decide +kernel)) (vok_str (by decide +kernel)) (vok_str (by decide +kernel)) (vok_str (by decide +kernel)) ((by decide +kernel : ∀ l ∈ lets, rulV l (.str "") (.str "a") (.str "") (.str "ABDE") = false) _ hL)
        · exact rul_badV ((m19.trans (m20.trans (m21.trans (m22.trans (m23.trans (m24.trans (m25))))))) _ _ g18) (vok_str (by decide +kernel)) (vok_str (by decide +kernel)) (vok_str (by decide +kernel)) (vok_str (by decide +kernel)) ((by decide +kernel : ∀ l ∈ lets, rulV l (.str "") (.str "a") (.str "") (.str "a") = false) _ hL)
        · exact rul_badV ((m22.trans (m23.trans (m24.trans (m25)))) _ _ g21) (vok_str (by decide +kernel)) (vok_str (by decide +kernel)) (vok_str (by decide +kernel)) (.inr (.inl rfl)) ((by decide +kernel : ∀ l ∈ lets, rulV l (.str "") (.str "a") (.str "") (.non) = false) _ hL)
        · exact rul_badV ((m23.trans (m24.trans (m25))) _ _ g22) (.inr (.inl rfl)) (vok_str (by decide +kernel)) (vok_str (by decide +kernel)) (vok_str (by decide +kernel)) ((by decide +kernel : ∀ l ∈ lets, rulV l (.non) (.str "a") (.str "") (.str "") = false) _ hL)
        · exact rul_badV ((m24.trans (m25)) _ _ g23) (vok_str (by decide +kernel)) (.inr (.inr (.inl ⟨_, rfl⟩))) (vok_str (by decide +kernel)) (vok_str (by decide +kernel)) ((by decide +kernel : ∀ l ∈ lets, rulV l (.str "") (.int 5) (.str "") (.str "") = false) _ hL)
      obtain ⟨xs, hlen, gD, hAll⟩ := ex
      have hGz := (m1.trans (m2.trans (m3.trans (m4.trans (m5.trans (m6.trans (m7.trans (m8.trans (m9.trans (m10.trans (m11.trans (m12.trans (m13.trans (m14.trans (m15.trans (m16.trans (m17.trans (m18.trans (m19.trans (m20.trans (m21.trans (m22.trans (m23.trans (m24.trans (m25))))))))))))))))))))))))) _ _ hG
      clear g1 g2 g3 g4 g5 g6 g7 g8 g9 g10 g11 g12 g13 g14 g15 g16 g17 g18 g19 g20 g21 g22 g23 g24 g25
      have hRz := (m1.trans (m2.trans (m3.trans (m4.trans (m5.trans (m6.trans (m7.trans (m8.trans (m9.trans (m10.trans (m11.trans (m12.trans (m13.trans (m14.trans (m15.trans (m16.trans (m17.trans (m18.trans (m19.trans (m20.trans (m21.trans (m22.trans (m23.trans (m24.trans (m25))))))))))))))))))))))))) _ _ hRU
      have hPz := paired_mono (fun t ρ h => (m1.trans (m2.trans (m3.trans (m4.trans (m5.trans (m6.trans (m7.trans (m8.trans (m9.trans (m10.trans (m11.trans (m12.trans (m13.trans (m14.trans (m15.trans (m16.trans (m17.trans (m18.trans (m19.trans (m20.trans (m21.trans (m22.trans (m23.trans (m24.trans (m25))))))))))))))))))))))))) _ _ h) hPU
      have lP := paired_len hPz
      clear hGU hRU hPU hG
      refine ⟨_, rfl, _, rfl, _, _, rfl, .inr ⟨_, .inl (.inl hRz), rfl⟩, _, _, rfl, rfl, r, a, ns, _, rfl, hz.R, ?_, ?_, fun at0 HV aV bV sV RV => ?_⟩
      · omega
      · rw [List.length_map]; omega
      rw [List.length_map] at bV
      obtain ⟨pa, rfl⟩ : ∃ n : Nat, at0 = n := ⟨at0.toNat, by omega⟩
      have hV := hz.stp sV RV
      have ktV := hz.R.kt sV
      have kpV := Kp.stp hz.R sV RV
      have gDV := sV _ _ gD (Ne.symm nw)
      have hAV : ∀ x ∈ xs, RulR K HV (97 :: c1 :: Lr) x false := fun x hx => (hAll x hx).kp kpV
      have hGV := ktV.1 _ _ hGz
      have hRV := ktV.1 _ _ hRz
      have hPV := paired_mono (fun t ρ h => ktV.1 _ _ h) hPz
      clear hAll gD hGz hRz hPz
      simp only [List.set_cons_succ, List.set_cons_zero]
      refine ⟨_, rfl, rfl, _, rfl, ite2 (fun cf => ?_) (fun cf => ?_)⟩
      · clear cf
        refine ⟨_, rfl, _, rfl, (by show 1 ≤ sizeLine; decide), fun t1 nt1 => ?_⟩
        obtain ⟨K1, f1, n1, y1⟩ := newH nt1 (.tup [.ref gd])
        rw [show upd HV t1 _ = K1 from f1]
        refine ⟨t1, 13, [.ref gd], rfl, rfl, .inl (.inl y1), (fun z => nomatch z), by decide, by decide, (by show 1 ≤ 1000; decide), fun t2 nt2 => ?_⟩
        obtain ⟨K2, f2, n2, y2⟩ := newH nt2 (.tup (List.replicate (13 : Int).toNat [V.ref gd]).flatten)
        rw [show upd K1 t2 _ = K2 from f2]
        have y2 : K2 t2 = some (.tup (List.replicate 13 (V.ref gd))) := y2
        refine ⟨(by show 0 ≤ sizeLine; decide), fun t3 nt3 => ?_⟩
        obtain ⟨HP, f3, n3, y3⟩ := newH nt3 (.tup [])
        rw [show upd K2 t3 _ = HP from f3]
        have hp := hV.same (n1.trans (n2.trans n3))
        refine ⟨(by show 3 ≤ sizeLine; decide), fun t nt => ?_⟩
        obtain ⟨HT, et, mt, gt⟩ := newH nt (.tup [.str (T (97 :: c1 :: Lr)), .ref t2, .ref t3])
        rw [show upd HP t _ = HT from et]
        exact fin (hp.same mt) (bad_many (ρ := rulA) hL (by rw [rulA_vs]; exact (n1.trans (n2.trans (n3.trans mt))) _ _ hGV) (rulA_ok (List.mem_cons_self ..)) gt ((n3.trans mt) _ _ y2)) ⟨by decide, by decide⟩ ⟨by decide, by decide⟩
      refine ⟨_, rfl, _, rfl, _, rfl, pa, rfl, RT, _, rfl, hRV, fun u1 K1 n1 y1 => ?_⟩
      rw [cut_takeW] at y1
      have h1 := hV.same n1
      refine ⟨_, rfl, _, rfl, r, a, ns, 18, rfl, h1.R, by decide, by decide, fun k HP ka kb sp Rp => ?_⟩
      have hp0 := h1.stp sp Rp
      have ktP := h1.R.kt sp
      obtain ⟨x, hx⟩ : ∃ x, xs[k.toNat]? = some x := ⟨_, List.getElem?_eq_getElem (by omega)⟩
      have bad := ((hAV x (List.mem_of_getElem? hx)).kp (.of n1)).kp (Kp.stp h1.R sp Rp)
      refine ⟨p25, _, k, x, rfl, rfl, .inl (.inl (sp _ _ (n1 _ _ gDV) (Ne.symm nw))), at_of (j := k.toNat) (by omega) hx, ?_⟩
      refine ⟨(by show 1 ≤ sizeLine; decide), fun u2 nu2 => ?_⟩
      obtain ⟨K3, f3, n3, y3⟩ := newH nu2 (.tup [x])
      rw [show upd HP u2 _ = K3 from f3]
      refine ⟨u1, u2, _, _, rfl, rfl, n3 _ _ (ktP.1 _ _ y1), y3, ?_, fun u3 K4 n4 y4 => ?_⟩
      · rw [List.length_take, List.length_map]
        show _ + 1 ≤ _
        exact small (by omega)
      have hRP := ktP.1 _ _ (n1 _ _ hRV)
      refine ⟨_, rfl, _, rfl, pa, rfl, RT, _, rfl, (n3.trans n4) _ _ hRP, fun u4 K5 n5 y5 => ?_⟩
      rw [cutDrop] at y5
      refine ⟨u3, u4, _, _, rfl, rfl, n5 _ _ y4, y5, ?_, fun u5 K6 n6 y6 => ?_⟩
      · rw [List.length_append, List.length_take, List.length_drop, List.length_map]
        show _ + 1 + _ ≤ _
        exact small (by omega)
      have m36 := n3.trans (n4.trans (n5.trans n6))
      have hp := hp0.same m36
      refine ⟨(by show 3 ≤ sizeLine; decide), fun t nt => ?_⟩
      obtain ⟨HT, et, mt, gt⟩ := newH nt (.tup [.str (T (97 :: c1 :: Lr)), .ref u5, .int 5])
      rw [show upd K6 t _ = HT from et]
      refine ⟨_, rfl, ?_⟩
      exact fin (hp.same mt) (bad_rule hL (paired_mono (fun t ρ h => (m36.trans mt) _ _ (ktP.1 _ _ (n1 _ _ h))) hPV) ok n9 (by omega) gt (mt _ _ y6) (bad.kp (.of (m36.trans mt)))) ⟨by decide, by decide⟩ ⟨by omega, by omega⟩
    clear cw cw2 cw3
    have za : Str.ofString "a" = T [97] := by decide +kernel
    have hRS := hS.hR
    refine ⟨(by show 0 ≤ sizeLine; decide), fun p1 np1 => ?_⟩
    obtain ⟨Hd1, e1, m1, g1⟩ := newH np1 (.lst [])
    rw [show upd HS p1 _ = Hd1 from e1]
    refine ⟨(by show 4 ≤ sizeLine; decide), fun p2 np2 => ?_⟩
    obtain ⟨Hd2, e2, m2, g2⟩ := newH np2 (.lst [.ref p1, .non, .str "ab", .int 5])
    rw [show upd Hd1 p2 _ = Hd2 from e2]
    simp only [List.set_cons_succ, List.set_cons_zero]
    have hz := hS.same (m1.trans (m2))
    have nw : r ≠ p2 := hS.R.nw ((m1).free np2)
    have ex : ∃ xs : List V, xs.length = 4 ∧ Hd2 p2 = some (.lst xs) ∧ ∀ x ∈ xs, NoTup K Hd2 x := by
      refine ⟨[.ref p1, .non, .str "ab", .int 5], rfl, (Same.refl _) _ _ g2, fun x hx => ?_⟩
      simp only [List.mem_cons, List.not_mem_nil, or_false] at hx
      rcases hx with rfl | rfl | rfl | rfl
      · exact .inr (.inr (.inr ⟨_, _, rfl, .inl (.inl ((m2) _ _ g1))⟩))
      · exact .inl rfl
      · exact .inr (.inl ⟨_, rfl⟩)
      · exact .inr (.inr (.inl ⟨_, rfl⟩))
    obtain ⟨xs, hlen, gD, hAll⟩ := ex
    have hGz := (m1.trans (m2)) _ _ hG
    clear g1 g2
    have hRz := hRS.kt (.of (m1.trans (m2)))
    refine ⟨_, rfl, r, a, ns, 5, rfl, hz.R, by decide, by decide, fun k5 HU a5 b5 s5 R5 => ?_⟩
    have hU := hz.stp s5 R5
    have ktU := hz.R.kt s5
    have hGU := ktU.1 _ _ hGz
    have kpU := Kp.stp hz.R s5 R5
    have gDU := s5 _ _ gD (Ne.symm nw)
    have hRU := hRz.kt ktU
    clear hG hGz hRz hRS
    refine ⟨rfl, _, rfl, ite2 (fun c5 => ?_) (fun c5 => ?_)⟩
    · clear c5
      refine ⟨_, rfl, _, rfl, _, rfl, _, rfl, r, a, ns, 4, rfl, hU.R, by decide, by decide, fun k HP ka kb sp Rp => ?_⟩
      have hp := hU.stp sp Rp
      have kp := kpU.trans (Kp.stp hU.R sp Rp)
      obtain ⟨x, hx⟩ : ∃ x, xs[k.toNat]? = some x := ⟨_, List.getElem?_eq_getElem (by omega)⟩
      have bad := hAll x (List.mem_of_getElem? hx)
      refine ⟨p2, _, k, x, rfl, rfl, .inl (.inl (sp _ _ gDU (Ne.symm nw))), at_of (j := k.toNat) (by omega) hx, ?_⟩
      refine ⟨(by show 3 ≤ sizeLine; decide), fun t nt => ?_⟩
      obtain ⟨HT, et, mt, gt⟩ := newH nt (.tup [.str (T (97 :: c1 :: Lr)), .ref RT, x])
      rw [show upd HP t _ = HT from et]
      exact fin (hp.same mt) (bad_excs hL ((hRU.kt (hU.R.kt sp)).kt (.of mt)) ok (by omega) gt (bad.kp (kp.trans (.of mt)))) ⟨by decide, by decide⟩ ⟨by decide, by decide⟩
    clear hAll gD gDU kpU hlen nw
    have hG := hGU
    refine ⟨(by show 0 ≤ sizeLine; decide), fun p3 np3 => ?_⟩
    obtain ⟨Hd3, e3, m3, g3⟩ := newH np3 (.tup [])
    rw [show upd HU p3 _ = Hd3 from e3]
    refine ⟨(by show 1 ≤ sizeLine; decide), fun p4 np4 => ?_⟩
    obtain ⟨Hd4, e4, m4, g4⟩ := newH np4 (.tup [.str "a"])
    rw [show upd Hd3 p4 _ = Hd4 from e4]
    refine ⟨(by show 3 ≤ sizeLine; decide), fun p5 np5 => ?_⟩
    obtain ⟨Hd5, e5, m5, g5⟩ := newH np5 (.tup [.str "ab", .str "A", .str "A"])
    rw [show upd Hd4 p5 _ = Hd5 from e5]
    refine ⟨(by show 2 ≤ sizeLine; decide), fun p6 np6 => ?_⟩
    obtain ⟨Hd6, e6, m6, g6⟩ := newH np6 (.lst [.str "ab", .str "A"])
    rw [show upd Hd5 p6 _ = Hd6 from e6]
    refine ⟨(by show 2 ≤ sizeLine; decide), fun p7 np7 => ?_⟩
    obtain ⟨Hd7, e7, m7, g7⟩ := newH np7 (.tup [.str "", .str "A"])
    rw [show upd Hd6 p7 _ = Hd7 from e7]
    refine ⟨97, 9, (by decide +kernel), rfl, (by decide), (by decide), ?_⟩
    refine ⟨(by show 2 ≤ sizeLine; decide), fun p8 np8 => ?_⟩
    obtain ⟨Hd8, e8, m8, g8⟩ := newH np8 (.tup [.str (T (List.replicate 9 97)), .str "A"])
    rw [show upd Hd7 p8 _ = Hd8 from e8]
    refine ⟨(by show 2 ≤ sizeLine; decide), fun p9 np9 => ?_⟩
    obtain ⟨Hd9, e9, m9, g9⟩ := newH np9 (.tup [.str "az", .str "A"])
    rw [show upd Hd8 p9 _ = Hd9 from e9]
    refine ⟨(by show 2 ≤ sizeLine; decide), fun p10 np10 => ?_⟩
    obtain ⟨Hd10, e10, m10, g10⟩ := newH np10 (.tup [.str "b", .str "a"])
    rw [show upd Hd9 p10 _ = Hd10 from e10]
    refine ⟨(by show 8 ≤ sizeLine; decide), fun p11 np11 => ?_⟩
    obtain ⟨Hd11, e11, m11, g11⟩ := newH np11 (.lst [.ref p3, .ref p4, .ref p5, .ref p6, .ref p7, .ref p8, .ref p9, .ref p10])
    rw [show upd Hd10 p11 _ = Hd11 from e11]
    simp only [List.set_cons_succ, List.set_cons_zero]
    refine ⟨_, rfl, ?_⟩
    refine ⟨65, 37, (by decide +kernel), rfl, (by decide), (by decide), ?_⟩
    refine ⟨(by show 2 ≤ sizeLine; decide), fun p12 np12 => ?_⟩
    obtain ⟨Hd12, e12, m12, g12⟩ := newH np12 (.tup [.str "b", .str (T (List.replicate 37 65))])
    rw [show upd Hd11 p12 _ = Hd12 from e12]
    refine ⟨(by show 1 ≤ sizeLine; decide), fun p13 np13 => ?_⟩
    obtain ⟨Hd13, e13, m13, g13⟩ := newH np13 (.lst [.ref p12])
    rw [show upd Hd12 p13 _ = Hd13 from e13]
    refine ⟨p11, p13, _, _, rfl, rfl, (m12.trans (m13)) _ _ g11, (Same.refl _) _ _ g13, (by show 8 + 1 ≤ sizeLine; decide), fun p14 np14 => ?_⟩
    obtain ⟨Hd14, e14, m14, g14⟩ := newH np14 (.lst ([.ref p3, .ref p4, .ref p5, .ref p6, .ref p7, .ref p8, .ref p9, .ref p10] ++ [.ref p12]))
    rw [show upd Hd13 p14 _ = Hd14 from e14]
    have g14 : Hd14 p14 = some (.lst [.ref p3, .ref p4, .ref p5, .ref p6, .ref p7, .ref p8, .ref p9, .ref p10, .ref p12]) := g14
    simp only [List.set_cons_succ, List.set_cons_zero]
    refine ⟨_, rfl, ?_⟩
    refine ⟨(by show 2 ≤ sizeLine; decide), fun p15 np15 => ?_⟩
    obtain ⟨Hd15, e15, m15, g15⟩ := newH np15 (.tup [.str "a", .str "A"])
    rw [show upd Hd14 p15 _ = Hd15 from e15]
    refine ⟨(by show 2 ≤ sizeLine; decide), fun p16 np16 => ?_⟩
    obtain ⟨Hd16, e16, m16, g16⟩ := newH np16 (.tup [.int 5, .str "A"])
    rw [show upd Hd15 p16 _ = Hd16 from e16]
    refine ⟨(by show 2 ≤ sizeLine; decide), fun p17 np17 => ?_⟩
    obtain ⟨Hd17, e17, m17, g17⟩ := newH np17 (.tup [.str "b", .non])
    rw [show upd Hd16 p17 _ = Hd17 from e17]
    refine ⟨(by show 4 ≤ sizeLine; decide), fun p18 np18 => ?_⟩
    obtain ⟨Hd18, e18, m18, g18⟩ := newH np18 (.lst [.ref p15, .ref p16, .ref p17, .non])
    rw [show upd Hd17 p18 _ = Hd18 from e18]
    refine ⟨p14, p18, _, _, rfl, rfl, (m15.trans (m16.trans (m17.trans (m18)))) _ _ g14, (Same.refl _) _ _ g18, (by show 9 + 4 ≤ sizeLine; decide), fun p19 np19 => ?_⟩
    obtain ⟨Hd19, e19, m19, g19⟩ := newH np19 (.lst ([.ref p3, .ref p4, .ref p5, .ref p6, .ref p7, .ref p8, .ref p9, .ref p10, .ref p12] ++ [.ref p15, .ref p16, .ref p17, .non]))
    rw [show upd Hd18 p19 _ = Hd19 from e19]
    have g19 : Hd19 p19 = some (.lst [.ref p3, .ref p4, .ref p5, .ref p6, .ref p7, .ref p8, .ref p9, .ref p10, .ref p12, .ref p15, .ref p16, .ref p17, .non]) := g19
    simp only [List.set_cons_succ, List.set_cons_zero]
    clear hz
    have hz := hU.same (m3.trans (m4.trans (m5.trans (m6.trans (m7.trans (m8.trans (m9.trans (m10.trans (m11.trans (m12.trans (m13.trans (m14.trans (m15.trans (m16.trans (m17.trans (m18.trans (m19)))))))))))))))))
    have nw : r ≠ p19 := hU.R.nw ((m3.trans (m4.trans (m5.trans (m6.trans (m7.trans (m8.trans (m9.trans (m10.trans (m11.trans (m12.trans (m13.trans (m14.trans (m15.trans (m16.trans (m17.trans (m18)))))))))))))))).free np19)
    have ex : ∃ xs : List V, xs.length = 13 ∧ Hd19 p19 = some (.lst xs) ∧ ∀ x ∈ xs, ∃ w, ExcR K Hd19 (97 :: c1 :: Lr) x w ∧ (w = none ∨ ∃ z, w = some z ∧ ¬ [97] < z) := by
      refine ⟨[.ref p3, .ref p4, .ref p5, .ref p6, .ref p7, .ref p8, .ref p9, .ref p10, .ref p12, .ref p15, .ref p16, .ref p17, .non], rfl, (Same.refl _) _ _ g19, fun x hx => ?_⟩
      simp only [List.mem_cons, List.not_mem_nil, or_false] at hx
      rcases hx with rfl | rfl | rfl | rfl | rfl | rfl | rfl | rfl | rfl | rfl | rfl | rfl | rfl
      · exact ⟨none, exc_len ((m4.trans (m5.trans (m6.trans (m7.trans (m8.trans (m9.trans (m10.trans (m11.trans (m12.trans (m13.trans (m14.trans (m15.trans (m16.trans (m17.trans (m18.trans (m19)))))))))))))))) _ _ g3) (by show ¬ (0 = 2); decide), .inl rfl⟩
      · exact ⟨none, exc_len ((m5.trans (m6.trans (m7.trans (m8.trans (m9.trans (m10.trans (m11.trans (m12.trans (m13.trans (m14.trans (m15.trans (m16.trans (m17.trans (m18.trans (m19))))))))))))))) _ _ g4) (by show ¬ (1 = 2); decide), .inl rfl⟩
      · exact ⟨none, exc_len ((m6.trans (m7.trans (m8.trans (m9.trans (m10.trans (m11.trans (m12.trans (m13.trans (m14.trans (m15.trans (m16.trans (m17.trans (m18.trans (m19)))))))))))))) _ _ g5) (by show ¬ (3 = 2); decide), .inl rfl⟩
      · exact ⟨none, exc_kind (.inr (.inr (.inr ⟨_, _, rfl, .inl (.inl ((m7.trans (m8.trans (m9.trans (m10.trans (m11.trans (m12.trans (m13.trans (m14.trans (m15.trans (m16.trans (m17.trans (m18.trans (m19))))))))))))) _ _ g6))⟩))), .inl rfl⟩
      · exact ⟨none, exc_badV ((m8.trans (m9.trans (m10.trans (m11.trans (m12.trans (m13.trans (m14.trans (m15.trans (m16.trans (m17.trans (m18.trans (m19)))))))))))) _ _ g7) (vok_str (by decide +kernel)) (vok_str (by decide +kernel)) ((by decide +kernel : ∀ l ∈ lets, excV l (.str "") (.str "A") = false) _ hL), .inl rfl⟩
      · exact ⟨none, exc_badV ((m9.trans (m10.trans (m11.trans (m12.trans (m13.trans (m14.trans (m15.trans (m16.trans (m17.trans (m18.trans (m19))))))))))) _ _ g8) (vok_str (by decide +kernel)) (vok_str (by decide +kernel)) ((by decide +kernel : ∀ l ∈ lets, excV l (.str (T (List.replicate 9 97))) (.str "A") = false) _ hL), .inl rfl⟩
      · exact ⟨none, exc_badV ((m10.trans (m11.trans (m12.trans (m13.trans (m14.trans (m15.trans (m16.trans (m17.trans (m18.trans (m19)))))))))) _ _ g9) (vok_str (by decide +kernel)) (vok_str (by decide +kernel)) ((by decide +kernel : ∀ l ∈ lets, excV l (.str "az") (.str "A") = false) _ hL), .inl rfl⟩
      · exact ⟨none, exc_badV ((m11.trans (m12.trans (m13.trans (m14.trans (m15.trans (m16.trans (m17.trans (m18.trans (m19))))))))) _ _ g10) (vok_str (by decide +kernel)) (vok_str (by decide +kernel)) ((by decide +kernel : ∀ l ∈ lets, excV l (.str "b") (.str "a") = false) _ hL), .inl rfl⟩
      · exact ⟨none, exc_badV ((m13.trans (m14.trans (m15.trans (m16.trans (m17.trans (m18.trans (m19))))))) _ _ g12) (vok_str (by decide +kernel)) (vok_str (by decide +kernel)) ((by decide +kernel : ∀ l ∈ lets, excV l (.str "b") (.str (T (List.replicate 37 65))) = false) _ hL), .inl rfl⟩
      · exact ⟨some [97], exc_goodV (z := [97]) (by rw [← za]; exact (m16.trans (m17.trans (m18.trans (m19)))) _ _ g15) (by decide) (vok_str (by decide +kernel)) ((by decide +kernel : ∀ l ∈ lets, excV l (.str (T [97])) (.str "A") = true) _ hL), .inr ⟨_, rfl, by decide⟩⟩
      · exact ⟨none, exc_badV ((m17.trans (m18.trans (m19))) _ _ g16) (.inr (.inr (.inl ⟨_, rfl⟩))) (vok_str (by decide +kernel)) ((by decide +kernel : ∀ l ∈ lets, excV l (.int 5) (.str "A") = false) _ hL), .inl rfl⟩
      · exact ⟨none, exc_badV ((m18.trans (m19)) _ _ g17) (vok_str (by decide +kernel)) (.inr (.inl rfl)) ((by decide +kernel : ∀ l ∈ lets, excV l (.str "b") (.non) = false) _ hL), .inl rfl⟩
      · exact ⟨none, exc_kind (.inl rfl), .inl rfl⟩
    obtain ⟨xs, hlen, gD, hAll⟩ := ex
    have hGz := (m3.trans (m4.trans (m5.trans (m6.trans (m7.trans (m8.trans (m9.trans (m10.trans (m11.trans (m12.trans (m13.trans (m14.trans (m15.trans (m16.trans (m17.trans (m18.trans (m19))))))))))))))))) _ _ hG
    clear g3 g4 g5 g6 g7 g8 g9 g10 g11 g12 g13 g14 g15 g16 g17 g18 g19
    have hRz := hRU.kt (.of (m3.trans (m4.trans (m5.trans (m6.trans (m7.trans (m8.trans (m9.trans (m10.trans (m11.trans (m12.trans (m13.trans (m14.trans (m15.trans (m16.trans (m17.trans (m18.trans (m19))))))))))))))))))
    clear hGU hRU hG
    refine ⟨_, rfl, rfl, _, rfl, ite2 (fun cf => ?_) (fun cf => ?_)⟩
    · clear cf hAll gD
      have hmod : ∀ i : Nat, i < 9 → (0 + (i : Int)).fmod 4 = ((i % 4 : Nat) : Int) ∧ (0 + (i : Int)).fdiv 4 = ((i / 4 : Nat) : Int) := by decide
      have h9 := (by decide +kernel : ∀ l ∈ lets, ((nineE (l.getD 1 0)).map (·.1)).Nodup ∧ (nineE (l.getD 1 0)).length = 9 ∧ ∀ e ∈ nineE (l.getD 1 0), excV l (.str (T e.1)) (.str (T e.2)) = true ∧ e.1.length ≤ 100 ∧ e.2.length ≤ 100 ∧ ([] : List Nat) < e.1) _ hL
      obtain ⟨nd, len9, all9⟩ := h9
      have nd : ((nineE c1).map (·.1)).Nodup := nd
      have len9 : (nineE c1).length = 9 := len9
      have all9 : ∀ e ∈ nineE c1, excV (97 :: c1 :: Lr) (.str (T e.1)) (.str (T e.2)) = true ∧ e.1.length ≤ 100 ∧ e.2.length ≤ 100 ∧ ([] : List Nat) < e.1 := all9
      have zA : Str.ofString "A" = T [65] := by decide +kernel
      refine ⟨9, rfl, by decide, by decide, fun D hD => ?_⟩
      have nD := hz.R.nw hD
      refine lc_it (walk_range) (fun i H2 => ∃ ts : List Addr, H2 D = some (.lst (ts.map V.ref)) ∧ Paired (fun t (e : Exc) => H2 t = some (.tup [.str (T e.1), .str (T e.2)])) ts ((nineE c1).take i) ∧ ts.length = i ∧ Same Hd19 H2) ?_ (fun _ _ _ _ => trivial) ?_ ?_
      · exact ⟨[], upd_same, .nil, rfl, same_new hD _⟩
      · rintro i x H2 H2x hi ⟨ts, e1, e2, e3, e4⟩ ⟨rfl, rfl⟩
        have hi : i < 9 := hi
        obtain ⟨q1, q2⟩ := hmod i hi
        refine ⟨rfl, ?_⟩
        refine ⟨_, rfl, _, _, rfl, rfl, (by show (4 : Int) ≠ 0; decide), _, _, rfl, rfl, 97, i % 4 + 1, by rw [za], by show V.int ((0 + (i : Int)).fmod 4 + 1) = _; rw [q1]; rfl, by omega, ?_⟩
        refine ⟨_, rfl, T (97 :: c1 :: Lr), 1, c1, rfl, rfl, (by rw [T_len]; exact small (by omega)), atI_nat (j := 1) rfl, ?_⟩
        refine ⟨_, rfl, _, _, rfl, rfl, (by show (4 : Int) ≠ 0 ∧ (4 : Int).natAbs < 1073741824; decide), c1, i / 4, rfl, by show V.int ((0 + (i : Int)).fdiv 4) = _; rw [q2], by omega, ?_⟩
        refine ⟨_, _, rfl, rfl, (by rw [T_len, T_len, List.length_replicate, List.length_replicate]; exact small (by omega)), ?_⟩
        refine ⟨(by show 2 ≤ sizeLine; decide), fun p np => ?_⟩
        rw [T_app]
        obtain ⟨H3, f3, n3, y3⟩ := newH np (.tup [.str (T (List.replicate (i % 4 + 1) 97 ++ List.replicate (i / 4) c1)), .str "A"])
        rw [show upd H2x p _ = H3 from f3]
        have e1b := n3 _ _ e1
        refine ⟨_, e1b, ?_, ts ++ [p], ?_, ?_, ?_, ?_⟩
        · rw [List.length_map, e3]
          exact small1000 (by omega)
        · rw [upd_same, List.map_append]
          rfl
        · have kt := kt_upd e1b (o := .lst (ts.map V.ref ++ [.ref p]))
          have et : (nineE c1).take (i + 1) = (nineE c1).take i ++ [(List.replicate (i % 4 + 1) 97 ++ List.replicate (i / 4) c1, [65])] := by
            have : (nineE c1)[i]? = some (List.replicate (i % 4 + 1) 97 ++ List.replicate (i / 4) c1, [65]) := by
              unfold nineE
              rw [List.getElem?_map, List.getElem?_range hi]
              rfl
            rw [List.take_succ, this]
            rfl
          rw [et]
          refine paired_app (paired_mono (fun t e h => kt.1 _ _ (n3 _ _ h)) e2) (.cons (kt.1 _ _ ?_) .nil)
          rw [← zA]
          exact y3
        · rw [List.length_append, e3]
          rfl
        · exact fun b u hb => by
            have nb : b ≠ D := ne_of_none hb hD
            rw [upd_ne nb]
            exact n3 _ _ (e4 _ _ hb)
      · rintro H2 ⟨ts, e1, e2, e3, e4⟩
        rw [show Int.toNat 9 = 9 from rfl, List.take_of_length_le (by omega)] at e2
        refine ⟨D, _, rfl, .inl ⟨.inl (.inl e1), fun mt nmt => ?_⟩⟩
        obtain ⟨H3, f3, n3, y3⟩ := newH nmt (.tup (ts.map V.ref))
        rw [f3]
        simp only [List.set_cons_succ, List.set_cons_zero]
        refine ⟨_, rfl, _, rfl, _, rfl, mt, ts, nineE c1, rfl, .inl (.inl y3), paired_mono (fun t e h => n3 _ _ h) e2, nd, fun ts2 es2 sl pm st pr nsl => ?_⟩
        obtain ⟨H4, f4, n4, y4⟩ := newH nsl (.lst (ts2.map V.ref))
        rw [f4]
        refine ⟨sl, _, rfl, .inl ⟨.inl (.inl y4), fun X nX => ?_⟩⟩
        obtain ⟨HP, f5, n5, y5⟩ := newH nX (.tup (ts2.map V.ref))
        rw [f5]
        have hp := hz.same (e4.trans (n3.trans (n4.trans n5)))
        refine ⟨(by show 3 ≤ sizeLine; decide), fun t nt => ?_⟩
        obtain ⟨HT, et, mt2, gt⟩ := newH nt (.tup [.str (T (97 :: c1 :: Lr)), .ref RT, .ref X])
        rw [show upd HP t _ = HT from et]
        exact fin (hp.same mt2) (bad_nine hL (hp.hR.kt (.of mt2)) ok (by omega) gt (mt2 _ _ y5) (paired_mono (fun t e h => (n4.trans (n5.trans mt2)) _ _ h) pr) (by rw [pm.length_eq]; exact len9) st fun e he => all9 e (pm.mem_iff.mp he)) ⟨by decide, by decide⟩ ⟨by decide, by decide⟩
    refine ⟨_, rfl, _, rfl, (by show 2 ≤ sizeLine; decide), fun v1 nv1 => ?_⟩
    obtain ⟨K1, f1, n1, y1⟩ := newH nv1 (.tup [.str "a", .str "A"])
    rw [show upd Hd19 v1 _ = K1 from f1]
    have h1 := hz.same n1
    refine ⟨_, rfl, _, rfl, r, a, ns, 13, rfl, h1.R, by decide, by decide, fun k HQ ka kb sp Rp => ?_⟩
    have hq := h1.stp sp Rp
    have ktP := h1.R.kt sp
    have kp := (Kp.of n1).trans (Kp.stp h1.R sp Rp)
    obtain ⟨x, hx⟩ : ∃ x, xs[k.toNat]? = some x := ⟨_, List.getElem?_eq_getElem (by omega)⟩
    obtain ⟨w, bad, bw⟩ := hAll x (List.mem_of_getElem? hx)
    refine ⟨p19, _, k, x, rfl, rfl, .inl (.inl (sp _ _ (n1 _ _ gD) (Ne.symm nw))), at_of (j := k.toNat) (by omega) hx, ?_⟩
    refine ⟨(by show 2 ≤ sizeLine; decide), fun v2 nv2 => ?_⟩
    obtain ⟨K2, f2, n2, y2⟩ := newH nv2 (.tup [.str "b", .int 5])
    rw [show upd HQ v2 _ = K2 from f2]
    refine ⟨(by show 3 ≤ sizeLine; decide), fun v3 nv3 => ?_⟩
    obtain ⟨HP, f3, n3, y3⟩ := newH nv3 (.tup [.ref v1, x, .ref v2])
    rw [show upd K2 v3 _ = HP from f3]
    have hp := hq.same (n2.trans n3)
    refine ⟨(by show 3 ≤ sizeLine; decide), fun t nt => ?_⟩
    obtain ⟨HT, et, mt, gt⟩ := newH nt (.tup [.str (T (97 :: c1 :: Lr)), .ref RT, .ref v3])
    rw [show upd HP t _ = HT from et]
    exact fin (hp.same mt) (bad_exc hL (((hRz.kt (.of n1)).kt ktP).kt (.of (n2.trans (n3.trans mt)))) ok (by omega) gt (mt _ _ y3)
        (exc_goodV (z := [97]) (by rw [← za]; exact (n2.trans (n3.trans mt)) _ _ (ktP.1 _ _ y1)) (by decide) (vok_str (by decide +kernel)) ((by decide +kernel : ∀ l ∈ lets, excV l (.str (T [97])) (.str "A") = true) _ hL))
        (bad.kp (kp.trans (.of (n2.trans (n3.trans mt))))) bw ⟨none, exc_badV ((n3.trans mt) _ _ y2) (vok_str (by decide +kernel)) (.inr (.inr (.inl ⟨5, rfl⟩))) ((by decide +kernel : ∀ l ∈ lets, excV l (.str "b") (.int 5) = false) _ hL)⟩) ⟨by decide, by decide⟩ ⟨by decide, by decide⟩
end
end Say
namespace Say
open PySem PySem.Spec PyProof.Rows L2
section
variable {P : Program} {w : World} {K : PySem.W.Frag} {mg : Str → Option Value} {base : Heap} {CB : Addr}
abbrev sDPt : Stmt := topS 80
abbrev nDPt : List Str := ["one", "other"]
theorem scDPt : FnScope nDPt ["one", "other"] (defScope sDPt) := ⟨rfl, rfl, rfl, by decide +kernel, rfl, by decide +kernel, by decide +kernel⟩
/-- the first of two is refused, or the other -/
def spDoor2 (K : PySem.W.Frag) (CB : Addr) : Sp := fun vs H Q E => ∃ (g v : V), vs = [g, v] ∧ spChV K CB [g] H (fun _ H' => Refused K CB v H' E) E
theorem door_parted {f fC : Addr} {fd fdC : FuncData} (F : Fun K "parted" "parted" sDPt f fd) (GC : FnOk P w K mg base (L2.CX P w) 5 fC fdC ["book"] (spChV K CB)) (kC : PySem.W.keepIn K (.ref fC) = true) (bC : Binds K fdC ["book"] []) (mC : mg "checked_book" = some (.ref fC)) :
    FnOk P w K mg base (L2.CX P w) 6 f fd ["one", "other"] (spDoor2 K CB) := by
  refine F.okX scDPt (fun vs H Q E h => ?_) (fun cdv A outer s H vs Q E hr h => ?_)
  · obtain ⟨g, v, rfl, _⟩ := h
    rfl
  · obtain ⟨g, v, rfl, hR⟩ := h
    have tk : Takes _ (fun cls d _ H => E cls d H) := takes_of (X := cxOf (L2.CX P w) P w K mg base nDPt "parted" (defScope sDPt) f cdv A outer s H E) rfl rfl rfl rfl
    refine ⟨_, pss_cons (ps_expr (pe_callS GC hr (by rfl) mC kC bC (fun σ => passAt tk σ) (by exact (pa_cons (pv 0) pa_nil)))) (pss_cons (ps_expr (pe_callS GC hr (by rfl) mC kC bC (fun σ => passAt tk σ) (by exact (pa_cons (pv 1) pa_nil)))) (pss_cons ps_never (pss_one ps_never))), ?_⟩
    refine ⟨_, rfl, ?_⟩
    obtain ⟨u, e, h⟩ := hR
    refine ⟨u, e, h.imp id fun h => h.imp id fun ⟨t, l, r, x, h1, h2, h3, h4, h5⟩ => ⟨t, l, r, x, h1, h2, h3, h4, fun L e1 e2 => ?_⟩⟩
    obtain ⟨o, a1, a2, a3⟩ := h5 L e1 e2
    refine ⟨o, a1, a2, fun n1 => ?_⟩
    obtain ⟨oe, b1, b2, b3⟩ := a3 n1
    exact ⟨oe, b1, b2, fun n2 H' s' => ⟨_, rfl, (b3 n2 H' s').to⟩⟩
abbrev sDsk0 : Stmt := inClass (topS 89) 0
theorem scDsk0 : FnScope ["self", "book"] ["self", "book"] (defScope sDsk0) := ⟨rfl, rfl, rfl, by decide +kernel, rfl, by decide +kernel, by decide +kernel⟩
theorem door_desk {f fC : Addr} {fd fdC : FuncData} (F : Fun K "__init__" "Desk.__init__" sDsk0 f fd) (GC : FnOk P w K mg base (L2.CX P w) 5 fC fdC ["book"] (spChV K CB)) (kC : PySem.W.keepIn K (.ref fC) = true) (bC : Binds K fdC ["book"] []) (mC : mg "checked_book" = some (.ref fC)) :
    FnOk P w K mg base (L2.CX P w) 6 f fd ["self", "book"] (fun vs H Q E => ∃ (y v : V), vs = [y, v] ∧ Refused K CB v H E) := by
  refine F.okX scDsk0 (fun vs H Q E h => ?_) (fun cdv A outer s H vs Q E hr h => ?_)
  · obtain ⟨y, v, rfl, _⟩ := h
    rfl
  · obtain ⟨y, v, rfl, hR⟩ := h
    have tk : Takes _ (fun cls d _ H => E cls d H) := takes_of (X := cxOf (L2.CX P w) P w K mg base ["self", "book"] "Desk.__init__" (defScope sDsk0) f cdv A outer s H E) rfl rfl rfl rfl
    refine ⟨_, pss_cons (ps_fld (pv 0) (pe_callS GC hr (by rfl) mC kC bC (fun σ => passAt tk σ) (by exact (pa_cons (pv 1) pa_nil))) rfl) (pss_cons ps_never (pss_one ps_never)), ?_⟩
    exact ⟨_, rfl, hR.to⟩
end
end Say
namespace Say
open PySem PySem.Spec PyProof.Rows L2
section
variable {P : Program} {w : World} {K : PySem.W.Frag} {mg : Str → Option Value} {base : Heap} {CB : Addr}
abbrev sDSy0 : Stmt := inClass (topS 105) 0
abbrev nDSy0 : List Str := ["self", "book", "letters", "rules", "_"]
theorem scDSy0 : FnScope nDSy0 ["self", "book"] (defScope sDSy0) := ⟨rfl, rfl, rfl, by decide +kernel, rfl, by decide +kernel, by decide +kernel⟩
theorem door_sayer {f fC : Addr} {fd fdC : FuncData} (F : Fun K "__init__" "Sayer.__init__" sDSy0 f fd) (GC : FnOk P w K mg base (L2.CX P w) 5 fC fdC ["book"] (spChV K CB)) (kC : PySem.W.keepIn K (.ref fC) = true) (bC : Binds K fdC ["book"] []) (mC : mg "checked_book" = some (.ref fC)) :
    FnOk P w K mg base (L2.CX P w) 6 f fd ["self", "book"] (fun vs H Q E => ∃ (y v : V), vs = [y, v] ∧ Refused K CB v H E) := by
  refine F.okX scDSy0 (fun vs H Q E h => ?_) (fun cdv A outer s H vs Q E hr h => ?_)
  · obtain ⟨y, v, rfl, _⟩ := h
    rfl
  · obtain ⟨y, v, rfl, hR⟩ := h
    have tk : Takes _ (fun cls d _ H => E cls d H) := takes_of (X := cxOf (L2.CX P w) P w K mg base nDSy0 "Sayer.__init__" (defScope sDSy0) f cdv A outer s H E) rfl rfl rfl rfl
    refine ⟨_, pss_cons (ps_asg (pe_callS GC hr (by rfl) mC kC bC (fun σ => passAt tk σ) (by exact (pa_cons (pv 1) pa_nil))) (pg_tup (by rfl) (pgs_cons (pg_name (i := 2) scDSy0.nd rfl (.inl rfl)) (pgs_cons (pg_name (i := 3) scDSy0.nd rfl (.inl rfl)) (pgs_cons (pg_name (i := 4) scDSy0.nd rfl (.inl rfl)) pgs_nil))))) (pss_cons ps_never (pss_cons ps_never (pss_one ps_never))), ?_⟩
    exact ⟨_, rfl, hR.to⟩
abbrev sDWr : Stmt := topS 65
abbrev nDWr : List Str := ["book", "sounds", "long", "letters", "rules", "exceptions", "excepted", "found", "word", "told"]
theorem scDWr : FnScope nDWr ["book", "sounds", "long"] (defScope sDWr) := ⟨rfl, rfl, rfl, by decide +kernel, rfl, by decide +kernel, by decide +kernel⟩
theorem door_writings {f fC : Addr} {fd fdC : FuncData} (F : FunD K "writings" "writings" (defArgs sDWr) (defBody sDWr) (defScope sDWr) [] [("long", .int 5)] f fd) (GC : FnOk P w K mg base (L2.CX P w) 5 fC fdC ["book"] (spChV K CB)) (kC : PySem.W.keepIn K (.ref fC) = true) (bC : Binds K fdC ["book"] []) (mC : mg "checked_book" = some (.ref fC)) :
    FnOk P w K mg base (L2.CX P w) 6 f fd ["book", "sounds", "long"] (spDoor K CB 2) := by
  refine F.ok scDWr (fun vs H Q E h => ?_) (fun cdv A outer s H vs Q E hr h => ?_)
  · obtain ⟨v, us, rfl, h, _⟩ := h
    show us.length + 1 = _
    rw [h]
    rfl
  · obtain ⟨v, us, rfl, hl, hR⟩ := h
    have tk : Takes _ (fun cls d _ H => E cls d H) := takes_of (X := cxOf (L2.CX P w) P w K mg base nDWr "writings" (defScope sDWr) f cdv A outer s H E) rfl rfl rfl rfl
    refine ⟨_, pss_cons (ps_asg (pe_callS GC hr (by rfl) mC kC bC (fun σ => passAt tk σ) (by exact (pa_cons (pv 0) pa_nil))) (pg_tup (by rfl) (pgs_cons (pg_name (i := 3) scDWr.nd rfl (.inl rfl)) (pgs_cons (pg_name (i := 4) scDWr.nd rfl (.inl rfl)) (pgs_cons (pg_name (i := 5) scDWr.nd rfl (.inl rfl)) pgs_nil)))))
      (pss_cons ps_never (pss_cons ps_never (pss_cons ps_never (pss_cons ps_never (pss_cons ps_never (pss_one ps_never)))))), ?_⟩
    match us, hl with
    | [u0, u1], _ => exact ⟨_, rfl, hR.to⟩
end
end Say
/-! a lambda of one parameter with a number as its default, handed to a def -/
namespace LamD
open PySem PySem.Spec PyProof.Rows L2 LamX
/-- its own name is the parameter alone, which the maker doesn't know -/
structure Par (N : List Str) (sc own : Scope) (a : Str) : Prop where
  kind : own.kind = .function
  co : own.isCoroutine = false
  gen : own.isGenerator = false
  par : own.names.lookup a = some .local
  loc : ∀ y ∈ own.names, y.2 ≠ .cell ∧ (y.2 = .local → y.1 = a)
  free : ∀ y ∈ own.names, y.2 = .free → sc.names.lookup y.1 = some .cell ∨ sc.names.lookup y.1 = some .free
  out : a ∉ N
def parB (N : List Str) (sc own : Scope) (a : Str) : Bool :=
  decide (own.kind = .function) && (!own.isCoroutine && (!own.isGenerator && (decide (own.names.lookup a = some .local) && (decide (a ∉ N) && own.names.all fun y =>
    !decide (y.2 = .cell) && ((!decide (y.2 = .local) || decide (y.1 = a)) && (!decide (y.2 = .free) || (decide (sc.names.lookup y.1 = some .cell) || decide (sc.names.lookup y.1 = some .free))))))))
theorem par_by {N : List Str} {sc own : Scope} {a : Str} (h : parB N sc own a = true) : Par N sc own a := by
  unfold parB at h
  simp only [Bool.and_eq_true, Bool.or_eq_true, Bool.not_eq_true', decide_eq_true_eq, decide_eq_false_iff_not, List.all_eq_true] at h
  obtain ⟨g1, g2, g3, g4, g5, g6⟩ := h
  refine ⟨g1, g2, g3, g4, fun y hy => ⟨(g6 y hy).1, fun e => ?_⟩, fun y hy e => ?_, g5⟩
  · rcases (g6 y hy).2.1 with z | z
    · exact absurd e z
    · exact z
  · rcases (g6 y hy).2.2 with z | z
    · exact absurd e z
    · exact z
section
variable {X : Cx} {pins : List (Addr × Obj)} {σ : L2.St} {H HZ : Hp} {s s1 : Shared}
section
variable {f : Addr}
/-- an address that the frame knows nothing of -/
def NewF (X : Cx) (pins : List (Addr × Obj)) (f : Addr) : Prop := X.s_0.heap.objs.size ≤ f ∧ f ≠ X.env.locals ∧ (∀ x c, X.env.cells.lookup x = some c → c ≠ f) ∧ ∀ p ∈ X.pn ++ pins, p.1 ≠ f
theorem new_of (I : Inv X pins σ H s) (h : s.heap.objs.size ≤ f) : NewF X pins f := by
  have lt : ∀ {b o}, s.heap.get? b = some o → b ≠ f := fun e z => by
    rw [z] at e
    exact Nat.lt_irrefl _ (Nat.lt_of_lt_of_le (Heap.lt_size e) h)
  refine ⟨Nat.le_trans I.sz h, fun z => ?_, fun x c e => ?_, fun p hp => lt (I.pin p hp).1⟩
  · have := I.lt
    rw [← z] at this
    exact Nat.lt_irrefl _ (Nat.lt_of_lt_of_le this h)
  · obtain ⟨v, o, ho, _⟩ := I.cell x c e
    exact lt ho
end
theorem Par.has {own : Scope} {a : Str} (L : Par X.N X.env.scope own a) (ok : X.Ok) : ∀ y ∈ own.names, y.2 = .free → ∃ c, X.env.cells.lookup y.1 = some c := fun y hy e =>
  (L.free y hy e).elim (fun k => ok.has _ (.inl k)) fun k => ok.has _ (.inr k)
/-- the lambda's object, its default at D -/
abbrev dObj (X : Cx) (params : Arguments) (body : Expr) (own : Scope) (D : Addr) (doc pm : Value) (c' : Addr) (ctv : Value) : Obj :=
  PySem.W.kdv_obj "<lambda>" (X.env.qual ++ "<lambda>") params (.expr body) own (cloFrom X.env.cells own.names []) (.ref D) doc pm c' ctv
/-- made: a code object that is new or found in the table, and the tuple of the default -/
theorem make {Ts : List (Addr × Str)} {c P : Addr} {params : Arguments} {body de : Expr} {own : Scope} {pos : Pos} {z : Int} {Q : Value → Shared → Prop} (I : Inv X pins σ H s) (TB : TabB X.base X.mg c P) (hcode : X.env.code = .ref c)
    (hm : (P, X.env.qual ++ "<lambda>") ∈ Ts) (hu : ∀ p ∈ Ts, p.1 = P → p.2 = X.env.qual ++ "<lambda>") (hT : Tabs Ts H) (hde : params.defaults = [de]) (hkw : params.kw_defaults = []) (hz : PE X de (tC (.int z))) (hfree : ∀ y ∈ own.names, y.2 = .free → ∃ c, X.env.cells.lookup y.1 = some c)
    (h : ∀ (f c' D : Addr) (u doc pm ctv : Value) (H1 : Hp) (s' : Shared), Inv X pins σ H1 s' → ExtN H H1 → Tabs Ts H1 → s'.heap.get? f = some (dObj X params body own D doc pm c' ctv) → H1 f = none → f ∉ frs X.stack →
      s'.heap.get? D = some (PySem.W.kdv_tup [u]) → H1 D = none → D ∉ frs X.stack → NewF X pins f → NewF X pins D → f ≠ D → H f = none → H1 c' = some (CodeO c' (X.env.qual ++ "<lambda>")) → Q (.ref f) s') :
    wpAny (model X.prog X.w) X.A (eval (.Lambda params body own pos) X.env) Q X.xe s := by
  refine PySem.W.kdv_lam (by rw [hde]; rfl) hkw ?_
  rw [hde]
  refine PySem.W.kdv_all1 (thn (hz.run pins s σ H (fun v H0 => H0 = H) I rfl) fun u sa ⟨v, H0, Ia, _, eH⟩ => PySem.W.kdv_all0 ?_)
  subst eH
  rw [makeFunction_eq]
  simp only [List.zip_nil_right, List.filterMap_nil, List.isEmpty_nil, if_true, pure_bind, List.isEmpty_cons, Bool.false_eq_true, if_false]
  refine wpAny_bind (wpAny_newTextTuple ?_)
  -- the default's tuple
  have hDn : H0 sa.heap.objs.size = none := Ia.hok.fresh (Nat.le_refl _)
  have stk : ∀ {b : Addr} {hp : Heap} {σ' : L2.St} {H' : Hp} {tk : Nat} (J : Inv X pins σ' H' { sa with heap := hp, toks := tk }), hp.objs.size ≤ b → b ∉ frs X.stack := fun {b hp σ' H' tk} J hb m => by
    rcases List.mem_cons.mp (J.stkSub _ m) with e | e
    · have lt := J.lt
      rw [← e] at lt
      exact Nat.lt_irrefl _ (Nat.lt_of_lt_of_le lt hb)
    · exact J.nofs hb e
  have newD := new_of Ia (f := sa.heap.objs.size) (Nat.le_refl _)
  have frD := stk (hp := sa.heap) (tk := sa.toks) Ia (Nat.le_refl _)
  have Ib : Inv X pins σ H0 { sa with heap := sa.heap.push (PySem.W.kdv_tup [u]) } := Ia.kept (t' := sa.toks) fun _ _ e => Heap.get?_push_of_some _ e
  have atD : (sa.heap.push (PySem.W.kdv_tup [u])).get? sa.heap.objs.size = some (PySem.W.kdv_tup [u]) := Heap.get?_push_size _ rfl
  have szD : sa.heap.objs.size < (sa.heap.push (PySem.W.kdv_tup [u])).objs.size := by rw [Heap.size_push]; exact Nat.lt_succ_self _
  obtain ⟨ps, hP, ht, ha⟩ := hT _ hm
  have ltP : P < sa.heap.objs.size := Heap.lt_size (Ia.hok P _ hP)
  generalize hhb : sa.heap.push (PySem.W.kdv_tup [u]) = hb at Ib atD szD ⊢
  generalize sa.heap.objs.size = D at hDn frD newD atD szD ltP ⊢
  have hP' : hb.get? P = some { cls := .none, data := .fields ps } := Ib.hok P _ hP
  have bP : hb.BuiltinsAt X.mg P := TB.bm.keeps Ib.bk
  cases hc : codeAmong pos ps.toList with
  | none =>
    refine PySem.W.kdv_makeTail (s := { sa with heap := hb }) (closure_ok hfree) Ib.ok.glob (Ib.mod.glob.keeps Ib.bk) hcode (TB.code.keeps Ib.bk) hP' ht hc TB.gP bP fun c' ctv doc h' tk hx hge hlt hrec htb => ?_
    obtain ⟨c2, oc, vs, t, e2, hoc, hd, hv⟩ := hrec
    cases e2
    have hge : hb.objs.size ≤ c' := hge
    have nC : H0 c' = none := Ib.hok.fresh hge
    have I1 := inv_table (t' := tk) (more := #[rawInt pos.line, rawInt pos.col, .ref c']) (h' := h'.push (dObj X params body own D doc ((X.mg "__name__").getD .none) c' ctv)) Ib hP
      (fun b o n e => Heap.get?_push_of_some _ (hx b o n e)) (Heap.get?_push_of_some _ htb) hge ⟨oc, vs, t, Heap.get?_push_of_some _ hoc, hd, hv⟩
    have hE : ExtN H0 (upd (upd H0 P (.tbl (ps ++ #[rawInt pos.line, rawInt pos.col, .ref c']))) c' (CodeO c' (X.env.qual ++ "<lambda>"))) := fun b o e n => by
      rw [upd_ne (ne_of_none e nC), upd_ne fun y => n ps (Option.some.inj (e.symm.trans (by rw [y]; exact hP)))]
      exact e
    have toL : (ps ++ #[rawInt pos.line, rawInt pos.col, .ref c']).toList = ps.toList ++ [rawInt pos.line, rawInt pos.col, .ref c'] := by simp
    have nf1 : h'.objs.size ≠ c' := Nat.ne_of_gt hlt
    have nf2 : h'.objs.size ≠ P := Nat.ne_of_gt (Nat.lt_of_lt_of_le (Heap.lt_size hP') (Nat.le_trans hge (Nat.le_of_lt hlt)))
    refine h h'.objs.size c' D u doc ((X.mg "__name__").getD .none) ctv _ _ I1 hE (fun p hp => ?_) (Heap.get?_push_size _ rfl) ?_ (stk (hp := hb) (tk := sa.toks) Ib (by omega)) (Heap.get?_push_of_some _ (hx D _ (Nat.ne_of_gt ltP) atD)) ?_ frD (new_of Ib (show hb.objs.size ≤ _ by omega)) newD (show h'.objs.size ≠ D from Nat.ne_of_gt (Nat.lt_of_lt_of_le szD (Nat.le_trans hge (Nat.le_of_lt hlt)))) (Ib.hok.fresh (show hb.objs.size ≤ _ by omega)) upd_same
    · by_cases eP : p.1 = P
      · rw [hu p hp eP, eP]
        refine ⟨_, by rw [upd_ne (ne_of_none hP nC), upd_same], by rw [toL]; exact PySem.TriplesOk_snoc _ _ _ _ ht, fun p' cv hcv => ?_⟩
        rw [toL] at hcv
        rcases among_app _ ht hcv with y | y
        · obtain ⟨c0, y1, y2⟩ := ha p' cv y
          exact ⟨c0, y1, hE _ _ y2 codeO_ne⟩
        · exact ⟨c', y, upd_same⟩
      · obtain ⟨qs, y1, y2, y3⟩ := hT p hp
        refine ⟨qs, by rw [upd_ne (ne_of_none y1 nC), upd_ne eP]; exact y1, y2, fun p' cv hcv => ?_⟩
        obtain ⟨c0, y4, y5⟩ := y3 p' cv hcv
        exact ⟨c0, y4, hE _ _ y5 codeO_ne⟩
    · rw [upd_ne nf1, upd_ne nf2]
      exact Ib.hok.fresh (show hb.objs.size ≤ _ by omega)
    · rw [upd_ne (Nat.ne_of_lt (Nat.lt_of_lt_of_le szD hge)), upd_ne (Nat.ne_of_gt ltP)]
      exact hDn
  | some cv =>
    obtain ⟨c', e, hco⟩ := ha pos cv hc
    subst e
    refine PySem.W.kdv_makeTailHit (s := { sa with heap := hb }) (closure_ok hfree) Ib.ok.glob (Ib.mod.glob.keeps Ib.bk) hcode (TB.code.keeps Ib.bk) hP' ht hc bP fun ctv doc h' tk hx hsz => ?_
    have hsz : hb.objs.size ≤ h'.objs.size := hsz
    have I1 : Inv X pins σ H0 { sa with heap := h'.push (dObj X params body own D doc ((X.mg "__name__").getD .none) c' ctv), toks := tk } := Ib.kept (t' := tk) fun b o e => Heap.get?_push_of_some _ (hx b o e)
    exact h h'.objs.size c' D u doc ((X.mg "__name__").getD .none) ctv H0 _ I1 (ExtN.refl H0) hT (Heap.get?_push_size _ rfl) (Ib.hok.fresh hsz) (stk (hp := hb) (tk := sa.toks) Ib hsz) (Heap.get?_push_of_some _ (hx D _ atD)) hDn frD (new_of Ib hsz) newD (show h'.objs.size ≠ D from Nat.ne_of_gt (Nat.lt_of_lt_of_le szD hsz)) (Ib.hok.fresh hsz) hco
abbrev dEnv (X : Cx) (own : Scope) (L f c' : Addr) : Env := lamEnv X own L f c'
/-- its body's context, entered -/
theorem enter {A : Around} {outer : List Env} {E : XK} {own : Scope} {a : Str} {f c' : Addr} {h₁ : Heap} {tk : Nat} {m : Str → Option Value} (I : Inv X pins σ H s) (L : Par X.N X.env.scope own a) (e0 : Env0 X.prog X.w X.K X.mg X.base A outer s1 HZ) (hd : A.handled = none)
    (un : Un (frs X.stack) [] H HZ s.heap s1.heap) (hns : h₁.Ns s1.heap.objs.size m) (kp : ∀ b o, s1.heap.get? b = some o → h₁.get? b = some o) :
    Inv (lamCx X A outer s1 HZ E own f c') [] σ HZ { s1 with heap := h₁, toks := tk } := by
  have has := L.has I.ok
  -- a name that it captures has the maker's cell
  have cl1 : ∀ {y c}, (cloFrom X.env.cells own.names []).lookup y = some c → X.env.cells.lookup y = some c := fun {y c} e => by
    rcases cloFrom_mem (PySem.mem_of_lookup e) with z | ⟨z1, z2⟩
    · cases z
    · obtain ⟨c1, hc⟩ := has _ z1 rfl
      have hc : X.env.cells.lookup y = some c1 := hc
      rw [z2, hc]
      rfl
  have cl2 : ∀ {y}, own.names.lookup y = some .free → ∃ c, (cloFrom X.env.cells own.names []).lookup y = some c := fun {y} hl =>
    mem_lookup (cloFrom_has (cells := X.env.cells) (acc := []) (show (y, NameKind.free) ∈ own.names from PySem.mem_of_lookup hl))
  have cellK : ∀ {c : Addr} {v : Option Value}, H c = none → s.heap.IsCell c v → h₁.IsCell c v := fun {c v} n ⟨o, ho, od⟩ => by
    obtain ⟨sl, q⟩ := un.any ho n (by simp)
    exact ⟨_, kp _ _ q, od⟩
  have no : ∀ b : Addr, b ∉ (lamCx X A outer s1 HZ E own f c').ex := fun b z => absurd (show b ∈ ([] : List Addr) from z) (by simp)
  refine ⟨⟨e0.mod, L.kind, rfl, rfl, Nat.le_refl _, fun y z c e1 e2 => I.ok.inj y z c (cl1 e1) (cl1 e2), fun y hy => ?_, fun y c z _ => (by cases (show false = true from z)), fun _ => hd, Around.frames_deeper e0.frames, .inr ⟨rfl, rfl⟩, fun b z => absurd z (no b), e0.bs, e0.bsz, fun b _ _ => no b,
      fun b z => absurd z (no b), e0.funs, e0.frf⟩,
    rfl, e0.bare, Un.kept kp, ⟨_, hns, fun i y v e1 e2 e3 => ?_⟩, fun y c e => ?_, e0.hok.fresh (Nat.le_refl _), fun y c e => ?_, fun q hq => absurd (show q ∈ ([] : List (Addr × Obj)) ++ [] from hq) (by simp), e0.hok.kept kp, I.len⟩
  · have hy : own.names.lookup y = some .cell ∨ own.names.lookup y = some .free := hy
    exact hy.elim (fun z => absurd rfl (L.loc _ (PySem.mem_of_lookup z)).1) cl2
  · have e3 : Vis own y := e3
    rcases e3 with k | k | k
    · -- the parameter is no name of the maker's
      have ey : y = a := (L.loc _ (PySem.mem_of_lookup k)).2 rfl
      have e1 : X.N[i]? = some y := e1
      exact absurd (List.mem_of_getElem? e1) (by rw [ey]; exact L.out)
    · exact absurd rfl (L.loc _ (PySem.mem_of_lookup k)).1
    · obtain ⟨m', hn, hl⟩ := I.loc
      have vis : Vis X.env.scope y := (L.free _ (PySem.mem_of_lookup k) rfl).elim (fun k => .inr (.inl k)) fun k => .inr (.inr k)
      obtain ⟨w', r, q⟩ := hl i y v e1 e2 vis
      obtain ⟨c2, h2⟩ := cl2 k
      refine ⟨w', r, .inr ⟨.inr k, c2, h2, ?_⟩⟩
      rcases q with ⟨k', _⟩ | ⟨_, c3, e', z⟩
      · have k' : X.env.scope.names.lookup y = some .local := k'
        rcases L.free _ (PySem.mem_of_lookup k) rfl with k2 | k2 <;> rw [show X.env.scope.names.lookup y = _ from k2] at k' <;> cases k'
      · rw [cl1 h2] at e'
        cases e'
        exact cellK (I.freeC y _ (cl1 h2)) z
  · obtain ⟨w', z⟩ := I.cell y c (cl1 e)
    exact ⟨w', cellK (I.freeC y c (cl1 e)) z⟩
  · obtain ⟨v, o, ho, od⟩ := I.cell y c (cl1 e)
    exact un.free c o ho (I.freeC y c (cl1 e)) (by simp)
/-- called with nothing by the def that got it -/
theorem act {CXg : CXT} {Eg : XK} {Ng : List Str} {qg : Str} {sg : Scope} {g f c' D : Addr} {cdg doc pm ctv u : Value} {params : Arguments} {body : Expr} {own : Scope} {k i : Nat} {x a : Str} {pn : List (Addr × Obj)} {xe : Value → Shared → Prop} {W : WX} {E : XK} {tb : TE} {p1 p2 : Pos}
    (I : Inv X pins σ H s) (L : Par X.N X.env.scope own a) (hf : s.heap.get? f = some (dObj X params body own D doc pm c' ctv)) (hfn : H f = none) (hfr : f ∉ frs X.stack) (hD : s.heap.get? D = some (PySem.W.kdv_tup [u])) (hDn : H D = none) (hDr : D ∉ frs X.stack)
    (hbind : ∀ s : Shared, s.heap.get? D = some (PySem.W.kdv_tup [u]) → BindsTo s (PySem.W.kdv_fn "<lambda>" (X.env.qual ++ "<lambda>") params (.expr body) own (cloFrom X.env.cells own.names []) (.ref D) doc pm (.ref c') ctv) ⟨[], []⟩ [(a, u)])
    (tk : Takes ((cxOf CXg X.prog X.w X.K X.mg X.base Ng qg sg g cdg X.A X.stack s H Eg).tr pn xe) W) (hW : ∀ cls d σ' H', E cls d H' → W cls d σ' H') (hr : Room (k + 1) (X.A.deeper (envOfC qg sg s.heap.objs.size g cdg)))
    (hbody : ∀ (A : Around) (outer : List Env) (s : Shared) (H : Hp), Room k (A.deeper (lamEnv X own s.heap.objs.size f c')) → PE (lamCx X A outer s H E own f c') body tb)
    (hN : Ng[i]? = some x) (hv : Vis sg x) (hdb : (x == ("__debug__" : Str)) = false := by decide) (hcd : (x == ("__classdict__" : Str)) = false := by decide) :
    PE ((cxOf CXg X.prog X.w X.K X.mg X.base Ng qg sg g cdg X.A X.stack s H Eg).tr pn xe) (.Call (.Name x p1) [] [] p2)
      (fun σZ HZ Q => σZ[i]? = some (some (.ref f)) ∧ HZ c' = some (CodeO c' (X.env.qual ++ "<lambda>")) ∧ tb σ HZ Q) := by
  refine ⟨fun pinsZ sZ σZ HZ Q IZ ⟨hs, hc, ht⟩ => ?_⟩
  refine wpAny_Call_Name_kw (thn ((pe_var (pos := p1) (i := i) hN hv hdb hcd).run pinsZ sZ σZ HZ (fun v H1 => v = .ref f ∧ H1 = HZ) IZ ⟨.ref f, hs, rfl, rfl⟩) fun u' s1 ⟨v, H1, I1, r1, ev, eH⟩ => ?_)
  subst ev eH
  obtain rfl : u' = Value.ref f := r1
  have keep : ∀ {b : Addr} {o : Obj}, s.heap.get? b = some o → H b = none → b ∉ frs X.stack → s1.heap.get? b = some o := fun {b o} e n fr => I1.base.keep b _ e n fr fun z => nomatch (show b ∈ ([] : List Addr) from z)
  have of1 := keep hf hfn hfr
  refine PySem.W.callWith_F0 ⟨_, _, _, _, of1⟩ ?_
  have un : Un (frs X.stack) [] H H1 s.heap s1.heap := I1.base
  obtain ⟨⟨oc, vs, t, hoc, hdc, hvc⟩, _, _⟩ := I1.hok c' _ hc
  have rc : codeAny (model X.prog X.w) (X.A.deeper (envOfC qg sg s.heap.objs.size g cdg)) (.call (.ref f) ⟨[], []⟩) (CR (L2.CX X.prog X.w) (envOfC qg sg s.heap.objs.size g cdg :: X.stack) X.prog X.w H1 s1 Q E) s1 := by
    refine PySem.W.kla_callFunE hr.depth of1 rfl L.co L.gen rfl ⟨c', oc, vs, t, rfl, hoc, hdc, hvc⟩ (hbind s1 (keep hD hDn hDr) _ _ _ _ ?_)
    refine wpAny_newFunctionEnv (fun y hy => (L.loc y hy).1) (fun y hy => by rw [List.mem_singleton.mp hy]; exact L.par) (fun h₁ hns hsb => ⟨I1.nolimit.fresh _ hsb, ?_⟩) L.kind
    refine (?_ : codeAny _ _ (.expr body (lamEnv X own s1.heap.objs.size f c')) _ _)
    have kp : ∀ b o, s1.heap.get? b = some o → h₁.get? b = some o := fun b o e => hsb.extBut b o (Nat.ne_of_lt (Heap.lt_size e)) (Heap.get?_push_of_some _ e)
    have J := enter (A := X.A.deeper (envOfC qg sg s.heap.objs.size g cdg)) (outer := envOfC qg sg s.heap.objs.size g cdg :: X.stack) (E := E) (f := f) (c' := c') (tk := s1.toks + ([(a, u)] : List (Str × Value)).length) I L I1.env0 hr.hd un hns kp
    exact PySem.W.kla_codeExpr (wpAny_mono ((hbody _ _ s1 H1 (hr.deeper _)).run [] _ _ H1 Q J ht) (fun v s' ⟨w', H', J', rv, q⟩ => ⟨w', H', J'.os, J'.bare, J'.base, J'.hok, rv, q⟩) fun _ _ hq => hq)
  have hx : Passes (L2.CX X.prog X.w) ((cxOf CXg X.prog X.w X.K X.mg X.base Ng qg sg g cdg X.A X.stack s H Eg).tr pn xe) E := passes_call tk hW
  refine wpAny_call (codeAny_mono rc fun r s' hq => ?_)
  match r, hq with
  | .error e, hq => exact hx pinsZ σZ H1 s1 e s' I1 hq
  | .ok (.ret u), hq => exact I1.after hq
  | .ok .next, hq => exact False.elim hq
  | .ok .brk, hq => exact False.elim hq
  | .ok .cont, hq => exact False.elim hq
end
section
variable {X : Cx}
/-- x(lambda a=z: body) -/
theorem pe_lamcall {Ts : List (Addr × Str)} {TT : (XK → Hp → VK → Prop) → Hp → VK → Prop} {x y a : Str} {g c P : Addr} {k : Nat} {pg : Arguments} {bg : List Stmt} {sg : Scope} {dV kV doc pm cdv ct oc : Value} {an od : Option Addr} {osl : Array (Option Value)} {Ng : List Str}
    {params : Arguments} {body de : Expr} {own : Scope} {t : XK → TE} {p lpos pos : Pos} {z : Int} (hg : Gl X x) (hm : X.mg x = some (.ref g)) (hk : PySem.W.keepIn X.K (.ref g) = true)
    (lk : X.K.lookup g = some ⟨oc, od, .func (PySem.W.fnOf x x pg bg sg dV kV doc pm an cdv ct), osl⟩) (hcg : PySem.W.codeIn X.K cdv x = true) (hb : L2.Binds X.K (PySem.W.fnOf x x pg bg sg dV kV doc pm an cdv ct) [y] []) (Sg : FnScope Ng [y] sg) (hNg : Ng[0]? = some y) (hva : Vis sg y)
    (hG : GivesTo X Ng x sg g cdv bg y (X.env.qual ++ "<lambda>") TT)
    (TB : TabB X.base X.mg c P) (hcode : X.env.code = .ref c) (hmT : (P, X.env.qual ++ "<lambda>") ∈ Ts) (hu : ∀ p ∈ Ts, p.1 = P → p.2 = X.env.qual ++ "<lambda>") (hr : Room (k + 2) X.A) (L : Par X.N X.env.scope own a) (hde : params.defaults = [de]) (hkw : params.kw_defaults = []) (hz : PE X de (tC (.int z)))
    (hbind : ∀ (u : Value) (D : Addr) (q : Str) (cl : List (Str × Addr)) (doc pm cv ctv : Value) (s : Shared), s.heap.get? D = some (PySem.W.kdv_tup [u]) → BindsTo s (PySem.W.kdv_fn "<lambda>" q params (.expr body) own cl (.ref D) doc pm cv ctv) ⟨[], []⟩ [(a, u)])
    (hbody : ∀ (A : Around) (outer : List Env) (s : Shared) (H : Hp) (E : XK) (f c' : Addr), Room k (A.deeper (lamEnv X own s.heap.objs.size f c')) → PE (lamCx X A outer s H E own f c') body (t E))
    (hdb : (x == ("__debug__" : Str)) = false := by decide) (hd : (y == ("__debug__" : Str)) = false := by decide) (hcd : (y == ("__classdict__" : Str)) = false := by decide) :
    PE X (.Call (.Name x p) [.Lambda params body own lpos] [] pos) (tLam Ts TT t) := by
  refine ⟨fun pins s σ H Q I ⟨hT, h⟩ => ?_⟩
  refine wpAny_Call_Name_kw (ld_glob I hg hm ?_ hdb)
  refine PySem.W.callWith_K (h₀ := X.base) I.ok.mod.kin hk ?_ (by rfl) (by rfl)
  refine (?_ : wpAny _ _ (spliced ((false, eval (.Lambda params body own lpos) X.env) :: backTo pos (starEach [] X.env))) _ _ s)
  refine Calls.spliced_cons (make I TB hcode hmT hu hT hde hkw hz (L.has I.ok) fun f c' D u doc' pm' ctv H1 s' I1 eN T1 hf hfn hfr hD hDn hDr _ _ _ _ hco => Calls.spliced_nil ⟨I1.kIn, ?_⟩)
  have rc : codeAny (model X.prog X.w) X.A (.call (.ref g) ⟨[.ref f], []⟩) (CR C8.CX0 X.stack X.prog X.w H1 s' Q C8.E0) s' := by
    refine run_ofS (N := Ng) (ps := [y]) (us := [.ref f]) (vs := [.ref f]) lk hcg Sg hr I1.env0 (hb s' [.ref f] I1.kIn rfl) (.cons rfl .nil) rfl fun hr' => ?_
    obtain ⟨t', ht', hq'⟩ := hG f c' s' H1 Q (fun E H' Q' => t E σ H' Q') (fun W pn xe E p1 p2 tk hW => act (i := 0) I1 L hf hfn hfr hD hDn hDr (fun s2 h2 => hbind u D _ _ _ _ _ _ s2 h2) tk hW hr' (fun A outer s H hr2 => hbody A outer s H E f c' hr2) hNg hva hd hcd) hco (h H1 eN T1)
    exact ⟨t', ht'.nox, hq'⟩
  refine wpAny_call (codeAny_mono rc fun r s2 hq => ?_)
  match r, hq with
  | .error e, hq => exact (show False from hq).elim
  | .ok (.ret u), hq => exact I1.after hq
  | .ok .next, hq => exact False.elim hq
  | .ok .brk, hq => exact False.elim hq
  | .ok .cont, hq => exact False.elim hq
end
end LamD
/-! lambdas as values: laid in lists, called later by a def that gets them -/
namespace LamV
open PySem PySem.Spec PyProof.Rows L2 LamX LamD
section
variable {X : Cx} {pins : List (Addr × Obj)} {σ : L2.St} {H H1 HZ : Hp} {s s1 : Shared} {f : Addr}
/-- a thing of ours is tracked from now on -/
theorem track (I1 : Inv X pins σ H1 s1) (nf : NewF X pins f) (n : H1 f = none) {φ : Heap → Prop} (hφ : φ s1.heap) (ho : ∃ o, s1.heap.get? f = some o) (st : ∀ h1 h2 : Heap, φ h1 → (∀ o, h1.get? f = some o → h2.get? f = some o) → φ h2) :
    Inv X pins σ (upd H1 f (.ext φ)) s1 := by
  refine I1.step (h' := s1.heap) (g' := s1.gens) (d' := s1.drawn) (t' := s1.toks) (ch := [f]) (fun b hb => ?_) (fun b o _ _ _ e _ => e) (fun b o _ _ _ e _ => ⟨o.slots, e⟩) (fun b o hb _ e => ?_) (fun b o _ e => ⟨o, e⟩)
    (fun b xs e => by rw [upd_ne (ne_of_none e n)]; exact e) (fun b o u e => by rw [upd_ne (ne_of_none e n)]; exact e) (fun b ps e => ⟨#[], by rw [upd_ne (ne_of_none e n), e]; simp⟩) (fun m h => h) (fun b u e => ?_) I1.bare
  · rw [List.mem_singleton.mp hb]
    exact ⟨.inr nf.1, nf.2.1, nf.2.2.1, nf.2.2.2⟩
  · rw [upd_ne fun z => hb (List.mem_singleton.mpr z)]
    exact e
  · by_cases hb : b = f
    · rw [hb, upd_same] at e
      cases e
      rw [hb]
      exact ⟨hφ, ho, st⟩
    · rw [upd_ne hb] at e
      exact (I1.hok b u e).stay (fun _ _ _ q => q) (fun d q => by rw [upd_ne (ne_of_none q n)]; exact q) fun d xs q => by rw [upd_ne (ne_of_none q n)]; exact q
/-- the lambda that is at f, with no parameter; with one -/
def PlainO (X : Cx) (params : Arguments) (body : Expr) (own : Scope) (f c' : Addr) : HO := .ext fun h => ∃ pm ctv, h.get? f = some (PySem.W.kla_obj "<lambda>" (X.env.qual ++ "<lambda>") params body own (cloFrom X.env.cells own.names []) pm c' ctv)
def DfltO (X : Cx) (params : Arguments) (body : Expr) (own : Scope) (f c' D : Addr) : HO := .ext fun h => ∃ doc pm ctv, h.get? f = some (LamD.dObj X params body own D doc pm c' ctv)
def OneO (D : Addr) (u : Value) : HO := .ext fun h => h.get? D = some (PySem.W.kdv_tup [u])
def IsPlain (X : Cx) (params : Arguments) (body : Expr) (own : Scope) (f : Addr) (H : Hp) : Prop := ∃ c', H f = some (PlainO X params body own f c') ∧ H c' = some (CodeO c' (X.env.qual ++ "<lambda>"))
def IsDflt (X : Cx) (params : Arguments) (body : Expr) (own : Scope) (f : Addr) (H : Hp) : Prop := ∃ c' D u, H f = some (DfltO X params body own f c' D) ∧ H D = some (OneO D u) ∧ H c' = some (CodeO c' (X.env.qual ++ "<lambda>"))
theorem IsPlain.extN {params : Arguments} {body : Expr} {own : Scope} (h : IsPlain X params body own f H) (e : ExtN H H1) : IsPlain X params body own f H1 := by
  obtain ⟨c', h1, h2⟩ := h
  exact ⟨c', e _ _ h1 fun ps z => (by unfold PlainO at z; cases z), e _ _ h2 codeO_ne⟩
theorem IsDflt.extN {params : Arguments} {body : Expr} {own : Scope} (h : IsDflt X params body own f H) (e : ExtN H H1) : IsDflt X params body own f H1 := by
  obtain ⟨c', D, u, h1, h2, h3⟩ := h
  exact ⟨c', D, u, e _ _ h1 fun ps z => (by unfold DfltO at z; cases z), e _ _ h2 fun ps z => (by unfold OneO at z; cases z), e _ _ h3 codeO_ne⟩
/-- a lambda, made -/
def tLamV (Ts : List (Addr × Str)) (I : Addr → Hp → Prop) : TE := fun _ H Q => Tabs Ts H ∧ ∀ f H1, ExtN H H1 → Tabs Ts H1 → H f = none → I f H1 → Q (.ref f) H1
/-- one with no parameter, made: as LamD.make -/
theorem makeP {Ts : List (Addr × Str)} {c P : Addr} {params : Arguments} {body : Expr} {own : Scope} {pos : Pos} {E Q : Value → Shared → Prop} (I : Inv X pins σ H s) (TB : TabB X.base X.mg c P) (hcode : X.env.code = .ref c)
    (hm : (P, X.env.qual ++ "<lambda>") ∈ Ts) (hu : ∀ p ∈ Ts, p.1 = P → p.2 = X.env.qual ++ "<lambda>") (hT : Tabs Ts H) (hdef : defaultsOf params X.env = ([], [])) (hfree : ∀ y ∈ own.names, y.2 = .free → ∃ c, X.env.cells.lookup y.1 = some c)
    (h : ∀ (f c' : Addr) (pm ctv : Value) (H1 : Hp) (s' : Shared), Inv X pins σ H1 s' → ExtN H H1 → Tabs Ts H1 → s'.heap.get? f = some (PySem.W.kla_obj "<lambda>" (X.env.qual ++ "<lambda>") params body own (cloFrom X.env.cells own.names []) pm c' ctv) → H f = none → H1 f = none → NewF X pins f →
      H1 c' = some (CodeO c' (X.env.qual ++ "<lambda>")) → Q (.ref f) s') :
    wpAny (model X.prog X.w) X.A (eval (.Lambda params body own pos) X.env) Q E s := by
  obtain ⟨ps, hP, ht, ha⟩ := hT _ hm
  have atP : s.heap.get? P = some { cls := .none, data := .fields ps } := I.hok P _ hP
  have bP : s.heap.BuiltinsAt X.mg P := TB.bm.keeps I.bk
  refine PySem.W.kla_eval hdef ?_
  cases hc : codeAmong pos ps.toList with
  | some cv =>
    obtain ⟨c', e, hco⟩ := ha pos cv hc
    subst e
    refine PySem.W.kla_makeFunctionHit (mg := X.mg) (c := c) (P := P) (ps := ps) (closure_ok hfree) I.ok.glob (I.mod.glob.keeps I.bk) hcode (TB.code.keeps I.bk) atP ht hc bP fun ctv h' tk hx hsz => ?_
    have hsz : s.heap.objs.size ≤ h'.objs.size := hsz
    have n := I.hok.fresh hsz
    exact h h'.objs.size c' ((X.mg "__name__").getD .none) ctv H _ (I.kept (t' := tk) fun b o e => Heap.get?_push_of_some _ (hx b o e)) (ExtN.refl H) hT (Heap.get?_push_size _ rfl) n n (new_of I hsz) hco
  | none =>
    refine PySem.W.kla_makeFunction (mg := X.mg) (c := c) (P := P) (ps := ps) (closure_ok hfree) I.ok.glob (I.mod.glob.keeps I.bk) hcode (TB.code.keeps I.bk) atP ht hc TB.gP bP fun c' ctv h' tk hx hge hlt hrec htb => ?_
    obtain ⟨_, oc, vs, t, e2, hoc, hd, hv⟩ := hrec
    cases e2
    have hge : s.heap.objs.size ≤ c' := hge
    have nC : H c' = none := I.hok.fresh hge
    have hsz : s.heap.objs.size ≤ h'.objs.size := Nat.le_trans hge (Nat.le_of_lt hlt)
    have I1 := inv_table (t' := tk) (more := #[rawInt pos.line, rawInt pos.col, .ref c']) (h' := h'.push (PySem.W.kla_obj "<lambda>" (X.env.qual ++ "<lambda>") params body own (cloFrom X.env.cells own.names []) ((X.mg "__name__").getD .none) c' ctv)) I hP
      (fun b o n e => Heap.get?_push_of_some _ (hx b o n e)) (Heap.get?_push_of_some _ htb) hge ⟨oc, vs, t, Heap.get?_push_of_some _ hoc, hd, hv⟩
    have hE : ExtN H (upd (upd H P (.tbl (ps ++ #[rawInt pos.line, rawInt pos.col, .ref c']))) c' (CodeO c' (X.env.qual ++ "<lambda>"))) := fun b o e n => by
      rw [upd_ne (ne_of_none e nC), upd_ne fun y => n ps (Option.some.inj (e.symm.trans (by rw [y]; exact hP)))]
      exact e
    have toL : (ps ++ #[rawInt pos.line, rawInt pos.col, .ref c']).toList = ps.toList ++ [rawInt pos.line, rawInt pos.col, .ref c'] := by simp
    refine h h'.objs.size c' ((X.mg "__name__").getD .none) ctv _ _ I1 hE (fun p hp => ?_) (Heap.get?_push_size _ rfl) (I.hok.fresh hsz) ?_ (new_of I hsz) upd_same
    · by_cases eP : p.1 = P
      · rw [hu p hp eP, eP]
        refine ⟨_, by rw [upd_ne (ne_of_none hP nC), upd_same], by rw [toL]; exact PySem.TriplesOk_snoc _ _ _ _ ht, fun p' cv hcv => ?_⟩
        rw [toL] at hcv
        rcases among_app _ ht hcv with y | y
        · obtain ⟨c0, y1, y2⟩ := ha p' cv y
          exact ⟨c0, y1, hE _ _ y2 codeO_ne⟩
        · exact ⟨c', y, upd_same⟩
      · obtain ⟨qs, y1, y2, y3⟩ := hT p hp
        refine ⟨qs, by rw [upd_ne (ne_of_none y1 nC), upd_ne eP]; exact y1, y2, fun p' cv hcv => ?_⟩
        obtain ⟨c0, y4, y5⟩ := y3 p' cv hcv
        exact ⟨c0, y4, hE _ _ y5 codeO_ne⟩
    · rw [upd_ne (Nat.ne_of_gt hlt), upd_ne (Nat.ne_of_gt (Nat.lt_of_lt_of_le (Heap.lt_size atP) hsz))]
      exact I.hok.fresh hsz
theorem tabs_new {Ts : List (Addr × Str)} {o : HO} (t : Tabs Ts H) (n : H f = none) : Tabs Ts (upd H f o) := t.ext fun b u e => by rw [upd_ne (ne_of_none e n)]; exact e
theorem extN_new {o : HO} (e : ExtN H H1) (n : H1 f = none) : ExtN H (upd H1 f o) := fun b u h k => by
  have := e b u h k
  rw [upd_ne (ne_of_none this n)]
  exact this
/-- lambda: body, as a value -/
theorem pe_plain {Ts : List (Addr × Str)} {c P : Addr} {params : Arguments} {body : Expr} {own : Scope} {pos : Pos} (TB : TabB X.base X.mg c P) (hcode : X.env.code = .ref c)
    (hm : (P, X.env.qual ++ "<lambda>") ∈ Ts) (hu : ∀ p ∈ Ts, p.1 = P → p.2 = X.env.qual ++ "<lambda>") (L : LamS X.env.scope own) (hdef : defaultsOf params X.env = ([], [])) : PE X (.Lambda params body own pos) (tLamV Ts (IsPlain X params body own)) := by
  refine ⟨fun pins s σ H Q I ⟨hT, h⟩ => makeP I TB hcode hm hu hT hdef (L.has I.ok) fun f c' pm ctv H1 s' I1 eN T1 hf hfn0 hfn nf hco => ?_⟩
  have I2 := track I1 nf hfn (φ := fun h => ∃ pm ctv, h.get? f = some (PySem.W.kla_obj "<lambda>" (X.env.qual ++ "<lambda>") params body own (cloFrom X.env.cells own.names []) pm c' ctv)) ⟨pm, ctv, hf⟩ ⟨_, hf⟩ (fun h1 h2 ⟨pm, ctv, e⟩ k => ⟨pm, ctv, k _ e⟩)
  exact ⟨.ref f, _, I2, rfl, h f _ (extN_new eN hfn) (tabs_new T1 hfn) hfn0 ⟨c', upd_same, by rw [upd_ne (ne_of_none hco hfn)]; exact hco⟩⟩
/-- lambda a=z: body, as a value -/
theorem pe_dflt {Ts : List (Addr × Str)} {c P : Addr} {params : Arguments} {body de : Expr} {own : Scope} {pos : Pos} {a : Str} {z : Int} (TB : TabB X.base X.mg c P) (hcode : X.env.code = .ref c)
    (hm : (P, X.env.qual ++ "<lambda>") ∈ Ts) (hu : ∀ p ∈ Ts, p.1 = P → p.2 = X.env.qual ++ "<lambda>") (L : Par X.N X.env.scope own a) (hde : params.defaults = [de]) (hkw : params.kw_defaults = []) (hz : PE X de (tC (.int z))) : PE X (.Lambda params body own pos) (tLamV Ts (IsDflt X params body own)) := by
  refine ⟨fun pins s σ H Q I ⟨hT, h⟩ => LamD.make I TB hcode hm hu hT hde hkw hz (L.has I.ok) fun f c' D u doc pm ctv H1 s' I1 eN T1 hf hfn hfr hD hDn hDr nf nD nfD hfn0 hco => ?_⟩
  have I2 := track I1 nf hfn (φ := fun h => ∃ doc pm ctv, h.get? f = some (LamD.dObj X params body own D doc pm c' ctv)) ⟨doc, pm, ctv, hf⟩ ⟨_, hf⟩ (fun h1 h2 ⟨doc, pm, ctv, e⟩ k => ⟨doc, pm, ctv, k _ e⟩)
  have nD2 : (upd H1 f (DfltO X params body own f c' D)) D = none := by rw [upd_ne (Ne.symm nfD)]; exact hDn
  have I3 := track I2 nD nD2 (φ := fun h => h.get? D = some (PySem.W.kdv_tup [u])) hD ⟨_, hD⟩ (fun h1 h2 e k => k _ e)
  exact ⟨.ref f, _, I3, rfl, h f _ (extN_new (extN_new eN hfn) nD2) (tabs_new (tabs_new T1 hfn) nD2) hfn0 ⟨c', D, u, by rw [upd_ne nfD, upd_same]; rfl, upd_same, by rw [upd_ne (ne_of_none (show (upd H1 f _) c' = some _ by rw [upd_ne (ne_of_none hco hfn)]; exact hco) nD2), upd_ne (ne_of_none hco hfn)]; exact hco⟩⟩
end
section
variable {X : Cx}
/-- what is called without anything by a def that got it -/
def CallOk (X : Cx) (k : Nat) (is : Addr → Hp → Prop) (t : XK → TE) : Prop := ∀ (pins : List (Addr × Obj)) (σ : L2.St) (H : Hp) (s : Shared) (f : Addr), Inv X pins σ H s → is f H → ∃ c', H c' = some (CodeO c' (X.env.qual ++ "<lambda>")) ∧
  ∀ (Ng : List Str) (qg : Str) (sg : Scope) (g : Addr) (cdg : Value) (i : Nat) (x : Str) (pn : List (Addr × Obj)) (xe : Value → Shared → Prop) (W : WX) (E : XK) (p1 p2 : Pos), Room (k + 1) (X.A.deeper (envOfC qg sg s.heap.objs.size g cdg)) →
    Takes ((cxOf C8.CX0 X.prog X.w X.K X.mg X.base Ng qg sg g cdg X.A X.stack s H C8.E0).tr pn xe) W → (∀ cls d σ' H', E cls d H' → W cls d σ' H') → Ng[i]? = some x → Vis sg x → (x == ("__debug__" : Str)) = false → (x == ("__classdict__" : Str)) = false →
    PE ((cxOf C8.CX0 X.prog X.w X.K X.mg X.base Ng qg sg g cdg X.A X.stack s H C8.E0).tr pn xe) (.Call (.Name x p1) [] [] p2) (fun σZ HZ Q => σZ[i]? = some (some (.ref f)) ∧ HZ c' = some (CodeO c' (X.env.qual ++ "<lambda>")) ∧ (is f HZ ∧ t E σ HZ Q))
theorem call_plain {params : Arguments} {body : Expr} {own : Scope} {k : Nat} {t : XK → TE} (L : LamS X.env.scope own)
    (hbind : ∀ (q : Str) (cl : List (Str × Addr)) (pm cv ctv : Value), bindArgs (PySem.W.kla_fn "<lambda>" q params body own cl pm cv ctv) ⟨[], []⟩ = pure [])
    (hbody : ∀ (A : Around) (outer : List Env) (s : Shared) (H : Hp) (E : XK) (f c' : Addr), Room k (A.deeper (lamEnv X own s.heap.objs.size f c')) → PE (lamCx X A outer s H E own f c') body (t E)) : CallOk X k (IsPlain X params body own) t := by
  intro pins σ H s f I ⟨c0, _, hc0⟩
  refine ⟨c0, hc0, fun Ng qg sg g cdg i x pn xe W E p1 p2 hr tk hW hN hv hdb hcd => ⟨fun pinsZ sZ σZ HZ Q IZ ⟨hs, _, ⟨c', hf, hc⟩, ht⟩ => ?_⟩⟩
  refine wpAny_Call_Name_kw (thn ((pe_var (pos := p1) (i := i) hN hv hdb hcd).run pinsZ sZ σZ HZ (fun v H1 => v = .ref f ∧ H1 = HZ) IZ ⟨.ref f, hs, rfl, rfl⟩) fun u' s1 ⟨v, H1, I1, r1, ev, eH⟩ => ?_)
  subst ev eH
  obtain rfl : u' = Value.ref f := r1
  obtain ⟨⟨pm, ctv, of1⟩, _, _⟩ := I1.hok f _ hf
  refine PySem.W.callWith_F0 ⟨_, _, _, _, of1⟩ ?_
  have un : Un (frs X.stack) [] H H1 s.heap s1.heap := I1.base
  obtain ⟨⟨oc, vs, tt, hoc, hdc, hvc⟩, _, _⟩ := I1.hok c' _ hc
  have rc : codeAny (model X.prog X.w) (X.A.deeper (envOfC qg sg s.heap.objs.size g cdg)) (.call (.ref f) ⟨[], []⟩) (CR (L2.CX X.prog X.w) (envOfC qg sg s.heap.objs.size g cdg :: X.stack) X.prog X.w H1 s1 Q E) s1 := by
    refine PySem.W.kla_callFunE hr.depth of1 rfl L.co L.gen rfl ⟨c', oc, vs, tt, rfl, hoc, hdc, hvc⟩ ?_
    rw [hbind]
    refine wpAny_pure (wpAny_newFunctionEnv (fun y hy => (L.own y hy).2) (fun y hy => absurd hy (by simp)) (fun h₁ hns hsb => ⟨I1.nolimit.fresh _ hsb, ?_⟩) L.kind)
    refine (?_ : codeAny _ _ (.expr body (lamEnv X own s1.heap.objs.size f c')) _ _)
    have kp : ∀ b o, s1.heap.get? b = some o → h₁.get? b = some o := fun b o e => hsb.extBut b o (Nat.ne_of_lt (Heap.lt_size e)) (Heap.get?_push_of_some _ e)
    have J : Inv (lamCx X (X.A.deeper (envOfC qg sg s.heap.objs.size g cdg)) (envOfC qg sg s.heap.objs.size g cdg :: X.stack) s1 H1 E own f c') [] σ H1 { s1 with heap := h₁, toks := s1.toks + ([] : List (Str × Value)).length } :=
      lam_start2 I L I1.env0 hr.hd un hns kp
    exact PySem.W.kla_codeExpr (wpAny_mono ((hbody _ _ s1 H1 E f c' (hr.deeper _)).run [] _ _ H1 Q J ht) (fun v s' ⟨w', H', J', rv, q⟩ => ⟨w', H', J'.os, J'.bare, J'.base, J'.hok, rv, q⟩) fun _ _ hq => hq)
  have hx : Passes (L2.CX X.prog X.w) ((cxOf C8.CX0 X.prog X.w X.K X.mg X.base Ng qg sg g cdg X.A X.stack s H C8.E0).tr pn xe) E := passes_call tk hW
  refine wpAny_call (codeAny_mono rc fun r s' hq => ?_)
  match r, hq with
  | .error e, hq => exact hx pinsZ σZ H1 s1 e s' I1 hq
  | .ok (.ret u), hq => exact I1.after hq
  | .ok .next, hq => exact False.elim hq
  | .ok .brk, hq => exact False.elim hq
  | .ok .cont, hq => exact False.elim hq
theorem call_dflt {params : Arguments} {body : Expr} {own : Scope} {k : Nat} {a : Str} {t : XK → TE} (L : Par X.N X.env.scope own a)
    (hbind : ∀ (u : Value) (D : Addr) (q : Str) (cl : List (Str × Addr)) (doc pm cv ctv : Value) (s : Shared), s.heap.get? D = some (PySem.W.kdv_tup [u]) → BindsTo s (PySem.W.kdv_fn "<lambda>" q params (.expr body) own cl (.ref D) doc pm cv ctv) ⟨[], []⟩ [(a, u)])
    (hbody : ∀ (A : Around) (outer : List Env) (s : Shared) (H : Hp) (E : XK) (f c' : Addr), Room k (A.deeper (lamEnv X own s.heap.objs.size f c')) → PE (lamCx X A outer s H E own f c') body (t E)) : CallOk X k (IsDflt X params body own) t := by
  intro pins σ H s f I ⟨c0, _, _, _, _, hc0⟩
  refine ⟨c0, hc0, fun Ng qg sg g cdg i x pn xe W E p1 p2 hr tk hW hN hv hdb hcd => ⟨fun pinsZ sZ σZ HZ Q IZ ⟨hs, _, ⟨c', D, u, hf, hD, hc⟩, ht⟩ => ?_⟩⟩
  refine wpAny_Call_Name_kw (thn ((pe_var (pos := p1) (i := i) hN hv hdb hcd).run pinsZ sZ σZ HZ (fun v H1 => v = .ref f ∧ H1 = HZ) IZ ⟨.ref f, hs, rfl, rfl⟩) fun u' s1 ⟨v, H1, I1, r1, ev, eH⟩ => ?_)
  subst ev eH
  obtain rfl : u' = Value.ref f := r1
  obtain ⟨⟨doc, pm, ctv, of1⟩, _, _⟩ := I1.hok f _ hf
  obtain ⟨oD, _, _⟩ := I1.hok D _ hD
  refine PySem.W.callWith_F0 ⟨_, _, _, _, of1⟩ ?_
  have un : Un (frs X.stack) [] H H1 s.heap s1.heap := I1.base
  obtain ⟨⟨oc, vs, tt, hoc, hdc, hvc⟩, _, _⟩ := I1.hok c' _ hc
  have rc : codeAny (model X.prog X.w) (X.A.deeper (envOfC qg sg s.heap.objs.size g cdg)) (.call (.ref f) ⟨[], []⟩) (CR (L2.CX X.prog X.w) (envOfC qg sg s.heap.objs.size g cdg :: X.stack) X.prog X.w H1 s1 Q E) s1 := by
    refine PySem.W.kla_callFunE hr.depth of1 rfl L.co L.gen rfl ⟨c', oc, vs, tt, rfl, hoc, hdc, hvc⟩ (hbind u D _ _ _ _ _ _ s1 oD _ _ _ _ ?_)
    refine wpAny_newFunctionEnv (fun y hy => (L.loc y hy).1) (fun y hy => by rw [List.mem_singleton.mp hy]; exact L.par) (fun h₁ hns hsb => ⟨I1.nolimit.fresh _ hsb, ?_⟩) L.kind
    refine (?_ : codeAny _ _ (.expr body (lamEnv X own s1.heap.objs.size f c')) _ _)
    have kp : ∀ b o, s1.heap.get? b = some o → h₁.get? b = some o := fun b o e => hsb.extBut b o (Nat.ne_of_lt (Heap.lt_size e)) (Heap.get?_push_of_some _ e)
    have J := LamD.enter (A := X.A.deeper (envOfC qg sg s.heap.objs.size g cdg)) (outer := envOfC qg sg s.heap.objs.size g cdg :: X.stack) (E := E) (f := f) (c' := c') (tk := s1.toks + ([(a, u)] : List (Str × Value)).length) I L I1.env0 hr.hd un hns kp
    exact PySem.W.kla_codeExpr (wpAny_mono ((hbody _ _ s1 H1 E f c' (hr.deeper _)).run [] _ _ H1 Q J ht) (fun v s' ⟨w', H', J', rv, q⟩ => ⟨w', H', J'.os, J'.bare, J'.base, J'.hok, rv, q⟩) fun _ _ hq => hq)
  have hx : Passes (L2.CX X.prog X.w) ((cxOf C8.CX0 X.prog X.w X.K X.mg X.base Ng qg sg g cdg X.A X.stack s H C8.E0).tr pn xe) E := passes_call tk hW
  refine wpAny_call (codeAny_mono rc fun r s' hq => ?_)
  match r, hq with
  | .error e, hq => exact hx pinsZ σZ H1 s1 e s' I1 hq
  | .ok (.ret u), hq => exact I1.after hq
  | .ok .next, hq => exact False.elim hq
  | .ok .brk, hq => exact False.elim hq
  | .ok .cont, hq => exact False.elim hq
/-- x(v), v one of some lambdas -/
def tWordV (TT : (XK → Hp → VK → Prop) → Hp → VK → Prop) (Ls : List ((Addr → Hp → Prop) × (XK → TE))) (te : TE) : TE := fun σ H Q => te σ H fun v H1 => ∃ f : Addr, v = .ref f ∧ ∃ l ∈ Ls, l.1 f H1 ∧ TT (fun E H' Q' => l.1 f H' ∧ l.2 E σ H' Q') H1 Q
theorem pe_wordcall {Ls : List ((Addr → Hp → Prop) × (XK → TE))} {TT : (XK → Hp → VK → Prop) → Hp → VK → Prop} {x y z : Str} {g : Addr} {k j : Nat} {pg : Arguments} {bg : List Stmt} {sg : Scope} {dV kV doc pm cdv ct oc : Value} {an od : Option Addr} {osl : Array (Option Value)} {Ng : List Str}
    {p pz pos : Pos} (hg : Gl X x) (hm : X.mg x = some (.ref g)) (hk : PySem.W.keepIn X.K (.ref g) = true)
    (lk : X.K.lookup g = some ⟨oc, od, .func (PySem.W.fnOf x x pg bg sg dV kV doc pm an cdv ct), osl⟩) (hcg : PySem.W.codeIn X.K cdv x = true) (hb : L2.Binds X.K (PySem.W.fnOf x x pg bg sg dV kV doc pm an cdv ct) [y] []) (Sg : FnScope Ng [y] sg) (hNg : Ng[0]? = some y) (hva : Vis sg y)
    (hG : GivesTo X Ng x sg g cdv bg y (X.env.qual ++ "<lambda>") TT) (hr : Room (k + 2) X.A) (hL : ∀ l ∈ Ls, CallOk X k l.1 l.2) (hz : PE X (.Name z pz) (tVar j))
    (hdb : (x == ("__debug__" : Str)) = false := by decide) (hd : (y == ("__debug__" : Str)) = false := by decide) (hcd : (y == ("__classdict__" : Str)) = false := by decide) :
    PE X (.Call (.Name x p) [.Name z pz] [] pos) (tWordV TT Ls (tVar j)) := by
  refine ⟨fun pins s σ H Q I h => ?_⟩
  refine wpAny_Call_Name_kw (ld_glob I hg hm ?_ hdb)
  refine PySem.W.callWith_K (h₀ := X.base) I.ok.mod.kin hk ?_ (by rfl) (by rfl)
  refine (?_ : wpAny _ _ (spliced ((false, eval (.Name z pz) X.env) :: backTo pos (starEach [] X.env))) _ _ s)
  refine Calls.spliced_cons (thn (hz.run pins s σ H _ I h) fun u s' ⟨v, H1, I1, rv, f, ev, l, hl, hi, hT⟩ => Calls.spliced_nil ⟨I1.kIn, ?_⟩)
  subst ev
  obtain rfl : u = Value.ref f := rv
  obtain ⟨c', hco, act⟩ := hL l hl pins σ H1 s' f I1 hi
  have rc : codeAny (model X.prog X.w) X.A (.call (.ref g) ⟨[.ref f], []⟩) (CR C8.CX0 X.stack X.prog X.w H1 s' Q C8.E0) s' := by
    refine run_ofS (N := Ng) (ps := [y]) (us := [.ref f]) (vs := [.ref f]) lk hcg Sg hr I1.env0 (hb s' [.ref f] I1.kIn rfl) (.cons rfl .nil) rfl fun hr' => ?_
    obtain ⟨t', ht', hq'⟩ := hG f c' s' H1 Q (fun E H' Q' => l.1 f H' ∧ l.2 E σ H' Q') (fun W pn xe E p1 p2 tk hW => act Ng x sg g cdv 0 y pn xe W E p1 p2 hr' tk hW hNg hva hd hcd) hco hT
    exact ⟨t', ht'.nox, hq'⟩
  refine wpAny_call (codeAny_mono rc fun r s2 hq => ?_)
  match r, hq with
  | .error e, hq => exact (show False from hq).elim
  | .ok (.ret u), hq => exact I1.after hq
  | .ok .next, hq => exact False.elim hq
  | .ok .brk, hq => exact False.elim hq
  | .ok .cont, hq => exact False.elim hq
end
end LamV
/-! a comprehension whose tests and items may lean on what the def's frame holds where the comprehension begins -/
namespace LamV
open PySem PySem.Spec PyProof.Rows L2 LamX LamD
abbrev blkX (X : Cx) (scope : Scope) (s : Shared) (H : Hp) (C : Addr) (cl : List (Str × Addr)) (fp : List Addr) : Cx := X.blk s H scope (compEnvC scope cl C X.env) fp
theorem pe_lcI {X : Cx} {elt tg iter : Expr} {ifs : List Expr} {scope : Scope} {own : List (Str × Nat)} {pos : Pos} {wi : TI} {g : TG} {tt : L2.St → TT} {te : L2.St → TE} (calm : X.calm = true) (nd : X.N.Nodup) (hi : PI X tg iter wi) (ok : BlkOk X.N X.env.scope scope own)
    (hg : ∀ (pins : List (Addr × Obj)) (σ : L2.St) (s : Shared) (H : Hp) (C : Addr) (cl : List (Str × Addr)) (fp : List Addr), Inv X pins σ H s → (∀ b ∈ fp, FpOk X pins H b) → PG (blkX X scope s H C cl fp) tg g)
    (ht : ∀ (pins : List (Addr × Obj)) (σ : L2.St) (s : Shared) (H : Hp) (C : Addr) (cl : List (Str × Addr)) (fp : List Addr), Inv X pins σ H s → (∀ b ∈ fp, FpOk X pins H b) → PTs (blkX X scope s H C cl fp) ifs (tt σ))
    (he : ∀ (pins : List (Addr × Obj)) (σ : L2.St) (s : Shared) (H : Hp) (C : Addr) (cl : List (Str × Addr)) (fp : List Addr), Inv X pins σ H s → (∀ b ∈ fp, FpOk X pins H b) → PE (blkX X scope s H C cl fp) elt (te σ))
    (hs : ∀ x, foldedSetIterable iter X.env x = pure x := by intro _; rfl) :
    PE X (.ListComp elt [⟨tg, iter, ifs, 0⟩] scope pos) (fun σ H Q => tLc wi g (tt σ) (te σ) (own.map (·.2)) σ H Q) := by
  constructor
  intro pins s σ H Q I want
  rw [eval_ListComp]
  have capt : ∀ y ∈ scope.names, y.2 = .free → ∃ c, X.env.cells.lookup y.1 = some c := fun y m e => I.ok.has _ (ok.free y m e)
  refine wpAny_comprehension_free (use := none) rfl hs (closure_ok capt) ok.kind (fun y m e => (ok.uniq y m).trans (congrArg some e)) (thn (hi.run pins s σ H _ I want) fun _ _ hx => thn hx fun _ sI ⟨it, fp, tn, J, HI, eIt, II, Tn, st, away, plan⟩ => ?_)
  subst eIt
  refine wpAny_newObj_type (newEnv_comp ?_) (Nat.zero_le _)
  -- the list that grows, at its address
  obtain ⟨D, eD⟩ : ∃ D, sI.heap.objs.size = D := ⟨_, rfl⟩
  rw [eD]
  obtain ⟨W, ⟨m0, w0⟩, turn⟩ := plan D (II.hok.fresh (Nat.le_of_eq eD))
  obtain ⟨sD, esD⟩ : ∃ sD : Shared, ({ sI with heap := sI.heap.push { cls := .type "list", data := .seq ([] : List Value).toArray } } : Shared) = sD := ⟨_, rfl⟩
  obtain ⟨HD, eHD⟩ : ∃ HD, upd HI D (.lst []) = HD := ⟨_, rfl⟩
  have grow : ∀ b o, sI.heap.get? b = some o → sD.heap.get? b = some o := fun b o e => by rw [← esD]; exact Heap.get?_push_of_some _ e
  have ID : Inv X pins σ HD sD := by
    rw [← esD, ← eHD]
    exact II.laid (t' := sI.toks) (fun b o e => Heap.get?_push_of_some _ e) (Nat.le_of_eq eD) ⟨Nat.zero_le _, [], 0, .nil, by rw [← eD]; exact Heap.get?_push_size _ rfl⟩
  have away2 : ∀ b ∈ fp, FpOk X pins HD b ∧ b < sD.heap.objs.size := fun b m => by
    obtain ⟨o, e, _⟩ := Tn.obj _ _ st b m
    have lt := Heap.lt_size e
    refine ⟨⟨?_, (away b m).2⟩, Heap.lt_size (grow b o e)⟩
    rw [← eHD, upd_ne (by rw [← eD]; exact Nat.ne_of_lt lt)]
    exact (away b m).1
  rw [eHD] at w0
  rw [esD]
  obtain ⟨L0, eL⟩ : ∃ L0, sD.heap.objs.size = L0 := ⟨_, rfl⟩
  have start := block_start ID ok nd away2
  rw [eL] at start ⊢
  obtain ⟨cl, ecl⟩ : ∃ cl, cellsFrom (L0 + 1) scope.names (cloFrom X.env.cells scope.names []) = cl := ⟨_, rfl⟩
  have G := hg pins σ sD HD L0 cl fp ID fun b m => (away2 b m).1
  have TT' := ht pins σ sD HD L0 cl fp ID fun b m => (away2 b m).1
  have EE := he pins σ sD HD L0 cl fp ID fun b m => (away2 b m).1
  rw [ecl] at start
  refine (?_ : codeAny _ _ (.compStart (.ListComp elt [⟨tg, iter, ifs, 0⟩] scope pos) 0 (.ref it) (.ref D) (compEnvC scope (cellsFrom (L0 + 1) scope.names (cloFrom X.env.cells scope.names [])) L0 X.env)) (compPost (model X.prog X.w) X.A X.xe none (EP X pins σ Q) (.ref D) L0) { sD with heap := pushCells (sD.heap.push { cls := .type "dict", data := .dict #[] }) scope.names })
  rw [ecl]
  obtain ⟨sB, esB⟩ : ∃ sB : Shared, ({ sD with heap := pushCells (sD.heap.push { cls := .type "dict", data := .dict #[] }) scope.names } : Shared) = sB := ⟨_, rfl⟩
  have stB : tn 0 sB.heap := Tn.keep _ _ _ st fun b _ o e => by rw [← esB]; exact pushCells_keeps _ _ _ _ (Heap.get?_push_of_some _ (grow b o e))
  rw [esB] at start ⊢
  have noFp : ∀ b ∈ fp, HD b = none := fun b m => (away2 b m).1.1
  have still : ∀ {τ : L2.St} {H' : Hp} {s' : Shared}, Inv (blkX X scope sD HD L0 cl fp) [] τ H' s' → (∀ b ∈ fp, H' b = none) → ∀ b ∈ fp, FpOk (blkX X scope sD HD L0 cl fp) [] H' b := fun {τ H' s'} J n b m =>
    ⟨n b m, (J.ok.exf b m).1, J.ok.exfs b m, .inl m, fun x c e => (J.ok.exf b m).2 x c e, fun p hp => by cases (show p ∈ ([] : List (Addr × Obj)) from hp)⟩
  have loop : codeAny (model X.prog X.w) X.A (.compLoop (.ListComp elt [⟨tg, iter, ifs, 0⟩] scope pos) 0 (.ref it) (.ref D) (compEnvC scope cl L0 X.env)) (compPost (model X.prog X.w) X.A X.xe none (EP X pins σ Q) (.ref D) L0) sB := by
    refine compLoop_any (fun n s' => ∃ (i : Nat) (H' : Hp), W i n H' ∧ (∀ b ∈ fp, H' b = none) ∧ tn i s'.heap ∧ Inv (blkX X scope sD HD L0 cl fp) [] (wipe σ (own.map (·.2))) H' s') (fun n s5 ⟨i, H5, w5, n5, t5, I5⟩ => ?_) m0 ⟨0, HD, w0, noFp, stB, start⟩
    cases turn i n H5 w5 with
    | inl stp =>
      refine thnF (Tn.done (blkX X scope sD HD L0 cl fp) rfl rfl rfl calm i [] s5 _ H5 (fun _ _ => False) I5 (still I5 n5) t5 stp.1) fun r s6 ⟨er, I6⟩ => ?_
      subst er
      have back : Inv X pins σ H5 s6 := ID.call' (ch := fp) I6.os I6.base I6.hok I6.bare fun b m => let z := (away2 b m).1.2; ⟨z.2.2.1, z.1, z.2.2.2.1, z.2.2.2.2⟩
      obtain ⟨μ, ns, _⟩ := I6.loc
      have fL : FpOk X pins H5 L0 := by rw [← eL]; exact ID.fpOk (Nat.le_refl _) (by rw [eL]; exact I6.free)
      obtain ⟨f0, f1, f2, f3, f4, f5⟩ := fL
      exact ⟨μ, ns, fun h'' sb => ⟨.ref D, H5, back.turned (t' := s6.toks) (fun b o hb e => (sb.2 b hb).trans e) f0 f1 f3 f4 f5, rfl, stp.2⟩⟩
    | inr goes =>
      obtain ⟨go, Nx, less, each⟩ := goes
      refine thnF (Tn.item (blkX X scope sD HD L0 cl fp) rfl rfl rfl calm i [] s5 _ H5 (fun _ _ => False) I5 (still I5 n5) t5 go) fun r s6 ⟨u, er, h6⟩ => ?_
      subst er
      refine thnF h6 fun _ s7 ⟨x, H7, I7, r7, y7, t7, n7⟩ => ?_
      have P7 := I7.pinned (still I7 n7) (Tn.obj _ _ t7)
      refine thnF (G.run _ s7 _ H7 x u _ P7 r7 (each x H7 y7)) fun _ s8 ⟨τ, H8, I8, wiped, q8⟩ => ?_
      have next : ∀ {s' : Shared} {H' : Hp}, Nx H' → Inv (blkX X scope sD HD L0 cl fp) ([] ++ pinsAt fp s7.heap) τ H' s' → ∃ m, m < n ∧ ∃ (i : Nat) (H' : Hp), W i m H' ∧ (∀ b ∈ fp, H' b = none) ∧ tn i s'.heap ∧ Inv (blkX X scope sD HD L0 cl fp) [] (wipe σ (own.map (·.2))) H' s' := fun {s' H'} nx I' => by
        have pinned : ∀ b ∈ fp, ∀ o, s7.heap.get? b = some o → s'.heap.get? b = some o ∧ H' b = none := fun b m o e =>
          let z := I'.pin (b, o) (List.mem_append_right _ (List.mem_append_right _ (mem_pinsAt m e)))
          ⟨z.1, z.2.1⟩
        obtain ⟨m, lt, wm⟩ := less H' nx
        refine ⟨m, lt, i + 1, H', wm, fun b hb => ?_, Tn.keep _ _ _ t7 fun b hb o e => (pinned b hb o e).1, ?_⟩
        · obtain ⟨o, e, _⟩ := Tn.obj _ _ t7 b hb
          exact (pinned b hb o e).2
        · refine (I'.unpinned (pins := [])).weak (by rw [← wiped, wipe_length]) fun j v e => ?_
          rw [← wiped] at e
          exact (wipe_some e).1
      refine thnF (TT'.run _ s8 τ H8 _ I8 q8) fun b s9 ⟨H9, I9, q9⟩ => ?_
      cases b with
      | false =>
        rw [if_neg Bool.false_ne_true] at q9 ⊢
        exact next q9 I9
      | true =>
        rw [if_pos rfl] at q9 ⊢
        refine thnF (EE.run _ s9 τ H9 _ I9 q9) fun z s10 ⟨yv, H10, I10, r10, acc, hD10, fits, nx⟩ => ?_
        exact app_ok (X := blkX X scope sD HD L0 cl fp) I10 hD10 fits r10 fun s11 I11 => next nx I11
  exact codeAny_compStart_list loop (Tn.self X.A 0 _ _ _ stB loop)
/-! ### lambdas that are called there -/
structure LamN (N : List Str) (sc own : Scope) : Prop where
  kind : own.kind = .function
  co : own.isCoroutine = false
  gen : own.isGenerator = false
  loc : ∀ y ∈ own.names, y.2 ≠ .cell ∧ (y.2 = .local → y.1 ∉ N)
  free : ∀ y ∈ own.names, y.2 = .free → sc.names.lookup y.1 = some .cell ∨ sc.names.lookup y.1 = some .free
theorem LamN.ofS {N : List Str} {sc own : Scope} (L : LamS sc own) : LamN N sc own := ⟨L.kind, L.co, L.gen, fun y m => ⟨(L.own y m).2, fun e => absurd e (L.own y m).1⟩, L.free⟩
theorem LamN.ofP {N : List Str} {sc own : Scope} {a : Str} (L : Par N sc own a) : LamN N sc own := ⟨L.kind, L.co, L.gen, fun y m => ⟨(L.loc y m).1, fun e => by rw [(L.loc y m).2 e]; exact L.out⟩, L.free⟩
section
variable {X : Cx} {pins : List (Addr × Obj)} {σ : L2.St} {H HZ : Hp} {s s1 : Shared}
/-- the maker's cells, as they were -/
def CellK (X : Cx) (s : Shared) (s1 : Shared) (HZ : Hp) : Prop := ∀ (x : Str) (c : Addr) (v : Option Value), X.env.cells.lookup x = some c → s.heap.IsCell c v → s1.heap.IsCell c v ∧ HZ c = none
theorem cell_un {fs ex : List Addr} (I : Inv X pins σ H s) (un : Un fs ex H HZ s.heap s1.heap) (nx : ∀ x c, X.env.cells.lookup x = some c → c ∉ ex) : CellK X s s1 HZ := fun x c v e ⟨o, ho, od⟩ => by
  obtain ⟨sl, q⟩ := un.any ho (I.freeC x c e) (nx x c e)
  exact ⟨⟨_, q, od⟩, un.free c o ho (I.freeC x c e) (nx x c e)⟩
theorem CellK.refl (I : Inv X pins σ H s) : CellK X s s H := fun x c v e h => ⟨h, I.freeC x c e⟩
theorem CellK.un {fs : List Addr} (k : CellK X s s1 HZ) {s2 : Shared} {H2 : Hp} (un : Un fs [] HZ H2 s1.heap s2.heap) : CellK X s s2 H2 := fun x c v e h => by
  obtain ⟨⟨o, ho, od⟩, n⟩ := k x c v e h
  obtain ⟨sl, q⟩ := un.any ho n (by simp)
  exact ⟨⟨_, q, od⟩, un.free c o ho n (by simp)⟩
/-- its body's context, entered -/
theorem enterN {A : Around} {outer : List Env} {E : XK} {own : Scope} {f c' : Addr} {h₁ : Heap} {tk : Nat} {m : Str → Option Value} (I : Inv X pins σ H s) (L : LamN X.N X.env.scope own) (e0 : Env0 X.prog X.w X.K X.mg X.base A outer s1 HZ) (hd : A.handled = none)
    (ck : CellK X s s1 HZ) (hns : h₁.Ns s1.heap.objs.size m) (kp : ∀ b o, s1.heap.get? b = some o → h₁.get? b = some o) :
    Inv (lamCx X A outer s1 HZ E own f c') [] σ HZ { s1 with heap := h₁, toks := tk } := by
  have has : ∀ y ∈ own.names, y.2 = .free → ∃ c, X.env.cells.lookup y.1 = some c := fun y hy e => (L.free y hy e).elim (fun k => I.ok.has _ (.inl k)) fun k => I.ok.has _ (.inr k)
  have cl1 : ∀ {y c}, (cloFrom X.env.cells own.names []).lookup y = some c → X.env.cells.lookup y = some c := fun {y c} e => by
    rcases cloFrom_mem (PySem.mem_of_lookup e) with z | ⟨z1, z2⟩
    · cases z
    · obtain ⟨c1, hc⟩ := has _ z1 rfl
      have hc : X.env.cells.lookup y = some c1 := hc
      rw [z2, hc]
      rfl
  have cl2 : ∀ {y}, own.names.lookup y = some .free → ∃ c, (cloFrom X.env.cells own.names []).lookup y = some c := fun {y} hl =>
    mem_lookup (cloFrom_has (cells := X.env.cells) (acc := []) (show (y, NameKind.free) ∈ own.names from PySem.mem_of_lookup hl))
  have up : ∀ {c : Addr} {v : Option Value}, s1.heap.IsCell c v → h₁.IsCell c v := fun {c v} ⟨o, ho, od⟩ => ⟨o, kp _ _ ho, od⟩
  have no : ∀ b : Addr, b ∉ (lamCx X A outer s1 HZ E own f c').ex := fun b z => absurd (show b ∈ ([] : List Addr) from z) (by simp)
  refine ⟨⟨e0.mod, L.kind, rfl, rfl, Nat.le_refl _, fun y z c e1 e2 => I.ok.inj y z c (cl1 e1) (cl1 e2), fun y hy => ?_, fun y c z _ => (by cases (show false = true from z)), fun _ => hd, Around.frames_deeper e0.frames, .inr ⟨rfl, rfl⟩, fun b z => absurd z (no b), e0.bs, e0.bsz, fun b _ _ => no b,
      fun b z => absurd z (no b), e0.funs, e0.frf⟩,
    rfl, e0.bare, Un.kept kp, ⟨_, hns, fun i y v e1 e2 e3 => ?_⟩, fun y c e => ?_, e0.hok.fresh (Nat.le_refl _), fun y c e => ?_, fun q hq => absurd (show q ∈ ([] : List (Addr × Obj)) ++ [] from hq) (by simp), e0.hok.kept kp, I.len⟩
  · have hy : own.names.lookup y = some .cell ∨ own.names.lookup y = some .free := hy
    exact hy.elim (fun z => absurd rfl (L.loc _ (PySem.mem_of_lookup z)).1) cl2
  · have e3 : Vis own y := e3
    rcases e3 with k | k | k
    · have e1 : X.N[i]? = some y := e1
      exact absurd (List.mem_of_getElem? e1) ((L.loc _ (PySem.mem_of_lookup k)).2 rfl)
    · exact absurd rfl (L.loc _ (PySem.mem_of_lookup k)).1
    · obtain ⟨m', hn, hl⟩ := I.loc
      have vis : Vis X.env.scope y := (L.free _ (PySem.mem_of_lookup k) rfl).elim (fun k => .inr (.inl k)) fun k => .inr (.inr k)
      obtain ⟨w', r, q⟩ := hl i y v e1 e2 vis
      obtain ⟨c2, h2⟩ := cl2 k
      refine ⟨w', r, .inr ⟨.inr k, c2, h2, ?_⟩⟩
      rcases q with ⟨k', _⟩ | ⟨_, c3, e', z⟩
      · have k' : X.env.scope.names.lookup y = some .local := k'
        rcases L.free _ (PySem.mem_of_lookup k) rfl with k2 | k2 <;> rw [show X.env.scope.names.lookup y = _ from k2] at k' <;> cases k'
      · rw [cl1 h2] at e'
        cases e'
        exact up (ck y _ _ (cl1 h2) z).1
  · obtain ⟨w', z⟩ := I.cell y c (cl1 e)
    exact ⟨w', up (ck y c _ (cl1 e) z).1⟩
  · obtain ⟨v, z⟩ := I.cell y c (cl1 e)
    exact (ck y c _ (cl1 e) z).2
/-- what is called without anything by a def that got it, wherever the maker's cells are as they were -/
def CallK (X : Cx) (k : Nat) (is : Addr → Hp → Prop) (t : XK → TE) : Prop := ∀ (pins : List (Addr × Obj)) (σ : L2.St) (H0 : Hp) (s0 : Shared) (H : Hp) (s : Shared) (f : Addr), Inv X pins σ H0 s0 → CellK X s0 s H → is f H → ∃ c', H c' = some (CodeO c' (X.env.qual ++ "<lambda>")) ∧
  ∀ (Ng : List Str) (qg : Str) (sg : Scope) (g : Addr) (cdg : Value) (i : Nat) (x : Str) (pn : List (Addr × Obj)) (xe : Value → Shared → Prop) (W : WX) (E : XK) (p1 p2 : Pos), Room (k + 1) (X.A.deeper (envOfC qg sg s.heap.objs.size g cdg)) →
    Takes ((cxOf C8.CX0 X.prog X.w X.K X.mg X.base Ng qg sg g cdg X.A X.stack s H C8.E0).tr pn xe) W → (∀ cls d σ' H', E cls d H' → W cls d σ' H') → Ng[i]? = some x → Vis sg x → (x == ("__debug__" : Str)) = false → (x == ("__classdict__" : Str)) = false →
    PE ((cxOf C8.CX0 X.prog X.w X.K X.mg X.base Ng qg sg g cdg X.A X.stack s H C8.E0).tr pn xe) (.Call (.Name x p1) [] [] p2) (fun σZ HZ Q => σZ[i]? = some (some (.ref f)) ∧ HZ c' = some (CodeO c' (X.env.qual ++ "<lambda>")) ∧ (is f HZ ∧ t E σ HZ Q))
theorem callk_plain {params : Arguments} {body : Expr} {own : Scope} {k : Nat} {t : XK → TE} (L : LamS X.env.scope own)
    (hbind : ∀ (q : Str) (cl : List (Str × Addr)) (pm cv ctv : Value), bindArgs (PySem.W.kla_fn "<lambda>" q params body own cl pm cv ctv) ⟨[], []⟩ = pure [])
    (hbody : ∀ (A : Around) (outer : List Env) (s : Shared) (H : Hp) (E : XK) (f c' : Addr), Room k (A.deeper (lamEnv X own s.heap.objs.size f c')) → PE (lamCx X A outer s H E own f c') body (t E)) : CallK X k (IsPlain X params body own) t := by
  intro pins σ H0 s0 H s f I ck ⟨c0, _, hc0⟩
  refine ⟨c0, hc0, fun Ng qg sg g cdg i x pn xe W E p1 p2 hr tk hW hN hv hdb hcd => ⟨fun pinsZ sZ σZ HZ Q IZ ⟨hs, _, ⟨c', hf, hc⟩, ht⟩ => ?_⟩⟩
  refine wpAny_Call_Name_kw (thn ((pe_var (pos := p1) (i := i) hN hv hdb hcd).run pinsZ sZ σZ HZ (fun v H1 => v = .ref f ∧ H1 = HZ) IZ ⟨.ref f, hs, rfl, rfl⟩) fun u' s1 ⟨v, H1, I1, r1, ev, eH⟩ => ?_)
  subst ev eH
  obtain rfl : u' = Value.ref f := r1
  obtain ⟨⟨pm, ctv, of1⟩, _, _⟩ := I1.hok f _ hf
  refine PySem.W.callWith_F0 ⟨_, _, _, _, of1⟩ ?_
  have ck1 : CellK X s0 s1 H1 := ck.un (show Un (frs X.stack) [] H H1 s.heap s1.heap from I1.base)
  obtain ⟨⟨oc, vs, tt, hoc, hdc, hvc⟩, _, _⟩ := I1.hok c' _ hc
  have rc : codeAny (model X.prog X.w) (X.A.deeper (envOfC qg sg s.heap.objs.size g cdg)) (.call (.ref f) ⟨[], []⟩) (CR (L2.CX X.prog X.w) (envOfC qg sg s.heap.objs.size g cdg :: X.stack) X.prog X.w H1 s1 Q E) s1 := by
    refine PySem.W.kla_callFunE hr.depth of1 rfl L.co L.gen rfl ⟨c', oc, vs, tt, rfl, hoc, hdc, hvc⟩ ?_
    rw [hbind]
    refine wpAny_pure (wpAny_newFunctionEnv (fun y hy => (L.own y hy).2) (fun y hy => absurd hy (by simp)) (fun h₁ hns hsb => ⟨I1.nolimit.fresh _ hsb, ?_⟩) L.kind)
    refine (?_ : codeAny _ _ (.expr body (lamEnv X own s1.heap.objs.size f c')) _ _)
    have kp : ∀ b o, s1.heap.get? b = some o → h₁.get? b = some o := fun b o e => hsb.extBut b o (Nat.ne_of_lt (Heap.lt_size e)) (Heap.get?_push_of_some _ e)
    have J := enterN (A := X.A.deeper (envOfC qg sg s.heap.objs.size g cdg)) (outer := envOfC qg sg s.heap.objs.size g cdg :: X.stack) (E := E) (f := f) (c' := c') (tk := s1.toks + ([] : List (Str × Value)).length) I (LamN.ofS L) I1.env0 hr.hd ck1 hns kp
    exact PySem.W.kla_codeExpr (wpAny_mono ((hbody _ _ s1 H1 E f c' (hr.deeper _)).run [] _ _ H1 Q J ht) (fun v s' ⟨w', H', J', rv, q⟩ => ⟨w', H', J'.os, J'.bare, J'.base, J'.hok, rv, q⟩) fun _ _ hq => hq)
  have hx : Passes (L2.CX X.prog X.w) ((cxOf C8.CX0 X.prog X.w X.K X.mg X.base Ng qg sg g cdg X.A X.stack s H C8.E0).tr pn xe) E := passes_call tk hW
  refine wpAny_call (codeAny_mono rc fun r s' hq => ?_)
  match r, hq with
  | .error e, hq => exact hx pinsZ σZ H1 s1 e s' I1 hq
  | .ok (.ret u), hq => exact I1.after hq
  | .ok .next, hq => exact False.elim hq
  | .ok .brk, hq => exact False.elim hq
  | .ok .cont, hq => exact False.elim hq
theorem callk_dflt {params : Arguments} {body : Expr} {own : Scope} {k : Nat} {a : Str} {t : XK → TE} (L : Par X.N X.env.scope own a)
    (hbind : ∀ (u : Value) (D : Addr) (q : Str) (cl : List (Str × Addr)) (doc pm cv ctv : Value) (s : Shared), s.heap.get? D = some (PySem.W.kdv_tup [u]) → BindsTo s (PySem.W.kdv_fn "<lambda>" q params (.expr body) own cl (.ref D) doc pm cv ctv) ⟨[], []⟩ [(a, u)])
    (hbody : ∀ (A : Around) (outer : List Env) (s : Shared) (H : Hp) (E : XK) (f c' : Addr), Room k (A.deeper (lamEnv X own s.heap.objs.size f c')) → PE (lamCx X A outer s H E own f c') body (t E)) : CallK X k (IsDflt X params body own) t := by
  intro pins σ H0 s0 H s f I ck ⟨c0, _, _, _, _, hc0⟩
  refine ⟨c0, hc0, fun Ng qg sg g cdg i x pn xe W E p1 p2 hr tk hW hN hv hdb hcd => ⟨fun pinsZ sZ σZ HZ Q IZ ⟨hs, _, ⟨c', D, u, hf, hD, hc⟩, ht⟩ => ?_⟩⟩
  refine wpAny_Call_Name_kw (thn ((pe_var (pos := p1) (i := i) hN hv hdb hcd).run pinsZ sZ σZ HZ (fun v H1 => v = .ref f ∧ H1 = HZ) IZ ⟨.ref f, hs, rfl, rfl⟩) fun u' s1 ⟨v, H1, I1, r1, ev, eH⟩ => ?_)
  subst ev eH
  obtain rfl : u' = Value.ref f := r1
  obtain ⟨⟨doc, pm, ctv, of1⟩, _, _⟩ := I1.hok f _ hf
  obtain ⟨oD, _, _⟩ := I1.hok D _ hD
  refine PySem.W.callWith_F0 ⟨_, _, _, _, of1⟩ ?_
  have ck1 : CellK X s0 s1 H1 := ck.un (show Un (frs X.stack) [] H H1 s.heap s1.heap from I1.base)
  obtain ⟨⟨oc, vs, tt, hoc, hdc, hvc⟩, _, _⟩ := I1.hok c' _ hc
  have rc : codeAny (model X.prog X.w) (X.A.deeper (envOfC qg sg s.heap.objs.size g cdg)) (.call (.ref f) ⟨[], []⟩) (CR (L2.CX X.prog X.w) (envOfC qg sg s.heap.objs.size g cdg :: X.stack) X.prog X.w H1 s1 Q E) s1 := by
    refine PySem.W.kla_callFunE hr.depth of1 rfl L.co L.gen rfl ⟨c', oc, vs, tt, rfl, hoc, hdc, hvc⟩ (hbind u D _ _ _ _ _ _ s1 oD _ _ _ _ ?_)
    refine wpAny_newFunctionEnv (fun y hy => (L.loc y hy).1) (fun y hy => by rw [List.mem_singleton.mp hy]; exact L.par) (fun h₁ hns hsb => ⟨I1.nolimit.fresh _ hsb, ?_⟩) L.kind
    refine (?_ : codeAny _ _ (.expr body (lamEnv X own s1.heap.objs.size f c')) _ _)
    have kp : ∀ b o, s1.heap.get? b = some o → h₁.get? b = some o := fun b o e => hsb.extBut b o (Nat.ne_of_lt (Heap.lt_size e)) (Heap.get?_push_of_some _ e)
    have J := enterN (A := X.A.deeper (envOfC qg sg s.heap.objs.size g cdg)) (outer := envOfC qg sg s.heap.objs.size g cdg :: X.stack) (E := E) (f := f) (c' := c') (tk := s1.toks + ([(a, u)] : List (Str × Value)).length) I (LamN.ofP L) I1.env0 hr.hd ck1 hns kp
    exact PySem.W.kla_codeExpr (wpAny_mono ((hbody _ _ s1 H1 E f c' (hr.deeper _)).run [] _ _ H1 Q J ht) (fun v s' ⟨w', H', J', rv, q⟩ => ⟨w', H', J'.os, J'.bare, J'.base, J'.hok, rv, q⟩) fun _ _ hq => hq)
  have hx : Passes (L2.CX X.prog X.w) ((cxOf C8.CX0 X.prog X.w X.K X.mg X.base Ng qg sg g cdg X.A X.stack s H C8.E0).tr pn xe) E := passes_call tk hW
  refine wpAny_call (codeAny_mono rc fun r s' hq => ?_)
  match r, hq with
  | .error e, hq => exact hx pinsZ σZ H1 s1 e s' I1 hq
  | .ok (.ret u), hq => exact I1.after hq
  | .ok .next, hq => exact False.elim hq
  | .ok .brk, hq => exact False.elim hq
  | .ok .cont, hq => exact False.elim hq
/-- x(v), v one of some lambdas of the def's, in a comprehension; the def's slots are σ -/
def tWordI (TT : (XK → Hp → VK → Prop) → Hp → VK → Prop) (Ls : List ((Addr → Hp → Prop) × (XK → TE))) (te : TE) (σ : L2.St) : TE := fun τ H Q => te τ H fun v H1 => ∃ f : Addr, v = .ref f ∧ ∃ l ∈ Ls, l.1 f H1 ∧ TT (fun E H' Q' => l.1 f H' ∧ l.2 E σ H' Q') H1 Q
theorem pe_wordI {scope : Scope} {C : Addr} {cl : List (Str × Addr)} {fp : List Addr} {Ls : List ((Addr → Hp → Prop) × (XK → TE))} {TT : (XK → Hp → VK → Prop) → Hp → VK → Prop} {x y z : Str} {g : Addr} {k j : Nat} {pg : Arguments} {bg : List Stmt} {sg : Scope} {dV kV doc pm cdv ct oc : Value} {an od : Option Addr} {osl : Array (Option Value)} {Ng : List Str}
    {p pz pos : Pos} (I0 : Inv X pins σ H s) (away : ∀ b ∈ fp, FpOk X pins H b) (hg : Gl (blkX X scope s H C cl fp) x) (hm : X.mg x = some (.ref g)) (hk : PySem.W.keepIn X.K (.ref g) = true)
    (lk : X.K.lookup g = some ⟨oc, od, .func (PySem.W.fnOf x x pg bg sg dV kV doc pm an cdv ct), osl⟩) (hcg : PySem.W.codeIn X.K cdv x = true) (hb : L2.Binds X.K (PySem.W.fnOf x x pg bg sg dV kV doc pm an cdv ct) [y] []) (Sg : FnScope Ng [y] sg) (hNg : Ng[0]? = some y) (hva : Vis sg y)
    (hG : GivesTo X Ng x sg g cdv bg y (X.env.qual ++ "<lambda>") TT) (hr : Room (k + 2) X.A) (hL : ∀ l ∈ Ls, CallK X k l.1 l.2) (hz : PE (blkX X scope s H C cl fp) (.Name z pz) (tVar j))
    (hdb : (x == ("__debug__" : Str)) = false := by decide) (hd : (y == ("__debug__" : Str)) = false := by decide) (hcd : (y == ("__classdict__" : Str)) = false := by decide) :
    PE (blkX X scope s H C cl fp) (.Call (.Name x p) [.Name z pz] [] pos) (tWordI TT Ls (tVar j) σ) := by
  refine ⟨fun pins' s2 τ H2 Q I h => ?_⟩
  refine wpAny_Call_Name_kw (ld_glob I hg hm ?_ hdb)
  refine PySem.W.callWith_K (h₀ := X.base) I.ok.mod.kin hk ?_ (by rfl) (by rfl)
  refine (?_ : wpAny _ _ (spliced ((false, eval (.Name z pz) (blkX X scope s H C cl fp).env) :: backTo pos (starEach [] (blkX X scope s H C cl fp).env))) _ _ s2)
  refine Calls.spliced_cons (thn (hz.run pins' s2 τ H2 _ I h) fun u s' ⟨v, H1, I1, rv, f, ev, l, hl, hi, hT⟩ => Calls.spliced_nil ⟨I1.kIn, ?_⟩)
  subst ev
  obtain rfl : u = Value.ref f := rv
  have ck : CellK X s s' H1 := cell_un I0 (show Un (blkX X scope s H C cl fp).fs fp H H1 s.heap s'.heap from I1.base) fun x c e m => (away c m).2.2.2.2.1 x c e rfl
  obtain ⟨c', hco, act⟩ := hL l hl pins σ H s H1 s' f I0 ck hi
  have rc : codeAny (model X.prog X.w) X.A (.call (.ref g) ⟨[.ref f], []⟩) (CR C8.CX0 X.stack X.prog X.w H1 s' Q C8.E0) s' := by
    refine run_ofS (N := Ng) (ps := [y]) (us := [.ref f]) (vs := [.ref f]) lk hcg Sg hr I1.env0 (hb s' [.ref f] I1.kIn rfl) (.cons rfl .nil) rfl fun hr' => ?_
    obtain ⟨t', ht', hq'⟩ := hG f c' s' H1 Q (fun E H' Q' => l.1 f H' ∧ l.2 E σ H' Q') (fun W pn xe E p1 p2 tk hW => act Ng x sg g cdv 0 y pn xe W E p1 p2 hr' tk hW hNg hva hd hcd) hco hT
    exact ⟨t', ht'.nox, hq'⟩
  refine wpAny_call (codeAny_mono rc fun r s2 hq => ?_)
  match r, hq with
  | .error e, hq => exact (show False from hq).elim
  | .ok (.ret u), hq => exact I1.after hq
  | .ok .next, hq => exact False.elim hq
  | .ok .brk, hq => exact False.elim hq
  | .ok .cont, hq => exact False.elim hq
end
end LamV
/-! lambdas whose parameter's name is one of the def's as well (a comprehension's): they are called where that slot is empty -/
namespace LamV
open PySem PySem.Spec PyProof.Rows L2 LamX LamD
section
variable {X : Cx} {pins : List (Addr × Obj)} {σ : L2.St} {H H1 HZ : Hp} {s s1 : Shared} {f : Addr}
/-- lambda a=z: body, as a value -/
theorem pe_dfltN {N' : List Str} {Ts : List (Addr × Str)} {c P : Addr} {params : Arguments} {body de : Expr} {own : Scope} {pos : Pos} {a : Str} {z : Int} (TB : TabB X.base X.mg c P) (hcode : X.env.code = .ref c)
    (hm : (P, X.env.qual ++ "<lambda>") ∈ Ts) (hu : ∀ p ∈ Ts, p.1 = P → p.2 = X.env.qual ++ "<lambda>") (L : Par N' X.env.scope own a) (hde : params.defaults = [de]) (hkw : params.kw_defaults = []) (hz : PE X de (tC (.int z))) : PE X (.Lambda params body own pos) (tLamV Ts (IsDflt X params body own)) := by
  refine ⟨fun pins s σ H Q I ⟨hT, h⟩ => LamD.make I TB hcode hm hu hT hde hkw hz (fun y hy e => (L.free y hy e).elim (fun k => I.ok.has _ (.inl k)) fun k => I.ok.has _ (.inr k)) fun f c' D u doc pm ctv H1 s' I1 eN T1 hf hfn hfr hD hDn hDr nf nD nfD hfn0 hco => ?_⟩
  have I2 := track I1 nf hfn (φ := fun h => ∃ doc pm ctv, h.get? f = some (LamD.dObj X params body own D doc pm c' ctv)) ⟨doc, pm, ctv, hf⟩ ⟨_, hf⟩ (fun h1 h2 ⟨doc, pm, ctv, e⟩ k => ⟨doc, pm, ctv, k _ e⟩)
  have nD2 : (upd H1 f (DfltO X params body own f c' D)) D = none := by rw [upd_ne (Ne.symm nfD)]; exact hDn
  have I3 := track I2 nD nD2 (φ := fun h => h.get? D = some (PySem.W.kdv_tup [u])) hD ⟨_, hD⟩ (fun h1 h2 e k => k _ e)
  exact ⟨.ref f, _, I3, rfl, h f _ (extN_new (extN_new eN hfn) nD2) (tabs_new (tabs_new T1 hfn) nD2) hfn0 ⟨c', D, u, by rw [upd_ne nfD, upd_same]; rfl, upd_same, by rw [upd_ne (ne_of_none (show (upd H1 f _) c' = some _ by rw [upd_ne (ne_of_none hco hfn)]; exact hco) nD2), upd_ne (ne_of_none hco hfn)]; exact hco⟩⟩
/-- its body's context, entered -/
theorem enterN2 {N' : List Str} {a : Str} {A : Around} {outer : List Env} {E : XK} {own : Scope} {f c' : Addr} {h₁ : Heap} {tk : Nat} {m : Str → Option Value} (I : Inv X pins σ H s) (L : Par N' X.env.scope own a) (hz : ∀ (i : Nat) (v : V), X.N[i]? = some a → σ[i]? = some (some v) → False) (e0 : Env0 X.prog X.w X.K X.mg X.base A outer s1 HZ) (hd : A.handled = none)
    (ck : CellK X s s1 HZ) (hns : h₁.Ns s1.heap.objs.size m) (kp : ∀ b o, s1.heap.get? b = some o → h₁.get? b = some o) :
    Inv (lamCx X A outer s1 HZ E own f c') [] σ HZ { s1 with heap := h₁, toks := tk } := by
  have has : ∀ y ∈ own.names, y.2 = .free → ∃ c, X.env.cells.lookup y.1 = some c := fun y hy e => (L.free y hy e).elim (fun k => I.ok.has _ (.inl k)) fun k => I.ok.has _ (.inr k)
  have cl1 : ∀ {y c}, (cloFrom X.env.cells own.names []).lookup y = some c → X.env.cells.lookup y = some c := fun {y c} e => by
    rcases cloFrom_mem (PySem.mem_of_lookup e) with z | ⟨z1, z2⟩
    · cases z
    · obtain ⟨c1, hc⟩ := has _ z1 rfl
      have hc : X.env.cells.lookup y = some c1 := hc
      rw [z2, hc]
      rfl
  have cl2 : ∀ {y}, own.names.lookup y = some .free → ∃ c, (cloFrom X.env.cells own.names []).lookup y = some c := fun {y} hl =>
    mem_lookup (cloFrom_has (cells := X.env.cells) (acc := []) (show (y, NameKind.free) ∈ own.names from PySem.mem_of_lookup hl))
  have up : ∀ {c : Addr} {v : Option Value}, s1.heap.IsCell c v → h₁.IsCell c v := fun {c v} ⟨o, ho, od⟩ => ⟨o, kp _ _ ho, od⟩
  have no : ∀ b : Addr, b ∉ (lamCx X A outer s1 HZ E own f c').ex := fun b z => absurd (show b ∈ ([] : List Addr) from z) (by simp)
  refine ⟨⟨e0.mod, L.kind, rfl, rfl, Nat.le_refl _, fun y z c e1 e2 => I.ok.inj y z c (cl1 e1) (cl1 e2), fun y hy => ?_, fun y c z _ => (by cases (show false = true from z)), fun _ => hd, Around.frames_deeper e0.frames, .inr ⟨rfl, rfl⟩, fun b z => absurd z (no b), e0.bs, e0.bsz, fun b _ _ => no b,
      fun b z => absurd z (no b), e0.funs, e0.frf⟩,
    rfl, e0.bare, Un.kept kp, ⟨_, hns, fun i y v e1 e2 e3 => ?_⟩, fun y c e => ?_, e0.hok.fresh (Nat.le_refl _), fun y c e => ?_, fun q hq => absurd (show q ∈ ([] : List (Addr × Obj)) ++ [] from hq) (by simp), e0.hok.kept kp, I.len⟩
  · have hy : own.names.lookup y = some .cell ∨ own.names.lookup y = some .free := hy
    exact hy.elim (fun z => absurd rfl (L.loc _ (PySem.mem_of_lookup z)).1) cl2
  · have e3 : Vis own y := e3
    rcases e3 with k | k | k
    · have e1 : X.N[i]? = some y := e1
      have ea := (L.loc _ (PySem.mem_of_lookup k)).2 rfl
      have ea : y = a := ea
      rw [ea] at e1
      exact (hz i v e1 e2).elim
    · exact absurd rfl (L.loc _ (PySem.mem_of_lookup k)).1
    · obtain ⟨m', hn, hl⟩ := I.loc
      have vis : Vis X.env.scope y := (L.free _ (PySem.mem_of_lookup k) rfl).elim (fun k => .inr (.inl k)) fun k => .inr (.inr k)
      obtain ⟨w', r, q⟩ := hl i y v e1 e2 vis
      obtain ⟨c2, h2⟩ := cl2 k
      refine ⟨w', r, .inr ⟨.inr k, c2, h2, ?_⟩⟩
      rcases q with ⟨k', _⟩ | ⟨_, c3, e', z⟩
      · have k' : X.env.scope.names.lookup y = some .local := k'
        rcases L.free _ (PySem.mem_of_lookup k) rfl with k2 | k2 <;> rw [show X.env.scope.names.lookup y = _ from k2] at k' <;> cases k'
      · rw [cl1 h2] at e'
        cases e'
        exact up (ck y _ _ (cl1 h2) z).1
  · obtain ⟨w', z⟩ := I.cell y c (cl1 e)
    exact ⟨w', up (ck y c _ (cl1 e) z).1⟩
  · obtain ⟨v, z⟩ := I.cell y c (cl1 e)
    exact (ck y c _ (cl1 e) z).2
def ActK (X : Cx) (k : Nat) (is : Addr → Hp → Prop) (t : XK → TE) (σ : L2.St) (H : Hp) (s : Shared) (f : Addr) : Prop := ∃ c', H c' = some (CodeO c' (X.env.qual ++ "<lambda>")) ∧
  ∀ (Ng : List Str) (qg : Str) (sg : Scope) (g : Addr) (cdg : Value) (i : Nat) (x : Str) (pn : List (Addr × Obj)) (xe : Value → Shared → Prop) (W : WX) (E : XK) (p1 p2 : Pos), Room (k + 1) (X.A.deeper (envOfC qg sg s.heap.objs.size g cdg)) →
    Takes ((cxOf C8.CX0 X.prog X.w X.K X.mg X.base Ng qg sg g cdg X.A X.stack s H C8.E0).tr pn xe) W → (∀ cls d σ' H', E cls d H' → W cls d σ' H') → Ng[i]? = some x → Vis sg x → (x == ("__debug__" : Str)) = false → (x == ("__classdict__" : Str)) = false →
    PE ((cxOf C8.CX0 X.prog X.w X.K X.mg X.base Ng qg sg g cdg X.A X.stack s H C8.E0).tr pn xe) (.Call (.Name x p1) [] [] p2) (fun σZ HZ Q => σZ[i]? = some (some (.ref f)) ∧ HZ c' = some (CodeO c' (X.env.qual ++ "<lambda>")) ∧ (is f HZ ∧ t E σ HZ Q))
def CallKs (X : Cx) (k : Nat) (φ : L2.St → Prop) (is : Addr → Hp → Prop) (t : XK → TE) : Prop := ∀ (pins : List (Addr × Obj)) (σ : L2.St) (H0 : Hp) (s0 : Shared) (H : Hp) (s : Shared) (f : Addr), φ σ → Inv X pins σ H0 s0 → CellK X s0 s H → is f H → ActK X k is t σ H s f
theorem CallK.to {φ : L2.St → Prop} {k : Nat} {is : Addr → Hp → Prop} {t : XK → TE} (h : CallK X k is t) : CallKs X k φ is t := fun pins σ H0 s0 H s f _ I ck i => h pins σ H0 s0 H s f I ck i
theorem callks_dflt {N' : List Str} {φ : L2.St → Prop} {params : Arguments} {body : Expr} {own : Scope} {k : Nat} {a : Str} {t : XK → TE} (L : Par N' X.env.scope own a) (hz : ∀ σ, φ σ → ∀ (i : Nat) (v : V), X.N[i]? = some a → σ[i]? = some (some v) → False)
    (hbind : ∀ (u : Value) (D : Addr) (q : Str) (cl : List (Str × Addr)) (doc pm cv ctv : Value) (s : Shared), s.heap.get? D = some (PySem.W.kdv_tup [u]) → BindsTo s (PySem.W.kdv_fn "<lambda>" q params (.expr body) own cl (.ref D) doc pm cv ctv) ⟨[], []⟩ [(a, u)])
    (hbody : ∀ (A : Around) (outer : List Env) (s : Shared) (H : Hp) (E : XK) (f c' : Addr), Room k (A.deeper (lamEnv X own s.heap.objs.size f c')) → PE (lamCx X A outer s H E own f c') body (t E)) : CallKs X k φ (IsDflt X params body own) t := by
  intro pins σ H0 s0 H s f hφ I ck ⟨c0, _, _, _, _, hc0⟩
  refine ⟨c0, hc0, fun Ng qg sg g cdg i x pn xe W E p1 p2 hr tk hW hN hv hdb hcd => ⟨fun pinsZ sZ σZ HZ Q IZ ⟨hs, _, ⟨c', D, u, hf, hD, hc⟩, ht⟩ => ?_⟩⟩
  refine wpAny_Call_Name_kw (thn ((pe_var (pos := p1) (i := i) hN hv hdb hcd).run pinsZ sZ σZ HZ (fun v H1 => v = .ref f ∧ H1 = HZ) IZ ⟨.ref f, hs, rfl, rfl⟩) fun u' s1 ⟨v, H1, I1, r1, ev, eH⟩ => ?_)
  subst ev eH
  obtain rfl : u' = Value.ref f := r1
  obtain ⟨⟨doc, pm, ctv, of1⟩, _, _⟩ := I1.hok f _ hf
  obtain ⟨oD, _, _⟩ := I1.hok D _ hD
  refine PySem.W.callWith_F0 ⟨_, _, _, _, of1⟩ ?_
  have ck1 : CellK X s0 s1 H1 := ck.un (show Un (frs X.stack) [] H H1 s.heap s1.heap from I1.base)
  obtain ⟨⟨oc, vs, tt, hoc, hdc, hvc⟩, _, _⟩ := I1.hok c' _ hc
  have rc : codeAny (model X.prog X.w) (X.A.deeper (envOfC qg sg s.heap.objs.size g cdg)) (.call (.ref f) ⟨[], []⟩) (CR (L2.CX X.prog X.w) (envOfC qg sg s.heap.objs.size g cdg :: X.stack) X.prog X.w H1 s1 Q E) s1 := by
    refine PySem.W.kla_callFunE hr.depth of1 rfl L.co L.gen rfl ⟨c', oc, vs, tt, rfl, hoc, hdc, hvc⟩ (hbind u D _ _ _ _ _ _ s1 oD _ _ _ _ ?_)
    refine wpAny_newFunctionEnv (fun y hy => (L.loc y hy).1) (fun y hy => by rw [List.mem_singleton.mp hy]; exact L.par) (fun h₁ hns hsb => ⟨I1.nolimit.fresh _ hsb, ?_⟩) L.kind
    refine (?_ : codeAny _ _ (.expr body (lamEnv X own s1.heap.objs.size f c')) _ _)
    have kp : ∀ b o, s1.heap.get? b = some o → h₁.get? b = some o := fun b o e => hsb.extBut b o (Nat.ne_of_lt (Heap.lt_size e)) (Heap.get?_push_of_some _ e)
    have J := enterN2 (A := X.A.deeper (envOfC qg sg s.heap.objs.size g cdg)) (outer := envOfC qg sg s.heap.objs.size g cdg :: X.stack) (E := E) (f := f) (c' := c') (tk := s1.toks + ([(a, u)] : List (Str × Value)).length) I L (hz σ hφ) I1.env0 hr.hd ck1 hns kp
    exact PySem.W.kla_codeExpr (wpAny_mono ((hbody _ _ s1 H1 E f c' (hr.deeper _)).run [] _ _ H1 Q J ht) (fun v s' ⟨w', H', J', rv, q⟩ => ⟨w', H', J'.os, J'.bare, J'.base, J'.hok, rv, q⟩) fun _ _ hq => hq)
  have hx : Passes (L2.CX X.prog X.w) ((cxOf C8.CX0 X.prog X.w X.K X.mg X.base Ng qg sg g cdg X.A X.stack s H C8.E0).tr pn xe) E := passes_call tk hW
  refine wpAny_call (codeAny_mono rc fun r s' hq => ?_)
  match r, hq with
  | .error e, hq => exact hx pinsZ σZ H1 s1 e s' I1 hq
  | .ok (.ret u), hq => exact I1.after hq
  | .ok .next, hq => exact False.elim hq
  | .ok .brk, hq => exact False.elim hq
  | .ok .cont, hq => exact False.elim hq
def tWordJ (φ : L2.St → Prop) (TT : (XK → Hp → VK → Prop) → Hp → VK → Prop) (Ls : List ((Addr → Hp → Prop) × (XK → TE))) (te : TE) (σ : L2.St) : TE := fun τ H Q => φ σ ∧ te τ H fun v H1 => ∃ f : Addr, v = .ref f ∧ ∃ l ∈ Ls, l.1 f H1 ∧ TT (fun E H' Q' => l.1 f H' ∧ l.2 E σ H' Q') H1 Q
theorem pe_wordJ {φ : L2.St → Prop} {scope : Scope} {C : Addr} {cl : List (Str × Addr)} {fp : List Addr} {Ls : List ((Addr → Hp → Prop) × (XK → TE))} {TT : (XK → Hp → VK → Prop) → Hp → VK → Prop} {x y z : Str} {g : Addr} {k j : Nat} {pg : Arguments} {bg : List Stmt} {sg : Scope} {dV kV doc pm cdv ct oc : Value} {an od : Option Addr} {osl : Array (Option Value)} {Ng : List Str}
    {p pz pos : Pos} (I0 : Inv X pins σ H s) (away : ∀ b ∈ fp, FpOk X pins H b) (hg : Gl (blkX X scope s H C cl fp) x) (hm : X.mg x = some (.ref g)) (hk : PySem.W.keepIn X.K (.ref g) = true)
    (lk : X.K.lookup g = some ⟨oc, od, .func (PySem.W.fnOf x x pg bg sg dV kV doc pm an cdv ct), osl⟩) (hcg : PySem.W.codeIn X.K cdv x = true) (hb : L2.Binds X.K (PySem.W.fnOf x x pg bg sg dV kV doc pm an cdv ct) [y] []) (Sg : FnScope Ng [y] sg) (hNg : Ng[0]? = some y) (hva : Vis sg y)
    (hG : GivesTo X Ng x sg g cdv bg y (X.env.qual ++ "<lambda>") TT) (hr : Room (k + 2) X.A) (hL : ∀ l ∈ Ls, CallKs X k φ l.1 l.2) (hz : PE (blkX X scope s H C cl fp) (.Name z pz) (tVar j))
    (hdb : (x == ("__debug__" : Str)) = false := by decide) (hd : (y == ("__debug__" : Str)) = false := by decide) (hcd : (y == ("__classdict__" : Str)) = false := by decide) :
    PE (blkX X scope s H C cl fp) (.Call (.Name x p) [.Name z pz] [] pos) (tWordJ φ TT Ls (tVar j) σ) := by
  refine ⟨fun pins' s2 τ H2 Q I hh => ?_⟩
  obtain ⟨hφ, h⟩ := hh
  refine wpAny_Call_Name_kw (ld_glob I hg hm ?_ hdb)
  refine PySem.W.callWith_K (h₀ := X.base) I.ok.mod.kin hk ?_ (by rfl) (by rfl)
  refine (?_ : wpAny _ _ (spliced ((false, eval (.Name z pz) (blkX X scope s H C cl fp).env) :: backTo pos (starEach [] (blkX X scope s H C cl fp).env))) _ _ s2)
  refine Calls.spliced_cons (thn (hz.run pins' s2 τ H2 _ I h) fun u s' ⟨v, H1, I1, rv, f, ev, l, hl, hi, hT⟩ => Calls.spliced_nil ⟨I1.kIn, ?_⟩)
  subst ev
  obtain rfl : u = Value.ref f := rv
  have ck : CellK X s s' H1 := cell_un I0 (show Un (blkX X scope s H C cl fp).fs fp H H1 s.heap s'.heap from I1.base) fun x c e m => (away c m).2.2.2.2.1 x c e rfl
  obtain ⟨c', hco, act⟩ := hL l hl pins σ H s H1 s' f hφ I0 ck hi
  have rc : codeAny (model X.prog X.w) X.A (.call (.ref g) ⟨[.ref f], []⟩) (CR C8.CX0 X.stack X.prog X.w H1 s' Q C8.E0) s' := by
    refine run_ofS (N := Ng) (ps := [y]) (us := [.ref f]) (vs := [.ref f]) lk hcg Sg hr I1.env0 (hb s' [.ref f] I1.kIn rfl) (.cons rfl .nil) rfl fun hr' => ?_
    obtain ⟨t', ht', hq'⟩ := hG f c' s' H1 Q (fun E H' Q' => l.1 f H' ∧ l.2 E σ H' Q') (fun W pn xe E p1 p2 tk hW => act Ng x sg g cdv 0 y pn xe W E p1 p2 hr' tk hW hNg hva hd hcd) hco hT
    exact ⟨t', ht'.nox, hq'⟩
  refine wpAny_call (codeAny_mono rc fun r s2 hq => ?_)
  match r, hq with
  | .error e, hq => exact (show False from hq).elim
  | .ok (.ret u), hq => exact I1.after hq
  | .ok .next, hq => exact False.elim hq
  | .ok .brk, hq => exact False.elim hq
  | .ok .cont, hq => exact False.elim hq
end
end LamV
namespace Say
open PySem PySem.Spec PyProof.Rows L2
section
variable {P : Program} {w : World} {K : PySem.W.Frag} {mg : Str → Option Value} {base : Heap} {C fI : Addr}
abbrev sWd : Stmt := topS 61
theorem scWd : FnScope ["rules", "word", "steps", "stuck"] ["rules", "word"] (defScope sWd) := ⟨rfl, rfl, rfl, by decide +kernel, rfl, by decide +kernel, by decide +kernel⟩
/-- the steps, or Unsaid with the place -/
def toldW (C : Addr) (rs : List Rule) (wd : List Nat) (H : Hp) (Q : VK) (E : XK) : Prop :=
  ((W rs wd).2 = none → ∀ (D : Addr) (H' : Hp), Same H H' → H D = none → StepsAt H' D (W rs wd).1 → Q (.ref D) H') ∧
  (∀ p : Nat, (W rs wd).2 = some p → ∀ (d : Addr) (H' : Hp), Same H H' → H d = none → H' d = some (.xd [(("place" : Str), .int p)]) → E (.ref C) (some d) H')
def spWdR (C : Addr) : Sp := fun vs H Q E => ∃ (R : Addr) (rs : List Rule) (wd : List Nat), vs = [.ref R, .str (T wd)] ∧ RulesAt H R rs ∧ (∀ ρ ∈ rs, RlOk ρ) ∧ wd.length ≤ 80 ∧ toldW C rs wd H Q E
theorem ok_wdR {f : Addr} {fd : FuncData} (F : Fun K "walked" "walked" sWd f fd) (Cs : Cn mg) (U : PySem.UnsX.UnsTxt P K mg C fI) (DS : Df P w K mg base "steps_of" ["rules", "tail"] 3 spSt) : FnOk P w K mg base (L2.CX P w) 4 f fd ["rules", "word"] (spWdR C) := by
  obtain ⟨fS, fdS, GS, kS, bS, mS⟩ := DS
  obtain ⟨tE, mE⟩ := Cs.edge
  refine F.okX scWd (fun vs H Q E h => ?_) (fun cdv A outer s H vs Q E hr h => ?_)
  · obtain ⟨R, rs, wd, rfl, _⟩ := h
    rfl
  · obtain ⟨R, rs, wd, rfl, hR, ho, hw, q1, q2⟩ := h
    refine ⟨_, pss_cons (ps_asg (pe_call GS hr (by rfl) mS kS bS .nil pass0 (pa_cons (pv 0) (pa_cons (pe_op op_add_str (pe_glob (v := .str "#") rfl mE ⟨_, rfl⟩) (pv 1)) pa_nil))) (pg_tup (by rfl) (pgs_cons (pg_name (i := 2) scWd.nd rfl (.inl rfl)) (pgs_cons (pg_name (i := 3) scWd.nd rfl (.inl rfl)) pgs_nil))))
      (pss_cons (ps_if (pt_cmpR op_notN (pv 3) pe_non (nomark _)) (pss_one (ps_raiseUns rfl U hr (takes_of rfl rfl rfl rfl) (by exact (pa_cons (pv 3) pa_nil)))) pss_nil)
      (pss_one (ps_ret (pv 2)))), ?_⟩
    refine ⟨_, rfl, _, rfl, _, _, rfl, rfl, (by rw [len_hash, T_len]; exact small (by omega)), R, rs, 35 :: wd, (by rw [hash_app]; rfl), hR, ho, by simp, by simp; omega, fun t D H1 s1 hD ht hS => ?_⟩
    rw [← W_Wt] at ht hS
    cases hN : (W rs wd).2 with
    | none =>
      rw [hN] at ht
      refine ⟨t, _, rfl, .inl (.inl ht), rfl, _, _, rfl, _, _, rfl, rfl, ?_⟩
      refine ⟨_, rfl, rfl, _, rfl, iteF ?_⟩
      exact ⟨_, rfl, q1 hN D H1 s1 hD hS⟩
    | some p =>
      rw [hN] at ht
      refine ⟨t, _, rfl, .inl (.inl ht), rfl, _, _, rfl, _, _, rfl, rfl, ?_⟩
      refine ⟨_, rfl, rfl, _, rfl, iteT ?_⟩
      refine ⟨_, rfl, p, rfl, by have := W_stuck hN; omega, fun d hd => ?_⟩
      exact q2 p hN d _ (s1.trans (same_new hd _)) (s1.free hd) upd_same
end
end Say
namespace Say
open PySem PySem.Spec PyProof.Rows L2
section
variable {P : Program} {w : World} {K : PySem.W.Frag} {mg : Str → Option Value} {base : Heap}
abbrev sChW : Stmt := topS 34
theorem scChW : FnScope ["letters", "word"] ["letters", "word"] (defScope sChW) := ⟨rfl, rfl, rfl, by decide +kernel, rfl, by decide +kernel, by decide +kernel⟩
def spChW : Sp := fun vs H Q _ => ∃ (L z : List Nat), vs = [.str (T L), .str (T z)] ∧ (∀ c ∈ z, c ∈ L) ∧ z.length ≤ 12 ∧ ∀ (H' : Hp), Same H H' → Q .non H'
theorem ok_chW {f : Addr} {fd : FuncData} (F : Fun K "check_word" "check_word" sChW f fd) (cL : KI mg "LONGEST_WORD" 12) (DT : Df P w K mg base "is_text" psIsText 1 spIsText) :
    FnOk P w K mg base CX0 2 f fd ["letters", "word"] spChW := by
  obtain ⟨fT, fdT, GT, kT, bT, mT⟩ := DT
  obtain ⟨tS, mS⟩ := cL
  refine F.ok scChW (fun vs H Q E h => ?_) (fun cdv A outer s H vs Q E hr h => ?_)
  · obtain ⟨L, z, rfl, _⟩ := h
    rfl
  · obtain ⟨L, z, rfl, h1, h2, q⟩ := h
    refine ⟨_, pss_one (ps_if (pt_not (pt_val (pe_call GT hr (by rfl) mT kT bT .nil pass0 (pa_cons (pv 1) (pa_cons (pv 0) (pa_cons pe_int (pa_cons (pe_glob (v := .int 12) rfl mS ⟨_, rfl⟩) pa_nil))))))) (pss_one ps_never) pss_nil), ?_⟩
    refine ⟨_, rfl, _, rfl, z, L, 0, 12, rfl, by omega, fun H1 s1 => ?_⟩
    rw [isText_of (Nat.zero_le _) h2 h1]
    exact ⟨true, rfl, iteF (q H1 s1)⟩
end
end Say
namespace Say
open PySem PySem.Spec PyProof.Rows L2
section
variable {P : Program} {w : World} {K : PySem.W.Frag} {mg : Str → Option Value} {base : Heap} {C fI : Addr}
abbrev sWalk : Stmt := topS 59
theorem scWalk : FnScope ["book", "word", "letters", "rules", "_"] ["book", "word"] (defScope sWalk) := ⟨rfl, rfl, rfl, by decide +kernel, rfl, by decide +kernel, by decide +kernel⟩
def spWalkR (C : Addr) : Sp := fun vs H Q E => ∃ (b : Addr) (L : List Nat) (rs : List Rule) (es : List Exc) (wd : List Nat), vs = [.ref b, .str (T wd)] ∧ BookAt H b L rs es ∧ BookOk L rs es ∧ (∀ c ∈ wd, c ∈ L) ∧ wd.length ≤ 12 ∧ toldW C rs wd H Q E
theorem ok_walkR {f fW : Addr} {fd fdW : FuncData} (F : Fun K "walk" "walk" sWalk f fd) (DC : Df P w K mg base "checked_book" ["book"] 5 spCh) (DK : Df P w K mg base "check_word" ["letters", "word"] 2 spChW)
    (GD : FnOk P w K mg base (L2.CX P w) 4 fW fdW ["rules", "word"] (spWdR C)) (kD : PySem.W.keepIn K (.ref fW) = true) (bD : Binds K fdW ["rules", "word"] []) (mD : mg "walked" = some (.ref fW)) : FnOk P w K mg base (L2.CX P w) 6 f fd ["book", "word"] (spWalkR C) := by
  obtain ⟨fC, fdC, GC, kC, bC, mC⟩ := DC
  obtain ⟨fK, fdK, GK, kK, bK, mK⟩ := DK
  refine F.okX scWalk (fun vs H Q E h => ?_) (fun cdv A outer s H vs Q E hr h => ?_)
  · obtain ⟨b, L, rs, es, wd, rfl, _⟩ := h
    rfl
  · obtain ⟨b, L, rs, es, wd, rfl, hB, ho, hw, hl, q1, q2⟩ := h
    have tk : Takes _ (fun cls d _ H => E cls d H) := takes_of (X := cxOf (L2.CX P w) P w K mg base ["book", "word", "letters", "rules", "_"] "walk" (defScope sWalk) f cdv A outer s H E) rfl rfl rfl rfl
    refine ⟨_, pss_cons (ps_asg (pe_call GC hr (by rfl) mC kC bC .nil pass0 (pa_cons (pv 0) pa_nil)) (pg_tup (by rfl) (pgs_cons (pg_name (i := 2) scWalk.nd rfl (.inl rfl)) (pgs_cons (pg_name (i := 3) scWalk.nd rfl (.inl rfl)) (pgs_cons (pg_name (i := 4) scWalk.nd rfl (.inl rfl)) pgs_nil)))))
      (pss_cons (ps_expr (pe_call GK (hr.mono (by decide)) (by rfl) mK kK bK .nil pass0 (pa_cons (pv 2) (pa_cons (pv 1) pa_nil))))
      (pss_one (ps_ret (pe_callS GD (hr.mono (by decide)) (by rfl) mD kD bD (fun σ => passAt tk σ) (by exact (pa_cons (pv 3) (pa_cons (pv 1) pa_nil))))))), ?_⟩
    refine ⟨_, rfl, b, L, rs, es, rfl, hB, ho, fun H1 s1 => ?_⟩
    obtain ⟨R, X, hb, hR, hX⟩ := hB.kt (.of s1)
    refine ⟨b, _, rfl, .inl (.inl hb), rfl, _, _, rfl, _, _, rfl, _, _, rfl, rfl, ?_⟩
    refine ⟨_, rfl, _, rfl, L, wd, rfl, hw, hl, fun H2 s2 => ?_⟩
    refine ⟨_, rfl, _, rfl, R, rs, wd, rfl, hR.kt (.of s2), ho.rls, by omega, fun hN D H3 s3 hD hS => ?_, fun p hp d H3 s3 hd hH => ?_⟩
    · exact q1 hN D H3 ((s1.trans s2).trans s3) ((s1.trans s2).free hD) hS
    · exact q2 p hp d H3 ((s1.trans s2).trans s3) ((s1.trans s2).free hd) hH
end
end Say
namespace Say
open PySem PySem.Spec PyProof.Rows L2
/-- the sounds of the rules of these numbers -/
def soL (rs : List Rule) (ks : List Nat) : List Nat := (ks.map fun k => (ruleAt rs k).so).flatten
/-- how rules say a word -/
def sayW (rs : List Rule) (wd : List Nat) : Option (List Nat) := if (W rs wd).2 = none then some (soL rs ((W rs wd).1.map (·.2))) else none
def optT : Option (List Nat) → V
  | none => .non
  | some s => .str (T s)
/-- how a book says a word -/
def saidM (rs : List Rule) (es : List Exc) (wd : List Nat) : Option (List Nat) := match es.find? fun e => decide (e.1 = wd) with
  | some e => some e.2
  | none => sayW rs wd
theorem sum_T : ∀ ls : List (List Nat), ((ls.map T).map fun z : Str => z.length).sum = ls.flatten.length
  | [] => rfl
  | l :: r => by
    show (T l).length + ((r.map T).map fun z : Str => z.length).sum = (l ++ r.flatten).length
    rw [sum_T r, T_len, List.length_append]
theorem flat_len {rs : List Rule} (h : ∀ ρ ∈ rs, RlOk ρ) : ∀ ks : List Nat, (∀ k ∈ ks, k < rs.length) → (soL rs ks).length ≤ 3 * ks.length
  | [], _ => Nat.zero_le _
  | k :: r, hk => by
    have ih := flat_len h r fun j hj => hk j (List.mem_cons_of_mem _ hj)
    have hl := hk k (List.mem_cons_self ..)
    have e : ruleAt rs k = rs[k] := ruleAt_eq (List.getElem?_eq_getElem hl)
    have h3 := (h _ (List.getElem_mem hl)).s3
    show ((ruleAt rs k).so ++ soL rs r).length ≤ 3 * (r.length + 1)
    rw [List.length_append, e]
    omega
theorem wk_lt {rs : List Rule} {z : List Nat} : ∀ (m i : Nat), ∀ s ∈ (wk rs z m i).1, s.2 < rs.length
  | 0, _, s, h => by cases h
  | m + 1, i, s, h => by
    by_cases c : i < z.length - 1
    · cases e : ff rs z i with
      | none => rw [wk_none c e] at h; cases h
      | some k =>
        rw [wk_some c e] at h
        rcases List.mem_cons.mp h with rfl | h
        · exact ff_lt e
        · exact wk_lt m _ s h
    · rw [wk_end rs z _ i c] at h
      cases h
section
variable {P : Program} {w : World} {K : PySem.W.Frag} {mg : Str → Option Value} {base : Heap}
abbrev sNum : Stmt := topS 56
theorem scNum : FnScope ["steps", "_", "number"] ["steps"] (defScope sNum) := ⟨rfl, rfl, rfl, by decide +kernel, rfl, by decide +kernel, by decide +kernel⟩
def spNum : Sp := fun vs H Q _ => ∃ (D : Addr) (ss : List (Nat × Nat)), vs = [.ref D] ∧ StepsAt H D ss ∧ ss.length ≤ 200 ∧ ∀ (D' : Addr) (H' : Hp), Same H H' → H D' = none → H' D' = some (.lst (ss.map fun s => V.int (s.2 : Nat))) → Q (.ref D') H'
theorem ok_num {f : Addr} {fd : FuncData} {k : Nat} (F : Fun K "numbers_of" "numbers_of" sNum f fd) : FnOk P w K mg base CX0 (k + 1) f fd ["steps"] spNum := by
  refine F.ok scNum (fun vs H Q E h => ?_) (fun cdv A outer s H vs Q E hr h => ?_)
  · obtain ⟨D, ss, rfl, _⟩ := h
    rfl
  · obtain ⟨D, ss, rfl, ⟨ts, hD, hp⟩, hl, q⟩ := h
    refine ⟨_, pss_one (ps_ret (pe_lc (own := [("_", 1), ("number", 2)]) (g := gTup K 2 (gCons (gName 1) (gCons (gName 2) gNil))) rfl scNum.nd (pi_list (pv 0))
        (blkOk_by (N := ["steps", "_", "number"]) (sc := defScope sNum) (by decide +kernel)) (fun _ _ _ _ _ => pg_tup (by rfl) (pgs_cons (pg_name (i := 1) scNum.nd rfl (.inl rfl)) (pgs_cons (pg_name (i := 2) scNum.nd rfl (.inl rfl)) pgs_nil)))
        (fun _ _ _ _ _ => pts_nil) (fun _ _ _ _ _ => pv 2))), ?_⟩
    refine ⟨_, rfl, D, rfl, ⟨_, .inl (.inl hD)⟩, fun D' hD' => ?_⟩
    refine lc_it (walk_list (xs := ts.map V.ref)) (fun i H2 => H2 D' = some (.lst ((ss.take i).map fun s => V.int (s.2 : Nat))) ∧ Same H H2) ?_ (fun i H2 _ h => .inl (.inl (h.2 _ _ hD))) ?_ ?_
    · exact ⟨upd_same, same_new hD' _⟩
    · rintro i x H2 H2' hi ⟨e1, e2⟩ ⟨rfl, hx⟩
      rw [List.getElem?_map] at hx
      obtain ⟨a, ha, e⟩ := Option.map_eq_some_iff.mp hx
      subst e
      obtain ⟨st, hst, hat⟩ := paired_at hp ha
      have hi2 : i < ss.length := (List.getElem?_eq_some_iff.mp hst).1
      refine ⟨a, _, rfl, .inl (.inl (e2 _ _ hat)), rfl, _, _, rfl, _, _, rfl, rfl, ?_⟩
      refine ⟨rfl, _, rfl, _, e1, ?_, ?_, ?_⟩
      · rw [List.length_map, List.length_take]
        exact small1000 (by omega)
      · rw [upd_same, List.take_add_one, hst, List.map_append]
        rfl
      · exact fun b u q => by
          rw [upd_ne (ne_of_none q hD')]
          exact e2 b u q
    · rintro H2 ⟨e1, e2⟩
      rw [List.length_map, paired_len hp, List.take_length] at e1
      exact q D' H2 e2 hD' e1
end
end Say
namespace Say
open PySem PySem.Spec PyProof.Rows L2
section
variable {P : Program} {w : World} {K : PySem.W.Frag} {mg : Str → Option Value} {base : Heap}
abbrev sSou : Stmt := topS 57
theorem scSou : FnScope ["rules", "numbers", "number"] ["rules", "numbers"] (defScope sSou) := ⟨rfl, rfl, rfl, by decide +kernel, rfl, by decide +kernel, by decide +kernel⟩
def spSou : Sp := fun vs H Q _ => ∃ (R D : Addr) (rs : List Rule) (ks : List Nat), vs = [.ref R, .ref D] ∧ RulesAt H R rs ∧ (∀ ρ ∈ rs, RlOk ρ) ∧ H D = some (.lst (ks.map fun k => V.int (k : Nat))) ∧ (∀ k ∈ ks, k < rs.length) ∧ ks.length ≤ 200 ∧
  ∀ (H' : Hp), Same H H' → Q (.str (T (soL rs ks))) H'
theorem ok_sou {f : Addr} {fd : FuncData} {k : Nat} (F : Fun K "sounds_of" "sounds_of" sSou f fd) (cS : KI mg "SOUNDS" 3) : FnOk P w K mg base CX0 (k + 1) f fd ["rules", "numbers"] spSou := by
  obtain ⟨tS, mS⟩ := cS
  refine F.ok scSou (fun vs H Q E h => ?_) (fun cdv A outer s H vs Q E hr h => ?_)
  · obtain ⟨R, D, rs, ks, rfl, _⟩ := h
    rfl
  · obtain ⟨R, D, rs, ks, rfl, ⟨rts, hR, hRp⟩, ho, hD, hk, hl, q⟩ := h
    refine ⟨_, pss_one (ps_ret (pe_join pe_str (pe_lc (own := [("number", 2)]) (g := gName 2) (te := tOp (rIxT K) (tOp (rIxT K) (tVar 0) (tVar 2)) (tC (.int 3))) rfl scSou.nd (pi_list (pv 1))
        (blkOk_by (N := ["rules", "numbers", "number"]) (sc := defScope sSou) (by decide +kernel)) (fun _ _ _ _ _ => pg_name (i := 2) scSou.nd rfl (.inl rfl))
        (fun _ _ _ _ _ => pts_nil) (fun _ _ _ _ _ => pe_ix ix_tup (pe_ix ix_tup (pv 0) (pv 2) (fun _ _ => rfl)) (pe_glob (v := .int 3) rfl mS ⟨_, rfl⟩) (fun _ _ => rfl))))), ?_⟩
    refine ⟨⟨_, rfl⟩, _, rfl, D, rfl, ⟨_, .inl (.inl hD)⟩, fun D' hD' => ?_⟩
    refine lc_it (walk_list (xs := ks.map fun k => V.int (k : Nat))) (fun i H2 => H2 D' = some (.lst ((((ks.take i).map fun k => (ruleAt rs k).so).map T).map V.str)) ∧ Same H H2) ?_ (fun i H2 _ h => .inl (.inl (h.2 _ _ hD))) ?_ ?_
    · exact ⟨upd_same, same_new hD' _⟩
    · rintro i x H2 H2' hi ⟨e1, e2⟩ ⟨rfl, hx⟩
      rw [List.getElem?_map] at hx
      obtain ⟨j, hj, e⟩ := Option.map_eq_some_iff.mp hx
      subst e
      have hjl := hk j (List.mem_of_getElem? hj)
      have hi2 : i < ks.length := (List.getElem?_eq_some_iff.mp hj).1
      obtain ⟨a, ha, hat⟩ := paired_at' hRp (List.getElem?_eq_getElem hjl)
      have er : ruleAt rs j = rs[j] := ruleAt_eq (List.getElem?_eq_getElem hjl)
      refine ⟨rfl, ?_⟩
      refine ⟨_, rfl, _, rfl, R, _, (j : Int), .ref a, rfl, rfl, .inl (.inl (e2 _ _ hR)), atI_nat (by rw [List.getElem?_map, ha]; rfl), a, _, 3, .str (T rs[j].so), rfl, rfl, .inl (.inl (e2 _ _ hat)), atI_nat (j := 3) rfl, _, e1, ?_, ?_, ?_⟩
      · rw [List.length_map, List.length_map, List.length_map, List.length_take]
        exact small1000 (by omega)
      · rw [upd_same, List.take_add_one, hj]
        simp only [Option.toList_some, List.map_append, List.map_cons, List.map_nil, er]
      · exact fun b u q => by
          rw [upd_ne (ne_of_none q hD')]
          exact e2 b u q
    · rintro H2 ⟨e1, e2⟩
      rw [List.length_map, List.take_length] at e1
      refine ⟨Str.ofString "", D', (ks.map fun k => (ruleAt rs k).so).map T, rfl, rfl, .inl (.inl (.inl e1)), ?_, ?_⟩
      · rw [sum_T]
        have := flat_len ho ks hk
        show (soL rs ks).length + _ * 0 ≤ _
        omega
      · rw [show Str.ofString "" = T [] from nil_eq, join_nil]
        exact q H2 e2
end
end Say
namespace Say
open PySem PySem.Spec PyProof.Rows L2
section
variable {P : Program} {w : World} {K : PySem.W.Frag} {mg : Str → Option Value} {base : Heap} {C fI : Addr}
abbrev sSaid : Stmt := topS 60
theorem scSaid : FnScope ["book", "word", "letters", "rules", "exceptions", "written", "sounds"] ["book", "word"] (defScope sSaid) := ⟨rfl, rfl, rfl, by decide +kernel, rfl, by decide +kernel, by decide +kernel⟩
/-- the sounds, or Unsaid with the place -/
def toldS (C : Addr) (rs : List Rule) (es : List Exc) (wd : List Nat) (H : Hp) (Q : VK) (E : XK) : Prop :=
  (∀ so, saidM rs es wd = some so → ∀ (H' : Hp), Same H H' → Q (.str (T so)) H') ∧
  (saidM rs es wd = none → ∀ p : Nat, (W rs wd).2 = some p → ∀ (d : Addr) (H' : Hp), Same H H' → H d = none → H' d = some (.xd [(("place" : Str), .int p)]) → E (.ref C) (some d) H')
def spSaidR (C : Addr) : Sp := fun vs H Q E => ∃ (b : Addr) (L : List Nat) (rs : List Rule) (es : List Exc) (wd : List Nat), vs = [.ref b, .str (T wd)] ∧ BookAt H b L rs es ∧ BookOk L rs es ∧ (∀ c ∈ wd, c ∈ L) ∧ wd.length ≤ 12 ∧ toldS C rs es wd H Q E
theorem ok_saidR {f fD : Addr} {fd fdD : FuncData} (F : Fun K "said" "said" sSaid f fd) (DC : Df P w K mg base "checked_book" ["book"] 5 spCh) (DW : Df P w K mg base "check_word" ["letters", "word"] 2 spChW)
    (GD : FnOk P w K mg base (L2.CX P w) 4 fD fdD ["rules", "word"] (spWdR C)) (kD : PySem.W.keepIn K (.ref fD) = true) (bD : Binds K fdD ["rules", "word"] []) (mD : mg "walked" = some (.ref fD))
    (DN : Df P w K mg base "numbers_of" ["steps"] 1 spNum) (DS : Df P w K mg base "sounds_of" ["rules", "numbers"] 1 spSou) : FnOk P w K mg base (L2.CX P w) 6 f fd ["book", "word"] (spSaidR C) := by
  obtain ⟨fC, fdC, GC, kC, bC, mC⟩ := DC
  obtain ⟨fW, fdW, GW, kW, bW, mW⟩ := DW
  obtain ⟨fN, fdN, GN, kN, bN, mN⟩ := DN
  obtain ⟨fS, fdS, GS, kS, bS, mS⟩ := DS
  refine F.okX scSaid (fun vs H Q E h => ?_) (fun cdv A outer s H vs Q E hr h => ?_)
  · obtain ⟨b, L, rs, es, wd, rfl, _⟩ := h
    rfl
  · obtain ⟨b, L, rs, es, wd, rfl, hB, ho, hw, hl, q1, q2⟩ := h
    have tk : Takes _ (fun cls d _ H => E cls d H) := takes_of (X := cxOf (L2.CX P w) P w K mg base ["book", "word", "letters", "rules", "exceptions", "written", "sounds"] "said" (defScope sSaid) f cdv A outer s H E) rfl rfl rfl rfl
    have px : PassesOwn (model P w) (A.deeper (envOfC "said" (defScope sSaid) s.heap.objs.size f cdv)) (envOfC "said" (defScope sSaid) s.heap.objs.size f cdv) (cxOf (L2.CX P w) P w K mg base ["book", "word", "letters", "rules", "exceptions", "written", "sounds"] "said" (defScope sSaid) f cdv A outer s H E).xe := PassesOwn.leaving
    refine ⟨_, pss_cons (ps_asg (pe_call GC hr (by rfl) mC kC bC .nil pass0 (pa_cons (pv 0) pa_nil)) (pg_tup (by rfl) (pgs_cons (pg_name (i := 2) scSaid.nd rfl (.inl rfl)) (pgs_cons (pg_name (i := 3) scSaid.nd rfl (.inl rfl)) (pgs_cons (pg_name (i := 4) scSaid.nd rfl (.inl rfl)) pgs_nil)))))
      (pss_cons (ps_expr (pe_call GW (hr.mono (by decide)) (by rfl) mW kW bW .nil pass0 (pa_cons (pv 2) (pa_cons (pv 1) pa_nil))))
      (pss_cons (ps_for px rfl (pi_tup (pv 4)) (pg_tup (by rfl) (pgs_cons (pg_name (i := 5) scSaid.nd rfl (.inl rfl)) (pgs_cons (pg_name (i := 6) scSaid.nd rfl (.inl rfl)) pgs_nil)))
        (pss_one (ps_if (pt_cmpR op_eq (pv 5) (pv 1) (nomark _)) (pss_one (ps_ret (pv 6))) pss_nil)))
      (pss_one (ps_ret (pe_call GS (hr.mono (by decide)) (by rfl) mS kS bS .nil pass0 (pa_cons (pv 3) (pa_cons (pe_call GN (hr.mono (by decide)) (by rfl) mN kN bN .nil pass0 (pa_cons (pe_callS GD (hr.mono (by decide)) (by rfl) mD kD bD (fun σ => passAt tk σ) (by exact (pa_cons (pv 3) (pa_cons (pv 1) pa_nil)))) pa_nil)) pa_nil))))))), ?_⟩
    refine ⟨_, rfl, b, L, rs, es, rfl, hB, ho, fun H1 s1 => ?_⟩
    obtain ⟨R, X, hb, hR, hX⟩ := hB.kt (.of s1)
    obtain ⟨ts, hXl, hXp⟩ := id hX
    refine ⟨b, _, rfl, .inl (.inl hb), rfl, _, _, rfl, _, _, rfl, _, _, rfl, rfl, ?_⟩
    refine ⟨_, rfl, _, rfl, L, wd, rfl, hw, hl, fun H2 s2 => ?_⟩
    have hXl2 := hXl.kt (.of s2)
    refine ⟨_, rfl, X, rfl, ⟨_, .inl hXl2.rd⟩, for_it (walk_tup (xs := ts.map V.ref)) (fun i σ H3 => Same H2 H3 ∧ (∃ v5 v6, σ = [some (.ref b), some (.str (T wd)), some (.str (T L)), some (.ref R), some (.ref X), v5, v6]) ∧ ∀ j e, j < i → es[j]? = some e → ¬ e.1 = wd)
      ⟨Same.refl _, ⟨_, _, rfl⟩, fun j e h => absurd h (Nat.not_lt_zero j)⟩ (fun i σ H3 _ h => .inl (hXl2.kt (.of h.1)).rd) ?_ ?_⟩
    · rintro i x σ H3 H4 hi ⟨s3, ⟨v5, v6, rfl⟩, hn⟩ ⟨rfl, hx⟩
      rw [List.getElem?_map] at hx
      obtain ⟨a, ha, e⟩ := Option.map_eq_some_iff.mp hx
      subst e
      obtain ⟨e, he, hat⟩ := paired_at hXp ha
      have hat' := s3 _ _ (s2 _ _ hat)
      refine ⟨a, _, rfl, .inl (.inl hat'), rfl, _, _, rfl, _, _, rfl, rfl, ?_⟩
      refine ⟨_, rfl, _, rfl, rfl, _, rfl, ?_⟩
      rw [eqT]
      refine ite2 (fun c => ?_) (fun c => ?_)
      · have c := of_decide_eq_true c
        have ef : es.find? (fun e => decide (e.1 = wd)) = some e := by
          refine List.find?_eq_some_iff_getElem.mpr ⟨decide_eq_true c, i, (List.getElem?_eq_some_iff.mp he).1, (List.getElem?_eq_some_iff.mp he).2, fun j hj => ?_⟩
          have := hn j _ hj (List.getElem?_eq_getElem (by have := (List.getElem?_eq_some_iff.mp he).1; omega))
          simp only [this, decide_false, Bool.not_false]
        exact ⟨_, rfl, q1 e.2 (by unfold saidM; rw [ef]) _ (s1.trans (s2.trans s3))⟩
      · have c := of_decide_eq_false (Bool.eq_false_iff.mpr c)
        refine ⟨s3, ⟨_, _, rfl⟩, fun j e' hj he' => ?_⟩
        by_cases ej : j = i
        · subst ej
          rw [he] at he'
          cases he'
          exact c
        · exact hn j e' (by omega) he'
    · rintro σ H3 ⟨s3, ⟨v5, v6, rfl⟩, hn⟩
      have ef : es.find? (fun e => decide (e.1 = wd)) = none := by
        refine List.find?_eq_none.mpr fun e he => ?_
        obtain ⟨j, hj⟩ := List.mem_iff_getElem?.mp he
        have := hn j e (by rw [List.length_map, paired_len hXp]; exact (List.getElem?_eq_some_iff.mp hj).1) hj
        simpa using this
      have eM : saidM rs es wd = sayW rs wd := by
        unfold saidM
        rw [ef]
      have hR3 := hR.kt (.of (s2.trans s3))
      have hlw : (W rs wd).1.length ≤ wd.length + 1 := wk_len rs (sgn wd) (wd.length + 1) 1
      have s13 := s1.trans (s2.trans s3)
      refine ⟨_, rfl, _, rfl, _, rfl, R, rs, wd, rfl, hR3, ho.rls, by omega, fun hN D H4 s4 hD hS => ?_, fun p hp d H4 s4 hd hH => ?_⟩
      · refine ⟨D, _, rfl, hS, by omega, fun D' H5 s5 _ hD' => ?_⟩
        refine ⟨R, D', rs, ((W rs wd).1.map fun s : Nat × Nat => s.2), rfl, hR3.kt (.of (s4.trans s5)), ho.rls, by rw [hD', List.map_map]; rfl, fun k hk => ?_, by rw [List.length_map]; omega, fun H6 s6 => ?_⟩
        · obtain ⟨st, hst, rfl⟩ := List.mem_map.mp hk
          exact wk_lt _ _ st hst
        · exact q1 _ (by rw [eM]; unfold sayW; rw [if_pos hN]) H6 (s13.trans (s4.trans (s5.trans s6)))
      · refine q2 ?_ p hp d H4 (s13.trans s4) (s13.free hd) hH
        rw [eM]
        unfold sayW
        rw [if_neg (by rw [hp]; intro z; cases z)]
end
end Say
namespace Say
open PySem PySem.Spec PyProof.Rows L2
/-- what the law's own saying hands back -/
def saidV (rs : List Rule) (es : List Exc) (wd : List Nat) : List V := match saidM rs es wd with
  | some s => [.str (T []), .str (T s)]
  | none => [.str (Str.ofString "unsaid"), optI (W rs wd).2]
/-- what is said are capitals, three a letter at the most -/
theorem say_caps {L : List Nat} {rs : List Rule} (ho : ∀ ρ ∈ rs, RuleOk L ρ) (hL : LetOk L) {wd so : List Nat} (h : sayW rs wd = some so) : (∀ c ∈ so, 65 ≤ c ∧ c ≤ 90) ∧ so.length ≤ 3 * (wd.length + 1) := by
  unfold sayW at h
  by_cases e : (W rs wd).2 = none
  · rw [if_pos e] at h
    have h := (Option.some.inj h).symm
    subst h
    have hl : (W rs wd).1.length ≤ wd.length + 1 := wk_len rs (sgn wd) (wd.length + 1) 1
    have hk : ∀ k ∈ (W rs wd).1.map (fun s : Nat × Nat => s.2), k < rs.length := fun k hk => by
      obtain ⟨st, hst, rfl⟩ := List.mem_map.mp hk
      exact wk_lt _ _ st hst
    have h3 := flat_len (fun ρ hρ => (ho ρ hρ).rl hL) _ hk
    rw [List.length_map] at h3
    refine ⟨fun c hc => ?_, by omega⟩
    obtain ⟨l, hl, hcl⟩ := List.mem_flatten.mp hc
    obtain ⟨k, hkm, rfl⟩ := List.mem_map.mp hl
    have hkl := hk k hkm
    rw [ruleAt_eq (List.getElem?_eq_getElem hkl)] at hcl
    exact (ho _ (List.getElem_mem hkl)).so c hcl
  · rw [if_neg e] at h
    cases h
theorem said_stuck' {rs : List Rule} {es : List Exc} {wd : List Nat} (h : saidM rs es wd = none) : ∃ p, (W rs wd).2 = some p := by
  cases hq : (W rs wd).2 with
  | some p => exact ⟨p, rfl⟩
  | none =>
    unfold saidM at h
    cases hf : es.find? fun e => decide (e.1 = wd) with
    | some e => rw [hf] at h; cases h
    | none =>
      rw [hf] at h
      have h : sayW rs wd = none := h
      unfold sayW at h
      rw [if_pos hq] at h
      cases h
end Say
namespace Say
open PySem PySem.Spec PyProof.Rows L2
section
variable {P : Program} {w : World} {K : PySem.W.Frag} {mg : Str → Option Value} {base : Heap}
abbrev sLF : Stmt := topS 121
theorem scLF : FnScope ["_law_rule_here", "_law_word_here", "_law_place", "_law_far", "_law_at", "_law_end"] ["_law_rule_here", "_law_word_here", "_law_place"] (defScope sLF) := ⟨rfl, rfl, rfl, by decide +kernel, rfl, by decide +kernel, by decide +kernel⟩
def spLF : Sp := fun vs H Q _ => ∃ (t : Addr) (ρ : Rule) (wd : List Nat) (p : Nat), vs = [.ref t, .str (T wd), .int p] ∧ H t = some (.tup ρ.vs) ∧ RlOk ρ ∧ p < wd.length ∧ wd.length ≤ 4000000 ∧
  Q (.bl (fitsL ρ (sgn wd) (p + 1))) H
theorem ok_LF {f : Addr} {fd : FuncData} {k : Nat} (F : Fun K "_law_fits" "_law_fits" sLF f fd) (B : Bn mg) : FnOk P w K mg base CX0 (k + 1) f fd ["_law_rule_here", "_law_word_here", "_law_place"] spLF := by
  refine F.ok scLF (fun vs H Q E h => ?_) (fun cdv A outer s H vs Q E hr h => ?_)
  · obtain ⟨t, ρ, wd, p, rfl, _⟩ := h
    rfl
  · obtain ⟨t, ρ, wd, p, rfl, ht, ho, hp, hw, q⟩ := h
    refine ⟨_, pss_cons (ps_set (i := 3) scLF.nd rfl (.inl rfl) (pe_op op_add_str (pe_op op_add_str pe_str (pv 1)) pe_str))
      (pss_cons (ps_par (i := 4) (j := 5) (by rfl) scLF.nd rfl rfl (by decide) rfl rfl (pa_cons (pe_op op_add (pv 2) pe_int) (pa_cons (pe_op op_add (pe_op op_add (pv 2) pe_int) (pe_callB call_len_str (by rfl) B.len PySem.boot_len (pa_cons (pe_ix ix_tup (pv 0) pe_int (fun _ _ => rfl)) pa_nil))) pa_nil)) (by rfl))
      (pss_cons (ps_if (pt_cmpR op_ne (pe_slice sl_str (pv 3) (po_some (pv 4)) (po_some (pv 5))) (pe_ix ix_tup (pv 0) pe_int (fun _ _ => rfl)) (nomark _)) (pss_one (ps_ret pe_bl)) pss_nil)
      (pss_one (ps_ret (pe_and (pe_or (pe_cmpR op_eq (pe_ix ix_tup (pv 0) pe_int (fun _ _ => rfl)) pe_str (nomark _)) (pe_one (pe_cmpR op_in_sign (pe_ix ix_str (pv 3) (pe_op op_sub (pv 4) pe_int) (fun _ _ => rfl)) (pe_ix ix_tup (pv 0) pe_int (fun _ _ => rfl)) rfl)))
        (pe_one (pe_or (pe_cmpR op_eq (pe_ix ix_tup (pv 0) pe_int (fun _ _ => rfl)) pe_str (nomark _)) (pe_one (pe_cmpR op_in_sign (pe_ix ix_str (pv 3) (pv 5) (fun _ _ => rfl)) (pe_ix ix_tup (pv 0) pe_int (fun _ _ => rfl)) rfl))))))))), ?_⟩
    have hT : SqT K H t ρ.vs := .inl (.inl ht)
    have l2 := ho.o2
    have hzl : (T (sgn wd)).length ≤ sizeLine := by rw [T_len, sgn_len]; exact small (by omega)
    have hol : (T ρ.ow).length ≤ sizeLine := by rw [T_len]; exact small (by omega)
    refine ⟨_, rfl, _, _, rfl, rfl, (by rw [len_hash, T_len]; exact small (by omega)), _, _, rfl, rfl, ?_, ?_⟩
    · rw [hash_app, T_len, len_hash, List.length_cons]
      exact small (by omega)
    rw [hash_app, app_hash]
    show tSeq _ _ _ _ _
    refine ⟨_, rfl, _, _, rfl, rfl, _, rfl, _, _, rfl, rfl, _, rfl, t, _, 1, .str (T ρ.ow), rfl, rfl, hT, atI_nat (j := 1) rfl, _, rfl, hol, _, _, rfl, rfl, _, _, rfl, ?_⟩
    refine ⟨_, rfl, _, rfl, _, rfl, _, rfl, _, rfl, T (sgn wd), rfl, hzl, ?_⟩
    have e1 : ((p : Nat) : Int) + 1 = ((p + 1 : Nat) : Int) := by omega
    have e2 : ((p + 1 : Nat) : Int) + ((T ρ.ow).length : Int) = ((p + 1 + ρ.ow.length : Nat) : Int) := by rw [T_len]; omega
    rw [e1, e2, cut_at (by rw [sgn_len]; omega)]
    refine ⟨_, rfl, t, _, 1, .str (T ρ.ow), rfl, rfl, hT, atI_nat (j := 1) rfl, ?_⟩
    refine ⟨rfl, _, rfl, ?_⟩
    have eow : (V.str (T (((sgn wd).drop (p + 1)).take ρ.ow.length)) = V.str (T ρ.ow)) ↔ ((sgn wd).drop (p + 1)).take ρ.ow.length = ρ.ow :=
      ⟨fun z => T_inj (V.str.inj z), fun z => by rw [z]⟩
    by_cases c : ((sgn wd).drop (p + 1)).take ρ.ow.length = ρ.ow
    · rw [decide_eq_true (eow.mpr c)]
      refine iteF ?_
      have room := fit_room c ho.o1 ho.h35
      unfold fitsL at q
      rw [if_pos c] at q
      have hzl' : (sgn wd).length = wd.length + 2 := sgn_len wd
      refine ⟨_, rfl, t, _, 0, .str (T ρ.ah), rfl, rfl, hT, atI_nat (j := 0) rfl, rfl, _, rfl, ?_⟩
      rw [dec_nil]
      have g1 : (T (sgn wd)).cps.toList[p]? = some ((sgn wd).getD (p + 1 - 1) 0) := by rw [Nat.add_sub_cancel, T_cps, List.getD_eq_getElem?_getD, List.getElem?_eq_getElem (by omega)]; rfl
      have g2 : (T (sgn wd)).cps.toList[p + 1 + ρ.ow.length]? = some ((sgn wd).getD (p + 1 + ρ.ow.length) 0) := by rw [T_cps, List.getD_eq_getElem?_getD, List.getElem?_eq_getElem (by omega)]; rfl
      refine ite2 (fun c1 => ?_) (fun c1 => ?_)
      · refine ⟨true, rfl, iteT ?_⟩
        have q2 : Q (.bl (decide (ρ.be = []) || decide ((sgn wd).getD (p + 1 + ρ.ow.length) 0 ∈ ρ.be))) H := by
          rw [c1, Bool.true_or, Bool.true_and] at q; exact q
        refine ⟨_, rfl, t, _, 2, .str (T ρ.be), rfl, rfl, hT, atI_nat (j := 2) rfl, rfl, _, rfl, ?_⟩
        rw [dec_nil]
        refine ite2 (fun d1 => ?_) (fun d1 => ?_)
        · rw [d1, Bool.true_or] at q2
          exact q2
        · rw [Bool.eq_false_iff.mpr d1, Bool.false_or] at q2
          exact ⟨_, rfl, _, rfl, T (sgn wd), _, _, rfl, rfl, hzl, atI_nat g2, _, rfl, t, _, 2, .str (T ρ.be), rfl, rfl, hT, atI_nat (j := 2) rfl, _, T ρ.be, rfl, rfl, q2⟩
      · rw [Bool.eq_false_iff.mpr c1, Bool.false_or] at q
        refine ⟨_, rfl, _, rfl, _, _, rfl, rfl, T (sgn wd), _, _, rfl, rfl, hzl, atI_of g1 (by omega), _, rfl, t, _, 0, .str (T ρ.ah), rfl, rfl, hT, atI_nat (j := 0) rfl, _, T ρ.ah, rfl, rfl, _, rfl, ?_⟩
        refine ite2 (fun c2 => ?_) (fun c2 => ?_)
        · have q2 : Q (.bl (decide (ρ.be = []) || decide ((sgn wd).getD (p + 1 + ρ.ow.length) 0 ∈ ρ.be))) H := by
            rw [show decide ((sgn wd).getD (p + 1 - 1) 0 ∈ ρ.ah) = true from c2, Bool.true_and] at q; exact q
          refine ⟨_, rfl, t, _, 2, .str (T ρ.be), rfl, rfl, hT, atI_nat (j := 2) rfl, rfl, _, rfl, ?_⟩
          rw [dec_nil]
          refine ite2 (fun d1 => ?_) (fun d1 => ?_)
          · rw [d1, Bool.true_or] at q2
            exact q2
          · rw [Bool.eq_false_iff.mpr d1, Bool.false_or] at q2
            exact ⟨_, rfl, _, rfl, T (sgn wd), _, _, rfl, rfl, hzl, atI_nat g2, _, rfl, t, _, 2, .str (T ρ.be), rfl, rfl, hT, atI_nat (j := 2) rfl, _, T ρ.be, rfl, rfl, q2⟩
        · rw [show decide ((sgn wd).getD (p + 1 - 1) 0 ∈ ρ.ah) = false from Bool.eq_false_iff.mpr c2, Bool.false_and] at q
          exact q
    · rw [decide_eq_false fun z => c (eow.mp z)]
      refine iteT ?_
      unfold fitsL at q
      rw [if_neg c] at q
      exact q
end
end Say
namespace Say
open PySem PySem.Spec PyProof.Rows L2
/-- the numbers of all rules that fit -/
def allFit (rs : List Rule) (z : List Nat) (i n : Nat) : List Nat := (List.range n).filter fun k => fitsL (ruleAt rs k) z i
theorem ff_all (rs : List Rule) (z : List Nat) (i : Nat) : ff rs z i = (allFit rs z i rs.length).head? := by
  unfold allFit
  rw [List.head?_filter]
  cases e : ff rs z i with
  | none =>
    symm
    refine List.find?_eq_none.mpr fun k hk => ?_
    have hk := List.mem_range.mp hk
    have := List.findIdx?_eq_none_iff.mp e rs[k] (List.getElem_mem hk)
    rw [ruleAt_eq (List.getElem?_eq_getElem hk), this]
    exact Bool.false_ne_true
  | some k =>
    symm
    obtain ⟨h1, h2, h3⟩ := List.findIdx?_eq_some_iff_getElem.mp e
    refine List.find?_range_eq_some.mpr ⟨?_, List.mem_range.mpr h1, fun j hj => ?_⟩
    · rw [ruleAt_eq (List.getElem?_eq_getElem h1)]
      exact h2
    · have := h3 j hj
      rw [ruleAt_eq (List.getElem?_eq_getElem (show j < rs.length by omega))]
      simpa using this
theorem allFit_next (rs : List Rule) (z : List Nat) (i n : Nat) : allFit rs z i (n + 1) = allFit rs z i n ++ (if fitsL (ruleAt rs n) z i = true then [n] else []) := by
  unfold allFit
  rw [List.range_succ, List.filter_append]
  congr 1
  by_cases c : fitsL (ruleAt rs n) z i = true
  · rw [if_pos c]
    exact List.filter_cons_of_pos (p := fun k => fitsL (ruleAt rs k) z i) c
  · rw [if_neg c]
    exact List.filter_cons_of_neg (p := fun k => fitsL (ruleAt rs k) z i) c
theorem allFit_len (rs : List Rule) (z : List Nat) (i n : Nat) : (allFit rs z i n).length ≤ n := by
  unfold allFit
  have := List.length_filter_le (fun k => fitsL (ruleAt rs k) z i) (List.range n)
  rwa [List.length_range] at this
section
variable {P : Program} {w : World} {K : PySem.W.Frag} {mg : Str → Option Value} {base : Heap}
theorem dp_ints {H : Hp} : ∀ ks : List Nat, DpAll K H (ks.map fun k => V.int (k : Nat)) (ks.map fun k => PyData.int (k : Nat))
  | [] => .nil
  | k :: r => .cons (.int _) (dp_ints r)
theorem eqv_nil (ds : List PyData) : PyData.eqv (.list ds) (.list []) = ds.isEmpty := by
  cases ds <;> rfl
theorem shaped_ints (ks : List Nat) : SeqAt.shaped (.list (ks.map fun k => PyData.int (k : Nat))) = true := by
  have := PySem.W.ke_shaped_ints (ks.map fun k => ((k : Nat) : Int))
  rw [List.map_map] at this
  exact this
abbrev sLW : Stmt := topS 122
theorem scLW : FnScope ["_law_rules_here", "_law_word_here", "_law_place", "_law_found", "_law_some", "_law_k"] ["_law_rules_here", "_law_word_here"] (defScope sLW) := ⟨rfl, rfl, rfl, by decide +kernel, rfl, by decide +kernel, by decide +kernel⟩
def spLW : Sp := fun vs H Q _ => ∃ (R : Addr) (rs : List Rule) (wd : List Nat), vs = [.ref R, .str (T wd)] ∧ RulesAt H R rs ∧ (∀ ρ ∈ rs, RlOk ρ) ∧ wd.length ≤ 4000000 ∧ rs.length ≤ 500 ∧
  ∀ (t : Addr) (H' : Hp), Same H H' → LWAt H' t (W rs wd) → Q (.ref t) H'
theorem ok_LW {f : Addr} {fd : FuncData} (F : Fun K "_law_walk" "_law_walk" sLW f fd) (B : Bn mg) (DF : Df P w K mg base "_law_fits" ["_law_rule_here", "_law_word_here", "_law_place"] 1 spLF) : FnOk P w K mg base CX0 2 f fd ["_law_rules_here", "_law_word_here"] spLW := by
  obtain ⟨fF, fdF, GF, kF, bF, mF⟩ := DF
  refine F.ok scLW (fun vs H Q E h => ?_) (fun cdv A outer s H vs Q E hr h => ?_)
  · obtain ⟨R, rs, wd, rfl, _⟩ := h
    rfl
  · obtain ⟨R, rs, wd, rfl, hR, ho, hw, hrs, q⟩ := h
    refine ⟨_, pss_cons (ps_asg (pe_tup (pa_cons pe_int (pa_cons (pe_lst pa_nil) pa_nil))) (pg_tup (by rfl) (pgs_cons (pg_name (i := 2) scLW.nd rfl (.inr rfl)) (pgs_cons (pg_name (i := 3) scLW.nd rfl (.inl rfl)) pgs_nil))))
      (pss_cons (ps_while PassesOwn.never (pt_cmpR op_lt (pv 2) (pe_callB call_len_str (by rfl) B.len PySem.boot_len (pa_cons (pv 1) pa_nil)) (nomark _))
        (pss_cons (ps_setLc (i := 4) (own := [("_law_k", 5)]) (g := gName 5) (te := tVar 5) (tt := tB (tCall spLF [] E0 (tCons (tOp (rIxT K) (tVar 0) (tVar 5)) (tCons (tVar 1) (tCons (tVar 2) tNil))))) rfl scLW.nd rfl rfl (sw_true rfl rfl rfl (by decide +kernel))
            (pi_range1 rfl B.rng (pa_cons (pe_callB call_len (by rfl) B.len PySem.boot_len (pa_cons (pv 0) pa_nil)) pa_nil))
            (blkOk_by (N := ["_law_rules_here", "_law_word_here", "_law_place", "_law_found", "_law_some", "_law_k"]) (sc := defScope sLW) (by decide +kernel)) (fun _ _ _ _ _ => pg_name (i := 5) scLW.nd rfl (.inl rfl))
            (fun _ _ _ _ _ => pts_one (pt_val (pe_call GF hr (by rfl) mF kF bF .nil pass0 (pa_cons (pe_ix ix_tup (pv 0) (pv 5) (fun _ _ => rfl)) (pa_cons (pv 1) (pa_cons (pv 2) pa_nil)))))) (fun _ _ _ _ _ => pv 5))
        (pss_cons (ps_if (pt_cmpR (op_eqD hr.units) (pv 4) (pe_lst pa_nil) (nomark _)) (pss_one (ps_ret (pe_tup (pa_cons pe_str (pa_cons (pv 2) pa_nil))))) pss_nil)
        (pss_cons (ps_expr (pe_bm PySem.F.plainAttrs_list PySem.F.slot_list_append PySem.F.type_list_append mt_append (pv 3) (pa_cons (pe_tup (pa_cons (pv 2) (pa_cons (pe_ix ix_list (pv 4) pe_int (fun _ _ => rfl)) pa_nil))) pa_nil)))
        (pss_one (ps_set (i := 2) scLW.nd rfl (.inr rfl) (pe_op op_add (pv 2) (pe_callB call_len_str (by rfl) B.len PySem.boot_len (pa_cons (pe_ix ix_tup (pe_ix ix_tup (pv 0) (pe_ix ix_list (pv 4) pe_int (fun _ _ => rfl)) (fun _ _ => rfl)) pe_int (fun _ _ => rfl)) pa_nil)))))))))
      (pss_one (ps_ret (pe_tup (pa_cons pe_str (pa_cons (pv 3) pa_nil)))))), ?_⟩
    refine ⟨(by show 0 ≤ sizeLine; decide), fun D hD => ?_⟩
    refine ⟨(by show 2 ≤ sizeLine; decide), fun u hu => ?_⟩
    refine ⟨u, _, rfl, .inl (.inl upd_same), rfl, _, _, rfl, _, _, rfl, rfl, ?_⟩
    obtain ⟨rts, hRt, hRp⟩ := id hR
    have hz0 : (T wd).length ≤ sizeLine := by rw [T_len]; exact small (by omega)
    have s0 : Same H (upd H D (.lst [])) := same_new hD _
    have s1 : Same H (upd (upd H D (.lst [])) u (.tup [.int 0, .ref D])) := s0.trans (same_new hu _)
    have hD1 : (upd (upd H D (.lst [])) u (.tup [.int 0, .ref D])) D = some (.lst []) := same_new hu _ _ _ upd_same
    refine ⟨fun m σ H2 => ∃ (p : Nat) (acc : List (Nat × Nat)) (v4 : Option V), σ = [some (.ref R), some (.str (T wd)), some (.int p), some (.ref D), v4, none] ∧ wd.length + 1 ≤ p + m ∧ Same H H2 ∧ StepsAt H2 D acc ∧
      W rs wd = (acc ++ (wk rs (sgn wd) m (p + 1)).1, (wk rs (sgn wd) m (p + 1)).2), ⟨wd.length + 1, 0, [], _, rfl, by omega, s1, ⟨[], hD1, .nil⟩, rfl⟩, fun m σ H2 hW => ?_⟩
    obtain ⟨p, acc, v4, rfl, hm, s2, hS, hW⟩ := hW
    refine ⟨_, rfl, _, rfl, _, rfl, hz0, _, _, rfl, rfl, _, rfl, ite2 (fun c => ?_) (fun c => ?_)⟩
    · have c' : (p : Int) < ((T wd).length : Int) := of_decide_eq_true c
      rw [T_len] at c'
      have hp : p < wd.length := by omega
      have hlt : p + 1 < (sgn wd).length - 1 := by rw [sgn_len]; omega
      obtain ⟨m', rfl⟩ : ∃ m', m = m' + 1 := ⟨m - 1, by omega⟩
      refine ⟨fun σ' H' => ∃ (p : Nat) (acc : List (Nat × Nat)) (v4 : Option V), σ' = [some (.ref R), some (.str (T wd)), some (.int p), some (.ref D), v4, none] ∧ wd.length + 1 ≤ p + m' ∧ Same H H' ∧ StepsAt H' D acc ∧
        W rs wd = (acc ++ (wk rs (sgn wd) m' (p + 1)).1, (wk rs (sgn wd) m' (p + 1)).2), fun σ' H' h => ⟨m', Nat.lt_succ_self _, h⟩, ?_⟩
      have rl : (rts.map V.ref).length = rs.length := by rw [List.length_map, paired_len hRp]
      refine ⟨_, rfl, _, _, rfl, .inr ⟨_, .inl (.inl (s2 _ _ hRt)), rfl⟩, _, rfl, by omega, by rw [rl]; omega, fun S hSn => ?_⟩
      have hSnD : D ≠ S := by
        obtain ⟨ts, h1, _⟩ := hS
        exact ne_of_none h1 hSn
      refine lc_it (walk_range) (fun j H3 => H3 S = some (.lst ((allFit rs (sgn wd) (p + 1) j).map fun k => V.int (k : Nat))) ∧ Same H2 H3) ?_ (fun _ _ _ _ => trivial) ?_ ?_
      · exact ⟨upd_same, same_new hSn _⟩
      · rintro j x H3 H3' hj ⟨e1, e2⟩ ⟨rfl, rfl⟩
        rw [rl] at hj
        have hj : j < rs.length := by omega
        obtain ⟨a, ha, hat⟩ := paired_at' hRp (List.getElem?_eq_getElem hj)
        have er : ruleAt rs j = rs[j] := ruleAt_eq (List.getElem?_eq_getElem hj)
        have sR := s2.trans e2
        have en := allFit_next rs (sgn wd) (p + 1) j
        rw [er] at en
        refine ⟨rfl, ?_⟩
        refine ⟨_, rfl, _, rfl, R, _, 0 + (j : Int), .ref a, rfl, rfl, .inl (.inl (sR _ _ hRt)), atI_of (by rw [List.getElem?_map, ha]; rfl) (by omega), _, rfl, _, rfl, a, rs[j], wd, p, rfl, sR _ _ hat, ho _ (List.getElem_mem hj), hp, by omega, _, rfl, ite2 (fun c => ?_) (fun c => ?_)⟩
        · rw [if_pos c] at en
          refine ⟨_, rfl, _, e1, ?_, ?_, ?_⟩
          · rw [List.length_map]
            have := allFit_len rs (sgn wd) (p + 1) j
            exact smallM (by omega)
          · rw [upd_same, en, List.map_append]
            show some (HO.lst (_ ++ [V.int (0 + (j : Int))])) = _
            rw [Int.zero_add]
            rfl
          · exact fun b u q => by
              rw [upd_ne (ne_of_none q hSn)]
              exact e2 b u q
        · rw [if_neg c, List.append_nil] at en
          exact ⟨by rw [en]; exact e1, e2⟩
      · rintro H3 ⟨e1, e2⟩
        rw [show ((((rts.map V.ref).length : Nat) : Int)).toNat = rs.length by rw [rl]; omega] at e1
        have s3 := s2.trans e2
        obtain ⟨ts, hDl, hDp⟩ := hS.same e2
        have eff := ff_all rs (sgn wd) (p + 1)
        refine ⟨_, rfl, (by show 0 ≤ sizeLine; decide), fun N hN => ?_⟩
        have sN := same_new hN (.lst [])
        have e1N := sN _ _ e1
        refine ⟨_, .list [], .lst (.inl (.inl e1N)) (dp_ints _), .lst (.inl (.inl upd_same)) .nil, shaped_ints _, by decide +kernel, _, rfl, ?_⟩
        rw [eqv_nil]
        have s3N := s3.trans sN
        cases ea : allFit rs (sgn wd) (p + 1) rs.length with
        | nil =>
          rw [ea] at eff
          rw [wk_none hlt eff] at hW
          refine iteT ?_
          refine ⟨_, rfl, (by show 2 ≤ sizeLine; decide), fun t ht => ?_⟩
          refine q t _ (s3N.trans (same_new ht _)) ?_
          unfold LWAt
          rw [hW]
          show upd _ t _ t = _
          rw [upd_same]
          rfl
        | cons k r =>
          rw [ea] at eff
          have eff : ff rs (sgn wd) (p + 1) = some k := eff
          rw [wk_some hlt eff] at hW
          have hk := ff_lt eff
          obtain ⟨a, ha, hat⟩ := paired_at' hRp (List.getElem?_eq_getElem hk)
          have hm2 := ho _ (List.getElem_mem hk)
          have er : ruleAt rs k = rs[k] := ruleAt_eq (List.getElem?_eq_getElem hk)
          refine iteF ?_
          rw [ea] at e1N
          have hDlN := sN _ _ hDl
          refine ⟨_, rfl, .inl ⟨rfl, _, .inl (.inl hDlN)⟩, _, rfl, _, rfl, S, _, 0, .int (k : Nat), rfl, rfl, .inl (.inl e1N), atI_nat (j := 0) rfl, (by show 2 ≤ sizeLine; decide), fun t ht => ?_⟩
          have sm := same_new ht (.tup [.int (p : Nat), .int (k : Nat)])
          have hDl' := sm _ _ hDlN
          have sall : Same H (upd (upd (upd H3 N (.lst [])) t (.tup [.int (p : Nat), .int (k : Nat)])) D (.lst (ts.map V.ref ++ [.ref t]))) := fun b u e => by
            rw [upd_ne (ne_of_none e hD)]
            exact sm _ _ (s3N _ _ e)
          refine ⟨D, _, _, rfl, rfl, hDl', ?_, ?_⟩
          · rw [List.length_map, paired_len hDp]
            have l1 : (W rs wd).1.length ≤ wd.length + 1 := wk_len rs (sgn wd) (wd.length + 1) 1
            rw [hW] at l1
            simp at l1
            exact smallM (by omega)
          · have e1M : (upd (upd (upd H3 N (.lst [])) t (.tup [.int (p : Nat), .int (k : Nat)])) D (.lst (ts.map V.ref ++ [.ref t]))) S = some (.lst ((k :: r).map fun k => V.int (k : Nat))) := by
              rw [upd_ne hSnD.symm]
              exact sm _ _ e1N
            refine ⟨_, rfl, _, rfl, _, rfl, S, _, 0, .int (k : Nat), rfl, rfl, .inl (.inl e1M), atI_nat (j := 0) rfl, R, _, (k : Int), .ref a, rfl, rfl, .inl (.inl (sall _ _ hRt)), atI_nat (by rw [List.getElem?_map, ha]; rfl), a, _, 1, .str (T rs[k].ow), rfl, rfl, .inl (.inl (sall _ _ hat)), atI_nat (j := 1) rfl, _, rfl, (by rw [T_len]; have := hm2.o2; exact small (by omega)), _, _, rfl, rfl, ?_⟩
            refine ⟨p + rs[k].ow.length, acc ++ [(p, k)], some (.ref S), ?_, by have := hm2.o1; omega, sall, ?_, ?_⟩
            · have ee : ((p + rs[k].ow.length : Nat) : Int) = (p : Int) + ((T rs[k].ow).length : Int) := by rw [T_len]; omega
              rw [ee]
              rfl
            · refine ⟨ts ++ [t], by rw [upd_same, List.map_append]; rfl, paired_app (paired_mono (fun t' s h => ?_) hDp) (.cons ?_ .nil)⟩
              · rw [upd_ne (ne_of h hDl (by intro z; cases z))]
                exact sm _ _ (sN _ _ h)
              · rw [upd_ne (ne_of_none hDlN ht).symm, upd_same]
            · rw [hW, er, List.append_assoc, Nat.add_right_comm p rs[k].ow.length 1, Nat.add_sub_cancel]
              rfl
    · have c' : ¬ (p : Int) < ((T wd).length : Int) := of_decide_eq_false (Bool.eq_false_iff.mpr c)
      rw [T_len] at c'
      rw [wk_end rs (sgn wd) m (p + 1) (by rw [sgn_len]; omega)] at hW
      refine ⟨_, rfl, (by show 2 ≤ sizeLine; decide), fun t ht => ?_⟩
      have sm := same_new ht (.tup [.str (Str.ofString ""), .ref D])
      refine q t _ (s2.trans sm) ?_
      unfold LWAt
      rw [hW]
      refine ⟨D, ?_, ?_⟩
      · rw [upd_same, show Str.ofString "" = T [] from nil_eq]
      · rw [List.append_nil]
        exact hS.same sm
end
end Say
namespace Say
open PySem PySem.Spec PyProof.Rows L2
section
variable {P : Program} {w : World} {K : PySem.W.Frag} {mg : Str → Option Value} {base : Heap}
abbrev sLS : Stmt := topS 123
theorem scLS : FnScope ["_law_book", "_law_word_here", "_law_other", "_law_sounds", "_law_found", "_law_place", "_law_number"] ["_law_book", "_law_word_here"] (defScope sLS) := ⟨rfl, rfl, rfl, by decide +kernel, rfl, by decide +kernel, by decide +kernel⟩
def spLS : Sp := fun vs H Q _ => ∃ (b : Addr) (L : List Nat) (rs : List Rule) (es : List Exc) (wd : List Nat), vs = [.ref b, .str (T wd)] ∧ BookAt H b L rs es ∧ (∀ ρ ∈ rs, RlOk ρ) ∧ rs.length ≤ 500 ∧ wd.length ≤ 4000000 ∧
  ∀ (t : Addr) (H' : Hp), Same H H' → H' t = some (.tup (saidV rs es wd)) → Q (.ref t) H'
theorem ok_LS {f : Addr} {fd : FuncData} (F : Fun K "_law_said" "_law_said" sLS f fd) (DW : Df P w K mg base "_law_walk" ["_law_rules_here", "_law_word_here"] 2 spLW) : FnOk P w K mg base CX0 3 f fd ["_law_book", "_law_word_here"] spLS := by
  obtain ⟨fW, fdW, GW, kW, bW, mW⟩ := DW
  refine F.ok scLS (fun vs H Q E h => ?_) (fun cdv A outer s H vs Q E hr h => ?_)
  · obtain ⟨b, L, rs, es, wd, rfl, _⟩ := h
    rfl
  · obtain ⟨b, L, rs, es, wd, rfl, ⟨R, X, hb, hR, hX⟩, ho, hrs, hw, q⟩ := h
    refine ⟨_, pss_cons (ps_for PassesOwn.never rfl (pi_tup (pe_ix ix_tup (pv 0) pe_int (fun _ _ => rfl))) (pg_tup (by rfl) (pgs_cons (pg_name (i := 2) scLS.nd rfl (.inl rfl)) (pgs_cons (pg_name (i := 3) scLS.nd rfl (.inl rfl)) pgs_nil)))
        (pss_one (ps_if (pt_cmpR op_eq (pv 2) (pv 1) (nomark _)) (pss_one (ps_ret (pe_tup (pa_cons pe_str (pa_cons (pv 3) pa_nil))))) pss_nil)))
      (pss_cons (ps_set (i := 4) scLS.nd rfl (.inl rfl) (pe_call GW hr (by rfl) mW kW bW .nil pass0 (pa_cons (pe_ix ix_tup (pv 0) pe_int (fun _ _ => rfl)) (pa_cons (pv 1) pa_nil))))
      (pss_cons (ps_if (pt_cmpR op_ne (pe_ix ix_tup (pv 4) pe_int (fun _ _ => rfl)) pe_str (nomark _)) (pss_one (ps_ret (pv 4))) pss_nil)
      (pss_one (ps_ret (pe_tup (pa_cons pe_str (pa_cons (pe_join pe_str (pe_lc (own := [("_law_place", 5), ("_law_number", 6)]) (g := gTup K 2 (gCons (gName 5) (gCons (gName 6) gNil))) (te := tOp (rIxT K) (tOp (rIxT K) (tOp (rIxT K) (tVar 0) (tC (.int 1))) (tVar 6)) (tC (.int 3))) rfl scLS.nd
        (pi_list (pe_ix ix_tup (pv 4) pe_int (fun _ _ => rfl)))
        (blkOk_by (N := ["_law_book", "_law_word_here", "_law_other", "_law_sounds", "_law_found", "_law_place", "_law_number"]) (sc := defScope sLS) (by decide +kernel)) (fun _ _ _ _ _ => pg_tup (by rfl) (pgs_cons (pg_name (i := 5) scLS.nd rfl (.inl rfl)) (pgs_cons (pg_name (i := 6) scLS.nd rfl (.inl rfl)) pgs_nil)))
        (fun _ _ _ _ _ => pts_nil) (fun _ _ _ _ _ => pe_ix ix_tup (pe_ix ix_tup (pe_ix ix_tup (pv 0) pe_int (fun _ _ => rfl)) (pv 6) (fun _ _ => rfl)) pe_int (fun _ _ => rfl)))) pa_nil))))))), ?_⟩
    obtain ⟨ts, hXl, hXp⟩ := id hX
    refine ⟨_, rfl, b, _, 2, .ref X, rfl, rfl, .inl (.inl hb), atI_nat (j := 2) rfl, X, rfl, ⟨_, .inl hXl.rd⟩, for_it (walk_tup (xs := ts.map V.ref)) (fun i σ H3 => Same H H3 ∧ (∃ v2 v3, σ = [some (.ref b), some (.str (T wd)), v2, v3, none, none, none]) ∧ ∀ j e, j < i → es[j]? = some e → ¬ e.1 = wd)
      ⟨Same.refl _, ⟨_, _, rfl⟩, fun j e h => absurd h (Nat.not_lt_zero j)⟩ (fun i σ H3 _ h => .inl (hXl.kt (.of h.1)).rd) ?_ ?_⟩
    · rintro i x σ H3 H4 hi ⟨s3, ⟨v2, v3, rfl⟩, hn⟩ ⟨rfl, hx⟩
      rw [List.getElem?_map] at hx
      obtain ⟨a, ha, e⟩ := Option.map_eq_some_iff.mp hx
      subst e
      obtain ⟨e, he, hat⟩ := paired_at hXp ha
      have hat' := s3 _ _ hat
      refine ⟨a, _, rfl, .inl (.inl hat'), rfl, _, _, rfl, _, _, rfl, rfl, ?_⟩
      refine ⟨_, rfl, _, rfl, rfl, _, rfl, ?_⟩
      rw [eqT]
      refine ite2 (fun c => ?_) (fun c => ?_)
      · have c := of_decide_eq_true c
        have ef : es.find? (fun e => decide (e.1 = wd)) = some e := by
          refine List.find?_eq_some_iff_getElem.mpr ⟨decide_eq_true c, i, (List.getElem?_eq_some_iff.mp he).1, (List.getElem?_eq_some_iff.mp he).2, fun j hj => ?_⟩
          have := hn j _ hj (List.getElem?_eq_getElem (by have := (List.getElem?_eq_some_iff.mp he).1; omega))
          simp only [this, decide_false, Bool.not_false]
        refine ⟨_, rfl, (by show 2 ≤ sizeLine; decide), fun t ht => q t _ (s3.trans (same_new ht _)) ?_⟩
        unfold saidV saidM
        rw [ef, upd_same, show Str.ofString "" = T [] from nil_eq]
      · have c := of_decide_eq_false (Bool.eq_false_iff.mpr c)
        refine ⟨s3, ⟨_, _, rfl⟩, fun j e' hj he' => ?_⟩
        by_cases ej : j = i
        · subst ej
          rw [he] at he'
          cases he'
          exact c
        · exact hn j e' (by omega) he'
    · rintro σ H3 ⟨s3, ⟨v2, v3, rfl⟩, hn⟩
      have ef : es.find? (fun e => decide (e.1 = wd)) = none := by
        refine List.find?_eq_none.mpr fun e he => ?_
        obtain ⟨j, hj⟩ := List.mem_iff_getElem?.mp he
        have := hn j e (by rw [List.length_map, paired_len hXp]; exact (List.getElem?_eq_some_iff.mp hj).1) hj
        simpa using this
      have eM : saidM rs es wd = sayW rs wd := by
        unfold saidM
        rw [ef]
      refine ⟨_, rfl, b, _, 1, .ref R, rfl, rfl, .inl (.inl (s3 _ _ hb)), atI_nat (j := 1) rfl, _, rfl, R, rs, wd, rfl, hR.kt (.of s3), ho, hw, hrs, fun t H4 s4 ht => ?_⟩
      unfold LWAt at ht
      unfold saidV at q
      rw [eM] at q
      unfold sayW at q
      cases eW : (W rs wd).2 with
      | some p =>
        rw [eW] at ht q
        rw [if_neg (fun z => by cases z)] at q
        have ht : H4 t = some (.tup [.str (Str.ofString "unsaid"), .int (p : Nat)]) := ht
        refine ⟨_, rfl, t, _, 0, .str (Str.ofString "unsaid"), rfl, rfl, .inl (.inl ht), atI_nat (j := 0) rfl, rfl, _, rfl, ?_⟩
        rw [show decide (V.str (Str.ofString "unsaid") = V.str (Str.ofString "")) = false from by decide +kernel]
        refine iteT ?_
        exact ⟨_, rfl, q t H4 (s3.trans s4) ht⟩
      | none =>
        rw [eW] at ht q
        rw [if_pos rfl] at q
        obtain ⟨D, ht, hS⟩ := ht
        obtain ⟨sts, hDl, hDp⟩ := id hS
        refine ⟨_, rfl, t, _, 0, .str (T []), rfl, rfl, .inl (.inl ht), atI_nat (j := 0) rfl, rfl, _, rfl, ?_⟩
        rw [dec_nil, decide_eq_true rfl]
        refine iteF ?_
        have hlw : (W rs wd).1.length ≤ wd.length + 1 := wk_len rs (sgn wd) (wd.length + 1) 1
        have s34 := s3.trans s4
        obtain ⟨rts, hRt, hRp⟩ := hR.kt (.of s34)
        refine ⟨⟨_, rfl⟩, _, rfl, t, _, 1, .ref D, rfl, rfl, .inl (.inl ht), atI_nat (j := 1) rfl, D, rfl, ⟨_, .inl (.inl hDl)⟩, fun D' hD' => ?_⟩
        refine lc_it (walk_list (xs := sts.map V.ref)) (fun i H2 => H2 D' = some (.lst ((((((W rs wd).1.take i).map fun s : Nat × Nat => s.2).map fun k => (ruleAt rs k).so).map T).map V.str)) ∧ Same H4 H2) ?_ (fun i H2 _ h => .inl (.inl (h.2 _ _ hDl))) ?_ ?_
        · exact ⟨upd_same, same_new hD' _⟩
        · rintro i x H2 H2' hi ⟨e1, e2⟩ ⟨rfl, hx⟩
          rw [List.getElem?_map] at hx
          obtain ⟨a, ha, e⟩ := Option.map_eq_some_iff.mp hx
          subst e
          obtain ⟨st, hst, hat⟩ := paired_at hDp ha
          have hjl : st.2 < rs.length := wk_lt _ _ st (List.mem_of_getElem? hst)
          have hi2 : i < (W rs wd).1.length := (List.getElem?_eq_some_iff.mp hst).1
          obtain ⟨ra, hra, hrat⟩ := paired_at' hRp (List.getElem?_eq_getElem hjl)
          have er : ruleAt rs st.2 = rs[st.2] := ruleAt_eq (List.getElem?_eq_getElem hjl)
          refine ⟨a, _, rfl, .inl (.inl (e2 _ _ hat)), rfl, _, _, rfl, _, _, rfl, rfl, ?_⟩
          refine ⟨rfl, ?_⟩
          refine ⟨_, rfl, b, _, 1, .ref R, rfl, rfl, .inl (.inl (e2 _ _ (s34 _ _ hb))), atI_nat (j := 1) rfl, _, rfl, R, _, (st.2 : Int), .ref ra, rfl, rfl, .inl (.inl (e2 _ _ hRt)), atI_nat (by rw [List.getElem?_map, hra]; rfl), ra, _, 3, .str (T rs[st.2].so), rfl, rfl, .inl (.inl (e2 _ _ hrat)), atI_nat (j := 3) rfl, _, e1, ?_, ?_, ?_⟩
          · rw [List.length_map, List.length_map, List.length_map, List.length_map, List.length_take]
            exact smallM (by omega)
          · rw [upd_same, List.take_add_one, hst]
            simp only [Option.toList_some, List.map_append, List.map_cons, List.map_nil, er]
          · exact fun b u q => by
              rw [upd_ne (ne_of_none q hD')]
              exact e2 b u q
        · rintro H2 ⟨e1, e2⟩
          rw [List.length_map, paired_len hDp, List.take_length] at e1
          refine ⟨Str.ofString "", D', (((W rs wd).1.map fun s : Nat × Nat => s.2).map fun k => (ruleAt rs k).so).map T, rfl, rfl, .inl (.inl (.inl e1)), ?_, ?_⟩
          · rw [sum_T]
            have := flat_len ho ((W rs wd).1.map fun s : Nat × Nat => s.2) fun k hk => by
              obtain ⟨st, hst, rfl⟩ := List.mem_map.mp hk
              exact wk_lt _ _ st hst
            rw [List.length_map] at this
            show (soL rs _).length + _ * 0 ≤ _
            omega
          · rw [show Str.ofString "" = T [] from nil_eq, join_nil]
            refine ⟨(by show 2 ≤ sizeLine; decide), fun u hu => q u _ (s34.trans (e2.trans (same_new hu _))) ?_⟩
            rw [upd_same]
            rfl
end
end Say
namespace Say
open PySem PySem.Spec PyProof.Rows L2
section
variable {P : Program} {w : World} {K : PySem.W.Frag} {mg : Str → Option Value} {base : Heap}
abbrev sRow : Stmt := topS 111
theorem scRow : FnScope ["_law_script", "_law_mixed", "_law_cell"] ["_law_script"] (defScope sRow) := ⟨rfl, rfl, rfl, by decide +kernel, rfl, by decide +kernel, by decide +kernel⟩
def spRow (K : PySem.W.Frag) : Sp := fun vs H Q _ => ∃ (a : Addr) (ns : List Int), vs = [.ref a] ∧ SqL K H a (ns.map V.int) ∧ ns.length ≤ 63 ∧
  ∀ (r : Addr) (H' : Hp), H r = none → Same H H' → RowAt K H' r a ns → Q (.ref r) H'
theorem map_int_get {ns : List Int} {i : Nat} {x : V} (h : (ns.map V.int)[i]? = some x) : ∃ z, x = V.int z := by
  rw [List.getElem?_map] at h
  cases e : ns[i]? with
  | none => rw [e] at h; cases h
  | some z => rw [e] at h; exact ⟨z, (Option.some.inj h).symm⟩
theorem ok_row {f : Addr} {fd : FuncData} {k : Nat} (F : Fun K "_law_row" "_law_row" sRow f fd) : FnOk P w K mg base CX0 (k + 1) f fd ["_law_script"] (spRow K) := by
  refine F.ok scRow (fun vs H Q E h => ?_) (fun cdv A outer s H vs Q E hr h => ?_)
  · obtain ⟨a, ns, rfl, _⟩ := h
    rfl
  · obtain ⟨a, ns, rfl, hS, hle, q⟩ := h
    refine ⟨_, pss_cons (ps_set (i := 1) scRow.nd rfl (.inl rfl) pe_int)
      (pss_cons (ps_for PassesOwn.never rfl (pi_list (pv 0)) (pg_name (i := 2) scRow.nd rfl (.inl rfl))
        (pss_one (ps_set (i := 1) scRow.nd rfl (.inl rfl) (pe_op op_modN (pe_op op_add (pe_op op_add (pe_op op_mul (pv 1) pe_int) (pv 2)) pe_int) pe_int))))
      (pss_one (ps_ret (pe_lst (pa_cons (pv 0) (pa_cons pe_int (pa_cons pe_int (pa_cons (pv 1) pa_nil)))))))), ?_⟩
    refine ⟨_, rfl, a, rfl, ⟨_, hS⟩, for_list (K := K) (a := a) (xs := ns.map V.int) (fun i σ H2 => H2 = H ∧ ∃ (m : Int) (v : Option V), σ = [some (.ref a), some (.int m), v] ∧ 0 ≤ m ∧ m < 2147483647)
      ⟨rfl, 7, none, rfl, by decide, by decide⟩ (fun i σ H2 _ h => by obtain ⟨rfl, _⟩ := h; exact hS) ?_ ?_⟩
    · rintro i x σ H2 hx ⟨rfl, m, v, rfl, h0, h1⟩
      obtain ⟨z, rfl⟩ := map_int_get hx
      refine ⟨_, rfl, _, _, rfl, rfl, .inl ⟨by omega, by omega⟩, _, rfl, _, _, rfl, rfl, _, _, rfl, rfl, _, _, rfl, rfl, (by show (2147483647 : Int) ≠ 0; decide), ?_⟩
      exact ⟨rfl, _, _, rfl, Int.fmod_nonneg_of_pos _ (by decide), Int.fmod_lt_of_pos _ (by decide)⟩
    · rintro σ H2 ⟨rfl, m, v, rfl, h0, h1⟩
      refine ⟨_, rfl, _, rfl, (by show 4 ≤ sizeLine; decide), fun p hp => ?_⟩
      have sm := same_new hp (.lst [.ref a, .int 0, .int 0, .int m])
      exact q p _ hp sm ⟨⟨0, 0, m, upd_same, by decide, h0, h1⟩, sm.seq hS, hle⟩
end
end Say
namespace Say
open PySem PySem.Spec PyProof.Rows L2
/-! ### a book as data -/
def ruleD (ρ : Rule) : PyData := .tuple [.str (T ρ.ah), .str (T ρ.ow), .str (T ρ.be), .str (T ρ.so)]
def excD2 (e : Exc) : PyData := .tuple [.str (T e.1), .str (T e.2)]
def bookD (L : List Nat) (rs : List Rule) (es : List Exc) : PyData := .tuple [.str (T L), .tuple (rs.map ruleD), .tuple (es.map excD2)]
theorem dp_book {K : PySem.W.Frag} {H : Hp} {b : Addr} {L : List Nat} {rs : List Rule} {es : List Exc} (h : BookAt H b L rs es) : Dp K H (.ref b) (bookD L rs es) := by
  obtain ⟨R, X, hb, ⟨tsR, hR, pR⟩, ⟨tsX, hX, pX⟩⟩ := h
  have hRs : DpAll K H (tsR.map V.ref) (rs.map ruleD) := by
    clear hR
    induction pR with
    | nil => exact .nil
    | cons a b ih => exact .cons (.tup (.inl (.inl a)) (.cons (.str _) (.cons (.str _) (.cons (.str _) (.cons (.str _) .nil))))) ih
  have hXs : DpAll K H (tsX.map V.ref) (es.map excD2) := by
    clear hX
    induction pX with
    | nil => exact .nil
    | cons a b ih => exact .cons (.tup (.inl (.inl a)) (.cons (.str _) (.cons (.str _) .nil))) ih
  exact .tup (.inl (.inl hb)) (.cons (.str _) (.cons (.tup (.inl (.inl hR)) hRs) (.cons (.tup (.inl hX.rd) hXs) .nil)))
theorem few_strs {l : List PyData} (h : ∀ d ∈ l, ∃ x, d = .str x) : ∀ d ∈ l, Few d := fun d hd => by
  obtain ⟨x, rfl⟩ := h d hd
  exact .str x
theorem few_book {L : List Nat} {rs : List Rule} {es : List Exc} (h : BookOk L rs es) : Few (bookD L rs es) := by
  have r12 := h.r12
  have e8 := h.e8
  refine .tup (by show 3 ≤ 1000; decide) fun d hd => ?_
  simp only [List.mem_cons, List.not_mem_nil, or_false] at hd
  rcases hd with rfl | rfl | rfl
  · exact .str _
  · refine .tup (by rw [List.length_map]; omega) fun d hd => ?_
    obtain ⟨ρ, _, rfl⟩ := List.mem_map.mp hd
    refine .tup (by show 4 ≤ 1000; decide) fun d hd => ?_
    simp only [List.mem_cons, List.not_mem_nil, or_false] at hd
    rcases hd with rfl | rfl | rfl | rfl <;> exact .str _
  · refine .tup (by rw [List.length_map]; omega) fun d hd => ?_
    obtain ⟨ρ, _, rfl⟩ := List.mem_map.mp hd
    refine .tup (by show 2 ≤ 1000; decide) fun d hd => ?_
    simp only [List.mem_cons, List.not_mem_nil, or_false] at hd
    rcases hd with rfl | rfl <;> exact .str _
theorem depth_all {n : Nat} : ∀ {l : List PyData}, (∀ d ∈ l, d.depth ≤ n) → PyData.depthAll l ≤ n
  | [], _ => Nat.zero_le _
  | d :: r, h => by
    have h1 := h d (List.mem_cons_self ..)
    have h2 := depth_all (l := r) fun x hx => h x (List.mem_cons_of_mem _ hx)
    show max d.depth (PyData.depthAll r) ≤ n
    omega
theorem depth_book (L : List Nat) (rs : List Rule) (es : List Exc) : (bookD L rs es).depth < 4 := by
  have h1 : PyData.depthAll (rs.map ruleD) ≤ 1 := depth_all fun d hd => by
    obtain ⟨ρ, _, rfl⟩ := List.mem_map.mp hd
    exact Nat.le_refl 1
  have h2 : PyData.depthAll (es.map excD2) ≤ 1 := depth_all fun d hd => by
    obtain ⟨ρ, _, rfl⟩ := List.mem_map.mp hd
    exact Nat.le_refl 1
  show max 0 (max (PyData.depthAll (rs.map ruleD) + 1) (max (PyData.depthAll (es.map excD2) + 1) 0)) + 1 < 4
  omega
end Say
namespace LamV
open PySem PySem.Spec PyProof.Rows L2
theorem alls_nil {X : Cx} {k : Nat} {φ : L2.St → Prop} : ∀ l ∈ ([] : List ((Addr → Hp → Prop) × (XK → TE))), CallKs X k φ l.1 l.2 := fun l h => nomatch h
theorem alls_cons {X : Cx} {k : Nat} {φ : L2.St → Prop} {i : Addr → Hp → Prop} {t : XK → TE} {r : List ((Addr → Hp → Prop) × (XK → TE))} (h : CallKs X k φ i t) (hr : ∀ l ∈ r, CallKs X k φ l.1 l.2) : ∀ l ∈ (i, t) :: r, CallKs X k φ l.1 l.2 := fun l hl => by
  rcases List.mem_cons.mp hl with rfl | hl
  · exact h
  · exact hr l hl
theorem IsDflt.updL {X : Cx} {params : Arguments} {body : Expr} {own : Scope} {f w : Addr} {H : Hp} {xs : List V} {o : HO} (h : IsDflt X params body own f H) (hw : H w = some (.lst xs)) : IsDflt X params body own f (upd H w o) := by
  obtain ⟨c', D, u, h1, h2, h3⟩ := h
  refine ⟨c', D, u, ?_, ?_, ?_⟩
  · rw [upd_ne fun e => by rw [e, hw] at h1; unfold DfltO at h1; cases h1]; exact h1
  · rw [upd_ne fun e => by rw [e, hw] at h2; unfold OneO at h2; cases h2]; exact h2
  · rw [upd_ne fun e => by rw [e, hw] at h3; unfold LamX.CodeO at h3; cases h3]; exact h3
theorem IsPlain.updL {X : Cx} {params : Arguments} {body : Expr} {own : Scope} {f w : Addr} {H : Hp} {xs : List V} {o : HO} (h : IsPlain X params body own f H) (hw : H w = some (.lst xs)) : IsPlain X params body own f (upd H w o) := by
  obtain ⟨c', h1, h3⟩ := h
  refine ⟨c', ?_, ?_⟩
  · rw [upd_ne fun e => by rw [e, hw] at h1; unfold PlainO at h1; cases h1]; exact h1
  · rw [upd_ne fun e => by rw [e, hw] at h3; unfold LamX.CodeO at h3; cases h3]; exact h3
end LamV
namespace Say
open PySem PySem.Spec PyProof.Rows L2 L2.DX
abbrev lamP : Expr → Arguments
  | .Lambda a _ _ _ => a
  | _ => defArgs (topS 124)
abbrev lamB : Expr → Expr
  | .Lambda _ b _ _ => b
  | e => e
abbrev lamO : Expr → Scope
  | .Lambda _ _ o _ => o
  | _ => defScope (topS 124)
section
variable {P : Program} {w : World} {K : PySem.W.Frag} {mg : Str → Option Value} {base : Heap} {CB : Addr}
/-- a book with nothing in it but letters -/
def GoodAt (H : Hp) (gd : Addr) (L : List Nat) : Prop := L ∈ lets ∧ ∃ R X, H gd = some (.tup [.str (T L), .ref R, .ref X]) ∧ H R = some (.tup []) ∧ H X = some (.tup [])
theorem GoodAt.kt {H H' : Hp} {gd : Addr} {L : List Nat} (h : GoodAt H gd L) (k : KT H H') : GoodAt H' gd L := by
  obtain ⟨h0, R, X, h1, h2, h3⟩ := h
  exact ⟨h0, R, X, k.1 _ _ h1, k.1 _ _ h2, k.1 _ _ h3⟩
theorem good_ch {H : Hp} {gd : Addr} {L : List Nat} {Q : VK} {E : XK} (h : GoodAt H gd L) (q : ∀ H', Same H H' → Q (.ref gd) H') : spChV K CB [.ref gd] H Q E := by
  obtain ⟨hL, R, X, h1, h2, h3⟩ := h
  have n1 : ∀ n, ¬ badRs (some []) n := fun n h => absurd h.1 (Nat.not_lt_zero n)
  have n2 : ∀ n, ¬ badEs (some []) n := fun n h => absurd h.1 (Nat.not_lt_zero n)
  exact ⟨_, rfl, .inr (.inr ⟨gd, _, _, _, rfl, .inl (.inl h1), lets_vok hL, (fun c => by rw [(lets_ok hL).1] at c; cases c), fun L' e1 e2 =>
    ⟨some [], .inr ⟨R, [], [], rfl, .inl (.inl h2), Nat.zero_le _, .nil, rfl⟩, fun n hn => absurd hn (n1 n), fun _ => ⟨some [], .inr ⟨X, [], [], rfl, .inl (.inl h3), Nat.zero_le _, .nil, rfl⟩, fun n hn => absurd hn (n2 n), fun _ => q⟩⟩⟩)⟩
abbrev spInD (K : PySem.W.Frag) (CB : Addr) : Sp := fun vs H Q E => ∃ (y v : V), vs = [y, v] ∧ Refused K CB v H E
/-- what a lambda asks for: refused -/
def W1 (K : PySem.W.Frag) (CB : Addr) (t : XK → TE) : Prop := ∀ (σ : L2.St) (E : XK) (H : Hp) (Q : VK) (bad : V) (p n : Int) (gd : Addr) (L : List Nat), σ[4]? = some (some bad) → σ[6]? = some (some (.ref gd)) → BadV K H bad p n → GoodAt H gd L → refB CB H E p n → t E σ H Q
def W2 (K : PySem.W.Frag) (CB : Addr) (t : XK → TE) : Prop := ∀ (σ : L2.St) (E : XK) (H : Hp) (Q : VK) (bad : V) (p n : Int), σ[4]? = some (some bad) → Bad3 K H bad p n → p < 2 → refB CB H E p n → t E σ H Q
theorem w_door1 (c : Int) : W1 K CB (fun E => tCall (spDoor K CB 1) [] E (tCons (tVar 4) (tCons (tC (.int c)) tNil))) := fun σ E H Q bad p n gd L h4 h6 hb hg hq => ⟨_, h4, bad, [.int c], rfl, rfl, hb.refused hq⟩
theorem w_door0 : W1 K CB (fun E => tCall (spDoor K CB 0) [] E (tCons (tVar 4) tNil)) := fun σ E H Q bad p n gd L h4 h6 hb hg hq => ⟨_, h4, bad, [], rfl, rfl, hb.refused hq⟩
theorem w_ptb (c : Int) : W1 K CB (fun E => tCall (spDoor2 K CB) [] E (tCons (tVar 4) (tCons (tC (.int c)) tNil))) := fun σ E H Q bad p n gd L h4 h6 hb hg hq => ⟨_, h4, bad, .int c, rfl, (hb.refused hq).to⟩
theorem w_ptg : W1 K CB (fun E => tCall (spDoor2 K CB) [] E (tCons (tVar 6) (tCons (tVar 4) tNil))) := fun σ E H Q bad p n gd L h4 h6 hb hg hq => ⟨_, h6, _, h4, .ref gd, bad, rfl, good_ch hg fun H' s => (hb.kp (.of s)).refused (hq.same s)⟩
theorem w_in {C : Addr} : W1 K CB (fun E => tMake C (spInD K CB) [] E (tCons (tVar 4) tNil)) := fun σ E H Q bad p n gd L h4 h6 hb hg hq => ⟨_, h4, fun x dx nx ndx nd => by
  have s : Same H (upd (upd H dx (.own x)) x (.ins C dx [])) := fun b o hb' => by
    rw [upd_ne (ne_of_none hb' nx), upd_ne (ne_of_none hb' ndx)]
    exact hb'
  exact ⟨.ref x, bad, rfl, (hb.kp (.of s)).refused (hq.same s)⟩⟩
theorem w_wr (c d : Int) : W1 K CB (fun E => tCallN 2 1 (spDoor K CB 2) (fun vs zs => vs ++ zs) E (tCons (tVar 4) (tCons (tC (.int c)) tNil)) (tCons (tC (.int d)) tNil)) := fun σ E H Q bad p n gd L h4 h6 hb hg hq => ⟨_, h4, rfl, rfl, bad, [.int c, .int d], rfl, rfl, hb.refused hq⟩
theorem w_lr (c : Int) : W2 K CB (fun E => tCall (spDoorL K CB) [] E (tCons (tOp (rIxT K) (tVar 4) (tC (.int 0))) (tCons (tOp (rIxT K) (tVar 4) (tC (.int 1))) (tCons (tC (.int c)) tNil)))) := fun σ E H Q bad p n h4 hb hp hq => by
  obtain ⟨t, l, r, x, rfl, hT, hR⟩ := hb.lr hp hq
  exact ⟨_, h4, t, _, 0, l, rfl, rfl, hT, atI_nat (j := 0) rfl, _, h4, t, _, 1, r, rfl, rfl, hT, atI_nat (j := 1) rfl, l, r, .int c, rfl, hR⟩
theorem toldB {p n : Int} {Q : VK} {H : Hp} (WB : WordC K mg CB 0) (h : ∀ (u qq : Addr) (H8 : Hp), Same H H8 → H8 u = some (.tup [.str "book", .ref qq]) → H8 qq = some (.tup [.int p, .int n]) → Q (.ref u) H8) : refB CB H (echW K mg Q) p n :=
  fun d H' s hd hx => ⟨CB, 0, _, WB, rfl, .inr (.inr (.inl ⟨rfl, d, p, n, rfl, hx, rfl⟩)), fun u H8 s8 ⟨qq, hq, hu⟩ => h u qq H8 (s.trans s8) hu hq⟩
/-- how a turn stands -/
structure S3 (K : PySem.W.Frag) (Tt : List (Addr × Str)) (r a : Addr) (ns : List Int) (bad : V) (p n : Int) (u0 gd : Addr) (L : List Nat) (H : Hp) : Prop where
  R : RowAt K H r a ns
  Tb : LamX.Tabs Tt H
  hb : BadV K H bad p n
  hu : H u0 = some (.tup [.int p, .int n])
  hg : GoodAt H gd L
section
variable {Tt : List (Addr × Str)} {r a u0 gd : Addr} {ns : List Int} {bad : V} {p n : Int} {L : List Nat} {H H' : Hp}
theorem S3.extN (h : S3 K Tt r a ns bad p n u0 gd L H) (e : LamX.ExtN H H') (T : LamX.Tabs Tt H') : S3 K Tt r a ns bad p n u0 gd L H' :=
  ⟨h.R.extN e, T, h.hb.kp (.ext e), e _ _ h.hu (fun ps z => by cases z), h.hg.kt ⟨fun t xs q => e _ _ q (fun ps z => by cases z), fun t o xs q => e _ _ q (fun ps z => by cases z)⟩⟩
theorem S3.same (h : S3 K Tt r a ns bad p n u0 gd L H) (s : Same H H') : S3 K Tt r a ns bad p n u0 gd L H' := h.extN (.of s) (h.Tb.ext s)
end
end
end Say
namespace Say
open PySem PySem.Spec PyProof.Rows L2 L2.DX
theorem cx_no {P : Program} {w : World} {outer : List Env} {H : Hp} {s s' : Shared} {u : Value} {G : Prop} (h : L2.CX P w outer H s (fun _ _ _ => False) u s') : G := by
  obtain ⟨_, _, _, _, _, _, _, _, _, _, _, _, h⟩ := h
  exact h.elim
end Say
namespace Say
open PySem PySem.Spec PyProof.Rows L2 L2.DX
/-- the full book -/
def rulZ : Rule := ⟨[35, 97, 98, 99, 100], [97, 98], [35, 97, 98, 99, 100], [65, 66, 90]⟩
def exc8 : List Exc := (List.range 8).map fun k => (List.replicate (k + 1) 97, List.replicate 36 90)
theorem rulZ_ok : RuleOk [97, 98, 99, 100] rulZ := ⟨List.Sublist.refl _, by decide, by decide, by decide, List.Sublist.refl _, by decide, by decide⟩
theorem full_ok : BookOk [97, 98, 99, 100] (List.replicate 12 rulZ) exc8 := by
  refine ⟨⟨by decide, by decide, by decide, by decide⟩, fun ρ h => by rw [(List.mem_replicate.mp h).2]; exact rulZ_ok, by rw [List.length_replicate]; decide, fun e he => ?_, by decide, by decide +kernel⟩
  have : ∀ e ∈ exc8, (∀ c ∈ e.1, c ∈ [97, 98, 99, 100]) ∧ 1 ≤ e.1.length ∧ e.1.length ≤ 8 ∧ (∀ c ∈ e.2, 65 ≤ c ∧ c ≤ 90) ∧ e.2.length ≤ 36 := by decide +kernel
  obtain ⟨h1, h2, h3, h4, h5⟩ := this e he
  exact ⟨h1, h2, h3, h4, h5⟩
theorem full_rl : ∀ ρ ∈ List.replicate 12 rulZ, RlOk ρ := fun ρ h => full_ok.rls ρ h
theorem full_said : saidM (List.replicate 12 rulZ) exc8 [97, 97, 97] = some (List.replicate 36 90) := by decide +kernel
theorem full_walk : (W (List.replicate 12 rulZ) [98]).2 = some 0 := by decide +kernel
end Say
namespace Say
open PySem PySem.Spec PyProof.Rows L2 L2.DX
abbrev sSyC (j : Nat) : Stmt := inClass (topS 105) j
abbrev sDkC (j : Nat) : Stmt := inClass (topS 89) j
structure CsK (K : PySem.W.Frag) (C : Addr) : Prop where
  cl : Cls K C
  n0 : NoAttr K C "_book"
end Say
namespace Say
open PySem PySem.Spec PyProof.Rows L2
section
variable {P : Program} {w : World} {K : PySem.W.Frag} {mg : Str → Option Value} {base : Heap}
abbrev sText : Stmt := topS 115
theorem scText : FnScope ["_law_row_here", "_law_signs", "_law_fewest", "_law_many", "_law_k"] ["_law_row_here", "_law_signs", "_law_fewest", "_law_many"] (defScope sText) := ⟨rfl, rfl, rfl, by decide +kernel, rfl, by decide +kernel, by decide +kernel⟩
def spText (K : PySem.W.Frag) : Sp := fun vs H Q _ => ∃ (r a : Addr) (ns : List Int) (S : List Nat) (lo hi : Nat), vs = [.ref r, .str (T S), .int lo, .int hi] ∧ RowAt K H r a ns ∧ 0 < S.length ∧ S.length ≤ 100 ∧ lo ≤ hi ∧ hi ≤ 100 ∧
  ∀ (z : List Nat) (H' : Hp), (∀ c ∈ z, c ∈ S) → lo ≤ z.length → z.length ≤ hi → Stp r H H' → RowAt K H' r a ns → Q (.str (T z)) H'
theorem ok_text {f : Addr} {fd : FuncData} (F : Fun K "_law_text" "_law_text" sText f fd) (DT : Df P w K mg base "_law_taken" ["_law_row_here", "_law_many"] 1 (spTaken K)) (ml : mg "len" = none) (mr : mg "range" = none) :
    FnOk P w K mg base CX0 2 f fd ["_law_row_here", "_law_signs", "_law_fewest", "_law_many"] (spText K) := by
  obtain ⟨fT, fdT, GT, kT, bT, mT⟩ := DT
  refine F.ok scText (fun vs H Q E h => ?_) (fun cdv A outer s H vs Q E hr h => ?_)
  · obtain ⟨r, a, ns, S, lo, hi, rfl, _⟩ := h
    rfl
  · obtain ⟨r, a, ns, S, lo, hi, rfl, R, hS0, hS1, hlh, hh, q⟩ := h
    refine ⟨_, pss_one (ps_ret (pe_join pe_str (pe_lc (own := [("_law_k", 4)]) (g := gName 4) rfl scText.nd
        (pi_range1 rfl mr (pa_cons (pe_op op_add (pv 2) (pe_call GT hr (by rfl) mT kT bT .nil pass0 (pa_cons (pv 0) (pa_cons (pe_op op_add (pe_op op_sub (pv 3) (pv 2)) pe_int) pa_nil)))) pa_nil))
        (blkOk_by (N := ["_law_row_here", "_law_signs", "_law_fewest", "_law_many", "_law_k"]) (sc := defScope sText) (by decide +kernel)) (fun _ _ _ _ _ => pg_name (i := 4) scText.nd rfl (.inl rfl))
        (fun _ _ _ _ _ => pts_nil) (fun _ _ _ _ _ => pe_ix ix_str (pv 1) (pe_call GT hr (by rfl) mT kT bT .nil pass0 (pa_cons (pv 0) (pa_cons (pe_callB call_len_str (by rfl) ml PySem.boot_len (pa_cons (pv 1) pa_nil)) pa_nil))) (fun _ _ => rfl))))), ?_⟩
    refine ⟨⟨_, rfl⟩, _, rfl, _, rfl, _, rfl, _, rfl, _, _, rfl, rfl, _, _, rfl, rfl, r, a, ns, _, rfl, R, by omega, by omega, fun k1 H1 h0 h1 s1 R1 => ?_⟩
    refine ⟨_, _, rfl, rfl, (lo : Int) + k1, rfl, by omega, by omega, fun D hD => ?_⟩
    refine lc_it (walk_range) (fun i H2 => ∃ acc : List Nat, H2 D = some (.lst (sg acc)) ∧ acc.length = i ∧ (∀ c ∈ acc, c ∈ S) ∧ Stp r H1 H2 ∧ RowIn H2 r a) ?_ (fun _ _ _ _ => trivial) ?_ ?_
    · exact ⟨[], upd_same, rfl, by simp, Stp.of (same_new hD _), R1.in.upd (R1.nw hD)⟩
    · rintro i x H2 H2' hi' ⟨acc, e1, e2, e3, e4, e5⟩ ⟨rfl, rfl⟩
      refine ⟨rfl, ?_⟩
      refine ⟨_, rfl, _, rfl, _, rfl, _, rfl, (by rw [T_len]; exact small (by omega)), r, a, ns, _, rfl, R1.of e4 e5, (by rw [T_len]; omega), (by rw [T_len]; omega), fun k2 H3 h2 h3 s2 R2 => ?_⟩
      have e1' := s2.one e1 (R1.nw hD)
      rw [T_len] at h3
      have hj : k2.toNat < S.length := by omega
      refine ⟨T S, k2, S[k2.toNat], rfl, rfl, (by rw [T_len]; exact small (by omega)), at_list hj (by omega), ?_⟩
      refine ⟨_, e1', ?_, acc ++ [S[k2.toNat]], ?_, by simp [e2], ?_, (e4.trans s2).put hD _, R2.in.upd (R1.nw hD)⟩
      · rw [sg_len]
        exact small1000 (by omega)
      · rw [upd_same]
        exact congrArg (fun l => some (HO.lst l)) (sg_app acc _)
      · intro c hc
        rcases List.mem_append.mp hc with h | h
        · exact e3 c h
        · rw [List.mem_singleton.mp h]
          exact List.getElem_mem hj
    · rintro H2 ⟨acc, e1, e2, e3, e4, e5⟩
      refine ⟨Str.ofString "", D, (acc.map fun c => [c]).map T, rfl, rfl, .inl (.inl (.inl ?_)), ?_, ?_⟩
      · rw [e1, sg_map]
      · rw [sum_ones]
        show acc.length + _ * 0 ≤ _
        omega
      · rw [show Str.ofString "" = T [] from nil_eq, join_nil, map_single]
        exact q acc H2 e3 (by omega) (by omega) (s1.trans e4) (R1.of e4 e5)
end
end Say
namespace Say
open PySem PySem.Spec PyProof.Rows L2
section
variable {P : Program} {w : World} {K : PySem.W.Frag} {mg : Str → Option Value} {base : Heap}
abbrev sRule : Stmt := topS 117
theorem scRule : FnScope ["_law_row_here", "_law_letters_here", "_law_ahead", "_law_own"] ["_law_row_here", "_law_letters_here"] (defScope sRule) := ⟨rfl, rfl, rfl, by decide +kernel, rfl, by decide +kernel, by decide +kernel⟩
def spRule (K : PySem.W.Frag) : Sp := fun vs H Q _ => ∃ (r a : Addr) (ns : List Int) (L : List Nat), vs = [.ref r, .str (T L)] ∧ RowAt K H r a ns ∧ 0 < L.length ∧ L.length ≤ 4 ∧
  ∀ (ρ : Rule) (t : Addr) (H' : Hp), RuleOk L ρ → H' t = some (.tup ρ.vs) → Stp r H H' → RowAt K H' r a ns → Q (.ref t) H'
theorem AB_eq : Str.ofString "AB" = T [65, 66] := by decide +kernel
theorem AB_ok {z : List Nat} (h : ∀ c ∈ z, c ∈ [65, 66]) : ∀ c ∈ z, 65 ≤ c ∧ c ≤ 90 := fun c hc => by
  have := h c hc
  simp at this
  omega
theorem ok_rule {f : Addr} {fd : FuncData} (F : Fun K "_law_rule" "_law_rule" sRule f fd) (DT : Df P w K mg base "_law_taken" ["_law_row_here", "_law_many"] 1 (spTaken K))
    (DS : Df P w K mg base "_law_side" ["_law_row_here", "_law_letters_here"] 2 (spSide K)) (DX : Df P w K mg base "_law_text" ["_law_row_here", "_law_signs", "_law_fewest", "_law_many"] 2 (spText K)) :
    FnOk P w K mg base CX0 3 f fd ["_law_row_here", "_law_letters_here"] (spRule K) := by
  obtain ⟨fT, fdT, GT, kT, bT, mT⟩ := DT
  obtain ⟨fS, fdS, GS, kS, bS, mS⟩ := DS
  obtain ⟨fX, fdX, GX, kX, bX, mX⟩ := DX
  refine F.ok scRule (fun vs H Q E h => ?_) (fun cdv A outer s H vs Q E hr h => ?_)
  · obtain ⟨r, a, ns, L, rfl, _⟩ := h
    rfl
  · obtain ⟨r, a, ns, L, rfl, R, hl0, hl, q⟩ := h
    have hr1 : Room 1 _ := hr.mono (by decide)
    refine ⟨_, pss_cons (ps_par (i := 2) (j := 3) (by rfl) scRule.nd rfl rfl (by decide) rfl rfl (pa_cons (pe_call GS hr (by rfl) mS kS bS .nil pass0 (pa_cons (pv 0) (pa_cons (pv 1) pa_nil)))
          (pa_cons (pe_call GX hr (by rfl) mX kX bX .nil pass0 (pa_cons (pv 0) (pa_cons (pv 1) (pa_cons pe_int (pa_cons pe_int pa_nil))))) pa_nil)) (by rfl))
      (pss_one (ps_ret (pe_tup (pa_cons (pv 2) (pa_cons (pv 3) (pa_cons (pe_call GS hr (by rfl) mS kS bS .nil pass0 (pa_cons (pv 0) (pa_cons (pv 1) pa_nil)))
        (pa_cons (pe_call GX hr (by rfl) mX kX bX .nil pass0 (pa_cons (pv 0) (pa_cons pe_str (pa_cons pe_int (pa_cons (pe_ix ix_list (pe_lst (pa_cons pe_int (pa_cons pe_int (pa_cons pe_int pa_nil)))) (pe_call GT hr1 (by rfl) mT kT bT .nil pass0 (pa_cons (pv 0) (pa_cons pe_int pa_nil))) (fun _ _ => rfl)) pa_nil))))) pa_nil))))))), ?_⟩
    refine ⟨_, rfl, _, rfl, r, a, ns, L, rfl, R, hl, fun ah H1 o1 s1 R1 => ?_⟩
    refine ⟨_, rfl, _, rfl, r, a, ns, L, 1, 2, rfl, R1, hl0, by omega, by decide, by decide, fun ow H2 o2 o3 o4 s2 R2 => ?_⟩
    refine ⟨_, _, rfl, ?_⟩
    refine ⟨_, rfl, _, rfl, _, rfl, _, rfl, r, a, ns, L, rfl, R2, hl, fun be H3 o5 s3 R3 => ?_⟩
    refine ⟨_, rfl, (by show 3 ≤ sizeLine; decide), fun p hp => ?_⟩
    have sm := same_new hp (.lst [V.int 1, .int 1, .int 3])
    refine ⟨_, rfl, r, a, ns, 3, rfl, R3.stp sm, by decide, by decide, fun k1 H4 h0 h1 s4 R4 => ?_⟩
    have hL : SqL K H4 p [V.int 1, .int 1, .int 3] := .inl (.inl (s4 _ _ upd_same (R3.nw hp).symm))
    have s34 := (Stp.of sm).trans s4
    have fin : ∀ m : Nat, m ≤ 3 → ∀ (so : List Nat) (H5 : Hp), (∀ c ∈ so, c ∈ [65, 66]) → 0 ≤ so.length → so.length ≤ m → Stp r H4 H5 → RowAt K H5 r a ns → 
        (4 ≤ sizeLine ∧ ∀ t, H5 t = none → Q (.ref t) (upd H5 t (.tup [.str (T ah), .str (T ow), .str (T be), .str (T so)]))) := fun m hm so H5 o6 _ o7 s5 R5 =>
      ⟨by decide, fun t ht => q ⟨ah, ow, be, so⟩ t _ ⟨o1, o2, o3, o4, o5, AB_ok o6, by show so.length ≤ 3; omega⟩ upd_same (s1.trans (s2.trans (s3.trans (s34.trans (s5.trans (Stp.of (same_new ht _))))))) (R5.stp (same_new ht _))⟩
    have hk : k1 = 0 ∨ k1 = 1 ∨ k1 = 2 := by omega
    rcases hk with e | e | e
    · exact ⟨p, _, k1, V.int 1, rfl, rfl, hL, at_of (j := 0) e rfl, r, a, ns, [65, 66], 0, 1, by rw [AB_eq]; rfl, R4, by decide, by decide, by decide, by decide, fin 1 (by decide)⟩
    · exact ⟨p, _, k1, V.int 1, rfl, rfl, hL, at_of (j := 1) e rfl, r, a, ns, [65, 66], 0, 1, by rw [AB_eq]; rfl, R4, by decide, by decide, by decide, by decide, fin 1 (by decide)⟩
    · exact ⟨p, _, k1, V.int 3, rfl, rfl, hL, at_of (j := 2) e rfl, r, a, ns, [65, 66], 0, 3, by rw [AB_eq]; rfl, R4, by decide, by decide, by decide, by decide, fin 3 (by decide)⟩
abbrev sRules : Stmt := topS 118
theorem scRules : FnScope ["_law_row_here", "_law_letters_here", "_law_most", "_law_found", "_law_letter", "_law_k"] ["_law_row_here", "_law_letters_here", "_law_most"] (defScope sRules) := ⟨rfl, rfl, rfl, by decide +kernel, rfl, by decide +kernel, by decide +kernel⟩
def spRules (K : PySem.W.Frag) : Sp := fun vs H Q _ => ∃ (r a : Addr) (ns : List Int) (L : List Nat) (n : Nat), vs = [.ref r, .str (T L), .int n] ∧ RowAt K H r a ns ∧ 0 < L.length ∧ L.length ≤ 4 ∧ n ≤ 20 ∧
  ∀ (rs : List Rule) (R : Addr) (H' : Hp), (∀ ρ ∈ rs, RuleOk L ρ) → rs.length ≤ n + L.length → RulesAt H' R rs → Stp r H H' → RowAt K H' r a ns → Q (.ref R) H'
theorem ok_rules {f : Addr} {fd : FuncData} (F : Fun K "_law_rules" "_law_rules" sRules f fd) (DT : Df P w K mg base "_law_taken" ["_law_row_here", "_law_many"] 1 (spTaken K))
    (DR : Df P w K mg base "_law_rule" ["_law_row_here", "_law_letters_here"] 3 (spRule K)) (mr : mg "range" = none) (mt : mg "tuple" = none) :
    FnOk P w K mg base CX0 4 f fd ["_law_row_here", "_law_letters_here", "_law_most"] (spRules K) := by
  obtain ⟨fT, fdT, GT, kT, bT, mT⟩ := DT
  obtain ⟨fR, fdR, GR, kR, bR, mR⟩ := DR
  refine F.ok scRules (fun vs H Q E h => ?_) (fun cdv A outer s H vs Q E hr h => ?_)
  · obtain ⟨r, a, ns, L, n, rfl, _⟩ := h
    rfl
  · obtain ⟨r, a, ns, L, n, rfl, R, hl0, hl, hn, q⟩ := h
    have hr1 : Room 1 _ := hr.mono (by decide)
    refine ⟨_, pss_cons (ps_setLc (i := 3) (own := [("_law_k", 5)]) (g := gName 5) rfl scRules.nd rfl rfl (sw_true rfl rfl rfl (by decide +kernel))
        (pi_range1 rfl mr (pa_cons (pe_call GT hr1 (by rfl) mT kT bT .nil pass0 (pa_cons (pv 0) (pa_cons (pe_op op_add (pv 2) pe_int) pa_nil))) pa_nil))
        (blkOk_by (N := ["_law_row_here", "_law_letters_here", "_law_most", "_law_found", "_law_letter", "_law_k"]) (sc := defScope sRules) (by decide +kernel)) (fun _ _ _ _ _ => pg_name (i := 5) scRules.nd rfl (.inl rfl))
        (fun _ _ _ _ _ => pts_nil) (fun _ _ _ _ _ => pe_call GR hr (by rfl) mR kR bR .nil pass0 (pa_cons (pv 0) (pa_cons (pv 1) pa_nil))))
      (pss_cons (ps_if (pt_cmpR op_gt (pe_call GT hr1 (by rfl) mT kT bT .nil pass0 (pa_cons (pv 0) (pa_cons pe_int pa_nil))) pe_int (nomark _))
        (pss_one (ps_for PassesOwn.never rfl (pi_str (pv 1)) (pg_name (i := 4) scRules.nd rfl (.inl rfl))
          (pss_one (ps_expr (pe_bm PySem.F.plainAttrs_list PySem.F.slot_list_append PySem.F.type_list_append mt_append (pv 3)
            (pa_cons (pe_tup (pa_cons pe_str (pa_cons (pv 4) (pa_cons pe_str (pa_cons (pe_ix ix_list (pe_lst (pa_cons pe_str (pa_cons pe_str (pa_cons pe_str (pa_cons pe_str pa_nil))))) (pe_call GT hr1 (by rfl) mT kT bT .nil pass0 (pa_cons (pv 0) (pa_cons pe_int pa_nil))) (fun _ _ => rfl)) pa_nil))))) pa_nil)))))) pss_nil)
      (pss_one (ps_ret (pe_callTy call_tuple_of (by rfl) mt (by decide +kernel) (pa_cons (pv 3) pa_nil))))), ?_⟩
    refine ⟨_, rfl, _, rfl, _, _, rfl, rfl, r, a, ns, _, rfl, R, by omega, by omega, fun k1 H1 h0 h1 s1 R1 => ?_⟩
    refine ⟨k1, rfl, by omega, by omega, fun D hD => ?_⟩
    have nD := R1.nw hD
    refine lc_it (walk_range) (fun i H2 => ∃ (ts : List Addr) (rs : List Rule), H2 D = some (.lst (ts.map V.ref)) ∧ Paired (fun t ρ => H2 t = some (.tup (Rule.vs ρ))) ts rs ∧ rs.length = i ∧ (∀ ρ ∈ rs, RuleOk L ρ) ∧ Stp r H1 H2 ∧ RowIn H2 r a) ?_ (fun _ _ _ _ => trivial) ?_ ?_
    · exact ⟨[], [], upd_same, .nil, rfl, by simp, Stp.of (same_new hD _), R1.in.upd nD⟩
    · rintro i x H2 H2' hi' ⟨ts, rs, e1, e2, e3, e4, e5, e6⟩ ⟨rfl, rfl⟩
      refine ⟨rfl, ?_⟩
      refine ⟨_, rfl, _, rfl, r, a, ns, L, rfl, R1.of e5 e6, hl0, hl, fun ρ t H3 o1 o2 s2 R2 => ?_⟩
      have e1' := s2.one e1 nD
      have kt := (s2.kt e6).trans (kt_upd e1' (o := .lst (ts.map V.ref ++ [.ref t])))
      refine ⟨_, e1', ?_, ts ++ [t], rs ++ [ρ], ?_, ?_, by simp [e3], ?_, (e5.trans s2).put hD _, R2.in.upd nD⟩
      · rw [List.length_map, paired_len e2]
        exact small1000 (by omega)
      · rw [upd_same, List.map_append]
        rfl
      · exact paired_app (paired_mono (fun t ρ h => kt.1 _ _ h) e2) (.cons ((kt_upd e1').1 _ _ o2) .nil)
      · intro c hc
        rcases List.mem_append.mp hc with h | h
        · exact e4 c h
        · rw [List.mem_singleton.mp h]
          exact o1
    · rintro H2 ⟨ts, rs, e1, e2, e3, e4, e5, e6⟩
      have e3' : rs.length ≤ n := by omega
      refine ⟨_, rfl, r, a, ns, 4, rfl, R1.of e5 e6, by decide, by decide, fun k2 H3 h2 h3 s2 R2 => ?_⟩
      have e1' := s2.one e1 nD
      have e2' := paired_mono (fun t ρ h => (s2.kt e6).1 _ _ h) e2
      have e5' := e5.trans s2
      -- the end: tuple(found)
      have fin : ∀ (H4 : Hp) (ts : List Addr) (rs : List Rule), H4 D = some (.lst (ts.map V.ref)) → Paired (fun t ρ => H4 t = some (.tup (Rule.vs ρ))) ts rs → rs.length ≤ n + L.length → (∀ ρ ∈ rs, RuleOk L ρ) → Stp r H1 H4 → RowIn H4 r a → ∀ t, H4 t = none → Q (.ref t) (upd H4 t (.tup (ts.map V.ref))) := fun H4 ts rs f1 f2 f3 f4 f5 f6 t ht =>
        q rs t _ f4 f3 ⟨ts, upd_same, paired_mono (fun t ρ h => (kt_new ht).1 _ _ h) f2⟩ (s1.trans (f5.trans (Stp.of (same_new ht _)))) ((R1.of f5 f6).stp (same_new ht _))
      refine ⟨_, _, rfl, rfl, _, rfl, ite2 (fun _ => ?_) (fun _ => ?_)⟩
      · refine ⟨_, rfl, T L, rfl, for_it (walk_str) (fun i σ H4 => ∃ (ts : List Addr) (rs : List Rule) (v : Option V), σ = [some (.ref r), some (.str (T L)), some (.int n), some (.ref D), v, none] ∧ H4 D = some (.lst (ts.map V.ref)) ∧ Paired (fun t ρ => H4 t = some (.tup (Rule.vs ρ))) ts rs ∧ rs.length ≤ n + i ∧ (∀ ρ ∈ rs, RuleOk L ρ) ∧ Stp r H1 H4 ∧ RowIn H4 r a)
          ⟨ts, rs, _, rfl, e1', e2', by omega, e4, e5', R2.in⟩ (fun _ _ _ _ _ => trivial) ?_ ?_⟩
        · rintro i x σ H4 H4' hi' ⟨ts, rs, v, rfl, e1, e2, e3, e4, e5, e6⟩ ⟨rfl, c, hc, rfl⟩
          have hc := T_at hc
          have hi2 : i < L.length := by rw [T_size] at hi'; exact hi'
          have RA := R1.of e5 e6
          refine ⟨_, rfl, .inl ⟨rfl, _, .inl (.inl e1)⟩, _, rfl, (by show 4 ≤ sizeLine; decide), fun p hp => ?_⟩
          have sm := same_new hp (.lst [V.str "A", .str "B", .str "", .str "AB"])
          refine ⟨_, rfl, r, a, ns, 4, rfl, RA.stp sm, by decide, by decide, fun k3 H5 h4 h5 s3 R3 => ?_⟩
          have s3' := (Stp.of sm).trans s3
          have hL : SqL K H5 p [V.str "A", .str "B", .str "", .str "AB"] := .inl (.inl (s3 _ _ upd_same (RA.nw hp).symm))
          have f1 := s3'.one e1 nD
          have kt3 := s3'.kt e6
          have ec : c ∈ L := List.mem_of_getElem? hc
          have ok : ∀ so : List Nat, (∀ c ∈ so, 65 ≤ c ∧ c ≤ 90) → so.length ≤ 3 → RuleOk L ⟨[], [c], [], so⟩ := fun so g1 g2 =>
            ⟨List.nil_sublist _, fun d hd => by rw [List.mem_singleton.mp hd]; exact ec, Nat.le_refl _, by show 1 ≤ 2; decide, List.nil_sublist _, g1, g2⟩
          obtain ⟨so, g1, g2, g3⟩ : ∃ so : List Nat, (∀ c ∈ so, 65 ≤ c ∧ c ≤ 90) ∧ so.length ≤ 3 ∧ atI [V.str "A", .str "B", .str "", .str "AB"] k3 = some (V.str (T so)) := by
            have hk : k3 = 0 ∨ k3 = 1 ∨ k3 = 2 ∨ k3 = 3 := by omega
            rcases hk with e | e | e | e
            · exact ⟨[65], by decide, by decide, at_of (j := 0) e (by decide +kernel)⟩
            · exact ⟨[66], by decide, by decide, at_of (j := 1) e (by decide +kernel)⟩
            · exact ⟨[], by decide, by decide, at_of (j := 2) e (by decide +kernel)⟩
            · exact ⟨[65, 66], by decide, by decide, at_of (j := 3) e (by decide +kernel)⟩
          refine ⟨p, _, k3, V.str (T so), rfl, rfl, hL, g3, (by show 4 ≤ sizeLine; decide), fun t ht => ?_⟩
          have f2 := same_new ht (.tup [.str (Str.ofString ""), .str ⟨#[c]⟩, .str (Str.ofString ""), .str (T so)])
          have f3 := f2 _ _ f1
          have kt4 := (kt3.trans (KT.of f2)).trans (kt_upd f3 (o := .lst (ts.map V.ref ++ [.ref t])))
          refine ⟨D, _, _, rfl, rfl, f3, ?_, ts ++ [t], rs ++ [⟨[], [c], [], so⟩], _, rfl, ?_, ?_, ?_, ?_, ((e5.trans s3').trans (Stp.of f2)).put hD _, ?_⟩
          · rw [List.length_map, paired_len e2]
            exact small1000 (by omega)
          · rw [upd_same, List.map_append]
            rfl
          · refine paired_app (paired_mono (fun t ρ h => kt4.1 _ _ h) e2) (.cons ((kt_upd f3).1 _ _ ?_) .nil)
            rw [upd_same, show Str.ofString "" = T [] from nil_eq]
            rfl
          · rw [List.length_append]
            show rs.length + 1 ≤ n + (i + 1)
            omega
          · intro d hd
            rcases List.mem_append.mp hd with h | h
            · exact e4 d h
            · rw [List.mem_singleton.mp h]
              exact ok so g1 g2
          · exact (R3.stp f2).in.upd nD
        · rintro σ H4 ⟨ts, rs, v, rfl, e1, e2, e3, e4, e5, e6⟩
          rw [T_size] at e3
          exact ⟨_, rfl, D, _, rfl, .inl ⟨.inl (.inl e1), fin H4 ts rs e1 e2 e3 e4 e5 e6⟩⟩
      · exact ⟨_, rfl, D, _, rfl, .inl ⟨.inl (.inl e1'), fin H3 ts rs e1' e2' (by omega) e4 e5' R2.in⟩⟩
end
end Say
namespace Say
open PySem PySem.Spec PyProof.Rows L2 L2.DX
section
variable {P : Program} {w : World} {K : PySem.W.Frag} {mg : Str → Option Value} {base : Heap}
abbrev sLaw : Stmt := topS 124
abbrev nLaw : List Str := ["_law_script", "_law_row_here", "_law_turn", "_law_letters_here", "_law_bad", "_law_due", "_law_good", "_law_works", "_law_full", "_law_work", "_law_k"]
theorem scLaw : FnScope nLaw ["_law_script"] (defScope sLaw) := ⟨rfl, rfl, rfl, by decide +kernel, rfl, by decide +kernel, by decide +kernel⟩
theorem slot10 : ∀ σ : L2.St, (∀ v : V, σ[10]? = some (some v) → False) → ∀ (i : Nat) (v : V), nLaw[i]? = some ("_law_k" : Str) → σ[i]? = some (some v) → False := fun σ h i v e1 e2 => by
  obtain ⟨lt, he⟩ := List.getElem?_eq_some_iff.mp e1
  have : i = 10 := (by decide +kernel : ∀ i : Nat, i < 11 → nLaw[i]? = some ("_law_k" : Str) → i = 10) i lt e1
  subst this
  exact h v e2
def qLam : Str := (PySem.W.envX "law" (defScope sLaw) 0 0 (.ref 0) []).qual ++ "<lambda>"
abbrev eNone : Expr := .Constant .none 0 ⟨0, 0, 0, 0⟩
abbrev stB (i : Nat) : Stmt := match (defBody sLaw).getD 1 (.Pass ⟨0, 0, 0, 0⟩) with
  | .For _ _ b _ _ => b.getD i (.Pass ⟨0, 0, 0, 0⟩)
  | s => s
abbrev lamE0 : Expr := match stB 3 with
  | .Assign _ (.List es _) _ => es.getD 0 eNone
  | _ => eNone
abbrev lamE1 : Expr := match stB 3 with
  | .Assign _ (.List es _) _ => es.getD 1 eNone
  | _ => eNone
abbrev lamE2 : Expr := match stB 3 with
  | .Assign _ (.List es _) _ => es.getD 2 eNone
  | _ => eNone
abbrev lamE3 : Expr := match stB 3 with
  | .Assign _ (.List es _) _ => es.getD 3 eNone
  | _ => eNone
abbrev lamE4 : Expr := match stB 4 with
  | .Assign _ (.BinOp _ _ (.List es _) _) _ => es.getD 0 eNone
  | _ => eNone
abbrev lamE5 : Expr := match stB 4 with
  | .Assign _ (.BinOp _ _ (.List es _) _) _ => es.getD 1 eNone
  | _ => eNone
abbrev lamE6 : Expr := match stB 4 with
  | .Assign _ (.BinOp _ _ (.List es _) _) _ => es.getD 2 eNone
  | _ => eNone
abbrev lamE7 : Expr := match stB 5 with
  | .Assign _ (.BinOp _ _ (.List es _) _) _ => es.getD 0 eNone
  | _ => eNone
abbrev lamE8 : Expr := match stB 5 with
  | .Assign _ (.BinOp _ _ (.List es _) _) _ => es.getD 1 eNone
  | _ => eNone
abbrev lamE9 : Expr := match stB 5 with
  | .Assign _ (.BinOp _ _ (.List es _) _) _ => es.getD 2 eNone
  | _ => eNone
abbrev lamE10 : Expr := match stB 6 with
  | .Expr (.Call _ es _ _) _ => es.getD 0 eNone
  | _ => eNone
abbrev lamE11 : Expr := match stB 7 with
  | .Assign _ (.BinOp _ _ (.List es _) _) _ => es.getD 0 eNone
  | _ => eNone
abbrev lamE12 : Expr := match stB 7 with
  | .Assign _ (.BinOp _ _ (.List es _) _) _ => es.getD 1 eNone
  | _ => eNone
abbrev lamE13 : Expr := match stB 8 with
  | .If _ (.Assign _ (.BinOp _ _ (.List es _) _) _ :: _) _ _ => es.getD 0 eNone
  | _ => eNone
abbrev lamE14 : Expr := match stB 8 with
  | .If _ (.Assign _ (.BinOp _ _ (.List es _) _) _ :: _) _ _ => es.getD 1 eNone
  | _ => eNone
def spLawT (K : PySem.W.Frag) (Pt : Addr) : Sp := fun vs H Q _ => ∃ (a : Addr) (ns : List Int), vs = [.ref a] ∧ SqL K H a (ns.map V.int) ∧ ns.length ≤ 63 ∧ H Pt = some (.tbl #[]) ∧ ∀ H', Q (.bl true) H'
theorem ok_law {f cL Pt gW CB CU : Addr} {fdW : FuncData} {oc : Value} {od an : Option Addr} {osl : Array (Option Value)} {kV doc pm ct : Value}
    (lk : K.lookup f = some ⟨oc, od, .func (PySem.W.fnOf "law" "law" (defArgs sLaw) (defBody sLaw) (defScope sLaw) .none kV doc pm an (.ref cL) ct), osl⟩) (hcd : PySem.W.codeIn K (.ref cL) "law" = true)
    (TB : LamX.TabB base mg cL Pt) (B : Bn mg) (WB : WordC K mg CB 0) (WU : WordC K mg CU 4)
    (FW : Fun K "_law_word" "_law_word" sLWo gW fdW) (mW : mg "_law_word" = some (.ref gW))
    {fSd : Addr} {fdSd : FuncData} (GSd : FnOk P w K mg base (L2.CX P w) 6 fSd fdSd ["book", "word"] (spDoor K CB 1)) (kSd : PySem.W.keepIn K (.ref fSd) = true) (bSd : Binds K fdSd ["book", "word"] []) (mSd : mg "said" = some (.ref fSd))
    {fWk : Addr} {fdWk : FuncData} (GWk : FnOk P w K mg base (L2.CX P w) 6 fWk fdWk ["book", "word"] (spDoor K CB 1)) (kWk : PySem.W.keepIn K (.ref fWk) = true) (bWk : Binds K fdWk ["book", "word"] []) (mWk : mg "walk" = some (.ref fWk))
    {fPt : Addr} {fdPt : FuncData} (GPt : FnOk P w K mg base (L2.CX P w) 6 fPt fdPt ["one", "other"] (spDoor2 K CB)) (kPt : PySem.W.keepIn K (.ref fPt) = true) (bPt : Binds K fdPt ["one", "other"] []) (mPt : mg "parted" = some (.ref fPt))
    {fUs : Addr} {fdUs : FuncData} (GUs : FnOk P w K mg base (L2.CX P w) 6 fUs fdUs ["book", "number"] (spDoor K CB 1)) (kUs : PySem.W.keepIn K (.ref fUs) = true) (bUs : Binds K fdUs ["book", "number"] []) (mUs : mg "use" = some (.ref fUs))
    {fId : Addr} {fdId : FuncData} (GId : FnOk P w K mg base (L2.CX P w) 6 fId fdId ["book"] (spDoor K CB 0)) (kId : PySem.W.keepIn K (.ref fId) = true) (bId : Binds K fdId ["book"] []) (mId : mg "idle" = some (.ref fId))
    {fUn : Addr} {fdUn : FuncData} (GUn : FnOk P w K mg base (L2.CX P w) 6 fUn fdUn ["book"] (spDoor K CB 0)) (kUn : PySem.W.keepIn K (.ref fUn) = true) (bUn : Binds K fdUn ["book"] []) (mUn : mg "unsaid" = some (.ref fUn))
    {fFr : Addr} {fdFr : FuncData} (GFr : FnOk P w K mg base (L2.CX P w) 6 fFr fdFr ["book"] (spDoor K CB 0)) (kFr : PySem.W.keepIn K (.ref fFr) = true) (bFr : Binds K fdFr ["book"] []) (mFr : mg "free" = some (.ref fFr))
    {fNe : Addr} {fdNe : FuncData} (GNe : FnOk P w K mg base (L2.CX P w) 6 fNe fdNe ["book"] (spDoor K CB 0)) (kNe : PySem.W.keepIn K (.ref fNe) = true) (bNe : Binds K fdNe ["book"] []) (mNe : mg "needless" = some (.ref fNe))
    {fWt : Addr} {fdWt : FuncData} (GWt : FnOk P w K mg base (L2.CX P w) 6 fWt fdWt ["book"] (spDoor K CB 0)) (kWt : PySem.W.keepIn K (.ref fWt) = true) (bWt : Binds K fdWt ["book"] []) (mWt : mg "written" = some (.ref fWt))
    {fLe : Addr} {fdLe : FuncData} (GLe : FnOk P w K mg base (L2.CX P w) 6 fLe fdLe ["letters", "rules", "samples"] (spDoorL K CB)) (kLe : PySem.W.keepIn K (.ref fLe) = true) (bLe : Binds K fdLe ["letters", "rules", "samples"] []) (mLe : mg "least" = some (.ref fLe))
    {fBl : Addr} {fdBl : FuncData} (GBl : FnOk P w K mg base (L2.CX P w) 6 fBl fdBl ["letters", "rules", "samples"] (spDoorL K CB)) (kBl : PySem.W.keepIn K (.ref fBl) = true) (bBl : Binds K fdBl ["letters", "rules", "samples"] []) (mBl : mg "blamed" = some (.ref fBl))
    {fWr : Addr} {fdWr : FuncData} (FWr : FunD K "writings" "writings" (defArgs sDWr) (defBody sDWr) (defScope sDWr) [] [("long", .int 5)] fWr fdWr) (GWr : FnOk P w K mg base (L2.CX P w) 6 fWr fdWr ["book", "sounds", "long"] (spDoor K CB 2)) (mWr : mg "writings" = some (.ref fWr))
    {fSy CSy fDk CDk : Addr} {fdSy fdDk : FuncData} (MkSy : Mk K CSy fSy) (GSy : FnOk P w K mg base (L2.CX P w) 6 fSy fdSy ["self", "book"] (spInD K CB)) (bSy : Binds K fdSy ["self", "book"] []) (mCSy : mg "Sayer" = some (.ref CSy))
    (MkDk : Mk K CDk fDk) (GDk : FnOk P w K mg base (L2.CX P w) 6 fDk fdDk ["self", "book"] (spInD K CB)) (bDk : Binds K fdDk ["self", "book"] []) (mCDk : mg "Desk" = some (.ref CDk))
    (GSdG : FnOk P w K mg base (L2.CX P w) 6 fSd fdSd ["book", "word"] (spSaidR CU)) (GWkG : FnOk P w K mg base (L2.CX P w) 6 fWk fdWk ["book", "word"] (spWalkR CU))
    (DRo : Df P w K mg base "_law_row" ["_law_script"] 1 (spRow K)) (DLe : Df P w K mg base "_law_letters" ["_law_row_here"] 2 (spLetters K)) (DOd : Df P w K mg base "_law_odd_book" ["_law_row_here", "_law_letters_here", "_law_rules_here"] 2 (spOdd K))
    (DRu : Df P w K mg base "_law_rules" ["_law_row_here", "_law_letters_here", "_law_most"] 4 (spRules K)) (DAl : Df P w K mg base "_law_alike" psAl 4 (spAl K 4)) (DLS : Df P w K mg base "_law_said" ["_law_book", "_law_word_here"] 3 spLS) :
    FnOk P w K mg base CX0 10 f (PySem.W.fnOf "law" "law" (defArgs sLaw) (defBody sLaw) (defScope sLaw) .none kV doc pm an (.ref cL) ct) ["_law_script"] (spLawT K Pt) := by
  obtain ⟨fRo, fdRo, GRo, kRo, bRo, mRo⟩ := DRo
  obtain ⟨fLe0, fdLe0, GLe0, kLe0, bLe0, mLe0⟩ := DLe
  obtain ⟨fOd, fdOd, GOd, kOd, bOd, mOd⟩ := DOd
  obtain ⟨fRu, fdRu, GRu, kRu, bRu, mRu⟩ := DRu
  obtain ⟨fAl, fdAl, GAl, kAl, bAl, mAl⟩ := DAl
  obtain ⟨fLS, fdLS, GLS, kLS, bLS, mLS⟩ := DLS
  have kWr := FWr.kp
  have kb : KBn K fdWr ["book", "sounds", "long"] 2 ["long"] (fun us ws => us ++ ws) (fun vs zs => vs ++ zs) := by
    have : ∃ mv : List Value, KBn K fdWr ["book", "sounds", "long"] 2 ["long"] (fun us ws => us ++ ws) (fun vs zs => vs ++ zs) := by
      refine FWr.kbinds0 2 ["long"] [] (fun us mv ws => us ++ ws) (by simp) (by simp) (fun r1 r2 r3 => r1.append r3) (fun D doc pm an cdv ct us mv ws h1 h2 h3 => ?_)
      match us, h1, mv, h2, ws, h3 with
      | [a, b], _, [], _, [c], _ => rfl
    exact this.choose_spec
  obtain ⟨cS, mS, _⟩ := id WB.say
  obtain ⟨ocW, odW, kVW, docW, pmW, anW, cdvW, ctW, oslW, eW, lkW, hcW⟩ := FW.ex
  have kW := FW.kp
  have bW : Binds K fdW ["_law_work"] [] := FW.binds fun _ _ _ _ _ _ us hl => match us, hl with | [_], _ => rfl
  subst eW
  refine fn_of lk hcd scLaw (fun vs H Q E h => ?_) (fun A outer s H vs Q E hr h => ?_)
  · obtain ⟨a, ns, rfl, _⟩ := h
    rfl
  · obtain ⟨a, ns, rfl, hSc, hle, hPt, q⟩ := h
    suffices hh : ∃ t, PSs (cxOf CX0 P w K mg base nLaw "law" (defScope sLaw) f (.ref cL) A outer s H E).nox (defBody sLaw) t ∧ t { nx := fun _ H' => Q .non H', rt := Q } (start nLaw [.ref a]) H by
      obtain ⟨t, h1, h2⟩ := hh
      exact ⟨t, h1.nox, h2⟩
    have hr1 : Room 1 _ := hr.mono (by decide)
    have hr2 : Room 2 _ := hr.mono (by decide)
    have hr3 : Room 3 _ := hr.mono (by decide)
    have hr4 : Room 4 _ := hr.mono (by decide)
    have hr7 : Room 6 _ := hr.mono (by decide)
    have hr8 : Room 8 _ := hr.mono (by decide)
    have hr9 : Room 9 _ := hr
    have hu := hu_of hr
    -- the lambdas
    obtain ⟨LS, hCK, w0, w1, w2, w3, w4, w5, w6, w7, w8, w9, w10, w11, w12, w13, w14⟩ : ∃ LS : List ((Addr → Hp → Prop) × (XK → TE)), (∀ l ∈ LS, LamV.CallKs (cxOf CX0 P w K mg base nLaw "law" (defScope sLaw) f (.ref cL) A outer s H E).nox 7 (fun σ => ∀ v : V, σ[10]? = some (some v) → False) l.1 l.2) ∧ (∃ t, (LamV.IsPlain (cxOf CX0 P w K mg base nLaw "law" (defScope sLaw) f (.ref cL) A outer s H E).nox (lamP lamE0) (lamB lamE0) (lamO lamE0), t) ∈ LS ∧ W1 K CB t) ∧ (∃ t, (LamV.IsDflt (cxOf CX0 P w K mg base nLaw "law" (defScope sLaw) f (.ref cL) A outer s H E).nox (lamP lamE1) (lamB lamE1) (lamO lamE1), t) ∈ LS ∧ W1 K CB t) ∧ (∃ t, (LamV.IsDflt (cxOf CX0 P w K mg base nLaw "law" (defScope sLaw) f (.ref cL) A outer s H E).nox (lamP lamE2) (lamB lamE2) (lamO lamE2), t) ∈ LS ∧ W1 K CB t) ∧ (∃ t, (LamV.IsDflt (cxOf CX0 P w K mg base nLaw "law" (defScope sLaw) f (.ref cL) A outer s H E).nox (lamP lamE3) (lamB lamE3) (lamO lamE3), t) ∈ LS ∧ W1 K CB t) ∧ (∃ t, (LamV.IsDflt (cxOf CX0 P w K mg base nLaw "law" (defScope sLaw) f (.ref cL) A outer s H E).nox (lamP lamE4) (lamB lamE4) (lamO lamE4), t) ∈ LS ∧ W1 K CB t) ∧ (∃ t, (LamV.IsDflt (cxOf CX0 P w K mg base nLaw "law" (defScope sLaw) f (.ref cL) A outer s H E).nox (lamP lamE5) (lamB lamE5) (lamO lamE5), t) ∈ LS ∧ W1 K CB t) ∧ (∃ t, (LamV.IsDflt (cxOf CX0 P w K mg base nLaw "law" (defScope sLaw) f (.ref cL) A outer s H E).nox (lamP lamE6) (lamB lamE6) (lamO lamE6), t) ∈ LS ∧ W1 K CB t) ∧ (∃ t, (LamV.IsDflt (cxOf CX0 P w K mg base nLaw "law" (defScope sLaw) f (.ref cL) A outer s H E).nox (lamP lamE7) (lamB lamE7) (lamO lamE7), t) ∈ LS ∧ W1 K CB t) ∧ (∃ t, (LamV.IsDflt (cxOf CX0 P w K mg base nLaw "law" (defScope sLaw) f (.ref cL) A outer s H E).nox (lamP lamE8) (lamB lamE8) (lamO lamE8), t) ∈ LS ∧ W1 K CB t) ∧ (∃ t, (LamV.IsDflt (cxOf CX0 P w K mg base nLaw "law" (defScope sLaw) f (.ref cL) A outer s H E).nox (lamP lamE9) (lamB lamE9) (lamO lamE9), t) ∈ LS ∧ W1 K CB t) ∧ (∃ t, (LamV.IsDflt (cxOf CX0 P w K mg base nLaw "law" (defScope sLaw) f (.ref cL) A outer s H E).nox (lamP lamE10) (lamB lamE10) (lamO lamE10), t) ∈ LS ∧ W1 K CB t) ∧ (∃ t, (LamV.IsDflt (cxOf CX0 P w K mg base nLaw "law" (defScope sLaw) f (.ref cL) A outer s H E).nox (lamP lamE11) (lamB lamE11) (lamO lamE11), t) ∈ LS ∧ W1 K CB t) ∧ (∃ t, (LamV.IsDflt (cxOf CX0 P w K mg base nLaw "law" (defScope sLaw) f (.ref cL) A outer s H E).nox (lamP lamE12) (lamB lamE12) (lamO lamE12), t) ∈ LS ∧ W1 K CB t) ∧ (∃ t, (LamV.IsDflt (cxOf CX0 P w K mg base nLaw "law" (defScope sLaw) f (.ref cL) A outer s H E).nox (lamP lamE13) (lamB lamE13) (lamO lamE13), t) ∈ LS ∧ W2 K CB t) ∧ (∃ t, (LamV.IsDflt (cxOf CX0 P w K mg base nLaw "law" (defScope sLaw) f (.ref cL) A outer s H E).nox (lamP lamE14) (lamB lamE14) (lamO lamE14), t) ∈ LS ∧ W2 K CB t) := by
      have c0 : LamV.CallKs (cxOf CX0 P w K mg base nLaw "law" (defScope sLaw) f (.ref cL) A outer s H E).nox 7 (fun σ => ∀ v : V, σ[10]? = some (some v) → False) (LamV.IsPlain (cxOf CX0 P w K mg base nLaw "law" (defScope sLaw) f (.ref cL) A outer s H E).nox (lamP lamE0) (lamB lamE0) (lamO lamE0)) (fun E => tCall (spDoor K CB 1) [] E (tCons (tVar 4) (tCons (tC (.int 5)) tNil))) := by
        exact (LamV.CallK.to (LamV.callk_plain (t := fun E => tCall (spDoor K CB 1) [] E (tCons (tVar 4) (tCons (tC (.int 5)) tNil))) (LamX.lamS_by (by show LamX.lamSB (defScope sLaw) _ = true; decide +kernel)) (fun _ _ _ _ _ => rfl) (fun A' outer' s' H' E' f' c' hr' => pe_call (E := E') GSd (hr'.mono (by decide)) (by rfl) mSd kSd bSd .nil (passes_call (W := fun cls d _ H => E' cls d H) (takes_of rfl rfl rfl rfl) (fun _ _ _ _ h => h)) (pa_cons (pv 4) (pa_cons pe_int pa_nil)))))
      have c1 : LamV.CallKs (cxOf CX0 P w K mg base nLaw "law" (defScope sLaw) f (.ref cL) A outer s H E).nox 7 (fun σ => ∀ v : V, σ[10]? = some (some v) → False) (LamV.IsDflt (cxOf CX0 P w K mg base nLaw "law" (defScope sLaw) f (.ref cL) A outer s H E).nox (lamP lamE1) (lamB lamE1) (lamO lamE1)) (fun E => tCall (spDoor K CB 1) [] E (tCons (tVar 4) (tCons (tC (.int 5)) tNil))) := by
        exact (LamV.CallK.to (LamV.callk_dflt (a := "_law_a") (t := fun E => tCall (spDoor K CB 1) [] E (tCons (tVar 4) (tCons (tC (.int 5)) tNil))) (LamD.par_by (by show LamD.parB nLaw (defScope sLaw) _ _ = true; decide +kernel)) (fun _ _ _ _ _ _ _ _ _ hD => BindsTo.of_defaults rfl hD rfl rfl rfl) (fun A' outer' s' H' E' f' c' hr' => pe_call (E := E') GWk (hr'.mono (by decide)) (by rfl) mWk kWk bWk .nil (passes_call (W := fun cls d _ H => E' cls d H) (takes_of rfl rfl rfl rfl) (fun _ _ _ _ h => h)) (pa_cons (pv 4) (pa_cons pe_int pa_nil)))))
      have c2 : LamV.CallKs (cxOf CX0 P w K mg base nLaw "law" (defScope sLaw) f (.ref cL) A outer s H E).nox 7 (fun σ => ∀ v : V, σ[10]? = some (some v) → False) (LamV.IsDflt (cxOf CX0 P w K mg base nLaw "law" (defScope sLaw) f (.ref cL) A outer s H E).nox (lamP lamE2) (lamB lamE2) (lamO lamE2)) (fun E => tMake CSy (spInD K CB) [] E (tCons (tVar 4) tNil)) := by
        exact (LamV.CallK.to (LamV.callk_dflt (a := "_law_b") (t := fun E => tMake CSy (spInD K CB) [] E (tCons (tVar 4) tNil)) (LamD.par_by (by show LamD.parB nLaw (defScope sLaw) _ _ = true; decide +kernel)) (fun _ _ _ _ _ _ _ _ _ hD => BindsTo.of_defaults rfl hD rfl rfl rfl) (fun A' outer' s' H' E' f' c' hr' => pe_make (E := E') MkSy GSy hr' (by rfl) mCSy bSy .nil (passes_call (W := fun cls d _ H => E' cls d H) (takes_of rfl rfl rfl rfl) (fun _ _ _ _ h => h)) (pa_cons (pv 4) pa_nil))))
      have c3 : LamV.CallKs (cxOf CX0 P w K mg base nLaw "law" (defScope sLaw) f (.ref cL) A outer s H E).nox 7 (fun σ => ∀ v : V, σ[10]? = some (some v) → False) (LamV.IsDflt (cxOf CX0 P w K mg base nLaw "law" (defScope sLaw) f (.ref cL) A outer s H E).nox (lamP lamE3) (lamB lamE3) (lamO lamE3)) (fun E => tCall (spDoor2 K CB) [] E (tCons (tVar 4) (tCons (tC (.int 5)) tNil))) := by
        exact (LamV.CallK.to (LamV.callk_dflt (a := "_law_c") (t := fun E => tCall (spDoor2 K CB) [] E (tCons (tVar 4) (tCons (tC (.int 5)) tNil))) (LamD.par_by (by show LamD.parB nLaw (defScope sLaw) _ _ = true; decide +kernel)) (fun _ _ _ _ _ _ _ _ _ hD => BindsTo.of_defaults rfl hD rfl rfl rfl) (fun A' outer' s' H' E' f' c' hr' => pe_call (E := E') GPt (hr'.mono (by decide)) (by rfl) mPt kPt bPt .nil (passes_call (W := fun cls d _ H => E' cls d H) (takes_of rfl rfl rfl rfl) (fun _ _ _ _ h => h)) (pa_cons (pv 4) (pa_cons pe_int pa_nil)))))
      have c4 : LamV.CallKs (cxOf CX0 P w K mg base nLaw "law" (defScope sLaw) f (.ref cL) A outer s H E).nox 7 (fun σ => ∀ v : V, σ[10]? = some (some v) → False) (LamV.IsDflt (cxOf CX0 P w K mg base nLaw "law" (defScope sLaw) f (.ref cL) A outer s H E).nox (lamP lamE4) (lamB lamE4) (lamO lamE4)) (fun E => tCall (spDoor2 K CB) [] E (tCons (tVar 6) (tCons (tVar 4) tNil))) := by
        exact (LamV.CallK.to (LamV.callk_dflt (a := "_law_e") (t := fun E => tCall (spDoor2 K CB) [] E (tCons (tVar 6) (tCons (tVar 4) tNil))) (LamD.par_by (by show LamD.parB nLaw (defScope sLaw) _ _ = true; decide +kernel)) (fun _ _ _ _ _ _ _ _ _ hD => BindsTo.of_defaults rfl hD rfl rfl rfl) (fun A' outer' s' H' E' f' c' hr' => pe_call (E := E') GPt (hr'.mono (by decide)) (by rfl) mPt kPt bPt .nil (passes_call (W := fun cls d _ H => E' cls d H) (takes_of rfl rfl rfl rfl) (fun _ _ _ _ h => h)) (pa_cons (pv 6) (pa_cons (pv 4) pa_nil)))))
      have c5 : LamV.CallKs (cxOf CX0 P w K mg base nLaw "law" (defScope sLaw) f (.ref cL) A outer s H E).nox 7 (fun σ => ∀ v : V, σ[10]? = some (some v) → False) (LamV.IsDflt (cxOf CX0 P w K mg base nLaw "law" (defScope sLaw) f (.ref cL) A outer s H E).nox (lamP lamE5) (lamB lamE5) (lamO lamE5)) (fun E => tCall (spDoor K CB 1) [] E (tCons (tVar 4) (tCons (tC (.int 99)) tNil))) := by
        exact (LamV.CallK.to (LamV.callk_dflt (a := "_law_f") (t := fun E => tCall (spDoor K CB 1) [] E (tCons (tVar 4) (tCons (tC (.int 99)) tNil))) (LamD.par_by (by show LamD.parB nLaw (defScope sLaw) _ _ = true; decide +kernel)) (fun _ _ _ _ _ _ _ _ _ hD => BindsTo.of_defaults rfl hD rfl rfl rfl) (fun A' outer' s' H' E' f' c' hr' => pe_call (E := E') GUs (hr'.mono (by decide)) (by rfl) mUs kUs bUs .nil (passes_call (W := fun cls d _ H => E' cls d H) (takes_of rfl rfl rfl rfl) (fun _ _ _ _ h => h)) (pa_cons (pv 4) (pa_cons pe_int pa_nil)))))
      have c6 : LamV.CallKs (cxOf CX0 P w K mg base nLaw "law" (defScope sLaw) f (.ref cL) A outer s H E).nox 7 (fun σ => ∀ v : V, σ[10]? = some (some v) → False) (LamV.IsDflt (cxOf CX0 P w K mg base nLaw "law" (defScope sLaw) f (.ref cL) A outer s H E).nox (lamP lamE6) (lamB lamE6) (lamO lamE6)) (fun E => tCall (spDoor K CB 0) [] E (tCons (tVar 4) tNil)) := by
        exact (LamV.CallK.to (LamV.callk_dflt (a := "_law_g") (t := fun E => tCall (spDoor K CB 0) [] E (tCons (tVar 4) tNil)) (LamD.par_by (by show LamD.parB nLaw (defScope sLaw) _ _ = true; decide +kernel)) (fun _ _ _ _ _ _ _ _ _ hD => BindsTo.of_defaults rfl hD rfl rfl rfl) (fun A' outer' s' H' E' f' c' hr' => pe_call (E := E') GId (hr'.mono (by decide)) (by rfl) mId kId bId .nil (passes_call (W := fun cls d _ H => E' cls d H) (takes_of rfl rfl rfl rfl) (fun _ _ _ _ h => h)) (pa_cons (pv 4) pa_nil))))
      have c7 : LamV.CallKs (cxOf CX0 P w K mg base nLaw "law" (defScope sLaw) f (.ref cL) A outer s H E).nox 7 (fun σ => ∀ v : V, σ[10]? = some (some v) → False) (LamV.IsDflt (cxOf CX0 P w K mg base nLaw "law" (defScope sLaw) f (.ref cL) A outer s H E).nox (lamP lamE7) (lamB lamE7) (lamO lamE7)) (fun E => tCall (spDoor K CB 0) [] E (tCons (tVar 4) tNil)) := by
        exact (LamV.CallK.to (LamV.callk_dflt (a := "_law_h") (t := fun E => tCall (spDoor K CB 0) [] E (tCons (tVar 4) tNil)) (LamD.par_by (by show LamD.parB nLaw (defScope sLaw) _ _ = true; decide +kernel)) (fun _ _ _ _ _ _ _ _ _ hD => BindsTo.of_defaults rfl hD rfl rfl rfl) (fun A' outer' s' H' E' f' c' hr' => pe_call (E := E') GUn (hr'.mono (by decide)) (by rfl) mUn kUn bUn .nil (passes_call (W := fun cls d _ H => E' cls d H) (takes_of rfl rfl rfl rfl) (fun _ _ _ _ h => h)) (pa_cons (pv 4) pa_nil))))
      have c8 : LamV.CallKs (cxOf CX0 P w K mg base nLaw "law" (defScope sLaw) f (.ref cL) A outer s H E).nox 7 (fun σ => ∀ v : V, σ[10]? = some (some v) → False) (LamV.IsDflt (cxOf CX0 P w K mg base nLaw "law" (defScope sLaw) f (.ref cL) A outer s H E).nox (lamP lamE8) (lamB lamE8) (lamO lamE8)) (fun E => tCall (spDoor K CB 0) [] E (tCons (tVar 4) tNil)) := by
        exact (LamV.CallK.to (LamV.callk_dflt (a := "_law_i") (t := fun E => tCall (spDoor K CB 0) [] E (tCons (tVar 4) tNil)) (LamD.par_by (by show LamD.parB nLaw (defScope sLaw) _ _ = true; decide +kernel)) (fun _ _ _ _ _ _ _ _ _ hD => BindsTo.of_defaults rfl hD rfl rfl rfl) (fun A' outer' s' H' E' f' c' hr' => pe_call (E := E') GFr (hr'.mono (by decide)) (by rfl) mFr kFr bFr .nil (passes_call (W := fun cls d _ H => E' cls d H) (takes_of rfl rfl rfl rfl) (fun _ _ _ _ h => h)) (pa_cons (pv 4) pa_nil))))
      have c9 : LamV.CallKs (cxOf CX0 P w K mg base nLaw "law" (defScope sLaw) f (.ref cL) A outer s H E).nox 7 (fun σ => ∀ v : V, σ[10]? = some (some v) → False) (LamV.IsDflt (cxOf CX0 P w K mg base nLaw "law" (defScope sLaw) f (.ref cL) A outer s H E).nox (lamP lamE9) (lamB lamE9) (lamO lamE9)) (fun E => tCall (spDoor K CB 0) [] E (tCons (tVar 4) tNil)) := by
        exact (LamV.CallK.to (LamV.callk_dflt (a := "_law_j") (t := fun E => tCall (spDoor K CB 0) [] E (tCons (tVar 4) tNil)) (LamD.par_by (by show LamD.parB nLaw (defScope sLaw) _ _ = true; decide +kernel)) (fun _ _ _ _ _ _ _ _ _ hD => BindsTo.of_defaults rfl hD rfl rfl rfl) (fun A' outer' s' H' E' f' c' hr' => pe_call (E := E') GNe (hr'.mono (by decide)) (by rfl) mNe kNe bNe .nil (passes_call (W := fun cls d _ H => E' cls d H) (takes_of rfl rfl rfl rfl) (fun _ _ _ _ h => h)) (pa_cons (pv 4) pa_nil))))
      have c10 : LamV.CallKs (cxOf CX0 P w K mg base nLaw "law" (defScope sLaw) f (.ref cL) A outer s H E).nox 7 (fun σ => ∀ v : V, σ[10]? = some (some v) → False) (LamV.IsDflt (cxOf CX0 P w K mg base nLaw "law" (defScope sLaw) f (.ref cL) A outer s H E).nox (lamP lamE10) (lamB lamE10) (lamO lamE10)) (fun E => tMake CDk (spInD K CB) [] E (tCons (tVar 4) tNil)) := by
        exact (LamV.callks_dflt (N' := nLaw.take 10) (φ := fun σ => ∀ v : V, σ[10]? = some (some v) → False) (a := "_law_k") (t := fun E => tMake CDk (spInD K CB) [] E (tCons (tVar 4) tNil)) (LamD.par_by (by show LamD.parB (nLaw.take 10) (defScope sLaw) _ _ = true; decide +kernel)) slot10 (fun _ _ _ _ _ _ _ _ _ hD => BindsTo.of_defaults rfl hD rfl rfl rfl) (fun A' outer' s' H' E' f' c' hr' => pe_make (E := E') MkDk GDk hr' (by rfl) mCDk bDk .nil (passes_call (W := fun cls d _ H => E' cls d H) (takes_of rfl rfl rfl rfl) (fun _ _ _ _ h => h)) (pa_cons (pv 4) pa_nil)))
      have c11 : LamV.CallKs (cxOf CX0 P w K mg base nLaw "law" (defScope sLaw) f (.ref cL) A outer s H E).nox 7 (fun σ => ∀ v : V, σ[10]? = some (some v) → False) (LamV.IsDflt (cxOf CX0 P w K mg base nLaw "law" (defScope sLaw) f (.ref cL) A outer s H E).nox (lamP lamE11) (lamB lamE11) (lamO lamE11)) (fun E => tCallN 2 (["long"] : List Str).length (spDoor K CB 2) (fun vs zs => vs ++ zs) E (tCons (tVar 4) (tCons (tC (.int 5)) tNil)) (tCons (tC (.int 99)) tNil)) := by
        exact (LamV.CallK.to (LamV.callk_dflt (a := "_law_l") (t := fun E => tCallN 2 (["long"] : List Str).length (spDoor K CB 2) (fun vs zs => vs ++ zs) E (tCons (tVar 4) (tCons (tC (.int 5)) tNil)) (tCons (tC (.int 99)) tNil)) (LamD.par_by (by show LamD.parB nLaw (defScope sLaw) _ _ = true; decide +kernel)) (fun _ _ _ _ _ _ _ _ _ hD => BindsTo.of_defaults rfl hD rfl rfl rfl) (fun A' outer' s' H' E' f' c' hr' => pe_callN (E := E') GWr (hr'.mono (by decide)) (by rfl) mWr kWr kb (passes_call (W := fun cls d _ H => E' cls d H) (takes_of rfl rfl rfl rfl) (fun _ _ _ _ h => h)) (pa_cons (pv 4) (pa_cons pe_int pa_nil)) (pk_cons pe_int pk_nil))))
      have c12 : LamV.CallKs (cxOf CX0 P w K mg base nLaw "law" (defScope sLaw) f (.ref cL) A outer s H E).nox 7 (fun σ => ∀ v : V, σ[10]? = some (some v) → False) (LamV.IsDflt (cxOf CX0 P w K mg base nLaw "law" (defScope sLaw) f (.ref cL) A outer s H E).nox (lamP lamE12) (lamB lamE12) (lamO lamE12)) (fun E => tCall (spDoor K CB 0) [] E (tCons (tVar 4) tNil)) := by
        exact (LamV.CallK.to (LamV.callk_dflt (a := "_law_m") (t := fun E => tCall (spDoor K CB 0) [] E (tCons (tVar 4) tNil)) (LamD.par_by (by show LamD.parB nLaw (defScope sLaw) _ _ = true; decide +kernel)) (fun _ _ _ _ _ _ _ _ _ hD => BindsTo.of_defaults rfl hD rfl rfl rfl) (fun A' outer' s' H' E' f' c' hr' => pe_call (E := E') GWt (hr'.mono (by decide)) (by rfl) mWt kWt bWt .nil (passes_call (W := fun cls d _ H => E' cls d H) (takes_of rfl rfl rfl rfl) (fun _ _ _ _ h => h)) (pa_cons (pv 4) pa_nil))))
      have c13 : LamV.CallKs (cxOf CX0 P w K mg base nLaw "law" (defScope sLaw) f (.ref cL) A outer s H E).nox 7 (fun σ => ∀ v : V, σ[10]? = some (some v) → False) (LamV.IsDflt (cxOf CX0 P w K mg base nLaw "law" (defScope sLaw) f (.ref cL) A outer s H E).nox (lamP lamE13) (lamB lamE13) (lamO lamE13)) (fun E => tCall (spDoorL K CB) [] E (tCons (tOp (rIxT K) (tVar 4) (tC (.int 0))) (tCons (tOp (rIxT K) (tVar 4) (tC (.int 1))) (tCons (tC (.int 5)) tNil)))) := by
        exact (LamV.CallK.to (LamV.callk_dflt (a := "_law_n") (t := fun E => tCall (spDoorL K CB) [] E (tCons (tOp (rIxT K) (tVar 4) (tC (.int 0))) (tCons (tOp (rIxT K) (tVar 4) (tC (.int 1))) (tCons (tC (.int 5)) tNil)))) (LamD.par_by (by show LamD.parB nLaw (defScope sLaw) _ _ = true; decide +kernel)) (fun _ _ _ _ _ _ _ _ _ hD => BindsTo.of_defaults rfl hD rfl rfl rfl) (fun A' outer' s' H' E' f' c' hr' => pe_call (E := E') GLe (hr'.mono (by decide)) (by rfl) mLe kLe bLe .nil (passes_call (W := fun cls d _ H => E' cls d H) (takes_of rfl rfl rfl rfl) (fun _ _ _ _ h => h)) (pa_cons (pe_ix ix_tup (pv 4) pe_int (fun _ _ => rfl)) (pa_cons (pe_ix ix_tup (pv 4) pe_int (fun _ _ => rfl)) (pa_cons pe_int pa_nil))))))
      have c14 : LamV.CallKs (cxOf CX0 P w K mg base nLaw "law" (defScope sLaw) f (.ref cL) A outer s H E).nox 7 (fun σ => ∀ v : V, σ[10]? = some (some v) → False) (LamV.IsDflt (cxOf CX0 P w K mg base nLaw "law" (defScope sLaw) f (.ref cL) A outer s H E).nox (lamP lamE14) (lamB lamE14) (lamO lamE14)) (fun E => tCall (spDoorL K CB) [] E (tCons (tOp (rIxT K) (tVar 4) (tC (.int 0))) (tCons (tOp (rIxT K) (tVar 4) (tC (.int 1))) (tCons (tC (.int 5)) tNil)))) := by
        exact (LamV.CallK.to (LamV.callk_dflt (a := "_law_o") (t := fun E => tCall (spDoorL K CB) [] E (tCons (tOp (rIxT K) (tVar 4) (tC (.int 0))) (tCons (tOp (rIxT K) (tVar 4) (tC (.int 1))) (tCons (tC (.int 5)) tNil)))) (LamD.par_by (by show LamD.parB nLaw (defScope sLaw) _ _ = true; decide +kernel)) (fun _ _ _ _ _ _ _ _ _ hD => BindsTo.of_defaults rfl hD rfl rfl rfl) (fun A' outer' s' H' E' f' c' hr' => pe_call (E := E') GBl (hr'.mono (by decide)) (by rfl) mBl kBl bBl .nil (passes_call (W := fun cls d _ H => E' cls d H) (takes_of rfl rfl rfl rfl) (fun _ _ _ _ h => h)) (pa_cons (pe_ix ix_tup (pv 4) pe_int (fun _ _ => rfl)) (pa_cons (pe_ix ix_tup (pv 4) pe_int (fun _ _ => rfl)) (pa_cons pe_int pa_nil))))))
      refine ⟨[(LamV.IsPlain (cxOf CX0 P w K mg base nLaw "law" (defScope sLaw) f (.ref cL) A outer s H E).nox (lamP lamE0) (lamB lamE0) (lamO lamE0), fun E => tCall (spDoor K CB 1) [] E (tCons (tVar 4) (tCons (tC (.int 5)) tNil))),
        (LamV.IsDflt (cxOf CX0 P w K mg base nLaw "law" (defScope sLaw) f (.ref cL) A outer s H E).nox (lamP lamE1) (lamB lamE1) (lamO lamE1), fun E => tCall (spDoor K CB 1) [] E (tCons (tVar 4) (tCons (tC (.int 5)) tNil))),
        (LamV.IsDflt (cxOf CX0 P w K mg base nLaw "law" (defScope sLaw) f (.ref cL) A outer s H E).nox (lamP lamE2) (lamB lamE2) (lamO lamE2), fun E => tMake CSy (spInD K CB) [] E (tCons (tVar 4) tNil)),
        (LamV.IsDflt (cxOf CX0 P w K mg base nLaw "law" (defScope sLaw) f (.ref cL) A outer s H E).nox (lamP lamE3) (lamB lamE3) (lamO lamE3), fun E => tCall (spDoor2 K CB) [] E (tCons (tVar 4) (tCons (tC (.int 5)) tNil))),
        (LamV.IsDflt (cxOf CX0 P w K mg base nLaw "law" (defScope sLaw) f (.ref cL) A outer s H E).nox (lamP lamE4) (lamB lamE4) (lamO lamE4), fun E => tCall (spDoor2 K CB) [] E (tCons (tVar 6) (tCons (tVar 4) tNil))),
        (LamV.IsDflt (cxOf CX0 P w K mg base nLaw "law" (defScope sLaw) f (.ref cL) A outer s H E).nox (lamP lamE5) (lamB lamE5) (lamO lamE5), fun E => tCall (spDoor K CB 1) [] E (tCons (tVar 4) (tCons (tC (.int 99)) tNil))),
        (LamV.IsDflt (cxOf CX0 P w K mg base nLaw "law" (defScope sLaw) f (.ref cL) A outer s H E).nox (lamP lamE6) (lamB lamE6) (lamO lamE6), fun E => tCall (spDoor K CB 0) [] E (tCons (tVar 4) tNil)),
        (LamV.IsDflt (cxOf CX0 P w K mg base nLaw "law" (defScope sLaw) f (.ref cL) A outer s H E).nox (lamP lamE7) (lamB lamE7) (lamO lamE7), fun E => tCall (spDoor K CB 0) [] E (tCons (tVar 4) tNil)),
        (LamV.IsDflt (cxOf CX0 P w K mg base nLaw "law" (defScope sLaw) f (.ref cL) A outer s H E).nox (lamP lamE8) (lamB lamE8) (lamO lamE8), fun E => tCall (spDoor K CB 0) [] E (tCons (tVar 4) tNil)),
        (LamV.IsDflt (cxOf CX0 P w K mg base nLaw "law" (defScope sLaw) f (.ref cL) A outer s H E).nox (lamP lamE9) (lamB lamE9) (lamO lamE9), fun E => tCall (spDoor K CB 0) [] E (tCons (tVar 4) tNil)),
        (LamV.IsDflt (cxOf CX0 P w K mg base nLaw "law" (defScope sLaw) f (.ref cL) A outer s H E).nox (lamP lamE10) (lamB lamE10) (lamO lamE10), fun E => tMake CDk (spInD K CB) [] E (tCons (tVar 4) tNil)),
        (LamV.IsDflt (cxOf CX0 P w K mg base nLaw "law" (defScope sLaw) f (.ref cL) A outer s H E).nox (lamP lamE11) (lamB lamE11) (lamO lamE11), fun E => tCallN 2 (["long"] : List Str).length (spDoor K CB 2) (fun vs zs => vs ++ zs) E (tCons (tVar 4) (tCons (tC (.int 5)) tNil)) (tCons (tC (.int 99)) tNil)),
        (LamV.IsDflt (cxOf CX0 P w K mg base nLaw "law" (defScope sLaw) f (.ref cL) A outer s H E).nox (lamP lamE12) (lamB lamE12) (lamO lamE12), fun E => tCall (spDoor K CB 0) [] E (tCons (tVar 4) tNil)),
        (LamV.IsDflt (cxOf CX0 P w K mg base nLaw "law" (defScope sLaw) f (.ref cL) A outer s H E).nox (lamP lamE13) (lamB lamE13) (lamO lamE13), fun E => tCall (spDoorL K CB) [] E (tCons (tOp (rIxT K) (tVar 4) (tC (.int 0))) (tCons (tOp (rIxT K) (tVar 4) (tC (.int 1))) (tCons (tC (.int 5)) tNil)))),
        (LamV.IsDflt (cxOf CX0 P w K mg base nLaw "law" (defScope sLaw) f (.ref cL) A outer s H E).nox (lamP lamE14) (lamB lamE14) (lamO lamE14), fun E => tCall (spDoorL K CB) [] E (tCons (tOp (rIxT K) (tVar 4) (tC (.int 0))) (tCons (tOp (rIxT K) (tVar 4) (tC (.int 1))) (tCons (tC (.int 5)) tNil))))], (LamV.alls_cons c0 (LamV.alls_cons c1 (LamV.alls_cons c2 (LamV.alls_cons c3 (LamV.alls_cons c4 (LamV.alls_cons c5 (LamV.alls_cons c6 (LamV.alls_cons c7 (LamV.alls_cons c8 (LamV.alls_cons c9 (LamV.alls_cons c10 (LamV.alls_cons c11 (LamV.alls_cons c12 (LamV.alls_cons c13 (LamV.alls_cons c14 LamV.alls_nil))))))))))))))), ⟨_, List.mem_cons_self .., (w_door1 5)⟩, ⟨_, List.mem_cons_of_mem _ (List.mem_cons_self ..), (w_door1 5)⟩, ⟨_, List.mem_cons_of_mem _ (List.mem_cons_of_mem _ (List.mem_cons_self ..)), w_in⟩, ⟨_, List.mem_cons_of_mem _ (List.mem_cons_of_mem _ (List.mem_cons_of_mem _ (List.mem_cons_self ..))), (w_ptb 5)⟩, ⟨_, List.mem_cons_of_mem _ (List.mem_cons_of_mem _ (List.mem_cons_of_mem _ (List.mem_cons_of_mem _ (List.mem_cons_self ..)))), w_ptg⟩, ⟨_, List.mem_cons_of_mem _ (List.mem_cons_of_mem _ (List.mem_cons_of_mem _ (List.mem_cons_of_mem _ (List.mem_cons_of_mem _ (List.mem_cons_self ..))))), (w_door1 99)⟩, ⟨_, List.mem_cons_of_mem _ (List.mem_cons_of_mem _ (List.mem_cons_of_mem _ (List.mem_cons_of_mem _ (List.mem_cons_of_mem _ (List.mem_cons_of_mem _ (List.mem_cons_self ..)))))), w_door0⟩, ⟨_, List.mem_cons_of_mem _ (List.mem_cons_of_mem _ (List.mem_cons_of_mem _ (List.mem_cons_of_mem _ (List.mem_cons_of_mem _ (List.mem_cons_of_mem _ (List.mem_cons_of_mem _ (List.mem_cons_self ..))))))), w_door0⟩, ⟨_, List.mem_cons_of_mem _ (List.mem_cons_of_mem _ (List.mem_cons_of_mem _ (List.mem_cons_of_mem _ (List.mem_cons_of_mem _ (List.mem_cons_of_mem _ (List.mem_cons_of_mem _ (List.mem_cons_of_mem _ (List.mem_cons_self ..)))))))), w_door0⟩, ⟨_, List.mem_cons_of_mem _ (List.mem_cons_of_mem _ (List.mem_cons_of_mem _ (List.mem_cons_of_mem _ (List.mem_cons_of_mem _ (List.mem_cons_of_mem _ (List.mem_cons_of_mem _ (List.mem_cons_of_mem _ (List.mem_cons_of_mem _ (List.mem_cons_self ..))))))))), w_door0⟩, ⟨_, List.mem_cons_of_mem _ (List.mem_cons_of_mem _ (List.mem_cons_of_mem _ (List.mem_cons_of_mem _ (List.mem_cons_of_mem _ (List.mem_cons_of_mem _ (List.mem_cons_of_mem _ (List.mem_cons_of_mem _ (List.mem_cons_of_mem _ (List.mem_cons_of_mem _ (List.mem_cons_self ..)))))))))), w_in⟩, ⟨_, List.mem_cons_of_mem _ (List.mem_cons_of_mem _ (List.mem_cons_of_mem _ (List.mem_cons_of_mem _ (List.mem_cons_of_mem _ (List.mem_cons_of_mem _ (List.mem_cons_of_mem _ (List.mem_cons_of_mem _ (List.mem_cons_of_mem _ (List.mem_cons_of_mem _ (List.mem_cons_of_mem _ (List.mem_cons_self ..))))))))))), (w_wr 5 99)⟩, ⟨_, List.mem_cons_of_mem _ (List.mem_cons_of_mem _ (List.mem_cons_of_mem _ (List.mem_cons_of_mem _ (List.mem_cons_of_mem _ (List.mem_cons_of_mem _ (List.mem_cons_of_mem _ (List.mem_cons_of_mem _ (List.mem_cons_of_mem _ (List.mem_cons_of_mem _ (List.mem_cons_of_mem _ (List.mem_cons_of_mem _ (List.mem_cons_self ..)))))))))))), w_door0⟩, ⟨_, List.mem_cons_of_mem _ (List.mem_cons_of_mem _ (List.mem_cons_of_mem _ (List.mem_cons_of_mem _ (List.mem_cons_of_mem _ (List.mem_cons_of_mem _ (List.mem_cons_of_mem _ (List.mem_cons_of_mem _ (List.mem_cons_of_mem _ (List.mem_cons_of_mem _ (List.mem_cons_of_mem _ (List.mem_cons_of_mem _ (List.mem_cons_of_mem _ (List.mem_cons_self ..))))))))))))), (w_lr 5)⟩, ⟨_, List.mem_cons_of_mem _ (List.mem_cons_of_mem _ (List.mem_cons_of_mem _ (List.mem_cons_of_mem _ (List.mem_cons_of_mem _ (List.mem_cons_of_mem _ (List.mem_cons_of_mem _ (List.mem_cons_of_mem _ (List.mem_cons_of_mem _ (List.mem_cons_of_mem _ (List.mem_cons_of_mem _ (List.mem_cons_of_mem _ (List.mem_cons_of_mem _ (List.mem_cons_of_mem _ (List.mem_cons_self ..)))))))))))))), (w_lr 5)⟩⟩
    have T0 : LamX.Tabs [(Pt, qLam)] H := fun p hp => by
      rw [List.mem_singleton.mp hp]
      exact LamX.TabS.nil hPt
    -- all of them refuse alike
    obtain ⟨tL, psL, qL⟩ : ∃ tL : TS, PS (cxOf CX0 P w K mg base nLaw "law" (defScope sLaw) f (.ref cL) A outer s H E).nox (stB 9) tL ∧
        ∀ (D : Ends) (r u0 gd wk : Addr) (bad : V) (p n : Int) (L : List Nat) (v2 : Option V) (xs : List V) (H0 : Hp), S3 K [(Pt, qLam)] r a ns bad p n u0 gd L H0 → (-1 ≤ p ∧ p ≤ 2) → (0 ≤ n ∧ n ≤ 20) → H0 wk = some (.lst xs) → xs.length ≤ 20 →
          (∀ x ∈ xs, ∃ fx l, x = .ref fx ∧ l ∈ LS ∧ (∀ HX, Same H0 HX → l.1 fx HX) ∧ ∀ (E : XK) (HX : Hp) (Q : VK), Same H0 HX → refB CB HX E p n → l.2 E [some (.ref a), some (.ref r), v2, some (.str (T L)), some bad, some (.ref u0), some (.ref gd), some (.ref wk), none, none, none] HX Q) →
          (∀ H', S3 K [(Pt, qLam)] r a ns bad p n u0 gd L H' → D.nx [some (.ref a), some (.ref r), v2, some (.str (T L)), some bad, some (.ref u0), some (.ref gd), some (.ref wk), none, none, none] H') →
          tL D [some (.ref a), some (.ref r), v2, some (.str (T L)), some bad, some (.ref u0), some (.ref gd), some (.ref wk), none, none, none] H0 := by
      refine ⟨_, (ps_if (pt_cmpR (op_neD hr.units) (LamV.pe_lcI (own := [("_law_work", 9)]) (g := gName 9) (te := fun _ => tVar 9) rfl scLaw.nd (pi_list (pv 7)) (blkOk_by (N := nLaw) (sc := defScope sLaw) (by decide +kernel)) (fun _ _ _ _ _ _ _ _ _ => pg_name (i := 9) scLaw.nd rfl (.inl rfl)) (fun _ σ0 _ _ _ _ _ I0 aw => pts_one (pt_not (pt_val (pe_call GAl hr4 (by rfl) mAl kAl bAl .nil pass0 (pa_cons (LamV.pe_wordJ I0 aw (by rfl) mW kW lkW hcW bW scLWo rfl (by exact .inl rfl) (word_gives B mS) hr9 hCK (pv 9)) (pa_cons (pe_tup (pa_cons pe_str (pa_cons (pv 5) pa_nil))) pa_nil)))))) (fun _ _ _ _ _ _ _ _ _ => pv 9)) (pe_lst pa_nil) (nomark _)) (pss_one (ps_ret pe_bl)) pss_nil), ?_⟩
      intro D r u0 gd wk bad p n L v2 xs H0 h0 hp hn hw l20 hx qn
      refine ⟨_, rfl, wk, rfl, ⟨_, .inl (.inl hw)⟩, fun Dl nDl => ?_⟩
      refine lc_it (walk_list (xs := xs)) (fun i HX => HX Dl = some (.lst []) ∧ Same H0 HX) ⟨upd_same, same_new nDl _⟩ (fun i HX _ hh => .inl (.inl (hh.2 _ _ hw))) ?_ ?_
      · rintro i x HX HX' hi ⟨hD', sX⟩ ⟨rfl, hxi⟩
        obtain ⟨fx, l, rfl, hl, hi1, hW⟩ := hx x (List.mem_of_getElem? hxi)
        refine ⟨rfl, (fun v z => by cases z), _, rfl, fx, rfl, l, hl, hi1 _ sX, fun D1 nD1 post hpost => ?_⟩
        have sD1 := same_new nD1 (.lst [])
        refine ⟨hi1 _ (sX.trans sD1), hW _ _ _ (sX.trans sD1) (toldB WB fun u8 q8 H8 s8 hu8 hq8 => ?_)⟩
        have s08 := sX.trans (sD1.trans s8)
        refine ⟨_, rfl, (by show 2 ≤ sizeLine; decide), fun p2 np2 => ?_⟩
        obtain ⟨H9, e9, m9, g9⟩ := newH np2 (.tup [.str "book", .ref u0])
        rw [show upd H8 p2 _ = H9 from e9]
        have hu9 := (s08.trans m9) _ _ h0.hu
        have d2 : Dp K H9 (.ref u0) (.tuple [.int p, .int n]) := .tup (.inl (.inl hu9)) (.cons (.int _) (.cons (.int _) .nil))
        have d1 : Dp K H9 (.ref q8) (.tuple [.int p, .int n]) := .tup (.inl (.inl (m9 _ _ hq8))) (.cons (.int _) (.cons (.int _) .nil))
        refine ⟨.ref u8, .ref p2, .tuple [.str "book", .tuple [.int p, .int n]], rfl, .tup (.inl (.inl (m9 _ _ hu8))) (.cons (.str _) (.cons d1 .nil)), .tup (.inl (.inl g9)) (.cons (.str _) (.cons d2 .nil)), ?_, ?_, fun H10 s10 => ?_⟩
        · refine .tup (by show 2 ≤ 1000; decide) fun d hd => ?_
          rcases List.mem_cons.mp hd with rfl | hd
          · exact .str _
          · rw [List.mem_singleton.mp hd]
            refine .tup (by show 2 ≤ 1000; decide) fun d hd => ?_
            rcases List.mem_cons.mp hd with rfl | hd
            · exact .int _
            · rw [List.mem_singleton.mp hd]
              exact .int _
        · show 2 < 4
          decide
        · refine ⟨true, rfl, iteF ⟨s10 _ _ (m9 _ _ (s8 _ _ (sD1 _ _ hD'))), s08.trans (m9.trans s10)⟩⟩
      · rintro H7 ⟨hD7, s7⟩
        refine ⟨(by show 0 ≤ sizeLine; decide), fun z0 nz0 => ?_⟩
        obtain ⟨H8, e8, m8, g8⟩ := newH nz0 (.lst [])
        rw [e8]
        refine ⟨.list [], .list [], .lst (.inl (.inl (m8 _ _ hD7))) .nil, .lst (.inl (.inl g8)) .nil, by decide +kernel, by decide +kernel, false, rfl, iteF ?_⟩
        exact qn _ (h0.same (s7.trans m8))
    refine ⟨_, pss_cons (ps_set (i := 1) scLaw.nd rfl (.inl rfl) (pe_call GRo hr1 (by rfl) mRo kRo bRo .nil pass0 (pa_cons (pv 0) pa_nil)))
      (pss_cons (ps_for PassesOwn.never rfl (pi_range1 (by rfl) B.rng (pa_cons pe_int pa_nil)) (pg_name (i := 2) scLaw.nd rfl (.inl rfl)) (pss_cons (ps_set (i := 3) scLaw.nd rfl (.inl rfl) (pe_call GLe0 hr2 (by rfl) mLe0 kLe0 bLe0 .nil pass0 (pa_cons (pv 1) pa_nil)))
      (pss_cons (ps_asg (pe_call GOd hr2 (by rfl) mOd kOd bOd .nil pass0 (pa_cons (pv 1) (pa_cons (pv 3) (pa_cons (pe_call GRu hr4 (by rfl) mRu kRu bRu .nil pass0 (pa_cons (pv 1) (pa_cons (pv 3) (pa_cons pe_int pa_nil)))) pa_nil)))) (pg_tup (by rfl) (pgs_cons (pg_name (i := 4) scLaw.nd rfl (.inr rfl)) (pgs_cons (pg_name (i := 5) scLaw.nd rfl (.inr rfl)) pgs_nil))))
      (pss_cons (ps_set (i := 6) scLaw.nd rfl (.inr rfl) (pe_tup (pa_cons (pv 3) (pa_cons (pe_tup pa_nil) (pa_cons (pe_tup pa_nil) pa_nil)))))
      (pss_cons (ps_set (i := 7) scLaw.nd rfl (.inl rfl) (pe_lst (pa_cons (LamV.pe_plain (Ts := [(Pt, qLam)]) TB rfl (List.mem_singleton.mpr rfl) (fun p hp _ => by rw [List.mem_singleton.mp hp]; rfl) (LamX.lamS_by (by show LamX.lamSB (defScope sLaw) _ = true; decide +kernel)) rfl) (pa_cons (LamV.pe_dflt (Ts := [(Pt, qLam)]) (a := "_law_a") (z := 0) TB rfl (List.mem_singleton.mpr rfl) (fun p hp _ => by rw [List.mem_singleton.mp hp]; rfl) (LamD.par_by (by show LamD.parB nLaw (defScope sLaw) _ _ = true; decide +kernel)) rfl rfl pe_int) (pa_cons (LamV.pe_dflt (Ts := [(Pt, qLam)]) (a := "_law_b") (z := 0) TB rfl (List.mem_singleton.mpr rfl) (fun p hp _ => by rw [List.mem_singleton.mp hp]; rfl) (LamD.par_by (by show LamD.parB nLaw (defScope sLaw) _ _ = true; decide +kernel)) rfl rfl pe_int) (pa_cons (LamV.pe_dflt (Ts := [(Pt, qLam)]) (a := "_law_c") (z := 0) TB rfl (List.mem_singleton.mpr rfl) (fun p hp _ => by rw [List.mem_singleton.mp hp]; rfl) (LamD.par_by (by show LamD.parB nLaw (defScope sLaw) _ _ = true; decide +kernel)) rfl rfl pe_int) pa_nil))))))
      (pss_cons (ps_set (i := 7) scLaw.nd rfl (.inl rfl) (pe_op op_cat (pv 7) (pe_lst (pa_cons (LamV.pe_dflt (Ts := [(Pt, qLam)]) (a := "_law_e") (z := 0) TB rfl (List.mem_singleton.mpr rfl) (fun p hp _ => by rw [List.mem_singleton.mp hp]; rfl) (LamD.par_by (by show LamD.parB nLaw (defScope sLaw) _ _ = true; decide +kernel)) rfl rfl pe_int) (pa_cons (LamV.pe_dflt (Ts := [(Pt, qLam)]) (a := "_law_f") (z := 0) TB rfl (List.mem_singleton.mpr rfl) (fun p hp _ => by rw [List.mem_singleton.mp hp]; rfl) (LamD.par_by (by show LamD.parB nLaw (defScope sLaw) _ _ = true; decide +kernel)) rfl rfl pe_int) (pa_cons (LamV.pe_dflt (Ts := [(Pt, qLam)]) (a := "_law_g") (z := 0) TB rfl (List.mem_singleton.mpr rfl) (fun p hp _ => by rw [List.mem_singleton.mp hp]; rfl) (LamD.par_by (by show LamD.parB nLaw (defScope sLaw) _ _ = true; decide +kernel)) rfl rfl pe_int) pa_nil))))))
      (pss_cons (ps_set (i := 7) scLaw.nd rfl (.inl rfl) (pe_op op_cat (pv 7) (pe_lst (pa_cons (LamV.pe_dflt (Ts := [(Pt, qLam)]) (a := "_law_h") (z := 0) TB rfl (List.mem_singleton.mpr rfl) (fun p hp _ => by rw [List.mem_singleton.mp hp]; rfl) (LamD.par_by (by show LamD.parB nLaw (defScope sLaw) _ _ = true; decide +kernel)) rfl rfl pe_int) (pa_cons (LamV.pe_dflt (Ts := [(Pt, qLam)]) (a := "_law_i") (z := 0) TB rfl (List.mem_singleton.mpr rfl) (fun p hp _ => by rw [List.mem_singleton.mp hp]; rfl) (LamD.par_by (by show LamD.parB nLaw (defScope sLaw) _ _ = true; decide +kernel)) rfl rfl pe_int) (pa_cons (LamV.pe_dflt (Ts := [(Pt, qLam)]) (a := "_law_j") (z := 0) TB rfl (List.mem_singleton.mpr rfl) (fun p hp _ => by rw [List.mem_singleton.mp hp]; rfl) (LamD.par_by (by show LamD.parB nLaw (defScope sLaw) _ _ = true; decide +kernel)) rfl rfl pe_int) pa_nil))))))
      (pss_cons (ps_expr (pe_bm PySem.F.plainAttrs_list PySem.F.slot_list_append PySem.F.type_list_append mt_append (pv 7) (pa_cons (LamV.pe_dfltN (N' := nLaw.take 10) (Ts := [(Pt, qLam)]) (a := "_law_k") (z := 0) TB rfl (List.mem_singleton.mpr rfl) (fun p hp _ => by rw [List.mem_singleton.mp hp]; rfl) (LamD.par_by (by show LamD.parB (nLaw.take 10) (defScope sLaw) _ _ = true; decide +kernel)) rfl rfl pe_int) pa_nil)))
      (pss_cons (ps_set (i := 7) scLaw.nd rfl (.inl rfl) (pe_op op_cat (pv 7) (pe_lst (pa_cons (LamV.pe_dflt (Ts := [(Pt, qLam)]) (a := "_law_l") (z := 0) TB rfl (List.mem_singleton.mpr rfl) (fun p hp _ => by rw [List.mem_singleton.mp hp]; rfl) (LamD.par_by (by show LamD.parB nLaw (defScope sLaw) _ _ = true; decide +kernel)) rfl rfl pe_int) (pa_cons (LamV.pe_dflt (Ts := [(Pt, qLam)]) (a := "_law_m") (z := 0) TB rfl (List.mem_singleton.mpr rfl) (fun p hp _ => by rw [List.mem_singleton.mp hp]; rfl) (LamD.par_by (by show LamD.parB nLaw (defScope sLaw) _ _ = true; decide +kernel)) rfl rfl pe_int) pa_nil)))))
      (pss_cons (ps_if (PW.pt (pw_and (pt_val (pe_callB call_isi (by rfl) B.isi (by decide +kernel) (pa_cons (pv 4) (pa_cons (pe_bltn (v := .ty "tuple") rfl B.tup (by decide +kernel) rfl) pa_nil)))) (pw_and (pt_cmpR op_eq (pe_callB call_len (by rfl) B.len PySem.boot_len (pa_cons (pv 4) pa_nil)) pe_int (nomark _)) (pw_and1 (pt_cmpR op_lt (pe_ix ix_tup (pv 5) pe_int (fun _ _ => rfl)) pe_int (nomark _)))))) (pss_one (ps_set (i := 7) scLaw.nd rfl (.inl rfl) (pe_op op_cat (pv 7) (pe_lst (pa_cons (LamV.pe_dflt (Ts := [(Pt, qLam)]) (a := "_law_n") (z := 0) TB rfl (List.mem_singleton.mpr rfl) (fun p hp _ => by rw [List.mem_singleton.mp hp]; rfl) (LamD.par_by (by show LamD.parB nLaw (defScope sLaw) _ _ = true; decide +kernel)) rfl rfl pe_int) (pa_cons (LamV.pe_dflt (Ts := [(Pt, qLam)]) (a := "_law_o") (z := 0) TB rfl (List.mem_singleton.mpr rfl) (fun p hp _ => by rw [List.mem_singleton.mp hp]; rfl) (LamD.par_by (by show LamD.parB nLaw (defScope sLaw) _ _ = true; decide +kernel)) rfl rfl pe_int) pa_nil)))))) pss_nil)
      (pss_one psL)))))))))))
      (pss_cons (ps_set (i := 8) scLaw.nd rfl (.inr rfl) (pe_tup (pa_cons pe_str (pa_cons (pe_op op_repT (pe_tup (pa_cons (pe_tup (pa_cons pe_str (pa_cons pe_str (pa_cons pe_str (pa_cons pe_str pa_nil))))) pa_nil)) pe_int) (pa_cons (pe_callTy call_tupN (by rfl) B.tup (by decide +kernel) (pa_cons (pe_lc (own := [("_law_k", 10)]) (g := gName 10) rfl scLaw.nd (pi_range1 rfl B.rng (pa_cons pe_int pa_nil)) (blkOk_by (N := nLaw) (sc := defScope sLaw) (by decide +kernel)) (fun _ _ _ _ _ => pg_name (i := 10) scLaw.nd rfl (.inl rfl)) (fun _ _ _ _ _ => pts_nil) (fun _ _ _ _ _ => (pe_tup (pa_cons (pe_op op_repA pe_str (pe_op op_add (pv 10) pe_int)) (pa_cons (pe_op op_repS pe_str pe_int) pa_nil))))) pa_nil)) pa_nil)))))
      (pss_one (ps_ret (pe_and (pe_cmpR (op_eqD hr.units) (pe_call GLS hr3 (by rfl) mLS kLS bLS .nil pass0 (pa_cons (pv 8) (pa_cons pe_str pa_nil))) (pe_tup (pa_cons pe_str (pa_cons (pe_call (E := fun _ _ _ => False) GSdG hr7 (by rfl) mSd kSd bSd .nil (fun _ _ _ _ _ _ _ h => cx_no h) (pa_cons (pv 8) (pa_cons pe_str pa_nil))) pa_nil))) (nomark _)) (pe_one (pe_cmpR (op_eqD hr.units) (LamX.pe_lamcall (T := [(Pt, qLam)]) (k := 6) (t := fun E => tCall (spWalkR CU) [] E (tCons (tVar 8) (tCons (tC (.str "b")) tNil))) (by rfl) mW kW lkW hcW bW scLWo rfl (by exact .inl rfl) (word_gives B mS) TB rfl (List.mem_singleton.mpr rfl) (fun p hp _ => by rw [List.mem_singleton.mp hp]; rfl) hr8 (LamX.lamS_by (by show LamX.lamSB (defScope sLaw) _ = true; decide +kernel)) rfl (fun _ _ _ _ _ => rfl)
            (fun A' outer' s' H' E' f' c' hr' => pe_call (E := E') GWkG hr' (by rfl) mWk kWk bWk .nil (passes_call (W := fun cls d _ H => E' cls d H) (takes_of rfl rfl rfl rfl) (fun _ _ _ _ h => h)) (pa_cons (pv 8) (pa_cons pe_str pa_nil)))) (pe_tup (pa_cons pe_str (pa_cons pe_int pa_nil))) (nomark _)))))))), ?_⟩
    refine ⟨_, rfl, a, ns, rfl, hSc, hle, fun r H1 hr0 s1 R1 => ?_⟩
    have T1 := T0.ext s1
    simp only [L2.start, List.length_cons, List.length_nil, List.map_cons, List.map_nil, Nat.zero_add, Nat.reduceAdd, Nat.reduceSub, List.replicate, List.cons_append, List.nil_append, List.set_cons_succ, List.set_cons_zero]
    refine ⟨4, rfl, by decide, by decide, for_it (walk_range) (fun i σ H' => RowAt K H' r a ns ∧ LamX.Tabs [(Pt, qLam)] H' ∧ ∃ v2 v3 v4 v5 v6 v7 : Option V, σ = [some (.ref a), some (.ref r), v2, v3, v4, v5, v6, v7, none, none, none]) ⟨R1, T1, _, _, _, _, _, _, rfl⟩ (fun _ _ _ _ _ => trivial) ?_ ?_⟩
    · rintro i xv σ H2 H2x hi ⟨R2, T2, v2, v3, v4, v5, v6, v7, rfl⟩ ⟨rfl, rfl⟩
      simp only [List.set_cons_succ, List.set_cons_zero]
      refine ⟨_, rfl, r, a, ns, rfl, R2, fun L H3 hL s3 R3 => ?_⟩
      have T3 := tabs_stp T2 R2.in s3
      have l4 := (lets_ok hL).2
      have l2 : 0 < L.length := (by decide +kernel : ∀ l ∈ lets, 0 < l.length) L hL
      simp only [List.set_cons_succ, List.set_cons_zero]
      refine ⟨_, rfl, _, rfl, _, rfl, _, rfl, r, a, ns, L, 5, rfl, R3, l2, l4, by decide, fun rs RT H4 ok4 len4 hR4 s4 R4 => ?_⟩
      have T4 := tabs_stp T3 R3.in s4
      refine ⟨r, a, ns, L, RT, rs, rfl, R4, hL, hR4, ok4, by omega, fun t5 u0 bad p n H5 ht5 hu5 hb5 hp hn s5 R5 => ?_⟩
      have T5 := tabs_stp T4 R4.in s5
      refine ⟨t5, _, rfl, .inl (.inl ht5), rfl, _, _, rfl, _, _, rfl, rfl, ?_⟩
      simp only [List.set_cons_succ, List.set_cons_zero]
      refine ⟨_, rfl, (by show 0 ≤ sizeLine; decide), fun t6 nt6 => ?_⟩
      obtain ⟨H6, e6, m6, g6⟩ := newH nt6 (.tup [])
      rw [show upd H5 t6 _ = H6 from e6]
      refine ⟨(by show 0 ≤ sizeLine; decide), fun t7 nt7 => ?_⟩
      obtain ⟨H7, e7, m7, g7⟩ := newH nt7 (.tup [])
      rw [show upd H6 t7 _ = H7 from e7]
      refine ⟨(by show 3 ≤ sizeLine; decide), fun gd ngd => ?_⟩
      obtain ⟨G0, e8, m8, g8⟩ := newH ngd (.tup [.str (T L), .ref t6, .ref t7])
      rw [show upd H7 gd _ = G0 from e8]
      have m58 := m6.trans (m7.trans m8)
      have h0 : S3 K [(Pt, qLam)] r a ns bad p n u0 gd L G0 := ⟨R5.stp m58, T5.ext m58, hb5.kp (.of m58), m58 _ _ hu5, hL, t6, t7, g8, (m7.trans m8) _ _ g6, m8 _ _ g7⟩
      clear R5 T5 hb5 hu5 ht5 R4 T4 hR4 R3 T3 R2 T2 g6 g7 g8 m6 m7 m8 m58 s5 s4 s3 ok4
      simp only [List.set_cons_succ, List.set_cons_zero]
      refine ⟨h0.Tb, fun f0 G1 e1 T1 n1 i0 => ?_⟩
      have h1 := h0.extN e1 T1
      refine ⟨h1.Tb, fun f1 G2 e2 T2 n2 i1 => ?_⟩
      have h2 := h1.extN e2 T2
      have i0 := i0.extN e2
      refine ⟨h2.Tb, fun f2 G3 e3 T3 n3 i2 => ?_⟩
      have h3 := h2.extN e3 T3
      have i0 := i0.extN e3
      have i1 := i1.extN e3
      refine ⟨h3.Tb, fun f3 G4 e4 T4 n4 i3 => ?_⟩
      have h4 := h3.extN e4 T4
      have i0 := i0.extN e4
      have i1 := i1.extN e4
      have i2 := i2.extN e4
      refine ⟨(by show 4 ≤ sizeLine; decide), fun wa nwa => ?_⟩
      obtain ⟨G5, e5, m5, gwa⟩ := newH nwa (.lst [.ref f0, .ref f1, .ref f2, .ref f3])
      rw [show upd G4 wa _ = G5 from e5]
      have h5 := h4.same m5
      have i0 := i0.extN (.of m5)
      have i1 := i1.extN (.of m5)
      have i2 := i2.extN (.of m5)
      have i3 := i3.extN (.of m5)
      simp only [List.set_cons_succ, List.set_cons_zero]
      refine ⟨_, rfl, ?_⟩
      refine ⟨h5.Tb, fun f4 G6 e6 T6 n6 i4 => ?_⟩
      have h6 := h5.extN e6 T6
      have i0 := i0.extN e6
      have i1 := i1.extN e6
      have i2 := i2.extN e6
      have i3 := i3.extN e6
      have gwa := e6 _ _ gwa (fun ps z => by cases z)
      refine ⟨h6.Tb, fun f5 G7 e7 T7 n7 i5 => ?_⟩
      have h7 := h6.extN e7 T7
      have i0 := i0.extN e7
      have i1 := i1.extN e7
      have i2 := i2.extN e7
      have i3 := i3.extN e7
      have i4 := i4.extN e7
      have gwa := e7 _ _ gwa (fun ps z => by cases z)
      refine ⟨h7.Tb, fun f6 G8 e8 T8 n8 i6 => ?_⟩
      have h8 := h7.extN e8 T8
      have i0 := i0.extN e8
      have i1 := i1.extN e8
      have i2 := i2.extN e8
      have i3 := i3.extN e8
      have i4 := i4.extN e8
      have i5 := i5.extN e8
      have gwa := e8 _ _ gwa (fun ps z => by cases z)
      refine ⟨(by show 3 ≤ sizeLine; decide), fun wbx nwbx => ?_⟩
      obtain ⟨G9, e9, m9, gwbx⟩ := newH nwbx (.lst [.ref f4, .ref f5, .ref f6])
      rw [show upd G8 wbx _ = G9 from e9]
      have h9 := h8.same m9
      have i0 := i0.extN (.of m9)
      have i1 := i1.extN (.of m9)
      have i2 := i2.extN (.of m9)
      have i3 := i3.extN (.of m9)
      have i4 := i4.extN (.of m9)
      have i5 := i5.extN (.of m9)
      have i6 := i6.extN (.of m9)
      have gwa := m9 _ _ gwa
      refine ⟨wa, wbx, [.ref f0, .ref f1, .ref f2, .ref f3], [.ref f4, .ref f5, .ref f6], rfl, rfl, gwa, gwbx, (by show 4 + 3 ≤ sizeLine; decide), fun wb nwb => ?_⟩
      obtain ⟨G10, e10, m10, gwb⟩ := newH nwb (.lst ([V.ref f0, .ref f1, .ref f2, .ref f3] ++ [.ref f4, .ref f5, .ref f6]))
      rw [show upd G9 wb _ = G10 from e10]
      have gwb : G10 wb = some (.lst [.ref f0, .ref f1, .ref f2, .ref f3, .ref f4, .ref f5, .ref f6]) := gwb
      have h10 := h9.same m10
      have i0 := i0.extN (.of m10)
      have i1 := i1.extN (.of m10)
      have i2 := i2.extN (.of m10)
      have i3 := i3.extN (.of m10)
      have i4 := i4.extN (.of m10)
      have i5 := i5.extN (.of m10)
      have i6 := i6.extN (.of m10)
      clear gwa gwbx
      simp only [List.set_cons_succ, List.set_cons_zero]
      refine ⟨_, rfl, ?_⟩
      refine ⟨h10.Tb, fun f7 G11 e11 T11 n11 i7 => ?_⟩
      have h11 := h10.extN e11 T11
      have i0 := i0.extN e11
      have i1 := i1.extN e11
      have i2 := i2.extN e11
      have i3 := i3.extN e11
      have i4 := i4.extN e11
      have i5 := i5.extN e11
      have i6 := i6.extN e11
      have gwb := e11 _ _ gwb (fun ps z => by cases z)
      refine ⟨h11.Tb, fun f8 G12 e12 T12 n12 i8 => ?_⟩
      have h12 := h11.extN e12 T12
      have i0 := i0.extN e12
      have i1 := i1.extN e12
      have i2 := i2.extN e12
      have i3 := i3.extN e12
      have i4 := i4.extN e12
      have i5 := i5.extN e12
      have i6 := i6.extN e12
      have i7 := i7.extN e12
      have gwb := e12 _ _ gwb (fun ps z => by cases z)
      refine ⟨h12.Tb, fun f9 G13 e13 T13 n13 i9 => ?_⟩
      have h13 := h12.extN e13 T13
      have i0 := i0.extN e13
      have i1 := i1.extN e13
      have i2 := i2.extN e13
      have i3 := i3.extN e13
      have i4 := i4.extN e13
      have i5 := i5.extN e13
      have i6 := i6.extN e13
      have i7 := i7.extN e13
      have i8 := i8.extN e13
      have gwb := e13 _ _ gwb (fun ps z => by cases z)
      refine ⟨(by show 3 ≤ sizeLine; decide), fun wcx nwcx => ?_⟩
      obtain ⟨G14, e14, m14, gwcx⟩ := newH nwcx (.lst [.ref f7, .ref f8, .ref f9])
      rw [show upd G13 wcx _ = G14 from e14]
      have h14 := h13.same m14
      have i0 := i0.extN (.of m14)
      have i1 := i1.extN (.of m14)
      have i2 := i2.extN (.of m14)
      have i3 := i3.extN (.of m14)
      have i4 := i4.extN (.of m14)
      have i5 := i5.extN (.of m14)
      have i6 := i6.extN (.of m14)
      have i7 := i7.extN (.of m14)
      have i8 := i8.extN (.of m14)
      have i9 := i9.extN (.of m14)
      have gwb := m14 _ _ gwb
      refine ⟨wb, wcx, [.ref f0, .ref f1, .ref f2, .ref f3, .ref f4, .ref f5, .ref f6], [.ref f7, .ref f8, .ref f9], rfl, rfl, gwb, gwcx, (by show 7 + 3 ≤ sizeLine; decide), fun wc nwc => ?_⟩
      obtain ⟨G15, e15, m15, gwc⟩ := newH nwc (.lst ([V.ref f0, .ref f1, .ref f2, .ref f3, .ref f4, .ref f5, .ref f6] ++ [.ref f7, .ref f8, .ref f9]))
      rw [show upd G14 wc _ = G15 from e15]
      have gwc : G15 wc = some (.lst [.ref f0, .ref f1, .ref f2, .ref f3, .ref f4, .ref f5, .ref f6, .ref f7, .ref f8, .ref f9]) := gwc
      have h15 := h14.same m15
      have i0 := i0.extN (.of m15)
      have i1 := i1.extN (.of m15)
      have i2 := i2.extN (.of m15)
      have i3 := i3.extN (.of m15)
      have i4 := i4.extN (.of m15)
      have i5 := i5.extN (.of m15)
      have i6 := i6.extN (.of m15)
      have i7 := i7.extN (.of m15)
      have i8 := i8.extN (.of m15)
      have i9 := i9.extN (.of m15)
      clear gwb gwcx
      simp only [List.set_cons_succ, List.set_cons_zero]
      -- appended
      refine ⟨_, rfl, .inl ⟨rfl, _, .inl (.inl gwc)⟩, h15.Tb, fun f10 G16 e16 T16 n16 i10 => ?_⟩
      have gwc := e16 _ _ gwc (fun ps z => by cases z)
      have i0 := i0.extN e16
      have i1 := i1.extN e16
      have i2 := i2.extN e16
      have i3 := i3.extN e16
      have i4 := i4.extN e16
      have i5 := i5.extN e16
      have i6 := i6.extN e16
      have i7 := i7.extN e16
      have i8 := i8.extN e16
      have i9 := i9.extN e16
      refine ⟨wc, _, _, rfl, rfl, gwc, (by show 10 < sizeLine; decide), ?_⟩
      have eA : LamX.ExtN G14 (upd G16 wc (.lst ([V.ref f0, .ref f1, .ref f2, .ref f3, .ref f4, .ref f5, .ref f6, .ref f7, .ref f8, .ref f9] ++ [.ref f10]))) := ext_fresh (LamX.ExtN.trans (.of m15) e16) nwc
      have h17 := h14.extN eA (tabs_lst T16 gwc)
      have upL : ∀ {X : Cx} {pa : Arguments} {bo : Expr} {ow : Scope} {fx : Addr}, LamV.IsPlain X pa bo ow fx G16 → LamV.IsPlain X pa bo ow fx (upd G16 wc (.lst ([V.ref f0, .ref f1, .ref f2, .ref f3, .ref f4, .ref f5, .ref f6, .ref f7, .ref f8, .ref f9] ++ [.ref f10]))) := fun hh => hh.updL gwc
      have i0 := upL i0
      have i1 := i1.updL (o := .lst ([V.ref f0, .ref f1, .ref f2, .ref f3, .ref f4, .ref f5, .ref f6, .ref f7, .ref f8, .ref f9] ++ [.ref f10])) gwc
      have i2 := i2.updL (o := .lst ([V.ref f0, .ref f1, .ref f2, .ref f3, .ref f4, .ref f5, .ref f6, .ref f7, .ref f8, .ref f9] ++ [.ref f10])) gwc
      have i3 := i3.updL (o := .lst ([V.ref f0, .ref f1, .ref f2, .ref f3, .ref f4, .ref f5, .ref f6, .ref f7, .ref f8, .ref f9] ++ [.ref f10])) gwc
      have i4 := i4.updL (o := .lst ([V.ref f0, .ref f1, .ref f2, .ref f3, .ref f4, .ref f5, .ref f6, .ref f7, .ref f8, .ref f9] ++ [.ref f10])) gwc
      have i5 := i5.updL (o := .lst ([V.ref f0, .ref f1, .ref f2, .ref f3, .ref f4, .ref f5, .ref f6, .ref f7, .ref f8, .ref f9] ++ [.ref f10])) gwc
      have i6 := i6.updL (o := .lst ([V.ref f0, .ref f1, .ref f2, .ref f3, .ref f4, .ref f5, .ref f6, .ref f7, .ref f8, .ref f9] ++ [.ref f10])) gwc
      have i7 := i7.updL (o := .lst ([V.ref f0, .ref f1, .ref f2, .ref f3, .ref f4, .ref f5, .ref f6, .ref f7, .ref f8, .ref f9] ++ [.ref f10])) gwc
      have i8 := i8.updL (o := .lst ([V.ref f0, .ref f1, .ref f2, .ref f3, .ref f4, .ref f5, .ref f6, .ref f7, .ref f8, .ref f9] ++ [.ref f10])) gwc
      have i9 := i9.updL (o := .lst ([V.ref f0, .ref f1, .ref f2, .ref f3, .ref f4, .ref f5, .ref f6, .ref f7, .ref f8, .ref f9] ++ [.ref f10])) gwc
      have i10 := i10.updL (o := .lst ([V.ref f0, .ref f1, .ref f2, .ref f3, .ref f4, .ref f5, .ref f6, .ref f7, .ref f8, .ref f9] ++ [.ref f10])) gwc
      have gwc : (upd G16 wc (.lst ([V.ref f0, .ref f1, .ref f2, .ref f3, .ref f4, .ref f5, .ref f6, .ref f7, .ref f8, .ref f9] ++ [.ref f10]))) wc = some (.lst [.ref f0, .ref f1, .ref f2, .ref f3, .ref f4, .ref f5, .ref f6, .ref f7, .ref f8, .ref f9, .ref f10]) := upd_same
      generalize upd G16 wc (.lst ([V.ref f0, .ref f1, .ref f2, .ref f3, .ref f4, .ref f5, .ref f6, .ref f7, .ref f8, .ref f9] ++ [.ref f10])) = G17 at h17 i0 i1 i2 i3 i4 i5 i6 i7 i8 i9 i10 gwc ⊢
      clear upL eA
      simp only [List.set_cons_succ, List.set_cons_zero]
      refine ⟨_, rfl, ?_⟩
      refine ⟨h17.Tb, fun f11 G18 e18 T18 n18 i11 => ?_⟩
      have h18 := h17.extN e18 T18
      have i0 := i0.extN e18
      have i1 := i1.extN e18
      have i2 := i2.extN e18
      have i3 := i3.extN e18
      have i4 := i4.extN e18
      have i5 := i5.extN e18
      have i6 := i6.extN e18
      have i7 := i7.extN e18
      have i8 := i8.extN e18
      have i9 := i9.extN e18
      have i10 := i10.extN e18
      have gwc := e18 _ _ gwc (fun ps z => by cases z)
      refine ⟨h18.Tb, fun f12 G19 e19 T19 n19 i12 => ?_⟩
      have h19 := h18.extN e19 T19
      have i0 := i0.extN e19
      have i1 := i1.extN e19
      have i2 := i2.extN e19
      have i3 := i3.extN e19
      have i4 := i4.extN e19
      have i5 := i5.extN e19
      have i6 := i6.extN e19
      have i7 := i7.extN e19
      have i8 := i8.extN e19
      have i9 := i9.extN e19
      have i10 := i10.extN e19
      have i11 := i11.extN e19
      have gwc := e19 _ _ gwc (fun ps z => by cases z)
      refine ⟨(by show 2 ≤ sizeLine; decide), fun wdx nwdx => ?_⟩
      obtain ⟨G20, e20, m20, gwdx⟩ := newH nwdx (.lst [.ref f11, .ref f12])
      rw [show upd G19 wdx _ = G20 from e20]
      have h20 := h19.same m20
      have i0 := i0.extN (.of m20)
      have i1 := i1.extN (.of m20)
      have i2 := i2.extN (.of m20)
      have i3 := i3.extN (.of m20)
      have i4 := i4.extN (.of m20)
      have i5 := i5.extN (.of m20)
      have i6 := i6.extN (.of m20)
      have i7 := i7.extN (.of m20)
      have i8 := i8.extN (.of m20)
      have i9 := i9.extN (.of m20)
      have i10 := i10.extN (.of m20)
      have i11 := i11.extN (.of m20)
      have i12 := i12.extN (.of m20)
      have gwc := m20 _ _ gwc
      refine ⟨wc, wdx, [.ref f0, .ref f1, .ref f2, .ref f3, .ref f4, .ref f5, .ref f6, .ref f7, .ref f8, .ref f9, .ref f10], [.ref f11, .ref f12], rfl, rfl, gwc, gwdx, (by show 11 + 2 ≤ sizeLine; decide), fun wd nwd => ?_⟩
      obtain ⟨G21, e21, m21, gwd⟩ := newH nwd (.lst ([V.ref f0, .ref f1, .ref f2, .ref f3, .ref f4, .ref f5, .ref f6, .ref f7, .ref f8, .ref f9, .ref f10] ++ [.ref f11, .ref f12]))
      rw [show upd G20 wd _ = G21 from e21]
      have gwd : G21 wd = some (.lst [.ref f0, .ref f1, .ref f2, .ref f3, .ref f4, .ref f5, .ref f6, .ref f7, .ref f8, .ref f9, .ref f10, .ref f11, .ref f12]) := gwd
      have h21 := h20.same m21
      have i0 := i0.extN (.of m21)
      have i1 := i1.extN (.of m21)
      have i2 := i2.extN (.of m21)
      have i3 := i3.extN (.of m21)
      have i4 := i4.extN (.of m21)
      have i5 := i5.extN (.of m21)
      have i6 := i6.extN (.of m21)
      have i7 := i7.extN (.of m21)
      have i8 := i8.extN (.of m21)
      have i9 := i9.extN (.of m21)
      have i10 := i10.extN (.of m21)
      have i11 := i11.extN (.of m21)
      have i12 := i12.extN (.of m21)
      clear gwc gwdx
      simp only [List.set_cons_succ, List.set_cons_zero]
      have hAll : ∀ v2 : Option V, ∀ wk : Addr, ∀ x ∈ ([.ref f0, .ref f1, .ref f2, .ref f3, .ref f4, .ref f5, .ref f6, .ref f7, .ref f8, .ref f9, .ref f10, .ref f11, .ref f12] : List V), ∃ fx l, x = .ref fx ∧ l ∈ LS ∧ (∀ HX, Same G21 HX → l.1 fx HX) ∧ ∀ (E : XK) (HX : Hp) (Q : VK), Same G21 HX → refB CB HX E p n → l.2 E [some (.ref a), some (.ref r), v2, some (.str (T L)), some bad, some (.ref u0), some (.ref gd), some (.ref wk), none, none, none] HX Q := by
        intro v2 wk x hx
        simp only [List.mem_cons, List.not_mem_nil, or_false] at hx
        rcases hx with rfl | rfl | rfl | rfl | rfl | rfl | rfl | rfl | rfl | rfl | rfl | rfl | rfl
        · obtain ⟨t, ht, hw⟩ := w0
          exact ⟨f0, _, rfl, ht, fun HX s => i0.extN (.of s), fun E HX Q s hq => hw _ E HX Q bad p n gd L rfl rfl (h21.hb.kp (.of s)) (h21.hg.kt (.of s)) hq⟩
        · obtain ⟨t, ht, hw⟩ := w1
          exact ⟨f1, _, rfl, ht, fun HX s => i1.extN (.of s), fun E HX Q s hq => hw _ E HX Q bad p n gd L rfl rfl (h21.hb.kp (.of s)) (h21.hg.kt (.of s)) hq⟩
        · obtain ⟨t, ht, hw⟩ := w2
          exact ⟨f2, _, rfl, ht, fun HX s => i2.extN (.of s), fun E HX Q s hq => hw _ E HX Q bad p n gd L rfl rfl (h21.hb.kp (.of s)) (h21.hg.kt (.of s)) hq⟩
        · obtain ⟨t, ht, hw⟩ := w3
          exact ⟨f3, _, rfl, ht, fun HX s => i3.extN (.of s), fun E HX Q s hq => hw _ E HX Q bad p n gd L rfl rfl (h21.hb.kp (.of s)) (h21.hg.kt (.of s)) hq⟩
        · obtain ⟨t, ht, hw⟩ := w4
          exact ⟨f4, _, rfl, ht, fun HX s => i4.extN (.of s), fun E HX Q s hq => hw _ E HX Q bad p n gd L rfl rfl (h21.hb.kp (.of s)) (h21.hg.kt (.of s)) hq⟩
        · obtain ⟨t, ht, hw⟩ := w5
          exact ⟨f5, _, rfl, ht, fun HX s => i5.extN (.of s), fun E HX Q s hq => hw _ E HX Q bad p n gd L rfl rfl (h21.hb.kp (.of s)) (h21.hg.kt (.of s)) hq⟩
        · obtain ⟨t, ht, hw⟩ := w6
          exact ⟨f6, _, rfl, ht, fun HX s => i6.extN (.of s), fun E HX Q s hq => hw _ E HX Q bad p n gd L rfl rfl (h21.hb.kp (.of s)) (h21.hg.kt (.of s)) hq⟩
        · obtain ⟨t, ht, hw⟩ := w7
          exact ⟨f7, _, rfl, ht, fun HX s => i7.extN (.of s), fun E HX Q s hq => hw _ E HX Q bad p n gd L rfl rfl (h21.hb.kp (.of s)) (h21.hg.kt (.of s)) hq⟩
        · obtain ⟨t, ht, hw⟩ := w8
          exact ⟨f8, _, rfl, ht, fun HX s => i8.extN (.of s), fun E HX Q s hq => hw _ E HX Q bad p n gd L rfl rfl (h21.hb.kp (.of s)) (h21.hg.kt (.of s)) hq⟩
        · obtain ⟨t, ht, hw⟩ := w9
          exact ⟨f9, _, rfl, ht, fun HX s => i9.extN (.of s), fun E HX Q s hq => hw _ E HX Q bad p n gd L rfl rfl (h21.hb.kp (.of s)) (h21.hg.kt (.of s)) hq⟩
        · obtain ⟨t, ht, hw⟩ := w10
          exact ⟨f10, _, rfl, ht, fun HX s => i10.extN (.of s), fun E HX Q s hq => hw _ E HX Q bad p n gd L rfl rfl (h21.hb.kp (.of s)) (h21.hg.kt (.of s)) hq⟩
        · obtain ⟨t, ht, hw⟩ := w11
          exact ⟨f11, _, rfl, ht, fun HX s => i11.extN (.of s), fun E HX Q s hq => hw _ E HX Q bad p n gd L rfl rfl (h21.hb.kp (.of s)) (h21.hg.kt (.of s)) hq⟩
        · obtain ⟨t, ht, hw⟩ := w12
          exact ⟨f12, _, rfl, ht, fun HX s => i12.extN (.of s), fun E HX Q s hq => hw _ E HX Q bad p n gd L rfl rfl (h21.hb.kp (.of s)) (h21.hg.kt (.of s)) hq⟩
      have b12 := hp.2
      have nope : (NoTup K G21 bad ∨ ∃ t xs, bad = .ref t ∧ SqT K G21 t xs ∧ xs.length ≠ 3) ∨ Bad3 K G21 bad p n := by
        rcases h21.hb with ⟨_, _, hh⟩ | hh
        · exact .inl hh
        · exact .inr hh
      have lt01 : ∀ {G : Hp}, G u0 = some (.tup [.int p, .int n]) → SqT K G u0 [.int p, .int n] := fun h => .inl (.inl h)
      rcases nope with (hno | ⟨tb, xb, rfl, hTb, hlb⟩) | hb3
      · obtain ⟨ty, y1, y2⟩ := hno.ty
        refine ⟨_, rfl, bad, _, .type ty, _, false, rfl, ClsV.ty _, y1, kit_ty y2, false, rfl, iteF (iteF ?_)⟩
        exact qL _ r u0 gd wd bad p n L _ _ G21 h21 hp hn gwd (by show 13 ≤ 20; decide) (hAll _ wd) fun H' h' => ⟨h'.R, h'.Tb, _, _, _, _, _, _, rfl⟩
      · refine ⟨_, rfl, _, _, .type "tuple", _, true, rfl, ClsV.ty _, tyT hTb, kit_ty (by decide +kernel), true, rfl, iteT ?_⟩
        refine ⟨_, rfl, _, _, rfl, .inr ⟨_, hTb, rfl⟩, rfl, _, rfl, ?_⟩
        rw [show decide (V.int ((xb.length : Nat) : Int) = V.int 3) = false from decide_eq_false fun z => hlb (by have := V.int.inj z; omega)]
        refine iteF (iteF ?_)
        exact qL _ r u0 gd wd (.ref tb) p n L _ _ G21 h21 hp hn gwd (by show 13 ≤ 20; decide) (hAll _ wd) fun H' h' => ⟨h'.R, h'.Tb, _, _, _, _, _, _, rfl⟩
      · obtain ⟨tb, lb, rb, xb, eb, hTb, _⟩ := id hb3
        subst eb
        refine ⟨_, rfl, _, _, .type "tuple", _, true, rfl, ClsV.ty _, tyT hTb, kit_ty (by decide +kernel), true, rfl, iteT ?_⟩
        refine ⟨_, rfl, _, _, rfl, .inr ⟨_, hTb, rfl⟩, rfl, _, rfl, iteT ?_⟩
        refine ⟨_, rfl, u0, _, 0, .int p, rfl, rfl, lt01 h21.hu, atI_nat (j := 0) rfl, _, _, rfl, rfl, _, rfl, ite2 (fun cp => ?_) (fun cp => ?_)⟩
        · have cp : p < 2 := of_decide_eq_true cp
          refine ⟨_, rfl, ?_⟩
          refine ⟨h21.Tb, fun f13 G22 e22 T22 n22 i13 => ?_⟩
          have h22 := h21.extN e22 T22
          have i0 := i0.extN e22
          have i1 := i1.extN e22
          have i2 := i2.extN e22
          have i3 := i3.extN e22
          have i4 := i4.extN e22
          have i5 := i5.extN e22
          have i6 := i6.extN e22
          have i7 := i7.extN e22
          have i8 := i8.extN e22
          have i9 := i9.extN e22
          have i10 := i10.extN e22
          have i11 := i11.extN e22
          have i12 := i12.extN e22
          have gwd := e22 _ _ gwd (fun ps z => by cases z)
          refine ⟨h22.Tb, fun f14 G23 e23 T23 n23 i14 => ?_⟩
          have h23 := h22.extN e23 T23
          have i0 := i0.extN e23
          have i1 := i1.extN e23
          have i2 := i2.extN e23
          have i3 := i3.extN e23
          have i4 := i4.extN e23
          have i5 := i5.extN e23
          have i6 := i6.extN e23
          have i7 := i7.extN e23
          have i8 := i8.extN e23
          have i9 := i9.extN e23
          have i10 := i10.extN e23
          have i11 := i11.extN e23
          have i12 := i12.extN e23
          have i13 := i13.extN e23
          have gwd := e23 _ _ gwd (fun ps z => by cases z)
          refine ⟨(by show 2 ≤ sizeLine; decide), fun wex nwex => ?_⟩
          obtain ⟨G24, e24, m24, gwex⟩ := newH nwex (.lst [.ref f13, .ref f14])
          rw [show upd G23 wex _ = G24 from e24]
          have h24 := h23.same m24
          have i0 := i0.extN (.of m24)
          have i1 := i1.extN (.of m24)
          have i2 := i2.extN (.of m24)
          have i3 := i3.extN (.of m24)
          have i4 := i4.extN (.of m24)
          have i5 := i5.extN (.of m24)
          have i6 := i6.extN (.of m24)
          have i7 := i7.extN (.of m24)
          have i8 := i8.extN (.of m24)
          have i9 := i9.extN (.of m24)
          have i10 := i10.extN (.of m24)
          have i11 := i11.extN (.of m24)
          have i12 := i12.extN (.of m24)
          have i13 := i13.extN (.of m24)
          have i14 := i14.extN (.of m24)
          have gwd := m24 _ _ gwd
          refine ⟨wd, wex, [.ref f0, .ref f1, .ref f2, .ref f3, .ref f4, .ref f5, .ref f6, .ref f7, .ref f8, .ref f9, .ref f10, .ref f11, .ref f12], [.ref f13, .ref f14], rfl, rfl, gwd, gwex, (by show 13 + 2 ≤ sizeLine; decide), fun we nwe => ?_⟩
          obtain ⟨G25, e25, m25, gwe⟩ := newH nwe (.lst ([V.ref f0, .ref f1, .ref f2, .ref f3, .ref f4, .ref f5, .ref f6, .ref f7, .ref f8, .ref f9, .ref f10, .ref f11, .ref f12] ++ [.ref f13, .ref f14]))
          rw [show upd G24 we _ = G25 from e25]
          have gwe : G25 we = some (.lst [.ref f0, .ref f1, .ref f2, .ref f3, .ref f4, .ref f5, .ref f6, .ref f7, .ref f8, .ref f9, .ref f10, .ref f11, .ref f12, .ref f13, .ref f14]) := gwe
          have h25 := h24.same m25
          have i0 := i0.extN (.of m25)
          have i1 := i1.extN (.of m25)
          have i2 := i2.extN (.of m25)
          have i3 := i3.extN (.of m25)
          have i4 := i4.extN (.of m25)
          have i5 := i5.extN (.of m25)
          have i6 := i6.extN (.of m25)
          have i7 := i7.extN (.of m25)
          have i8 := i8.extN (.of m25)
          have i9 := i9.extN (.of m25)
          have i10 := i10.extN (.of m25)
          have i11 := i11.extN (.of m25)
          have i12 := i12.extN (.of m25)
          have i13 := i13.extN (.of m25)
          have i14 := i14.extN (.of m25)
          clear gwd gwex
          simp only [List.set_cons_succ, List.set_cons_zero]
          have kp3 : Kp K G21 G25 := (Kp.ext e22).trans ((Kp.ext e23).trans ((Kp.of m24).trans (Kp.of m25)))
          have hb3 := hb3.kp kp3
          have hAll2 : ∀ v2 : Option V, ∀ wk : Addr, ∀ x ∈ ([.ref f0, .ref f1, .ref f2, .ref f3, .ref f4, .ref f5, .ref f6, .ref f7, .ref f8, .ref f9, .ref f10, .ref f11, .ref f12, .ref f13, .ref f14] : List V), ∃ fx l, x = .ref fx ∧ l ∈ LS ∧ (∀ HX, Same G25 HX → l.1 fx HX) ∧ ∀ (E : XK) (HX : Hp) (Q : VK), Same G25 HX → refB CB HX E p n → l.2 E [some (.ref a), some (.ref r), v2, some (.str (T L)), some (.ref tb), some (.ref u0), some (.ref gd), some (.ref wk), none, none, none] HX Q := by
            intro v2 wk x hx
            simp only [List.mem_cons, List.not_mem_nil, or_false] at hx
            rcases hx with rfl | rfl | rfl | rfl | rfl | rfl | rfl | rfl | rfl | rfl | rfl | rfl | rfl | rfl | rfl
            · obtain ⟨t, ht, hw⟩ := w0
              exact ⟨f0, _, rfl, ht, fun HX s => i0.extN (.of s), fun E HX Q s hq => hw _ E HX Q _ p n gd L rfl rfl (h25.hb.kp (.of s)) (h25.hg.kt (.of s)) hq⟩
            · obtain ⟨t, ht, hw⟩ := w1
              exact ⟨f1, _, rfl, ht, fun HX s => i1.extN (.of s), fun E HX Q s hq => hw _ E HX Q _ p n gd L rfl rfl (h25.hb.kp (.of s)) (h25.hg.kt (.of s)) hq⟩
            · obtain ⟨t, ht, hw⟩ := w2
              exact ⟨f2, _, rfl, ht, fun HX s => i2.extN (.of s), fun E HX Q s hq => hw _ E HX Q _ p n gd L rfl rfl (h25.hb.kp (.of s)) (h25.hg.kt (.of s)) hq⟩
            · obtain ⟨t, ht, hw⟩ := w3
              exact ⟨f3, _, rfl, ht, fun HX s => i3.extN (.of s), fun E HX Q s hq => hw _ E HX Q _ p n gd L rfl rfl (h25.hb.kp (.of s)) (h25.hg.kt (.of s)) hq⟩
            · obtain ⟨t, ht, hw⟩ := w4
              exact ⟨f4, _, rfl, ht, fun HX s => i4.extN (.of s), fun E HX Q s hq => hw _ E HX Q _ p n gd L rfl rfl (h25.hb.kp (.of s)) (h25.hg.kt (.of s)) hq⟩
            · obtain ⟨t, ht, hw⟩ := w5
              exact ⟨f5, _, rfl, ht, fun HX s => i5.extN (.of s), fun E HX Q s hq => hw _ E HX Q _ p n gd L rfl rfl (h25.hb.kp (.of s)) (h25.hg.kt (.of s)) hq⟩
            · obtain ⟨t, ht, hw⟩ := w6
              exact ⟨f6, _, rfl, ht, fun HX s => i6.extN (.of s), fun E HX Q s hq => hw _ E HX Q _ p n gd L rfl rfl (h25.hb.kp (.of s)) (h25.hg.kt (.of s)) hq⟩
            · obtain ⟨t, ht, hw⟩ := w7
              exact ⟨f7, _, rfl, ht, fun HX s => i7.extN (.of s), fun E HX Q s hq => hw _ E HX Q _ p n gd L rfl rfl (h25.hb.kp (.of s)) (h25.hg.kt (.of s)) hq⟩
            · obtain ⟨t, ht, hw⟩ := w8
              exact ⟨f8, _, rfl, ht, fun HX s => i8.extN (.of s), fun E HX Q s hq => hw _ E HX Q _ p n gd L rfl rfl (h25.hb.kp (.of s)) (h25.hg.kt (.of s)) hq⟩
            · obtain ⟨t, ht, hw⟩ := w9
              exact ⟨f9, _, rfl, ht, fun HX s => i9.extN (.of s), fun E HX Q s hq => hw _ E HX Q _ p n gd L rfl rfl (h25.hb.kp (.of s)) (h25.hg.kt (.of s)) hq⟩
            · obtain ⟨t, ht, hw⟩ := w10
              exact ⟨f10, _, rfl, ht, fun HX s => i10.extN (.of s), fun E HX Q s hq => hw _ E HX Q _ p n gd L rfl rfl (h25.hb.kp (.of s)) (h25.hg.kt (.of s)) hq⟩
            · obtain ⟨t, ht, hw⟩ := w11
              exact ⟨f11, _, rfl, ht, fun HX s => i11.extN (.of s), fun E HX Q s hq => hw _ E HX Q _ p n gd L rfl rfl (h25.hb.kp (.of s)) (h25.hg.kt (.of s)) hq⟩
            · obtain ⟨t, ht, hw⟩ := w12
              exact ⟨f12, _, rfl, ht, fun HX s => i12.extN (.of s), fun E HX Q s hq => hw _ E HX Q _ p n gd L rfl rfl (h25.hb.kp (.of s)) (h25.hg.kt (.of s)) hq⟩
            · obtain ⟨t, ht, hw⟩ := w13
              exact ⟨f13, _, rfl, ht, fun HX s => i13.extN (.of s), fun E HX Q s hq => hw _ E HX Q _ p n rfl (hb3.kp (.of s)) cp hq⟩
            · obtain ⟨t, ht, hw⟩ := w14
              exact ⟨f14, _, rfl, ht, fun HX s => i14.extN (.of s), fun E HX Q s hq => hw _ E HX Q _ p n rfl (hb3.kp (.of s)) cp hq⟩
          exact qL _ r u0 gd we (.ref tb) p n L _ _ G25 h25 hp hn gwe (by show 15 ≤ 20; decide) (hAll2 _ we) fun H' h' => ⟨h'.R, h'.Tb, _, _, _, _, _, _, rfl⟩
        · exact qL _ r u0 gd wd (.ref tb) p n L _ _ G21 h21 hp hn gwd (by show 13 ≤ 20; decide) (hAll _ wd) fun H' h' => ⟨h'.R, h'.Tb, _, _, _, _, _, _, rfl⟩
    · rintro σ H2 ⟨R2, T2, v2, v3, v4, v5, v6, v7, rfl⟩
      have zH : Str.ofString "#abcd" = T [35, 97, 98, 99, 100] := by decide +kernel
      have zb : Str.ofString "ab" = T [97, 98] := by decide +kernel
      have zZ : Str.ofString "ABZ" = T [65, 66, 90] := by decide +kernel
      have zL : Str.ofString "abcd" = T [97, 98, 99, 100] := by decide +kernel
      have za : Str.ofString "a" = T [97] := by decide +kernel
      simp only [List.set_cons_succ, List.set_cons_zero]
      refine ⟨(by show 4 ≤ sizeLine; decide), fun t1 nt1 => ?_⟩
      obtain ⟨K1, f1, n1, y1⟩ := newH nt1 (.tup [.str "#abcd", .str "ab", .str "#abcd", .str "ABZ"])
      rw [show upd H2 t1 _ = K1 from f1]
      refine ⟨(by show 1 ≤ sizeLine; decide), fun t2 nt2 => ?_⟩
      obtain ⟨K2, f2, n2, y2⟩ := newH nt2 (.tup [.ref t1])
      rw [show upd K1 t2 _ = K2 from f2]
      refine ⟨t2, 12, [.ref t1], rfl, rfl, .inl (.inl y2), (fun z => nomatch z), by decide, by decide, (by show 1 ≤ 1000; decide), fun R nR => ?_⟩
      obtain ⟨K3, f3, n3, y3⟩ := newH nR (.tup (List.replicate (12 : Int).toNat [V.ref t1]).flatten)
      rw [show upd K2 R _ = K3 from f3]
      have y3 : K3 R = some (.tup ((List.replicate 12 t1).map V.ref)) := y3
      have hr12 : RulesAt K3 R (List.replicate 12 rulZ) := by
        refine ⟨List.replicate 12 t1, y3, ?_⟩
        have one : K3 t1 = some (.tup (Rule.vs rulZ)) := by
          show K3 t1 = some (.tup [.str (T [35, 97, 98, 99, 100]), .str (T [97, 98]), .str (T [35, 97, 98, 99, 100]), .str (T [65, 66, 90])])
          rw [← zH, ← zb, ← zZ]
          exact (n2.trans n3) _ _ y1
        have : ∀ m, Paired (fun t ρ => K3 t = some (.tup (Rule.vs ρ))) (List.replicate m t1) (List.replicate m rulZ) := fun m => by
          induction m with
          | zero => exact .nil
          | succ m ih => exact .cons one ih
        exact this 12
      refine ⟨8, rfl, by decide, by decide, fun D hD => ?_⟩
      refine lc_it (walk_range) (fun i HX => ∃ ts : List Addr, HX D = some (.lst (ts.map V.ref)) ∧ Paired (fun t (e : Exc) => HX t = some (.tup [.str (T e.1), .str (T e.2)])) ts (exc8.take i) ∧ ts.length = i ∧ Same K3 HX) ?_ (fun _ _ _ _ => trivial) ?_ ?_
      · exact ⟨[], upd_same, .nil, rfl, same_new hD _⟩
      · rintro i x HX HXx hi ⟨ts, e1, e2, e3, e4⟩ ⟨rfl, rfl⟩
        have hi : i < 8 := hi
        refine ⟨rfl, ?_⟩
        refine ⟨_, rfl, _, _, rfl, rfl, 97, i + 1, by rw [za], by show V.int (0 + (i : Int) + 1) = _; rw [Int.zero_add]; rfl, by omega, 90, 36, (by decide +kernel), rfl, (by decide), (by decide), ?_⟩
        refine ⟨(by show 2 ≤ sizeLine; decide), fun p np => ?_⟩
        obtain ⟨M3, k3, o3, z3⟩ := newH np (.tup [.str (T (List.replicate (i + 1) 97)), .str (T (List.replicate 36 90))])
        rw [show upd HXx p _ = M3 from k3]
        have e1b := o3 _ _ e1
        refine ⟨_, e1b, ?_, ts ++ [p], ?_, ?_, ?_, ?_⟩
        · rw [List.length_map, e3]
          exact small1000 (by omega)
        · rw [upd_same, List.map_append]
          rfl
        · have kt := kt_upd e1b (o := .lst (ts.map V.ref ++ [.ref p]))
          have et : exc8.take (i + 1) = exc8.take i ++ [(List.replicate (i + 1) 97, List.replicate 36 90)] := by
            have : exc8[i]? = some (List.replicate (i + 1) 97, List.replicate 36 90) := by
              unfold exc8
              rw [List.getElem?_map, List.getElem?_range hi]
              rfl
            rw [List.take_succ, this]
            rfl
          rw [et]
          exact paired_app (paired_mono (fun t e h => kt.1 _ _ (o3 _ _ h)) e2) (.cons (kt.1 _ _ z3) .nil)
        · rw [List.length_append, e3]
          rfl
        · exact fun b u hb => by
            rw [upd_ne (ne_of_none hb hD)]
            exact o3 _ _ (e4 _ _ hb)
      · rintro HX ⟨ts, e1, e2, e3, e4⟩
        rw [show Int.toNat 8 = 8 from rfl, List.take_of_length_le (by decide)] at e2
        refine ⟨D, _, rfl, .inl (.inl e1), fun X ob hob nX => ?_⟩
        obtain ⟨M1, k1, o1, z1⟩ := newH nX (.frz ob (.tup (ts.map V.ref)))
        rw [k1]
        refine ⟨(by show 3 ≤ sizeLine; decide), fun fb nfb => ?_⟩
        obtain ⟨M2, k2, o2, z2⟩ := newH nfb (.tup [.str "abcd", .ref R, .ref X])
        rw [show upd M1 fb _ = M2 from k2]
        have hB : BookAt M2 fb [97, 98, 99, 100] (List.replicate 12 rulZ) exc8 := ⟨R, X, by rw [← zL]; exact z2, hr12.kt (.of (e4.trans (o1.trans o2))), ts, ⟨ob, o2 _ _ z1, hob⟩, paired_mono (fun t e h => (o1.trans o2) _ _ h) e2⟩
        have T9 := T2.ext (n1.trans (n2.trans (n3.trans (e4.trans (o1.trans o2)))))
        clear e1 e2 y1 y2 y3 hr12 z1 z2
        simp only [List.set_cons_succ, List.set_cons_zero]
        have z3 : Str.ofString "aaa" = T [97, 97, 97] := by decide +kernel
        have z4 : Str.ofString "b" = T [98] := by decide +kernel
        have z5 : Str.ofString "" = T [] := nil_eq
        refine ⟨_, rfl, fb, _, _, _, [97, 97, 97], by rw [z3]; rfl, hB, full_rl, by rw [List.length_replicate]; decide, by decide, fun t3 M3 s3 g3 => ?_⟩
        refine ⟨_, rfl, fb, _, _, _, [97, 97, 97], by rw [z3]; rfl, hB.kt (.of s3), full_ok, by decide, by decide, ?_, (fun c => by rw [full_said] at c; cases c)⟩
        intro so hso M4 s4
        rw [full_said] at hso
        cases hso
        refine ⟨(by show 2 ≤ sizeLine; decide), fun t5 nt5 => ?_⟩
        obtain ⟨M5, k5, o5, z6⟩ := newH nt5 (.tup [.str "", .str (T (List.replicate 36 90))])
        rw [show upd M4 t5 _ = M5 from k5]
        unfold saidV at g3
        rw [full_said] at g3
        have sh : SeqAt.shaped (.tuple [.str "", .str (T (List.replicate 36 90))]) = true := by decide +kernel
        refine ⟨.tuple [.str "", .str (T (List.replicate 36 90))], .tuple [.str "", .str (T (List.replicate 36 90))], .tup (.inl (.inl ((s4.trans o5) _ _ g3))) (.cons (by first | exact .str _ | (rw [z5]; exact .str _)) (.cons (.str _) .nil)), .tup (.inl (.inl z6)) (.cons (.str _) (.cons (.str _) .nil)), sh, sh, ?_⟩
        rw [SeqAt.eqv_refl _ (SeqAt.canLay_of_shaped sh)]
        refine ⟨_, rfl, iteT ?_⟩
        refine ⟨T9.ext (s3.trans (s4.trans o5)), fun M6 e6 T6 => ?_⟩
        intro D1 nD1 post hpost
        have sD1 := same_new nD1 (.lst [])
        have hB6 : BookAt M6 fb [97, 98, 99, 100] (List.replicate 12 rulZ) exc8 := (hB.kt (.of (s3.trans (s4.trans o5)))).kt ⟨fun t xs q => e6 _ _ q (fun ps z => by cases z), fun t o xs q => e6 _ _ q (fun ps z => by cases z)⟩
        refine ⟨_, rfl, fb, _, _, _, [98], by rw [z4]; rfl, hB6.kt (.of sD1), full_ok, by decide, by decide, (fun c => by rw [full_walk] at c; cases c), fun p hp d M7 s7 nd hx => ?_⟩
        rw [full_walk] at hp
        cases hp
        refine ⟨CU, 4, _, WU, rfl, .inl ⟨rfl, d, 0, rfl, hx, rfl⟩, fun u M8 s8 hu8 => ?_⟩
        refine ⟨(by show 2 ≤ sizeLine; decide), fun t9 nt9 => ?_⟩
        obtain ⟨M9, k9, o9, z9⟩ := newH nt9 (.tup [.str "unsaid", .int 0])
        rw [show upd M8 t9 _ = M9 from k9]
        have sh2 : SeqAt.shaped (.tuple [.str "unsaid", .int 0]) = true := by decide +kernel
        refine ⟨.tuple [.str "unsaid", .int 0], .tuple [.str "unsaid", .int 0], .tup (.inl (.inl (o9 _ _ hu8))) (.cons (.str _) (.cons (.int _) .nil)), .tup (.inl (.inl z9)) (.cons (.str _) (.cons (.int _) .nil)), sh2, sh2, ?_⟩
        rw [SeqAt.eqv_refl _ (SeqAt.canLay_of_shaped sh2)]
        exact q _
end
end Say
namespace Say
open PySem PySem.Spec PyProof.Rows L2
/-- a def as the top has left it -/
structure Std (K : PySem.W.Frag) (x : Str) (st : Stmt) (f : Addr) : Prop where
  ns : PySem.W.nsIn K mainGlobals x = some (some (.ref f))
  fn : ∃ fd, Fun K x x st f fd ∧ ∃ kV dc pm an cd ct, fd = PySem.W.fnOf x x (defArgs st) (defBody st) (defScope st) .none kV dc pm an cd ct
theorem std_mk {K : PySem.W.Frag} {x : Str} {st : Stmt} {f : Addr} {oc : Value} {od an : Option Addr} {osl : Array (Option Value)} {kV dc pm cd ct : Value} (a : PySem.W.nsIn K mainGlobals x = some (some (.ref f))) (l : K.lookup f = some ⟨oc, od, .func (PySem.W.fnOf x x (defArgs st) (defBody st) (defScope st) .none kV dc pm an cd ct), osl⟩) (c : PySem.W.codeIn K cd x = true) (k : PySem.W.keepIn K (.ref f) = true) : Std K x st f :=
  ⟨a, _, fun_mk l c k, kV, dc, pm, an, cd, ct, rfl⟩
structure StdD (K : PySem.W.Frag) (x : Str) (st : Stmt) (f : Addr) : Prop where
  ns : PySem.W.nsIn K mainGlobals x = some (some (.ref f))
  fn : ∃ fd, FunD K x x (defArgs st) (defBody st) (defScope st) [] [("long", .int 5)] f fd
theorem stdD_mk {K : PySem.W.Frag} {x : Str} {st : Stmt} {f D : Addr} {oc : Value} {od an : Option Addr} {osl : Array (Option Value)} {dc pm cd ct : Value} {t : Tok} (a : PySem.W.nsIn K mainGlobals x = some (some (.ref f))) (l : K.lookup f = some ⟨oc, od, .func (PySem.W.fnOf x x (defArgs st) (defBody st) (defScope st) .none (.ref D) dc pm an cd ct), osl⟩) (c : PySem.W.codeIn K cd x = true) (k : PySem.W.keepIn K (.ref f) = true) (d : PySem.W.nsIn K D "long" = some (some (.int 5 t))) : StdD K x st f :=
  ⟨a, _, ⟨⟨_, _, _, _, _, _, _, _, _, _, rfl, l, c, .inl ⟨rfl, rfl⟩, .inr ⟨D, rfl, fun q hq => by rw [List.mem_singleton.mp hq]; exact ⟨_, d, ⟨_, rfl⟩⟩⟩⟩, k⟩⟩
/-- a method as the top has left it -/
structure MStd (K : PySem.W.Frag) (C : Addr) (x q : Str) (st : Stmt) (f : Addr) : Prop where
  me : Meth K C x f
  fn : ∃ fd, Fun K x q st f fd ∧ ∃ kV dc pm an cd ct, fd = PySem.W.fnOf x q (defArgs st) (defBody st) (defScope st) .none kV dc pm an cd ct
theorem mstd_mk {K : PySem.W.Frag} {C : Addr} {x q : Str} {st : Stmt} {f : Addr} {oc : Value} {od an : Option Addr} {osl : Array (Option Value)} {kV dc pm cd ct : Value} (a : PySem.W.findIn K (.ref C) x = some (some (.ref f))) (i : PySem.W.isFn K (.ref f) = true) (l : K.lookup f = some ⟨oc, od, .func (PySem.W.fnOf x q (defArgs st) (defBody st) (defScope st) .none kV dc pm an cd ct), osl⟩) (c : PySem.W.codeIn K cd q = true) (k : PySem.W.keepIn K (.ref f) = true) : MStd K C x q st f :=
  ⟨⟨a, i, k⟩, _, fun_mk l c k, kV, dc, pm, an, cd, ct, rfl⟩
theorem all_ok {l : PySem.W.OpenLaw} {w : World} {K : PySem.W.Frag} {h : Heap} {mg : Str → Option Value} {fa f42 f43 f38 f37 f40 f41 f39 f31 f34 f32 f33 f30 f49 f50 f51 f61 f56 f57 f60 f59 f82 f83 f84 f85 f81 f80 f108 f100 f98 f99 f65 f111 f112 f113 f116 f115 f117 f118 f114 f121 f122 f123 f120 f119 f124 xSayError xBadBook xBadWord xBadSounds xBadCount xUnsaid xNoLetter xNoException xOtherLetters xBadSamples xBadDeed xHalted xBadText ySayer gSyI yDesk gDkI fI cdI ccI N_ fIo0 cdIo0 ccIo0 N_o0 Pt cL : Addr} {t_small t_caps t_edge t_mrul t_lexc t_lrs t_lso t_imost_exceptions t_ilongest_word t_iown t_isounds t_isettling t_imost_samples t_ilong t_ilongest_writing t_ileads t_ino_book t_iletters t_irules t_iexceptions : Tok} {tfI : Tok} {nm q flI : Str} {bs sub : List Value} {sn : List Str} {ab : Bool} {col : Option Bool} {dd odI anI cldI cddI : Option Addr} {m0 m1 m2 m3 m5 : Option Value} {oI dcI pmI ctI clI cclI : Value} {slI cslI ccsI : Array (Option Value)} {vsI : Array Value} {tfIo0 : Tok} {nmo0 qo0 flIo0 : Str} {bso0 subo0 : List Value} {sno0 : List Str} {abo0 : Bool} {colo0 : Option Bool} {ddo0 odIo0 anIo0 cldIo0 cddIo0 : Option Addr} {m0o0 m1o0 m2o0 m3o0 m5o0 : Option Value} {oIo0 dcIo0 pmIo0 ctIo0 clIo0 cclIo0 : Value} {slIo0 cslIo0 ccsIo0 : Array (Option Value)} {vsIo0 : Array Value} {lt18 lt7 lt10 : Tok} {li7 li10 : Int} {lb9 : Bool} {lf18 : Str} {cddL odL anL : Option Addr} {oL kVL dcL pmL ctL : Value} {cslL slL : Array (Option Value)} {vsL : Array Value}
    (X : K.In h) (G : h.Ns mainGlobals mg) (hfa : mg "law" = some (.ref fa)) (OT : LamX.OwnTab K fa h)
    (S42 : Std K "is_text" (topS 42) f42)
    (S43 : Std K "is_rising" (topS 43) f43)
    (S38 : Std K "is_beside" (topS 38) f38)
    (S37 : Std K "is_rule" (topS 37) f37)
    (S40 : Std K "is_excepted" (topS 40) f40)
    (S41 : Std K "is_sounds" (topS 41) f41)
    (S39 : Std K "is_exception" (topS 39) f39)
    (S31 : Std K "check_letters" (topS 31) f31)
    (S34 : Std K "check_word" (topS 34) f34)
    (S32 : Std K "check_rules" (topS 32) f32)
    (S33 : Std K "check_exceptions" (topS 33) f33)
    (S30 : Std K "checked_book" (topS 30) f30)
    (S49 : Std K "fits" (topS 49) f49)
    (S50 : Std K "first_fit" (topS 50) f50)
    (S51 : Std K "steps_of" (topS 51) f51)
    (S61 : Std K "walked" (topS 61) f61)
    (S56 : Std K "numbers_of" (topS 56) f56)
    (S57 : Std K "sounds_of" (topS 57) f57)
    (S60 : Std K "said" (topS 60) f60)
    (S59 : Std K "walk" (topS 59) f59)
    (S82 : Std K "unsaid" (topS 82) f82)
    (S83 : Std K "idle" (topS 83) f83)
    (S84 : Std K "free" (topS 84) f84)
    (S85 : Std K "needless" (topS 85) f85)
    (S81 : Std K "use" (topS 81) f81)
    (S80 : Std K "parted" (topS 80) f80)
    (S108 : Std K "written" (topS 108) f108)
    (S100 : Std K "check_all" (topS 100) f100)
    (S98 : Std K "least" (topS 98) f98)
    (S99 : Std K "blamed" (topS 99) f99)
    (S65 : StdD K "writings" (topS 65) f65)
    (S111 : Std K "_law_row" (topS 111) f111)
    (S112 : Std K "_law_taken" (topS 112) f112)
    (S113 : Std K "_law_letters" (topS 113) f113)
    (S116 : Std K "_law_side" (topS 116) f116)
    (S115 : Std K "_law_text" (topS 115) f115)
    (S117 : Std K "_law_rule" (topS 117) f117)
    (S118 : Std K "_law_rules" (topS 118) f118)
    (S114 : Std K "_law_odd_book" (topS 114) f114)
    (S121 : Std K "_law_fits" (topS 121) f121)
    (S122 : Std K "_law_walk" (topS 122) f122)
    (S123 : Std K "_law_said" (topS 123) f123)
    (S120 : Std K "_law_word" (topS 120) f120)
    (S119 : Std K "_law_alike" (topS 119) f119)
    (MSyI : MStd K ySayer "__init__" "Sayer.__init__" (sSyC 0) gSyI)
    (MDkI : MStd K yDesk "__init__" "Desk.__init__" (sDkC 0) gDkI)
    (a_law : PySem.W.nsIn K mainGlobals "law" = some (some (.ref f124)))
    (l_law : K.lookup f124 = some ⟨oL, odL, .func (PySem.W.fnOf "law" "law" (defArgs (topS 124)) (defBody (topS 124)) (defScope (topS 124)) .none kVL dcL pmL anL (.ref cL) ctL), slL⟩)
    (c_law : PySem.W.codeIn K (.ref cL) "law" = true)
    (k_law : PySem.W.keepIn K (.ref f124) = true)
    (z_len : PySem.W.nsIn K mainGlobals "len" = some none)
    (z_range : PySem.W.nsIn K mainGlobals "range" = some none)
    (z_tuple : PySem.W.nsIn K mainGlobals "tuple" = some none)
    (z_list : PySem.W.nsIn K mainGlobals "list" = some none)
    (z_isinstance : PySem.W.nsIn K mainGlobals "isinstance" = some none)
    (z_str : PySem.W.nsIn K mainGlobals "str" = some none)
    (z_all : PySem.W.nsIn K mainGlobals "all" = some none)
    (z_enumerate : PySem.W.nsIn K mainGlobals "enumerate" = some none)
    (z_sorted : PySem.W.nsIn K mainGlobals "sorted" = some none)
    (z_bool : PySem.W.nsIn K mainGlobals "bool" = some none)
    (c_small : PySem.W.nsIn K mainGlobals "SMALL" = some (some (.str "abcdefghijklmnopqrstuvwxyz" t_small)))
    (c_caps : PySem.W.nsIn K mainGlobals "CAPITALS" = some (some (.str "ABCDEFGHIJKLMNOPQRSTUVWXYZ" t_caps)))
    (c_edge : PySem.W.nsIn K mainGlobals "EDGE" = some (some (.str "#" t_edge)))
    (c_mrul : PySem.W.nsIn K mainGlobals "MOST_RULES" = some (some (.int 12 t_mrul)))
    (c_lexc : PySem.W.nsIn K mainGlobals "LONGEST_EXCEPTION" = some (some (.int 8 t_lexc)))
    (c_lrs : PySem.W.nsIn K mainGlobals "LONGEST_RULE_SOUNDS" = some (some (.int 3 t_lrs)))
    (c_lso : PySem.W.nsIn K mainGlobals "LONGEST_SOUNDS" = some (some (.int 36 t_lso)))
    (c_imost_exceptions : PySem.W.nsIn K mainGlobals "MOST_EXCEPTIONS" = some (some (.int 8 t_imost_exceptions)))
    (c_ilongest_word : PySem.W.nsIn K mainGlobals "LONGEST_WORD" = some (some (.int 12 t_ilongest_word)))
    (c_iown : PySem.W.nsIn K mainGlobals "OWN" = some (some (.int 1 t_iown)))
    (c_isounds : PySem.W.nsIn K mainGlobals "SOUNDS" = some (some (.int 3 t_isounds)))
    (c_isettling : PySem.W.nsIn K mainGlobals "SETTLING" = some (some (.int 4 t_isettling)))
    (c_imost_samples : PySem.W.nsIn K mainGlobals "MOST_SAMPLES" = some (some (.int 12 t_imost_samples)))
    (c_ilong : PySem.W.nsIn K mainGlobals "LONG" = some (some (.int 5 t_ilong)))
    (c_ilongest_writing : PySem.W.nsIn K mainGlobals "LONGEST_WRITING" = some (some (.int 7 t_ilongest_writing)))
    (c_ileads : PySem.W.nsIn K mainGlobals "LEADS" = some (some (.int 2 t_ileads)))
    (c_ino_book : PySem.W.nsIn K mainGlobals "NO_BOOK" = some (some (.int (-1) t_ino_book)))
    (c_iletters : PySem.W.nsIn K mainGlobals "LETTERS" = some (some (.int 0 t_iletters)))
    (c_irules : PySem.W.nsIn K mainGlobals "RULES" = some (some (.int 1 t_irules)))
    (c_iexceptions : PySem.W.nsIn K mainGlobals "EXCEPTIONS" = some (some (.int 2 t_iexceptions)))
    (z_super : PySem.W.nsIn K mainGlobals "super" = some none)
    (z_ValueError : PySem.W.nsIn K mainGlobals "ValueError" = some none)
    (gSayError : PySem.W.nsIn K mainGlobals "SayError" = some (some (.ref xSayError)))
    (gBadBook : PySem.W.nsIn K mainGlobals "BadBook" = some (some (.ref xBadBook)))
    (gBadWord : PySem.W.nsIn K mainGlobals "BadWord" = some (some (.ref xBadWord)))
    (gBadSounds : PySem.W.nsIn K mainGlobals "BadSounds" = some (some (.ref xBadSounds)))
    (gBadCount : PySem.W.nsIn K mainGlobals "BadCount" = some (some (.ref xBadCount)))
    (gUnsaid : PySem.W.nsIn K mainGlobals "Unsaid" = some (some (.ref xUnsaid)))
    (gNoLetter : PySem.W.nsIn K mainGlobals "NoLetter" = some (some (.ref xNoLetter)))
    (gNoException : PySem.W.nsIn K mainGlobals "NoException" = some (some (.ref xNoException)))
    (gOtherLetters : PySem.W.nsIn K mainGlobals "OtherLetters" = some (some (.ref xOtherLetters)))
    (gBadSamples : PySem.W.nsIn K mainGlobals "BadSamples" = some (some (.ref xBadSamples)))
    (gBadDeed : PySem.W.nsIn K mainGlobals "BadDeed" = some (some (.ref xBadDeed)))
    (gHalted : PySem.W.nsIn K mainGlobals "Halted" = some (some (.ref xHalted)))
    (gBadText : PySem.W.nsIn K mainGlobals "BadText" = some (some (.ref xBadText)))
    (eS1 : PySem.W.subIn K (.ref xSayError) (.type "BaseException") = some true)
    (eS2 : PySem.W.hasDictIn K xSayError = true)
    (eS3 : PySem.W.typeIn K (.ref xSayError) = some (.type "type"))
    (BadBook_e4 : PySem.W.subIn K (.ref xBadBook) (.ref xSayError) = some true)
    (BadBook_kBadBook : PySem.W.kitOne K (.ref xBadBook) (.ref xBadBook) = some true)
    (BadBook_kBadWord : PySem.W.kitOne K (.ref xBadBook) (.ref xBadWord) = some false)
    (BadBook_kBadSounds : PySem.W.kitOne K (.ref xBadBook) (.ref xBadSounds) = some false)
    (BadBook_kBadCount : PySem.W.kitOne K (.ref xBadBook) (.ref xBadCount) = some false)
    (BadBook_kUnsaid : PySem.W.kitOne K (.ref xBadBook) (.ref xUnsaid) = some false)
    (BadBook_kNoLetter : PySem.W.kitOne K (.ref xBadBook) (.ref xNoLetter) = some false)
    (BadBook_kNoException : PySem.W.kitOne K (.ref xBadBook) (.ref xNoException) = some false)
    (BadBook_kOtherLetters : PySem.W.kitOne K (.ref xBadBook) (.ref xOtherLetters) = some false)
    (BadBook_kBadSamples : PySem.W.kitOne K (.ref xBadBook) (.ref xBadSamples) = some false)
    (BadBook_kBadDeed : PySem.W.kitOne K (.ref xBadBook) (.ref xBadDeed) = some false)
    (BadBook_kHalted : PySem.W.kitOne K (.ref xBadBook) (.ref xHalted) = some false)
    (BadBook_kBadText : PySem.W.kitOne K (.ref xBadBook) (.ref xBadText) = some false)
    (BadBook_kV : PySem.W.kitOne K (.ref xBadBook) (.type "ValueError") = some true)
    (BadBook_noP : PySem.W.findIn K (.ref xBadBook) "place" = some none)
    (BadBook_noN : PySem.W.findIn K (.ref xBadBook) "number" = some none)
    (BadBook_noA : PySem.W.findIn K (.ref xBadBook) "part" = some none)
    (BadBook_noD : PySem.W.findIn K (.ref xBadBook) "done" = some none)
    (BadBook_noR : PySem.W.findIn K (.ref xBadBook) "row" = some none)
    (BadBook_ga : PySem.W.findIn K (.ref xBadBook) "__getattribute__" = some (some (.builtin "BaseException.__getattribute__")))
    (BadBook_gg : PySem.W.findIn K (.ref xBadBook) "__getattr__" = some none)
    (BadBook_hd : PySem.W.hasDictIn K xBadBook = true)
    (BadBook_ex : PySem.W.subIn K (.ref xBadBook) (.type "BaseException") = some true)
    (BadBook_ha : PySem.W.findIn K (.ref xBadBook) "__class__" = some (some (.builtin "object.__class__")))
    (BadBook_hm : PySem.W.mroIn K xBadBook (.type "object") = some true)
    (Unsaid_e4 : PySem.W.subIn K (.ref xUnsaid) (.ref xSayError) = some true)
    (Unsaid_kBadBook : PySem.W.kitOne K (.ref xUnsaid) (.ref xBadBook) = some false)
    (Unsaid_kBadWord : PySem.W.kitOne K (.ref xUnsaid) (.ref xBadWord) = some false)
    (Unsaid_kBadSounds : PySem.W.kitOne K (.ref xUnsaid) (.ref xBadSounds) = some false)
    (Unsaid_kBadCount : PySem.W.kitOne K (.ref xUnsaid) (.ref xBadCount) = some false)
    (Unsaid_kUnsaid : PySem.W.kitOne K (.ref xUnsaid) (.ref xUnsaid) = some true)
    (Unsaid_kNoLetter : PySem.W.kitOne K (.ref xUnsaid) (.ref xNoLetter) = some false)
    (Unsaid_kNoException : PySem.W.kitOne K (.ref xUnsaid) (.ref xNoException) = some false)
    (Unsaid_kOtherLetters : PySem.W.kitOne K (.ref xUnsaid) (.ref xOtherLetters) = some false)
    (Unsaid_kBadSamples : PySem.W.kitOne K (.ref xUnsaid) (.ref xBadSamples) = some false)
    (Unsaid_kBadDeed : PySem.W.kitOne K (.ref xUnsaid) (.ref xBadDeed) = some false)
    (Unsaid_kHalted : PySem.W.kitOne K (.ref xUnsaid) (.ref xHalted) = some false)
    (Unsaid_kBadText : PySem.W.kitOne K (.ref xUnsaid) (.ref xBadText) = some false)
    (Unsaid_kV : PySem.W.kitOne K (.ref xUnsaid) (.type "ValueError") = some true)
    (Unsaid_noP : PySem.W.findIn K (.ref xUnsaid) "place" = some none)
    (Unsaid_noN : PySem.W.findIn K (.ref xUnsaid) "number" = some none)
    (Unsaid_noA : PySem.W.findIn K (.ref xUnsaid) "part" = some none)
    (Unsaid_noD : PySem.W.findIn K (.ref xUnsaid) "done" = some none)
    (Unsaid_noR : PySem.W.findIn K (.ref xUnsaid) "row" = some none)
    (Unsaid_ga : PySem.W.findIn K (.ref xUnsaid) "__getattribute__" = some (some (.builtin "BaseException.__getattribute__")))
    (Unsaid_gg : PySem.W.findIn K (.ref xUnsaid) "__getattr__" = some none)
    (Unsaid_hd : PySem.W.hasDictIn K xUnsaid = true)
    (Unsaid_ex : PySem.W.subIn K (.ref xUnsaid) (.type "BaseException") = some true)
    (Unsaid_ha : PySem.W.findIn K (.ref xUnsaid) "__class__" = some (some (.builtin "object.__class__")))
    (Unsaid_hm : PySem.W.mroIn K xUnsaid (.type "object") = some true)
    (x_hn : PySem.W.specialIn K (.builtin "object.__class__") "__get__" = some (some (.builtin "getset_descriptor.__get__")))
    (x_ht : PySem.W.takesIn K (.builtin "object.__class__") = some true)
    (xU : K.lookup xUnsaid = some (excClassObj nm q xUnsaid N_ bs [.ref xSayError, .type "ValueError", .type "Exception", .type "BaseException", .type "object"] true sn sub ab col dd m0 m1 m2 m3 m5 "ValueError.__new__"))
    (u_sa : PySem.W.findIn K (.ref xUnsaid) "__setattr__" = some (some (.builtin "object.__setattr__")))
    (u_iC : PySem.W.findIn K (.ref xUnsaid) "__init__" = some (some (.ref fI)))
    (u_tC : PySem.W.typeIn K (.ref fI) = some (.type "function"))
    (u_kC : PySem.W.keepIn K (.ref xUnsaid) = true)
    (u_tyC : PySem.W.typeIn K (.ref xUnsaid) = some (.type "type"))
    (u_sup : PySem.W.ks_superIn K xUnsaid xUnsaid "__init__" = some (some (.builtin "ValueError.__init__")))
    (u_subV : PySem.W.subIn K (.ref xUnsaid) (.type "ValueError") = some true)
    (u_any : PySem.W.nsIn K cStatics "thirdparty.any" = some none)
    (u_main : (l.prog.main.scope.names.lookup ("super" : Str)).isSome = false)
    (u_fn : K.lookup fI = some ⟨oI, odI, .func (PySem.W.ksFn "__init__" "Unsaid.__init__" PySem.UnsX.iA PySem.UnsX.iB PySem.UnsX.iS .none .none dcI pmI anI (.ref cdI) ctI ccI), slI⟩)
    (u_cd : PySem.W.codeIn K (.ref cdI) "Unsaid.__init__" = true)
    (u_cell : K.lookup ccI = some ⟨clI, cldI, .cell (some (.ref xUnsaid)), cslI⟩)
    (u_code : K.lookup cdI = some ⟨cclI, cddI, .fields vsI, ccsI⟩)
    (u_vs : vsI[2]? = some (.str flI tfI))
    (u_file : ((l.prog.main.file : Str) == flI) = true)
    (o0_x : K.lookup xBadBook = some (excClassObj nmo0 qo0 xBadBook N_o0 bso0 [.ref xSayError, .type "ValueError", .type "Exception", .type "BaseException", .type "object"] true sno0 subo0 abo0 colo0 ddo0 m0o0 m1o0 m2o0 m3o0 m5o0 "ValueError.__new__"))
    (o0_sa : PySem.W.findIn K (.ref xBadBook) "__setattr__" = some (some (.builtin "object.__setattr__")))
    (o0_iC : PySem.W.findIn K (.ref xBadBook) "__init__" = some (some (.ref fIo0)))
    (o0_tC : PySem.W.typeIn K (.ref fIo0) = some (.type "function"))
    (o0_kC : PySem.W.keepIn K (.ref xBadBook) = true)
    (o0_tyC : PySem.W.typeIn K (.ref xBadBook) = some (.type "type"))
    (o0_sup : PySem.W.ks_superIn K xBadBook xBadBook "__init__" = some (some (.builtin "ValueError.__init__")))
    (o0_subV : PySem.W.subIn K (.ref xBadBook) (.type "ValueError") = some true)
    (o0_subE : PySem.W.subIn K (.ref xBadBook) (.type "BaseException") = some true)
    (o0_any : PySem.W.nsIn K cStatics "thirdparty.any" = some none)
    (o0_main : (l.prog.main.scope.names.lookup ("super" : Str)).isSome = false)
    (o0_fn : K.lookup fIo0 = some ⟨oIo0, odIo0, .func (PySem.W.ksFn "__init__" "BadBook.__init__" PySem.XBadBook.iA PySem.XBadBook.iB PySem.XBadBook.iS .none .none dcIo0 pmIo0 anIo0 (.ref cdIo0) ctIo0 ccIo0), slIo0⟩)
    (o0_cd : PySem.W.codeIn K (.ref cdIo0) "BadBook.__init__" = true)
    (o0_cell : K.lookup ccIo0 = some ⟨clIo0, cldIo0, .cell (some (.ref xBadBook)), cslIo0⟩)
    (o0_code : K.lookup cdIo0 = some ⟨cclIo0, cddIo0, .fields vsIo0, ccsIo0⟩)
    (o0_vs : vsIo0[2]? = some (.str flIo0 tfIo0))
    (o0_file : ((l.prog.main.file : Str) == flIo0) = true)
    (o0_no0 : PySem.W.findIn K (.ref xBadBook) "part" = some none)
    (o0_no1 : PySem.W.findIn K (.ref xBadBook) "number" = some none)
    (l_code : K.lookup cL = some ⟨.type "code", cddL, .fields vsL, cslL⟩)
    (l_vs : vsL[11]? = some (.ref Pt))
    (l_v11 : vsL.getD 11 .none = .ref Pt)
    (l_v18 : vsL.getD 18 .none = .str lf18 lt18)
    (l_v7 : vsL.getD 7 .none = .int li7 lt7)
    (l_v9 : vsL.getD 9 .none = .bool lb9)
    (l_v10 : vsL.getD 10 .none = .int li10 lt10)
    (l_ne : cL ≠ Pt)
    (l_no : K.lookup Pt = none)
    (gSayer : PySem.W.nsIn K mainGlobals "Sayer" = some (some (.ref ySayer)))
    (C_pg : PySem.W.plainGet K ySayer Str.empty = true)
    (C_hd : PySem.W.hasDictIn K ySayer = true)
    (C_po : PySem.W.plainOver K ySayer = true)
    (C_sa : PySem.W.findIn K (.ref ySayer) "__setattr__" = some (some (.builtin "object.__setattr__")))
    (C_mk : PySem.W.makesIn K ySayer = true)
    (C_kc : PySem.W.keepIn K (.ref ySayer) = true)
    (C_n0 : PySem.W.findIn K (.ref ySayer) "_book" = some none)
    (gDesk : PySem.W.nsIn K mainGlobals "Desk" = some (some (.ref yDesk)))
    (C2_pg : PySem.W.plainGet K yDesk Str.empty = true)
    (C2_hd : PySem.W.hasDictIn K yDesk = true)
    (C2_po : PySem.W.plainOver K yDesk = true)
    (C2_sa : PySem.W.findIn K (.ref yDesk) "__setattr__" = some (some (.builtin "object.__setattr__")))
    (C2_mk : PySem.W.makesIn K yDesk = true)
    (C2_kc : PySem.W.keepIn K (.ref yDesk) = true)
    (C2_n0 : PySem.W.findIn K (.ref yDesk) "_book" = some none)
    : LamX.LawAtS l w K CX0 10 63 "_law_script" mg fa h := by
  have e := hfa.symm.trans (PySem.W.mg_of X G a_law)
  cases e
  have B : Bn mg := ⟨PySem.W.mg_none_of X G z_len, PySem.W.mg_none_of X G z_range, PySem.W.mg_none_of X G z_tuple, PySem.W.mg_none_of X G z_list, PySem.W.mg_none_of X G z_isinstance, PySem.W.mg_none_of X G z_str, PySem.W.mg_none_of X G z_all, PySem.W.mg_none_of X G z_enumerate, PySem.W.mg_none_of X G z_sorted, PySem.W.mg_none_of X G z_bool⟩
  have C : Cn mg := ⟨⟨_, PySem.W.mg_of X G c_small⟩, ⟨_, PySem.W.mg_of X G c_caps⟩, ⟨_, PySem.W.mg_of X G c_edge⟩, ⟨_, PySem.W.mg_of X G c_mrul⟩, ⟨_, PySem.W.mg_of X G c_lexc⟩, ⟨_, PySem.W.mg_of X G c_lrs⟩, ⟨_, PySem.W.mg_of X G c_lso⟩⟩
  have KI_MOST_EXCEPTIONS : KI mg "MOST_EXCEPTIONS" 8 := ⟨_, PySem.W.mg_of X G c_imost_exceptions⟩
  have KI_LONGEST_WORD : KI mg "LONGEST_WORD" 12 := ⟨_, PySem.W.mg_of X G c_ilongest_word⟩
  have KI_OWN : KI mg "OWN" 1 := ⟨_, PySem.W.mg_of X G c_iown⟩
  have KI_SOUNDS : KI mg "SOUNDS" 3 := ⟨_, PySem.W.mg_of X G c_isounds⟩
  have KI_SETTLING : KI mg "SETTLING" 4 := ⟨_, PySem.W.mg_of X G c_isettling⟩
  have KI_MOST_SAMPLES : KI mg "MOST_SAMPLES" 12 := ⟨_, PySem.W.mg_of X G c_imost_samples⟩
  have KI_LONG : KI mg "LONG" 5 := ⟨_, PySem.W.mg_of X G c_ilong⟩
  have KI_LONGEST_WRITING : KI mg "LONGEST_WRITING" 7 := ⟨_, PySem.W.mg_of X G c_ilongest_writing⟩
  have KI_LEADS : KI mg "LEADS" 2 := ⟨_, PySem.W.mg_of X G c_ileads⟩
  have KI_NO_BOOK : KI mg "NO_BOOK" (-1) := ⟨_, PySem.W.mg_of X G c_ino_book⟩
  have KI_LETTERS : KI mg "LETTERS" 0 := ⟨_, PySem.W.mg_of X G c_iletters⟩
  have KI_RULES : KI mg "RULES" 1 := ⟨_, PySem.W.mg_of X G c_irules⟩
  have KI_EXCEPTIONS : KI mg "EXCEPTIONS" 2 := ⟨_, PySem.W.mg_of X G c_iexceptions⟩
  have EC_BadBook : ExcC K xBadBook := ⟨BadBook_ga, BadBook_gg, BadBook_ex, BadBook_hd, BadBook_ha, x_hn, x_ht, BadBook_hm⟩
  have WC_BadBook : WordC K mg xBadBook 0 := { say := ⟨_, PySem.W.mg_of X G gSayError, PySem.W.exm_ref eS1 eS2 eS3 BadBook_e4⟩, book := ⟨_, PySem.W.mg_of X G gBadBook, BadBook_kBadBook⟩, word := ⟨_, PySem.W.mg_of X G gBadWord, BadBook_kBadWord⟩, snds := ⟨_, PySem.W.mg_of X G gBadSounds, BadBook_kBadSounds⟩, coun := ⟨_, PySem.W.mg_of X G gBadCount, BadBook_kBadCount⟩, uns := ⟨_, PySem.W.mg_of X G gUnsaid, BadBook_kUnsaid⟩, lett := ⟨_, PySem.W.mg_of X G gNoLetter, BadBook_kNoLetter⟩, exce := ⟨_, PySem.W.mg_of X G gNoException, BadBook_kNoException⟩, othe := ⟨_, PySem.W.mg_of X G gOtherLetters, BadBook_kOtherLetters⟩, samp := ⟨_, PySem.W.mg_of X G gBadSamples, BadBook_kBadSamples⟩, deed := ⟨_, PySem.W.mg_of X G gBadDeed, BadBook_kBadDeed⟩, halt := ⟨_, PySem.W.mg_of X G gHalted, BadBook_kHalted⟩, text := ⟨_, PySem.W.mg_of X G gBadText, BadBook_kBadText⟩, val := PySem.W.mg_none_of X G z_ValueError, kv := BadBook_kV, exc := EC_BadBook, xf := ⟨BadBook_ga, BadBook_gg, BadBook_ex, BadBook_hd⟩, noP := BadBook_noP, noN := BadBook_noN, noA := BadBook_noA, noD := BadBook_noD, noR := BadBook_noR }
  have EC_Unsaid : ExcC K xUnsaid := ⟨Unsaid_ga, Unsaid_gg, Unsaid_ex, Unsaid_hd, Unsaid_ha, x_hn, x_ht, Unsaid_hm⟩
  have WC_Unsaid : WordC K mg xUnsaid 4 := { say := ⟨_, PySem.W.mg_of X G gSayError, PySem.W.exm_ref eS1 eS2 eS3 Unsaid_e4⟩, book := ⟨_, PySem.W.mg_of X G gBadBook, Unsaid_kBadBook⟩, word := ⟨_, PySem.W.mg_of X G gBadWord, Unsaid_kBadWord⟩, snds := ⟨_, PySem.W.mg_of X G gBadSounds, Unsaid_kBadSounds⟩, coun := ⟨_, PySem.W.mg_of X G gBadCount, Unsaid_kBadCount⟩, uns := ⟨_, PySem.W.mg_of X G gUnsaid, Unsaid_kUnsaid⟩, lett := ⟨_, PySem.W.mg_of X G gNoLetter, Unsaid_kNoLetter⟩, exce := ⟨_, PySem.W.mg_of X G gNoException, Unsaid_kNoException⟩, othe := ⟨_, PySem.W.mg_of X G gOtherLetters, Unsaid_kOtherLetters⟩, samp := ⟨_, PySem.W.mg_of X G gBadSamples, Unsaid_kBadSamples⟩, deed := ⟨_, PySem.W.mg_of X G gBadDeed, Unsaid_kBadDeed⟩, halt := ⟨_, PySem.W.mg_of X G gHalted, Unsaid_kHalted⟩, text := ⟨_, PySem.W.mg_of X G gBadText, Unsaid_kBadText⟩, val := PySem.W.mg_none_of X G z_ValueError, kv := Unsaid_kV, exc := EC_Unsaid, xf := ⟨Unsaid_ga, Unsaid_gg, Unsaid_ex, Unsaid_hd⟩, noP := Unsaid_noP, noN := Unsaid_noN, noA := Unsaid_noA, noD := Unsaid_noD, noR := Unsaid_noR }
  have U : PySem.UnsX.UnsTxt l.prog K mg xUnsaid fI := { gC := PySem.W.mg_of X G gUnsaid, sB := PySem.W.mg_none_of X G z_super, cls := ⟨_, _, _, _, _, _, _, _, _, _, _, _, _, _, _, xU, rfl⟩, sa := u_sa, noP := Unsaid_noP, iC := u_iC, tC := u_tC, kC := u_kC, exC := Unsaid_ex, tyC := u_tyC, sup := u_sup, subV := u_subV, any := u_any, main := u_main, fn := ⟨_, _, _, _, _, _, _, _, _, u_fn, u_cd, ⟨_, _, _, u_cell⟩, _, _, _, _, _, _, u_code, u_vs, u_file⟩ }
  have O_BadBook : PySem.XBadBook.ExTxt l.prog K mg xBadBook fIo0 := { gC := PySem.W.mg_of X G gBadBook, sB := PySem.W.mg_none_of X G z_super, cls := ⟨_, _, _, _, _, _, _, _, _, _, _, _, _, _, _, o0_x, rfl⟩, sa := o0_sa, noP0 := o0_no0, noP1 := o0_no1, iC := o0_iC, tC := o0_tC, kC := o0_kC, exC := o0_subE, tyC := o0_tyC, sup := o0_sup, subV := o0_subV, any := o0_any, main := o0_main, fn := ⟨_, _, _, _, _, _, _, _, _, o0_fn, o0_cd, ⟨_, _, _, o0_cell⟩, _, _, _, _, _, _, o0_code, o0_vs, o0_file⟩ }
  have hPt : h.get? Pt = some { cls := .none, data := .fields #[] } := OT cL Pt _ _ _ _ _ _ l_law rfl rfl l_code l_vs
  refine ⟨PySem.W.fnOf "law" "law" (defArgs sLaw) (defBody sLaw) (defScope sLaw) .none kVL dcL pmL anL (.ref cL) ctL, [(cL, Pt)], spLawT K Pt, fun p hp => ?_, fun p hp => ?_, fun p hp => ?_, fun s v => .of_eq rfl, fun H a ns hl _ hH hS => ?_, fun base _ _ TB => ?_⟩
  · rw [List.mem_singleton.mp hp]; exact hPt
  · rw [List.mem_singleton.mp hp]; exact l_no
  · rw [List.mem_singleton.mp hp]; exact ⟨_, _, _, _, _, _, _, _, _, X _ _ l_code, rfl, rfl, l_vs, l_v11, l_v18, l_v7, l_v9, l_v10, l_ne⟩
  · exact ⟨a, ns, rfl, hS, hl, hH _ (List.mem_singleton.mpr rfl), fun _ => rfl⟩
  obtain ⟨d42, F42, _⟩ := S42.fn
  have m42 := PySem.W.mg_of X G S42.ns
  have b42 := F42.binds (ps := ["text", "signs", "least", "most"]) fun _ _ _ _ _ _ us hl => match us, hl with | [_, _, _, _], _ => rfl
  have D_is_text : Df l.prog w K mg base "is_text" ["text", "signs", "least", "most"] 1 spIsText := ⟨_, _, ok_isText F42 B, F42.kp, b42, m42⟩
  obtain ⟨d43, F43, _⟩ := S43.fn
  have m43 := PySem.W.mg_of X G S43.ns
  have b43 := F43.binds (ps := ["text"]) fun _ _ _ _ _ _ us hl => match us, hl with | [_], _ => rfl
  have D_is_rising : Df l.prog w K mg base "is_rising" ["text"] 1 spRise := ⟨_, _, ok_rise F43 B, F43.kp, b43, m43⟩
  obtain ⟨d38, F38, _⟩ := S38.fn
  have m38 := PySem.W.mg_of X G S38.ns
  have b38 := F38.binds (ps := ["letters", "signs"]) fun _ _ _ _ _ _ us hl => match us, hl with | [_, _], _ => rfl
  have D_is_beside : Df l.prog w K mg base "is_beside" ["letters", "signs"] 2 spBeside := ⟨_, _, ok_beside F38 B C D_is_text D_is_rising, F38.kp, b38, m38⟩
  obtain ⟨d37, F37, _⟩ := S37.fn
  have m37 := PySem.W.mg_of X G S37.ns
  have b37 := F37.binds (ps := ["letters", "rule"]) fun _ _ _ _ _ _ us hl => match us, hl with | [_, _], _ => rfl
  have D_is_rule : Df l.prog w K mg base "is_rule" ["letters", "rule"] 3 spIsRule := ⟨_, _, ok_isRule F37 B C D_is_text D_is_beside, F37.kp, b37, m37⟩
  obtain ⟨d40, F40, _⟩ := S40.fn
  have m40 := PySem.W.mg_of X G S40.ns
  have b40 := F40.binds (ps := ["letters", "word"]) fun _ _ _ _ _ _ us hl => match us, hl with | [_, _], _ => rfl
  have D_is_excepted : Df l.prog w K mg base "is_excepted" ["letters", "word"] 2 spExcd := ⟨_, _, ok_excd F40 C D_is_text, F40.kp, b40, m40⟩
  obtain ⟨d41, F41, _⟩ := S41.fn
  have m41 := PySem.W.mg_of X G S41.ns
  have b41 := F41.binds (ps := ["sounds"]) fun _ _ _ _ _ _ us hl => match us, hl with | [_], _ => rfl
  have D_is_sounds : Df l.prog w K mg base "is_sounds" ["sounds"] 2 spIsSo := ⟨_, _, ok_isSo F41 C D_is_text, F41.kp, b41, m41⟩
  obtain ⟨d39, F39, _⟩ := S39.fn
  have m39 := PySem.W.mg_of X G S39.ns
  have b39 := F39.binds (ps := ["letters", "pair"]) fun _ _ _ _ _ _ us hl => match us, hl with | [_, _], _ => rfl
  have D_is_exception : Df l.prog w K mg base "is_exception" ["letters", "pair"] 3 spIsExc := ⟨_, _, ok_isExc F39 B D_is_excepted D_is_sounds, F39.kp, b39, m39⟩
  obtain ⟨d31, F31, _⟩ := S31.fn
  have m31 := PySem.W.mg_of X G S31.ns
  have b31 := F31.binds (ps := ["letters"]) fun _ _ _ _ _ _ us hl => match us, hl with | [_], _ => rfl
  have D_check_letters : Df l.prog w K mg base "check_letters" ["letters"] 2 spChL := ⟨_, _, ok_chL F31 C D_is_text D_is_rising, F31.kp, b31, m31⟩
  obtain ⟨d34, F34, _⟩ := S34.fn
  have m34 := PySem.W.mg_of X G S34.ns
  have b34 := F34.binds (ps := ["letters", "word"]) fun _ _ _ _ _ _ us hl => match us, hl with | [_, _], _ => rfl
  have D_check_word : Df l.prog w K mg base "check_word" ["letters", "word"] 2 spChW := ⟨_, _, ok_chW F34 KI_LONGEST_WORD D_is_text, F34.kp, b34, m34⟩
  obtain ⟨d32, F32, _⟩ := S32.fn
  have m32 := PySem.W.mg_of X G S32.ns
  have b32 := F32.binds (ps := ["letters", "rules"]) fun _ _ _ _ _ _ us hl => match us, hl with | [_, _], _ => rfl
  have D_check_rules : Df l.prog w K mg base "check_rules" ["letters", "rules"] 4 spChR := ⟨_, _, ok_chR F32 B C D_is_rule, F32.kp, b32, m32⟩
  obtain ⟨d33, F33, _⟩ := S33.fn
  have m33 := PySem.W.mg_of X G S33.ns
  have b33 := F33.binds (ps := ["letters", "exceptions"]) fun _ _ _ _ _ _ us hl => match us, hl with | [_, _], _ => rfl
  have D_check_exceptions : Df l.prog w K mg base "check_exceptions" ["letters", "exceptions"] 4 spChE := ⟨_, _, ok_chE F33 B KI_MOST_EXCEPTIONS D_is_exception, F33.kp, b33, m33⟩
  obtain ⟨d30, F30, _⟩ := S30.fn
  have m30 := PySem.W.mg_of X G S30.ns
  have b30 := F30.binds (ps := ["book"]) fun _ _ _ _ _ _ us hl => match us, hl with | [_], _ => rfl
  have D_checked_book : Df l.prog w K mg base "checked_book" ["book"] 5 spCh := ⟨_, _, ok_ch F30 B D_check_letters D_check_rules D_check_exceptions, F30.kp, b30, m30⟩
  obtain ⟨d49, F49, _⟩ := S49.fn
  have m49 := PySem.W.mg_of X G S49.ns
  have b49 := F49.binds (ps := ["rule", "signs", "at"]) fun _ _ _ _ _ _ us hl => match us, hl with | [_, _, _], _ => rfl
  have D_fits : Df l.prog w K mg base "fits" ["rule", "signs", "at"] 1 spFits := ⟨_, _, ok_fits F49 B, F49.kp, b49, m49⟩
  obtain ⟨d50, F50, _⟩ := S50.fn
  have m50 := PySem.W.mg_of X G S50.ns
  have b50 := F50.binds (ps := ["rules", "signs", "at"]) fun _ _ _ _ _ _ us hl => match us, hl with | [_, _, _], _ => rfl
  have D_first_fit : Df l.prog w K mg base "first_fit" ["rules", "signs", "at"] 2 spFF := ⟨_, _, ok_FF F50 B D_fits, F50.kp, b50, m50⟩
  obtain ⟨d51, F51, _⟩ := S51.fn
  have m51 := PySem.W.mg_of X G S51.ns
  have b51 := F51.binds (ps := ["rules", "tail"]) fun _ _ _ _ _ _ us hl => match us, hl with | [_, _], _ => rfl
  have D_steps_of : Df l.prog w K mg base "steps_of" ["rules", "tail"] 3 spSt := ⟨_, _, ok_St F51 B C KI_OWN D_first_fit, F51.kp, b51, m51⟩
  obtain ⟨d61, F61, _⟩ := S61.fn
  have m61 := PySem.W.mg_of X G S61.ns
  have b61 := F61.binds (ps := ["rules", "word"]) fun _ _ _ _ _ _ us hl => match us, hl with | [_, _], _ => rfl
  have G_walked := ok_wdR (base := base) (w := w) (P := l.prog) F61 C U D_steps_of
  obtain ⟨d56, F56, _⟩ := S56.fn
  have m56 := PySem.W.mg_of X G S56.ns
  have b56 := F56.binds (ps := ["steps"]) fun _ _ _ _ _ _ us hl => match us, hl with | [_], _ => rfl
  have D_numbers_of : Df l.prog w K mg base "numbers_of" ["steps"] 1 spNum := ⟨_, _, ok_num F56, F56.kp, b56, m56⟩
  obtain ⟨d57, F57, _⟩ := S57.fn
  have m57 := PySem.W.mg_of X G S57.ns
  have b57 := F57.binds (ps := ["rules", "numbers"]) fun _ _ _ _ _ _ us hl => match us, hl with | [_, _], _ => rfl
  have D_sounds_of : Df l.prog w K mg base "sounds_of" ["rules", "numbers"] 1 spSou := ⟨_, _, ok_sou F57 KI_SOUNDS, F57.kp, b57, m57⟩
  obtain ⟨d60, F60, _⟩ := S60.fn
  have m60 := PySem.W.mg_of X G S60.ns
  have b60 := F60.binds (ps := ["book", "word"]) fun _ _ _ _ _ _ us hl => match us, hl with | [_, _], _ => rfl
  have G_said := ok_saidR F60 D_checked_book D_check_word G_walked F61.kp b61 m61 D_numbers_of D_sounds_of
  obtain ⟨d59, F59, _⟩ := S59.fn
  have m59 := PySem.W.mg_of X G S59.ns
  have b59 := F59.binds (ps := ["book", "word"]) fun _ _ _ _ _ _ us hl => match us, hl with | [_, _], _ => rfl
  have G_walk := ok_walkR F59 D_checked_book D_check_word G_walked F61.kp b61 m61
  obtain ⟨d82, F82, _⟩ := S82.fn
  have m82 := PySem.W.mg_of X G S82.ns
  obtain ⟨d83, F83, _⟩ := S83.fn
  have m83 := PySem.W.mg_of X G S83.ns
  obtain ⟨d84, F84, _⟩ := S84.fn
  have m84 := PySem.W.mg_of X G S84.ns
  obtain ⟨d85, F85, _⟩ := S85.fn
  have m85 := PySem.W.mg_of X G S85.ns
  obtain ⟨d81, F81, _⟩ := S81.fn
  have m81 := PySem.W.mg_of X G S81.ns
  obtain ⟨d80, F80, _⟩ := S80.fn
  have m80 := PySem.W.mg_of X G S80.ns
  obtain ⟨d108, F108, _⟩ := S108.fn
  have m108 := PySem.W.mg_of X G S108.ns
  obtain ⟨d100, F100, _⟩ := S100.fn
  have m100 := PySem.W.mg_of X G S100.ns
  obtain ⟨d98, F98, _⟩ := S98.fn
  have m98 := PySem.W.mg_of X G S98.ns
  obtain ⟨d99, F99, _⟩ := S99.fn
  have m99 := PySem.W.mg_of X G S99.ns
  obtain ⟨d65, F65⟩ := S65.fn
  have m65 := PySem.W.mg_of X G S65.ns
  have G_writings := trivial
  obtain ⟨d111, F111, _⟩ := S111.fn
  have m111 := PySem.W.mg_of X G S111.ns
  have b111 := F111.binds (ps := ["_law_script"]) fun _ _ _ _ _ _ us hl => match us, hl with | [_], _ => rfl
  have D__law_row : Df l.prog w K mg base "_law_row" ["_law_script"] 1 (spRow K) := ⟨_, _, ok_row F111, F111.kp, b111, m111⟩
  obtain ⟨d112, F112, _⟩ := S112.fn
  have m112 := PySem.W.mg_of X G S112.ns
  have b112 := F112.binds (ps := ["_law_row_here", "_law_many"]) fun _ _ _ _ _ _ us hl => match us, hl with | [_, _], _ => rfl
  have D__law_taken : Df l.prog w K mg base "_law_taken" ["_law_row_here", "_law_many"] 1 (spTaken K) := ⟨_, _, ok_taken F112 B.len, F112.kp, b112, m112⟩
  obtain ⟨d113, F113, _⟩ := S113.fn
  have m113 := PySem.W.mg_of X G S113.ns
  have b113 := F113.binds (ps := ["_law_row_here"]) fun _ _ _ _ _ _ us hl => match us, hl with | [_], _ => rfl
  have D__law_letters : Df l.prog w K mg base "_law_letters" ["_law_row_here"] 2 (spLetters K) := ⟨_, _, ok_letters F113 D__law_taken, F113.kp, b113, m113⟩
  obtain ⟨d116, F116, _⟩ := S116.fn
  have m116 := PySem.W.mg_of X G S116.ns
  have b116 := F116.binds (ps := ["_law_row_here", "_law_letters_here"]) fun _ _ _ _ _ _ us hl => match us, hl with | [_, _], _ => rfl
  have D__law_side : Df l.prog w K mg base "_law_side" ["_law_row_here", "_law_letters_here"] 2 (spSide K) := ⟨_, _, ok_side F116 D__law_taken, F116.kp, b116, m116⟩
  obtain ⟨d115, F115, _⟩ := S115.fn
  have m115 := PySem.W.mg_of X G S115.ns
  have b115 := F115.binds (ps := ["_law_row_here", "_law_signs", "_law_fewest", "_law_many"]) fun _ _ _ _ _ _ us hl => match us, hl with | [_, _, _, _], _ => rfl
  have D__law_text : Df l.prog w K mg base "_law_text" ["_law_row_here", "_law_signs", "_law_fewest", "_law_many"] 2 (spText K) := ⟨_, _, ok_text F115 D__law_taken B.len B.rng, F115.kp, b115, m115⟩
  obtain ⟨d117, F117, _⟩ := S117.fn
  have m117 := PySem.W.mg_of X G S117.ns
  have b117 := F117.binds (ps := ["_law_row_here", "_law_letters_here"]) fun _ _ _ _ _ _ us hl => match us, hl with | [_, _], _ => rfl
  have D__law_rule : Df l.prog w K mg base "_law_rule" ["_law_row_here", "_law_letters_here"] 3 (spRule K) := ⟨_, _, ok_rule F117 D__law_taken D__law_side D__law_text, F117.kp, b117, m117⟩
  obtain ⟨d118, F118, _⟩ := S118.fn
  have m118 := PySem.W.mg_of X G S118.ns
  have b118 := F118.binds (ps := ["_law_row_here", "_law_letters_here", "_law_most"]) fun _ _ _ _ _ _ us hl => match us, hl with | [_, _, _], _ => rfl
  have D__law_rules : Df l.prog w K mg base "_law_rules" ["_law_row_here", "_law_letters_here", "_law_most"] 4 (spRules K) := ⟨_, _, ok_rules F118 D__law_taken D__law_rule B.rng B.tup, F118.kp, b118, m118⟩
  obtain ⟨d114, F114, _⟩ := S114.fn
  have m114 := PySem.W.mg_of X G S114.ns
  have b114 := F114.binds (ps := ["_law_row_here", "_law_letters_here", "_law_rules_here"]) fun _ _ _ _ _ _ us hl => match us, hl with | [_, _, _], _ => rfl
  have D__law_odd_book : Df l.prog w K mg base "_law_odd_book" ["_law_row_here", "_law_letters_here", "_law_rules_here"] 2 (spOdd K) := ⟨_, _, ok_odd F114 B D__law_taken, F114.kp, b114, m114⟩
  obtain ⟨d121, F121, _⟩ := S121.fn
  have m121 := PySem.W.mg_of X G S121.ns
  have b121 := F121.binds (ps := ["_law_rule_here", "_law_word_here", "_law_place"]) fun _ _ _ _ _ _ us hl => match us, hl with | [_, _, _], _ => rfl
  have D__law_fits : Df l.prog w K mg base "_law_fits" ["_law_rule_here", "_law_word_here", "_law_place"] 1 spLF := ⟨_, _, ok_LF F121 B, F121.kp, b121, m121⟩
  obtain ⟨d122, F122, _⟩ := S122.fn
  have m122 := PySem.W.mg_of X G S122.ns
  have b122 := F122.binds (ps := ["_law_rules_here", "_law_word_here"]) fun _ _ _ _ _ _ us hl => match us, hl with | [_, _], _ => rfl
  have D__law_walk : Df l.prog w K mg base "_law_walk" ["_law_rules_here", "_law_word_here"] 2 spLW := ⟨_, _, ok_LW F122 B D__law_fits, F122.kp, b122, m122⟩
  obtain ⟨d123, F123, _⟩ := S123.fn
  have m123 := PySem.W.mg_of X G S123.ns
  have b123 := F123.binds (ps := ["_law_book", "_law_word_here"]) fun _ _ _ _ _ _ us hl => match us, hl with | [_, _], _ => rfl
  have D__law_said : Df l.prog w K mg base "_law_said" ["_law_book", "_law_word_here"] 3 spLS := ⟨_, _, ok_LS F123 D__law_walk, F123.kp, b123, m123⟩
  obtain ⟨d120, F120, _⟩ := S120.fn
  have m120 := PySem.W.mg_of X G S120.ns
  obtain ⟨d119, F119, _⟩ := S119.fn
  have m119 := PySem.W.mg_of X G S119.ns
  have b119 := F119.binds (ps := ["_law_found", "_law_due"]) fun _ _ _ _ _ _ us hl => match us, hl with | [_, _], _ => rfl
  have D__law_alike : Df l.prog w K mg base "_law_alike" ["_law_found", "_law_due"] 4 (spAl K 4) := ⟨_, _, al_all F119 b119 m119 B 4, F119.kp, b119, m119⟩
  have S : CsK K ySayer := ⟨⟨C_pg, C_hd, C_po, C_sa⟩, C_n0⟩
  obtain ⟨dSyI, FSyI, _⟩ := MSyI.fn
  have mSyI := MSyI.me
  have bSyI := FSyI.binds (ps := ["self", "book"]) fun _ _ _ _ _ _ us hl => match us, hl with | [_, _], _ => rfl
  have GSyI := trivial
  have Mk_ : Mk K ySayer gSyI := ⟨C_mk, mSyI.at_, mSyI.fn, C_kc⟩
  have S2 : CsK K yDesk := ⟨⟨C2_pg, C2_hd, C2_po, C2_sa⟩, C2_n0⟩
  obtain ⟨dDkI, FDkI, _⟩ := MDkI.fn
  have mDkI := MDkI.me
  have bDkI := FDkI.binds (ps := ["self", "book"]) fun _ _ _ _ _ _ us hl => match us, hl with | [_, _], _ => rfl
  have GDkI := trivial
  have Mk2_ : Mk K yDesk gDkI := ⟨C2_mk, mDkI.at_, mDkI.fn, C2_kc⟩
  have V1 : Df l.prog w K mg base "is_text" ["text", "signs", "least", "most"] 1 (spTxV K) := ⟨_, _, ok_txV F42 B, F42.kp, b42, m42⟩
  have V2 : Df l.prog w K mg base "is_beside" ["letters", "signs"] 2 (spBesV K) := ⟨_, _, ok_besV F38 B C V1 D_is_rising, F38.kp, b38, m38⟩
  have V3 : Df l.prog w K mg base "is_rule" ["letters", "rule"] 3 (spIsRuV K) := ⟨_, _, ok_isRuV F37 B C V1 V2, F37.kp, b37, m37⟩
  have V4 : Df l.prog w K mg base "is_excepted" ["letters", "word"] 2 (spExdV K) := ⟨_, _, ok_exdV F40 C V1, F40.kp, b40, m40⟩
  have V5 : Df l.prog w K mg base "is_sounds" ["sounds"] 2 (spSoV K) := ⟨_, _, ok_soV F41 C V1, F41.kp, b41, m41⟩
  have V6 : Df l.prog w K mg base "is_exception" ["letters", "pair"] 3 (spIsExV K) := ⟨_, _, ok_isExV F39 B V4 V5, F39.kp, b39, m39⟩
  have G7 := ok_chLV (w := w) (base := base) F31 C KI_LETTERS O_BadBook V1 D_is_rising
  have G8 := ok_chRV (w := w) (base := base) F32 B C KI_RULES O_BadBook V3
  have G9 := ok_chEV (w := w) (base := base) F33 B KI_MOST_EXCEPTIONS KI_EXCEPTIONS O_BadBook V6
  have G10 := ok_chV (w := w) (base := base) F30 B KI_NO_BOOK O_BadBook G7 F31.kp b31 m31 G8 F32.kp b32 m32 G9 F33.kp b33 m33
  have b82 := F82.binds (ps := ["book"]) fun _ _ _ _ _ _ us hl => match us, hl with | [_], _ => rfl
  have b83 := F83.binds (ps := ["book"]) fun _ _ _ _ _ _ us hl => match us, hl with | [_], _ => rfl
  have b84 := F84.binds (ps := ["book"]) fun _ _ _ _ _ _ us hl => match us, hl with | [_], _ => rfl
  have b85 := F85.binds (ps := ["book"]) fun _ _ _ _ _ _ us hl => match us, hl with | [_], _ => rfl
  have b108 := F108.binds (ps := ["book"]) fun _ _ _ _ _ _ us hl => match us, hl with | [_], _ => rfl
  have b81 := F81.binds (ps := ["book", "number"]) fun _ _ _ _ _ _ us hl => match us, hl with | [_, _], _ => rfl
  have b80 := F80.binds (ps := ["one", "other"]) fun _ _ _ _ _ _ us hl => match us, hl with | [_, _], _ => rfl
  have b100 := F100.binds (ps := ["letters", "rules", "samples"]) fun _ _ _ _ _ _ us hl => match us, hl with | [_, _, _], _ => rfl
  have b98 := F98.binds (ps := ["letters", "rules", "samples"]) fun _ _ _ _ _ _ us hl => match us, hl with | [_, _, _], _ => rfl
  have b99 := F99.binds (ps := ["letters", "rules", "samples"]) fun _ _ _ _ _ _ us hl => match us, hl with | [_, _, _], _ => rfl
  have GD_saidx := door_said F60 G10 F30.kp b30 m30
  have GD_walkx := door_walk F59 G10 F30.kp b30 m30
  have GD_unsaidx := door_unsaid F82 G10 F30.kp b30 m30
  have GD_idlex := door_idle F83 G10 F30.kp b30 m30
  have GD_freex := door_free F84 G10 F30.kp b30 m30
  have GD_needlessx := door_needless F85 G10 F30.kp b30 m30
  have GD_writtenx := door_written F108 G10 F30.kp b30 m30
  have GD_usex := door_use F81 G10 F30.kp b30 m30
  have GD_partedx := door_parted F80 G10 F30.kp b30 m30
  have GD_all := door_all F100 G7 F31.kp b31 m31 G8 F32.kp b32 m32
  have GD_leastx := door_least F98 GD_all F100.kp b100 m100
  have GD_blamedx := door_blamed F99 GD_all F100.kp b100 m100
  have GD_wr := door_writings F65 G10 F30.kp b30 m30
  have GD_sy := door_sayer FSyI G10 F30.kp b30 m30
  have GD_dk := door_desk FDkI G10 F30.kp b30 m30
  exact ok_law l_law c_law (TB _ (List.mem_singleton.mpr rfl)) B WC_BadBook WC_Unsaid F120 m120 GD_saidx F60.kp b60 m60 GD_walkx F59.kp b59 m59 GD_partedx F80.kp b80 m80 GD_usex F81.kp b81 m81 GD_idlex F83.kp b83 m83 GD_unsaidx F82.kp b82 m82 GD_freex F84.kp b84 m84 GD_needlessx F85.kp b85 m85 GD_writtenx F108.kp b108 m108 GD_leastx F98.kp b98 m98 GD_blamedx F99.kp b99 m99 F65 GD_wr m65 Mk_ GD_sy bSyI (PySem.W.mg_of X G gSayer) Mk2_ GD_dk bDkI (PySem.W.mg_of X G gDesk) G_said G_walk D__law_row D__law_letters D__law_odd_book D__law_rules D__law_alike D__law_said
end Say
open PySem PySem.W PyProof.Rows
local macro_rules
  | `(tactic| o_head $H) => `(tactic|
      refine holds_open (q := Say.qv) (loose := Say.lo) (N := 30000) (Yf := Hook.obs (kmHook Say.early.heap_39 Say.asL Say.ekL [1001])) (Ya := Hook.val (kmHook Say.early.heap_39 Say.asL Say.ekL [1001])) (YP := Hook.says (kmHook Say.early.heap_39 Say.asL Say.ekL [1001]))
        (Xt := Say.xt) (XP := XL Say.qv [])
        Say.leftT (Hook.of (kmHook Say.early.heap_39 Say.asL Say.ekL [1001])) (Hook.keeps (kmHook Say.early.heap_39 Say.asL Say.ekL [1001])) (fun s e => xl_of s (Bool.and_eq_true_iff.mp e).1) XL.keeps (by rfl) (by rfl) (by rfl)
        (fun s e => recFacts_of (Bool.and_eq_true_iff.mp e).2) (by rfl) (by first | assumption | decide +kernel) (by decide +kernel) ⟨rfl, rfl, rfl, rfl, rfl, by decide +kernel⟩ ?_ ?_)
set_option maxRecDepth 100000 in
set_option maxHeartbeats 0 in
theorem PySem.Challenge.cw_saylore_k03_books_refused_holds : PySem.Challenge.rw_saylore_k03_books_refused.Holds := by
  w_on; o_law; k_head
  · w_witness2
  k_fill
  refine LamX.walk_ofOwn (l := PySem.Challenge.rw_saylore_k03_books_refused) (n := 63) (k := 10) (x := "_law_script") (CX := fun _ => L2.CX0) rfl (by decide) rfl ⟨rfl, by decide, by decide⟩ (by decide +kernel) (fun w h Y => PySem.W.km_in_of Y) ?F (fun _ _ _ _ _ h => h)
  case F =>
    intro w mg fa h KY KX G hmg OT
    refine' Say.all_ok KX G hmg OT (Say.std_mk ?a42 ?l42 ?c42 ?k42) (Say.std_mk ?a43 ?l43 ?c43 ?k43) (Say.std_mk ?a38 ?l38 ?c38 ?k38) (Say.std_mk ?a37 ?l37 ?c37 ?k37) (Say.std_mk ?a40 ?l40 ?c40 ?k40) (Say.std_mk ?a41 ?l41 ?c41 ?k41) (Say.std_mk ?a39 ?l39 ?c39 ?k39) (Say.std_mk ?a31 ?l31 ?c31 ?k31) (Say.std_mk ?a34 ?l34 ?c34 ?k34) (Say.std_mk ?a32 ?l32 ?c32 ?k32) (Say.std_mk ?a33 ?l33 ?c33 ?k33) (Say.std_mk ?a30 ?l30 ?c30 ?k30) (Say.std_mk ?a49 ?l49 ?c49 ?k49) (Say.std_mk ?a50 ?l50 ?c50 ?k50) (Say.std_mk ?a51 ?l51 ?c51 ?k51) (Say.std_mk ?a61 ?l61 ?c61 ?k61) (Say.std_mk ?a56 ?l56 ?c56 ?k56) (Say.std_mk ?a57 ?l57 ?c57 ?k57) (Say.std_mk ?a60 ?l60 ?c60 ?k60) (Say.std_mk ?a59 ?l59 ?c59 ?k59) (Say.std_mk ?a82 ?l82 ?c82 ?k82) (Say.std_mk ?a83 ?l83 ?c83 ?k83) (Say.std_mk ?a84 ?l84 ?c84 ?k84) (Say.std_mk ?a85 ?l85 ?c85 ?k85) (Say.std_mk ?a81 ?l81 ?c81 ?k81) (Say.std_mk ?a80 ?l80 ?c80 ?k80) (Say.std_mk ?a108 ?l108 ?c108 ?k108) (Say.std_mk ?a100 ?l100 ?c100 ?k100) (Say.std_mk ?a98 ?l98 ?c98 ?k98) (Say.std_mk ?a99 ?l99 ?c99 ?k99) (Say.stdD_mk ?a65 ?l65 ?c65 ?k65 ?d65) (Say.std_mk ?a111 ?l111 ?c111 ?k111) (Say.std_mk ?a112 ?l112 ?c112 ?k112) (Say.std_mk ?a113 ?l113 ?c113 ?k113) (Say.std_mk ?a116 ?l116 ?c116 ?k116) (Say.std_mk ?a115 ?l115 ?c115 ?k115) (Say.std_mk ?a117 ?l117 ?c117 ?k117) (Say.std_mk ?a118 ?l118 ?c118 ?k118) (Say.std_mk ?a114 ?l114 ?c114 ?k114) (Say.std_mk ?a121 ?l121 ?c121 ?k121) (Say.std_mk ?a122 ?l122 ?c122 ?k122) (Say.std_mk ?a123 ?l123 ?c123 ?k123) (Say.std_mk ?a120 ?l120 ?c120 ?k120) (Say.std_mk ?a119 ?l119 ?c119 ?k119) (Say.mstd_mk ?a_SyI ?i_SyI ?l_SyI ?c_SyI ?k_SyI) (Say.mstd_mk ?a_DkI ?i_DkI ?l_DkI ?c_DkI ?k_DkI) ?a_law ?l_law ?c_law ?k_law ?z_len ?z_range ?z_tuple ?z_list ?z_isinstance ?z_str ?z_all ?z_enumerate ?z_sorted ?z_bool ?c_small ?c_caps ?c_edge ?c_mrul ?c_lexc ?c_lrs ?c_lso ?c_imost_exceptions ?c_ilongest_word ?c_iown ?c_isounds ?c_isettling ?c_imost_samples ?c_ilong ?c_ilongest_writing ?c_ileads ?c_ino_book ?c_iletters ?c_irules ?c_iexceptions ?z_super ?z_ValueError ?gSayError ?gBadBook ?gBadWord ?gBadSounds ?gBadCount ?gUnsaid ?gNoLetter ?gNoException ?gOtherLetters ?gBadSamples ?gBadDeed ?gHalted ?gBadText ?eS1 ?eS2 ?eS3 ?BadBook_e4 ?BadBook_kBadBook ?BadBook_kBadWord ?BadBook_kBadSounds ?BadBook_kBadCount ?BadBook_kUnsaid ?BadBook_kNoLetter ?BadBook_kNoException ?BadBook_kOtherLetters ?BadBook_kBadSamples ?BadBook_kBadDeed ?BadBook_kHalted ?BadBook_kBadText ?BadBook_kV ?BadBook_noP ?BadBook_noN ?BadBook_noA ?BadBook_noD ?BadBook_noR ?BadBook_ga ?BadBook_gg ?BadBook_hd ?BadBook_ex ?BadBook_ha ?BadBook_hm ?Unsaid_e4 ?Unsaid_kBadBook ?Unsaid_kBadWord ?Unsaid_kBadSounds ?Unsaid_kBadCount ?Unsaid_kUnsaid ?Unsaid_kNoLetter ?Unsaid_kNoException ?Unsaid_kOtherLetters ?Unsaid_kBadSamples ?Unsaid_kBadDeed ?Unsaid_kHalted ?Unsaid_kBadText ?Unsaid_kV ?Unsaid_noP ?Unsaid_noN ?Unsaid_noA ?Unsaid_noD ?Unsaid_noR ?Unsaid_ga ?Unsaid_gg ?Unsaid_hd ?Unsaid_ex ?Unsaid_ha ?Unsaid_hm ?x_hn ?x_ht ?xU ?u_sa ?u_iC ?u_tC ?u_kC ?u_tyC ?u_sup ?u_subV ?u_any ?u_main ?u_fn ?u_cd ?u_cell ?u_code ?u_vs ?u_file ?o0_x ?o0_sa ?o0_iC ?o0_tC ?o0_kC ?o0_tyC ?o0_sup ?o0_subV ?o0_subE ?o0_any ?o0_main ?o0_fn ?o0_cd ?o0_cell ?o0_code ?o0_vs ?o0_file ?o0_no0 ?o0_no1 ?l_code ?l_vs ?l_v11 ?l_v18 ?l_v7 ?l_v9 ?l_v10 ?l_ne ?l_no ?gSayer ?C_pg ?C_hd ?C_po ?C_sa ?C_mk ?C_kc ?C_n0 ?gDesk ?C2_pg ?C2_hd ?C2_po ?C2_sa ?C2_mk ?C2_kc ?C2_n0
    (case a_law => k_is); (case z_len => k_is); (case z_range => k_is); (case z_tuple => k_is); (case z_list => k_is); (case z_isinstance => k_is)
    (case z_str => k_is); (case z_all => k_is); (case z_enumerate => k_is); (case z_sorted => k_is); (case z_bool => k_is); (case c_small => k_is)
    (case c_caps => k_is); (case c_edge => k_is); (case c_mrul => k_is); (case c_lexc => k_is); (case c_lrs => k_is); (case c_lso => k_is)
    (case c_imost_exceptions => k_is); (case c_ilongest_word => k_is); (case c_iown => k_is); (case c_isounds => k_is); (case c_isettling => k_is); (case c_imost_samples => k_is)
    (case c_ilong => k_is); (case c_ilongest_writing => k_is); (case c_ileads => k_is); (case c_ino_book => k_is); (case c_iletters => k_is); (case c_irules => k_is)
    (case c_iexceptions => k_is); (case z_super => k_is); (case z_ValueError => k_is); (case gSayError => k_is); (case gBadBook => k_is); (case gBadWord => k_is)
    (case gBadSounds => k_is); (case gBadCount => k_is); (case gUnsaid => k_is); (case gNoLetter => k_is); (case gNoException => k_is); (case gOtherLetters => k_is)
    (case gBadSamples => k_is); (case gBadDeed => k_is); (case gHalted => k_is); (case gBadText => k_is); (case gSayer => k_is); (case gDesk => k_is)
    (case a42 => k_is); (case l42 => k_is); (case c42 => k_is); (case k42 => k_is); (case a43 => k_is); (case l43 => k_is)
    (case c43 => k_is); (case k43 => k_is); (case a38 => k_is); (case l38 => k_is); (case c38 => k_is); (case k38 => k_is)
    (case a37 => k_is); (case l37 => k_is); (case c37 => k_is); (case k37 => k_is); (case a40 => k_is); (case l40 => k_is)
    (case c40 => k_is); (case k40 => k_is); (case a41 => k_is); (case l41 => k_is); (case c41 => k_is); (case k41 => k_is)
    (case a39 => k_is); (case l39 => k_is); (case c39 => k_is); (case k39 => k_is); (case a31 => k_is); (case l31 => k_is)
    (case c31 => k_is); (case k31 => k_is); (case a34 => k_is); (case l34 => k_is); (case c34 => k_is); (case k34 => k_is)
    (case a32 => k_is); (case l32 => k_is); (case c32 => k_is); (case k32 => k_is); (case a33 => k_is); (case l33 => k_is)
    (case c33 => k_is); (case k33 => k_is); (case a30 => k_is); (case l30 => k_is); (case c30 => k_is); (case k30 => k_is)
    (case a49 => k_is); (case l49 => k_is); (case c49 => k_is); (case k49 => k_is); (case a50 => k_is); (case l50 => k_is)
    (case c50 => k_is); (case k50 => k_is); (case a51 => k_is); (case l51 => k_is); (case c51 => k_is); (case k51 => k_is)
    (case a61 => k_is); (case l61 => k_is); (case c61 => k_is); (case k61 => k_is); (case a56 => k_is); (case l56 => k_is)
    (case c56 => k_is); (case k56 => k_is); (case a57 => k_is); (case l57 => k_is); (case c57 => k_is); (case k57 => k_is)
    (case a60 => k_is); (case l60 => k_is); (case c60 => k_is); (case k60 => k_is); (case a59 => k_is); (case l59 => k_is)
    (case c59 => k_is); (case k59 => k_is); (case a82 => k_is); (case l82 => k_is); (case c82 => k_is); (case k82 => k_is)
    (case a83 => k_is); (case l83 => k_is); (case c83 => k_is); (case k83 => k_is); (case a84 => k_is); (case l84 => k_is)
    (case c84 => k_is); (case k84 => k_is); (case a85 => k_is); (case l85 => k_is); (case c85 => k_is); (case k85 => k_is)
    (case a81 => k_is); (case l81 => k_is); (case c81 => k_is); (case k81 => k_is); (case a80 => k_is); (case l80 => k_is)
    (case c80 => k_is); (case k80 => k_is); (case a108 => k_is); (case l108 => k_is); (case c108 => k_is); (case k108 => k_is)
    (case a100 => k_is); (case l100 => k_is); (case c100 => k_is); (case k100 => k_is); (case a98 => k_is); (case l98 => k_is)
    (case c98 => k_is); (case k98 => k_is); (case a99 => k_is); (case l99 => k_is); (case c99 => k_is); (case k99 => k_is)
    (case a65 => k_is); (case l65 => k_is); (case c65 => k_is); (case k65 => k_is); (case d65 => k_is); (case a111 => k_is)
    (case l111 => k_is); (case c111 => k_is); (case k111 => k_is); (case a112 => k_is); (case l112 => k_is); (case c112 => k_is)
    (case k112 => k_is); (case a113 => k_is); (case l113 => k_is); (case c113 => k_is); (case k113 => k_is); (case a116 => k_is)
    (case l116 => k_is); (case c116 => k_is); (case k116 => k_is); (case a115 => k_is); (case l115 => k_is); (case c115 => k_is)
    (case k115 => k_is); (case a117 => k_is); (case l117 => k_is); (case c117 => k_is); (case k117 => k_is); (case a118 => k_is)
    (case l118 => k_is); (case c118 => k_is); (case k118 => k_is); (case a114 => k_is); (case l114 => k_is); (case c114 => k_is)
    (case k114 => k_is); (case a121 => k_is); (case l121 => k_is); (case c121 => k_is); (case k121 => k_is); (case a122 => k_is)
    (case l122 => k_is); (case c122 => k_is); (case k122 => k_is); (case a123 => k_is); (case l123 => k_is); (case c123 => k_is)
    (case k123 => k_is); (case a120 => k_is); (case l120 => k_is); (case c120 => k_is); (case k120 => k_is); (case a119 => k_is)
    (case l119 => k_is); (case c119 => k_is); (case k119 => k_is); (case a_SyI => k_is); (case i_SyI => k_is); (case l_SyI => k_is)
    (case c_SyI => k_is); (case k_SyI => k_is); (case a_DkI => k_is); (case i_DkI => k_is); (case l_DkI => k_is); (case c_DkI => k_is)
    (case k_DkI => k_is); (case l_law => k_is); (case c_law => k_is); (case k_law => k_is); (case eS1 => k_is); (case eS2 => k_is)
    (case eS3 => k_is); (case BadBook_e4 => k_is); (case BadBook_kBadBook => kit_is); (case BadBook_kBadWord => kit_is); (case BadBook_kBadSounds => kit_is); (case BadBook_kBadCount => kit_is)
    (case BadBook_kUnsaid => kit_is); (case BadBook_kNoLetter => kit_is); (case BadBook_kNoException => kit_is); (case BadBook_kOtherLetters => kit_is); (case BadBook_kBadSamples => kit_is); (case BadBook_kBadDeed => kit_is)
    (case BadBook_kHalted => kit_is); (case BadBook_kBadText => kit_is); (case BadBook_kV => kit_is); (case BadBook_noP => k_is); (case BadBook_noN => k_is); (case BadBook_noA => k_is)
    (case BadBook_noD => k_is); (case BadBook_noR => k_is); (case BadBook_ga => k_is); (case BadBook_gg => k_is); (case BadBook_hd => k_is); (case BadBook_ex => k_is)
    (case BadBook_ha => k_is); (case BadBook_hm => k_is); (case Unsaid_e4 => k_is); (case Unsaid_kBadBook => kit_is); (case Unsaid_kBadWord => kit_is); (case Unsaid_kBadSounds => kit_is)
    (case Unsaid_kBadCount => kit_is); (case Unsaid_kUnsaid => kit_is); (case Unsaid_kNoLetter => kit_is); (case Unsaid_kNoException => kit_is); (case Unsaid_kOtherLetters => kit_is); (case Unsaid_kBadSamples => kit_is)
    (case Unsaid_kBadDeed => kit_is); (case Unsaid_kHalted => kit_is); (case Unsaid_kBadText => kit_is); (case Unsaid_kV => kit_is); (case Unsaid_noP => k_is); (case Unsaid_noN => k_is)
    (case Unsaid_noA => k_is); (case Unsaid_noD => k_is); (case Unsaid_noR => k_is); (case Unsaid_ga => k_is); (case Unsaid_gg => k_is); (case Unsaid_hd => k_is)
    (case Unsaid_ex => k_is); (case Unsaid_ha => k_is); (case Unsaid_hm => k_is); (case x_hn => k_is); (case x_ht => k_is); (case xU => k_is)
    (case u_sa => k_is); (case u_iC => k_is); (case u_tC => k_is); (case u_kC => k_is); (case u_tyC => k_is); (case u_sup => ks_is)
    (case u_subV => k_is); (case u_any => k_is); (case u_main => decide +kernel); (case u_fn => k_is); (case u_cd => k_is); (case u_cell => k_is)
    (case u_code => k_is); (case u_vs => rfl); (case u_file => decide +kernel); (case o0_x => k_is); (case o0_sa => k_is); (case o0_iC => k_is)
    (case o0_tC => k_is); (case o0_kC => k_is); (case o0_tyC => k_is); (case o0_sup => ks_is); (case o0_subV => k_is); (case o0_subE => k_is)
    (case o0_any => k_is); (case o0_main => decide +kernel); (case o0_fn => k_is); (case o0_cd => k_is); (case o0_cell => k_is); (case o0_code => k_is)
    (case o0_vs => rfl); (case o0_file => decide +kernel); (case o0_no0 => k_is); (case o0_no1 => k_is); (case l_code => k_is); (case l_vs => rfl)
    (case l_v11 => rfl); (case l_v18 => rfl); (case l_v7 => rfl); (case l_v9 => rfl); (case l_v10 => rfl); (case l_ne => decide +kernel)
    (case l_no => kernel_rfl); (case C_pg => k_is); (case C_hd => k_is); (case C_po => k_is); (case C_sa => k_is); (case C_mk => k_is)
    (case C_kc => k_is); (case C_n0 => k_is); (case C2_pg => k_is); (case C2_hd => k_is); (case C2_po => k_is); (case C2_sa => k_is)
    (case C2_mk => k_is); (case C2_kc => k_is); (case C2_n0 => k_is)
