import PyProof.Rows.All
import Wide.All
import OpenK.AllK
import Wide.FinOn
import HandS.ForMost
import HandS.IsInst
import HandS.Walk
import HandS.SortRule
import HandS.DictTup
import HandS.ListItems
import HandS.Conv
import HandS.More
import KE.GoesEnum
import KE.GoesMore
import PySem.Challenge.RW_saylore_k04_words_counts_sounds_refused
import KE.OsRunLaw
import HandS.Steps
import HandS.MakeKwOnly
import HandS.Finally
import HandS.ForExc
import HandS.FStr
import HandS.ExcInit
import KE.KExcSuper
import HandS.RaiseFrom
import HandS.Defaults
import KE.KDictPairs
import HandS.SetFor
import HandS.ExcIs
import HandS.ExcField
import KE.KExcIs
import HandS.Lambda
import HandS.SortKw
import KE.SortData
import KE.SortKeyHeap
import KE.KSortRegAny
import KE.SortLaws
import HandS.TupAny
import PyProof.StrOps2
import KE.KDflt
import HandS.EndOwn
import KE.KNestM
import KE.RegKSuper
import HandS.Comp
set_option Elab.async false
set_option linter.all false
set_option maxRecDepth 100000
set_option maxHeartbeats 16000000
namespace Say
open PySem PySem.Spec PyProof.Rows L2
/-! ### the text by places -/
def topS (i : Nat) : Stmt := PySem.Challenge.pw_saylore_k04_words_counts_sounds_refused.main.body.getD i (.Pass ⟨0, 0, 0, 0⟩)
/-! ### texts as lists of signs -/
abbrev T (l : List Nat) : Str := ⟨l.toArray⟩
theorem T_list (z : Str) : T z.cps.toList = z := by
  cases z; rfl
@[simp] theorem T_cps (l : List Nat) : (T l).cps.toList = l := rfl
theorem T_len (l : List Nat) : (T l).length = l.length := by
  show l.toArray.size = l.length
  simp
theorem T_inj {a b : List Nat} (h : T a = T b) : a = b := by
  have := congrArg (fun z : Str => z.cps.toList) h
  exact this
/-! ### heaps -/
/-- all that was tracked is as it was, but at r -/
def Stp (r : Addr) (H H' : Hp) : Prop := ∀ b o, H b = some o → b ≠ r → H' b = some o
theorem Stp.refl (r : Addr) (H : Hp) : Stp r H H := fun _ _ h _ => h
theorem Stp.trans {r : Addr} {H H1 H2 : Hp} (a : Stp r H H1) (b : Stp r H1 H2) : Stp r H H2 := fun c o h n => b c o (a c o h n) n
theorem Stp.of {r : Addr} {H H' : Hp} (e : Same H H') : Stp r H H' := fun b o h _ => e b o h
theorem Stp.seq {K : PySem.W.Frag} {r a : Addr} {H H' : Hp} {xs : List V} (e : Stp r H H') (n : a ≠ r) (h : SqL K H a xs) : SqL K H' a xs := by
  rcases h with (h | ⟨o, h⟩) | h
  · exact .inl (.inl (e _ _ h n))
  · exact .inl (.inr ⟨o, e _ _ h n⟩)
  · exact .inr h
theorem same_new {H : Hp} {p : Addr} (h : H p = none) (o : HO) : Same H (upd H p o) := fun b u q => by rw [upd_ne (ne_of_none q h)]; exact q
theorem stp_at {r : Addr} {H : Hp} (o : HO) : Stp r H (upd H r o) := fun b u q n => by rw [upd_ne n]; exact q
/-- tuples stay (frozen ones: as they were made) -/
def KT (H H' : Hp) : Prop := (∀ t xs, H t = some (.tup xs) → H' t = some (.tup xs)) ∧ ∀ t o xs, H t = some (.frz o (.tup xs)) → H' t = some (.frz o (.tup xs))
theorem KT.by {H H' : Hp} (f : ∀ t u, H t = some u → ((∃ xs, u = .tup xs) ∨ ∃ o xs, u = .frz o (.tup xs)) → H' t = some u) : KT H H' := ⟨fun t xs h => f t _ h (.inl ⟨xs, rfl⟩), fun t o xs h => f t _ h (.inr ⟨o, xs, rfl⟩)⟩
theorem KT.refl (H : Hp) : KT H H := ⟨fun _ _ h => h, fun _ _ _ h => h⟩
theorem KT.trans {H H1 H2 : Hp} (a : KT H H1) (b : KT H1 H2) : KT H H2 := ⟨fun t xs h => b.1 t xs (a.1 t xs h), fun t o xs h => b.2 t o xs (a.2 t o xs h)⟩
theorem KT.of {H H' : Hp} (e : Same H H') : KT H H' := ⟨fun t xs h => e t _ h, fun t o xs h => e t _ h⟩
/-- the row that is drawn from: the script at a -/
structure RowAt (K : PySem.W.Frag) (H : Hp) (r a : Addr) (ns : List Int) : Prop where
  row : ∃ i c m : Int, H r = some (.lst [.ref a, .int i, .int c, .int m]) ∧ 0 ≤ i ∧ 0 ≤ m ∧ m < 2147483647
  scr : SqL K H a (ns.map V.int)
  le : ns.length ≤ 63
theorem ints_ne {ns : List Int} {a : Addr} {l : List V} : ns.map V.int ≠ V.ref a :: l := by
  cases ns with
  | nil => intro z; cases z
  | cons x r => intro z; cases z
theorem Stp.scr {K : PySem.W.Frag} {r a : Addr} {H H' : Hp} {ns : List Int} {l : List V} (e : Stp r H H') (hr : H r = some (.lst (.ref a :: l))) (h : SqL K H a (ns.map V.int)) : SqL K H' a (ns.map V.int) := by
  rcases h with (h | ⟨o, h⟩) | h
  · refine .inl (.inl (e _ _ h fun z => ?_))
    subst z
    rw [hr] at h
    exact ints_ne (HO.lst.inj (Option.some.inj h)).symm
  · refine .inl (.inr ⟨o, e _ _ h fun z => ?_⟩)
    subst z
    rw [hr] at h
    cases h
  · exact .inr h
theorem RowAt.stp {K : PySem.W.Frag} {H H' : Hp} {r a : Addr} {ns : List Int} (R : RowAt K H r a ns) (e : Same H H') : RowAt K H' r a ns := by
  obtain ⟨⟨i, c, m, h, q⟩, s, l⟩ := R
  exact ⟨⟨i, c, m, e _ _ h, q⟩, e.seq s, l⟩
theorem RowAt.kt {K : PySem.W.Frag} {H H' : Hp} {r a : Addr} {ns : List Int} (R : RowAt K H r a ns) (e : Stp r H H') : KT H H' := KT.by fun t u h hu => by
  obtain ⟨⟨i, c, m, q, _⟩, _⟩ := R
  exact e t _ h (ne_of h q (by rcases hu with ⟨_, rfl⟩ | ⟨_, _, rfl⟩ <;> (intro z; cases z)))
theorem RowAt.put {K : PySem.W.Frag} {H : Hp} {r a : Addr} {ns : List Int} (R : RowAt K H r a ns) {i c m : Int} (h0 : 0 ≤ i) (h1 : 0 ≤ m) (h2 : m < 2147483647) : RowAt K (upd H r (.lst [.ref a, .int i, .int c, .int m])) r a ns := by
  obtain ⟨⟨i', c', m', q, _⟩, s, l⟩ := R
  exact ⟨⟨i, c, m, upd_same, h0, h1, h2⟩, (stp_at _).scr q s, l⟩
theorem small {n : Nat} (h : n ≤ 16000000) : n ≤ sizeLine := Nat.le_trans h (by decide)
theorem smallM {n : Nat} (h : n ≤ 16000000) : n < sizeLine := Nat.lt_of_le_of_lt h (by decide)
/-- law's promise -/
def spLaw (K : PySem.W.Frag) : Sp := fun vs H Q _ => ∃ (a : Addr) (ns : List Int), vs = [.ref a] ∧ SqL K H a (ns.map V.int) ∧ ns.length ≤ 63 ∧ ∀ H', Q (.bl true) H'
/-- _law_taken -/
def spTaken (K : PySem.W.Frag) : Sp := fun vs H Q _ => ∃ (r a : Addr) (ns : List Int) (n : Int), vs = [.ref r, .int n] ∧ RowAt K H r a ns ∧ 0 < n ∧ n < 100000 ∧
  ∀ (k : Int) (H' : Hp), 0 ≤ k → k < n → Stp r H H' → RowAt K H' r a ns → Q (.int k) H'
end Say
namespace Say
open PySem PySem.Spec PyProof.Rows L2
theorem T_app (a b : List Nat) : T a ++ T b = T (a ++ b) := TL.ext_tl (by rw [TL.tl_append])
theorem hash_eq : ("#" : Str) = T [35] := by decide +kernel
theorem nil_eq : ("" : Str) = T [] := by decide +kernel
theorem joinL_nil : ∀ ls : List (List Nat), TL.joinL [] ls = ls.flatten
  | [] => rfl
  | [p] => by simp [TL.joinL]
  | p :: q :: r => by
    show p ++ ([] ++ TL.joinL [] (q :: r)) = _
    rw [joinL_nil (q :: r)]
    simp
theorem join_nil (ls : List (List Nat)) : Txt.join (T []) (ls.map T) = T ls.flatten := by
  refine TL.ext_tl ?_
  rw [TL.join_eq, TL.tl_join]
  show TL.joinL [] ((ls.map T).map TL.tl) = ls.flatten
  rw [List.map_map, ← joinL_nil]
  congr 1
  exact List.map_id' ls
theorem map_single : ∀ l : List Nat, (l.map fun c => [c]).flatten = l
  | [] => rfl
  | c :: r => by
    show [c] ++ (r.map fun c => [c]).flatten = c :: r
    rw [map_single r]; rfl
/-- the row's own list -/
def RowIn (H : Hp) (r a : Addr) : Prop := ∃ i c m : Int, H r = some (.lst [.ref a, .int i, .int c, .int m]) ∧ 0 ≤ i ∧ 0 ≤ m ∧ m < 2147483647
theorem RowAt.in {K : PySem.W.Frag} {H : Hp} {r a : Addr} {ns : List Int} (R : RowAt K H r a ns) : RowIn H r a := R.row
theorem RowAt.of {K : PySem.W.Frag} {H H' : Hp} {r a : Addr} {ns : List Int} (R : RowAt K H r a ns) (e : Stp r H H') (w : RowIn H' r a) : RowAt K H' r a ns := by
  obtain ⟨⟨i, c, m, q, _⟩, s, l⟩ := R
  exact ⟨w, e.scr q s, l⟩
theorem RowIn.upd {H : Hp} {r a D : Addr} {o : HO} (w : RowIn H r a) (n : r ≠ D) : RowIn (upd H D o) r a := by
  obtain ⟨i, c, m, q, b⟩ := w
  exact ⟨i, c, m, by rw [upd_ne n]; exact q, b⟩
theorem RowAt.nw {K : PySem.W.Frag} {H : Hp} {r a D : Addr} {ns : List Int} (R : RowAt K H r a ns) (h : H D = none) : r ≠ D := by
  obtain ⟨⟨i, c, m, q, _⟩, s, l⟩ := R
  exact ne_of_none q h
theorem Stp.put {r D : Addr} {H H' : Hp} (e : Stp r H H') (h : H D = none) (o : HO) : Stp r H (upd H' D o) := fun b u q n => by
  rw [upd_ne (ne_of_none q h)]
  exact e b u q n
theorem Stp.one {r D : Addr} {H H' : Hp} {o : HO} (e : Stp r H H') (h : H D = some o) (n : r ≠ D) : H' D = some o := e _ _ h (Ne.symm n)
/-- signs of a text, a list of one-sign texts -/
def sg (l : List Nat) : List V := l.map fun c => V.str (T [c])
theorem sg_map (l : List Nat) : sg l = ((l.map fun c => [c]).map T).map V.str := by
  unfold sg
  rw [List.map_map, List.map_map]
  rfl
theorem sg_len (l : List Nat) : (sg l).length = l.length := by unfold sg; rw [List.length_map]
theorem sum_ones : ∀ l : List Nat, (((l.map fun c => [c]).map T).map (fun z : Str => z.length)).sum = l.length
  | [] => rfl
  | c :: r => by
    show 1 + (((r.map fun c => [c]).map T).map (fun z : Str => z.length)).sum = r.length + 1
    rw [sum_ones r]; omega
end Say
namespace Say
open PySem PySem.Spec PyProof.Rows L2
/-- a def that stands at the module's name and keeps its promise -/
def Df (P : Program) (w : World) (K : PySem.W.Frag) (mg : Str → Option Value) (base : Heap) (x : Str) (ps : List Str) (k : Nat) (sp : Sp) : Prop :=
  ∃ f fd, FnOk P w K mg base CX0 k f fd ps sp ∧ PySem.W.keepIn K (.ref f) = true ∧ Binds K fd ps [] ∧ mg x = some (.ref f)
theorem hash_app (L : List Nat) : (Str.ofString "#" ++ T L) = T (35 :: L) := by
  rw [show Str.ofString "#" = T [35] from hash_eq, T_app]
  rfl
theorem app_hash (L : List Nat) : (T L ++ Str.ofString "#") = T (L ++ [35]) := by
  rw [show Str.ofString "#" = T [35] from hash_eq, T_app]
theorem T_at {l : List Nat} {i c : Nat} (h : (T l).cps[i]? = some c) : l[i]? = some c := by
  have h : l.toArray[i]? = some c := h
  rw [List.getElem?_toArray] at h
  exact h
theorem T_at' {l : List Nat} {i c : Nat} (h : l[i]? = some c) : (T l).cps[i]? = some c := by
  show l.toArray[i]? = some c
  rw [List.getElem?_toArray]
  exact h
theorem T_size (l : List Nat) : (T l).cps.size = l.length := by
  show l.toArray.size = _
  simp
theorem take_next {l : List Nat} {i c : Nat} (h : l[i]? = some c) : l.take (i + 1) = l.take i ++ [c] := by
  rw [List.take_add_one, h]; rfl
theorem sg_app (a : List Nat) (c : Nat) : sg a ++ [V.str (T [c])] = sg (a ++ [c]) := by
  unfold sg
  rw [List.map_append]
  rfl
theorem len_hash : (Str.ofString "#").length = 1 := by decide +kernel
end Say
namespace Say
open PySem PySem.Spec PyProof.Rows L2
theorem at_list {α : Type} {l : List α} {z : Int} (h : z.toNat < l.length) (h0 : 0 ≤ z) : atI l z = some l[z.toNat] := by
  have q : l[z.toNat]? = some l[z.toNat] := List.getElem?_eq_getElem h
  have := atI_nat q
  rwa [show ((z.toNat : Nat) : Int) = z by omega] at this
end Say
namespace Say
open PySem PySem.Spec PyProof.Rows L2
/-! ### the data -/
structure Rule where
  ah : List Nat
  ow : List Nat
  be : List Nat
  so : List Nat
def Rule.vs (ρ : Rule) : List V := [.str (T ρ.ah), .str (T ρ.ow), .str (T ρ.be), .str (T ρ.so)]
/-- a rule of a book of the letters L -/
structure RuleOk (L : List Nat) (ρ : Rule) : Prop where
  ah : ρ.ah.Sublist (35 :: L)
  ow : ∀ c ∈ ρ.ow, c ∈ L
  o1 : 1 ≤ ρ.ow.length
  o2 : ρ.ow.length ≤ 2
  be : ρ.be.Sublist (35 :: L)
  so : ∀ c ∈ ρ.so, 65 ≤ c ∧ c ≤ 90
  s3 : ρ.so.length ≤ 3
/-- the tuple at R holds the rules -/
def RulesAt (H : Hp) (R : Addr) (rs : List Rule) : Prop := ∃ ts : List Addr, H R = some (.tup (ts.map V.ref)) ∧ Paired (fun t ρ => H t = some (.tup (Rule.vs ρ))) ts rs
theorem paired_mono {α β : Type} {F G : α → β → Prop} (h : ∀ x y, F x y → G x y) : ∀ {xs : List α} {ys : List β}, Paired F xs ys → Paired G xs ys
  | _, _, .nil => .nil
  | _, _, .cons a b => .cons (h _ _ a) (paired_mono h b)
theorem paired_app {α β : Type} {F : α → β → Prop} : ∀ {xs : List α} {ys : List β} {xs' : List α} {ys' : List β}, Paired F xs ys → Paired F xs' ys' → Paired F (xs ++ xs') (ys ++ ys')
  | _, _, _, _, .nil, h => h
  | _, _, _, _, .cons a b, h => .cons a (paired_app b h)
theorem paired_len {α β : Type} {F : α → β → Prop} : ∀ {xs : List α} {ys : List β}, Paired F xs ys → xs.length = ys.length
  | _, _, .nil => rfl
  | _, _, .cons a b => by simp [paired_len b]
theorem paired_at {α β : Type} {F : α → β → Prop} : ∀ {xs : List α} {ys : List β}, Paired F xs ys → ∀ {i : Nat} {x : α}, xs[i]? = some x → ∃ y, ys[i]? = some y ∧ F x y
  | _, _, .nil, i, x, h => by cases h
  | _, _, .cons r t, 0, x, h => by
    have e := Option.some.inj h
    subst e
    exact ⟨_, rfl, r⟩
  | _, _, .cons r t, i + 1, x, h => paired_at t h
theorem paired_at' {α β : Type} {F : α → β → Prop} : ∀ {xs : List α} {ys : List β}, Paired F xs ys → ∀ {i : Nat} {y : β}, ys[i]? = some y → ∃ x, xs[i]? = some x ∧ F x y
  | _, _, .nil, i, x, h => by cases h
  | _, _, .cons r t, 0, x, h => by
    have e := Option.some.inj h
    subst e
    exact ⟨_, rfl, r⟩
  | _, _, .cons r t, i + 1, x, h => paired_at' t h
theorem RulesAt.kt {H H' : Hp} {R : Addr} {rs : List Rule} (h : RulesAt H R rs) (e : KT H H') : RulesAt H' R rs := by
  obtain ⟨ts, h1, h2⟩ := h
  exact ⟨ts, e.1 _ _ h1, paired_mono (fun t ρ q => e.1 _ _ q) h2⟩
theorem Stp.kt {r a : Addr} {H H' : Hp} (e : Stp r H H') (w : RowIn H r a) : KT H H' := KT.by fun t u h hu => by
  obtain ⟨i, c, m, q, _⟩ := w
  exact e t _ h (ne_of h q (by rcases hu with ⟨_, rfl⟩ | ⟨_, _, rfl⟩ <;> (intro z; cases z)))
theorem kt_new {H : Hp} {D : Addr} {o : HO} (h : H D = none) : KT H (upd H D o) := KT.of (same_new h o)
theorem kt_upd {H : Hp} {D : Addr} {l : List V} {o : HO} (h : H D = some (.lst l)) : KT H (upd H D o) := KT.by fun t u q hu => by
  rw [upd_ne (ne_of q h (by rcases hu with ⟨_, rfl⟩ | ⟨_, _, rfl⟩ <;> (intro z; cases z)))]
  exact q
end Say
namespace Say
open PySem PySem.Spec PyProof.Rows L2
/-- the built-in names that the text leaves alone -/
structure Bn (mg : Str → Option Value) : Prop where
  len : mg "len" = none
  rng : mg "range" = none
  tup : mg "tuple" = none
  lst : mg "list" = none
  isi : mg "isinstance" = none
  str : mg "str" = none
  all : mg "all" = none
  enu : mg "enumerate" = none
  srt : mg "sorted" = none
  bool : mg "bool" = none
def isText (l S : List Nat) (lo hi : Nat) : Bool := decide (lo ≤ l.length) && (decide (l.length ≤ hi) && l.all fun c => decide (c ∈ S))
theorem isText_of {l S : List Nat} {lo hi : Nat} (h1 : lo ≤ l.length) (h2 : l.length ≤ hi) (h3 : ∀ c ∈ l, c ∈ S) : isText l S lo hi = true := by
  unfold isText
  rw [decide_eq_true h1, decide_eq_true h2]
  simp only [Bool.true_and, List.all_eq_true, decide_eq_true_eq]
  exact h3
/-- each sign is more than the one ahead -/
def rises : List Nat → Bool
  | a :: b :: r => decide (a < b) && rises (b :: r)
  | _ => true
end Say
namespace Say
open PySem PySem.Spec PyProof.Rows L2
theorem atI_of {α : Type} {xs : List α} {z : Int} {j : Nat} {v : α} (h : xs[j]? = some v) (e : z = (j : Int)) : atI xs z = some v := by
  rw [e]
  exact atI_nat h
end Say
section
open PySem PySem.W PyProof.Rows
local macro_rules
  | `(tactic| o_head $H) => `(tactic| exact False.elim (by assumption))
/-- the objects that the walk reads, by name -/
theorem Say.early (no : False) : PySem.Challenge.rw_saylore_k04_words_counts_sounds_refused.Holds := by
  w_on; o_law; k_head
namespace Say
abbrev pr : Program := PySem.Challenge.rw_saylore_k04_words_counts_sounds_refused.prog
def qv : Program := { pr with main := { pr.main with body := (pr.main.body.zipIdx.filter fun x => ([0, 111, 112] : List Nat).contains x.2).map (·.1) } }
def lo0 : List PySem.Str := ["_wall", "SayError", "BadBook", "BadWord", "BadSounds", "BadCount", "Unsaid", "NoLetter", "NoException", "OtherLetters", "BadSamples", "BadDeed", "Halted", "BadText", "SMALL", "CAPITALS", "EDGE", "NO_BOOK", "LETTERS", "RULES", "EXCEPTIONS", "MOST_RULES", "MOST_EXCEPTIONS", "LONGEST_WORD", "LONGEST_EXCEPTION", "LONGEST_RULE_SOUNDS", "LONGEST_SOUNDS", "checked_book", "check_letters", "check_rules"]
def lo1 : List PySem.Str := ["check_exceptions", "check_word", "check_excepted", "check_sounds", "is_rule", "is_beside", "is_exception", "is_excepted", "is_sounds", "is_text", "is_rising", "is_count", "OWN", "SOUNDS", "SETTLING", "fits", "first_fit", "steps_of", "taken", "ending", "ending_sounds", "word_sounds", "numbers_of", "sounds_of", "walk", "said", "walked", "LONG", "LONGEST_WRITING", "writings"]
def lo2 : List PySem.Str := ["ruled_writings", "longer_beginnings", "EVEN", "UNLIKE", "LEADS", "least_word", "keep", "lead_of", "stems_of", "UseHunt", "PartedHunt", "parted", "use", "SIZES", "Desk", "check_place", "check_deeds", "is_deed", "with_rule", "without_rule", "without_word", "MOST_SAMPLES", "least", "blamed", "check_all", "check_samples", "are_said", "is_said", "Sayer", "_law_row"]
def lo3 : List PySem.Str := ["_law_taken", "_law_letters", "_law_side", "_law_text", "_law_rule", "_law_rules", "_law_exceptions", "_law_book", "_law_word"]
def lo : List PySem.Str := lo0 ++ lo1 ++ lo2 ++ lo3
def asL : List Addr := [2, 3, 33, 35, 36, 38, 39, 40, 47, 48, 49, 50, 53, 56, 61, 62, 64, 65, 67, 68, 69, 70, 71, 74, 81, 82, 83, 86, 93, 94, 95, 98, 105, 106, 107, 110, 113, 118, 119, 121, 122, 124, 125, 126, 127, 128, 131, 138, 139, 140, 143, 150, 151, 152, 155, 162, 163, 164, 167, 170, 175, 176, 178, 179, 181, 182, 183, 184, 185, 188, 191, 196, 197, 199, 200, 202, 203, 204, 205, 206, 209, 212, 217, 218, 220, 221, 223, 224, 225, 226, 227, 230, 233, 238, 239, 241, 242, 244, 245, 246, 247, 248, 251, 253, 254, 256, 257, 258, 260, 261, 263, 264, 265, 267, 268, 270, 271, 272, 274, 275, 277, 278, 279, 281, 282, 284, 285, 286, 288, 289, 291, 292, 293, 295, 296, 298, 299, 300, 302, 303, 305, 306, 307, 309, 310, 312, 313, 314, 316, 317, 319, 320, 321, 323, 324, 326, 327, 328, 330, 331, 333, 334, 335, 338, 339, 340, 343, 344, 345, 347, 348, 350, 351, 352, 354, 355, 357, 358, 359, 361, 362, 364, 365, 366, 368, 369, 371, 372, 373, 375, 376, 378, 379, 380, 382, 383, 385, 386, 387, 389, 390, 392, 393, 394, 396, 397, 399, 400, 401, 404, 405, 406, 409, 410, 411, 413, 414, 416, 417, 418, 420, 421, 423, 424, 425, 427, 428, 430, 431, 432, 433, 436, 437, 438, 440, 441, 443, 444, 445, 447, 448, 450, 451, 452, 453, 454, 456, 457, 459, 460, 461, 463, 464, 466, 467, 468, 470, 471, 473, 474, 475, 478, 479, 487, 489, 490, 492, 493, 494, 496, 497, 499, 500, 501, 503, 504, 506, 507, 508, 510, 511, 513, 514, 515, 516, 517, 518, 519, 529, 531, 532, 534, 535, 536, 538, 539, 541, 542, 543, 545, 546, 548, 549, 550, 552, 553, 555, 556, 557, 559, 560, 562, 563, 564, 566, 567, 569, 570, 571, 572, 573, 574, 575, 578, 580, 581, 583, 584, 585, 587, 588, 590, 591, 592, 600, 602, 603, 605, 606, 607, 609, 610, 612, 613, 614, 616, 617, 619, 620, 621, 623, 624, 626, 627, 628, 630, 631, 633, 634, 635, 637, 638, 640, 641, 642, 644, 645, 647, 648, 649, 651, 652, 654, 655, 656, 657, 659, 660, 662, 663, 664, 666, 667, 669, 670, 671, 673, 674, 676, 677, 678, 680, 681, 683, 684, 685, 688, 689, 690, 691, 692, 693, 694, 697, 699, 700, 702, 703, 704, 706, 707, 709, 710, 711, 713, 714, 716, 717, 718, 720, 721, 723, 724, 725, 727, 728, 730, 731, 732, 735, 736, 737, 740, 741, 742, 745, 746, 747, 749, 750, 752, 753, 754, 756, 757, 759, 760, 761, 763, 764, 766, 767, 768, 770, 771, 773, 774, 782, 784, 785, 787, 788, 789, 791, 792, 794, 795, 796, 798, 799, 801, 802, 803, 805, 806, 808, 809, 810, 812, 813, 815, 816, 817, 819, 820, 822, 823, 824, 826, 827, 829, 830, 831, 832, 833, 834, 835, 838, 840, 841, 843, 844, 845, 847, 848, 850, 851, 852, 854, 855, 857, 858, 859, 862, 863, 864, 867, 868, 869, 871, 872, 874, 875, 876, 879, 880, 881, 883, 884, 886, 887, 888, 890, 891, 893, 894, 895, 897, 898, 900, 901, 902, 905, 906, 907, 910, 911]
def tsL : List Addr := [903, 908]
theorem ekL : ∀ P, asL = (Say.early.heap_39 P).map (·.1) := fun P => by kernel_rfl
abbrev xt (s : Shared) : Bool := xlAt qv [] s && recOk (RowW.records (OpenRow.toRowW (OpenLaw.row PySem.Challenge.rw_saylore_k04_words_counts_sounds_refused))) s
/-- the run at a world -/
abbrev RunAt (w : World) : Prop := Option.map (fun x : Shared × SharedT => (HeadRun.looksF pr x.1.heap x.2.abs, HeadRun.seenQ qv lo (importedModules pr.main.body) xt x.2.abs, asL.map (HeadRun.getT x.2), tsL.map (HeadRun.getT x.2)))
      (HeadRun.wholeF (fun p => HeadRun.stepQ (HeadRun.denQ HeadRun.tabQ) p w) HeadRun.fenceQ 30000 pr) = some (true, openGood qv lo, (Say.early.heap_39 w.params).map (fun x => some x.2), tsL.map fun _ => some (tabObj #[]))
theorem run_f : ∀ w : World, RunAt (w.withFollow "special-get-raises" false) := fun w => by kernel_rfl
theorem run_t : ∀ w : World, RunAt (w.withFollow "special-get-raises" true) := fun w => by kernel_rfl
theorem leftT : LeftO pr qv lo xt (kmHook Say.early.heap_39 asL ekL [903, 908]).obs (kmHook Say.early.heap_39 asL ekL [903, 908]).val 30000 true := by
  refine HeadRun.left_imp fun w => ?_
  have z := byRow2 "special-get-raises" (P := RunAt) run_f run_t w
  have g : ∀ (s : SharedT) (l : List Addr), l.map (HeadRun.getT s) = l.map s.abs.heap.get? := fun s l => List.map_congr_left fun a _ => HeadRun.getT_eq s a
  simp only [RunAt, g] at z
  rw [HeadRun.wholeQ_eq]
  simp only [HeadRun.seenQ_eq]
  exact z
end Say
end
namespace Say
open PySem PySem.Spec PyProof.Rows L2
section
variable {P : Program} {w : World} {K : PySem.W.Frag} {mg : Str → Option Value} {base : Heap}
abbrev sIsText : Stmt := topS 42
theorem scIsText : FnScope ["text", "signs", "least", "most", "sign"] ["text", "signs", "least", "most"] (defScope sIsText) := ⟨rfl, rfl, rfl, by decide +kernel, rfl, by decide +kernel, by decide +kernel⟩
def spIsText : Sp := fun vs H Q _ => ∃ (l S : List Nat) (lo hi : Nat), vs = [.str (T l), .str (T S), .int lo, .int hi] ∧ l.length ≤ 100 ∧
  ∀ (H' : Hp), Same H H' → Q (.bl (isText l S lo hi)) H'
theorem ok_isText {f : Addr} {fd : FuncData} (F : Fun K "is_text" "is_text" sIsText f fd) (B : Bn mg) :
    FnOk P w K mg base CX0 1 f fd ["text", "signs", "least", "most"] spIsText := by
  refine F.ok scIsText (fun vs H Q E h => ?_) (fun cdv A outer s H vs Q E hr h => ?_)
  · obtain ⟨l, S, lo, hi, rfl, _⟩ := h
    rfl
  · obtain ⟨l, S, lo, hi, rfl, hz, q⟩ := h
    refine ⟨_, pss_cons (ps_if (PW.pt (pw_or (pt_not (pt_val (pe_callB call_isi (by rfl) B.isi (by decide +kernel) (pa_cons (pv 0) (pa_cons (pe_bltn (v := .ty "str") rfl B.str (by decide +kernel) rfl) pa_nil)))))
          (pw_or1 (pt_not (pt_chain op_le op_le (pv 2) (pe_callB call_len_str (by rfl) B.len PySem.boot_len (pa_cons (pv 0) pa_nil)) (pv 3)))))) (pss_one (ps_ret pe_bl)) pss_nil)
      (pss_one (ps_ret (pe_callB (cr_all rfl) (by rfl) B.all (by decide +kernel) (pa_cons (pe_lc (own := [("sign", 4)]) (g := gName 4) rfl scIsText.nd (pi_str (pv 0))
        (blkOk_by (N := ["text", "signs", "least", "most", "sign"]) (sc := defScope sIsText) (by decide +kernel)) (fun _ _ _ _ _ => pg_name (i := 4) scIsText.nd rfl (.inl rfl))
        (fun _ _ _ _ _ => pts_nil) (fun _ _ _ _ _ => pe_cmpR op_in_sign (pv 4) (pv 1) rfl)) pa_nil)))), ?_⟩
    refine ⟨_, rfl, _, _, .type "str", _, true, rfl, ClsV.ty _, .base (.str _), kit_ty (by decide +kernel), true, rfl, ?_⟩
    refine iteF ?_
    have hlen : (T l).length ≤ sizeLine := by rw [T_len]; exact small (by omega)
    refine ⟨_, rfl, _, rfl, _, rfl, hlen, _, _, rfl, rfl, _, rfl, ?_⟩
    have eT : (lo : Int) ≤ ((T l).length : Int) ↔ lo ≤ l.length := by rw [T_len]; omega
    have eU : ((T l).length : Int) ≤ (hi : Int) ↔ l.length ≤ hi := by rw [T_len]; omega
    refine ite2 (fun c1 => ?_) (fun c1 => ?_)
    · refine ⟨_, rfl, _, _, rfl, rfl, _, rfl, ?_⟩
      have c1' := eT.mp (of_decide_eq_true c1)
      by_cases c2 : ((T l).length : Int) ≤ (hi : Int)
      · rw [decide_eq_true c2]
        have c2' := eU.mp c2
        refine iteF ?_
        refine ⟨_, rfl, T l, rfl, fun D hD => ?_⟩
        refine lc_it (walk_str) (fun i H2 => H2 D = some (.lst (((l.take i).map fun c => decide (c ∈ S)).map V.bl)) ∧ Same H H2) ?_ (fun _ _ _ _ => trivial) ?_ ?_
        · exact ⟨upd_same, same_new hD _⟩
        · rintro i x H2 H2' hi' ⟨e1, e2⟩ ⟨rfl, c, hc, rfl⟩
          have hc := T_at hc
          refine ⟨rfl, ?_⟩
          refine ⟨_, rfl, _, rfl, c, T S, rfl, rfl, _, e1, ?_, ?_, ?_⟩
          · rw [List.length_map, List.length_map, List.length_take]
            exact small1000 (by omega)
          · rw [upd_same, take_next hc, List.map_append, List.map_append]
            rfl
          · exact fun b u q => by
              rw [upd_ne (ne_of_none q hD)]
              exact e2 b u q
        · rintro H2 ⟨e1, e2⟩
          rw [T_size, List.take_length] at e1
          refine ⟨D, _, rfl, .inl (.inl e1), ?_⟩
          have := q H2 e2
          unfold isText at this
          rw [decide_eq_true c1', decide_eq_true c2', Bool.true_and, Bool.true_and] at this
          rw [List.all_map]
          exact this
      · rw [decide_eq_false c2]
        refine iteT ?_
        have := q H (Same.refl H)
        unfold isText at this
        rw [decide_eq_false (fun z => c2 (eU.mpr z)), Bool.false_and, Bool.and_false] at this
        exact this
    · refine ⟨_, rfl, iteT ?_⟩
      have := q H (Same.refl H)
      unfold isText at this
      rw [decide_eq_false (fun z => c1 (decide_eq_true (eT.mpr z))), Bool.false_and] at this
      exact this
end
end Say
namespace Say
open PySem PySem.Spec PyProof.Rows L2
section
variable {P : Program} {w : World} {K : PySem.W.Frag} {mg : Str → Option Value} {base : Heap}
abbrev sRise : Stmt := topS 43
theorem scRise : FnScope ["text", "at"] ["text"] (defScope sRise) := ⟨rfl, rfl, rfl, by decide +kernel, rfl, by decide +kernel, by decide +kernel⟩
/-- the j-th sign against the next, for j below n -/
def risesTo (l : List Nat) (n : Nat) : List Bool := (List.range n).map fun j => decide ((l.getD j 0) < (l.getD (j + 1) 0))
theorem rises_range : ∀ l : List Nat, (risesTo l (l.length - 1)).all id = rises l
  | [] => rfl
  | [_] => rfl
  | a :: b :: r => by
    have ih := rises_range (b :: r)
    show (risesTo (a :: b :: r) (r.length + 1)).all id = (decide (a < b) && rises (b :: r))
    rw [← ih]
    unfold risesTo
    rw [List.range_succ_eq_map, List.map_cons, List.map_map, List.all_cons]
    rfl
theorem risesTo_next (l : List Nat) (n : Nat) : risesTo l (n + 1) = risesTo l n ++ [decide ((l.getD n 0) < (l.getD (n + 1) 0))] := by
  unfold risesTo
  rw [List.range_succ, List.map_append]
  rfl
theorem risesTo_len (l : List Nat) (n : Nat) : (risesTo l n).length = n := by
  unfold risesTo
  rw [List.length_map, List.length_range]
def spRise : Sp := fun vs H Q _ => ∃ (l : List Nat), vs = [.str (T l)] ∧ l.length ≤ 100 ∧ ∀ (H' : Hp), Same H H' → Q (.bl (rises l)) H'
theorem lt_one (a b : Nat) : decide (([a] : List Nat) < [b]) = decide (a < b) := by
  by_cases h : a < b
  · rw [decide_eq_true h, decide_eq_true]
    exact List.Lex.rel h
  · rw [decide_eq_false h, decide_eq_false]
    intro z
    cases z with
    | rel q => exact h q
    | cons q => cases q
theorem ok_rise {f : Addr} {fd : FuncData} (F : Fun K "is_rising" "is_rising" sRise f fd) (B : Bn mg) : FnOk P w K mg base CX0 1 f fd ["text"] spRise := by
  refine F.ok scRise (fun vs H Q E h => ?_) (fun cdv A outer s H vs Q E hr h => ?_)
  · obtain ⟨l, rfl, _⟩ := h
    rfl
  · obtain ⟨l, rfl, hz, q⟩ := h
    have hlen : (T l).length ≤ sizeLine := by rw [T_len]; exact small (by omega)
    refine ⟨_, pss_one (ps_ret (pe_callB (cr_all rfl) (by rfl) B.all (by decide +kernel) (pa_cons (pe_lc (own := [("at", 1)]) (g := gName 1) rfl scRise.nd
        (pi_range2 rfl B.rng (pa_cons pe_int (pa_cons (pe_callB call_len_str (by rfl) B.len PySem.boot_len (pa_cons (pv 0) pa_nil)) pa_nil)))
        (blkOk_by (N := ["text", "at"]) (sc := defScope sRise) (by decide +kernel)) (fun _ _ _ _ _ => pg_name (i := 1) scRise.nd rfl (.inl rfl))
        (fun _ _ _ _ _ => pts_nil) (fun _ _ _ _ _ => pe_cmpR op_lt_str (pe_ix ix_str (pv 0) (pe_op op_sub (pv 1) pe_int) (fun _ _ => rfl)) (pe_ix ix_str (pv 0) (pv 1) (fun _ _ => rfl)) (nomark _))) pa_nil))), ?_⟩
    refine ⟨_, rfl, _, rfl, hlen, 1, _, rfl, ⟨by decide, by decide, by omega, by rw [T_len]; omega⟩, fun D hD => ?_⟩
    refine lc_it (walk_range) (fun i H2 => H2 D = some (.lst ((risesTo l i).map V.bl)) ∧ Same H H2) ?_ (fun _ _ _ _ => trivial) ?_ ?_
    · exact ⟨upd_same, same_new hD _⟩
    · rintro i x H2 H2' hi' ⟨e1, e2⟩ ⟨rfl, rfl⟩
      rw [T_len] at hi'
      have g1 : i < l.length := by omega
      have g2 : i + 1 < l.length := by omega
      refine ⟨rfl, ?_⟩
      have q1 : (T l).cps.toList[i]? = some (l.getD i 0) := by rw [T_cps, List.getD_eq_getElem?_getD, List.getElem?_eq_getElem g1]; rfl
      have q2 : (T l).cps.toList[i + 1]? = some (l.getD (i + 1) 0) := by rw [T_cps, List.getD_eq_getElem?_getD, List.getElem?_eq_getElem g2]; rfl
      refine ⟨_, rfl, _, rfl, _, _, rfl, rfl, T l, 1 + (i : Int) - 1, l.getD i 0, rfl, rfl, hlen, atI_of q1 (by omega), ?_⟩
      refine ⟨_, rfl, _, rfl, T l, 1 + (i : Int), l.getD (i + 1) 0, rfl, rfl, hlen, atI_of q2 (by omega), ?_⟩
      refine ⟨_, _, rfl, rfl, _, e1, ?_, ?_, ?_⟩
      · rw [List.length_map, risesTo_len]
        exact small1000 (by omega)
      · rw [upd_same, risesTo_next, List.map_append]
        show some (HO.lst (_ ++ [V.bl (decide (([l.getD i 0] : List Nat) < [l.getD (i + 1) 0]))])) = _
        rw [lt_one]
        rfl
      · exact fun b u q => by
          rw [upd_ne (ne_of_none q hD)]
          exact e2 b u q
    · rintro H2 ⟨e1, e2⟩
      rw [show (((T l).length : Int) - 1).toNat = l.length - 1 by rw [T_len]; omega] at e1
      refine ⟨D, _, rfl, .inl (.inl e1), ?_⟩
      rw [rises_range]
      exact q H2 e2
end
end Say
namespace Say
open PySem PySem.Spec PyProof.Rows L2
/-- the letters of a book -/
structure LetOk (L : List Nat) : Prop where
  l2 : 2 ≤ L.length
  l4 : L.length ≤ 4
  up : rises L = true
  az : ∀ c ∈ L, 97 ≤ c ∧ c ≤ 122
theorem rises_iff : ∀ l : List Nat, rises l = true ↔ l.Pairwise (· < ·)
  | [] => by simp [rises]
  | [a] => by simp [rises]
  | a :: b :: r => by
    have ih := rises_iff (b :: r)
    show (decide (a < b) && rises (b :: r)) = true ↔ _
    rw [Bool.and_eq_true, ih, List.pairwise_cons (a := a)]
    constructor
    · rintro ⟨h1, h2⟩
      have h1 := of_decide_eq_true h1
      refine ⟨fun x hx => ?_, h2⟩
      rcases List.mem_cons.mp hx with rfl | hx
      · exact h1
      · exact Nat.lt_trans h1 ((List.pairwise_cons.mp h2).1 x hx)
    · rintro ⟨h1, h2⟩
      exact ⟨decide_eq_true (h1 b (List.mem_cons_self ..)), h2⟩
theorem LetOk.hash {L : List Nat} (h : LetOk L) : rises (35 :: L) = true := (rises_iff _).mpr (List.pairwise_cons.mpr ⟨fun c hc => by have := (h.az c hc).1; omega, (rises_iff _).mp h.up⟩)
theorem side_ok {L z : List Nat} (h : LetOk L) (s : z.Sublist (35 :: L)) : (isText z (35 :: L) 0 (L.length + 1) && rises z) = true := by
  rw [Bool.and_eq_true]
  exact ⟨isText_of (Nat.zero_le _) (by have := s.length_le; simpa using this) fun c hc => s.subset hc, (rises_iff _).mpr (((rises_iff _).mp h.hash).sublist s)⟩
/-- a constant that holds a number -/
abbrev KI (mg : Str → Option Value) (x : Str) (n : Int) : Prop := ∃ t, mg x = some (.int n t)
/-- what the module's constants hold -/
structure Cn (mg : Str → Option Value) : Prop where
  small : ∃ t, mg "SMALL" = some (.str "abcdefghijklmnopqrstuvwxyz" t)
  caps : ∃ t, mg "CAPITALS" = some (.str "ABCDEFGHIJKLMNOPQRSTUVWXYZ" t)
  edge : ∃ t, mg "EDGE" = some (.str "#" t)
  mrul : ∃ t, mg "MOST_RULES" = some (.int 12 t)
  lexc : ∃ t, mg "LONGEST_EXCEPTION" = some (.int 8 t)
  lrs : ∃ t, mg "LONGEST_RULE_SOUNDS" = some (.int 3 t)
  lso : ∃ t, mg "LONGEST_SOUNDS" = some (.int 36 t)
def smallL : List Nat := (List.range 26).map (· + 97)
def capsL : List Nat := (List.range 26).map (· + 65)
theorem small_eq : Str.ofString "abcdefghijklmnopqrstuvwxyz" = T smallL := by decide +kernel
theorem caps_eq : Str.ofString "ABCDEFGHIJKLMNOPQRSTUVWXYZ" = T capsL := by decide +kernel
theorem mem_small {c : Nat} (h : 97 ≤ c ∧ c ≤ 122) : c ∈ smallL := List.mem_map.mpr ⟨c - 97, List.mem_range.mpr (by omega), by omega⟩
theorem mem_caps {c : Nat} (h : 65 ≤ c ∧ c ≤ 90) : c ∈ capsL := List.mem_map.mpr ⟨c - 65, List.mem_range.mpr (by omega), by omega⟩
section
variable {P : Program} {w : World} {K : PySem.W.Frag} {mg : Str → Option Value} {base : Heap}
abbrev psIsText : List Str := ["text", "signs", "least", "most"]
abbrev sBeside : Stmt := topS 38
theorem scBeside : FnScope ["letters", "signs"] ["letters", "signs"] (defScope sBeside) := ⟨rfl, rfl, rfl, by decide +kernel, rfl, by decide +kernel, by decide +kernel⟩
def spBeside : Sp := fun vs H Q _ => ∃ (L z : List Nat), vs = [.str (T L), .str (T z)] ∧ L.length ≤ 50 ∧ z.length ≤ 100 ∧ ∀ (H' : Hp), Same H H' → Q (.bl (isText z (35 :: L) 0 (L.length + 1) && rises z)) H'
theorem ok_beside {f : Addr} {fd : FuncData} (F : Fun K "is_beside" "is_beside" sBeside f fd) (B : Bn mg) (C : Cn mg) (DT : Df P w K mg base "is_text" psIsText 1 spIsText) (DR : Df P w K mg base "is_rising" ["text"] 1 spRise) :
    FnOk P w K mg base CX0 2 f fd ["letters", "signs"] spBeside := by
  obtain ⟨fT, fdT, GT, kT, bT, mT⟩ := DT
  obtain ⟨fR, fdR, GR, kR, bR, mR⟩ := DR
  obtain ⟨tE, mE⟩ := C.edge
  refine F.ok scBeside (fun vs H Q E h => ?_) (fun cdv A outer s H vs Q E hr h => ?_)
  · obtain ⟨L, z, rfl, _⟩ := h
    rfl
  · obtain ⟨L, z, rfl, hL, hz, q⟩ := h
    refine ⟨_, pss_one (ps_ret (pe_and (pe_call GT hr (by rfl) mT kT bT .nil pass0 (pa_cons (pv 1) (pa_cons (pe_op op_add_str (pe_glob (v := .str "#") rfl mE ⟨_, rfl⟩) (pv 0)) (pa_cons pe_int (pa_cons (pe_op op_add (pe_callB call_len_str (by rfl) B.len PySem.boot_len (pa_cons (pv 0) pa_nil)) pe_int) pa_nil)))))
        (pe_one (pe_call GR hr (by rfl) mR kR bR .nil pass0 (pa_cons (pv 1) pa_nil))))), ?_⟩
    have hl : (T L).length ≤ sizeLine := by rw [T_len]; exact small (by omega)
    refine ⟨_, rfl, _, rfl, _, _, rfl, rfl, (by rw [len_hash, T_len]; exact small (by omega)), _, rfl, _, rfl, hl, _, _, rfl, rfl, z, 35 :: L, 0, L.length + 1, ?_, hz, fun H1 s1 => ?_⟩
    · rw [hash_app, T_len]
      rfl
    refine ⟨_, rfl, ite2 (fun c => ?_) (fun c => ?_)⟩
    · refine ⟨_, rfl, z, rfl, hz, fun H2 s2 => ?_⟩
      have := q H2 (s1.trans s2)
      rw [c, Bool.true_and] at this
      exact this
    · have := q H1 s1
      rw [Bool.eq_false_iff.mpr c, Bool.false_and] at this
      exact this
abbrev sIsRule : Stmt := topS 37
theorem scIsRule : FnScope ["letters", "rule", "ahead", "own", "behind", "sounds"] ["letters", "rule"] (defScope sIsRule) := ⟨rfl, rfl, rfl, by decide +kernel, rfl, by decide +kernel, by decide +kernel⟩
def spIsRule : Sp := fun vs H Q _ => ∃ (L : List Nat) (t : Addr) (ρ : Rule), vs = [.str (T L), .ref t] ∧ H t = some (.tup ρ.vs) ∧ LetOk L ∧ RuleOk L ρ ∧ ∀ (H' : Hp), Same H H' → Q (.bl true) H'
theorem ok_isRule {f : Addr} {fd : FuncData} (F : Fun K "is_rule" "is_rule" sIsRule f fd) (B : Bn mg) (C : Cn mg) (DT : Df P w K mg base "is_text" psIsText 1 spIsText) (DB : Df P w K mg base "is_beside" ["letters", "signs"] 2 spBeside) :
    FnOk P w K mg base CX0 3 f fd ["letters", "rule"] spIsRule := by
  obtain ⟨fT, fdT, GT, kT, bT, mT⟩ := DT
  obtain ⟨fB, fdB, GB, kB, bB, mB⟩ := DB
  obtain ⟨tC, mC⟩ := C.caps
  obtain ⟨tS, mS⟩ := C.lrs
  refine F.ok scIsRule (fun vs H Q E h => ?_) (fun cdv A outer s H vs Q E hr h => ?_)
  · obtain ⟨L, t, ρ, rfl, _⟩ := h
    rfl
  · obtain ⟨L, t, ρ, rfl, ht, hL, hρ, q⟩ := h
    have hr1 : Room 1 _ := hr.mono (by decide)
    refine ⟨_, pss_cons (ps_if (PW.pt (pw_or (pt_not (pt_val (pe_callB call_isi (by rfl) B.isi (by decide +kernel) (pa_cons (pv 1) (pa_cons (pe_bltn (v := .ty "tuple") rfl B.tup (by decide +kernel) rfl) pa_nil)))))
          (pw_or1 (pt_cmpR op_ne (pe_callB call_len (by rfl) B.len PySem.boot_len (pa_cons (pv 1) pa_nil)) pe_int (nomark _))))) (pss_one (ps_ret pe_bl)) pss_nil)
      (pss_cons (ps_asg (pv 1) (pg_tup (by rfl) (pgs_cons (pg_name (i := 2) scIsRule.nd rfl (.inl rfl)) (pgs_cons (pg_name (i := 3) scIsRule.nd rfl (.inl rfl)) (pgs_cons (pg_name (i := 4) scIsRule.nd rfl (.inl rfl)) (pgs_cons (pg_name (i := 5) scIsRule.nd rfl (.inl rfl)) pgs_nil))))))
      (pss_one (ps_ret (pe_and (pe_call GB hr (by rfl) mB kB bB .nil pass0 (pa_cons (pv 0) (pa_cons (pv 2) pa_nil)))
        (pe_and (pe_call GT hr1 (by rfl) mT kT bT .nil pass0 (pa_cons (pv 3) (pa_cons (pv 0) (pa_cons pe_int (pa_cons pe_int pa_nil)))))
        (pe_and (pe_call GB hr (by rfl) mB kB bB .nil pass0 (pa_cons (pv 0) (pa_cons (pv 4) pa_nil)))
        (pe_one (pe_call GT hr1 (by rfl) mT kT bT .nil pass0 (pa_cons (pv 5) (pa_cons (pe_glob (v := .str "ABCDEFGHIJKLMNOPQRSTUVWXYZ") rfl mC ⟨_, rfl⟩) (pa_cons pe_int (pa_cons (pe_glob (v := .int 3) rfl mS ⟨_, rfl⟩) pa_nil)))))))))))), ?_⟩
    have l5 := hρ.ah.length_le
    have l6 := hρ.be.length_le
    rw [List.length_cons] at l5 l6
    have l4 := hL.l4
    refine ⟨_, rfl, _, _, .type "tuple", _, true, rfl, ClsV.ty _, .base (.tup ht), kit_ty (by decide +kernel), true, rfl, iteF ?_⟩
    refine ⟨_, rfl, _, 4, rfl, .inr ⟨_, .inl (.inl ht), rfl⟩, rfl, _, rfl, iteF ?_⟩
    refine ⟨_, rfl, t, _, rfl, .inl (.inl ht), rfl, _, _, rfl, _, _, rfl, _, _, rfl, _, _, rfl, rfl, ?_⟩
    refine ⟨_, rfl, _, rfl, L, ρ.ah, rfl, by omega, by omega, fun H1 s1 => ?_⟩
    refine ⟨_, rfl, ?_⟩
    rw [side_ok hL hρ.ah]
    refine iteT ?_
    refine ⟨_, rfl, _, rfl, ρ.ow, L, 1, 2, rfl, (by have := hρ.o2; omega), fun H2 s2 => ?_⟩
    refine ⟨_, rfl, ?_⟩
    rw [isText_of hρ.o1 hρ.o2 hρ.ow]
    refine iteT ?_
    refine ⟨_, rfl, _, rfl, L, ρ.be, rfl, by omega, by omega, fun H3 s3 => ?_⟩
    refine ⟨_, rfl, ?_⟩
    rw [side_ok hL hρ.be]
    refine iteT ?_
    refine ⟨_, rfl, ρ.so, capsL, 0, 3, (by rw [caps_eq]; rfl), (by have := hρ.s3; omega), fun H4 s4 => ?_⟩
    rw [isText_of (Nat.zero_le _) hρ.s3 fun c hc => mem_caps (hρ.so c hc)]
    exact q H4 (s1.trans (s2.trans (s3.trans s4)))
end
end Say
namespace PySem
open Sem (wp)
open AutoSeq1 (wpAny_loadPart')
/-- enumerate(tuple): what the making of it meets -/
theorem say_meets_enumT (l : Addr) (o0 : Obj) (items : Array Value) (n : Nat) (clC : o0.cls = .type "tuple") (dtD : o0.data = .seq items n) :
    Meets (Builtin.«enumerate.__new__» ⟨[.type "enumerate", .ref l], []⟩) (fun _ R s => s.heap.get? l = some o0 ∧
      R (.ok (.ret (.ref (s.heap.push { cls := .type "tuple_iterator", data := .fields #[.ref l, .int 0 0] }).objs.size)))
        { s with heap := (s.heap.push { cls := .type "tuple_iterator", data := .fields #[.ref l, .int 0 0] }).push { cls := .type "enumerate", data := .fields #[.none, .bool false, .ref s.heap.objs.size, rawInt 0, .none, .none] } }) :=
  .of_wp fun prog w A R s h => by
    obtain ⟨txP, g, d, tkn, os⟩ := s; obtain ⟨lnT, h⟩ := h
    obtain ⟨oc, od, dt, osl⟩ := o0
    replace clC : oc = .type "tuple" := clC
    replace dtD : dt = .seq items n := dtD
    subst clC dtD
    have hsub := sub_enumerate
    have hL : Heap.IsTuple (Shared.heap ⟨txP, g, d, tkn, os⟩) l items := ⟨_, lnT, rfl, n, rfl⟩
    wp_walk using wpAny_loadPart' lnT
    refine wpAny_stack_any fun sta => wpAny_pure ?_
    split
    · rename_i c _ _ _ _ _
      cases (c == Value.type "enumerate")
      · wp_walk using wpAny_loadPart' lnT, wpAny_pyIter_tuple hL
        exact ⟨_, rfl, h⟩
      · wp_walk using wpAny_loadPart' lnT, wpAny_pyIter_tuple hL
        exact ⟨_, rfl, h⟩
    · wp_walk using wpAny_loadPart' lnT, wpAny_pyIter_tuple hL
      exact ⟨_, rfl, h⟩
section
variable {prog : Program} {w : World} {A : Around} {E : Value → Shared → Prop} {s : Shared}
theorem say_call_enumT {l : Addr} {items : Array Value} {Q : Value → Shared → Prop} (hL : s.heap.IsTuple l items)
    (h : ∀ h', IsEnum h' (s.heap.objs.size + 1) s.heap.objs.size 0 .none → h'.IsTupleIter s.heap.objs.size l 0 → h'.objs.size = s.heap.objs.size + 2 →
      (∀ b o, s.heap.get? b = some o → h'.get? b = some o) → Q (.ref (s.heap.objs.size + 1)) { s with heap := h' }) :
    wpAny (model prog w) A (call (.type "enumerate") [.ref l]) Q E s := by
  obtain ⟨o0, lnT, clC, n, dtD⟩ := hL
  refine callType_new F.called_enumerate (by decide) (F.typeCall_enumerate_1 _) (F.newCall_enumerate_1 _) (fun obj => F.args_object_init_2 obj _) F.entry_enumerate_new
    (say_meets_enumT l o0 items n clC dtD) ⟨lnT, ?_⟩
  have szT : (s.heap.push { cls := .type "tuple_iterator", data := .fields #[.ref l, .int 0 0] }).objs.size = s.heap.objs.size + 1 := Heap.size_push ..
  show _ ∧ _
  rw [szT]
  have hEn : IsEnum ((s.heap.push { cls := .type "tuple_iterator", data := .fields #[.ref l, .int 0 0] }).push
      { cls := .type "enumerate", data := .fields #[.none, .bool false, .ref s.heap.objs.size, rawInt 0, .none, .none] }) (s.heap.objs.size + 1) s.heap.objs.size 0 .none := by
    have := Heap.get?_push_size (s.heap.push { cls := .type "tuple_iterator", data := .fields #[.ref l, .int 0 0] })
      (o := { cls := .type "enumerate", data := .fields #[.none, .bool false, .ref s.heap.objs.size, rawInt 0, .none, .none] }) rfl
    rw [szT] at this; exact this
  refine ⟨⟨_, hEn, rfl⟩, h _ hEn ⟨_, Heap.get?_push_of_some _ (Heap.get?_push_size _ rfl), rfl, rfl⟩ (by rw [Heap.size_push, szT]) fun b o x => Heap.get?_push_of_some _ (Heap.get?_push_of_some _ x)⟩
theorem say_enumT_end {e it l : Addr} {i : Nat} {j : Int} {items : Array Value} {was : Value} {Q : Option Value → Shared → Prop} (noH : A.handled = none)
    (hEn : IsEnum s.heap e it j was) (hTi : s.heap.IsTupleIter it l i) (lnT : s.heap.IsTuple l items) (atI0 : items[i]? = none)
    (hQ : ∀ h', Heap.ExtBut it s.heap h' → Q none { s with heap := h' }) : wpAny (model prog w) A (pyNext (.ref e)) Q E s := by
  have isTup : s.TypeIs (.ref e) "enumerate" := ⟨_, hEn, rfl⟩
  unfold pyNext
  refine wpAny_bind (wpAny_attempt (wpAny_callSpecial?_slot (name := Str.ofString "__next__") isTup F.slot_enumerate_next
    (wpAny_call_entry F.slot_enumerate_next isTup F.entry_enumerate_next ?_ (F.args_enumerate_next_1 _))))
  show wpAny _ _ (field (.ref e) 2 >>= _) _ _ _
  refine wpAny_bind (wpAny_field hEn rfl (x := .ref it) rfl ?_)
  refine wpAny_bind (wpAny_nextOf_tuple_end noH hTi lnT atI0 fun h' x he' hx' => ?_)
  obtain ⟨o, obO, clC⟩ := hx'
  refine wpAny_bind (wpAny_isInstance (T := "StopIteration") (b := true) ⟨o, obO, clC⟩ isSubtype_stop ?_)
  exact wpAny_pure (hQ _ he')
end
end PySem
namespace Say
open PySem PySem.Spec PyProof.Rows L2
/-- the tuple at a adrs it stands at each turn, each item in a new pair -/
def IteT (K : PySem.W.Frag) (a : Addr) : It :=
  ⟨fun i H => ∃ (xs : List V) (x : V), SqT K H a xs ∧ xs[i]? = some x, fun i H v H' => ∃ T x, v = .ref T ∧ H T = none ∧ H' = upd H T (.tup [.int (i : Nat), x]) ∧ ∀ xs, SqT K H a xs → xs[i]? = some x, fun i H => ∃ xs : List V, SqT K H a xs ∧ xs.length ≤ i⟩
theorem enum_ne {h : Heap} {e it a : Addr} {i : Int} {was : Value} {items : Array Value} (hEn : IsEnum h e it i was) (isTup : h.IsTuple a items) : e ≠ a := fun z => by
  subst z
  obtain ⟨o, obO, clC, _⟩ := isTup
  have hEn : h.get? e = some _ := hEn
  rw [hEn] at obO
  cases obO
  exact absurd (Value.type.inj clC) (by decide)
theorem tit_ne {h : Heap} {it a : Addr} {i : Nat} {items : Array Value} (hEn : h.IsTupleIter it a i) (isTup : h.IsTuple a items) : a ≠ it := fun z => by
  subst z
  obtain ⟨o, obO, clC, _⟩ := isTup
  obtain ⟨o', ho', hc', _⟩ := hEn
  rw [obO] at ho'
  cases ho'
  rw [clC] at hc'
  exact absurd (Value.type.inj hc') (by decide)
theorem turn_enumT {P : Program} {w : World} {K : PySem.W.Frag} {els : List Expr} {k9 : Nat} {tps0 : Pos} (a e it : Addr) :
    Turn P w K (.Tuple els k9 tps0) (IteT K a) [e, it] e (fun i h => (∃ was, IsEnum h e it ((i : Nat) : Int) was) ∧ h.IsTupleIter it a i ∧ e ≠ it) where
  mem := by simp
  obj := fun i h sta b hb => by
    obtain ⟨⟨was, hEn⟩, ⟨o, obO, clC, dtD⟩, _⟩ := sta
    have e' : b = e ∨ b = it := by simpa using hb
    rcases e' with z | z
    · rw [z]; exact ⟨_, hEn, fun v q => nomatch q⟩
    · rw [z]; exact ⟨o, obO, fun v q => by rw [dtD] at q; cases q⟩
  keep := fun i h h' sta k => let ⟨⟨was, hEn⟩, hi, hAp⟩ := sta; ⟨⟨was, k e (by simp) _ hEn⟩, hi.at fun o q => k it (by simp) o q, hAp⟩
  item := by
    intro X hP hw hK clC i pn s σ H E I fresh0 sta gW
    subst hP hw hK
    obtain ⟨⟨was, hEn⟩, hTi, hAp⟩ := sta
    obtain ⟨xs, x, isT, atI0⟩ := gW
    obtain ⟨its, rel, p, szT⟩ := I.tuple isT
    have p : s.heap.IsTuple a its.toArray := p
    obtain ⟨u, getU, relU⟩ := rel.get atI0
    have ltE : e < s.heap.objs.size := Heap.lt_size hEn
    have ltI : it < s.heap.objs.size := by obtain ⟨_, q, _⟩ := hTi; exact Heap.lt_size q
    have ltN : i < its.toArray.size := by
      have := (List.getElem?_eq_some_iff.mp getU).1
      simpa using this
    refine wpAny_pyNext_enum_itemD (Draws.tuple (show X.A.in1.handled = none from I.ok.hd clC) it a (tit_ne hTi p) its.toArray) hEn ⟨hTi, p⟩ ltN hAp (by
      simp only [List.mem_cons, List.not_mem_nil, or_false, not_or]
      exact ⟨hAp, enum_ne hEn p⟩) fun u' h' tkn hu' obO hst' isTup szH kpT => ?_
    have eu : u' = u := by
      have h1 : its.toArray[i]? = some u' := hu'
      rw [List.getElem?_toArray, getU] at h1
      exact (Option.some.inj h1).symm
    subst eu
    obtain ⟨hit', p'⟩ := hst'
    refine ⟨_, rfl, wpAny_letOwnedTupleGo_enum (s := { s with heap := h', toks := tkn + 1 }) obO fun h'' he' butE => ?_⟩
    have hT2 : h''.get? s.heap.objs.size = some { cls := .type "tuple", data := .seq #[.int i tkn, u'] } := (butE.2 _ (Nat.ne_of_gt ltE)).trans isTup
    have new : ObjOk X.prog X.w (upd H s.heap.objs.size (.tup [.int (i : Nat), x])) h'' s.heap.objs.size (.tup [.int (i : Nat), x]) :=
      ⟨by show 2 ≤ sizeLine; decide, [.int i tkn, u'], .cons ⟨_, rfl⟩ (.cons relU .nil), ⟨_, hT2, rfl, _, rfl⟩⟩
    have I1 : Inv X pn σ (upd H s.heap.objs.size (.tup [.int (i : Nat), x])) { s with heap := h'', toks := tkn + 1 } :=
      I.turnedNew (ch := [e, it]) (fun b ob hb q => (butE.2 b (fun z => hb (by simp [z]))).trans (kpT b ob (fun z => hb (by simp [z])) (fun z => hb (by simp [z])) q)) fresh0 (Nat.le_refl _) new
    refine ⟨.ref s.heap.objs.size, _, I1, rfl, ⟨_, x, rfl, I.hok.fresh (Nat.le_refl _), rfl, fun ys hy => by rw [I.tuple_inj hy isT]; exact atI0⟩, ⟨⟨u', ?_⟩, hit'.at fun o q => (butE.2 it (Ne.symm hAp)).trans q, hAp⟩, fun b hb => ?_⟩
    · have q1 : ((i + 1 : Nat) : Int) = (i : Int) + 1 := by omega
      rw [q1]; exact he'
    · have hb' : b < s.heap.objs.size := by
        have e' : b = e ∨ b = it := by simpa using hb
        rcases e' with z | z
        · rw [z]; exact ltE
        · rw [z]; exact ltI
      rw [upd_ne (Nat.ne_of_lt hb')]
      exact (fresh0 b hb).1
  done := by
    intro X hP hw hK clC i pn s σ H E I fresh0 sta gW
    subst hP hw hK
    obtain ⟨⟨was, hEn⟩, hTi, hAp⟩ := sta
    obtain ⟨xs, isT, atI0⟩ := gW
    obtain ⟨its, rel, p, szT⟩ := I.tuple isT
    have p : s.heap.IsTuple a its.toArray := p
    obtain ⟨f0, f1, f2, f3, f4, f5⟩ := fresh0 it (by simp)
    have hl := rel.length
    exact say_enumT_end (I.ok.hd clC) hEn hTi p (by rw [List.getElem?_toArray]; exact List.getElem?_eq_none (by omega)) fun h' eb => ⟨rfl, I.turned (t' := s.toks) (fun b o hb q => eb b o hb q) f0 f1 f3 f4 f5⟩
  self := fun A i s Q E sta h => let ⟨⟨_, hEn⟩, _⟩ := sta; wpAny_pyIter_enum hEn h
def iEnumT (K : PySem.W.Frag) (ta : TA) : TI := fun σ H R => ta σ H fun vs H1 => ∃ a xs, vs = [.ref a] ∧ SqT K H1 a xs ∧ R (IteT K a) H1
theorem pi_enumT {X : Cx} {e : Expr} {ta : TA} {p pos tps0 : Pos} {els : List Expr} {k9 : Nat} (gW : Gl X "enumerate") (hm : X.mg "enumerate" = none) (atA : PA X [e] ta) (hs : starEach [e] X.env = [(false, eval e X.env)] := by rfl) :
    PI X (.Tuple els k9 tps0) (.Call (.Name "enumerate" p) [e] [] pos) (iEnumT X.K ta) := by
  refine ⟨fun pn s σ H R I h => ?_⟩
  refine Call_ (ld_blt I gW hm boot_enumerate (PyProof.Rows.callWith_type1 (thn (atA.run pos pn s σ H _ I h) fun args s1 ⟨vs, H1, I1, r1, q1⟩ => ?_) hs rfl))
  obtain ⟨a, xs, ex, isT, q⟩ := q1
  subst ex
  cases r1 with
  | cons r rst =>
    cases rst
    cases r
    obtain ⟨its, rel, p', szT⟩ := I1.tuple isT
    refine say_call_enumT (show s1.heap.IsTuple a its.toArray from p') fun h' hEn hTi szH kpT => wpAny_pyIter_enum hEn ?_
    have I2 : Inv X pn σ H1 { s1 with heap := h' } := I1.kept (t' := s1.toks) kpT
    refine ⟨s1.heap.objs.size + 1, [s1.heap.objs.size + 1, s1.heap.objs.size], _, _, H1, rfl, I2, turn_enumT a (s1.heap.objs.size + 1) s1.heap.objs.size, ⟨⟨.none, hEn⟩, hTi, Nat.succ_ne_self _⟩, fun b hb => ?_, q⟩
    have e' : b = s1.heap.objs.size + 1 ∨ b = s1.heap.objs.size := by simpa using hb
    have hle : s1.heap.objs.size ≤ b := by
      rcases e' with z | z
      · rw [z]; exact Nat.le_add_right _ _
      · rw [z]; exact Nat.le_refl _
    exact I1.fpOk hle (I1.hok.fresh hle)
theorem walk_enumT {K : PySem.W.Frag} {a : Addr} {xs : List V} : Walk (IteT K a) xs.length (fun H => SqT K H a xs) (YPair (fun i => some (.int (i : Nat))) (fun i => xs[i]?)) := by
  refine ⟨fun i _ hi q => ⟨xs, xs[i], q, by simp [hi]⟩, fun _ q => ⟨xs, q, Nat.le_refl _⟩, fun i H v H' _ q y => ?_⟩
  obtain ⟨T, x, h1, h2, h3, h4⟩ := y
  exact ⟨T, .int (i : Nat), x, h1, h2, h3, rfl, h4 xs q⟩
end Say
namespace Say
open PySem PySem.Spec PyProof.Rows L2
abbrev Exc := List Nat × List Nat
/-- an exception of a book of the letters L -/
structure ExcOk (L : List Nat) (e : Exc) : Prop where
  w : ∀ c ∈ e.1, c ∈ L
  w1 : 1 ≤ e.1.length
  w8 : e.1.length ≤ 8
  s : ∀ c ∈ e.2, 65 ≤ c ∧ c ≤ 90
  s36 : e.2.length ≤ 36
/-- a tuple as it was made: with no attributes of its own -/
def TupN (H : Hp) (a : Addr) (xs : List V) : Prop := ∃ o : Obj, H a = some (.frz o (.tup xs)) ∧ o.dict = none
theorem TupN.kt {H H' : Hp} {a : Addr} {xs : List V} (h : TupN H a xs) (e : KT H H') : TupN H' a xs := ⟨h.choose, e.2 _ _ _ h.choose_spec.1, h.choose_spec.2⟩
theorem TupN.rd {H : Hp} {a : Addr} {xs : List V} (h : TupN H a xs) : Rd H a (.tup xs) := .inr ⟨_, h.choose_spec.1⟩
def ExcsAt (H : Hp) (X : Addr) (es : List Exc) : Prop := ∃ ts : List Addr, TupN H X (ts.map V.ref) ∧ Paired (fun t (e : Exc) => H t = some (.tup [.str (T e.1), .str (T e.2)])) ts es
theorem ExcsAt.kt {H H' : Hp} {X : Addr} {es : List Exc} (h : ExcsAt H X es) (e : KT H H') : ExcsAt H' X es := by
  obtain ⟨ts, h1, h2⟩ := h
  exact ⟨ts, h1.kt e, paired_mono (fun t ρ q => e.1 _ _ q) h2⟩
structure BookOk (L : List Nat) (rs : List Rule) (es : List Exc) : Prop where
  lt : LetOk L
  rl : ∀ ρ ∈ rs, RuleOk L ρ
  r12 : rs.length ≤ 12
  ex : ∀ e ∈ es, ExcOk L e
  e8 : es.length ≤ 8
  up : es.Pairwise fun e f => e.1 < f.1
def BookAt (H : Hp) (b : Addr) (L : List Nat) (rs : List Rule) (es : List Exc) : Prop := ∃ R X, H b = some (.tup [.str (T L), .ref R, .ref X]) ∧ RulesAt H R rs ∧ ExcsAt H X es
theorem BookAt.kt {H H' : Hp} {b : Addr} {L : List Nat} {rs : List Rule} {es : List Exc} (h : BookAt H b L rs es) (e : KT H H') : BookAt H' b L rs es := by
  obtain ⟨R, X, h1, h2, h3⟩ := h
  exact ⟨R, X, e.1 _ _ h1, h2.kt e, h3.kt e⟩
section
variable {P : Program} {w : World} {K : PySem.W.Frag} {mg : Str → Option Value} {base : Heap}
abbrev sExcd : Stmt := topS 40
theorem scExcd : FnScope ["letters", "word"] ["letters", "word"] (defScope sExcd) := ⟨rfl, rfl, rfl, by decide +kernel, rfl, by decide +kernel, by decide +kernel⟩
def spExcd : Sp := fun vs H Q _ => ∃ (L z : List Nat), vs = [.str (T L), .str (T z)] ∧ z.length ≤ 100 ∧ ∀ (H' : Hp), Same H H' → Q (.bl (isText z L 1 8)) H'
theorem ok_excd {f : Addr} {fd : FuncData} (F : Fun K "is_excepted" "is_excepted" sExcd f fd) (C : Cn mg) (DT : Df P w K mg base "is_text" psIsText 1 spIsText) :
    FnOk P w K mg base CX0 2 f fd ["letters", "word"] spExcd := by
  obtain ⟨fT, fdT, GT, kT, bT, mT⟩ := DT
  obtain ⟨tX, mX⟩ := C.lexc
  refine F.ok scExcd (fun vs H Q E h => ?_) (fun cdv A outer s H vs Q E hr h => ?_)
  · obtain ⟨L, z, rfl, _⟩ := h
    rfl
  · obtain ⟨L, z, rfl, hl, q⟩ := h
    refine ⟨_, pss_one (ps_ret (pe_call GT hr (by rfl) mT kT bT .nil pass0 (pa_cons (pv 1) (pa_cons (pv 0) (pa_cons pe_int (pa_cons (pe_glob (v := .int 8) rfl mX ⟨_, rfl⟩) pa_nil)))))), ?_⟩
    exact ⟨_, rfl, _, rfl, z, L, 1, 8, rfl, hl, q⟩
abbrev sIsSo : Stmt := topS 41
theorem scIsSo : FnScope ["sounds"] ["sounds"] (defScope sIsSo) := ⟨rfl, rfl, rfl, by decide +kernel, rfl, by decide +kernel, by decide +kernel⟩
def spIsSo : Sp := fun vs H Q _ => ∃ (z : List Nat), vs = [.str (T z)] ∧ z.length ≤ 100 ∧ ∀ (H' : Hp), Same H H' → Q (.bl (isText z capsL 0 36)) H'
theorem ok_isSo {f : Addr} {fd : FuncData} (F : Fun K "is_sounds" "is_sounds" sIsSo f fd) (C : Cn mg) (DT : Df P w K mg base "is_text" psIsText 1 spIsText) :
    FnOk P w K mg base CX0 2 f fd ["sounds"] spIsSo := by
  obtain ⟨fT, fdT, GT, kT, bT, mT⟩ := DT
  obtain ⟨tC, mC⟩ := C.caps
  obtain ⟨tS, mS⟩ := C.lso
  refine F.ok scIsSo (fun vs H Q E h => ?_) (fun cdv A outer s H vs Q E hr h => ?_)
  · obtain ⟨z, rfl, _⟩ := h
    rfl
  · obtain ⟨z, rfl, hl, q⟩ := h
    refine ⟨_, pss_one (ps_ret (pe_call GT hr (by rfl) mT kT bT .nil pass0 (pa_cons (pv 0) (pa_cons (pe_glob (v := .str "ABCDEFGHIJKLMNOPQRSTUVWXYZ") rfl mC ⟨_, rfl⟩) (pa_cons pe_int (pa_cons (pe_glob (v := .int 36) rfl mS ⟨_, rfl⟩) pa_nil)))))), ?_⟩
    exact ⟨_, rfl, z, capsL, 0, 36, (by rw [caps_eq]; rfl), hl, q⟩
abbrev sIsExc : Stmt := topS 39
theorem scIsExc : FnScope ["letters", "pair", "word", "sounds"] ["letters", "pair"] (defScope sIsExc) := ⟨rfl, rfl, rfl, by decide +kernel, rfl, by decide +kernel, by decide +kernel⟩
def spIsExc : Sp := fun vs H Q _ => ∃ (L : List Nat) (t : Addr) (e : Exc), vs = [.str (T L), .ref t] ∧ H t = some (.tup [.str (T e.1), .str (T e.2)]) ∧ ExcOk L e ∧ ∀ (H' : Hp), Same H H' → Q (.bl true) H'
theorem ok_isExc {f : Addr} {fd : FuncData} (F : Fun K "is_exception" "is_exception" sIsExc f fd) (B : Bn mg) (DX : Df P w K mg base "is_excepted" ["letters", "word"] 2 spExcd) (DS : Df P w K mg base "is_sounds" ["sounds"] 2 spIsSo) :
    FnOk P w K mg base CX0 3 f fd ["letters", "pair"] spIsExc := by
  obtain ⟨fX, fdX, GX, kX, bX, mX⟩ := DX
  obtain ⟨fS, fdS, GS, kS, bS, mS⟩ := DS
  refine F.ok scIsExc (fun vs H Q E h => ?_) (fun cdv A outer s H vs Q E hr h => ?_)
  · obtain ⟨L, t, e, rfl, _⟩ := h
    rfl
  · obtain ⟨L, t, e, rfl, ht, ho, q⟩ := h
    refine ⟨_, pss_cons (ps_if (PW.pt (pw_or (pt_not (pt_val (pe_callB call_isi (by rfl) B.isi (by decide +kernel) (pa_cons (pv 1) (pa_cons (pe_bltn (v := .ty "tuple") rfl B.tup (by decide +kernel) rfl) pa_nil)))))
          (pw_or1 (pt_cmpR op_ne (pe_callB call_len (by rfl) B.len PySem.boot_len (pa_cons (pv 1) pa_nil)) pe_int (nomark _))))) (pss_one (ps_ret pe_bl)) pss_nil)
      (pss_cons (ps_asg (pv 1) (pg_tup (by rfl) (pgs_cons (pg_name (i := 2) scIsExc.nd rfl (.inl rfl)) (pgs_cons (pg_name (i := 3) scIsExc.nd rfl (.inl rfl)) pgs_nil))))
      (pss_one (ps_ret (pe_and (pe_call GX hr (by rfl) mX kX bX .nil pass0 (pa_cons (pv 0) (pa_cons (pv 2) pa_nil)))
        (pe_one (pe_call GS hr (by rfl) mS kS bS .nil pass0 (pa_cons (pv 3) pa_nil))))))), ?_⟩
    refine ⟨_, rfl, _, _, .type "tuple", _, true, rfl, ClsV.ty _, .base (.tup ht), kit_ty (by decide +kernel), true, rfl, iteF ?_⟩
    refine ⟨_, rfl, _, 2, rfl, .inr ⟨_, .inl (.inl ht), rfl⟩, rfl, _, rfl, iteF ?_⟩
    refine ⟨_, rfl, t, _, rfl, .inl (.inl ht), rfl, _, _, rfl, _, _, rfl, rfl, ?_⟩
    refine ⟨_, rfl, _, rfl, L, e.1, rfl, (by have := ho.w8; omega), fun H1 s1 => ?_⟩
    refine ⟨_, rfl, ?_⟩
    rw [isText_of ho.w1 ho.w8 ho.w]
    refine iteT ?_
    refine ⟨_, rfl, e.2, rfl, (by have := ho.s36; omega), fun H4 s4 => ?_⟩
    rw [isText_of (Nat.zero_le _) ho.s36 fun c hc => mem_caps (ho.s c hc)]
    exact q H4 (s1.trans s4)
abbrev sChL : Stmt := topS 31
theorem scChL : FnScope ["letters"] ["letters"] (defScope sChL) := ⟨rfl, rfl, rfl, by decide +kernel, rfl, by decide +kernel, by decide +kernel⟩
def spChL : Sp := fun vs H Q _ => ∃ (L : List Nat), vs = [.str (T L)] ∧ LetOk L ∧ ∀ (H' : Hp), Same H H' → Q .non H'
theorem ok_chL {f : Addr} {fd : FuncData} (F : Fun K "check_letters" "check_letters" sChL f fd) (C : Cn mg) (DT : Df P w K mg base "is_text" psIsText 1 spIsText) (DR : Df P w K mg base "is_rising" ["text"] 1 spRise) :
    FnOk P w K mg base CX0 2 f fd ["letters"] spChL := by
  obtain ⟨fT, fdT, GT, kT, bT, mT⟩ := DT
  obtain ⟨fR, fdR, GR, kR, bR, mR⟩ := DR
  obtain ⟨tS, mS⟩ := C.small
  refine F.ok scChL (fun vs H Q E h => ?_) (fun cdv A outer s H vs Q E hr h => ?_)
  · obtain ⟨L, rfl, _⟩ := h
    rfl
  · obtain ⟨L, rfl, hL, q⟩ := h
    refine ⟨_, pss_one (ps_if (PW.pt (pw_or (pt_not (pt_val (pe_call GT hr (by rfl) mT kT bT .nil pass0 (pa_cons (pv 0) (pa_cons (pe_glob (v := .str "abcdefghijklmnopqrstuvwxyz") rfl mS ⟨_, rfl⟩) (pa_cons pe_int (pa_cons pe_int pa_nil)))))))
        (pw_or1 (pt_not (pt_val (pe_call GR hr (by rfl) mR kR bR .nil pass0 (pa_cons (pv 0) pa_nil))))))) (pss_one ps_never) pss_nil), ?_⟩
    have l4 := hL.l4
    refine ⟨_, rfl, L, smallL, 2, 4, (by rw [small_eq]; rfl), by omega, fun H1 s1 => ?_⟩
    rw [isText_of hL.l2 hL.l4 fun c hc => mem_small (hL.az c hc)]
    refine ⟨true, rfl, iteF ?_⟩
    refine ⟨_, rfl, L, rfl, by omega, fun H2 s2 => ?_⟩
    rw [hL.up]
    refine ⟨true, rfl, iteF ?_⟩
    exact q H2 (s1.trans s2)
abbrev sChR : Stmt := topS 32
theorem scChR : FnScope ["letters", "rules", "number", "rule"] ["letters", "rules"] (defScope sChR) := ⟨rfl, rfl, rfl, by decide +kernel, rfl, by decide +kernel, by decide +kernel⟩
def spChR : Sp := fun vs H Q _ => ∃ (L : List Nat) (R : Addr) (rs : List Rule), vs = [.str (T L), .ref R] ∧ LetOk L ∧ RulesAt H R rs ∧ (∀ ρ ∈ rs, RuleOk L ρ) ∧ rs.length ≤ 12 ∧ ∀ (H' : Hp), Same H H' → Q .non H'
theorem ok_chR {f : Addr} {fd : FuncData} (F : Fun K "check_rules" "check_rules" sChR f fd) (B : Bn mg) (C : Cn mg) (DI : Df P w K mg base "is_rule" ["letters", "rule"] 3 spIsRule) :
    FnOk P w K mg base CX0 4 f fd ["letters", "rules"] spChR := by
  obtain ⟨fI, fdI, GI, kI, bI, mI⟩ := DI
  obtain ⟨tS, mS⟩ := C.mrul
  refine F.ok scChR (fun vs H Q E h => ?_) (fun cdv A outer s H vs Q E hr h => ?_)
  · obtain ⟨L, R, rs, rfl, _⟩ := h
    rfl
  · obtain ⟨L, R, rs, rfl, hL, ⟨ts, hR, hp⟩, ho, h12, q⟩ := h
    refine ⟨_, pss_cons (ps_if (pt_not (pt_val (pe_callB call_isi (by rfl) B.isi (by decide +kernel) (pa_cons (pv 1) (pa_cons (pe_bltn (v := .ty "tuple") rfl B.tup (by decide +kernel) rfl) pa_nil))))) (pss_one ps_never) pss_nil)
      (pss_one (ps_for PassesOwn.never rfl (pi_enumT (by rfl) B.enu (pa_cons (pv 1) pa_nil)) (pg_tup (by rfl) (pgs_cons (pg_name (i := 2) scChR.nd rfl (.inl rfl)) (pgs_cons (pg_name (i := 3) scChR.nd rfl (.inl rfl)) pgs_nil)))
        (pss_one (ps_if (PW.pt (pw_or (pt_cmpR op_eq (pv 2) (pe_glob (v := .int 12) rfl mS ⟨_, rfl⟩) (nomark _)) (pw_or1 (pt_not (pt_val (pe_call GI hr (by rfl) mI kI bI .nil pass0 (pa_cons (pv 0) (pa_cons (pv 3) pa_nil)))))))) (pss_one ps_never) pss_nil)))), ?_⟩
    refine ⟨_, rfl, _, _, .type "tuple", _, true, rfl, ClsV.ty _, .base (.tup hR), kit_ty (by decide +kernel), true, rfl, iteF ?_⟩
    refine ⟨_, rfl, R, _, rfl, .inl (.inl hR), for_it (walk_enumT (xs := ts.map V.ref)) (fun i σ H2 => Same H H2 ∧ ∃ v2 v3, σ = [some (.str (T L)), some (.ref R), v2, v3]) ⟨Same.refl H, _, _, rfl⟩ (fun i σ H2 _ h => .inl (.inl (h.1 _ _ hR))) ?_ ?_⟩
    · rintro i x σ H2 H3 hi ⟨s2, v2, v3, rfl⟩ ⟨t, x1, x2, rfl, ht, rfl, g1, g2⟩
      cases g1
      have g2 : (ts.map V.ref)[i]? = some x2 := g2
      rw [List.getElem?_map] at g2
      obtain ⟨a, ha, e⟩ := Option.map_eq_some_iff.mp g2
      subst e
      obtain ⟨ρ, hρ, hat⟩ := paired_at hp ha
      have sm := same_new ht (.tup [.int (i : Nat), .ref a])
      have hi2 : i < rs.length := (List.getElem?_eq_some_iff.mp hρ).1
      refine ⟨t, _, rfl, .inl (.inl upd_same), rfl, _, _, rfl, _, _, rfl, rfl, ?_⟩
      refine ⟨_, rfl, rfl, _, rfl, ?_⟩
      have nq : ¬ V.int ((i : Nat) : Int) = V.int 12 := fun z => by
        have := V.int.inj z
        omega
      rw [decide_eq_false nq]
      refine iteF ?_
      refine ⟨_, rfl, _, rfl, L, a, ρ, rfl, sm _ _ (s2 _ _ hat), hL, ho ρ (List.mem_of_getElem? hρ), fun H4 s4 => ?_⟩
      exact ⟨true, rfl, iteF ⟨s2.trans (sm.trans s4), _, _, rfl⟩⟩
    · rintro σ H2 ⟨s2, v2, v3, rfl⟩
      exact q H2 s2
end
end Say
namespace Say
open PySem PySem.Spec PyProof.Rows L2
section
variable {P : Program} {w : World} {K : PySem.W.Frag} {mg : Str → Option Value} {base : Heap}
abbrev sChE : Stmt := topS 33
theorem scChE : FnScope ["letters", "exceptions", "last", "number", "pair"] ["letters", "exceptions"] (defScope sChE) := ⟨rfl, rfl, rfl, by decide +kernel, rfl, by decide +kernel, by decide +kernel⟩
def spChE : Sp := fun vs H Q _ => ∃ (L : List Nat) (X : Addr) (es : List Exc), vs = [.str (T L), .ref X] ∧ ExcsAt H X es ∧ (∀ e ∈ es, ExcOk L e) ∧ es.length ≤ 8 ∧ (es.Pairwise fun e f => e.1 < f.1) ∧ ∀ (H' : Hp), Same H H' → Q .non H'
theorem ok_chE {f : Addr} {fd : FuncData} (F : Fun K "check_exceptions" "check_exceptions" sChE f fd) (B : Bn mg) (cM : KI mg "MOST_EXCEPTIONS" 8) (DI : Df P w K mg base "is_exception" ["letters", "pair"] 3 spIsExc) :
    FnOk P w K mg base CX0 4 f fd ["letters", "exceptions"] spChE := by
  obtain ⟨fI, fdI, GI, kI, bI, mI⟩ := DI
  obtain ⟨tS, mS⟩ := cM
  refine F.ok scChE (fun vs H Q E h => ?_) (fun cdv A outer s H vs Q E hr h => ?_)
  · obtain ⟨L, X, es, rfl, _⟩ := h
    rfl
  · obtain ⟨L, X, es, rfl, ⟨ts, hX, hp⟩, ho, h8, up, q⟩ := h
    refine ⟨_, pss_cons (ps_if (pt_not (pt_val (pe_callB call_isi (by rfl) B.isi (by decide +kernel) (pa_cons (pv 1) (pa_cons (pe_bltn (v := .ty "tuple") rfl B.tup (by decide +kernel) rfl) pa_nil))))) (pss_one ps_never) pss_nil)
      (pss_cons (ps_set (i := 2) scChE.nd rfl (.inl rfl) pe_str)
      (pss_one (ps_for PassesOwn.never rfl (pi_enumT (by rfl) B.enu (pa_cons (pv 1) pa_nil)) (pg_tup (by rfl) (pgs_cons (pg_name (i := 3) scChE.nd rfl (.inl rfl)) (pgs_cons (pg_name (i := 4) scChE.nd rfl (.inl rfl)) pgs_nil)))
        (pss_cons (ps_if (PW.pt (pw_or (pt_cmpR op_eq (pv 3) (pe_glob (v := .int 8) rfl mS ⟨_, rfl⟩) (nomark _)) (pw_or (pt_not (pt_val (pe_call GI hr (by rfl) mI kI bI .nil pass0 (pa_cons (pv 0) (pa_cons (pv 4) pa_nil)))))
            (pw_or1 (pt_cmpR op_le_str (pe_ix ix_tup (pv 4) pe_int (fun _ _ => rfl)) (pv 2) (nomark _)))))) (pss_one ps_never) pss_nil)
        (pss_one (ps_set (i := 2) scChE.nd rfl (.inl rfl) (pe_ix ix_tup (pv 4) pe_int (fun _ _ => rfl)))))))), ?_⟩
    refine ⟨_, rfl, _, _, .type "tuple", _, true, rfl, ClsV.ty _, .fTuple hX.choose_spec.1, kit_ty (by decide +kernel), true, rfl, iteF ?_⟩
    refine ⟨_, rfl, X, _, rfl, .inl hX.rd, for_it (walk_enumT (xs := ts.map V.ref)) (fun i σ H2 => Same H H2 ∧ ∃ l v3 v4, σ = [some (.str (T L)), some (.ref X), some (.str (T l)), v3, v4] ∧ ∀ e, es[i]? = some e → l < e.1) ⟨Same.refl H, [], _, _, by rw [← show Str.ofString "" = T [] from nil_eq]; rfl, fun e he => ?_⟩ (fun i σ H2 _ h => .inl (hX.kt (.of h.1)).rd) ?_ ?_⟩
    · have := (ho e (List.mem_of_getElem? he)).w1
      cases h : e.1 with
      | nil => rw [h] at this; exact absurd this (by decide)
      | cons a r => exact List.Lex.nil
    · rintro i x σ H2 H3 hi ⟨s2, l, v3, v4, rfl, hlt⟩ ⟨t, x1, x2, rfl, ht, rfl, g1, g2⟩
      cases g1
      have g2 : (ts.map V.ref)[i]? = some x2 := g2
      rw [List.getElem?_map] at g2
      obtain ⟨a, ha, e⟩ := Option.map_eq_some_iff.mp g2
      subst e
      obtain ⟨e, he, hat⟩ := paired_at hp ha
      have sm := same_new ht (.tup [.int (i : Nat), .ref a])
      have hi2 : i < es.length := (List.getElem?_eq_some_iff.mp he).1
      refine ⟨t, _, rfl, .inl (.inl upd_same), rfl, _, _, rfl, _, _, rfl, rfl, ?_⟩
      refine ⟨_, rfl, rfl, _, rfl, ?_⟩
      have nq : ¬ V.int ((i : Nat) : Int) = V.int 8 := fun z => by
        have := V.int.inj z
        omega
      rw [decide_eq_false nq]
      refine iteF ?_
      refine ⟨_, rfl, _, rfl, L, a, e, rfl, sm _ _ (s2 _ _ hat), ho e (List.mem_of_getElem? he), fun H4 s4 => ?_⟩
      have hat4 := s4 _ _ (sm _ _ (s2 _ _ hat))
      refine ⟨true, rfl, iteF ?_⟩
      refine ⟨_, rfl, a, _, 0, .str (T e.1), rfl, rfl, .inl (.inl hat4), atI_nat (j := 0) rfl, _, rfl, _, _, rfl, rfl, _, rfl, ?_⟩
      have lt := hlt e he
      rw [show decide ((T l).cps.toList < (T e.1).cps.toList) = true from decide_eq_true lt]
      refine iteF ?_
      refine ⟨_, rfl, a, _, 0, .str (T e.1), rfl, rfl, .inl (.inl hat4), atI_nat (j := 0) rfl, ?_⟩
      refine ⟨s2.trans (sm.trans s4), e.1, _, _, rfl, fun e' he' => ?_⟩
      exact (List.pairwise_iff_getElem.mp up) i (i + 1) hi2 (List.getElem?_eq_some_iff.mp he').1 (Nat.lt_succ_self _) |> fun h => by
        rw [(List.getElem?_eq_some_iff.mp he).2, (List.getElem?_eq_some_iff.mp he').2] at h
        exact h
    · rintro σ H2 ⟨s2, l, v3, v4, rfl, _⟩
      exact q H2 s2
abbrev sCh : Stmt := topS 30
theorem scCh : FnScope ["book", "letters", "rules", "exceptions"] ["book"] (defScope sCh) := ⟨rfl, rfl, rfl, by decide +kernel, rfl, by decide +kernel, by decide +kernel⟩
def spCh : Sp := fun vs H Q _ => ∃ (b : Addr) (L : List Nat) (rs : List Rule) (es : List Exc), vs = [.ref b] ∧ BookAt H b L rs es ∧ BookOk L rs es ∧ ∀ (H' : Hp), Same H H' → Q (.ref b) H'
theorem ok_ch {f : Addr} {fd : FuncData} (F : Fun K "checked_book" "checked_book" sCh f fd) (B : Bn mg) (DL : Df P w K mg base "check_letters" ["letters"] 2 spChL) (DR : Df P w K mg base "check_rules" ["letters", "rules"] 4 spChR)
    (DE : Df P w K mg base "check_exceptions" ["letters", "exceptions"] 4 spChE) : FnOk P w K mg base CX0 5 f fd ["book"] spCh := by
  obtain ⟨fL, fdL, GL, kL, bL, mL⟩ := DL
  obtain ⟨fR, fdR, GR, kR, bR, mR⟩ := DR
  obtain ⟨fE, fdE, GE, kE, bE, mE⟩ := DE
  refine F.ok scCh (fun vs H Q E h => ?_) (fun cdv A outer s H vs Q E hr h => ?_)
  · obtain ⟨b, L, rs, es, rfl, _⟩ := h
    rfl
  · obtain ⟨b, L, rs, es, rfl, ⟨R, X, hb, hR, hX⟩, ho, q⟩ := h
    refine ⟨_, pss_cons (ps_if (PW.pt (pw_or (pt_not (pt_val (pe_callB call_isi (by rfl) B.isi (by decide +kernel) (pa_cons (pv 0) (pa_cons (pe_bltn (v := .ty "tuple") rfl B.tup (by decide +kernel) rfl) pa_nil)))))
          (pw_or1 (pt_cmpR op_ne (pe_callB call_len (by rfl) B.len PySem.boot_len (pa_cons (pv 0) pa_nil)) pe_int (nomark _))))) (pss_one ps_never) pss_nil)
      (pss_cons (ps_asg (pv 0) (pg_tup (by rfl) (pgs_cons (pg_name (i := 1) scCh.nd rfl (.inl rfl)) (pgs_cons (pg_name (i := 2) scCh.nd rfl (.inl rfl)) (pgs_cons (pg_name (i := 3) scCh.nd rfl (.inl rfl)) pgs_nil)))))
      (pss_cons (ps_expr (pe_call GL (hr.mono (by decide)) (by rfl) mL kL bL .nil pass0 (pa_cons (pv 1) pa_nil)))
      (pss_cons (ps_expr (pe_call GR hr (by rfl) mR kR bR .nil pass0 (pa_cons (pv 1) (pa_cons (pv 2) pa_nil))))
      (pss_cons (ps_expr (pe_call GE hr (by rfl) mE kE bE .nil pass0 (pa_cons (pv 1) (pa_cons (pv 3) pa_nil))))
      (pss_one (ps_ret (pv 0))))))), ?_⟩
    refine ⟨_, rfl, _, _, .type "tuple", _, true, rfl, ClsV.ty _, .base (.tup hb), kit_ty (by decide +kernel), true, rfl, iteF ?_⟩
    refine ⟨_, rfl, _, 3, rfl, .inr ⟨_, .inl (.inl hb), rfl⟩, rfl, _, rfl, iteF ?_⟩
    refine ⟨_, rfl, b, _, rfl, .inl (.inl hb), rfl, _, _, rfl, _, _, rfl, _, _, rfl, rfl, ?_⟩
    refine ⟨_, rfl, L, rfl, ho.lt, fun H1 s1 => ?_⟩
    refine ⟨_, rfl, _, rfl, L, R, rs, rfl, ho.lt, hR.kt (.of s1), ho.rl, ho.r12, fun H2 s2 => ?_⟩
    refine ⟨_, rfl, _, rfl, L, X, es, rfl, hX.kt (.of (s1.trans s2)), ho.ex, ho.e8, ho.up, fun H3 s3 => ?_⟩
    exact ⟨_, rfl, q H3 (s1.trans (s2.trans s3))⟩
end
end Say
namespace L2
open PySem PySem.Spec PyProof.Rows
section
variable {X : Cx}
/-- o.f as one of several targets -/
def gAttr (K : PySem.W.Frag) (f : Str) (to : TE) : TG := fun v σ H Q => to σ H fun x H1 => ∃ a C dx fs, x = .ref a ∧ H1 a = some (.ins C dx fs) ∧ Cls K C ∧ NoAttr K C f ∧ fs.length < 1000 ∧ Q σ (upd H1 a (.ins C dx (putF f v fs)))
theorem pg_attr {o : Expr} {to : TE} {f : Str} {pos : Pos} (ho : PE X o to) : PG X (.Attribute o f pos) (gAttr X.K f to) := by
  refine ⟨fun pins s σ H v u Q I r h => ?_⟩
  rw [show assign (.Attribute o f pos) X.env u = (do
    let ov ← holding [u] (eval o X.env)
    standAt pos.atName
    holding [u, ov] (setAttr ov f u)
    release [u, ov] []) from assign_Attribute ..]
  refine wpAny_bind (wpAny_holding (thn (ho.run pins s σ H _ I h) fun ov s1 ⟨x, H1, I1, r1, a, C, dx, fs, ex, ea, c, n, l, q⟩ => ?_))
  subst ex
  obtain rfl : ov = Value.ref a := r1
  exact wpAny_bind (wpAny_standAt (wpAny_bind (wpAny_holding (setattr_ok I1 ea c n l r fun s2 I2 => wpAny_release ⟨σ, _, I2, q⟩))))
end
end L2
namespace Say
open PySem PySem.Spec PyProof.Rows L2
abbrev sDk (j : Nat) : Stmt := inClass (topS 83) j
/-- the three fields, as __init__ lays them -/
def fldD (b t : Addr) (i : Bool) : List (Str × V) := [("_book", .ref b), ("_told", .ref t), ("_idle", .bl i)]
theorem d_bk {b t : Addr} {i : Bool} : (fldD b t i).lookup ("_book" : Str) = some (.ref b) := rfl
theorem d_to {b t : Addr} {i : Bool} : (fldD b t i).lookup ("_told" : Str) = some (.ref t) := rfl
theorem d_id {b t : Addr} {i : Bool} : (fldD b t i).lookup ("_idle" : Str) = some (.bl i) := rfl
theorem p_bk {b t b' : Addr} {i : Bool} : putF "_book" (.ref b') (fldD b t i) = fldD b' t i := rfl
theorem p_id {b t : Addr} {i i' : Bool} : putF "_idle" (.bl i') (fldD b t i) = fldD b t i' := rfl
structure DkC (K : PySem.W.Frag) (C : Addr) : Prop where
  cl : Cls K C
  nB : NoAttr K C "_book"
  nT : NoAttr K C "_told"
  nI : NoAttr K C "_idle"
def wordsV (ws : List Str) : List V := ws.map V.str
/-- a desk at y: its book, what it told -/
structure DkAt (C : Addr) (H : Hp) (y b t : Addr) (L : List Nat) (rs : List Rule) (es : List Exc) (ws : List Str) (i : Bool) : Prop where
  ins : ∃ dx, H y = some (.ins C dx (fldD b t i))
  bk : BookAt H b L rs es
  told : H t = some (.lst (wordsV ws))
theorem DkAt.same {C : Addr} {H H' : Hp} {y b t : Addr} {L : List Nat} {rs : List Rule} {es : List Exc} {ws : List Str} {i : Bool} (h : DkAt C H y b t L rs es ws i) (e : Same H H') : DkAt C H' y b t L rs es ws i := by
  obtain ⟨⟨dx, h1⟩, h2, h3⟩ := h
  exact ⟨⟨dx, e _ _ h1⟩, h2.kt (.of e), e _ _ h3⟩
/-- all stays but the desk and what it told -/
def Kd (y t : Addr) (H H' : Hp) : Prop := ∀ b o, H b = some o → b ≠ y → b ≠ t → H' b = some o
theorem Kd.of {y t : Addr} {H H' : Hp} (e : Same H H') : Kd y t H H' := fun b o h _ _ => e b o h
theorem Kd.trans {y t : Addr} {H H1 H2 : Hp} (a : Kd y t H H1) (b : Kd y t H1 H2) : Kd y t H H2 := fun c o h n m => b c o (a c o h n m) n m
theorem Kd.y {y t : Addr} {H : Hp} (o : HO) : Kd y t H (upd H y o) := fun b u q n _ => by rw [upd_ne n]; exact q
theorem Kd.t {y t : Addr} {H : Hp} (o : HO) : Kd y t H (upd H t o) := fun b u q _ n => by rw [upd_ne n]; exact q
theorem Kd.kt {y t C dx : Addr} {fs : List (Str × V)} {l : List V} {H H' : Hp} (e : Kd y t H H') (hy : H y = some (.ins C dx fs)) (hp : H t = some (.lst l)) : KT H H' := KT.by fun a u h hu =>
  e a _ h (ne_of h hy (by rcases hu with ⟨_, rfl⟩ | ⟨_, _, rfl⟩ <;> (intro z; cases z))) (ne_of h hp (by rcases hu with ⟨_, rfl⟩ | ⟨_, _, rfl⟩ <;> (intro z; cases z)))
theorem DkAt.ne {C : Addr} {H : Hp} {y b t : Addr} {L : List Nat} {rs : List Rule} {es : List Exc} {ws : List Str} {i : Bool} (h : DkAt C H y b t L rs es ws i) : y ≠ t := by
  obtain ⟨⟨dx, h1⟩, _, h3⟩ := h
  exact ne_of h1 h3 (by intro z; cases z)
theorem DkAt.kt {C : Addr} {H H' : Hp} {y b t : Addr} {L : List Nat} {rs : List Rule} {es : List Exc} {ws : List Str} {i : Bool} (h : DkAt C H y b t L rs es ws i) (e : Kd y t H H') : KT H H' := by
  obtain ⟨⟨dx, h1⟩, _, h3⟩ := h
  exact e.kt h1 h3
section
variable {P : Program} {w : World} {K : PySem.W.Frag} {mg : Str → Option Value} {base : Heap}
theorem scDIn : FnScope ["self", "book"] ["self", "book"] (defScope (sDk 0)) := ⟨rfl, rfl, rfl, by decide +kernel, rfl, by decide +kernel, by decide +kernel⟩
def spDIn (C : Addr) : Sp := fun vs H Q _ => ∃ (y dx b : Addr) (L : List Nat) (rs : List Rule) (es : List Exc), vs = [.ref y, .ref b] ∧ H y = some (.ins C dx []) ∧ BookAt H b L rs es ∧ BookOk L rs es ∧
  ∀ (t : Addr) (H' : Hp), H t = none → Stp y H H' → DkAt C H' y b t L rs es [] true → Q .non H'
theorem ok_dIn {f C : Addr} {fd : FuncData} (F : Fun K "__init__" "Desk.__init__" (sDk 0) f fd) (S : DkC K C) (DCh : Df P w K mg base "checked_book" ["book"] 5 spCh) : FnOk P w K mg base CX0 6 f fd ["self", "book"] (spDIn C) := by
  obtain ⟨fCh, fdCh, GCh, kCh, bCh, mCh⟩ := DCh
  refine F.ok scDIn (fun vs H Q E h => ?_) (fun cdv A outer s H vs Q E hr h => ?_)
  · obtain ⟨y, dx, b, L, rs, es, rfl, _⟩ := h
    rfl
  · obtain ⟨y, dx, b, L, rs, es, rfl, hy, hB, oB, q⟩ := h
    refine ⟨_, pss_cons (ps_fld (pv 0) (pe_call GCh hr (by rfl) mCh kCh bCh .nil pass0 (pa_cons (pv 1) pa_nil)) rfl)
      (pss_cons (ps_fld (pv 0) (pe_lst pa_nil) rfl)
      (pss_one (ps_fld (pv 0) pe_bl rfl))), ?_⟩
    refine ⟨_, rfl, b, L, rs, es, rfl, hB, oB, fun H1 s1 => ?_⟩
    have hy1 := s1 _ _ hy
    have hB1 := hB.kt (.of s1)
    refine ⟨_, rfl, y, C, dx, _, rfl, hy1, S.cl, S.nB, (by show 0 < 1000; decide), ?_⟩
    refine ⟨(by show 0 ≤ sizeLine; decide), fun t ht => ?_⟩
    have nty : t ≠ y := fun z => by rw [z, upd_same] at ht; cases ht
    have ht1 : H1 t = none := by rw [upd_ne nty] at ht; exact ht
    have ht0 : H t = none := s1.free ht1
    refine ⟨_, rfl, y, C, dx, _, rfl, (by rw [upd_ne nty.symm]; exact upd_same), S.cl, S.nT, (by show 1 < 1000; decide), ?_⟩
    refine ⟨_, rfl, y, C, dx, _, rfl, upd_same, S.cl, S.nI, (by show 2 < 1000; decide), ?_⟩
    have st1 : ∀ c o, H1 c = some o → c ≠ y → (upd (upd (upd (upd H1 y (.ins C dx (putF "_book" (.ref b) []))) t (.lst [])) y (.ins C dx (putF "_told" (.ref t) (putF "_book" (.ref b) [])))) y (.ins C dx (putF "_idle" (.bl true) (putF "_told" (.ref t) (putF "_book" (.ref b) []))))) c = some o := fun c o hc n => by
      rw [upd_ne n, upd_ne n, upd_ne (ne_of_none hc ht1), upd_ne n]
      exact hc
    refine q t _ ht0 (fun c o hc n => st1 c o (s1 _ _ hc) n) ⟨⟨dx, upd_same⟩, hB1.kt (KT.by fun a u h hu => st1 a u h (ne_of h hy1 (by rcases hu with ⟨_, rfl⟩ | ⟨_, _, rfl⟩ <;> (intro z; cases z)))), ?_⟩
    rw [upd_ne nty, upd_ne nty, upd_same]
    rfl
theorem scDBk : FnScope ["self"] ["self"] (defScope (sDk 1)) := ⟨rfl, rfl, rfl, by decide +kernel, rfl, by decide +kernel, by decide +kernel⟩
def spDBk (C : Addr) : Sp := fun vs H Q _ => ∃ (y dx b t : Addr) (i : Bool), vs = [.ref y] ∧ H y = some (.ins C dx (fldD b t i)) ∧ Q (.ref b) H
theorem ok_dBk {f C : Addr} {fd : FuncData} {k : Nat} (F : Fun K "book" "Desk.book" (sDk 1) f fd) (S : DkC K C) : FnOk P w K mg base CX0 (k + 1) f fd ["self"] (spDBk C) := by
  refine F.ok scDBk (fun vs H Q E h => ?_) (fun cdv A outer s H vs Q E hr h => ?_)
  · obtain ⟨y, dx, b, t, i, rfl, _⟩ := h
    rfl
  · obtain ⟨y, dx, b, t, i, rfl, h1, q⟩ := h
    refine ⟨_, pss_one (ps_ret (pe_fld (pv 0) rfl)), ?_⟩
    exact ⟨_, rfl, y, C, dx, _, _, rfl, h1, S.cl, S.nB, d_bk, q⟩
end
/-! ### a method called with keywords -/
def tMethN (C : Addr) (m : Str) (n k : Nat) (sp : Sp) (gV : List V → List V → List V) (E : XK) (ta : TE) (t tk : TA) : TE := fun σ H Q => ta σ H fun x H1 => ∃ a dx fs, x = .ref a ∧ H1 a = some (.ins C dx fs) ∧ fs.lookup m = none ∧
  t σ H1 fun vs H2 => tk σ H2 fun zs H3 => vs.length = n ∧ zs.length = k ∧ sp (gV (.ref a :: vs) zs) H3 Q E
section
variable {X : Cx} {CX : CXT} {k n : Nat} {f C : Addr} {fd : FuncData} {ps ks : List Str} {sp : Sp} {E : XK} {m : Str} {apos pos : Pos} {o e : Expr} {es : List Expr} {kws : List Keyword} {ta : TE} {t tk : TA} {g : List Value → List Value → List Value} {gV : List V → List V → List V}
theorem pe_methN {pl : Sem Bool} (he : PE X o ta) (c : Cls X.K C) (hm : Meth X.K C m f) (F : FnOk X.prog X.w X.K X.mg X.base CX k f fd ps sp) (hr : Room k X.A) (hb : KBn X.K fd ps (n + 1) ks g gV) (hx : Passes CX X E)
    (ha : PA X (e :: es) t) (hkw : PK X kws tk) (hall : (backToKw pos (keywordEach kws X.env)).all (·.1.isSome) = true := by rfl) (hks : (backToKw pos (keywordEach kws X.env)).filterMap (·.1) = ks := by rfl)
    (hst : starEach (e :: es) X.env = (false, eval e X.env) :: starEach es X.env := by rfl)
    (hpl : ((backTo pos (starEach (e :: es) X.env)).any (·.1) || (backToKw pos (keywordEach kws X.env)).any (·.1.isNone)) = false := by rfl)
    (ht : eval (.Call (.Attribute o m apos) (e :: es) kws pos) X.env = (do
      let ov ← eval o X.env
      standAt apos.atName
      let (f, first) ← holding [ov] (getMethod ov m pl)
      callWith pos f first (backTo pos (starEach (e :: es) X.env)) (backToKw pos (keywordEach kws X.env))) := by rfl) :
    PE X (.Call (.Attribute o m apos) (e :: es) kws pos) (tMethN C m n ks.length sp gV E ta t tk) := by
  refine ⟨fun pins s σ H Q I h => ?_⟩
  refine PySem.W.methodCall_KW (pl := pl) (thn (he.run pins s σ H _ I h) fun u s1 ⟨x, H1, I1, rx, a, dx, fs, ex, ea, l, q⟩ => ?_) ht
  subst ex
  obtain rfl : u = Value.ref a := rx
  refine getmeth_ok I1 ea c hm l ?_
  refine PySem.W.callWith_KW (first := [.ref a]) (h₀ := X.base) I.ok.mod.kin hm.kp hall (thn (ha.run pos pins s1 σ H1 _ I1 q) fun us s2 ⟨vs, H2, I2, r, q2⟩ => ?_) hpl hst
  refine thn (hkw.run pos pins s2 σ H2 _ I2 q2) fun ws s3 ⟨zs, H3, I3, rz, l1, l2, q3⟩ => ⟨I3.kIn, ?_⟩
  rw [hks]
  exact run_fnN (us := .ref a :: us) (vs := .ref a :: vs) F hr hb hx I3 (.cons rfl r) rz (by rw [List.length_cons, l1]) l2 q3
end
end Say
namespace Say
open PySem PySem.Spec PyProof.Rows L2
theorem tyL {K : PySem.W.Frag} {H : Hp} {a : Addr} {xs : List V} (h : SqL K H a xs) : TyX K H (.ref a) (.type "list") := by
  rcases h with (h | ⟨o, h⟩) | ⟨o, its, n, h, hc, _⟩
  · exact .base (.lst h)
  · exact .base (.frz h)
  · exact .kList h hc
theorem tyT {K : PySem.W.Frag} {H : Hp} {a : Addr} {xs : List V} (h : SqT K H a xs) : TyX K H (.ref a) (.type "tuple") := by
  rcases h with (h | ⟨o, h⟩) | ⟨o, its, n, h, hc, _⟩
  · exact .base (.tup h)
  · exact .fTuple h
  · exact .kTuple h hc
theorem seqT_same {K : PySem.W.Frag} {H H' : Hp} {a : Addr} {xs : List V} (e : Same H H') (h : SqT K H a xs) : SqT K H' a xs := by
  rcases h with (h | ⟨o, h⟩) | h
  · exact .inl (.inl (e _ _ h))
  · exact .inl (.inr ⟨o, e _ _ h⟩)
  · exact .inr h
def NoTup (K : PySem.W.Frag) (H : Hp) (v : V) : Prop := v = .non ∨ (∃ z, v = .str z) ∨ (∃ i, v = .int i) ∨ ∃ a xs, v = .ref a ∧ SqL K H a xs
def NoLst (K : PySem.W.Frag) (H : Hp) (v : V) : Prop := v = .non ∨ (∃ z, v = .str z) ∨ (∃ i, v = .int i) ∨ ∃ a xs, v = .ref a ∧ SqT K H a xs
theorem NoTup.ty {K : PySem.W.Frag} {H : Hp} {v : V} (h : NoTup K H v) : ∃ t, TyX K H v (.type t) ∧ kitB t "tuple" = some false := by
  rcases h with rfl | ⟨z, rfl⟩ | ⟨i, rfl⟩ | ⟨a, xs, rfl, h⟩
  · exact ⟨_, .base .non, by decide +kernel⟩
  · exact ⟨_, .base (.str _), by decide +kernel⟩
  · exact ⟨_, .base (.int _), by decide +kernel⟩
  · exact ⟨_, tyL h, by decide +kernel⟩
theorem NoLst.ty {K : PySem.W.Frag} {H : Hp} {v : V} (h : NoLst K H v) : ∃ t, TyX K H v (.type t) ∧ kitB t "list" = some false := by
  rcases h with rfl | ⟨z, rfl⟩ | ⟨i, rfl⟩ | ⟨a, xs, rfl, h⟩
  · exact ⟨_, .base .non, by decide +kernel⟩
  · exact ⟨_, .base (.str _), by decide +kernel⟩
  · exact ⟨_, .base (.int _), by decide +kernel⟩
  · exact ⟨_, tyT h, by decide +kernel⟩
theorem NoTup.same {K : PySem.W.Frag} {H H' : Hp} {v : V} (h : NoTup K H v) (s : Same H H') : NoTup K H' v := by
  rcases h with h | h | h | ⟨a, xs, h1, h2⟩
  · exact .inl h
  · exact .inr (.inl h)
  · exact .inr (.inr (.inl h))
  · exact .inr (.inr (.inr ⟨a, xs, h1, Same.seq s h2⟩))
/-- no text -/
def NoStr (K : PySem.W.Frag) (H : Hp) (v : V) : Prop := v = .non ∨ (∃ i, v = .int i) ∨ (∃ a xs, v = .ref a ∧ SqL K H a xs) ∨ ∃ a xs, v = .ref a ∧ SqT K H a xs
theorem NoStr.ty {K : PySem.W.Frag} {H : Hp} {v : V} (h : NoStr K H v) : ∃ t, TyX K H v (.type t) ∧ kitB t "str" = some false := by
  rcases h with rfl | ⟨i, rfl⟩ | ⟨a, xs, rfl, h⟩ | ⟨a, xs, rfl, h⟩
  · exact ⟨_, .base .non, by decide +kernel⟩
  · exact ⟨_, .base (.int _), by decide +kernel⟩
  · exact ⟨_, tyL h, by decide +kernel⟩
  · exact ⟨_, tyT h, by decide +kernel⟩
/-- a text, not too long, or none -/
def VOk (K : PySem.W.Frag) (H : Hp) (v : V) : Prop := (∃ z : List Nat, v = .str (T z) ∧ z.length ≤ 100) ∨ NoStr K H v
theorem NoStr.same {K : PySem.W.Frag} {H H' : Hp} {v : V} (h : NoStr K H v) (s : Same H H') : NoStr K H' v := by
  rcases h with h | h | ⟨a, xs, h1, h2⟩ | ⟨a, xs, h1, h2⟩
  · exact .inl h
  · exact .inr (.inl h)
  · exact .inr (.inr (.inl ⟨a, xs, h1, Same.seq s h2⟩))
  · exact .inr (.inr (.inr ⟨a, xs, h1, seqT_same s h2⟩))
theorem VOk.same {K : PySem.W.Frag} {H H' : Hp} {v : V} (h : VOk K H v) (s : Same H H') : VOk K H' v := by
  rcases h with h | h
  · exact .inl h
  · exact .inr (h.same s)
end Say
namespace PySem
namespace XBadBook
open PySem.W PySem.Calls PyProof.Rows PySem.HandSPX
/-! ### the text of BadBook.__init__ -/
abbrev sEx : Stmt := L2.inClass (Say.topS 4) 0
abbrev iA : Arguments := L2.defArgs sEx
abbrev iB : List Stmt := L2.defBody sEx
abbrev iS : Scope := L2.defScope sEx
def eF : Expr := match iB with
  | .Expr (.Call _ (e :: _) _ _) _ :: _ => e
  | _ => .Constant .none 0 ⟨0, 0, 0, 0⟩
theorem eF_eq : ∃ c1 c2 d2 c3 c4 d4 c0, eF = .JoinedStr [.Constant (.str "the book can't be: part ") 0 c1, .FormattedValue (.Name "part" c2) (-1) none d2, .Constant (.str ", number ") 0 c3, .FormattedValue (.Name "number" c4) (-1) none d4] c0 := ⟨_, _, _, _, _, _, _, rfl⟩
theorem slen (x y : Str) : (x ++ y).length = x.length + y.length := by rw [TL.len_tl, TL.tl_append, List.length_append, ← TL.len_tl, ← TL.len_tl]
theorem iS_cell : ∀ y ∈ iS.names, y.2 ≠ .cell := by decide +kernel
/-- what the written part says of BadBook, at C, and of its __init__, at fI -/
structure ExTxt (P : Program) (K : Frag) (mg : Str → Option Value) (C fI : Addr) : Prop where
  gC : mg "BadBook" = some (.ref C)
  sB : mg "super" = none
  cls : ∃ nm q N bs bm sn sub ab col dd k0 k1 k2 k3 k5, K.lookup C = some (excClassObj nm q C N bs bm true sn sub ab col dd k0 k1 k2 k3 k5 "ValueError.__new__") ∧ refsVE bm = true
  sa : findIn K (.ref C) "__setattr__" = some (some (.builtin "object.__setattr__"))
  noP0 : findIn K (.ref C) "part" = some none
  noP1 : findIn K (.ref C) "number" = some none
  iC : findIn K (.ref C) "__init__" = some (some (.ref fI))
  tC : typeIn K (.ref fI) = some (.type "function")
  kC : keepIn K (.ref C) = true
  exC : subIn K (.ref C) (.type "BaseException") = some true
  tyC : typeIn K (.ref C) = some (.type "type")
  sup : ks_superIn K C C "__init__" = some (some (.builtin "ValueError.__init__"))
  subV : subIn K (.ref C) (.type "ValueError") = some true
  any : nsIn K cStatics "thirdparty.any" = some none
  main : (P.main.scope.names.lookup ("super" : Str)).isSome = false
  fn : ∃ (oc : Value) (od : Option Addr) (doc pm : Value) (an : Option Addr) (cda cc : Addr) (ct : Value) (osl : Array (Option Value)),
    K.lookup fI = some ⟨oc, od, .func (ksFn "__init__" "BadBook.__init__" iA iB iS .none .none doc pm an (.ref cda) ct cc), osl⟩ ∧ codeIn K (.ref cda) "BadBook.__init__" = true ∧
    (∃ cl cld csl, K.lookup cc = some ⟨cl, cld, .cell (some (.ref C)), csl⟩) ∧ ∃ ccl cdd vs ccs file tf, K.lookup cda = some ⟨ccl, cdd, .fields vs, ccs⟩ ∧ vs[2]? = some (.str file tf) ∧ ((P.main.file : Str) == file) = true
/-- what __init__ leaves of a fresh exception at x -/
structure InitEnd (h h' : Heap) (x C dx : Addr) (v0 v1 : Value) : Prop where
  keep : ∀ b o, b ≠ x → h.get? b = some o → h'.get? b = some o
  obj : ∃ t1 : Addr, h'.get? x = some { cls := .ref C, dict := some dx, data := .fields #[.ref t1, .none, .none, .none, .bool false, .none] }
  dbig : h.objs.size ≤ dx
  dne : dx ≠ x
  ns : h'.Ns1 dx (fun y => if y = "number" then some v1 else if y = "part" then some v0 else none)
section
variable {prog : Program} {w : World} {A : Around} {E : Value → Shared → Prop} {R : Result → Shared → Prop} {s : Shared} {K : Frag} {mg : Str → Option Value} {C fI : Addr} {base : Heap}
theorem ld {M : Model} {s : Shared} {env : Env} {m : Str → Option Value} {x : Str} {pos : Pos} {v : Value} {Q : Value → Shared → Prop} {A : Around} {E : Value → Shared → Prop} (hn : s.heap.Ns env.locals m) (hv : m x = some v) (h : Q v s)
    (hk : env.scope.kind = .function) (hl : env.kindOf x = some .local) (hd : (x == ("__debug__" : Str)) = false := by decide) :
    wpAny M A (eval (.Name x pos) env) Q E s := wpAny_Name (wpAny_loadName_local hk hl hn hv h) hd
theorem ex_init (T : ExTxt prog K mg C fI) {x t0 : Addr} {i : Int} {ti : Tok} {j : Int} {tj : Tok} (B : L2.Mod K mg base) (kb : ∀ b o, base.get? b = some o → s.heap.get? b = some o) (hx : s.heap.get? x = some (excO C t0)) (hnx : base.get? x = none) (hi : i.natAbs.log2 < 1920) (hi2 : (toString i : Str).length ≤ 1000) (hj : j.natAbs.log2 < 1920) (hj2 : (toString j : Str).length ≤ 1000) (hroom : A.depth < recursionLimit)
    (hq : ∀ h' tk dx, InitEnd s.heap h' x C dx (.int i ti) (.int j tj) → R (.ok (.ret .none)) { s with heap := h', toks := tk }) :
    codeAny (model prog w) A (.call (.ref fI) ⟨[.ref x, .int i ti, .int j tj], []⟩) R s := by
  obtain ⟨oc, od, doc, pm, an, cda, cc, ct, osl, ho, hcd, ⟨cl, cld, csl, hcell⟩, ccl, cdd, vs, ccs, file, tf, hcode, hvs, hfile⟩ := T.fn
  obtain ⟨nm, q, N, bs, bm, sn, sub, ab, col, dd, k0, k1', k2, k3, k5, hC, hbm⟩ := T.cls
  obtain ⟨hp, g, dr, tk0, os⟩ := s
  have hcl : clsIn K C = some { name := nm, bases := bs, mro := .ref C :: bm, ns := N, qualname := q, hasDict := true, slotNames := sn, subclasses := sub, abstract := ab, collection := col, hasDel := false } := by unfold clsIn; rw [hC] <;> rfl
  have X : K.In hp := B.kin.keeps kb
  have nl : hp.NoLimit := B.nolimit.keeps kb
  refine ks_codeAny_call_defAt (fd := ksFn "__init__" "BadBook.__init__" iA iB iS .none .none doc pm an (.ref cda) ct cc) (body := iB) (binds := [("self", .ref x), ("part", .int i ti), ("number", .int j tj)])
    hroom (X _ _ ho) rfl nl (codeRec_of X hcd) rfl (BindsTo.of_eq (by first | rfl | with_unfolding_all rfl)) iS_cell (fun y hy => ?_) (fun h₀ hns k => ?_)
  · have e : y = (PySem.Str.ofString "self", Value.ref x) ∨ y = (PySem.Str.ofString "part", Value.int i ti) ∨ y = (PySem.Str.ofString "number", Value.int j tj) := by simpa using hy
    rcases e with rfl | rfl | rfl
    · exact (by decide +kernel : iS.names.lookup (PySem.Str.ofString "self") = some .local)
    · exact (by decide +kernel : iS.names.lookup (PySem.Str.ofString "part") = some .local)
    · exact (by decide +kernel : iS.names.lookup (PySem.Str.ofString "number") = some .local)
  generalize hL : (Shared.heap ⟨hp, g, dr, tk0, os⟩).objs.size = L at hns ⊢
  have henv : callEnv (ksFn "__init__" "BadBook.__init__" iA iB iS .none .none doc pm an (.ref cda) ct cc) L fI = ksEnv "BadBook.__init__" iS L fI (.ref cda) cc := rfl
  rw [henv]
  have X0 : K.In h₀ := X.keeps k
  have hx0 := k _ _ hx
  have kb0 : ∀ b o, base.get? b = some o → h₀.get? b = some o := fun b o e => k b o (kb b o e)
  obtain ⟨oC, hC0, hC1⟩ : ∃ oC, h₀.get? C = some oC ∧ oC.data = .cls { name := nm, bases := bs, mro := .ref C :: bm, ns := N, qualname := q, hasDict := true, slotNames := sn, subclasses := sub, abstract := ab, collection := col, hasDel := false } := ⟨_, X0 _ _ hC, rfl⟩
  have I0 : InstAt h₀ x (excO C t0) C none := ⟨hx0, rfl, rfl, trivial⟩
  obtain ⟨mb, hb1, hb2⟩ := B.blt
  have hxC : x ≠ C := fun z => by
    rw [z, hC0] at hx0
    cases hx0
    cases hC1
  have hsub : mroIn K C (.ref C) = some true := by
    unfold mroIn
    rw [hcl]
    simp
  have nS : iS.names.lookup (PySem.Str.ofString "super") = some .globalImplicit := by decide +kernel
  have nC : iS.names.lookup (PySem.Str.ofString "__class__") = some .free := by decide +kernel
  have nx : iS.names.lookup (PySem.Str.ofString "self") = some .local := by decide +kernel
  have np0 : iS.names.lookup (PySem.Str.ofString "part") = some .local := by decide +kernel
  have np1 : iS.names.lookup (PySem.Str.ofString "number") = some .local := by decide +kernel
  have hLx : L ≠ x := by
    rw [← hL]
    exact Nat.ne_of_gt (Heap.lt_size hx)
  refine ks_wpAt_execs_cons (ks_wpAt_Expr_any (ks_wpAt_MethodCall (ks_wpAt_super_base nS nC (by decide +kernel) rfl (X0 _ _ ho) rfl rfl rfl (X0 _ _ hcode) rfl hvs hfile T.main ?_)))
  refine ks_loadName_global rfl nS (loadGlobal_builtin (B.glob.keeps kb0) T.sB (hb1.keeps kb0) ((hb2 _ (by decide +kernel)).trans (by decide +kernel)) ⟨rfl, ?_⟩)
  refine wpAny_loadName_free rfl nC rfl ⟨_, X0 _ _ hcell, rfl⟩ ?_
  refine wpAny_loadName_local rfl nx hns rfl ?_
  refine ks_wpAny_isType_cls hC0 hC1 ⟨rfl, ?_⟩
  refine ks_wpAny_call_super hC0 hC1 hx0 rfl (fun c e => by cases e) (looks_mroIn X0 hsub) (fun h1 e1 k1 => ?_)
  have X1 : K.In h1 := X0.keeps k1
  have hx1 := k1 _ _ hx0
  have I1 : InstAt h1 x (excO C t0) C none := ⟨hx1, rfl, rfl, trivial⟩
  have hf : alongIn K "__init__" (((Value.ref C :: bm).dropWhile (· != .ref C)).drop 1) = some (some (.builtin "ValueError.__init__")) := by
    have := T.sup
    unfold ks_superIn at this
    rw [hcl] at this
    exact this
  refine kxs_getMethod kxs_ValueError e1 (looks_opaque X1 T.any) (l₀ := .ref C :: bm) (fun A Q E s k q => wpAny_bind ((looks_clsIn X1 hcl) A _ E s k (wpAny_pure q))) rfl X1 hf (I1.type.andThen (looks_subIn X1 T.subV)) hxC (by decide +kernel) ?_
  have hu : (h1.push (kxs_mw "ValueError.__init__" x)).get? h1.objs.size = some (kxs_mw "ValueError.__init__" x) := Heap.get?_push_size _ rfl
  have k2' : ∀ b o, h₀.get? b = some o → (h1.push (kxs_mw "ValueError.__init__" x)).get? b = some o := fun b o e => Heap.get?_push_of_some _ (k1 b o e)
  generalize h1.push (kxs_mw "ValueError.__init__" x) = h2 at hu k2' ⊢
  generalize h1.objs.size = u at hu ⊢
  have X2 : K.In h2 := X0.keeps k2'
  have hx2 := k2' _ _ hx0
  have hns2 := hns.keeps k2'
  -- the text that is handed on
  show wpAny _ _ (callWith _ (.ref u) [] _ []) _ _ _
  refine kxs_callWith (i := "ValueError.__init__") (x := x) rfl (evalArgs_plain ?_)
  show wpAny _ _ (spliced ((false, eval eF (ksEnv "BadBook.__init__" iS L fI (.ref cda) cc)) :: [])) _ _ _
  obtain ⟨c1, c2, d2, c3, c4, d4, c0, eFe⟩ := eF_eq
  rw [eFe]
  have z0 : Str.empty.length = 0 := by decide +kernel
  have z1 : (PySem.Str.ofString "the book can't be: part ").length = 24 := by decide +kernel
  have z2 : (PySem.Str.ofString ", number ").length = 9 := by decide +kernel
  refine Calls.spliced_cons (wpAny_JoinedStr ?_)
  refine wpAny_Constant_str ⟨_, _, rfl, (by show ((Str.empty ++ PySem.Str.ofString "the book can't be: part ")).length ≤ sizeLine; simp only [slen, z0, z1, z2, sizeLine_eq]; omega), ?_⟩
  refine wpAny_FormattedValue_plain (ld hns2 rfl ?_ rfl np0)
  refine wpAny_formatField_int hi ⟨_, _, rfl, (by show (((Str.empty ++ PySem.Str.ofString "the book can't be: part ") ++ (toString i : Str))).length ≤ sizeLine; simp only [slen, z0, z1, z2, sizeLine_eq]; omega), ?_⟩
  refine wpAny_Constant_str ⟨_, _, rfl, (by show ((((Str.empty ++ PySem.Str.ofString "the book can't be: part ") ++ (toString i : Str)) ++ PySem.Str.ofString ", number ")).length ≤ sizeLine; simp only [slen, z0, z1, z2, sizeLine_eq]; omega), ?_⟩
  refine wpAny_FormattedValue_plain (ld hns2 rfl ?_ rfl np1)
  refine wpAny_formatField_int hj ⟨_, _, rfl, (by show (((((Str.empty ++ PySem.Str.ofString "the book can't be: part ") ++ (toString i : Str)) ++ PySem.Str.ofString ", number ") ++ (toString j : Str))).length ≤ sizeLine; simp only [slen, z0, z1, z2, sizeLine_eq]; omega), ?_⟩
  refine ⟨(by show (((((Str.empty ++ PySem.Str.ofString "the book can't be: part ") ++ (toString i : Str)) ++ PySem.Str.ofString ", number ") ++ (toString j : Str))).length ≤ sizeLine; simp only [slen, z0, z1, z2, sizeLine_eq]; omega), ?_⟩
  refine Calls.spliced_nil ⟨hu, ?_⟩
  refine wpAny_call (codeAny_of_tree ?_)
  show wpAny _ _ (callAny (.ref u) ⟨_, []⟩) _ _ _
  simp only [callAny]
  refine wpAny_bind (wpAny_load hu ?_)
  simp only [kxs_mw, show (Value.type "method-wrapper" == Value.type "method" || Value.type "method-wrapper" == Value.type "builtin_function_or_method" || Value.type "method-wrapper" == Value.type "method-wrapper") = true by decide, if_true]
  refine KFB.if_so (by decide) ?_
  refine wpAny_bind (check_bound_init F.excBase_ValueError.toExcCallFacts (X2 _ _ hC) hx2 rfl ?_)
  refine wpAny_bind (wpAny_pure (wpAny_pure ?_))
  refine ⟨plainId_quiet F.excBase_ValueError.init.plain _, codeAny_builtin F.excBase_ValueError.initEntry ?_⟩
  refine exc_init_tree (cls := .ref C) (t0 := t0) (dv := none) (c2 := .none) (c3 := .none) (b4 := .bool false) hx2 (by rw [sizeLine_eq]; show 1 ≤ 16777216; decide) fun h3 k3 e3 _ => ?_
  have k3' : ∀ b o, b ≠ x → h₀.get? b = some o → h3.get? b = some o := fun b o hb e => k3 b o hb (k2' b o e)
  have X3 : K.In h3 := fun b o e => k3' b o (fun z => by
    have := B.kin b o e
    rw [z, hnx] at this
    cases this) (X0 b o e)
  have hns3 : h3.Ns L (fun y => (([("self", Value.ref x), ("part", .int i ti), ("number", .int j tj)] : List (Str × Value)).reverse.lookup y)) := hns.at fun o e => k3' L o hLx e
  show wpAt _ _ _ (execs (_ :: _ :: []) _) _ _ _
  refine ks_wpAt_execs_cons (ks_wpAt_Assign_Attr (wpAt_of_wpAny (ld hns3 rfl (ld hns3 rfl ?_ rfl nx) rfl np0)))
  refine set_plain X3 (ox := excO C h2.objs.size) (od := none) ⟨e3, rfl, rfl, trivial⟩ T.sa ?_
  refine exc_osa X3 e3 hcl (show refsVE (.ref C :: bm) = true from hbm) rfl T.noP0 (fun h4 tk4 dx k4 dn dne hx4 hn4 => ?_)
  have X4 : K.In h4 := fun b o e => k4 b o (fun z => by
    have := B.kin b o e
    rw [z, hnx] at this
    cases this) (X3 b o e)
  have hns4 : h4.Ns L (fun y => (([("self", Value.ref x), ("part", .int i ti), ("number", .int j tj)] : List (Str × Value)).reverse.lookup y)) := hns3.at fun o e => k4 L o hLx e
  have hLd : L ≠ dx := Nat.ne_of_lt (Nat.lt_of_lt_of_le hns3.lt dn)
  have hw4 : Within (fun y => if y = "part" then some (Value.int i ti) else none) ["part"] := fun y hy => by
    by_cases c : y = "part"
    · rw [c]; exact List.mem_singleton.mpr rfl
    · exact absurd (if_neg c) hy
  obtain ⟨oD, _, _, hoD, _, _⟩ := hn4.count hw4
  show wpAt _ _ _ (execs (_ :: []) _) _ _ _
  refine ks_wpAt_execs_cons (ks_wpAt_Assign_Attr (wpAt_of_wpAny (ld hns4 rfl (ld hns4 rfl ?_ rfl nx) rfl np1)))
  refine set_plain X4 (ox := { cls := .ref C, dict := some dx, data := .fields #[.ref h2.objs.size, .none, .none, .none, .bool false, .none] }) (od := some oD) ⟨hx4, rfl, rfl, hoD⟩ T.sa ?_
  refine PySem.OEX.osa_old X4 hx4 hn4 hw4 (by decide) hcl (show refsVE (.ref C :: bm) = true from hbm) rfl T.noP1 (fun h5 tk5 k5 hn5 => ?_)
  show wpAt _ _ _ (execs [] _) _ _ _
  refine wpAt_of_wpAny (wpAny_execs_nil ?_)
  have big : hp.objs.size ≤ dx := by
    have h1 : L < h3.objs.size := hns3.lt
    have h2 : hp.objs.size = L := hL
    exact Nat.le_trans (Nat.le_of_eq h2) (Nat.le_trans (Nat.le_of_lt h1) dn)
  refine hq h5 _ dx ⟨fun b o hb e => k5 b o (fun z => ?_) (k4 b o hb (k3' b o hb (k b o e))), ⟨_, k5 x _ (Ne.symm dne) hx4⟩, big, dne, hn5⟩
  have : b < hp.objs.size := Heap.lt_size e
  rw [z] at this
  exact absurd big (Nat.not_le.mpr this)
end
end XBadBook
end PySem
namespace PySem
namespace XBadBook
open PySem.W PySem.Calls PyProof.Rows PySem.HandSPX
/-- a made BadBook -/
structure OwnMade (h h' : Heap) (e C d : Addr) (v0 v1 : Value) : Prop where
  keep : ∀ b o, h.get? b = some o → h'.get? b = some o
  new : h.objs.size ≤ e
  obj : ∃ oe vs, h'.get? e = some oe ∧ oe.cls = .ref C ∧ oe.dict = some d ∧ oe.data = .fields vs ∧ vs[1]? = some .none ∧ vs[2]? = some .none ∧ 4 < vs.size
  dbig : h.objs.size ≤ d
  dne : d ≠ e
  ns : h'.Ns1 d (fun y => if y = "number" then some v1 else if y = "part" then some v0 else none)
theorem one_size (v0 v1 : Value) : [v0, v1].length ≤ sizeLine := by
  rw [sizeLine_eq]
  exact (by decide : 2 ≤ 16777216)
section
variable {prog : Program} {w : World} {A : Around} {E : Value → Shared → Prop} {R : Result → Shared → Prop} {s : Shared} {K : Frag} {mg : Str → Option Value} {C fI : Addr} {base : Heap}
theorem ex_made (T : ExTxt prog K mg C fI) {i : Int} {ti : Tok} {j : Int} {tj : Tok} (B : L2.Mod K mg base) (kb : ∀ b o, base.get? b = some o → s.heap.get? b = some o) (hi : i.natAbs.log2 < 1920) (hi2 : (toString i : Str).length ≤ 1000) (hj : j.natAbs.log2 < 1920) (hj2 : (toString j : Str).length ≤ 1000) (hroom : A.depth + 1 < recursionLimit)
    (hq : ∀ h' tk e d, OwnMade s.heap h' e C d (.int i ti) (.int j tj) → R (.ok (.ret (.ref e))) { s with heap := h', toks := tk }) :
    codeAny (model prog w) A (.call (.ref C) ⟨[.int i ti, .int j tj], []⟩) R s := by
  obtain ⟨nm, q, N, bs, bm, sn, sub, ab, col, dd, k0, k1, k2, k3, k5, hC, hbm⟩ := T.cls
  have X : K.In s.heap := B.kin.keeps kb
  obtain ⟨hp, g, dr, tk, os⟩ := s
  have k : ∀ b o, hp.get? b = some o → ((hp.push (kdv_tup [.int i ti, .int j tj])).push (excO C hp.objs.size)).get? b = some o := fun b o e => Heap.get?_push_of_some _ (Heap.get?_push_of_some _ e)
  have hget : ((hp.push (kdv_tup [.int i ti, .int j tj])).push (excO C hp.objs.size)).get? (hp.objs.size + 1) = some (excO C hp.objs.size) := by heap_get
  have hnx : base.get? (hp.objs.size + 1) = none := by
    cases e : base.get? (hp.objs.size + 1) with
    | none => rfl
    | some o =>
      have z : hp.get? (hp.objs.size + 1) = some o := kb _ _ e
      exact absurd (Nat.lt_of_succ_lt (Heap.lt_size z)) (Nat.lt_irrefl _)
  refine call_own F.excBase_ValueError (fun X => refsVE_contains X bm hbm) (X _ _ hC) (looks_findIn X T.iC) (fun self => bind_fn X self T.tC) (one_size (.int i ti) (.int j tj)) ?_
  refine ex_init (s := ⟨(hp.push (kdv_tup [.int i ti, .int j tj])).push (excO C hp.objs.size), g, dr, tk, os⟩) T B (fun b o e => k b o (kb b o e)) hget hnx hi hi2 hj hj2 ?_ fun h' tk' dx ⟨k', ⟨t1, hx⟩, dn, dne, hns⟩ => ?_
  · show A.depth + 1 < recursionLimit
    exact hroom
  · have old : ∀ b o, hp.get? b = some o → h'.get? b = some o := fun b o e => k' b o (Nat.ne_of_lt (Nat.lt_succ_of_lt (Heap.lt_size e))) (k b o e)
    have z : hp.objs.size + 1 + 1 ≤ dx := by
      first
        | (simpa only [Heap.size_push] using dn)
        | exact dn
        | (have q := dn; rw [Heap.size_push, Heap.size_push] at q; exact q)
    exact ⟨rfl, hq h' tk' (hp.objs.size + 1) dx ⟨old, Nat.le_succ _, ⟨_, _, hx, rfl, rfl, rfl, rfl, rfl, by show 4 < 6; decide⟩, Nat.le_trans (Nat.le_trans (Nat.le_succ _) (Nat.le_succ _)) z, dne, hns⟩⟩
end
end XBadBook
end PySem
namespace Say
open PySem PySem.Spec PyProof.Rows L2
theorem rel_BadBook {i j : Int} {ti tj : Tok} (f : Str) : RelO (List.lookup f ([(("number" : Str), .int j), (("part" : Str), .int i)] : List (Str × V))) (if f = "number" then some (Value.int j tj) else if f = "part" then some (Value.int i ti) else none) := by
  refine relO_put (f := "number") (mA := fun f => if f = "part" then some (Value.int i ti) else none) (y := .int j) (u := .int j tj) (fs := [(("part" : Str), .int i)]) ⟨_, rfl⟩ (fun g => ?_) f
  exact relO_put (f := "part") (mA := fun _ => none) (y := .int i) (u := .int i ti) (fs := []) ⟨_, rfl⟩ (fun _ => True.intro) g
section
variable {X : Cx} {C fI : Addr}
/-- BadBook(e) -/
def tMkBadBook (C : Addr) (ta : TA) : L2.St → Hp → XK → Prop := fun σ H Q => ta σ H fun vs H1 => ∃ i j : Int, vs = [.int i, .int j] ∧ (-1 ≤ i ∧ i ≤ 100) ∧ (-1 ≤ j ∧ j ≤ 100) ∧ ∀ d, H1 d = none → Q (.ref C) (some d) (upd H1 d (.xd [(("number" : Str), .int j), (("part" : Str), .int i)]))
theorem small_BadBook {i : Int} (h : -1 ≤ i ∧ i ≤ 100) : i.natAbs.log2 < 1920 ∧ (toString i : Str).length ≤ 1000 := by
  have key : ∀ q : Fin 102, ((q.1 : Int) - 1).natAbs.log2 < 1920 ∧ (toString ((q.1 : Int) - 1) : Str).length ≤ 1000 := by decide +kernel
  have e : i = (((i + 1).toNat : Nat) : Int) - 1 := by omega
  rw [e]
  exact key ⟨(i + 1).toNat, by omega⟩
theorem pmk5_BadBook {a b : Expr} {ta : TA} {p pos : Pos} {k : Nat} (T : PySem.XBadBook.ExTxt X.prog X.K X.mg C fI) (hr : Room k X.A) (ha : PA X [a, b] ta) (hg : Gl X "BadBook" := by rfl)
    (he : starEach (a :: [b]) X.env = (false, eval a X.env) :: starEach [b] X.env := by rfl) (hpl : (backTo pos (starEach [b] X.env)).any (·.1) = false := by rfl) :
    L2H.PMk5 X (.Call (.Name "BadBook" p) [a, b] [] pos) (tMkBadBook C ta) := by
  intro pins s σ H Q I h
  unfold tMkBadBook at h
  refine wpAny_Call_Name_kw (ld_glob I hg T.gC ?_)
  refine PySem.W.callWith_K (h₀ := X.base) I.ok.mod.kin T.kC (thn (ha.run pos pins s σ H _ I h) fun us s1 hh => ?_) he hpl
  obtain ⟨vs, H1, I1, r1, i, j, ev, ni, nj, q1⟩ := hh
  subst ev
  refine ⟨I1.kIn, ?_⟩
  obtain ⟨v', u', rfl, rv, ru⟩ := vals2 r1
  obtain ⟨ti, rfl⟩ := rv
  obtain ⟨tj, rfl⟩ := ru
  show wpAny _ _ (call (.ref C) [.int i ti, .int j tj]) _ _ _
  have b1 := I1.mod
  have b2 := I1.bk
  obtain ⟨hp, g, dr, tk, os⟩ := s1
  refine wpAny_call (PySem.XBadBook.ex_made T b1 b2 (small_BadBook ni).1 (small_BadBook ni).2 (small_BadBook nj).1 (small_BadBook nj).2 (by have := hr.dp; omega) fun h' tk' e d M => ?_)
  show L2N.MkP X pins σ Q (.ref e) ⟨h', g, dr, tk', os⟩ ∧ L2H.Six (.ref e) ⟨h', g, dr, tk', os⟩
  obtain ⟨oe, fv, hoe, hc, hd, hdat, h1, h2, h5⟩ := M.obj
  have hns := M.ns
  obtain ⟨G', g1, g2⟩ := restrict h' fun b => decide (b ≠ e)
  have gk : ∀ b, b ≠ e → G'.get? b = h'.get? b := fun b hb => g1 b (decide_eq_true hb)
  have ge : G'.get? e = none := g2 e (by simp)
  have old : ∀ b o, hp.get? b = some o → G'.get? b = some o := fun b o q => (gk b (Nat.ne_of_lt (Nat.lt_of_lt_of_le (Heap.lt_size q) M.new))).trans (M.keep b o q)
  have ob : ObjOk X.prog X.w (upd H1 d (.xd [(("number" : Str), .int j), (("part" : Str), .int i)])) G' d (.xd [(("number" : Str), .int j), (("part" : Str), .int i)]) :=
    ⟨_, hns.at (fun o q => (gk d M.dne).trans q), fun f => rel_BadBook f⟩
  have J : Inv X pins σ (upd H1 d (.xd [(("number" : Str), .int j), (("part" : Str), .int i)])) ⟨G', g, dr, tk', os⟩ := I1.laid (t' := tk') old M.dbig ob
  refine ⟨⟨e, oe, fv, ⟨G', g, dr, tk', os⟩, _, .ref C, some d, rfl, J, fun b o q => ?_, ge, hoe, ⟨hc, hd, fun ws z => by rw [hdat] at z; cases z; exact h2⟩, hdat, h1, ?_, rfl, I1.bare, raises_own T.exC T.tyC, q1 d (I1.hok.fresh M.dbig)⟩, fun a oe2 ws ea hg hd2 => ?_⟩
  · by_cases hb : b = e
    · have q' : G'.get? b = some o := q
      rw [hb, ge] at q'; cases q'
    · exact (gk b hb).symm.trans q
  · rw [upd_ne (Ne.symm M.dne)]
    exact I1.hok.fresh M.new
  · cases ea
    have hg2 : h'.get? e = some oe2 := hg
    rw [hoe] at hg2
    cases hg2
    rw [hdat] at hd2
    cases hd2
    exact h5
theorem pmk_BadBook {a b : Expr} {ta : TA} {p pos : Pos} {k : Nat} (T : PySem.XBadBook.ExTxt X.prog X.K X.mg C fI) (hr : Room k X.A) (ha : PA X [a, b] ta) (hg : Gl X "BadBook" := by rfl)
    (he : starEach (a :: [b]) X.env = (false, eval a X.env) :: starEach [b] X.env := by rfl) (hpl : (backTo pos (starEach [b] X.env)).any (·.1) = false := by rfl) :
    PMk X (.Call (.Name "BadBook" p) [a, b] [] pos) (tMkBadBook C ta) := fun pins s σ H Q I h => thn (pmk5_BadBook T hr ha hg he hpl pins s σ H Q I h) fun u s1 ⟨⟨e, oe, vs, sI, H', cls, d, e1, J, k, hne, ha, hz, hd, h1, na, os, ag, r, q⟩, _⟩ => ⟨e, oe, vs, sI, H', cls, d, e1, J, k, hne, ha, hz.zc, hd, h1, na, os, ag, r, q⟩
/-- raise BadBook(e) -/
def tRaiseBadBook (C : Addr) (W : WX) (ta : TA) : TS := fun _ σ H => tMkBadBook C ta σ H fun cls d H' => W cls d σ H'
theorem ps_raiseBadBook {a b : Expr} {ta : TA} {W : WX} {p pos pos2 : Pos} {k : Nat} (hc : X.calm = true) (T : PySem.XBadBook.ExTxt X.prog X.K X.mg C fI) (hr : Room k X.A) (tk : Takes X W) (ha : PA X [a, b] ta) (hg : Gl X "BadBook" := by rfl)
    (he : starEach (a :: [b]) X.env = (false, eval a X.env) :: starEach [b] X.env := by rfl) (hpl : (backTo pos (starEach [b] X.env)).any (·.1) = false := by rfl) :
    PS X (.Raise (some (.Call (.Name "BadBook" p) [a, b] [] pos)) none pos2) (tRaiseBadBook C W ta) := ps_raise hc tk (pmk_BadBook T hr ha hg he hpl)
theorem ps_raiseBadBookN {a b : Expr} {ta : TA} {W : WX} {p pos pos2 : Pos} {k : Nat} (hc : X.calm = true) (T : PySem.XBadBook.ExTxt X.prog X.K X.mg C fI) (hr : Room k X.A) (tk : L2N.Takes X W) (ha : PA X [a, b] ta) (hg : Gl X "BadBook" := by rfl)
    (he : starEach (a :: [b]) X.env = (false, eval a X.env) :: starEach [b] X.env := by rfl) (hpl : (backTo pos (starEach [b] X.env)).any (·.1) = false := by rfl) :
    PS X (.Raise (some (.Call (.Name "BadBook" p) [a, b] [] pos)) none pos2) (tRaiseBadBook C W ta) := L2N.ps_raise hc tk (pmk5_BadBook T hr ha hg he hpl).pmk
end
end Say
namespace Say
open PySem PySem.Spec PyProof.Rows L2
/-! ### any values held against what a book's parts are -/
def txV (v : V) (S : List Nat) (lo hi : Nat) : Bool := match v with
  | .str z => isText z.cps.toList S lo hi
  | _ => false
def riV (v : V) : Bool := match v with
  | .str z => rises z.cps.toList
  | _ => false
def besV (L : List Nat) (v : V) : Bool := txV v (35 :: L) 0 (L.length + 1) && riV v
def rulV (L : List Nat) (a o e s : V) : Bool := besV L a && (txV o L 1 2 && (besV L e && txV s capsL 0 3))
def excV (L : List Nat) (a s : V) : Bool := txV a L 1 8 && txV s capsL 0 36
/-- v as a rule: b tells whether it is one -/
def RulR (K : PySem.W.Frag) (H : Hp) (L : List Nat) (v : V) (b : Bool) : Prop := (NoTup K H v ∧ b = false) ∨ (∃ t xs, v = .ref t ∧ SqT K H t xs ∧ xs.length ≠ 4 ∧ b = false) ∨
  ∃ t a o e s, v = .ref t ∧ SqT K H t [a, o, e, s] ∧ VOk K H a ∧ VOk K H o ∧ VOk K H e ∧ VOk K H s ∧ b = rulV L a o e s
/-- v as an exception: its word, if it is one -/
def ExcR (K : PySem.W.Frag) (H : Hp) (L : List Nat) (v : V) (w : Option (List Nat)) : Prop := (NoTup K H v ∧ w = none) ∨ (∃ t xs, v = .ref t ∧ SqT K H t xs ∧ xs.length ≠ 2 ∧ w = none) ∨
  ∃ t a s, v = .ref t ∧ SqT K H t [a, s] ∧ VOk K H a ∧ VOk K H s ∧ ((excV L a s = false ∧ w = none) ∨ ∃ z, a = .str (T z) ∧ excV L a s = true ∧ w = some z)
theorem RulR.same {K : PySem.W.Frag} {H H' : Hp} {L : List Nat} {v : V} {b : Bool} (h : RulR K H L v b) (s : Same H H') : RulR K H' L v b := by
  rcases h with ⟨h, e⟩ | ⟨t, xs, h1, h2, h3, e⟩ | ⟨t, a, o, e, z, h1, h2, h3, h4, h5, h6, h7⟩
  · exact .inl ⟨h.same s, e⟩
  · exact .inr (.inl ⟨t, xs, h1, seqT_same s h2, h3, e⟩)
  · exact .inr (.inr ⟨t, a, o, e, z, h1, seqT_same s h2, h3.same s, h4.same s, h5.same s, h6.same s, h7⟩)
theorem ExcR.same {K : PySem.W.Frag} {H H' : Hp} {L : List Nat} {v : V} {b : Option (List Nat)} (h : ExcR K H L v b) (s : Same H H') : ExcR K H' L v b := by
  rcases h with ⟨h, e⟩ | ⟨t, xs, h1, h2, h3, e⟩ | ⟨t, a, z, h1, h2, h3, h4, h5⟩
  · exact .inl ⟨h.same s, e⟩
  · exact .inr (.inl ⟨t, xs, h1, seqT_same s h2, h3, e⟩)
  · exact .inr (.inr ⟨t, a, z, h1, seqT_same s h2, h3.same s, h4.same s, h5⟩)
/-- the first rule that can't be -/
def badR (bs : List Bool) (n : Nat) : Prop := n < bs.length ∧ (n = 12 ∨ bs[n]? = some false)
/-- the first exception that can't be -/
def lastW (ws : List (Option (List Nat))) : Nat → List Nat
  | 0 => []
  | n + 1 => (ws.getD n none).getD []
def badE (ws : List (Option (List Nat))) (n : Nat) : Prop := n < ws.length ∧ (n = 8 ∨ ws[n]? = some none ∨ ∃ w, ws[n]? = some (some w) ∧ ¬ lastW ws n < w)
/-- refused with a part and a number -/
def refB (CB : Addr) (H : Hp) (E : XK) (p n : Int) : Prop := ∀ d H', Same H H' → H d = none → H' d = some (.xd [(("number" : Str), .int n), (("part" : Str), .int p)]) → E (.ref CB) (some d) H'
theorem FnOk.orX {P : Program} {w : World} {K : PySem.W.Frag} {mg : Str → Option Value} {base : Heap} {CX : CXT} {k : Nat} {f : Addr} {fd : FuncData} {ps : List Str} {s1 s2 : Sp} (a : FnOk P w K mg base CX k f fd ps s1) (b : FnOk P w K mg base CX k f fd ps s2) :
    FnOk P w K mg base CX k f fd ps (fun vs H Q E => s1 vs H Q E ∨ s2 vs H Q E) :=
  ⟨fun vs H Q E h => h.elim (a.len vs H Q E) (b.len vs H Q E), fun A outer s H args us vs Q E hr e hb hv h => h.elim (a.run A outer s H args us vs Q E hr e hb hv) (b.run A outer s H args us vs Q E hr e hb hv)⟩
section
variable {P : Program} {w : World} {K : PySem.W.Frag} {mg : Str → Option Value} {base : Heap}
def spTxV (K : PySem.W.Frag) : Sp := fun vs H Q _ => ∃ (v : V) (S : List Nat) (lo hi : Nat), vs = [v, .str (T S), .int lo, .int hi] ∧ VOk K H v ∧ ∀ (H' : Hp), Same H H' → Q (.bl (txV v S lo hi)) H'
theorem ok_txV {f : Addr} {fd : FuncData} (F : Fun K "is_text" "is_text" sIsText f fd) (B : Bn mg) : FnOk P w K mg base CX0 1 f fd ["text", "signs", "least", "most"] (spTxV K) := by
  have G := ok_isText (P := P) (w := w) (base := base) F B
  have G2 : FnOk P w K mg base CX0 1 f fd ["text", "signs", "least", "most"] (fun vs H Q _ => ∃ (v : V) (S : List Nat) (lo hi : Nat), vs = [v, .str (T S), .int lo, .int hi] ∧ NoStr K H v ∧ Q (.bl false) H) := by
    refine F.ok scIsText (fun vs H Q E h => ?_) (fun cdv A outer s H vs Q E hr h => ?_)
    · obtain ⟨v, S, lo, hi, rfl, _⟩ := h
      rfl
    · obtain ⟨v, S, lo, hi, rfl, hz, q⟩ := h
      refine ⟨_, pss_cons (ps_if (PW.pt (pw_or (pt_not (pt_val (pe_callB call_isi (by rfl) B.isi (by decide +kernel) (pa_cons (pv 0) (pa_cons (pe_bltn (v := .ty "str") rfl B.str (by decide +kernel) rfl) pa_nil)))))
            (pw_or1 (pt_not (pt_chain op_le op_le (pv 2) (pe_callB call_len_str (by rfl) B.len PySem.boot_len (pa_cons (pv 0) pa_nil)) (pv 3)))))) (pss_one (ps_ret pe_bl)) pss_nil)
        (pss_one ps_never), ?_⟩
      obtain ⟨t, h1, h2⟩ := hz.ty
      exact ⟨_, rfl, _, _, .type t, _, false, rfl, ClsV.ty _, h1, kit_ty h2, false, rfl, iteT q⟩
  refine (FnOk.orX G G2).imp ?_
  rintro vs H Q E ⟨v, S, lo, hi, rfl, hv, q⟩
  rcases hv with ⟨z, rfl, hz⟩ | hv
  · exact .inl ⟨z, S, lo, hi, rfl, hz, q⟩
  · refine .inr ⟨v, S, lo, hi, rfl, hv, ?_⟩
    have := q H (Same.refl H)
    rcases hv with rfl | ⟨i, rfl⟩ | ⟨a, xs, rfl, h⟩ | ⟨a, xs, rfl, h⟩ <;> exact this
def spBesV (K : PySem.W.Frag) : Sp := fun vs H Q _ => ∃ (L : List Nat) (v : V), vs = [.str (T L), v] ∧ L.length ≤ 50 ∧ VOk K H v ∧ ∀ (H' : Hp), Same H H' → Q (.bl (besV L v)) H'
theorem ok_besV {f : Addr} {fd : FuncData} (F : Fun K "is_beside" "is_beside" sBeside f fd) (B : Bn mg) (C : Cn mg) (DT : Df P w K mg base "is_text" psIsText 1 (spTxV K)) (DR : Df P w K mg base "is_rising" ["text"] 1 spRise) :
    FnOk P w K mg base CX0 2 f fd ["letters", "signs"] (spBesV K) := by
  obtain ⟨fT, fdT, GT, kT, bT, mT⟩ := DT
  obtain ⟨fR, fdR, GR, kR, bR, mR⟩ := DR
  obtain ⟨tE, mE⟩ := C.edge
  refine F.ok scBeside (fun vs H Q E h => ?_) (fun cdv A outer s H vs Q E hr h => ?_)
  · obtain ⟨L, v, rfl, _⟩ := h
    rfl
  · obtain ⟨L, v, rfl, hL, hv, q⟩ := h
    refine ⟨_, pss_one (ps_ret (pe_and (pe_call GT hr (by rfl) mT kT bT .nil pass0 (pa_cons (pv 1) (pa_cons (pe_op op_add_str (pe_glob (v := .str "#") rfl mE ⟨_, rfl⟩) (pv 0)) (pa_cons pe_int (pa_cons (pe_op op_add (pe_callB call_len_str (by rfl) B.len PySem.boot_len (pa_cons (pv 0) pa_nil)) pe_int) pa_nil)))))
        (pe_one (pe_call GR hr (by rfl) mR kR bR .nil pass0 (pa_cons (pv 1) pa_nil))))), ?_⟩
    have hl : (T L).length ≤ sizeLine := by rw [T_len]; exact small (by omega)
    refine ⟨_, rfl, _, rfl, _, _, rfl, rfl, (by rw [len_hash, T_len]; exact small (by omega)), _, rfl, _, rfl, hl, _, _, rfl, rfl, v, 35 :: L, 0, L.length + 1, ?_, hv, fun H1 s1 => ?_⟩
    · rw [hash_app, T_len]
      rfl
    refine ⟨_, rfl, ite2 (fun c => ?_) (fun c => ?_)⟩
    · obtain ⟨z, rfl, hz⟩ : ∃ z : List Nat, v = .str (T z) ∧ z.length ≤ 100 := by
        rcases hv with h | h
        · exact h
        · rcases h with rfl | ⟨i, rfl⟩ | ⟨a, xs, rfl, h⟩ | ⟨a, xs, rfl, h⟩ <;> cases c
      refine ⟨_, rfl, z, rfl, hz, fun H2 s2 => ?_⟩
      have := q H2 (s1.trans s2)
      unfold besV at this
      rw [c, Bool.true_and] at this
      exact this
    · have := q H1 s1
      unfold besV at this
      rw [Bool.eq_false_iff.mpr c, Bool.false_and] at this
      exact this
def spIsRuV (K : PySem.W.Frag) : Sp := fun vs H Q _ => ∃ (L : List Nat) (v : V) (b : Bool), vs = [.str (T L), v] ∧ L.length ≤ 50 ∧ RulR K H L v b ∧ ∀ (H' : Hp), Same H H' → Q (.bl b) H'
theorem ok_isRuV {f : Addr} {fd : FuncData} (F : Fun K "is_rule" "is_rule" sIsRule f fd) (B : Bn mg) (C : Cn mg) (DT : Df P w K mg base "is_text" psIsText 1 (spTxV K)) (DB : Df P w K mg base "is_beside" ["letters", "signs"] 2 (spBesV K)) :
    FnOk P w K mg base CX0 3 f fd ["letters", "rule"] (spIsRuV K) := by
  obtain ⟨fT, fdT, GT, kT, bT, mT⟩ := DT
  obtain ⟨fB, fdB, GB, kB, bB, mB⟩ := DB
  obtain ⟨tC, mC⟩ := C.caps
  obtain ⟨tS, mS⟩ := C.lrs
  refine F.ok scIsRule (fun vs H Q E h => ?_) (fun cdv A outer s H vs Q E hr h => ?_)
  · obtain ⟨L, v, b, rfl, _⟩ := h
    rfl
  · obtain ⟨L, v, b, rfl, hL, hv, q⟩ := h
    have hr1 : Room 1 _ := hr.mono (by decide)
    refine ⟨_, pss_cons (ps_if (PW.pt (pw_or (pt_not (pt_val (pe_callB call_isi (by rfl) B.isi (by decide +kernel) (pa_cons (pv 1) (pa_cons (pe_bltn (v := .ty "tuple") rfl B.tup (by decide +kernel) rfl) pa_nil)))))
          (pw_or1 (pt_cmpR op_ne (pe_callB call_len (by rfl) B.len PySem.boot_len (pa_cons (pv 1) pa_nil)) pe_int (nomark _))))) (pss_one (ps_ret pe_bl)) pss_nil)
      (pss_cons (ps_asg (pv 1) (pg_tup (by rfl) (pgs_cons (pg_name (i := 2) scIsRule.nd rfl (.inl rfl)) (pgs_cons (pg_name (i := 3) scIsRule.nd rfl (.inl rfl)) (pgs_cons (pg_name (i := 4) scIsRule.nd rfl (.inl rfl)) (pgs_cons (pg_name (i := 5) scIsRule.nd rfl (.inl rfl)) pgs_nil))))))
      (pss_one (ps_ret (pe_and (pe_call GB hr (by rfl) mB kB bB .nil pass0 (pa_cons (pv 0) (pa_cons (pv 2) pa_nil)))
        (pe_and (pe_call GT hr1 (by rfl) mT kT bT .nil pass0 (pa_cons (pv 3) (pa_cons (pv 0) (pa_cons pe_int (pa_cons pe_int pa_nil)))))
        (pe_and (pe_call GB hr (by rfl) mB kB bB .nil pass0 (pa_cons (pv 0) (pa_cons (pv 4) pa_nil)))
        (pe_one (pe_call GT hr1 (by rfl) mT kT bT .nil pass0 (pa_cons (pv 5) (pa_cons (pe_glob (v := .str "ABCDEFGHIJKLMNOPQRSTUVWXYZ") rfl mC ⟨_, rfl⟩) (pa_cons pe_int (pa_cons (pe_glob (v := .int 3) rfl mS ⟨_, rfl⟩) pa_nil)))))))))))), ?_⟩
    rcases hv with ⟨hn, rfl⟩ | ⟨t, xs, rfl, ht, hl, rfl⟩ | ⟨t, a, o, e, z, rfl, ht, ha, ho, he, hz, rfl⟩
    · obtain ⟨t, h1, h2⟩ := hn.ty
      exact ⟨_, rfl, v, _, .type t, _, false, rfl, ClsV.ty _, h1, kit_ty h2, false, rfl, iteT (q H (Same.refl H))⟩
    · refine ⟨_, rfl, _, _, .type "tuple", _, true, rfl, ClsV.ty _, tyT ht, kit_ty (by decide +kernel), true, rfl, iteF ?_⟩
      refine ⟨_, rfl, _, _, rfl, .inr ⟨_, ht, rfl⟩, rfl, _, rfl, ?_⟩
      rw [show decide (V.int ((xs.length : Nat) : Int) = V.int 4) = false from decide_eq_false fun z => hl (by have := V.int.inj z; omega)]
      exact iteT (q H (Same.refl H))
    · refine ⟨_, rfl, _, _, .type "tuple", _, true, rfl, ClsV.ty _, tyT ht, kit_ty (by decide +kernel), true, rfl, iteF ?_⟩
      refine ⟨_, rfl, _, 4, rfl, .inr ⟨_, ht, rfl⟩, rfl, _, rfl, iteF ?_⟩
      refine ⟨_, rfl, t, _, rfl, ht, rfl, _, _, rfl, _, _, rfl, _, _, rfl, _, _, rfl, rfl, ?_⟩
      unfold rulV at q
      refine ⟨_, rfl, _, rfl, L, a, rfl, hL, ha, fun H1 s1 => ?_⟩
      refine ⟨_, rfl, ?_⟩
      cases c1 : besV L a with
      | false => rw [c1, Bool.false_and] at q; exact iteF (q H1 s1)
      | true =>
        rw [c1, Bool.true_and] at q
        refine iteT ?_
        refine ⟨_, rfl, _, rfl, o, L, 1, 2, rfl, ho.same s1, fun H2 s2 => ?_⟩
        refine ⟨_, rfl, ?_⟩
        cases c2 : txV o L 1 2 with
        | false => rw [c2, Bool.false_and] at q; exact iteF (q H2 (s1.trans s2))
        | true =>
          rw [c2, Bool.true_and] at q
          refine iteT ?_
          refine ⟨_, rfl, _, rfl, L, e, rfl, hL, he.same (s1.trans s2), fun H3 s3 => ?_⟩
          refine ⟨_, rfl, ?_⟩
          cases c3 : besV L e with
          | false => rw [c3, Bool.false_and] at q; exact iteF (q H3 ((s1.trans s2).trans s3))
          | true =>
            rw [c3, Bool.true_and] at q
            refine iteT ?_
            refine ⟨_, rfl, z, capsL, 0, 3, (by rw [caps_eq]; rfl), hz.same ((s1.trans s2).trans s3), fun H4 s4 => ?_⟩
            exact q H4 (((s1.trans s2).trans s3).trans s4)
def spExdV (K : PySem.W.Frag) : Sp := fun vs H Q _ => ∃ (L : List Nat) (v : V), vs = [.str (T L), v] ∧ VOk K H v ∧ ∀ (H' : Hp), Same H H' → Q (.bl (txV v L 1 8)) H'
theorem ok_exdV {f : Addr} {fd : FuncData} (F : Fun K "is_excepted" "is_excepted" sExcd f fd) (C : Cn mg) (DT : Df P w K mg base "is_text" psIsText 1 (spTxV K)) : FnOk P w K mg base CX0 2 f fd ["letters", "word"] (spExdV K) := by
  obtain ⟨fT, fdT, GT, kT, bT, mT⟩ := DT
  obtain ⟨tX, mX⟩ := C.lexc
  refine F.ok scExcd (fun vs H Q E h => ?_) (fun cdv A outer s H vs Q E hr h => ?_)
  · obtain ⟨L, z, rfl, _⟩ := h
    rfl
  · obtain ⟨L, z, rfl, hl, q⟩ := h
    refine ⟨_, pss_one (ps_ret (pe_call GT hr (by rfl) mT kT bT .nil pass0 (pa_cons (pv 1) (pa_cons (pv 0) (pa_cons pe_int (pa_cons (pe_glob (v := .int 8) rfl mX ⟨_, rfl⟩) pa_nil)))))), ?_⟩
    exact ⟨_, rfl, _, rfl, z, L, 1, 8, rfl, hl, q⟩
def spSoV (K : PySem.W.Frag) : Sp := fun vs H Q _ => ∃ (v : V), vs = [v] ∧ VOk K H v ∧ ∀ (H' : Hp), Same H H' → Q (.bl (txV v capsL 0 36)) H'
theorem ok_soV {f : Addr} {fd : FuncData} (F : Fun K "is_sounds" "is_sounds" sIsSo f fd) (C : Cn mg) (DT : Df P w K mg base "is_text" psIsText 1 (spTxV K)) : FnOk P w K mg base CX0 2 f fd ["sounds"] (spSoV K) := by
  obtain ⟨fT, fdT, GT, kT, bT, mT⟩ := DT
  obtain ⟨tC, mC⟩ := C.caps
  obtain ⟨tS, mS⟩ := C.lso
  refine F.ok scIsSo (fun vs H Q E h => ?_) (fun cdv A outer s H vs Q E hr h => ?_)
  · obtain ⟨z, rfl, _⟩ := h
    rfl
  · obtain ⟨z, rfl, hl, q⟩ := h
    refine ⟨_, pss_one (ps_ret (pe_call GT hr (by rfl) mT kT bT .nil pass0 (pa_cons (pv 0) (pa_cons (pe_glob (v := .str "ABCDEFGHIJKLMNOPQRSTUVWXYZ") rfl mC ⟨_, rfl⟩) (pa_cons pe_int (pa_cons (pe_glob (v := .int 36) rfl mS ⟨_, rfl⟩) pa_nil)))))), ?_⟩
    exact ⟨_, rfl, z, capsL, 0, 36, (by rw [caps_eq]; rfl), hl, q⟩
def spIsExV (K : PySem.W.Frag) : Sp := fun vs H Q _ => ∃ (L : List Nat) (v : V) (w : Option (List Nat)), vs = [.str (T L), v] ∧ ExcR K H L v w ∧ ∀ (H' : Hp), Same H H' → Q (.bl w.isSome) H'
theorem ok_isExV {f : Addr} {fd : FuncData} (F : Fun K "is_exception" "is_exception" sIsExc f fd) (B : Bn mg) (DX : Df P w K mg base "is_excepted" ["letters", "word"] 2 (spExdV K)) (DS : Df P w K mg base "is_sounds" ["sounds"] 2 (spSoV K)) :
    FnOk P w K mg base CX0 3 f fd ["letters", "pair"] (spIsExV K) := by
  obtain ⟨fX, fdX, GX, kX, bX, mX⟩ := DX
  obtain ⟨fS, fdS, GS, kS, bS, mS⟩ := DS
  refine F.ok scIsExc (fun vs H Q E h => ?_) (fun cdv A outer s H vs Q E hr h => ?_)
  · obtain ⟨L, v, w, rfl, _⟩ := h
    rfl
  · obtain ⟨L, v, w, rfl, hv, q⟩ := h
    refine ⟨_, pss_cons (ps_if (PW.pt (pw_or (pt_not (pt_val (pe_callB call_isi (by rfl) B.isi (by decide +kernel) (pa_cons (pv 1) (pa_cons (pe_bltn (v := .ty "tuple") rfl B.tup (by decide +kernel) rfl) pa_nil)))))
          (pw_or1 (pt_cmpR op_ne (pe_callB call_len (by rfl) B.len PySem.boot_len (pa_cons (pv 1) pa_nil)) pe_int (nomark _))))) (pss_one (ps_ret pe_bl)) pss_nil)
      (pss_cons (ps_asg (pv 1) (pg_tup (by rfl) (pgs_cons (pg_name (i := 2) scIsExc.nd rfl (.inl rfl)) (pgs_cons (pg_name (i := 3) scIsExc.nd rfl (.inl rfl)) pgs_nil))))
      (pss_one (ps_ret (pe_and (pe_call GX hr (by rfl) mX kX bX .nil pass0 (pa_cons (pv 0) (pa_cons (pv 2) pa_nil)))
        (pe_one (pe_call GS hr (by rfl) mS kS bS .nil pass0 (pa_cons (pv 3) pa_nil))))))), ?_⟩
    rcases hv with ⟨hn, rfl⟩ | ⟨t, xs, rfl, ht, hl, rfl⟩ | ⟨t, a, z, rfl, ht, ha, hz, hw⟩
    · obtain ⟨t, h1, h2⟩ := hn.ty
      exact ⟨_, rfl, v, _, .type t, _, false, rfl, ClsV.ty _, h1, kit_ty h2, false, rfl, iteT (q H (Same.refl H))⟩
    · refine ⟨_, rfl, _, _, .type "tuple", _, true, rfl, ClsV.ty _, tyT ht, kit_ty (by decide +kernel), true, rfl, iteF ?_⟩
      refine ⟨_, rfl, _, _, rfl, .inr ⟨_, ht, rfl⟩, rfl, _, rfl, ?_⟩
      rw [show decide (V.int ((xs.length : Nat) : Int) = V.int 2) = false from decide_eq_false fun z => hl (by have := V.int.inj z; omega)]
      exact iteT (q H (Same.refl H))
    · have hq : w.isSome = excV L a z := by
        rcases hw with ⟨h1, rfl⟩ | ⟨_, _, h1, rfl⟩ <;> rw [h1] <;> rfl
      rw [hq] at q
      unfold excV at q
      refine ⟨_, rfl, _, _, .type "tuple", _, true, rfl, ClsV.ty _, tyT ht, kit_ty (by decide +kernel), true, rfl, iteF ?_⟩
      refine ⟨_, rfl, _, 2, rfl, .inr ⟨_, ht, rfl⟩, rfl, _, rfl, iteF ?_⟩
      refine ⟨_, rfl, t, _, rfl, ht, rfl, _, _, rfl, _, _, rfl, rfl, ?_⟩
      refine ⟨_, rfl, _, rfl, L, a, rfl, ha, fun H1 s1 => ?_⟩
      refine ⟨_, rfl, ?_⟩
      cases c1 : txV a L 1 8 with
      | false => rw [c1, Bool.false_and] at q; exact iteF (q H1 s1)
      | true =>
        rw [c1, Bool.true_and] at q
        refine iteT ?_
        exact ⟨_, rfl, z, rfl, hz.same s1, fun H4 s4 => q H4 (s1.trans s4)⟩
end
end Say
namespace Say
open PySem PySem.Spec PyProof.Rows L2
/-- does the rule fit at the place of the signs -/
def fitsL (ρ : Rule) (z : List Nat) (i : Nat) : Bool :=
  if (z.drop i).take ρ.ow.length = ρ.ow then (decide (ρ.ah = []) || decide (z.getD (i - 1) 0 ∈ ρ.ah)) && (decide (ρ.be = []) || decide (z.getD (i + ρ.ow.length) 0 ∈ ρ.be)) else false
/-- a word between its edges -/
def sgn (wd : List Nat) : List Nat := 35 :: (wd ++ [35])
theorem sgn_len (wd : List Nat) : (sgn wd).length = wd.length + 2 := by simp [sgn]
theorem sgn_last (wd : List Nat) : (sgn wd)[wd.length + 1]? = some 35 := by
  unfold sgn
  rw [List.getElem?_cons_succ, List.getElem?_append_right (Nat.le_refl _), Nat.sub_self]
  rfl
theorem cut_at {z : List Nat} {i n : Nat} (h : i ≤ z.length) : cutS (T z) (some (i : Int)) (some ((i + n : Nat) : Int)) = T ((z.drop i).take n) := by
  unfold cutS
  rw [T_len, HT.sIx_nat, HT.sIx_nat, Nat.min_eq_left h]
  show T ((z.drop i).take (min (i + n) z.length - i)) = _
  congr 1
  by_cases c : i + n ≤ z.length
  · rw [Nat.min_eq_left c, Nat.add_sub_cancel_left]
  · rw [Nat.min_eq_right (by omega), List.take_of_length_le (by rw [List.length_drop]; omega), List.take_of_length_le (by rw [List.length_drop]; omega)]
theorem fit_room {wd ow : List Nat} {i : Nat} (h : ((sgn wd).drop i).take ow.length = ow) (h1 : 1 ≤ ow.length) (h35 : 35 ∉ ow) : i + ow.length ≤ wd.length + 1 := by
  have hl := congrArg List.length h
  rw [List.length_take, List.length_drop, sgn_len] at hl
  refine Decidable.byContradiction fun n => h35 ?_
  have e : i + ow.length = wd.length + 2 := by omega
  have g : ow[ow.length - 1]? = some 35 := by
    rw [← h, List.getElem?_take_of_lt (by rw [h]; omega), List.getElem?_drop]
    rw [show i + ((((sgn wd).drop i).take ow.length).length - 1) = wd.length + 1 by rw [h]; omega]
    exact sgn_last wd
  exact List.mem_of_getElem? g
theorem dec_nil (l : List Nat) : decide (V.str (T l) = V.str (Str.ofString "")) = decide (l = []) := by
  rw [show Str.ofString "" = T [] from nil_eq]
  refine decide_eq_decide.mpr ⟨fun z => T_inj (V.str.inj z), fun z => by rw [z]⟩
section
variable {P : Program} {w : World} {K : PySem.W.Frag} {mg : Str → Option Value} {base : Heap}
abbrev sFits : Stmt := topS 49
theorem scFits : FnScope ["rule", "signs", "at", "ahead", "own", "behind", "_", "past"] ["rule", "signs", "at"] (defScope sFits) := ⟨rfl, rfl, rfl, by decide +kernel, rfl, by decide +kernel, by decide +kernel⟩
/-- where its letters stand, the sign behind them stands, too -/
def RoomAt (ρ : Rule) (z : List Nat) (i : Nat) : Prop := (z.drop i).take ρ.ow.length = ρ.ow → i + ρ.ow.length < z.length
def spFits : Sp := fun vs H Q _ => ∃ (t : Addr) (ρ : Rule) (z : List Nat) (i : Nat), vs = [.ref t, .str (T z), .int i] ∧ H t = some (.tup ρ.vs) ∧ ρ.ow.length ≤ 2 ∧ 1 ≤ i ∧ i ≤ z.length ∧ z.length ≤ 100 ∧ RoomAt ρ z i ∧
  Q (.bl (fitsL ρ z i)) H
theorem ok_fits {f : Addr} {fd : FuncData} (F : Fun K "fits" "fits" sFits f fd) (B : Bn mg) : FnOk P w K mg base CX0 1 f fd ["rule", "signs", "at"] spFits := by
  refine F.ok scFits (fun vs H Q E h => ?_) (fun cdv A outer s H vs Q E hr h => ?_)
  · obtain ⟨t, ρ, z, i, rfl, _⟩ := h
    rfl
  · obtain ⟨t, ρ, z, i, rfl, ht, h2, hi1, hi, hw, hroom, q⟩ := h
    refine ⟨_, pss_cons (ps_asg (pv 0) (pg_tup (by rfl) (pgs_cons (pg_name (i := 3) scFits.nd rfl (.inl rfl)) (pgs_cons (pg_name (i := 4) scFits.nd rfl (.inl rfl)) (pgs_cons (pg_name (i := 5) scFits.nd rfl (.inl rfl)) (pgs_cons (pg_name (i := 6) scFits.nd rfl (.inl rfl)) pgs_nil))))))
      (pss_cons (ps_set (i := 7) scFits.nd rfl (.inl rfl) (pe_op op_add (pv 2) (pe_callB call_len_str (by rfl) B.len PySem.boot_len (pa_cons (pv 4) pa_nil))))
      (pss_cons (ps_if (pt_cmpR op_ne (pe_slice sl_str (pv 1) (po_some (pv 2)) (po_some (pv 7))) (pv 4) (nomark _)) (pss_one (ps_ret pe_bl)) pss_nil)
      (pss_one (ps_ret (pe_and (pe_or (pe_cmpR op_eq (pv 3) pe_str (nomark _)) (pe_one (pe_cmpR op_in_sign (pe_ix ix_str (pv 1) (pe_op op_sub (pv 2) pe_int) (fun _ _ => rfl)) (pv 3) rfl)))
        (pe_one (pe_or (pe_cmpR op_eq (pv 5) pe_str (nomark _)) (pe_one (pe_cmpR op_in_sign (pe_ix ix_str (pv 1) (pv 7) (fun _ _ => rfl)) (pv 5) rfl))))))))), ?_⟩
    have hzl : (T z).length ≤ sizeLine := by rw [T_len]; exact small (by omega)
    have hol : (T ρ.ow).length ≤ sizeLine := by rw [T_len]; exact small (by omega)
    refine ⟨_, rfl, t, _, rfl, .inl (.inl ht), rfl, _, _, rfl, _, _, rfl, _, _, rfl, _, _, rfl, rfl, ?_⟩
    refine ⟨_, rfl, _, rfl, _, rfl, hol, _, _, rfl, rfl, ?_⟩
    refine ⟨_, rfl, _, rfl, _, rfl, _, rfl, _, rfl, T z, rfl, hzl, _, rfl, ?_⟩
    rw [show ((i : Nat) : Int) + ((T ρ.ow).length : Int) = ((i + ρ.ow.length : Nat) : Int) by rw [T_len]; omega, cut_at (by omega)]
    refine ⟨rfl, _, rfl, ?_⟩
    have eow : (V.str (T ((z.drop i).take ρ.ow.length)) = V.str (T ρ.ow)) ↔ (z.drop i).take ρ.ow.length = ρ.ow :=
      ⟨fun z => T_inj (V.str.inj z), fun z => by rw [z]⟩
    by_cases c : (z.drop i).take ρ.ow.length = ρ.ow
    · rw [decide_eq_true (eow.mpr c)]
      refine iteF ?_
      have room := hroom c
      unfold fitsL at q
      rw [if_pos c] at q
      -- ahead
      refine ⟨_, rfl, rfl, _, rfl, ?_⟩
      rw [dec_nil]
      have g1 : (T z).cps.toList[i - 1]? = some (z.getD (i - 1) 0) := by rw [T_cps, List.getD_eq_getElem?_getD, List.getElem?_eq_getElem (by omega)]; rfl
      have g2 : (T z).cps.toList[i + ρ.ow.length]? = some (z.getD (i + ρ.ow.length) 0) := by rw [T_cps, List.getD_eq_getElem?_getD, List.getElem?_eq_getElem (by omega)]; rfl
      refine ite2 (fun c1 => ?_) (fun c1 => ?_)
      · refine ⟨true, rfl, iteT ?_⟩
        have q2 : Q (.bl (decide (ρ.be = []) || decide (z.getD (i + ρ.ow.length) 0 ∈ ρ.be))) H := by
          rw [c1, Bool.true_or, Bool.true_and] at q; exact q
        refine ⟨_, rfl, rfl, _, rfl, ?_⟩
        rw [dec_nil]
        refine ite2 (fun d1 => ?_) (fun d1 => ?_)
        · rw [d1, Bool.true_or] at q2
          exact q2
        · rw [Bool.eq_false_iff.mpr d1, Bool.false_or] at q2
          exact ⟨_, rfl, _, rfl, T z, _, _, rfl, rfl, hzl, atI_of g2 (by rw [T_len]; omega), _, rfl, _, T ρ.be, rfl, rfl, q2⟩
      · rw [Bool.eq_false_iff.mpr c1, Bool.false_or] at q
        refine ⟨_, rfl, _, rfl, _, _, rfl, rfl, T z, _, _, rfl, rfl, hzl, atI_of g1 (by omega), _, rfl, _, T ρ.ah, rfl, rfl, _, rfl, ?_⟩
        refine ite2 (fun c2 => ?_) (fun c2 => ?_)
        · have q2 : Q (.bl (decide (ρ.be = []) || decide (z.getD (i + ρ.ow.length) 0 ∈ ρ.be))) H := by
            rw [show decide (z.getD (i - 1) 0 ∈ ρ.ah) = true from c2, Bool.true_and] at q; exact q
          refine ⟨_, rfl, rfl, _, rfl, ?_⟩
          rw [dec_nil]
          refine ite2 (fun d1 => ?_) (fun d1 => ?_)
          · rw [d1, Bool.true_or] at q2
            exact q2
          · rw [Bool.eq_false_iff.mpr d1, Bool.false_or] at q2
            exact ⟨_, rfl, _, rfl, T z, _, _, rfl, rfl, hzl, atI_of g2 (by rw [T_len]; omega), _, rfl, _, T ρ.be, rfl, rfl, q2⟩
        · rw [show decide (z.getD (i - 1) 0 ∈ ρ.ah) = false from Bool.eq_false_iff.mpr c2, Bool.false_and] at q
          exact q
    · rw [decide_eq_false fun z => c (eow.mp z)]
      refine iteT ?_
      unfold fitsL at q
      rw [if_neg c] at q
      exact q
end
end Say
namespace Say
open PySem PySem.Spec PyProof.Rows L2
/-- the number of the first rule that fits -/
def ff (rs : List Rule) (z : List Nat) (i : Nat) : Option Nat := rs.findIdx? fun ρ => fitsL ρ z i
def ruleAt (rs : List Rule) (k : Nat) : Rule := rs.getD k ⟨[], [], [], []⟩
/-- the steps from a place on, and where it is stuck -/
def wk (rs : List Rule) (z : List Nat) : Nat → Nat → List (Nat × Nat) × Option Nat
  | 0, _ => ([], none)
  | m + 1, i => if i < z.length - 1 then
      match ff rs z i with
      | none => ([], some (i - 1))
      | some k => ((i - 1, k) :: (wk rs z m (i + (ruleAt rs k).ow.length)).1, (wk rs z m (i + (ruleAt rs k).ow.length)).2)
    else ([], none)
def W (rs : List Rule) (wd : List Nat) : List (Nat × Nat) × Option Nat := wk rs (sgn wd) (wd.length + 1) 1
theorem wk_end (rs : List Rule) (z : List Nat) (m i : Nat) (h : ¬ i < z.length - 1) : wk rs z m i = ([], none) := by
  cases m with
  | zero => rfl
  | succ m =>
    unfold wk
    rw [if_neg h]
theorem wk_none {rs : List Rule} {z : List Nat} {m i : Nat} (h : i < z.length - 1) (e : ff rs z i = none) : wk rs z (m + 1) i = ([], some (i - 1)) := by
  rw [wk, if_pos h, e]
theorem wk_some {rs : List Rule} {z : List Nat} {m i k : Nat} (h : i < z.length - 1) (e : ff rs z i = some k) : wk rs z (m + 1) i = ((i - 1, k) :: (wk rs z m (i + (ruleAt rs k).ow.length)).1, (wk rs z m (i + (ruleAt rs k).ow.length)).2) := by
  rw [wk, if_pos h, e]
theorem wk_len (rs : List Rule) (z : List Nat) : ∀ m i : Nat, (wk rs z m i).1.length ≤ m
  | 0, _ => Nat.le_refl 0
  | m + 1, i => by
    by_cases h : i < z.length - 1
    · cases e : ff rs z i with
      | none => rw [wk_none h e]; exact Nat.zero_le _
      | some k =>
        rw [wk_some h e]
        exact Nat.succ_le_succ (wk_len rs z m _)
    · rw [wk_end rs z _ i h]
      exact Nat.zero_le _
theorem ff_lt {rs : List Rule} {z : List Nat} {i k : Nat} (e : ff rs z i = some k) : k < rs.length := by
  obtain ⟨h, _⟩ := List.findIdx?_eq_some_iff_getElem.mp e
  exact h
theorem ruleAt_eq {rs : List Rule} {k : Nat} {ρ : Rule} (h : rs[k]? = some ρ) : ruleAt rs k = ρ := by
  unfold ruleAt
  rw [List.getD_eq_getElem?_getD, h]
  rfl
/-- what rules ask for the walk -/
structure RlOk (ρ : Rule) : Prop where
  o1 : 1 ≤ ρ.ow.length
  o2 : ρ.ow.length ≤ 2
  h35 : 35 ∉ ρ.ow
  s3 : ρ.so.length ≤ 3
theorem RuleOk.rl {L : List Nat} {ρ : Rule} (hL : LetOk L) (h : RuleOk L ρ) : RlOk ρ := ⟨h.o1, h.o2, fun z => by have := (hL.az _ (h.ow _ z)).1; omega, h.s3⟩
theorem BookOk.rls {L : List Nat} {rs : List Rule} {es : List Exc} (h : BookOk L rs es) : ∀ ρ ∈ rs, RlOk ρ := fun ρ hρ => (h.rl ρ hρ).rl h.lt
theorem eqT {a b : List Nat} : decide (V.str (T a) = V.str (T b)) = decide (a = b) := decide_eq_decide.mpr ⟨fun z => T_inj (V.str.inj z), fun z => by rw [z]⟩
theorem wk_stuck (rs : List Rule) (z : List Nat) : ∀ m i p : Nat, 1 ≤ i → (wk rs z m i).2 = some p → p + 2 ≤ z.length
  | 0, i, p, _, h => by cases h
  | m + 1, i, p, hi, h => by
    by_cases c : i < z.length - 1
    · cases e : ff rs z i with
      | none =>
        rw [wk_none c e] at h
        cases h
        omega
      | some k =>
        rw [wk_some c e] at h
        exact wk_stuck rs z m _ p (by omega) h
    · rw [wk_end rs z _ i c] at h
      cases h
theorem W_stuck {rs : List Rule} {wd : List Nat} {p : Nat} (h : (W rs wd).2 = some p) : p ≤ wd.length := by
  have := wk_stuck rs (sgn wd) _ 1 p (Nat.le_refl 1) h
  rw [sgn_len] at this
  omega
section
variable {P : Program} {w : World} {K : PySem.W.Frag} {mg : Str → Option Value} {base : Heap}
abbrev sFF : Stmt := topS 50
theorem scFF : FnScope ["rules", "signs", "at", "number", "rule"] ["rules", "signs", "at"] (defScope sFF) := ⟨rfl, rfl, rfl, by decide +kernel, rfl, by decide +kernel, by decide +kernel⟩
def optI : Option Nat → V
  | none => .non
  | some k => .int k
def spFF : Sp := fun vs H Q _ => ∃ (R : Addr) (rs : List Rule) (z : List Nat) (i : Nat), vs = [.ref R, .str (T z), .int i] ∧ RulesAt H R rs ∧ (∀ ρ ∈ rs, RlOk ρ) ∧ 1 ≤ i ∧ i ≤ z.length ∧ z.length ≤ 100 ∧ (∀ ρ ∈ rs, RoomAt ρ z i) ∧
  ∀ H', Same H H' → Q (optI (ff rs z i)) H'
theorem room_sgn {rs : List Rule} (h : ∀ ρ ∈ rs, RlOk ρ) (wd : List Nat) (i : Nat) : ∀ ρ ∈ rs, RoomAt ρ (sgn wd) i := fun ρ hρ c => by
  have := fit_room c (h ρ hρ).o1 (h ρ hρ).h35
  rw [sgn_len]
  omega
theorem ok_FF {f : Addr} {fd : FuncData} (F : Fun K "first_fit" "first_fit" sFF f fd) (B : Bn mg) (DF : Df P w K mg base "fits" ["rule", "signs", "at"] 1 spFits) : FnOk P w K mg base CX0 2 f fd ["rules", "signs", "at"] spFF := by
  obtain ⟨fF, fdF, GF, kF, bF, mF⟩ := DF
  refine F.ok scFF (fun vs H Q E h => ?_) (fun cdv A outer s H vs Q E hr h => ?_)
  · obtain ⟨R, rs, z, i, rfl, _⟩ := h
    rfl
  · obtain ⟨R, rs, z, i, rfl, ⟨ts, hR, hp⟩, ho, hi1, hi, hw, hrm, q⟩ := h
    refine ⟨_, pss_cons (ps_for PassesOwn.never rfl (pi_enumT (by rfl) B.enu (pa_cons (pv 0) pa_nil)) (pg_tup (by rfl) (pgs_cons (pg_name (i := 3) scFF.nd rfl (.inl rfl)) (pgs_cons (pg_name (i := 4) scFF.nd rfl (.inl rfl)) pgs_nil)))
        (pss_one (ps_if (pt_val (pe_call GF hr (by rfl) mF kF bF .nil pass0 (pa_cons (pv 4) (pa_cons (pv 1) (pa_cons (pv 2) pa_nil))))) (pss_one (ps_ret (pv 3))) pss_nil)))
      (pss_one (ps_ret pe_non)), ?_⟩
    refine ⟨_, rfl, R, _, rfl, .inl (.inl hR), for_it (walk_enumT (xs := ts.map V.ref)) (fun j σ H2 => Same H H2 ∧ (∃ v3 v4, σ = [some (.ref R), some (.str (T z)), some (.int i), v3, v4]) ∧ ∀ k ρ, k < j → rs[k]? = some ρ → fitsL ρ z i = false)
      ⟨Same.refl H, ⟨_, _, rfl⟩, fun k ρ h => absurd h (Nat.not_lt_zero k)⟩ (fun j σ H2 _ h => .inl (.inl (h.1 _ _ hR))) ?_ ?_⟩
    · rintro j x σ H2 H3 hj ⟨s2, ⟨v3, v4, rfl⟩, hn⟩ ⟨t, x1, x2, rfl, ht, rfl, g1, g2⟩
      cases g1
      have g2 : (ts.map V.ref)[j]? = some x2 := g2
      rw [List.getElem?_map] at g2
      obtain ⟨a, ha, e⟩ := Option.map_eq_some_iff.mp g2
      subst e
      obtain ⟨ρ, hρ, hat⟩ := paired_at hp ha
      have hm := ho ρ (List.mem_of_getElem? hρ)
      have sm := same_new ht (.tup [.int (j : Nat), .ref a])
      refine ⟨t, _, rfl, .inl (.inl upd_same), rfl, _, _, rfl, _, _, rfl, rfl, ?_⟩
      refine ⟨_, rfl, _, rfl, _, rfl, a, ρ, z, i, rfl, sm _ _ (s2 _ _ hat), hm.o2, hi1, hi, hw, hrm ρ (List.mem_of_getElem? hρ), _, rfl, ite2 (fun c => ?_) (fun c => ?_)⟩
      · refine ⟨_, rfl, ?_⟩
        have := q _ (s2.trans sm)
        have e : ff rs z i = some j := by
          refine List.findIdx?_eq_some_iff_getElem.mpr ⟨(List.getElem?_eq_some_iff.mp hρ).1, ?_, fun k hk => ?_⟩
          · rw [(List.getElem?_eq_some_iff.mp hρ).2]
            exact c
          · rw [hn k _ hk (List.getElem?_eq_getElem (by have := (List.getElem?_eq_some_iff.mp hρ).1; omega))]
            exact Bool.false_ne_true
        rw [e] at this
        exact this
      · refine ⟨s2.trans sm, ⟨_, _, rfl⟩, fun k ρ' hk hk' => ?_⟩
        by_cases e : k = j
        · subst e
          rw [hρ] at hk'
          cases hk'
          exact Bool.eq_false_iff.mpr c
        · exact hn k ρ' (by omega) hk'
    · rintro σ H2 ⟨s2, ⟨v3, v4, rfl⟩, hn⟩
      have := q _ s2
      have e : ff rs z i = none := by
        refine List.findIdx?_eq_none_iff.mpr fun ρ hρ => ?_
        obtain ⟨k, hk⟩ := List.mem_iff_getElem?.mp hρ
        have hl := (List.getElem?_eq_some_iff.mp hk).1
        exact hn k ρ (by rw [List.length_map, paired_len hp]; exact hl) hk
      rw [e] at this
      exact this
abbrev sSt : Stmt := topS 51
theorem scSt : FnScope ["rules", "tail", "signs", "steps", "at", "number"] ["rules", "tail"] (defScope sSt) := ⟨rfl, rfl, rfl, by decide +kernel, rfl, by decide +kernel, by decide +kernel⟩
/-- the list at D holds steps -/
def StepsAt (H : Hp) (D : Addr) (ss : List (Nat × Nat)) : Prop := ∃ ts : List Addr, H D = some (.lst (ts.map V.ref)) ∧ Paired (fun t (s : Nat × Nat) => H t = some (.tup [.int (s.1 : Nat), .int (s.2 : Nat)])) ts ss
theorem StepsAt.same {H H' : Hp} {D : Addr} {ss : List (Nat × Nat)} (h : StepsAt H D ss) (e : Same H H') : StepsAt H' D ss := by
  obtain ⟨ts, h1, h2⟩ := h
  exact ⟨ts, e _ _ h1, paired_mono (fun t ρ q => e _ _ q) h2⟩
theorem len1 (tl : List Nat) : (tl ++ [35]).length = tl.length + 1 := by simp
/-- a tail's steps, and where it is stuck -/
def Wt (rs : List Rule) (tl : List Nat) : List (Nat × Nat) × Option Nat := wk rs (tl ++ [35]) tl.length 1
theorem W_Wt (rs : List Rule) (wd : List Nat) : W rs wd = Wt rs (35 :: wd) := rfl
theorem fit_roomT {tl ow : List Nat} {i : Nat} (h : ((tl ++ [35]).drop i).take ow.length = ow) (h1 : 1 ≤ ow.length) (h35 : 35 ∉ ow) : i + ow.length ≤ tl.length := by
  have hl := congrArg List.length h
  rw [List.length_take, List.length_drop, List.length_append, List.length_singleton] at hl
  refine Decidable.byContradiction fun n => h35 ?_
  have e : i + ow.length = tl.length + 1 := by omega
  have g : ow[ow.length - 1]? = some 35 := by
    rw [← h, List.getElem?_take_of_lt (by rw [h]; omega), List.getElem?_drop]
    rw [show i + ((((tl ++ [35] : List Nat).drop i).take ow.length).length - 1) = tl.length by rw [h]; omega]
    rw [List.getElem?_append_right (Nat.le_refl _), Nat.sub_self]
    rfl
  exact List.mem_of_getElem? g
theorem room_tl {rs : List Rule} (h : ∀ ρ ∈ rs, RlOk ρ) (tl : List Nat) (i : Nat) : ∀ ρ ∈ rs, RoomAt ρ (tl ++ [35]) i := fun ρ hρ c => by
  have := fit_roomT c (h ρ hρ).o1 (h ρ hρ).h35
  rw [List.length_append, List.length_singleton]
  omega
def spSt : Sp := fun vs H Q _ => ∃ (R : Addr) (rs : List Rule) (tl : List Nat), vs = [.ref R, .str (T tl)] ∧ RulesAt H R rs ∧ (∀ ρ ∈ rs, RlOk ρ) ∧ 1 ≤ tl.length ∧ tl.length ≤ 81 ∧
  ∀ (t D : Addr) (H' : Hp), Same H H' → H D = none → H' t = some (.tup [.ref D, optI (Wt rs tl).2]) → StepsAt H' D (Wt rs tl).1 → Q (.ref t) H'
theorem ok_St {f : Addr} {fd : FuncData} (F : Fun K "steps_of" "steps_of" sSt f fd) (B : Bn mg) (C : Cn mg) (cO : KI mg "OWN" 1) (DF : Df P w K mg base "first_fit" ["rules", "signs", "at"] 2 spFF) : FnOk P w K mg base CX0 3 f fd ["rules", "tail"] spSt := by
  obtain ⟨fF, fdF, GF, kF, bF, mF⟩ := DF
  obtain ⟨tE, mE⟩ := C.edge
  obtain ⟨tO, mO⟩ := cO
  refine F.ok scSt (fun vs H Q E h => ?_) (fun cdv A outer s H vs Q E hr h => ?_)
  · obtain ⟨R, rs, tl, rfl, _⟩ := h
    rfl
  · obtain ⟨R, rs, tl, rfl, hR, ho, hl1, hw, q⟩ := h
    refine ⟨_, pss_cons (ps_set (i := 2) scSt.nd rfl (.inl rfl) (pe_op op_add_str (pv 1) (pe_glob (v := .str "#") rfl mE ⟨_, rfl⟩)))
      (pss_cons (ps_set (i := 3) scSt.nd rfl (.inl rfl) (pe_lst pa_nil))
      (pss_cons (ps_set (i := 4) scSt.nd rfl (.inl rfl) pe_int)
      (pss_cons (ps_while PassesOwn.never (pt_cmpR op_lt (pv 4) (pe_op op_sub (pe_callB call_len_str (by rfl) B.len PySem.boot_len (pa_cons (pv 2) pa_nil)) pe_int) (nomark _))
        (pss_cons (ps_set (i := 5) scSt.nd rfl (.inl rfl) (pe_call GF hr (by rfl) mF kF bF .nil pass0 (pa_cons (pv 0) (pa_cons (pv 2) (pa_cons (pv 4) pa_nil)))))
        (pss_cons (ps_if (pt_cmpR op_isN (pv 5) pe_non (nomark _)) (pss_one (ps_ret (pe_tup (pa_cons (pv 3) (pa_cons (pe_op op_sub (pv 4) pe_int) pa_nil))))) pss_nil)
        (pss_cons (ps_expr (pe_bm PySem.F.plainAttrs_list PySem.F.slot_list_append PySem.F.type_list_append mt_append (pv 3) (pa_cons (pe_tup (pa_cons (pe_op op_sub (pv 4) pe_int) (pa_cons (pv 5) pa_nil))) pa_nil)))
        (pss_one (ps_aug (i := 4) scSt.nd rfl (.inl rfl) (pe_callB call_len_str (by rfl) B.len PySem.boot_len (pa_cons (pe_ix ix_tup (pe_ix ix_tup (pv 0) (pv 5) (fun _ _ => rfl)) (pe_glob (v := .int 1) rfl mO ⟨_, rfl⟩) (fun _ _ => rfl)) pa_nil)) ip_add))))))
      (pss_one (ps_ret (pe_tup (pa_cons (pv 3) (pa_cons pe_non pa_nil)))))))), ?_⟩
    refine ⟨_, rfl, _, _, rfl, rfl, (by rw [len_hash, T_len]; exact small (by omega)), ?_⟩
    rw [app_hash]
    show tSeq _ _ _ _ _
    refine ⟨(by show 0 ≤ sizeLine; decide), fun D hD => ?_⟩
    obtain ⟨rts, hRt, hRp⟩ := id hR
    have zl : (T (tl ++ [35])).length = tl.length + 1 := by rw [T_len, len1]
    have hz0 : (T (tl ++ [35])).length ≤ sizeLine := by rw [zl]; exact small (by omega)
    refine ⟨fun m σ H2 => ∃ (i : Nat) (acc : List (Nat × Nat)) (v5 : Option V), σ = [some (.ref R), some (.str (T tl)), some (.str (T (tl ++ [35]))), some (.ref D), some (.int i), v5] ∧ 1 ≤ i ∧ tl.length + 1 ≤ i + m ∧ Same H H2 ∧ StepsAt H2 D acc ∧
      Wt rs tl = (acc ++ (wk rs (tl ++ [35]) m i).1, (wk rs (tl ++ [35]) m i).2), ⟨tl.length, 1, [], _, rfl, Nat.le_refl _, by omega, same_new hD _, ⟨[], upd_same, .nil⟩, rfl⟩, fun m σ H2 hW => ?_⟩
    obtain ⟨i, acc, v5, rfl, hi1, hm, s2, hS, hW⟩ := hW
    refine ⟨_, rfl, _, rfl, _, rfl, hz0, _, _, rfl, rfl, _, _, rfl, rfl, _, rfl, ite2 (fun c => ?_) (fun c => ?_)⟩
    · have c' : (i : Int) < ((T (tl ++ [35])).length : Int) - 1 := of_decide_eq_true c
      rw [zl] at c'
      have hi : i < tl.length := by omega
      have hlt : i < (tl ++ [35]).length - 1 := by rw [len1]; omega
      obtain ⟨m', rfl⟩ : ∃ m', m = m' + 1 := ⟨m - 1, by omega⟩
      refine ⟨fun σ' H' => ∃ (i : Nat) (acc : List (Nat × Nat)) (v5 : Option V), σ' = [some (.ref R), some (.str (T tl)), some (.str (T (tl ++ [35]))), some (.ref D), some (.int i), v5] ∧ 1 ≤ i ∧ tl.length + 1 ≤ i + m' ∧ Same H H' ∧ StepsAt H' D acc ∧
        Wt rs tl = (acc ++ (wk rs (tl ++ [35]) m' i).1, (wk rs (tl ++ [35]) m' i).2), fun σ' H' h => ⟨m', Nat.lt_succ_self _, h⟩, ?_⟩
      refine ⟨_, rfl, _, rfl, _, rfl, R, rs, tl ++ [35], i, rfl, hR.kt (.of s2), ho, hi1, by rw [len1]; omega, by rw [len1]; omega, room_tl ho tl i, fun H3 s3 => ?_⟩
      have s23 := s2.trans s3
      obtain ⟨ts, hDl, hDp⟩ := hS.same s3
      cases e : ff rs (tl ++ [35]) i with
      | none =>
        rw [wk_none hlt e] at hW
        refine ⟨_, rfl, rfl, _, rfl, iteT ?_⟩
        refine ⟨_, rfl, _, rfl, _, _, rfl, rfl, (by show 2 ≤ sizeLine; decide), fun t ht => ?_⟩
        have sm := same_new ht (.tup [.ref D, .int ((i : Int) - 1)])
        refine q t D _ (s23.trans sm) hD ?_ ?_
        · rw [upd_same, hW]
          show some (HO.tup [V.ref D, V.int ((i : Int) - 1)]) = some (HO.tup [V.ref D, V.int ((i - 1 : Nat) : Int)])
          rw [show ((i - 1 : Nat) : Int) = (i : Int) - 1 by omega]
        · rw [hW, List.append_nil]
          exact StepsAt.same ⟨ts, hDl, hDp⟩ sm
      | some k =>
        rw [wk_some hlt e] at hW
        have hk := ff_lt e
        obtain ⟨a, ha, hat⟩ := paired_at' hRp (List.getElem?_eq_getElem hk)
        have hm2 := ho _ (List.getElem_mem hk)
        have er : ruleAt rs k = rs[k] := ruleAt_eq (List.getElem?_eq_getElem hk)
        refine ⟨_, rfl, rfl, _, rfl, ?_⟩
        rw [show decide (optI (some k) = V.non) = false from decide_eq_false (fun z => by cases z)]
        refine iteF ?_
        refine ⟨_, rfl, .inl ⟨rfl, _, .inl (.inl hDl)⟩, _, rfl, _, _, rfl, rfl, _, rfl, (by show 2 ≤ sizeLine; decide), fun t ht => ?_⟩
        have sm := same_new ht (.tup [.int ((i : Int) - 1), .int (k : Nat)])
        have hDl' := sm _ _ hDl
        have sall : Same H (upd (upd H3 t (.tup [.int ((i : Int) - 1), .int (k : Nat)])) D (.lst (ts.map V.ref ++ [.ref t]))) := fun b u e => by
          rw [upd_ne (ne_of_none e hD)]
          exact sm _ _ (s23 _ _ e)
        refine ⟨D, _, _, rfl, rfl, hDl', ?_, ?_⟩
        · rw [List.length_map, paired_len hDp]
          have l1 : (Wt rs tl).1.length ≤ tl.length := wk_len rs (tl ++ [35]) tl.length 1
          rw [hW] at l1
          simp at l1
          exact small1000 (by omega)
        · have kR : Same H3 (upd (upd H3 t (.tup [.int ((i : Int) - 1), .int (k : Nat)])) D (.lst (ts.map V.ref ++ [.ref t]))) → True := fun _ => trivial
          have atR := sall _ _ hRt
          have ata := sall _ _ hat
          refine ⟨_, rfl, _, rfl, _, rfl, R, _, (k : Int), .ref a, rfl, rfl, .inl (.inl atR), atI_nat (by rw [List.getElem?_map, ha]; rfl), a, _, 1, .str (T rs[k].ow), rfl, rfl, .inl (.inl ata), atI_nat (j := 1) rfl, _, rfl, (by rw [T_len]; have := hm2.o2; exact small (by omega)), _, _, rfl, rfl, ?_⟩
          refine ⟨i + rs[k].ow.length, acc ++ [(i - 1, k)], some (.int (k : Nat)), ?_, by omega, by have := hm2.o1; omega, sall, ?_, ?_⟩
          · have ee : ((i + rs[k].ow.length : Nat) : Int) = (i : Int) + ((T rs[k].ow).length : Int) := by rw [T_len]; omega
            rw [ee]
            rfl
          · refine ⟨ts ++ [t], by rw [upd_same, List.map_append]; rfl, paired_app (paired_mono (fun t' s h => ?_) hDp) (.cons ?_ .nil)⟩
            · rw [upd_ne (ne_of h hDl (by intro z; cases z))]
              exact sm _ _ h
            · rw [upd_ne (ne_of_none hDl ht).symm, upd_same]
              show some (HO.tup [V.int ((i : Int) - 1), V.int (k : Nat)]) = some (HO.tup [V.int ((i - 1 : Nat) : Int), V.int (k : Nat)])
              rw [show ((i - 1 : Nat) : Int) = (i : Int) - 1 by omega]
          · rw [hW, er, List.append_assoc]
            rfl
    · have c' : ¬ (i : Int) < ((T (tl ++ [35])).length : Int) - 1 := of_decide_eq_false (Bool.eq_false_iff.mpr c)
      rw [zl] at c'
      rw [wk_end rs (tl ++ [35]) m i (by rw [len1]; omega)] at hW
      refine ⟨_, rfl, (by show 2 ≤ sizeLine; decide), fun t ht => ?_⟩
      have sm := same_new ht (.tup [.ref D, .non])
      refine q t D _ (s2.trans sm) hD ?_ ?_
      · rw [upd_same, hW]
        rfl
      · rw [hW, List.append_nil]
        exact hS.same sm
def LWAt (H : Hp) (t : Addr) (q : List (Nat × Nat) × Option Nat) : Prop := match q.2 with
  | some p => H t = some (.tup [.str (Str.ofString "unsaid"), .int (p : Nat)])
  | none => ∃ D, H t = some (.tup [.str (T []), .ref D]) ∧ StepsAt H D q.1
theorem LWAt.same {H H' : Hp} {t : Addr} {q : List (Nat × Nat) × Option Nat} (h : LWAt H t q) (e : Same H H') : LWAt H' t q := by
  obtain ⟨l, o⟩ := q
  cases o with
  | some p => exact e _ _ h
  | none =>
    obtain ⟨D', h1, h2⟩ := h
    exact ⟨D', e _ _ h1, h2.same e⟩
end
end Say
namespace PySem
namespace UnsX
open PySem.W PySem.Calls PyProof.Rows PySem.HandSPX
/-! ### the text of Unsaid.__init__ -/
abbrev sUns : Stmt := L2.inClass (Say.topS 8) 0
abbrev iA : Arguments := L2.defArgs sUns
abbrev iB : List Stmt := L2.defBody sUns
abbrev iS : Scope := L2.defScope sUns
def eF : Expr := match iB with
  | .Expr (.Call _ (e :: _) _ _) _ :: _ => e
  | _ => .Constant .none 0 ⟨0, 0, 0, 0⟩
theorem eF_eq : ∃ c1 c2 c3 c4, eF = .JoinedStr [.Constant (.str "no rule fits at place ") 0 c1, .FormattedValue (.Name "place" c2) (-1) none c3] c4 := ⟨_, _, _, _, rfl⟩
theorem iS_cell : ∀ y ∈ iS.names, y.2 ≠ .cell := by decide +kernel
/-- what the written part says of Unsaid, at C, and of its __init__, at fI -/
structure UnsTxt (P : Program) (K : Frag) (mg : Str → Option Value) (C fI : Addr) : Prop where
  gC : mg "Unsaid" = some (.ref C)
  sB : mg "super" = none
  cls : ∃ nm q N bs bm sn sub ab col dd k0 k1 k2 k3 k5, K.lookup C = some (excClassObj nm q C N bs bm true sn sub ab col dd k0 k1 k2 k3 k5 "ValueError.__new__") ∧ refsVE bm = true
  sa : findIn K (.ref C) "__setattr__" = some (some (.builtin "object.__setattr__"))
  noP : findIn K (.ref C) "place" = some none
  iC : findIn K (.ref C) "__init__" = some (some (.ref fI))
  tC : typeIn K (.ref fI) = some (.type "function")
  kC : keepIn K (.ref C) = true
  exC : subIn K (.ref C) (.type "BaseException") = some true
  tyC : typeIn K (.ref C) = some (.type "type")
  sup : ks_superIn K C C "__init__" = some (some (.builtin "ValueError.__init__"))
  subV : subIn K (.ref C) (.type "ValueError") = some true
  any : nsIn K cStatics "thirdparty.any" = some none
  main : (P.main.scope.names.lookup ("super" : Str)).isSome = false
  fn : ∃ (oc : Value) (od : Option Addr) (doc pm : Value) (an : Option Addr) (cda cc : Addr) (ct : Value) (osl : Array (Option Value)),
    K.lookup fI = some ⟨oc, od, .func (ksFn "__init__" "Unsaid.__init__" iA iB iS .none .none doc pm an (.ref cda) ct cc), osl⟩ ∧ codeIn K (.ref cda) "Unsaid.__init__" = true ∧
    (∃ cl cld csl, K.lookup cc = some ⟨cl, cld, .cell (some (.ref C)), csl⟩) ∧ ∃ ccl cdd vs ccs file tf, K.lookup cda = some ⟨ccl, cdd, .fields vs, ccs⟩ ∧ vs[2]? = some (.str file tf) ∧ ((P.main.file : Str) == file) = true
/-- what __init__ leaves of a fresh exception at x -/
structure InitEnd (h h' : Heap) (x C dx : Addr) (v : Value) : Prop where
  keep : ∀ b o, b ≠ x → h.get? b = some o → h'.get? b = some o
  obj : ∃ t1 : Addr, h'.get? x = some { cls := .ref C, dict := some dx, data := .fields #[.ref t1, .none, .none, .none, .bool false, .none] }
  dbig : h.objs.size ≤ dx
  dne : dx ≠ x
  ns : h'.Ns1 dx (fun y => if y = "place" then some v else none)
section
variable {prog : Program} {w : World} {A : Around} {E : Value → Shared → Prop} {R : Result → Shared → Prop} {s : Shared} {K : Frag} {mg : Str → Option Value} {C fI : Addr} {base : Heap}
theorem ld {M : Model} {s : Shared} {env : Env} {m : Str → Option Value} {x : Str} {pos : Pos} {v : Value} {Q : Value → Shared → Prop} {A : Around} {E : Value → Shared → Prop} (hn : s.heap.Ns env.locals m) (hv : m x = some v) (h : Q v s)
    (hk : env.scope.kind = .function) (hl : env.kindOf x = some .local) (hd : (x == ("__debug__" : Str)) = false := by decide) :
    wpAny M A (eval (.Name x pos) env) Q E s := wpAny_Name (wpAny_loadName_local hk hl hn hv h) hd
theorem uns_init (T : UnsTxt prog K mg C fI) {x t0 : Addr} {i : Int} {ti : Tok} (B : L2.Mod K mg base) (kb : ∀ b o, base.get? b = some o → s.heap.get? b = some o) (hx : s.heap.get? x = some (excO C t0)) (hnx : base.get? x = none) (hi : i.natAbs.log2 < 1920) (hi2 : (toString i : Str).length ≤ 1000) (hroom : A.depth < recursionLimit)
    (hq : ∀ h' tk dx, InitEnd s.heap h' x C dx (.int i ti) → R (.ok (.ret .none)) { s with heap := h', toks := tk }) :
    codeAny (model prog w) A (.call (.ref fI) ⟨[.ref x, .int i ti], []⟩) R s := by
  obtain ⟨oc, od, doc, pm, an, cda, cc, ct, osl, ho, hcd, ⟨cl, cld, csl, hcell⟩, ccl, cdd, vs, ccs, file, tf, hcode, hvs, hfile⟩ := T.fn
  obtain ⟨nm, q, N, bs, bm, sn, sub, ab, col, dd, k0, k1', k2, k3, k5, hC, hbm⟩ := T.cls
  obtain ⟨hp, g, dr, tk0, os⟩ := s
  have hcl : clsIn K C = some { name := nm, bases := bs, mro := .ref C :: bm, ns := N, qualname := q, hasDict := true, slotNames := sn, subclasses := sub, abstract := ab, collection := col, hasDel := false } := by unfold clsIn; rw [hC] <;> rfl
  have X : K.In hp := B.kin.keeps kb
  have nl : hp.NoLimit := B.nolimit.keeps kb
  refine ks_codeAny_call_defAt (fd := ksFn "__init__" "Unsaid.__init__" iA iB iS .none .none doc pm an (.ref cda) ct cc) (body := iB) (binds := [("self", .ref x), ("place", .int i ti)])
    hroom (X _ _ ho) rfl nl (codeRec_of X hcd) rfl (BindsTo.of_eq (by first | rfl | with_unfolding_all rfl)) iS_cell (fun y hy => ?_) (fun h₀ hns k => ?_)
  · have e : y = (PySem.Str.ofString "self", Value.ref x) ∨ y = (PySem.Str.ofString "place", Value.int i ti) := by simpa using hy
    rcases e with rfl | rfl
    · exact (by decide +kernel : iS.names.lookup (PySem.Str.ofString "self") = some .local)
    · exact (by decide +kernel : iS.names.lookup (PySem.Str.ofString "place") = some .local)
  generalize hL : (Shared.heap ⟨hp, g, dr, tk0, os⟩).objs.size = L at hns ⊢
  have henv : callEnv (ksFn "__init__" "Unsaid.__init__" iA iB iS .none .none doc pm an (.ref cda) ct cc) L fI = ksEnv "Unsaid.__init__" iS L fI (.ref cda) cc := rfl
  rw [henv]
  have X0 : K.In h₀ := X.keeps k
  have hx0 := k _ _ hx
  have kb0 : ∀ b o, base.get? b = some o → h₀.get? b = some o := fun b o e => k b o (kb b o e)
  obtain ⟨oC, hC0, hC1⟩ : ∃ oC, h₀.get? C = some oC ∧ oC.data = .cls { name := nm, bases := bs, mro := .ref C :: bm, ns := N, qualname := q, hasDict := true, slotNames := sn, subclasses := sub, abstract := ab, collection := col, hasDel := false } := ⟨_, X0 _ _ hC, rfl⟩
  have I0 : InstAt h₀ x (excO C t0) C none := ⟨hx0, rfl, rfl, trivial⟩
  obtain ⟨mb, hb1, hb2⟩ := B.blt
  have hxC : x ≠ C := fun z => by
    rw [z, hC0] at hx0
    cases hx0
    cases hC1
  have hsub : mroIn K C (.ref C) = some true := by
    unfold mroIn
    rw [hcl]
    simp
  have nS : iS.names.lookup (PySem.Str.ofString "super") = some .globalImplicit := by decide +kernel
  have nC : iS.names.lookup (PySem.Str.ofString "__class__") = some .free := by decide +kernel
  have nx : iS.names.lookup (PySem.Str.ofString "self") = some .local := by decide +kernel
  have np : iS.names.lookup (PySem.Str.ofString "place") = some .local := by decide +kernel
  have hLx : L ≠ x := by
    rw [← hL]
    exact Nat.ne_of_gt (Heap.lt_size hx)
  refine ks_wpAt_execs_cons (ks_wpAt_Expr_any (ks_wpAt_MethodCall (ks_wpAt_super_base nS nC (by decide +kernel) rfl (X0 _ _ ho) rfl rfl rfl (X0 _ _ hcode) rfl hvs hfile T.main ?_)))
  refine ks_loadName_global rfl nS (loadGlobal_builtin (B.glob.keeps kb0) T.sB (hb1.keeps kb0) ((hb2 _ (by decide +kernel)).trans (by decide +kernel)) ⟨rfl, ?_⟩)
  refine wpAny_loadName_free rfl nC rfl ⟨_, X0 _ _ hcell, rfl⟩ ?_
  refine wpAny_loadName_local rfl nx hns rfl ?_
  refine ks_wpAny_isType_cls hC0 hC1 ⟨rfl, ?_⟩
  refine ks_wpAny_call_super hC0 hC1 hx0 rfl (fun c e => by cases e) (looks_mroIn X0 hsub) (fun h1 e1 k1 => ?_)
  have X1 : K.In h1 := X0.keeps k1
  have hx1 := k1 _ _ hx0
  have I1 : InstAt h1 x (excO C t0) C none := ⟨hx1, rfl, rfl, trivial⟩
  have hf : alongIn K "__init__" (((Value.ref C :: bm).dropWhile (· != .ref C)).drop 1) = some (some (.builtin "ValueError.__init__")) := by
    have := T.sup
    unfold ks_superIn at this
    rw [hcl] at this
    exact this
  refine kxs_getMethod kxs_ValueError e1 (looks_opaque X1 T.any) (l₀ := .ref C :: bm) (fun A Q E s k q => wpAny_bind ((looks_clsIn X1 hcl) A _ E s k (wpAny_pure q))) rfl X1 hf (I1.type.andThen (looks_subIn X1 T.subV)) hxC (by decide +kernel) ?_
  have hu : (h1.push (kxs_mw "ValueError.__init__" x)).get? h1.objs.size = some (kxs_mw "ValueError.__init__" x) := Heap.get?_push_size _ rfl
  have k2' : ∀ b o, h₀.get? b = some o → (h1.push (kxs_mw "ValueError.__init__" x)).get? b = some o := fun b o e => Heap.get?_push_of_some _ (k1 b o e)
  generalize h1.push (kxs_mw "ValueError.__init__" x) = h2 at hu k2' ⊢
  generalize h1.objs.size = u at hu ⊢
  have X2 : K.In h2 := X0.keeps k2'
  have hx2 := k2' _ _ hx0
  have hns2 := hns.keeps k2'
  -- the text that is handed on
  show wpAny _ _ (callWith _ (.ref u) [] _ []) _ _ _
  refine kxs_callWith (i := "ValueError.__init__") (x := x) rfl (evalArgs_plain ?_)
  show wpAny _ _ (spliced ((false, eval eF (ksEnv "Unsaid.__init__" iS L fI (.ref cda) cc)) :: [])) _ _ _
  obtain ⟨c1, c2, c3, c4, eFe⟩ := eF_eq
  rw [eFe]
  refine Calls.spliced_cons (wpAny_JoinedStr ?_)
  refine wpAny_Constant_str ⟨_, _, rfl, by decide +kernel, ?_⟩
  refine wpAny_FormattedValue_plain (ld hns2 rfl ?_ rfl np) 
  have hlen : (Str.empty ++ PySem.Str.ofString "no rule fits at place " ++ (toString i : Str)).length ≤ sizeLine := by
    rw [TL.len_tl, TL.tl_append, List.length_append, ← TL.len_tl, ← TL.len_tl, sizeLine_eq]
    have : (Str.empty ++ PySem.Str.ofString "no rule fits at place ").length = 22 := by decide +kernel
    omega
  refine wpAny_formatField_int hi ⟨_, _, rfl, hlen, ?_⟩
  refine ⟨hlen, ?_⟩
  refine Calls.spliced_nil ⟨hu, ?_⟩
  refine wpAny_call (codeAny_of_tree ?_)
  show wpAny _ _ (callAny (.ref u) ⟨_, []⟩) _ _ _
  simp only [callAny]
  refine wpAny_bind (wpAny_load hu ?_)
  simp only [kxs_mw, show (Value.type "method-wrapper" == Value.type "method" || Value.type "method-wrapper" == Value.type "builtin_function_or_method" || Value.type "method-wrapper" == Value.type "method-wrapper") = true by decide, if_true]
  refine KFB.if_so (by decide) ?_
  refine wpAny_bind (check_bound_init F.excBase_ValueError.toExcCallFacts (X2 _ _ hC) hx2 rfl ?_)
  refine wpAny_bind (wpAny_pure (wpAny_pure ?_))
  refine ⟨plainId_quiet F.excBase_ValueError.init.plain _, codeAny_builtin F.excBase_ValueError.initEntry ?_⟩
  refine exc_init_tree (cls := .ref C) (t0 := t0) (dv := none) (c2 := .none) (c3 := .none) (b4 := .bool false) hx2 (by rw [sizeLine_eq]; show 1 ≤ 16777216; decide) fun h3 k3 e3 _ => ?_
  have k3' : ∀ b o, b ≠ x → h₀.get? b = some o → h3.get? b = some o := fun b o hb e => k3 b o hb (k2' b o e)
  have X3 : K.In h3 := fun b o e => k3' b o (fun z => by
    have := B.kin b o e
    rw [z, hnx] at this
    cases this) (X0 b o e)
  have hns3 : h3.Ns L (fun y => (([("self", Value.ref x), ("place", .int i ti)] : List (Str × Value)).reverse.lookup y)) := hns.at fun o e => k3' L o hLx e
  show wpAt _ _ _ (execs (_ :: []) _) _ _ _
  refine ks_wpAt_execs_cons (ks_wpAt_Assign_Attr (wpAt_of_wpAny (ld hns3 rfl (ld hns3 rfl ?_ rfl nx) rfl np)))
  refine set_plain X3 (ox := excO C h2.objs.size) (od := none) ⟨e3, rfl, rfl, trivial⟩ T.sa ?_
  refine exc_osa X3 e3 hcl (show refsVE (.ref C :: bm) = true from hbm) rfl T.noP (fun h4 tk4 dx k4 dn dne hx4 hn4 => ?_)
  show wpAt _ _ _ (execs [] _) _ _ _
  refine wpAt_of_wpAny (wpAny_execs_nil ?_)
  have big : hp.objs.size ≤ dx := by
    have h1 : L < h3.objs.size := hns3.lt
    have h2 : hp.objs.size = L := hL
    exact Nat.le_trans (Nat.le_of_eq h2) (Nat.le_trans (Nat.le_of_lt h1) dn)
  exact hq h4 _ dx ⟨fun b o hb e => k4 b o hb (k3' b o hb (k b o e)), ⟨_, hx4⟩, big, dne, hn4⟩
end
end UnsX
end PySem
namespace PySem
namespace UnsX
open PySem.W PySem.Calls PyProof.Rows PySem.HandSPX
/-- a made Unsaid -/
structure OwnMade (h h' : Heap) (e C d : Addr) (v : Value) : Prop where
  keep : ∀ b o, h.get? b = some o → h'.get? b = some o
  new : h.objs.size ≤ e
  obj : ∃ oe vs, h'.get? e = some oe ∧ oe.cls = .ref C ∧ oe.dict = some d ∧ oe.data = .fields vs ∧ vs[1]? = some .none
  dbig : h.objs.size ≤ d
  dne : d ≠ e
  ns : h'.Ns1 d (fun y => if y = "place" then some v else none)
theorem one_size (v : Value) : [v].length ≤ sizeLine := by
  rw [sizeLine_eq]
  exact (by decide : 1 ≤ 16777216)
section
variable {prog : Program} {w : World} {A : Around} {E : Value → Shared → Prop} {R : Result → Shared → Prop} {s : Shared} {K : Frag} {mg : Str → Option Value} {C fI : Addr} {base : Heap}
theorem uns_made (T : UnsTxt prog K mg C fI) {i : Int} {ti : Tok} (B : L2.Mod K mg base) (kb : ∀ b o, base.get? b = some o → s.heap.get? b = some o) (hi : i.natAbs.log2 < 1920) (hi2 : (toString i : Str).length ≤ 1000) (hroom : A.depth + 1 < recursionLimit)
    (hq : ∀ h' tk e d, OwnMade s.heap h' e C d (.int i ti) → R (.ok (.ret (.ref e))) { s with heap := h', toks := tk }) :
    codeAny (model prog w) A (.call (.ref C) ⟨[.int i ti], []⟩) R s := by
  obtain ⟨nm, q, N, bs, bm, sn, sub, ab, col, dd, k0, k1, k2, k3, k5, hC, hbm⟩ := T.cls
  have X : K.In s.heap := B.kin.keeps kb
  obtain ⟨hp, g, dr, tk, os⟩ := s
  have k : ∀ b o, hp.get? b = some o → ((hp.push (kdv_tup [.int i ti])).push (excO C hp.objs.size)).get? b = some o := fun b o e => Heap.get?_push_of_some _ (Heap.get?_push_of_some _ e)
  have hget : ((hp.push (kdv_tup [.int i ti])).push (excO C hp.objs.size)).get? (hp.objs.size + 1) = some (excO C hp.objs.size) := by heap_get
  have hnx : base.get? (hp.objs.size + 1) = none := by
    cases e : base.get? (hp.objs.size + 1) with
    | none => rfl
    | some o =>
      have z : hp.get? (hp.objs.size + 1) = some o := kb _ _ e
      exact absurd (Nat.lt_of_succ_lt (Heap.lt_size z)) (Nat.lt_irrefl _)
  refine call_own F.excBase_ValueError (fun X => refsVE_contains X bm hbm) (X _ _ hC) (looks_findIn X T.iC) (fun self => bind_fn X self T.tC) (one_size (.int i ti)) ?_
  refine uns_init (s := ⟨(hp.push (kdv_tup [.int i ti])).push (excO C hp.objs.size), g, dr, tk, os⟩) T B (fun b o e => k b o (kb b o e)) hget hnx hi hi2 ?_ fun h' tk' dx ⟨k', ⟨t1, hx⟩, dn, dne, hns⟩ => ?_
  · show A.depth + 1 < recursionLimit
    exact hroom
  · have old : ∀ b o, hp.get? b = some o → h'.get? b = some o := fun b o e => k' b o (Nat.ne_of_lt (Nat.lt_succ_of_lt (Heap.lt_size e))) (k b o e)
    have z : hp.objs.size + 1 + 1 ≤ dx := by
      first
        | (simpa only [Heap.size_push] using dn)
        | exact dn
        | (have q := dn; rw [Heap.size_push, Heap.size_push] at q; exact q)
    exact ⟨rfl, hq h' tk' (hp.objs.size + 1) dx ⟨old, Nat.le_succ _, ⟨_, _, hx, rfl, rfl, rfl, rfl⟩, Nat.le_trans (Nat.le_trans (Nat.le_succ _) (Nat.le_succ _)) z, dne, hns⟩⟩
end
end UnsX
end PySem
namespace Say
open PySem PySem.Spec PyProof.Rows L2
theorem relO_pl {v : V} {v' : Value} (r : RelV v v') (f : Str) : RelO (List.lookup f [(("place" : Str), v)]) (if f = "place" then some v' else none) := by
  by_cases hw : f = "place"
  · subst hw
    rw [if_pos rfl]
    have q : List.lookup ("place" : Str) [(("place" : Str), v)] = some v := by simp [List.lookup]
    rw [q]
    exact r
  · rw [if_neg hw]
    have qw : (f == ("place" : Str)) = false := by simpa using hw
    have q2 : List.lookup f [(("place" : Str), v)] = none := by simp [List.lookup, qw]
    rw [q2]
    trivial
section
variable {X : Cx} {C fI : Addr}
/-- Unsaid(e) -/
def tMkUns (C : Addr) (ta : TA) : L2.St → Hp → XK → Prop := fun σ H Q => ta σ H fun vs H1 => ∃ p : Nat, vs = [.int p] ∧ p ≤ 100 ∧ ∀ d, H1 d = none → Q (.ref C) (some d) (upd H1 d (.xd [(("place" : Str), .int p)]))
theorem small_num {p : Nat} (h : p ≤ 100) : (p : Int).natAbs.log2 < 1920 ∧ (toString (p : Int) : Str).length ≤ 1000 := by
  have key : ∀ q : Fin 101, ((q.1 : Int)).natAbs.log2 < 1920 ∧ (toString (q.1 : Int) : Str).length ≤ 1000 := by decide +kernel
  exact key ⟨p, by omega⟩
theorem pmk_uns {a : Expr} {ta : TA} {p pos : Pos} {k : Nat} (T : PySem.UnsX.UnsTxt X.prog X.K X.mg C fI) (hr : Room k X.A) (ha : PA X [a] ta) (hg : Gl X "Unsaid" := by rfl)
    (he : starEach (a :: []) X.env = (false, eval a X.env) :: starEach [] X.env := by rfl) (hpl : (backTo pos (starEach [] X.env)).any (·.1) = false := by rfl) :
    PMk X (.Call (.Name "Unsaid" p) [a] [] pos) (tMkUns C ta) := by
  intro pins s σ H Q I h
  unfold tMkUns at h
  refine wpAny_Call_Name_kw (ld_glob I hg T.gC ?_)
  refine PySem.W.callWith_K (h₀ := X.base) I.ok.mod.kin T.kC (thn (ha.run pos pins s σ H _ I h) fun us s1 hh => ?_) he hpl
  obtain ⟨vs, H1, I1, r1, n, ev, hn, q1⟩ := hh
  subst ev
  refine ⟨I1.kIn, ?_⟩
  cases r1 with
  | cons rv rn =>
    rename_i v' us'
    cases rn
    obtain ⟨tv, rfl⟩ := rv
    show wpAny _ _ (call (.ref C) [.int n tv]) _ _ _
    have b1 := I1.mod
    have b2 := I1.bk
    obtain ⟨hp, g, dr, tk, os⟩ := s1
    refine wpAny_call (PySem.UnsX.uns_made T b1 b2 (small_num hn).1 (small_num hn).2 (by have := hr.dp; omega) fun h' tk' e d M => ?_)
    show MkP X pins σ Q (.ref e) ⟨h', g, dr, tk', os⟩
    obtain ⟨oe, fv, hoe, hc, hd, hdat, h1⟩ := M.obj
    have hns := M.ns
    obtain ⟨G', g1, g2⟩ := restrict h' fun b => decide (b ≠ e)
    have gk : ∀ b, b ≠ e → G'.get? b = h'.get? b := fun b hb => g1 b (decide_eq_true hb)
    have ge : G'.get? e = none := g2 e (by simp)
    have old : ∀ b o, hp.get? b = some o → G'.get? b = some o := fun b o q => (gk b (Nat.ne_of_lt (Nat.lt_of_lt_of_le (Heap.lt_size q) M.new))).trans (M.keep b o q)
    have ob : ObjOk X.prog X.w (upd H1 d (.xd [(("place" : Str), .int n)])) G' d (.xd [(("place" : Str), .int n)]) :=
      ⟨_, hns.at (fun o q => (gk d M.dne).trans q), fun f => relO_pl (v := .int n) ⟨tv, rfl⟩ f⟩
    have J : Inv X pins σ (upd H1 d (.xd [(("place" : Str), .int n)])) ⟨G', g, dr, tk', os⟩ := I1.laid (t' := tk') old M.dbig ob
    refine ⟨e, oe, fv, ⟨G', g, dr, tk', os⟩, _, .ref C, some d, rfl, J, fun b o q => ?_, ge, hoe, ⟨hc, hd⟩, hdat, h1, ?_, rfl, I1.bare, raises_own T.exC T.tyC, q1 d (I1.hok.fresh M.dbig)⟩
    · by_cases hb : b = e
      · have q' : G'.get? b = some o := q
        rw [hb, ge] at q'; cases q'
      · exact (gk b hb).symm.trans q
    · rw [upd_ne (Ne.symm M.dne)]
      exact I1.hok.fresh M.new
/-- raise Unsaid(e) -/
def tRaiseUns (C : Addr) (W : WX) (ta : TA) : TS := fun _ σ H => tMkUns C ta σ H fun cls d H' => W cls d σ H'
theorem ps_raiseUns {a : Expr} {ta : TA} {W : WX} {p pos pos2 : Pos} {k : Nat} (hc : X.calm = true) (T : PySem.UnsX.UnsTxt X.prog X.K X.mg C fI) (hr : Room k X.A) (tk : Takes X W) (ha : PA X [a] ta) (hg : Gl X "Unsaid" := by rfl)
    (he : starEach (a :: []) X.env = (false, eval a X.env) :: starEach [] X.env := by rfl) (hpl : (backTo pos (starEach [] X.env)).any (·.1) = false := by rfl) :
    PS X (.Raise (some (.Call (.Name "Unsaid" p) [a] [] pos)) none pos2) (tRaiseUns C W ta) := ps_raise hc tk (pmk_uns T hr ha hg he hpl)
end
end Say
namespace Say
open PySem PySem.Spec PyProof.Rows L2
section
variable {P : Program} {w : World} {K : PySem.W.Frag} {mg : Str → Option Value} {base : Heap} {C fI : Addr}
abbrev sWd : Stmt := topS 61
theorem scWd : FnScope ["rules", "word", "steps", "stuck"] ["rules", "word"] (defScope sWd) := ⟨rfl, rfl, rfl, by decide +kernel, rfl, by decide +kernel, by decide +kernel⟩
/-- the steps, or Unsaid with the place -/
def toldW (C : Addr) (rs : List Rule) (wd : List Nat) (H : Hp) (Q : VK) (E : XK) : Prop :=
  ((W rs wd).2 = none → ∀ (D : Addr) (H' : Hp), Same H H' → H D = none → StepsAt H' D (W rs wd).1 → Q (.ref D) H') ∧
  (∀ p : Nat, (W rs wd).2 = some p → ∀ (d : Addr) (H' : Hp), Same H H' → H d = none → H' d = some (.xd [(("place" : Str), .int p)]) → E (.ref C) (some d) H')
def spWdR (C : Addr) : Sp := fun vs H Q E => ∃ (R : Addr) (rs : List Rule) (wd : List Nat), vs = [.ref R, .str (T wd)] ∧ RulesAt H R rs ∧ (∀ ρ ∈ rs, RlOk ρ) ∧ wd.length ≤ 80 ∧ toldW C rs wd H Q E
theorem ok_wdR {f : Addr} {fd : FuncData} (F : Fun K "walked" "walked" sWd f fd) (Cs : Cn mg) (U : PySem.UnsX.UnsTxt P K mg C fI) (DS : Df P w K mg base "steps_of" ["rules", "tail"] 3 spSt) : FnOk P w K mg base (L2.CX P w) 4 f fd ["rules", "word"] (spWdR C) := by
  obtain ⟨fS, fdS, GS, kS, bS, mS⟩ := DS
  obtain ⟨tE, mE⟩ := Cs.edge
  refine F.okX scWd (fun vs H Q E h => ?_) (fun cdv A outer s H vs Q E hr h => ?_)
  · obtain ⟨R, rs, wd, rfl, _⟩ := h
    rfl
  · obtain ⟨R, rs, wd, rfl, hR, ho, hw, q1, q2⟩ := h
    refine ⟨_, pss_cons (ps_asg (pe_call GS hr (by rfl) mS kS bS .nil pass0 (pa_cons (pv 0) (pa_cons (pe_op op_add_str (pe_glob (v := .str "#") rfl mE ⟨_, rfl⟩) (pv 1)) pa_nil))) (pg_tup (by rfl) (pgs_cons (pg_name (i := 2) scWd.nd rfl (.inl rfl)) (pgs_cons (pg_name (i := 3) scWd.nd rfl (.inl rfl)) pgs_nil))))
      (pss_cons (ps_if (pt_cmpR op_notN (pv 3) pe_non (nomark _)) (pss_one (ps_raiseUns rfl U hr (takes_of rfl rfl rfl rfl) (by exact (pa_cons (pv 3) pa_nil)))) pss_nil)
      (pss_one (ps_ret (pv 2)))), ?_⟩
    refine ⟨_, rfl, _, rfl, _, _, rfl, rfl, (by rw [len_hash, T_len]; exact small (by omega)), R, rs, 35 :: wd, (by rw [hash_app]; rfl), hR, ho, by simp, by simp; omega, fun t D H1 s1 hD ht hS => ?_⟩
    rw [← W_Wt] at ht hS
    cases hN : (W rs wd).2 with
    | none =>
      rw [hN] at ht
      refine ⟨t, _, rfl, .inl (.inl ht), rfl, _, _, rfl, _, _, rfl, rfl, ?_⟩
      refine ⟨_, rfl, rfl, _, rfl, iteF ?_⟩
      exact ⟨_, rfl, q1 hN D H1 s1 hD hS⟩
    | some p =>
      rw [hN] at ht
      refine ⟨t, _, rfl, .inl (.inl ht), rfl, _, _, rfl, _, _, rfl, rfl, ?_⟩
      refine ⟨_, rfl, rfl, _, rfl, iteT ?_⟩
      refine ⟨_, rfl, p, rfl, by have := W_stuck hN; omega, fun d hd => ?_⟩
      exact q2 p hN d _ (s1.trans (same_new hd _)) (s1.free hd) upd_same
end
end Say
namespace Say
open PySem PySem.Spec PyProof.Rows L2
/-- the sounds of the rules of these numbers -/
def soL (rs : List Rule) (ks : List Nat) : List Nat := (ks.map fun k => (ruleAt rs k).so).flatten
/-- how rules say a word -/
def sayW (rs : List Rule) (wd : List Nat) : Option (List Nat) := if (W rs wd).2 = none then some (soL rs ((W rs wd).1.map (·.2))) else none
def optT : Option (List Nat) → V
  | none => .non
  | some s => .str (T s)
/-- how a book says a word -/
def saidM (rs : List Rule) (es : List Exc) (wd : List Nat) : Option (List Nat) := match es.find? fun e => decide (e.1 = wd) with
  | some e => some e.2
  | none => sayW rs wd
theorem sum_T : ∀ ls : List (List Nat), ((ls.map T).map fun z : Str => z.length).sum = ls.flatten.length
  | [] => rfl
  | l :: r => by
    show (T l).length + ((r.map T).map fun z : Str => z.length).sum = (l ++ r.flatten).length
    rw [sum_T r, T_len, List.length_append]
theorem flat_len {rs : List Rule} (h : ∀ ρ ∈ rs, RlOk ρ) : ∀ ks : List Nat, (∀ k ∈ ks, k < rs.length) → (soL rs ks).length ≤ 3 * ks.length
  | [], _ => Nat.zero_le _
  | k :: r, hk => by
    have ih := flat_len h r fun j hj => hk j (List.mem_cons_of_mem _ hj)
    have hl := hk k (List.mem_cons_self ..)
    have e : ruleAt rs k = rs[k] := ruleAt_eq (List.getElem?_eq_getElem hl)
    have h3 := (h _ (List.getElem_mem hl)).s3
    show ((ruleAt rs k).so ++ soL rs r).length ≤ 3 * (r.length + 1)
    rw [List.length_append, e]
    omega
theorem wk_lt {rs : List Rule} {z : List Nat} : ∀ (m i : Nat), ∀ s ∈ (wk rs z m i).1, s.2 < rs.length
  | 0, _, s, h => by cases h
  | m + 1, i, s, h => by
    by_cases c : i < z.length - 1
    · cases e : ff rs z i with
      | none => rw [wk_none c e] at h; cases h
      | some k =>
        rw [wk_some c e] at h
        rcases List.mem_cons.mp h with rfl | h
        · exact ff_lt e
        · exact wk_lt m _ s h
    · rw [wk_end rs z _ i c] at h
      cases h
section
variable {P : Program} {w : World} {K : PySem.W.Frag} {mg : Str → Option Value} {base : Heap}
abbrev sNum : Stmt := topS 56
theorem scNum : FnScope ["steps", "_", "number"] ["steps"] (defScope sNum) := ⟨rfl, rfl, rfl, by decide +kernel, rfl, by decide +kernel, by decide +kernel⟩
def spNum : Sp := fun vs H Q _ => ∃ (D : Addr) (ss : List (Nat × Nat)), vs = [.ref D] ∧ StepsAt H D ss ∧ ss.length ≤ 200 ∧ ∀ (D' : Addr) (H' : Hp), Same H H' → H D' = none → H' D' = some (.lst (ss.map fun s => V.int (s.2 : Nat))) → Q (.ref D') H'
theorem ok_num {f : Addr} {fd : FuncData} {k : Nat} (F : Fun K "numbers_of" "numbers_of" sNum f fd) : FnOk P w K mg base CX0 (k + 1) f fd ["steps"] spNum := by
  refine F.ok scNum (fun vs H Q E h => ?_) (fun cdv A outer s H vs Q E hr h => ?_)
  · obtain ⟨D, ss, rfl, _⟩ := h
    rfl
  · obtain ⟨D, ss, rfl, ⟨ts, hD, hp⟩, hl, q⟩ := h
    refine ⟨_, pss_one (ps_ret (pe_lc (own := [("_", 1), ("number", 2)]) (g := gTup K 2 (gCons (gName 1) (gCons (gName 2) gNil))) rfl scNum.nd (pi_list (pv 0))
        (blkOk_by (N := ["steps", "_", "number"]) (sc := defScope sNum) (by decide +kernel)) (fun _ _ _ _ _ => pg_tup (by rfl) (pgs_cons (pg_name (i := 1) scNum.nd rfl (.inl rfl)) (pgs_cons (pg_name (i := 2) scNum.nd rfl (.inl rfl)) pgs_nil)))
        (fun _ _ _ _ _ => pts_nil) (fun _ _ _ _ _ => pv 2))), ?_⟩
    refine ⟨_, rfl, D, rfl, ⟨_, .inl (.inl hD)⟩, fun D' hD' => ?_⟩
    refine lc_it (walk_list (xs := ts.map V.ref)) (fun i H2 => H2 D' = some (.lst ((ss.take i).map fun s => V.int (s.2 : Nat))) ∧ Same H H2) ?_ (fun i H2 _ h => .inl (.inl (h.2 _ _ hD))) ?_ ?_
    · exact ⟨upd_same, same_new hD' _⟩
    · rintro i x H2 H2' hi ⟨e1, e2⟩ ⟨rfl, hx⟩
      rw [List.getElem?_map] at hx
      obtain ⟨a, ha, e⟩ := Option.map_eq_some_iff.mp hx
      subst e
      obtain ⟨st, hst, hat⟩ := paired_at hp ha
      have hi2 : i < ss.length := (List.getElem?_eq_some_iff.mp hst).1
      refine ⟨a, _, rfl, .inl (.inl (e2 _ _ hat)), rfl, _, _, rfl, _, _, rfl, rfl, ?_⟩
      refine ⟨rfl, _, rfl, _, e1, ?_, ?_, ?_⟩
      · rw [List.length_map, List.length_take]
        exact small1000 (by omega)
      · rw [upd_same, List.take_add_one, hst, List.map_append]
        rfl
      · exact fun b u q => by
          rw [upd_ne (ne_of_none q hD')]
          exact e2 b u q
    · rintro H2 ⟨e1, e2⟩
      rw [List.length_map, paired_len hp, List.take_length] at e1
      exact q D' H2 e2 hD' e1
end
end Say
namespace Say
open PySem PySem.Spec PyProof.Rows L2
section
variable {P : Program} {w : World} {K : PySem.W.Frag} {mg : Str → Option Value} {base : Heap}
abbrev sSou : Stmt := topS 57
theorem scSou : FnScope ["rules", "numbers", "number"] ["rules", "numbers"] (defScope sSou) := ⟨rfl, rfl, rfl, by decide +kernel, rfl, by decide +kernel, by decide +kernel⟩
def spSou : Sp := fun vs H Q _ => ∃ (R D : Addr) (rs : List Rule) (ks : List Nat), vs = [.ref R, .ref D] ∧ RulesAt H R rs ∧ (∀ ρ ∈ rs, RlOk ρ) ∧ H D = some (.lst (ks.map fun k => V.int (k : Nat))) ∧ (∀ k ∈ ks, k < rs.length) ∧ ks.length ≤ 200 ∧
  ∀ (H' : Hp), Same H H' → Q (.str (T (soL rs ks))) H'
theorem ok_sou {f : Addr} {fd : FuncData} {k : Nat} (F : Fun K "sounds_of" "sounds_of" sSou f fd) (cS : KI mg "SOUNDS" 3) : FnOk P w K mg base CX0 (k + 1) f fd ["rules", "numbers"] spSou := by
  obtain ⟨tS, mS⟩ := cS
  refine F.ok scSou (fun vs H Q E h => ?_) (fun cdv A outer s H vs Q E hr h => ?_)
  · obtain ⟨R, D, rs, ks, rfl, _⟩ := h
    rfl
  · obtain ⟨R, D, rs, ks, rfl, ⟨rts, hR, hRp⟩, ho, hD, hk, hl, q⟩ := h
    refine ⟨_, pss_one (ps_ret (pe_join pe_str (pe_lc (own := [("number", 2)]) (g := gName 2) (te := tOp (rIxT K) (tOp (rIxT K) (tVar 0) (tVar 2)) (tC (.int 3))) rfl scSou.nd (pi_list (pv 1))
        (blkOk_by (N := ["rules", "numbers", "number"]) (sc := defScope sSou) (by decide +kernel)) (fun _ _ _ _ _ => pg_name (i := 2) scSou.nd rfl (.inl rfl))
        (fun _ _ _ _ _ => pts_nil) (fun _ _ _ _ _ => pe_ix ix_tup (pe_ix ix_tup (pv 0) (pv 2) (fun _ _ => rfl)) (pe_glob (v := .int 3) rfl mS ⟨_, rfl⟩) (fun _ _ => rfl))))), ?_⟩
    refine ⟨⟨_, rfl⟩, _, rfl, D, rfl, ⟨_, .inl (.inl hD)⟩, fun D' hD' => ?_⟩
    refine lc_it (walk_list (xs := ks.map fun k => V.int (k : Nat))) (fun i H2 => H2 D' = some (.lst ((((ks.take i).map fun k => (ruleAt rs k).so).map T).map V.str)) ∧ Same H H2) ?_ (fun i H2 _ h => .inl (.inl (h.2 _ _ hD))) ?_ ?_
    · exact ⟨upd_same, same_new hD' _⟩
    · rintro i x H2 H2' hi ⟨e1, e2⟩ ⟨rfl, hx⟩
      rw [List.getElem?_map] at hx
      obtain ⟨j, hj, e⟩ := Option.map_eq_some_iff.mp hx
      subst e
      have hjl := hk j (List.mem_of_getElem? hj)
      have hi2 : i < ks.length := (List.getElem?_eq_some_iff.mp hj).1
      obtain ⟨a, ha, hat⟩ := paired_at' hRp (List.getElem?_eq_getElem hjl)
      have er : ruleAt rs j = rs[j] := ruleAt_eq (List.getElem?_eq_getElem hjl)
      refine ⟨rfl, ?_⟩
      refine ⟨_, rfl, _, rfl, R, _, (j : Int), .ref a, rfl, rfl, .inl (.inl (e2 _ _ hR)), atI_nat (by rw [List.getElem?_map, ha]; rfl), a, _, 3, .str (T rs[j].so), rfl, rfl, .inl (.inl (e2 _ _ hat)), atI_nat (j := 3) rfl, _, e1, ?_, ?_, ?_⟩
      · rw [List.length_map, List.length_map, List.length_map, List.length_take]
        exact small1000 (by omega)
      · rw [upd_same, List.take_add_one, hj]
        simp only [Option.toList_some, List.map_append, List.map_cons, List.map_nil, er]
      · exact fun b u q => by
          rw [upd_ne (ne_of_none q hD')]
          exact e2 b u q
    · rintro H2 ⟨e1, e2⟩
      rw [List.length_map, List.take_length] at e1
      refine ⟨Str.ofString "", D', (ks.map fun k => (ruleAt rs k).so).map T, rfl, rfl, .inl (.inl (.inl e1)), ?_, ?_⟩
      · rw [sum_T]
        have := flat_len ho ks hk
        show (soL rs ks).length + _ * 0 ≤ _
        omega
      · rw [show Str.ofString "" = T [] from nil_eq, join_nil]
        exact q H2 e2
end
end Say
namespace Say
open PySem PySem.Spec PyProof.Rows L2
section
variable {P : Program} {w : World} {K : PySem.W.Frag} {mg : Str → Option Value} {base : Heap}
abbrev sChW : Stmt := topS 34
theorem scChW : FnScope ["letters", "word"] ["letters", "word"] (defScope sChW) := ⟨rfl, rfl, rfl, by decide +kernel, rfl, by decide +kernel, by decide +kernel⟩
def spChW : Sp := fun vs H Q _ => ∃ (L z : List Nat), vs = [.str (T L), .str (T z)] ∧ (∀ c ∈ z, c ∈ L) ∧ z.length ≤ 12 ∧ ∀ (H' : Hp), Same H H' → Q .non H'
theorem ok_chW {f : Addr} {fd : FuncData} (F : Fun K "check_word" "check_word" sChW f fd) (cL : KI mg "LONGEST_WORD" 12) (DT : Df P w K mg base "is_text" psIsText 1 spIsText) :
    FnOk P w K mg base CX0 2 f fd ["letters", "word"] spChW := by
  obtain ⟨fT, fdT, GT, kT, bT, mT⟩ := DT
  obtain ⟨tS, mS⟩ := cL
  refine F.ok scChW (fun vs H Q E h => ?_) (fun cdv A outer s H vs Q E hr h => ?_)
  · obtain ⟨L, z, rfl, _⟩ := h
    rfl
  · obtain ⟨L, z, rfl, h1, h2, q⟩ := h
    refine ⟨_, pss_one (ps_if (pt_not (pt_val (pe_call GT hr (by rfl) mT kT bT .nil pass0 (pa_cons (pv 1) (pa_cons (pv 0) (pa_cons pe_int (pa_cons (pe_glob (v := .int 12) rfl mS ⟨_, rfl⟩) pa_nil))))))) (pss_one ps_never) pss_nil), ?_⟩
    refine ⟨_, rfl, _, rfl, z, L, 0, 12, rfl, by omega, fun H1 s1 => ?_⟩
    rw [isText_of (Nat.zero_le _) h2 h1]
    exact ⟨true, rfl, iteF (q H1 s1)⟩
end
end Say
namespace Say
open PySem PySem.Spec PyProof.Rows L2
section
variable {P : Program} {w : World} {K : PySem.W.Frag} {mg : Str → Option Value} {base : Heap} {C fI : Addr}
abbrev sSaid : Stmt := topS 60
theorem scSaid : FnScope ["book", "word", "letters", "rules", "exceptions", "written", "sounds"] ["book", "word"] (defScope sSaid) := ⟨rfl, rfl, rfl, by decide +kernel, rfl, by decide +kernel, by decide +kernel⟩
/-- the sounds, or Unsaid with the place -/
def toldS (C : Addr) (rs : List Rule) (es : List Exc) (wd : List Nat) (H : Hp) (Q : VK) (E : XK) : Prop :=
  (∀ so, saidM rs es wd = some so → ∀ (H' : Hp), Same H H' → Q (.str (T so)) H') ∧
  (saidM rs es wd = none → ∀ p : Nat, (W rs wd).2 = some p → ∀ (d : Addr) (H' : Hp), Same H H' → H d = none → H' d = some (.xd [(("place" : Str), .int p)]) → E (.ref C) (some d) H')
def spSaidR (C : Addr) : Sp := fun vs H Q E => ∃ (b : Addr) (L : List Nat) (rs : List Rule) (es : List Exc) (wd : List Nat), vs = [.ref b, .str (T wd)] ∧ BookAt H b L rs es ∧ BookOk L rs es ∧ (∀ c ∈ wd, c ∈ L) ∧ wd.length ≤ 12 ∧ toldS C rs es wd H Q E
theorem ok_saidR {f fD : Addr} {fd fdD : FuncData} (F : Fun K "said" "said" sSaid f fd) (DC : Df P w K mg base "checked_book" ["book"] 5 spCh) (DW : Df P w K mg base "check_word" ["letters", "word"] 2 spChW)
    (GD : FnOk P w K mg base (L2.CX P w) 4 fD fdD ["rules", "word"] (spWdR C)) (kD : PySem.W.keepIn K (.ref fD) = true) (bD : Binds K fdD ["rules", "word"] []) (mD : mg "walked" = some (.ref fD))
    (DN : Df P w K mg base "numbers_of" ["steps"] 1 spNum) (DS : Df P w K mg base "sounds_of" ["rules", "numbers"] 1 spSou) : FnOk P w K mg base (L2.CX P w) 6 f fd ["book", "word"] (spSaidR C) := by
  obtain ⟨fC, fdC, GC, kC, bC, mC⟩ := DC
  obtain ⟨fW, fdW, GW, kW, bW, mW⟩ := DW
  obtain ⟨fN, fdN, GN, kN, bN, mN⟩ := DN
  obtain ⟨fS, fdS, GS, kS, bS, mS⟩ := DS
  refine F.okX scSaid (fun vs H Q E h => ?_) (fun cdv A outer s H vs Q E hr h => ?_)
  · obtain ⟨b, L, rs, es, wd, rfl, _⟩ := h
    rfl
  · obtain ⟨b, L, rs, es, wd, rfl, hB, ho, hw, hl, q1, q2⟩ := h
    have tk : Takes _ (fun cls d _ H => E cls d H) := takes_of (X := cxOf (L2.CX P w) P w K mg base ["book", "word", "letters", "rules", "exceptions", "written", "sounds"] "said" (defScope sSaid) f cdv A outer s H E) rfl rfl rfl rfl
    have px : PassesOwn (model P w) (A.deeper (envOfC "said" (defScope sSaid) s.heap.objs.size f cdv)) (envOfC "said" (defScope sSaid) s.heap.objs.size f cdv) (cxOf (L2.CX P w) P w K mg base ["book", "word", "letters", "rules", "exceptions", "written", "sounds"] "said" (defScope sSaid) f cdv A outer s H E).xe := PassesOwn.leaving
    refine ⟨_, pss_cons (ps_asg (pe_call GC hr (by rfl) mC kC bC .nil pass0 (pa_cons (pv 0) pa_nil)) (pg_tup (by rfl) (pgs_cons (pg_name (i := 2) scSaid.nd rfl (.inl rfl)) (pgs_cons (pg_name (i := 3) scSaid.nd rfl (.inl rfl)) (pgs_cons (pg_name (i := 4) scSaid.nd rfl (.inl rfl)) pgs_nil)))))
      (pss_cons (ps_expr (pe_call GW (hr.mono (by decide)) (by rfl) mW kW bW .nil pass0 (pa_cons (pv 2) (pa_cons (pv 1) pa_nil))))
      (pss_cons (ps_for px rfl (pi_tup (pv 4)) (pg_tup (by rfl) (pgs_cons (pg_name (i := 5) scSaid.nd rfl (.inl rfl)) (pgs_cons (pg_name (i := 6) scSaid.nd rfl (.inl rfl)) pgs_nil)))
        (pss_one (ps_if (pt_cmpR op_eq (pv 5) (pv 1) (nomark _)) (pss_one (ps_ret (pv 6))) pss_nil)))
      (pss_one (ps_ret (pe_call GS (hr.mono (by decide)) (by rfl) mS kS bS .nil pass0 (pa_cons (pv 3) (pa_cons (pe_call GN (hr.mono (by decide)) (by rfl) mN kN bN .nil pass0 (pa_cons (pe_callS GD (hr.mono (by decide)) (by rfl) mD kD bD (fun σ => passAt tk σ) (by exact (pa_cons (pv 3) (pa_cons (pv 1) pa_nil)))) pa_nil)) pa_nil))))))), ?_⟩
    refine ⟨_, rfl, b, L, rs, es, rfl, hB, ho, fun H1 s1 => ?_⟩
    obtain ⟨R, X, hb, hR, hX⟩ := hB.kt (.of s1)
    obtain ⟨ts, hXl, hXp⟩ := id hX
    refine ⟨b, _, rfl, .inl (.inl hb), rfl, _, _, rfl, _, _, rfl, _, _, rfl, rfl, ?_⟩
    refine ⟨_, rfl, _, rfl, L, wd, rfl, hw, hl, fun H2 s2 => ?_⟩
    have hXl2 := hXl.kt (.of s2)
    refine ⟨_, rfl, X, rfl, ⟨_, .inl hXl2.rd⟩, for_it (walk_tup (xs := ts.map V.ref)) (fun i σ H3 => Same H2 H3 ∧ (∃ v5 v6, σ = [some (.ref b), some (.str (T wd)), some (.str (T L)), some (.ref R), some (.ref X), v5, v6]) ∧ ∀ j e, j < i → es[j]? = some e → ¬ e.1 = wd)
      ⟨Same.refl _, ⟨_, _, rfl⟩, fun j e h => absurd h (Nat.not_lt_zero j)⟩ (fun i σ H3 _ h => .inl (hXl2.kt (.of h.1)).rd) ?_ ?_⟩
    · rintro i x σ H3 H4 hi ⟨s3, ⟨v5, v6, rfl⟩, hn⟩ ⟨rfl, hx⟩
      rw [List.getElem?_map] at hx
      obtain ⟨a, ha, e⟩ := Option.map_eq_some_iff.mp hx
      subst e
      obtain ⟨e, he, hat⟩ := paired_at hXp ha
      have hat' := s3 _ _ (s2 _ _ hat)
      refine ⟨a, _, rfl, .inl (.inl hat'), rfl, _, _, rfl, _, _, rfl, rfl, ?_⟩
      refine ⟨_, rfl, _, rfl, rfl, _, rfl, ?_⟩
      rw [eqT]
      refine ite2 (fun c => ?_) (fun c => ?_)
      · have c := of_decide_eq_true c
        have ef : es.find? (fun e => decide (e.1 = wd)) = some e := by
          refine List.find?_eq_some_iff_getElem.mpr ⟨decide_eq_true c, i, (List.getElem?_eq_some_iff.mp he).1, (List.getElem?_eq_some_iff.mp he).2, fun j hj => ?_⟩
          have := hn j _ hj (List.getElem?_eq_getElem (by have := (List.getElem?_eq_some_iff.mp he).1; omega))
          simp only [this, decide_false, Bool.not_false]
        exact ⟨_, rfl, q1 e.2 (by unfold saidM; rw [ef]) _ (s1.trans (s2.trans s3))⟩
      · have c := of_decide_eq_false (Bool.eq_false_iff.mpr c)
        refine ⟨s3, ⟨_, _, rfl⟩, fun j e' hj he' => ?_⟩
        by_cases ej : j = i
        · subst ej
          rw [he] at he'
          cases he'
          exact c
        · exact hn j e' (by omega) he'
    · rintro σ H3 ⟨s3, ⟨v5, v6, rfl⟩, hn⟩
      have ef : es.find? (fun e => decide (e.1 = wd)) = none := by
        refine List.find?_eq_none.mpr fun e he => ?_
        obtain ⟨j, hj⟩ := List.mem_iff_getElem?.mp he
        have := hn j e (by rw [List.length_map, paired_len hXp]; exact (List.getElem?_eq_some_iff.mp hj).1) hj
        simpa using this
      have eM : saidM rs es wd = sayW rs wd := by
        unfold saidM
        rw [ef]
      have hR3 := hR.kt (.of (s2.trans s3))
      have hlw : (W rs wd).1.length ≤ wd.length + 1 := wk_len rs (sgn wd) (wd.length + 1) 1
      have s13 := s1.trans (s2.trans s3)
      refine ⟨_, rfl, _, rfl, _, rfl, R, rs, wd, rfl, hR3, ho.rls, by omega, fun hN D H4 s4 hD hS => ?_, fun p hp d H4 s4 hd hH => ?_⟩
      · refine ⟨D, _, rfl, hS, by omega, fun D' H5 s5 _ hD' => ?_⟩
        refine ⟨R, D', rs, ((W rs wd).1.map fun s : Nat × Nat => s.2), rfl, hR3.kt (.of (s4.trans s5)), ho.rls, by rw [hD', List.map_map]; rfl, fun k hk => ?_, by rw [List.length_map]; omega, fun H6 s6 => ?_⟩
        · obtain ⟨st, hst, rfl⟩ := List.mem_map.mp hk
          exact wk_lt _ _ st hst
        · exact q1 _ (by rw [eM]; unfold sayW; rw [if_pos hN]) H6 (s13.trans (s4.trans (s5.trans s6)))
      · refine q2 ?_ p hp d H4 (s13.trans s4) (s13.free hd) hH
        rw [eM]
        unfold sayW
        rw [if_neg (by rw [hp]; intro z; cases z)]
end
end Say
namespace Say
open PySem PySem.Spec PyProof.Rows L2
theorem Same.seqT {K : PySem.W.Frag} {H H' : Hp} {a : Addr} {xs : List V} (e : Same H H') (h : SqT K H a xs) : SqT K H' a xs := by
  rcases h with (h | ⟨o, h⟩) | h
  · exact .inl (.inl (e _ _ h))
  · exact .inl (.inr ⟨o, e _ _ h⟩)
  · exact .inr h
mutual
theorem dp_same {K : PySem.W.Frag} {H H' : Hp} (e : Same H H') : ∀ {v : V} {d : PyData}, Dp K H v d → Dp K H' v d
  | _, _, .non => .non
  | _, _, .bl b => .bl b
  | _, _, .int i => .int i
  | _, _, .str x => .str x
  | _, _, .lst h a => .lst (Same.seq e h) (dpa_same e a)
  | _, _, .tup h a => .tup (Same.seqT e h) (dpa_same e a)
theorem dpa_same {K : PySem.W.Frag} {H H' : Hp} (e : Same H H') : ∀ {vs : List V} {ds : List PyData}, DpAll K H vs ds → DpAll K H' vs ds
  | _, _, .nil => .nil
  | _, _, .cons h t => .cons (dp_same e h) (dpa_same e t)
end
theorem dpa_len {K : PySem.W.Frag} {H : Hp} : ∀ {vs : List V} {ds : List PyData}, DpAll K H vs ds → vs.length = ds.length
  | _, _, .nil => rfl
  | _, _, .cons _ t => by simp [dpa_len t]
theorem dpa_at {K : PySem.W.Frag} {H : Hp} : ∀ {vs : List V} {ds : List PyData}, DpAll K H vs ds → ∀ {i : Nat} {d : PyData}, ds[i]? = some d → ∃ v, vs[i]? = some v ∧ Dp K H v d
  | _, _, .nil, i, d, h => by cases h
  | _, _, .cons a t, 0, d, h => by
    cases h
    exact ⟨_, rfl, a⟩
  | _, _, .cons a t, i + 1, d, h => dpa_at t h
/-- data with no dicts, its lists not long -/
inductive Few : PyData → Prop
  | non : Few .none
  | bl (b : Bool) : Few (.bool b)
  | int (i : Int) : Few (.int i)
  | str (x : Str) : Few (.str x)
  | lst {ds : List PyData} : ds.length ≤ 1000 → (∀ d ∈ ds, Few d) → Few (.list ds)
  | tup {ds : List PyData} : ds.length ≤ 1000 → (∀ d ∈ ds, Few d) → Few (.tuple ds)
theorem depth_mem : ∀ {ds : List PyData} {d : PyData}, d ∈ ds → d.depth ≤ PyData.depthAll ds
  | x :: r, d, h => by
    unfold PyData.depthAll
    rcases List.mem_cons.mp h with rfl | h
    · exact Nat.le_max_left _ _
    · exact Nat.le_trans (depth_mem h) (Nat.le_max_right _ _)
end Say
namespace SrtT
open PySem PySem.Spec PyProof.Rows L2 SrtO
/-- by the first text, then by the second -/
def lexT (p q : Str × Str) : Bool := if p.1 = q.1 then decide (p.2.cps.toList < q.2.cps.toList) else decide (p.1.cps.toList < q.1.cps.toList)
theorem str_of {x y : Str} (h : x.cps.toList = y.cps.toList) : x = y := TL.ext_tl h
theorem lexT_no {p q : Str × Str} : lexT p q = false ↔ (q.1.cps.toList < p.1.cps.toList ∨ (p.1 = q.1 ∧ q.2.cps.toList ≤ p.2.cps.toList)) := by
  unfold lexT
  by_cases h : p.1 = q.1
  · rw [if_pos h]
    constructor
    · intro z
      exact .inr ⟨h, List.not_lt.mp (of_decide_eq_false z)⟩
    · rintro (z | ⟨_, z⟩)
      · rw [h] at z
        exact absurd z (List.lt_irrefl _)
      · exact decide_eq_false (List.not_lt.mpr z)
  · rw [if_neg h]
    constructor
    · intro z
      have le := List.not_lt.mp (of_decide_eq_false z)
      refine .inl ?_
      refine Decidable.byContradiction fun n => h (str_of (List.le_antisymm (List.not_lt.mp n) le))
    · rintro (z | ⟨e, _⟩)
      · exact decide_eq_false (List.not_lt.mpr (List.le_of_lt z))
      · exact absurd e h
theorem lexT_yes {p q : Str × Str} (h : lexT p q = true) : p.1.cps.toList < q.1.cps.toList ∨ (p.1 = q.1 ∧ p.2.cps.toList < q.2.cps.toList) := by
  unfold lexT at h
  by_cases e : p.1 = q.1
  · rw [if_pos e] at h
    exact .inr ⟨e, of_decide_eq_true h⟩
  · rw [if_neg e] at h
    exact .inl (of_decide_eq_true h)
theorem swoT {α : Type} (k : α → Str × Str) : Swo fun v u => lexT (k v) (k u) := by
  refine ⟨fun x y h => ?_, fun x y z h1 h2 => ?_⟩
  · refine lexT_no.mpr ?_
    rcases lexT_yes h with q | ⟨e, q⟩
    · exact .inl q
    · exact .inr ⟨e.symm, List.le_of_lt q⟩
  · refine lexT_no.mpr ?_
    rcases lexT_no.mp h1 with a | ⟨e, a⟩
    · rcases lexT_no.mp h2 with b | ⟨e', b⟩
      · exact .inl (List.lt_trans a b)
      · exact .inl (by rw [e']; exact a)
    · rcases lexT_no.mp h2 with b | ⟨e', b⟩
      · exact .inl (by rw [← e]; exact b)
      · exact .inr ⟨e'.trans e, List.le_trans a b⟩
/-- v is a tuple of the two texts -/
def IsTx (h : Heap) (v : Value) (x y : Str) : Prop := ∃ a o t u n, v = .ref a ∧ h.get? a = some o ∧ o.cls = .type "tuple" ∧ o.data = .seq #[.str x t, .str y u] n
theorem IsTx.keeps {h h' : Heap} {v : Value} {x y : Str} (p : IsTx h v x y) (k : ∀ b o, h.get? b = some o → o.cls = .type "tuple" → h'.get? b = some o) : IsTx h' v x y := by
  obtain ⟨a, o, t, u, n, e, obO, clC, dtD⟩ := p
  exact ⟨a, o, t, u, n, e, k _ _ obO clC, clC, dtD⟩
section
variable {prog : Program} {w : World} {A : Around} {E : Value → Shared → Prop} {s : Shared}
theorem tx_cmp {vs : List Value} {k : Value → Str × Str} (txP : ∀ v ∈ vs, IsTx s.heap v (k v).1 (k v).2) : Cmp prog w A s (tuples' true) (fun p => p.1 ∈ vs) (lt2 fun v u => lexT (k v) (k u)) := by
  intro p q hm hm'
  have h1 := txP _ hm
  have h2 := txP _ hm'
  show wpAny (model prog w) A (keyLt' (tuples' true) p.1 q.1) (fun r s' => s' = s ∧ r = lexT (k p.1) (k q.1)) (fun _ _ => False) s
  unfold lexT
  generalize (k p.1).1 = x at h1 ⊢
  generalize (k p.1).2 = y at h1 ⊢
  generalize (k q.1).1 = x' at h2 ⊢
  generalize (k q.1).2 = y' at h2 ⊢
  obtain ⟨a, o, t, u, n, e, obO, clC, dtD⟩ := h1
  obtain ⟨a', o', t', u', n', e', ho', hc', hd'⟩ := h2
  rw [e, e']
  refine PySem.W.kat_lt obO dtD ho' hd' ?_
  show PySem.W.KatLex prog w A true (decide (2 < 2)) _ [(.str x t, .str x' t'), (.str y u, .str y' u')] 0 s
  refine PySem.W.kat_cons (SeqAt.EqAt.str_str x t x' t' prog w _ _ ?_)
  refine PySem.W.kat_go (fun q1 => ?_) (fun q1 => ?_)
  · have ex : x = x' := by simpa using q1
    refine PySem.W.kat_yes (PySem.W.kat_cons (SeqAt.EqAt.str_str y u y' u' prog w _ _ ?_))
    refine PySem.W.kat_go (fun q2 => ?_) (fun q2 => ?_)
    · have ey : y = y' := by simpa using q2
      have q3 : (if x = x' then decide (y.cps.toList < y'.cps.toList) else decide (x.cps.toList < x'.cps.toList)) = false := by
        rw [if_pos ex, ey]
        exact decide_eq_false (List.lt_irrefl _)
      exact PySem.W.kat_yes (PySem.W.kat_nil ⟨rfl, q3.symm⟩)
    · have q3 : (if x = x' then decide (y.cps.toList < y'.cps.toList) else decide (x.cps.toList < x'.cps.toList)) = decide (y.cps.toList < y'.cps.toList) := if_pos ex
      refine PySem.W.kat_no (PySem.W.kat_one _ _ (PyProof.Rows.lt_str ?_))
      exact (show s = s ∧ decide (y.cps.toList < y'.cps.toList) = (if x = x' then decide (y.cps.toList < y'.cps.toList) else decide (x.cps.toList < x'.cps.toList)) from ⟨rfl, q3.symm⟩)
  · have ex : ¬ x = x' := by simpa using q1
    have q3 : (if x = x' then decide (y.cps.toList < y'.cps.toList) else decide (x.cps.toList < x'.cps.toList)) = decide (x.cps.toList < x'.cps.toList) := if_neg ex
    exact PySem.W.kat_no (oneLt_str ⟨rfl, q3.symm⟩)
theorem firsts_tx {h : Heap} : ∀ {vs : List Value}, (∀ v ∈ vs, ∃ x y, IsTx h v x y) → ∃ fs, PySem.W.KatTups h vs fs ∧ fs.length = vs.length ∧ ∀ f ∈ fs, ∃ x t, f = Value.str x t
  | [], _ => ⟨[], trivial, rfl, fun _ h => nomatch h⟩
  | v :: vs, txP => by
    obtain ⟨x, y, a, o, t, u, n, rfl, obO, clC, dtD⟩ := txP v (List.mem_cons_self ..)
    obtain ⟨fs, h1, h2, h3⟩ := firsts_tx (vs := vs) fun v inV => txP v (List.mem_cons_of_mem _ inV)
    refine ⟨.str x t :: fs, .cons obO clC dtD rfl h1, by simp [h2], fun f fresh0 => ?_⟩
    rcases List.mem_cons.mp fresh0 with rfl | fresh0
    · exact ⟨_, _, rfl⟩
    · exact h3 f fresh0
theorem tx_sortable {a : Addr} {vs : List Value} {k : Value → Str × Str} (h0 : 0 < vs.length) (txP : ∀ v ∈ vs, IsTx s.heap v (k v).1 (k v).2) (atA : ∀ o, s.heap.get? a = some o → o.cls ≠ .type "tuple") : SortableO prog w A s a vs fun v u => lexT (k v) (k u) := by
  intro h' keep
  have hp' : ∀ v ∈ vs, IsTx h' v (k v).1 (k v).2 := fun v hm => (txP v hm).keeps fun b o e c => keep b o (fun z => by subst z; exact atA o e c) e
  obtain ⟨fs, h1, h2, h3⟩ := firsts_tx fun v hm => ⟨_, _, hp' v hm⟩
  refine ⟨tuples' true, fun Q E isT => ?_, tx_cmp hp'⟩
  refine PySem.W.kat_kind (T := .type "str") h1 (by omega) (fun f hm => ?_) (by rfl) ?_
  · obtain ⟨x, t, rfl⟩ := h3 f hm
    exact PySem.W.Looks.now
  · have e : (Value.type "str" != Value.type "tuple") = true := by first | decide +kernel | rfl | decide
    rw [e]
    exact isT
end
/-- the texts of a tuple of two -/
def txOf (h : Heap) (v : Value) : Str × Str := match v with
  | .ref a => match h.get? a with
    | some o => match o.data with
      | .seq its _ => match its.toList with
        | [.str x _, .str y _] => (x, y)
        | _ => (Str.empty, Str.empty)
      | _ => (Str.empty, Str.empty)
    | none => (Str.empty, Str.empty)
  | _ => (Str.empty, Str.empty)
theorem IsTx.tx {h : Heap} {v : Value} {x y : Str} (p : IsTx h v x y) : txOf h v = (x, y) := by
  obtain ⟨a, o, t, u, n, rfl, obO, clC, dtD⟩ := p
  unfold txOf
  simp only [obO, dtD]
end SrtT
namespace Say
open PySem PySem.Spec PyProof.Rows L2 L2.DX
section
variable {X : Cx}
/-- d.items() of a dict with int and text keys -/
def rItemsK : V → List V → Hp → VK → Prop := fun x xs H Q => ∃ (a : Addr) (kvs : List (Key × V)), x = .ref a ∧ xs = [] ∧ H a = some (.dK kvs) ∧ ∀ p, H p = none → Q (.ref p) (upd H p (itemsO p a))
theorem mt_itemsK : MtR X "dict.items" rItemsK := by
  intro pn s σ H x xs v args Q I rx rxs h
  obtain ⟨a, kvs, rfl, rfl, atA, q⟩ := h
  cases rx
  cases rxs
  obtain ⟨szT, dtD, vs, kv, o, es, ep, obO, atI0, hdat, _⟩ := (show ObjOk X.prog X.w H s.heap a (.dK kvs) from I.hok a _ atA)
  refine DT.callItems (es := es) (ep := ep) dtD ⟨o, obO, atI0, hdat⟩ ?_
  have fresh0 : H s.heap.objs.size = none := I.hok.fresh (Nat.le_refl _)
  exact ⟨.ref s.heap.objs.size, upd H s.heap.objs.size (itemsO s.heap.objs.size a), I.laid (t' := s.toks) (fun b u e => Heap.get?_push_of_some _ e) (Nat.le_refl _) (itemsO_ok (Heap.get?_push_size _ rfl)), rfl, q _ fresh0⟩
abbrev entS (e : Str × Str) : Key × V := (Sum.inr e.1, V.str e.2)
/-- sorted(d.items()), keys and values texts -/
def rSortTx : List V → Hp → VK → Prop := fun vs H Q => ∃ (p a : Addr) (es : List (Str × Str)), vs = [.ref p] ∧ H p = some (itemsO p a) ∧ H a = some (.dK (es.map entS)) ∧ es.length ≤ 1000 ∧
  ∀ (H' : Hp) (l : Addr) (ps : List (Addr × Str × Str)), (∀ b o, H b = some o → H' b = some o) → (ps.map (·.2)).Perm es → (ps.map (·.2)).Pairwise (fun e f => SrtT.lexT f e = false) → H l = none → H' l = some (.lst (ps.map fun z => V.ref z.1)) →
    (∀ z ∈ ps, H' z.1 = some (.tup [.str z.2.1, .str z.2.2])) → Q (.ref l) H'
theorem key_txt {x : Str} {v : Value} (h : keyIs (Sum.inr x : Key) v = true) : ∃ t, v = .str x t := by
  rcases keyIs_shape h with ⟨i, t, e, rfl⟩ | ⟨y, t, e, rfl⟩
  · cases e
  · cases e
    exact ⟨t, rfl⟩
theorem ent_at {P : Program} {w : World} : ∀ {l : List DictEntry} {vs : List (Key × Value)} {ks : List (Str × Str)}, Pairs (mixKind P w) l vs → KV (ks.map entS) vs → Paired (fun (e : DictEntry) (k : Str × Str) => (∃ t, e.key = .str k.1 t) ∧ ∃ u, e.val = .str k.2 u) l ks
  | [], _, ks, .nil, kv => by
    cases ks with
    | nil => exact .nil
    | cons k r => cases kv
  | e :: l, _, ks, .cons h1 h2 h3, kv => by
    cases ks with
    | nil => cases kv
    | cons k r =>
      cases kv with
      | cons g1 g2 =>
        refine .cons ⟨?_, ?_⟩ (ent_at h3 g2)
        · obtain ⟨g3, g4⟩ := g1
          rw [← g3] at h1
          exact key_txt h1
        · rw [h2]
          exact g1.2
def adr : Value → Addr
  | .ref a => a
  | _ => 0
theorem cr_sortedTx (clC : X.calm = true) : CallR X (.builtin "sorted") rSortTx := by
  intro pn s σ H xs args Q I r h
  obtain ⟨p, a, ks, rfl, txP, atA, h64, q⟩ := h
  obtain rfl := Vals.ref1 r
  have vw : s.heap.IsItemsView p a := (show ObjOk X.prog X.w H s.heap p (itemsO p a) from I.hok p _ txP).1
  obtain ⟨szT, dtD, vs, kv, o, es, ep, obO, atI0, hdat, hKo, hPs, hn⟩ := (show ObjOk X.prog X.w H s.heap a (.dK (ks.map entS)) from I.hok a _ atA)
  have ents := ent_at hPs kv
  have l0 : es.size = ks.length := by rw [← Array.length_toList]; exact paired_len ents
  have noH : X.A.handled = none := I.ok.hd clC
  refine DT.sortedI (es := es) (ep := ep) noH vw ⟨o, obO, atI0, hdat⟩ (by rw [sizeLine_eq]; omega) fun h' tkn adrs kpT ltN lnT mdG => ?_
  have lenA : adrs.length = ks.length := by omega
  have nodupA : adrs.Nodup := List.Pairwise.imp (fun h => Nat.ne_of_lt h) mdG.rise
  have prs : ∀ (j : Nat) (b : Addr), adrs[j]? = some b → ∃ (e : Str × Str) (t u : Tok), ks[j]? = some e ∧ h'.get? b = some { cls := .type "tuple", data := .seq #[Value.str e.1 t, Value.str e.2 u] } := by
    intro j b atJ
    obtain ⟨en', hEn, gW⟩ := mdG.pairs j b atJ
    rw [← Array.getElem?_toList] at hEn
    obtain ⟨e, q1, ⟨t, q2⟩, ⟨u, q3⟩⟩ := paired_at ents hEn
    exact ⟨e, t, u, q1, by rw [gW, q2, q3]⟩
  have atL : (h'.push { cls := .type "list", data := .seq (adrs.map Value.ref).toArray }).get? h'.objs.size = some (seqObj "list" (adrs.map Value.ref).toArray 0) := Heap.get?_push_size _ rfl
  have kpS : ∀ b o, s.heap.get? b = some o → (h'.push { cls := .type "list", data := .seq (adrs.map Value.ref).toArray }).get? b = some o := fun b o e => Heap.get?_push_of_some _ (kpT b o e)
  have neL : ∀ b o, h'.get? b = some o → b ≠ h'.objs.size := fun b o e => Nat.ne_of_lt (Heap.lt_size e)
  generalize hh2 : h'.push { cls := .type "list", data := .seq (adrs.map Value.ref).toArray } = h2 at atL kpS ⊢
  have kpM : ∀ b o, h'.get? b = some o → h2.get? b = some o := fun b o e => by rw [← hh2]; exact Heap.get?_push_of_some _ e
  have pin : ∀ (j : Nat) (b : Addr) (e : Str × Str), adrs[j]? = some b → ks[j]? = some e → SrtT.IsTx h2 (.ref b) e.1 e.2 := by
    intro j b e atJ hEn
    obtain ⟨e', t, u, he', gW⟩ := prs j b atJ
    cases he'.symm.trans hEn
    exact ⟨b, _, t, u, 0, rfl, kpM _ _ gW, rfl, rfl⟩
  have allTx : ∀ v ∈ adrs.map Value.ref, SrtT.IsTx h2 v (SrtT.txOf h2 v).1 (SrtT.txOf h2 v).2 := by
    intro v hv'
    obtain ⟨b, hb, rfl⟩ := List.mem_map.mp hv'
    obtain ⟨j, atJ⟩ := List.mem_iff_getElem?.mp hb
    obtain ⟨e, t, u, hEn, _⟩ := prs j b atJ
    have := pin j b e atJ hEn
    rw [this.tx]
    exact this
  have mapTx : (adrs.map Value.ref).map (SrtT.txOf h2) = ks := by
    refine List.ext_getElem? fun j => ?_
    rw [List.getElem?_map, List.getElem?_map]
    cases atJ : adrs[j]? with
    | none =>
      have := List.getElem?_eq_none_iff.mp atJ
      rw [List.getElem?_eq_none (by omega)]
      rfl
    | some b =>
      obtain ⟨e, t, u, hEn, _⟩ := prs j b atJ
      rw [hEn]
      show some (SrtT.txOf h2 (.ref b)) = some e
      rw [(pin j b e atJ hEn).tx]
  refine wpAny_call_entry PyProof.Rows.slot_list_sort ⟨_, atL, rfl⟩ PyProof.Rows.entry_list_sort
    (SrtO.list_sort_ord (s := { s with heap := h2, toks := tkn }) (SrtT.swoT (SrtT.txOf h2)) atL (by rw [List.length_map, sizeLine_eq]; omega) (fun h2' => SrtT.tx_sortable (by omega) allTx fun o e => ?_) fun out o1 o2 => ⟨.none, rfl, ?_⟩) (PyProof.Rows.args_list_sort _)
  · have e : h2.get? h'.objs.size = some o := e
    rw [atL] at e
    cases e
    intro c
    exact absurd (Value.type.inj c) (by decide)
  · show EP X pn σ Q (.ref h'.objs.size) { s with heap := sortedHeap h2 h'.objs.size (adrs.map Value.ref) out.toArray, toks := tkn }
    have hrf : ∀ v ∈ out, v = .ref (adr v) := fun v inV => by
      obtain ⟨b, _, rfl⟩ := List.mem_map.mp (o2.perm.mem_iff.mp inV)
      rfl
    have kpF : ∀ b o, b ≠ h'.objs.size → h2.get? b = some o → (sortedHeap h2 h'.objs.size (adrs.map Value.ref) out.toArray).get? b = some o := fun b o hb e => (PyProof.Rows.sortedHeap_old hb (Heap.lt_size e)).trans e
    have kpAll : ∀ b o, s.heap.get? b = some o → (sortedHeap h2 h'.objs.size (adrs.map Value.ref) out.toArray).get? b = some o := fun b o e => kpF b o (neL _ _ (kpT b o e)) (kpS b o e)
    obtain ⟨sdF, atF⟩ := PyProof.Rows.sortedHeap_at (vs := adrs.map Value.ref) (out := out.toArray) atL
    have I1 : Inv X pn σ H { s with heap := sortedHeap h2 h'.objs.size (adrs.map Value.ref) out.toArray, toks := tkn } := I.kept (t' := tkn) kpAll
    have noL : H h'.objs.size = none := I.hok.fresh (Nat.le_of_lt ltN)
    have prm : ((out.map fun v => (adr v, SrtT.txOf h2 v)).map (·.2)).Perm ks := by
      have e := o2.perm.map (SrtT.txOf h2)
      rw [mapTx] at e
      rw [List.map_map]
      exact e
    have srtd0 : ((out.map fun v => (adr v, SrtT.txOf h2 v)).map (·.2)).Pairwise (fun e f => SrtT.lexT f e = false) := by
      rw [List.map_map, List.pairwise_map]
      exact o1
    have len0 : ((out.map fun v => (adr v, SrtT.txOf h2 v)).map fun z => V.ref z.1).length ≤ sizeLine := by
      have e := prm.length_eq
      rw [List.length_map] at e
      rw [List.length_map, sizeLine_eq]
      omega
    have rel : ∀ l : List Value, (∀ v ∈ l, v = .ref (adr v)) → Vals ((l.map fun v => (adr v, SrtT.txOf h2 v)).map fun z => V.ref z.1) l := by
      intro l
      induction l with
      | nil => intro _; exact .nil
      | cons v l ih =>
        intro inV
        refine .cons ?_ (ih fun u getU => inV u (List.mem_cons_of_mem _ getU))
        have := inV v (List.mem_cons_self ..)
        exact this
    have I2 : Inv X pn σ (upd H h'.objs.size (.lst ((out.map fun v => (adr v, SrtT.txOf h2 v)).map fun z => V.ref z.1))) { s with heap := sortedHeap h2 h'.objs.size (adrs.map Value.ref) out.toArray, toks := tkn } :=
      I1.take (h' := sortedHeap h2 h'.objs.size (adrs.map Value.ref) out.toArray) (t' := tkn) (fun b ob _ e => e) (I.fpOk (Nat.le_of_lt ltN) noL) ⟨len0, out, sdF, rel out hrf, atF⟩
    obtain ⟨H2, I3, g, tps⟩ := takeT (P := fun b vs => ∃ (j : Nat) (e : Str × Str), adrs[j]? = some b ∧ ks[j]? = some e ∧ vs = [.str e.1, .str e.2]) I adrs _ I2 nodupA fun b hb => by
      obtain ⟨j, atJ⟩ := List.mem_iff_getElem?.mp hb
      obtain ⟨e, t, u, hEn, gW⟩ := prs j b atJ
      have geB : s.heap.objs.size ≤ b := Nat.le_of_lt (mdG.above b hb)
      refine ⟨geB, ?_, [.str e.1, .str e.2], ⟨j, e, atJ, hEn, rfl⟩, fun H3 => ⟨(by rw [sizeLine_eq]; show 2 ≤ 16777216; omega), [Value.str e.1 t, Value.str e.2 u], .cons ⟨t, rfl⟩ (.cons ⟨u, rfl⟩ .nil), ⟨_, kpF _ _ (neL _ _ gW) (kpM _ _ gW), rfl, 0, rfl⟩⟩⟩
      rw [upd_ne (neL _ _ gW)]
      exact I.hok.fresh geB
    have grow : ∀ b o, H b = some o → H2 b = some o := fun b o e => g b o (by rw [upd_ne (ne_of_none e noL)]; exact e)
    refine ⟨.ref h'.objs.size, H2, I3, rfl, q H2 h'.objs.size _ grow prm srtd0 noL (g _ _ upd_same) fun z' hz' => ?_⟩
    obtain ⟨v, inV, rfl⟩ := List.mem_map.mp hz'
    obtain ⟨b, hb, e⟩ := List.mem_map.mp (o2.perm.mem_iff.mp inV)
    subst e
    obtain ⟨vs', ⟨j, e, j1, j2, ev⟩, hH⟩ := tps b hb
    show H2 b = some (.tup [.str (SrtT.txOf h2 (.ref b)).1, .str (SrtT.txOf h2 (.ref b)).2])
    rw [(pin j b e j1 j2).tx, hH, ev]
end
end Say
namespace Say
open PySem PySem.Spec PyProof.Rows L2
/-! ### the exceptions of a dict -/
def ent (e : Exc) : Key × V := (Sum.inr (T e.1), V.str (T e.2))
def putE (es : List Exc) (wd so : List Nat) : List Exc := if (es.any fun e => decide (e.1 = wd)) = true then es.map (fun e => if e.1 = wd then (e.1, so) else e) else es ++ [(wd, so)]
theorem key_eq {a b : List Nat} : ((Sum.inr (T a) : Key) = Sum.inr (T b)) ↔ a = b := ⟨fun h => T_inj (Sum.inr.inj h), fun h => by rw [h]⟩
theorem any_ent (wd : List Nat) : ∀ es : List Exc, ((es.map ent).any fun kv => decide (kv.1 = (Sum.inr (T wd) : Key))) = es.any fun e => decide (e.1 = wd)
  | [] => rfl
  | e :: r => by
    rw [List.map_cons, List.any_cons, List.any_cons, any_ent wd r]
    congr 1
    exact decide_eq_decide.mpr key_eq
theorem put_ent (es : List Exc) (wd so : List Nat) : putK (es.map ent) (Sum.inr (T wd) : Key) (V.str (T so)) = (putE es wd so).map ent := by
  unfold putK putE
  rw [any_ent]
  by_cases c : (es.any fun e => decide (e.1 = wd)) = true
  · rw [if_pos c, if_pos c, List.map_map, List.map_map]
    refine List.map_congr_left fun e _ => ?_
    show (if (ent e).1 = (Sum.inr (T wd) : Key) then ((ent e).1, V.str (T so)) else ent e) = ent (if e.1 = wd then (e.1, so) else e)
    by_cases h : e.1 = wd
    · rw [if_pos h, if_pos (show (ent e).1 = (Sum.inr (T wd) : Key) from key_eq.mpr h)]
      rfl
    · rw [if_neg h, if_neg (show ¬ (ent e).1 = (Sum.inr (T wd) : Key) from fun z => h (key_eq.mp z))]
  · rw [if_neg c, if_neg c, List.map_append]
    rfl
theorem putE_len (es : List Exc) (wd so : List Nat) : (putE es wd so).length ≤ es.length + 1 := by
  unfold putE
  split
  · rw [List.length_map]; omega
  · rw [List.length_append]; exact Nat.le_refl _
theorem putE_ok {L : List Nat} {es : List Exc} {wd so : List Nat} (h : ∀ e ∈ es, ExcOk L e) (h1 : ExcOk L (wd, so)) : ∀ e ∈ putE es wd so, ExcOk L e := by
  intro e he
  unfold putE at he
  split at he
  · obtain ⟨e', he', rfl⟩ := List.mem_map.mp he
    by_cases c : e'.1 = wd
    · rw [if_pos c, c]
      exact h1
    · rw [if_neg c]
      exact h e' he'
  · rcases List.mem_append.mp he with he | he
    · exact h e he
    · rw [List.mem_singleton.mp he]
      exact h1
theorem putE_nd {es : List Exc} {wd so : List Nat} (h : (es.map (·.1)).Nodup) : ((putE es wd so).map (·.1)).Nodup := by
  unfold putE
  split
  · rename_i c
    rw [List.map_map]
    have : es.map ((·.1) ∘ fun e : Exc => if e.1 = wd then (e.1, so) else e) = es.map (·.1) := List.map_congr_left fun e _ => by
      show (if e.1 = wd then (e.1, so) else e).1 = e.1
      split <;> rfl
    rw [this]
    exact h
  · rename_i c
    rw [List.map_append]
    refine List.nodup_append.mpr ⟨h, by simp, fun a ha b hb => ?_⟩
    intro z
    refine c (List.any_eq_true.mpr ?_)
    obtain ⟨e, he, rfl⟩ := List.mem_map.mp ha
    have hb : b = wd := by simpa using hb
    exact ⟨e, he, decide_eq_true (by rw [← hb]; exact z)⟩
/-- by its word there is one exception at most -/
theorem one_of {es : List Exc} (h : (es.map (·.1)).Nodup) {e f : Exc} (he : e ∈ es) (hf : f ∈ es) (hw : e.1 = f.1) : e = f := by
  obtain ⟨i, hi⟩ := List.mem_iff_getElem?.mp he
  obtain ⟨j, hj⟩ := List.mem_iff_getElem?.mp hf
  have e1 : (es.map (·.1))[i]? = some e.1 := by rw [List.getElem?_map, hi]; rfl
  have e2 : (es.map (·.1))[j]? = some e.1 := by rw [List.getElem?_map, hj, hw]; rfl
  have := nd_ix h e1 e2
  subst this
  exact Option.some.inj (hi.symm.trans hj)
theorem valV_ent {es : List Exc} (h : (es.map (·.1)).Nodup) {e : Exc} (he : e ∈ es) : valV (es.map ent) (Sum.inr (T e.1) : Key) = some (V.str (T e.2)) := by
  unfold valV
  cases hf : (es.map ent).find? fun kv => decide (kv.1 = (Sum.inr (T e.1) : Key)) with
  | none =>
    have := List.find?_eq_none.mp hf (ent e) (List.mem_map.mpr ⟨e, he, rfl⟩)
    exact absurd (decide_eq_true rfl) this
  | some kv =>
    have h1 := List.find?_some hf
    obtain ⟨f, hfm, rfl⟩ := List.mem_map.mp (List.mem_of_find?_eq_some hf)
    have h2 : f.1 = e.1 := key_eq.mp (of_decide_eq_true h1)
    rw [one_of h hfm he h2]
    rfl
theorem find_ent {es : List Exc} (h : (es.map (·.1)).Nodup) {e : Exc} (he : e ∈ es) : es.find? (fun f => decide (f.1 = e.1)) = some e := by
  cases hf : es.find? fun f => decide (f.1 = e.1) with
  | none => exact absurd (decide_eq_true rfl) (List.find?_eq_none.mp hf e he)
  | some f => rw [one_of h (List.mem_of_find?_eq_some hf) he (of_decide_eq_true (List.find?_some (p := fun f : Exc => decide (f.1 = e.1)) hf))]
/-! ### sorted -/
theorem uniq_sorted {α : Type} {r : α → α → Prop} (as : ∀ a b, r a b → ¬ r b a) : ∀ {l m : List α}, l.Perm m → l.Pairwise r → m.Pairwise r → l = m
  | [], m, p, _, _ => (List.Perm.eq_nil p.symm).symm
  | a :: l, [], p, _, _ => absurd p.length_eq (by simp)
  | a :: l, b :: m, p, h1, h2 => by
    have ha := p.mem_iff.mp (List.mem_cons_self (a := a) (l := l))
    have hb := p.mem_iff.mpr (List.mem_cons_self (a := b) (l := m))
    have e : a = b := by
      rcases List.mem_cons.mp ha with e | ha
      · exact e
      · rcases List.mem_cons.mp hb with e | hb
        · exact e.symm
        · exact absurd ((List.pairwise_cons.mp h1).1 b hb) (as _ _ ((List.pairwise_cons.mp h2).1 a ha))
    subst e
    rw [uniq_sorted as p.cons_inv (List.pairwise_cons.mp h1).2 (List.pairwise_cons.mp h2).2]
theorem lt_asym (a b : List Nat) (h : a < b) : ¬ b < a := List.lt_asymm h
theorem le_of_ltCps {a b : List Nat} (h : ltCps b a = false) : a ≤ b := by
  rw [ltCps_eq] at h
  exact List.not_lt.mp (of_decide_eq_false h)
theorem rising_pw : ∀ (l : List Str) (p : Str), risingS p l = true → (p :: l).Pairwise fun a b => a.cps.toList ≤ b.cps.toList
  | [], p, _ => List.pairwise_singleton _ _
  | x :: r, p, h => by
    have h : (!ltCps x.cps.toList p.cps.toList && risingS x r) = true := h
    rw [Bool.and_eq_true] at h
    have ih := rising_pw r x h.2
    have px : p.cps.toList ≤ x.cps.toList := le_of_ltCps (by simpa using h.1)
    refine List.pairwise_cons.mpr ⟨fun y hy => ?_, ih⟩
    rcases List.mem_cons.mp hy with rfl | hy
    · exact px
    · exact List.le_trans px ((List.pairwise_cons.mp ih).1 y hy)
theorem sortedS_pw : ∀ {l : List Str}, sortedS l = true → l.Pairwise fun a b => a.cps.toList ≤ b.cps.toList
  | [], _ => .nil
  | x :: r, h => rising_pw r x h
def wordsS (es : List Exc) : List Str := es.map fun e => T e.1
theorem strict_words {es : List Exc} (up : es.Pairwise fun e f => e.1 < f.1) : (wordsS es).Pairwise fun a b => a.cps.toList < b.cps.toList := by
  unfold wordsS
  rw [List.pairwise_map]
  exact up
theorem strict_of {l : List Str} (h : l.Pairwise fun a b => a.cps.toList ≤ b.cps.toList) (nd : l.Nodup) : l.Pairwise fun a b => a.cps.toList < b.cps.toList := by
  refine List.Pairwise.imp_of_mem (fun {a b} _ _ h => ?_) (List.Pairwise.and h nd)
  obtain ⟨h1, h2⟩ := h
  refine Decidable.byContradiction fun n => h2 (TL.ext_tl (List.le_antisymm h1 (List.not_lt.mp n)))
theorem nd_strict {l : List Str} (h : l.Pairwise fun a b => a.cps.toList < b.cps.toList) : l.Nodup := by
  refine List.Pairwise.imp (fun {a b} h => ?_) h
  intro z
  rw [z] at h
  exact List.lt_irrefl _ h
theorem sorted_keys {es es' : List Exc} {ys : List Str} (hp : es'.Perm es) (up : es'.Pairwise fun e f => e.1 < f.1) (hy : ys.Perm (wordsS es)) (hs : sortedS ys = true) : ys = wordsS es' := by
  have s' := strict_words up
  have p2 : ys.Perm (wordsS es') := hy.trans (hp.symm.map fun e : Exc => T e.1)
  exact uniq_sorted (r := fun a b : Str => a.cps.toList < b.cps.toList) (fun a b h => lt_asym _ _ h) p2 (strict_of (sortedS_pw hs) (p2.nodup_iff.mpr (nd_strict s'))) s'
def tt (e : Exc) : Str × Str := (T e.1, T e.2)
def bk (z : Str × Str) : Exc := (z.1.cps.toList, z.2.cps.toList)
theorem tt_bk (z : Str × Str) : tt (bk z) = z := by
  show (T z.1.cps.toList, T z.2.cps.toList) = z
  rw [T_list, T_list]
theorem bk_tt (e : Exc) : bk (tt e) = e := rfl
theorem sort_exc {es : List Exc} (nd : (es.map (·.1)).Nodup) {qs : List (Str × Str)} (hp : qs.Perm (es.map tt)) (hs : qs.Pairwise fun e f => SrtT.lexT f e = false) :
    qs = (qs.map bk).map tt ∧ (qs.map bk).Perm es ∧ (qs.map bk).Pairwise fun e f => e.1 < f.1 := by
  have e1 : qs = (qs.map bk).map tt := by
    rw [List.map_map]
    conv => lhs; rw [← List.map_id qs]
    exact List.map_congr_left fun z _ => (tt_bk z).symm
  have e2 : (qs.map bk).Perm es := by
    have := hp.map bk
    rw [List.map_map] at this
    have e3 : es.map (bk ∘ tt) = es := by
      conv => rhs; rw [← List.map_id es]
      exact List.map_congr_left fun e _ => rfl
    rwa [e3] at this
  refine ⟨e1, e2, ?_⟩
  have nd2 : ((qs.map bk).map (·.1)).Nodup := (e2.map (·.1)).nodup_iff.mpr nd
  rw [List.pairwise_map]
  have nd3 : qs.Pairwise fun a b => ¬ (bk a).1 = (bk b).1 := by
    have : ((qs.map bk).map (·.1)).Pairwise (· ≠ ·) := nd2
    rw [List.pairwise_map, List.pairwise_map] at this
    exact this
  refine List.Pairwise.imp_of_mem (fun {a b} _ _ h => ?_) (List.Pairwise.and hs nd3)
  obtain ⟨h1, h2⟩ := h
  rcases SrtT.lexT_no.mp h1 with q | ⟨q, _⟩
  · exact q
  · exact absurd (congrArg (fun z : Str => z.cps.toList) q.symm) h2
end Say
namespace Say
open PySem PySem.Spec PyProof.Rows L2
theorem paired_map {α β γ : Type} {F : α → β → Prop} {f : γ → α} {g : γ → β} : ∀ {l : List γ}, (∀ z ∈ l, F (f z) (g z)) → Paired F (l.map f) (l.map g)
  | [], _ => .nil
  | z :: l, h => .cons (h z (List.mem_cons_self ..)) (paired_map fun y hy => h y (List.mem_cons_of_mem _ hy))
theorem strOk_T {l : List Nat} (h : ∀ c ∈ l, c < 1114112) : PyData.strOk (T l) = true := by
  show l.toArray.all (· < 0x110000) = true
  rw [List.all_toArray, List.all_eq_true]
  intro c hc
  exact decide_eq_true (h c hc)
theorem shaped_two {x y : PyData} (hx : x.canLay0 = true) (hy : y.canLay0 = true) (dx : x.depth = 0) (dy : y.depth = 0) : SeqAt.shaped (.tuple [x, y]) = true := by
  unfold SeqAt.shaped
  rw [Bool.and_eq_true]
  refine ⟨?_, ?_⟩
  · show PyData.canLayAll0 [x, y] = true
    simp [PyData.canLayAll0, hx, hy]
  · refine decide_eq_true ?_
    show PyData.depthAll [x, y] + 1 ≤ 64
    simp [PyData.depthAll, dx, dy]
/-- the row stays where all but a dict does -/
theorem RowAt.stpD {K : PySem.W.Frag} {H H' : Hp} {r a F : Addr} {ns : List Int} {kvs : List (Key × V)} (R : RowAt K H r a ns) (hF : H F = some (.dK kvs)) (e : Stp F H H') : RowAt K H' r a ns := by
  obtain ⟨⟨i', c', m', q', b'⟩, sc, le⟩ := R
  refine ⟨⟨i', c', m', e _ _ q' (ne_of q' hF (by intro z; cases z)), b'⟩, ?_, le⟩
  rcases sc with (sc | ⟨o, sc⟩) | sc
  · exact .inl (.inl (e _ _ sc (ne_of sc hF (by intro z; cases z))))
  · exact .inl (.inr ⟨o, e _ _ sc (ne_of sc hF (by intro z; cases z))⟩)
  · exact .inr sc
end Say
namespace Say
open PySem PySem.Spec PyProof.Rows L2
/-! ### what desks refuse -/
/-- what the top says of a refusal without fields -/
structure RaQ (K : PySem.W.Frag) (mg : Str → Option Value) (x : Str) (C : Addr) : Prop where
  ex : PySem.W.excIn K C [.type "ValueError", .type "Exception", .type "BaseException", .type "object"] "ValueError.__new__" = true
  g : mg x = some (.ref C)
  k : PySem.W.keepIn K (.ref C) = true
  b : PySem.W.subIn K (.ref C) (.type "BaseException") = some true
  t : PySem.W.typeIn K (.ref C) = some (.type "type")
def NumV (v : V) : Prop := v = .non ∨ (∃ i, v = .int i) ∨ (∃ b, v = .bl b) ∨ ∃ z, v = .str z
def cntV : V → Int → Bool
  | .int i, m => decide (0 ≤ i) && decide (i ≤ m)
  | _, _ => false
theorem cntV_int {v : V} {m : Int} (h : cntV v m = true) : ∃ p : Int, v = .int p ∧ 0 ≤ p ∧ p ≤ m := by
  cases v with
  | int i =>
    unfold cntV at h
    rw [Bool.and_eq_true, decide_eq_true_eq, decide_eq_true_eq] at h
    exact ⟨i, rfl, h.1, h.2⟩
  | _ => cases h
section
variable {P : Program} {w : World} {K : PySem.W.Frag} {mg : Str → Option Value} {base : Heap}
abbrev sCnq : Stmt := topS 44
theorem scCnq : FnScope ["number", "most"] ["number", "most"] (defScope sCnq) := ⟨rfl, rfl, rfl, by decide +kernel, rfl, by decide +kernel, by decide +kernel⟩
def spCnV : Sp := fun vs H Q _ => ∃ (v : V) (m : Int), vs = [v, .int m] ∧ NumV v ∧ Q (.bl (cntV v m)) H
theorem ok_cnV {f : Addr} {fd : FuncData} (F : Fun K "is_count" "is_count" sCnq f fd) (B : Bn mg) (hi : mg "int" = none) : FnOk P w K mg base CX0 1 f fd ["number", "most"] spCnV := by
  refine F.ok scCnq (fun vs H Q E h => ?_) (fun cdv A outer s H vs Q E hr h => ?_)
  · obtain ⟨v, m, rfl, _⟩ := h
    rfl
  · obtain ⟨v, m, rfl, hv, q⟩ := h
    refine ⟨_, pss_cons (ps_if (PW.pt (pw_or (pt_not (pt_val (pe_callB call_isi (by rfl) B.isi (by decide +kernel) (pa_cons (pv 0) (pa_cons (pe_bltn (v := .ty "int") rfl hi (by decide +kernel) rfl) pa_nil)))))
        (pw_or1 (pt_val (pe_callB call_isi (by rfl) B.isi (by decide +kernel) (pa_cons (pv 0) (pa_cons (pe_bltn (v := .ty "bool") rfl B.bool (by decide +kernel) rfl) pa_nil)))))))
        (pss_one (ps_ret pe_bl)) pss_nil)
      (pss_one (ps_ret (pe_chain op_le op_le pe_int (pv 0) (pv 1)))), ?_⟩
    rcases hv with rfl | ⟨i, rfl⟩ | ⟨b, rfl⟩ | ⟨z, rfl⟩
    · exact ⟨_, rfl, _, _, .type _, _, false, rfl, ClsV.ty _, .base .non, kit_ty (by decide +kernel), false, rfl, iteT q⟩
    · refine ⟨_, rfl, _, _, .type "int", _, true, rfl, ClsV.ty _, .base (.int _), kit_ty (by decide +kernel), true, rfl, iteF ?_⟩
      refine ⟨_, rfl, _, _, .type "int", _, false, rfl, ClsV.ty _, .base (.int _), kit_ty (by decide +kernel), false, rfl, iteF ?_⟩
      have q : Q (V.bl (decide (0 ≤ i) && decide (i ≤ m))) H := q
      refine ⟨_, rfl, _, _, rfl, rfl, decide ((0 : Int) ≤ i), rfl, ?_⟩
      cases c : decide ((0 : Int) ≤ i) with
      | false => rw [c] at q; exact iteF q
      | true => rw [c] at q; exact iteT ⟨_, rfl, _, _, rfl, rfl, q⟩
    · refine ⟨_, rfl, _, _, .type "bool", _, true, rfl, ClsV.ty _, .base (.bl _), kit_ty (by decide +kernel), true, rfl, iteF ?_⟩
      exact ⟨_, rfl, _, _, .type "bool", _, true, rfl, ClsV.ty _, .base (.bl _), kit_ty (by decide +kernel), true, rfl, iteT q⟩
    · exact ⟨_, rfl, _, _, .type "str", _, false, rfl, ClsV.ty _, .base (.str _), kit_ty (by decide +kernel), false, rfl, iteT q⟩
abbrev sCp : Stmt := topS 84
theorem scCp : FnScope ["place", "most"] ["place", "most"] (defScope sCp) := ⟨rfl, rfl, rfl, by decide +kernel, rfl, by decide +kernel, by decide +kernel⟩
def spCp (CC : Addr) : Sp := fun vs H Q E => ∃ (v : V) (m : Int), vs = [v, .int m] ∧ NumV v ∧ (cntV v m = true → Q .non H) ∧ (cntV v m = false → E (.ref CC) none H)
theorem ok_cp {f CC : Addr} {fd : FuncData} (F : Fun K "check_place" "check_place" sCp f fd) (R : RaQ K mg "BadCount" CC) (D : Df P w K mg base "is_count" ["number", "most"] 1 spCnV) : FnOk P w K mg base (L2.CX P w) 2 f fd ["place", "most"] (spCp CC) := by
  obtain ⟨fT, fdT, GT, kT, bT, mT⟩ := D
  refine F.okX scCp (fun vs H Q E h => ?_) (fun cdv A outer s H vs Q E hr h => ?_)
  · obtain ⟨v, m, rfl, _⟩ := h
    rfl
  · obtain ⟨v, m, rfl, hv, q1, q2⟩ := h
    refine ⟨_, pss_one (ps_if (pt_not (pt_val (pe_call GT hr (by rfl) mT kT bT .nil pass0 (pa_cons (pv 0) (pa_cons (pv 1) pa_nil))))) (pss_one (ps_raise rfl (takes_of rfl rfl rfl rfl) (pmk_own PySem.F.excBase_ValueError R.ex R.g R.k (raises_own R.b R.t) rfl))) pss_nil), ?_⟩
    refine ⟨_, rfl, _, rfl, v, m, rfl, hv, _, rfl, ?_⟩
    cases c : cntV v m with
    | true => exact iteF (q1 c)
    | false => exact iteT (q2 c)
abbrev sCx : Stmt := topS 35
theorem scCx : FnScope ["letters", "word"] ["letters", "word"] (defScope sCx) := ⟨rfl, rfl, rfl, by decide +kernel, rfl, by decide +kernel, by decide +kernel⟩
def spCx (K : PySem.W.Frag) (CW : Addr) : Sp := fun vs H Q E => ∃ (L : List Nat) (v : V), vs = [.str (T L), v] ∧ VOk K H v ∧ (txV v L 1 8 = true → ∀ H', Same H H' → Q .non H') ∧ (txV v L 1 8 = false → ∀ H', Same H H' → E (.ref CW) none H')
theorem ok_cx {f CW : Addr} {fd : FuncData} (F : Fun K "check_excepted" "check_excepted" sCx f fd) (R : RaQ K mg "BadWord" CW) (D : Df P w K mg base "is_excepted" ["letters", "word"] 2 (spExdV K)) : FnOk P w K mg base (L2.CX P w) 3 f fd ["letters", "word"] (spCx K CW) := by
  obtain ⟨fT, fdT, GT, kT, bT, mT⟩ := D
  refine F.okX scCx (fun vs H Q E h => ?_) (fun cdv A outer s H vs Q E hr h => ?_)
  · obtain ⟨L, v, rfl, _⟩ := h
    rfl
  · obtain ⟨L, v, rfl, hv, q1, q2⟩ := h
    refine ⟨_, pss_one (ps_if (pt_not (pt_val (pe_call GT hr (by rfl) mT kT bT .nil pass0 (pa_cons (pv 0) (pa_cons (pv 1) pa_nil))))) (pss_one (ps_raise rfl (takes_of rfl rfl rfl rfl) (pmk_own PySem.F.excBase_ValueError R.ex R.g R.k (raises_own R.b R.t) rfl))) pss_nil), ?_⟩
    refine ⟨_, rfl, _, rfl, L, v, rfl, hv, fun H1 s1 => ⟨_, rfl, ?_⟩⟩
    cases c : txV v L 1 8 with
    | true => exact iteF (q1 c H1 s1)
    | false => exact iteT (q2 c H1 s1)
abbrev sCs : Stmt := topS 36
theorem scCs : FnScope ["sounds"] ["sounds"] (defScope sCs) := ⟨rfl, rfl, rfl, by decide +kernel, rfl, by decide +kernel, by decide +kernel⟩
def spCs (K : PySem.W.Frag) (CS : Addr) : Sp := fun vs H Q E => ∃ (v : V), vs = [v] ∧ VOk K H v ∧ (txV v capsL 0 36 = true → ∀ H', Same H H' → Q .non H') ∧ (txV v capsL 0 36 = false → ∀ H', Same H H' → E (.ref CS) none H')
theorem ok_cs {f CS : Addr} {fd : FuncData} (F : Fun K "check_sounds" "check_sounds" sCs f fd) (R : RaQ K mg "BadSounds" CS) (D : Df P w K mg base "is_sounds" ["sounds"] 2 (spSoV K)) : FnOk P w K mg base (L2.CX P w) 3 f fd ["sounds"] (spCs K CS) := by
  obtain ⟨fT, fdT, GT, kT, bT, mT⟩ := D
  refine F.okX scCs (fun vs H Q E h => ?_) (fun cdv A outer s H vs Q E hr h => ?_)
  · obtain ⟨v, rfl, _⟩ := h
    rfl
  · obtain ⟨v, rfl, hv, q1, q2⟩ := h
    refine ⟨_, pss_one (ps_if (pt_not (pt_val (pe_call GT hr (by rfl) mT kT bT .nil pass0 (pa_cons (pv 0) pa_nil)))) (pss_one (ps_raise rfl (takes_of rfl rfl rfl rfl) (pmk_own PySem.F.excBase_ValueError R.ex R.g R.k (raises_own R.b R.t) rfl))) pss_nil), ?_⟩
    refine ⟨_, rfl, v, rfl, hv, fun H1 s1 => ⟨_, rfl, ?_⟩⟩
    cases c : txV v capsL 0 36 with
    | true => exact iteF (q1 c H1 s1)
    | false => exact iteT (q2 c H1 s1)
/-! ### the methods -/
abbrev nPu : List Str := ["self", "place", "rule", "letters", "rules", "exceptions"]
theorem scPu : FnScope nPu ["self", "place", "rule"] (defScope (sDk 3)) := ⟨rfl, rfl, rfl, by decide +kernel, rfl, by decide +kernel, by decide +kernel⟩
def spPuR (K : PySem.W.Frag) (C CC CB : Addr) : Sp := fun vs H Q E => ∃ (y b t : Addr) (L : List Nat) (rs : List Rule) (es : List Exc) (ws : List Str) (i : Bool) (v r : V), vs = [.ref y, v, r] ∧ DkAt C H y b t L rs es ws i ∧ BookOk L rs es ∧ NumV v ∧
  (cntV v rs.length = false → ∀ H', Same H H' → E (.ref CC) none H') ∧ (∀ p : Int, v = .int p → cntV v rs.length = true → RulR K H L r false ∧ refB CB H E 1 p)
theorem ok_puR {f C CC CB fI fP : Addr} {fd fdP : FuncData} (F : Fun K "put" "Desk.put" (sDk 3) f fd) (S : DkC K C) (B : Bn mg) (Cs : Cn mg) (cR : KI mg "RULES" 1) (O : PySem.XBadBook.ExTxt P K mg CB fI) (GP : FnOk P w K mg base (L2.CX P w) 2 fP fdP ["place", "most"] (spCp CC)) (kP : PySem.W.keepIn K (.ref fP) = true) (bP : Binds K fdP ["place", "most"] []) (mP : mg "check_place" = some (.ref fP))
    (DI : Df P w K mg base "is_rule" ["letters", "rule"] 3 (spIsRuV K)) : FnOk P w K mg base (L2.CX P w) 4 f fd ["self", "place", "rule"] (spPuR K C CC CB) := by
  obtain ⟨fT, fdT, GT, kT, bT, mT⟩ := DI
  obtain ⟨tR, mR⟩ := cR
  refine F.okX scPu (fun vs H Q E h => ?_) (fun cdv A outer s H vs Q E hr h => ?_)
  · obtain ⟨y, b, t, L, rs, es, ws, i, v, r, rfl, _⟩ := h
    rfl
  · obtain ⟨y, b, t, L, rs, es, ws, i, v, r, rfl, hk, ho, hv, q1, q2⟩ := h
    have tk : Takes _ (fun cls d _ H => E cls d H) := takes_of (X := cxOf (L2.CX P w) P w K mg base nPu "Desk.put" (defScope (sDk 3)) f cdv A outer s H E) rfl rfl rfl rfl
    refine ⟨_, pss_cons (ps_asg (pe_fld (pv 0) rfl) (pg_tup (by rfl) (pgs_cons (pg_name (i := 3) scPu.nd rfl (.inl rfl)) (pgs_cons (pg_name (i := 4) scPu.nd rfl (.inl rfl)) (pgs_cons (pg_name (i := 5) scPu.nd rfl (.inl rfl)) pgs_nil)))))
      (pss_cons (ps_expr (pe_callS GP (hr.mono (by decide)) (by rfl) mP kP bP (fun σ => passAt tk σ) (by exact (pa_cons (pv 1) (pa_cons (pe_callB call_len (by rfl) B.len PySem.boot_len (pa_cons (pv 4) pa_nil)) pa_nil)))))
      (pss_cons (ps_if (PW.pt (pw_or (pt_cmpR op_eq (pe_callB call_len (by rfl) B.len PySem.boot_len (pa_cons (pv 4) pa_nil)) (pe_glob (v := .int 12) rfl Cs.mrul.choose_spec ⟨_, rfl⟩) (nomark _)) (pw_or1 (pt_not (pt_val (pe_call GT hr (by rfl) mT kT bT .nil pass0 (pa_cons (pv 3) (pa_cons (pv 2) pa_nil))))))))
        (pss_one (ps_raiseBadBook rfl O hr tk (by exact (pa_cons (pe_glob (v := .int 1) rfl mR ⟨_, rfl⟩) (pa_cons (pv 1) pa_nil))))) pss_nil)
      (pss_one ps_never))), ?_⟩
    obtain ⟨⟨dx, hy⟩, hB, hto⟩ := id hk
    obtain ⟨R, X, hb, hR, hX⟩ := id hB
    obtain ⟨rts, hRl, hRp⟩ := id hR
    have lr := paired_len hRp
    refine ⟨_, rfl, y, C, dx, _, _, rfl, hy, S.cl, S.nB, d_bk, ?_⟩
    refine ⟨b, _, rfl, .inl (.inl hb), rfl, _, _, rfl, _, _, rfl, _, _, rfl, rfl, ?_⟩
    refine ⟨_, rfl, _, rfl, _, _, rfl, .inr ⟨_, .inl (.inl hRl), rfl⟩, v, _, rfl, hv, fun c => ?_, fun c => ?_⟩
    · rw [List.length_map, lr] at c
      obtain ⟨p, rfl, p0, p1⟩ := cntV_int c
      obtain ⟨hr0, hB0⟩ := q2 p rfl c
      have r12 := ho.r12
      have rais : ∀ (H1 : Hp), Same H H1 → ∃ p_1 n : Int, ([V.int 1, V.int p] : List V) = [V.int p_1, V.int n] ∧ (-1 ≤ p_1 ∧ p_1 ≤ 100) ∧ (-1 ≤ n ∧ n ≤ 100) ∧ ∀ d, H1 d = none → E (.ref CB) (some d) (upd H1 d (.xd [(("number" : Str), .int n), (("part" : Str), .int p_1)])) := fun H1 s1 =>
        ⟨1, p, rfl, ⟨by decide, by decide⟩, ⟨by omega, by omega⟩, fun d hd => hB0 d _ (s1.trans (same_new hd _)) (s1.free hd) upd_same⟩
      refine ⟨_, rfl, _, _, rfl, .inr ⟨_, .inl (.inl hRl), rfl⟩, rfl, _, rfl, ite2 (fun _ => ?_) (fun _ => ?_)⟩
      · exact ⟨_, rfl, rais H (Same.refl H)⟩
      · refine ⟨_, rfl, _, rfl, L, r, false, rfl, by have := ho.lt.l4; omega, hr0, fun H1 s1 => ⟨false, rfl, iteT ?_⟩⟩
        exact ⟨_, rfl, rais H1 s1⟩
    · rw [List.length_map, lr] at c
      exact q1 c H (Same.refl H)
abbrev nDr : List Str := ["self", "place", "letters", "rules", "exceptions"]
theorem scDr : FnScope nDr ["self", "place"] (defScope (sDk 4)) := ⟨rfl, rfl, rfl, by decide +kernel, rfl, by decide +kernel, by decide +kernel⟩
def spDrR (C CC : Addr) : Sp := fun vs H Q E => ∃ (y b t : Addr) (L : List Nat) (rs : List Rule) (es : List Exc) (ws : List Str) (i : Bool) (v : V), vs = [.ref y, v] ∧ DkAt C H y b t L rs es ws i ∧ NumV v ∧ cntV v (rs.length - 1) = false ∧ E (.ref CC) none H
theorem ok_drR {f C CC fP : Addr} {fd fdP : FuncData} (F : Fun K "drop" "Desk.drop" (sDk 4) f fd) (S : DkC K C) (B : Bn mg) (GP : FnOk P w K mg base (L2.CX P w) 2 fP fdP ["place", "most"] (spCp CC)) (kP : PySem.W.keepIn K (.ref fP) = true) (bP : Binds K fdP ["place", "most"] []) (mP : mg "check_place" = some (.ref fP)) :
    FnOk P w K mg base (L2.CX P w) 3 f fd ["self", "place"] (spDrR C CC) := by
  refine F.okX scDr (fun vs H Q E h => ?_) (fun cdv A outer s H vs Q E hr h => ?_)
  · obtain ⟨y, b, t, L, rs, es, ws, i, v, rfl, _⟩ := h
    rfl
  · obtain ⟨y, b, t, L, rs, es, ws, i, v, rfl, hk, hv, hc, q⟩ := h
    have tk : Takes _ (fun cls d _ H => E cls d H) := takes_of (X := cxOf (L2.CX P w) P w K mg base nDr "Desk.drop" (defScope (sDk 4)) f cdv A outer s H E) rfl rfl rfl rfl
    refine ⟨_, pss_cons (ps_asg (pe_fld (pv 0) rfl) (pg_tup (by rfl) (pgs_cons (pg_name (i := 2) scDr.nd rfl (.inl rfl)) (pgs_cons (pg_name (i := 3) scDr.nd rfl (.inl rfl)) (pgs_cons (pg_name (i := 4) scDr.nd rfl (.inl rfl)) pgs_nil)))))
      (pss_cons (ps_expr (pe_callS GP hr (by rfl) mP kP bP (fun σ => passAt tk σ) (by exact (pa_cons (pv 1) (pa_cons (pe_op op_sub (pe_callB call_len (by rfl) B.len PySem.boot_len (pa_cons (pv 3) pa_nil)) pe_int) pa_nil)))))
      (pss_cons ps_never (pss_one ps_never))), ?_⟩
    obtain ⟨⟨dx, hy⟩, hB, hto⟩ := id hk
    obtain ⟨R, X, hb, hR, hX⟩ := id hB
    obtain ⟨rts, hRl, hRp⟩ := id hR
    have lr := paired_len hRp
    refine ⟨_, rfl, y, C, dx, _, _, rfl, hy, S.cl, S.nB, d_bk, ?_⟩
    refine ⟨b, _, rfl, .inl (.inl hb), rfl, _, _, rfl, _, _, rfl, _, _, rfl, rfl, ?_⟩
    refine ⟨_, rfl, _, rfl, _, _, rfl, .inr ⟨_, .inl (.inl hRl), rfl⟩, _, _, rfl, rfl, v, _, rfl, hv, fun c => ?_, fun _ => q⟩
    rw [List.length_map, lr, hc] at c
    cases c
abbrev nMv : List Str := ["self", "place", "other", "letters", "rules", "exceptions"]
theorem scMv : FnScope nMv ["self", "place", "other"] (defScope (sDk 5)) := ⟨rfl, rfl, rfl, by decide +kernel, rfl, by decide +kernel, by decide +kernel⟩
def spMvR (C CC : Addr) : Sp := fun vs H Q E => ∃ (y b t : Addr) (L : List Nat) (rs : List Rule) (es : List Exc) (ws : List Str) (i : Bool) (v u : V), vs = [.ref y, v, u] ∧ DkAt C H y b t L rs es ws i ∧ NumV v ∧ NumV u ∧ (cntV v (rs.length - 1) = false ∨ cntV u (rs.length - 1) = false) ∧ E (.ref CC) none H
theorem ok_mvR {f C CC fP : Addr} {fd fdP : FuncData} (F : Fun K "move" "Desk.move" (sDk 5) f fd) (S : DkC K C) (B : Bn mg) (GP : FnOk P w K mg base (L2.CX P w) 2 fP fdP ["place", "most"] (spCp CC)) (kP : PySem.W.keepIn K (.ref fP) = true) (bP : Binds K fdP ["place", "most"] []) (mP : mg "check_place" = some (.ref fP)) :
    FnOk P w K mg base (L2.CX P w) 3 f fd ["self", "place", "other"] (spMvR C CC) := by
  refine F.okX scMv (fun vs H Q E h => ?_) (fun cdv A outer s H vs Q E hr h => ?_)
  · obtain ⟨y, b, t, L, rs, es, ws, i, v, u, rfl, _⟩ := h
    rfl
  · obtain ⟨y, b, t, L, rs, es, ws, i, v, u, rfl, hk, hv, hu, hc, q⟩ := h
    have tk : Takes _ (fun cls d _ H => E cls d H) := takes_of (X := cxOf (L2.CX P w) P w K mg base nMv "Desk.move" (defScope (sDk 5)) f cdv A outer s H E) rfl rfl rfl rfl
    refine ⟨_, pss_cons (ps_asg (pe_fld (pv 0) rfl) (pg_tup (by rfl) (pgs_cons (pg_name (i := 3) scMv.nd rfl (.inl rfl)) (pgs_cons (pg_name (i := 4) scMv.nd rfl (.inl rfl)) (pgs_cons (pg_name (i := 5) scMv.nd rfl (.inl rfl)) pgs_nil)))))
      (pss_cons (ps_expr (pe_callS GP hr (by rfl) mP kP bP (fun σ => passAt tk σ) (by exact (pa_cons (pv 1) (pa_cons (pe_op op_sub (pe_callB call_len (by rfl) B.len PySem.boot_len (pa_cons (pv 4) pa_nil)) pe_int) pa_nil)))))
      (pss_cons (ps_expr (pe_callS GP hr (by rfl) mP kP bP (fun σ => passAt tk σ) (by exact (pa_cons (pv 2) (pa_cons (pe_op op_sub (pe_callB call_len (by rfl) B.len PySem.boot_len (pa_cons (pv 4) pa_nil)) pe_int) pa_nil)))))
      (pss_one ps_never))), ?_⟩
    obtain ⟨⟨dx, hy⟩, hB, hto⟩ := id hk
    obtain ⟨R, X, hb, hR, hX⟩ := id hB
    obtain ⟨rts, hRl, hRp⟩ := id hR
    have lr := paired_len hRp
    refine ⟨_, rfl, y, C, dx, _, _, rfl, hy, S.cl, S.nB, d_bk, ?_⟩
    refine ⟨b, _, rfl, .inl (.inl hb), rfl, _, _, rfl, _, _, rfl, _, _, rfl, rfl, ?_⟩
    refine ⟨_, rfl, _, rfl, _, _, rfl, .inr ⟨_, .inl (.inl hRl), rfl⟩, _, _, rfl, rfl, v, _, rfl, hv, fun c => ?_, fun _ => q⟩
    rw [List.length_map, lr] at c
    have hc := hc.resolve_left (by rw [c]; exact fun z => by cases z)
    refine ⟨_, rfl, _, rfl, _, _, rfl, .inr ⟨_, .inl (.inl hRl), rfl⟩, _, _, rfl, rfl, u, _, rfl, hu, fun c => ?_, fun _ => q⟩
    rw [List.length_map, lr, hc] at c
    cases c
abbrev nLn : List Str := ["self", "word", "sounds", "letters", "rules", "exceptions", "others"]
theorem scLn : FnScope nLn ["self", "word", "sounds"] (defScope (sDk 6)) := ⟨rfl, rfl, rfl, by decide +kernel, rfl, by decide +kernel, by decide +kernel⟩
def spLnR (K : PySem.W.Frag) (C CW CS : Addr) : Sp := fun vs H Q E => ∃ (y b t : Addr) (L : List Nat) (rs : List Rule) (es : List Exc) (ws : List Str) (i : Bool) (v u : V), vs = [.ref y, v, u] ∧ DkAt C H y b t L rs es ws i ∧ VOk K H v ∧ VOk K H u ∧
  (txV v L 1 8 = false → ∀ H', Same H H' → E (.ref CW) none H') ∧ (txV v L 1 8 = true → txV u capsL 0 36 = false ∧ ∀ H', Same H H' → E (.ref CS) none H')
theorem ok_lnR {f C CW CS fX fS : Addr} {fd fdX fdS : FuncData} (F : Fun K "learn" "Desk.learn" (sDk 6) f fd) (S : DkC K C) (GX : FnOk P w K mg base (L2.CX P w) 3 fX fdX ["letters", "word"] (spCx K CW)) (kX : PySem.W.keepIn K (.ref fX) = true) (bX : Binds K fdX ["letters", "word"] []) (mX : mg "check_excepted" = some (.ref fX))
    (GS : FnOk P w K mg base (L2.CX P w) 3 fS fdS ["sounds"] (spCs K CS)) (kS : PySem.W.keepIn K (.ref fS) = true) (bS : Binds K fdS ["sounds"] []) (mS : mg "check_sounds" = some (.ref fS)) :
    FnOk P w K mg base (L2.CX P w) 4 f fd ["self", "word", "sounds"] (spLnR K C CW CS) := by
  refine F.okX scLn (fun vs H Q E h => ?_) (fun cdv A outer s H vs Q E hr h => ?_)
  · obtain ⟨y, b, t, L, rs, es, ws, i, v, u, rfl, _⟩ := h
    rfl
  · obtain ⟨y, b, t, L, rs, es, ws, i, v, u, rfl, hk, hv, hu, q1, q2⟩ := h
    have tk : Takes _ (fun cls d _ H => E cls d H) := takes_of (X := cxOf (L2.CX P w) P w K mg base nLn "Desk.learn" (defScope (sDk 6)) f cdv A outer s H E) rfl rfl rfl rfl
    refine ⟨_, pss_cons (ps_asg (pe_fld (pv 0) rfl) (pg_tup (by rfl) (pgs_cons (pg_name (i := 3) scLn.nd rfl (.inl rfl)) (pgs_cons (pg_name (i := 4) scLn.nd rfl (.inl rfl)) (pgs_cons (pg_name (i := 5) scLn.nd rfl (.inl rfl)) pgs_nil)))))
      (pss_cons (ps_expr (pe_callS GX hr (by rfl) mX kX bX (fun σ => passAt tk σ) (by exact (pa_cons (pv 3) (pa_cons (pv 1) pa_nil)))))
      (pss_cons (ps_expr (pe_callS GS hr (by rfl) mS kS bS (fun σ => passAt tk σ) (by exact (pa_cons (pv 2) pa_nil))))
      (pss_cons ps_never (pss_cons ps_never (pss_cons ps_never (pss_cons ps_never (pss_one ps_never))))))), ?_⟩
    obtain ⟨⟨dx, hy⟩, hB, hto⟩ := id hk
    obtain ⟨R, X, hb, hR, hX⟩ := id hB
    refine ⟨_, rfl, y, C, dx, _, _, rfl, hy, S.cl, S.nB, d_bk, ?_⟩
    refine ⟨b, _, rfl, .inl (.inl hb), rfl, _, _, rfl, _, _, rfl, _, _, rfl, rfl, ?_⟩
    refine ⟨_, rfl, _, rfl, L, v, rfl, hv, fun c H1 s1 => ?_, fun c H1 s1 => q1 c H1 s1⟩
    obtain ⟨c2, q2⟩ := q2 c
    refine ⟨_, rfl, u, rfl, hu.same s1, fun c => ?_, fun c H2 s2 => q2 H2 (s1.trans s2)⟩
    rw [c2] at c
    cases c
abbrev nFg : List Str := ["self", "word", "letters", "rules", "exceptions", "written", "sounds"]
theorem scFg : FnScope nFg ["self", "word"] (defScope (sDk 7)) := ⟨rfl, rfl, rfl, by decide +kernel, rfl, by decide +kernel, by decide +kernel⟩
def spFgR (K : PySem.W.Frag) (C CN : Addr) : Sp := fun vs H Q E => ∃ (y b t : Addr) (L : List Nat) (rs : List Rule) (es : List Exc) (ws : List Str) (i : Bool) (v : V) (d : PyData), vs = [.ref y, v] ∧ DkAt C H y b t L rs es ws i ∧ BookOk L rs es ∧ (∀ H', Same H H' → Dp K H' v d) ∧ SeqAt.shaped d = true ∧
  (∀ e ∈ es, PyData.eqv (.str (T e.1)) d = false) ∧ ∀ H', Same H H' → E (.ref CN) none H'
theorem ok_fgR {f C CN : Addr} {fd : FuncData} (F : Fun K "forget" "Desk.forget" (sDk 7) f fd) (S : DkC K C) (RN : RaQ K mg "NoException" CN) : FnOk P w K mg base (L2.CX P w) 1 f fd ["self", "word"] (spFgR K C CN) := by
  refine F.okX scFg (fun vs H Q E h => ?_) (fun cdv A outer s H vs Q E hr h => ?_)
  · obtain ⟨y, b, t, L, rs, es, ws, i, v, d, rfl, _⟩ := h
    rfl
  · obtain ⟨y, b, t, L, rs, es, ws, i, v, d, rfl, hk, ho, hd, hs, hn, q⟩ := h
    have px : PassesOwn (model P w) (A.deeper (envOfC "Desk.forget" (defScope (sDk 7)) s.heap.objs.size f cdv)) (envOfC "Desk.forget" (defScope (sDk 7)) s.heap.objs.size f cdv) (cxOf (L2.CX P w) P w K mg base nFg "Desk.forget" (defScope (sDk 7)) f cdv A outer s H E).xe := PassesOwn.leaving
    refine ⟨_, pss_cons (ps_asg (pe_fld (pv 0) rfl) (pg_tup (by rfl) (pgs_cons (pg_name (i := 2) scFg.nd rfl (.inl rfl)) (pgs_cons (pg_name (i := 3) scFg.nd rfl (.inl rfl)) (pgs_cons (pg_name (i := 4) scFg.nd rfl (.inl rfl)) pgs_nil)))))
      (pss_cons (ps_for px rfl (pi_tup (pv 4)) (pg_tup (by rfl) (pgs_cons (pg_name (i := 5) scFg.nd rfl (.inl rfl)) (pgs_cons (pg_name (i := 6) scFg.nd rfl (.inl rfl)) pgs_nil)))
        (pss_one (ps_if (pt_cmpR (op_eqD hr.units) (pv 5) (pv 1) (nomark _)) (pss_cons ps_never (pss_one ps_never)) pss_nil)))
      (pss_one (ps_raise rfl (takes_of rfl rfl rfl rfl) (pmk_own PySem.F.excBase_ValueError RN.ex RN.g RN.k (raises_own RN.b RN.t) rfl)))), ?_⟩
    obtain ⟨⟨dx, hy⟩, hB, hto⟩ := id hk
    obtain ⟨R, X, hb, hR, hX⟩ := id hB
    obtain ⟨ts, hXl, hXp⟩ := id hX
    refine ⟨_, rfl, y, C, dx, _, _, rfl, hy, S.cl, S.nB, d_bk, ?_⟩
    refine ⟨b, _, rfl, .inl (.inl hb), rfl, _, _, rfl, _, _, rfl, _, _, rfl, rfl, ?_⟩
    refine ⟨_, rfl, X, rfl, ⟨_, .inl hXl.rd⟩, for_it (walk_tup (xs := ts.map V.ref)) (fun i σ H3 => Same H H3 ∧ ∃ v5 v6, σ = [some (.ref y), some v, some (.str (T L)), some (.ref R), some (.ref X), v5, v6])
      ⟨Same.refl _, _, _, rfl⟩ (fun i σ H3 _ h => .inl (hXl.kt (.of h.1)).rd) ?_ ?_⟩
    · rintro i x σ H3 H4 hi ⟨s3, v5, v6, rfl⟩ ⟨rfl, hx⟩
      rw [List.getElem?_map] at hx
      obtain ⟨a, ha, e⟩ := Option.map_eq_some_iff.mp hx
      subst e
      obtain ⟨e, he, hat⟩ := paired_at hXp ha
      have hem := List.mem_of_getElem? he
      refine ⟨a, _, rfl, .inl (.inl (s3 _ _ hat)), rfl, _, _, rfl, _, _, rfl, rfl, ?_⟩
      have sz : SeqAt.shaped (.str (T e.1)) = true := by
        unfold SeqAt.shaped
        rw [Bool.and_eq_true]
        exact ⟨strOk_T fun c hc => by have := ho.lt.az c ((ho.ex e hem).w c hc); omega, by rfl⟩
      refine ⟨_, rfl, _, rfl, .str (T e.1), d, .str _, hd _ s3, sz, hs, _, rfl, ?_⟩
      rw [hn e hem]
      exact iteF ⟨s3, _, _, rfl⟩
    · rintro σ H3 ⟨s3, _⟩
      exact q H3 s3
end
end Say
namespace Say
open PySem PySem.Spec PyProof.Rows L2
/-- the tail with a sign more, and the numbers of what is settled by it -/
def tkM (rs : List Rule) (tl : Option (List Nat)) (c : Nat) : Option (List Nat) × List Nat := match tl with
  | none => (none, [])
  | some t => if (t ++ [c]).length < 4 then (some (t ++ [c]), []) else
    match ff rs (t ++ [c]) 1 with
    | none => (none, [])
    | some k => (some ((t ++ [c]).drop (ruleAt rs k).ow.length), [k])
theorem cut_from {z : List Nat} {n : Nat} (h : n ≤ z.length) : cutS (T z) (some (n : Int)) none = T (z.drop n) := by
  unfold cutS
  rw [HT.sIx_nat]
  show T ((z.drop (min n (T z).length)).take ((T z).length - min n (T z).length)) = _
  rw [T_len, Nat.min_eq_left h, List.take_of_length_le (by rw [List.length_drop]; omega)]
section
variable {P : Program} {w : World} {K : PySem.W.Frag} {mg : Str → Option Value} {base : Heap}
abbrev sTk : Stmt := topS 52
theorem scTk : FnScope ["rules", "tail", "letter", "signs", "number"] ["rules", "tail", "letter"] (defScope sTk) := ⟨rfl, rfl, rfl, by decide +kernel, rfl, by decide +kernel, by decide +kernel⟩
def spTk : Sp := fun vs H Q _ => ∃ (R : Addr) (rs : List Rule) (tl : Option (List Nat)) (c : Nat), vs = [.ref R, optT tl, .str (T [c])] ∧ RulesAt H R rs ∧ (∀ ρ ∈ rs, RlOk ρ) ∧ (∀ t, tl = some t → 1 ≤ t.length ∧ t.length ≤ 3) ∧
  ∀ (u D : Addr) (H' : Hp), Same H H' → H D = none → H' u = some (.tup [optT (tkM rs tl c).1, .ref D]) → H' D = some (.lst ((tkM rs tl c).2.map fun k => V.int (k : Nat))) → Q (.ref u) H'
theorem ok_tk {f : Addr} {fd : FuncData} (F : Fun K "taken" "taken" sTk f fd) (B : Bn mg) (cO : KI mg "OWN" 1) (hS : KI mg "SETTLING" 4) (DF : Df P w K mg base "first_fit" ["rules", "signs", "at"] 2 spFF) : FnOk P w K mg base CX0 3 f fd ["rules", "tail", "letter"] spTk := by
  obtain ⟨fF, fdF, GF, kF, bF, mF⟩ := DF
  obtain ⟨tO, mO⟩ := cO
  obtain ⟨tS, mS⟩ := hS
  refine F.ok scTk (fun vs H Q E h => ?_) (fun cdv A outer s H vs Q E hr h => ?_)
  · obtain ⟨R, rs, tl, c, rfl, _⟩ := h
    rfl
  · obtain ⟨R, rs, tl, c, rfl, hR, ho, ht, q⟩ := h
    refine ⟨_, pss_cons (ps_if (pt_cmpR op_isN (pv 1) pe_non (nomark _)) (pss_one (ps_ret (pe_tup (pa_cons pe_non (pa_cons (pe_lst pa_nil) pa_nil))))) pss_nil)
      (pss_cons (ps_set (i := 3) scTk.nd rfl (.inl rfl) (pe_op op_add_str (pv 1) (pv 2)))
      (pss_cons (ps_if (pt_cmpR op_lt (pe_callB call_len_str (by rfl) B.len PySem.boot_len (pa_cons (pv 3) pa_nil)) (pe_glob (v := .int 4) rfl mS ⟨_, rfl⟩) (nomark _)) (pss_one (ps_ret (pe_tup (pa_cons (pv 3) (pa_cons (pe_lst pa_nil) pa_nil))))) pss_nil)
      (pss_cons (ps_set (i := 4) scTk.nd rfl (.inl rfl) (pe_call GF hr (by rfl) mF kF bF .nil pass0 (pa_cons (pv 0) (pa_cons (pv 3) (pa_cons pe_int pa_nil)))))
      (pss_cons (ps_if (pt_cmpR op_isN (pv 4) pe_non (nomark _)) (pss_one (ps_ret (pe_tup (pa_cons pe_non (pa_cons (pe_lst pa_nil) pa_nil))))) pss_nil)
      (pss_one (ps_ret (pe_tup (pa_cons (pe_slice sl_str (pv 3) (po_some (pe_callB call_len_str (by rfl) B.len PySem.boot_len (pa_cons (pe_ix ix_tup (pe_ix ix_tup (pv 0) (pv 4) (fun _ _ => rfl)) (pe_glob (v := .int 1) rfl mO ⟨_, rfl⟩) (fun _ _ => rfl)) pa_nil))) po_none)
        (pa_cons (pe_lst (pa_cons (pv 4) pa_nil)) pa_nil))))))))), ?_⟩
    -- an answer with no number
    have none_ : ∀ (v : V) (H1 : Hp), Same H H1 → (tkM rs tl c).2 = [] → v = optT (tkM rs tl c).1 → (0 ≤ sizeLine ∧ ∀ D, H1 D = none → (2 ≤ sizeLine ∧ ∀ u, (upd H1 D (.lst [])) u = none → Q (.ref u) (upd (upd H1 D (.lst [])) u (.tup [v, .ref D])))) := fun v H1 s1 e1 e2 => by
      refine ⟨by decide, fun D hD => ⟨by decide, fun u hu => ?_⟩⟩
      have sD := same_new hD (.lst [])
      have su := same_new hu (.tup [v, .ref D])
      refine q u D _ (s1.trans (sD.trans su)) (s1.free hD) (by rw [upd_same, e2]) ?_
      rw [e1]
      exact su _ _ upd_same
    cases tl with
    | none =>
      refine ⟨_, rfl, rfl, _, rfl, iteT ?_⟩
      exact none_ _ H (Same.refl H) rfl rfl
    | some t =>
      obtain ⟨t1, t3⟩ := ht t rfl
      have hz : (t ++ [c]).length = t.length + 1 := by simp
      refine ⟨_, rfl, rfl, _, rfl, iteF ?_⟩
      refine ⟨_, rfl, _, rfl, _, _, rfl, rfl, (by rw [T_len, T_len]; exact small (by simp; omega)), ?_⟩
      rw [T_app]
      refine ⟨_, rfl, _, rfl, (by rw [T_len]; exact small (by omega)), _, _, rfl, rfl, _, rfl, ?_⟩
      rw [T_len]
      refine ite2 (fun c0 => ?_) (fun c0 => ?_)
      · have c1 : (t ++ [c]).length < 4 := by have := of_decide_eq_true c0; omega
        refine ⟨_, rfl, none_ _ H (Same.refl H) ?_ ?_⟩
        · unfold tkM; simp only; rw [if_pos c1]
        · unfold tkM; simp only; rw [if_pos c1]; rfl
      · have c1 : ¬ (t ++ [c]).length < 4 := by
          have := of_decide_eq_false (Bool.eq_false_iff.mpr c0)
          omega
        have h4 : (t ++ [c]).length = 4 := by omega
        refine ⟨_, rfl, _, rfl, R, rs, t ++ [c], 1, rfl, hR, ho, Nat.le_refl 1, by omega, by omega, fun ρ hρ _ => by have := (ho ρ hρ).o2; omega, fun H1 s1 => ?_⟩
        cases hf : ff rs (t ++ [c]) 1 with
        | none =>
          refine ⟨_, rfl, rfl, _, rfl, iteT ?_⟩
          refine none_ _ H1 s1 ?_ ?_
          · unfold tkM; simp only; rw [if_neg c1, hf]
          · unfold tkM; simp only; rw [if_neg c1, hf]; rfl
        | some k =>
          have hk := ff_lt hf
          have er : ruleAt rs k = rs[k] := ruleAt_eq (List.getElem?_eq_getElem hk)
          have o2 := (ho _ (List.getElem_mem hk)).o2
          obtain ⟨rts, hRt, hRp⟩ := hR.kt (.of s1)
          obtain ⟨ra, hra, hrat⟩ := paired_at' hRp (List.getElem?_eq_getElem hk)
          refine ⟨_, rfl, rfl, _, rfl, iteF ?_⟩
          have hol : (T rs[k].ow).length ≤ sizeLine := by rw [T_len]; exact small (by omega)
          have hzl : (T (t ++ [c])).length ≤ sizeLine := by rw [T_len]; exact small (by omega)
          have e1 : tkM rs (some t) c = (some ((t ++ [c]).drop rs[k].ow.length), [k]) := by
            unfold tkM
            simp only
            rw [if_neg c1, hf]
            simp only
            rw [er]
          rw [e1] at q
          refine ⟨_, rfl, _, rfl, _, rfl, R, _, (k : Int), .ref ra, rfl, rfl, .inl (.inl hRt), atI_nat (by rw [List.getElem?_map, hra]; rfl), ra, _, 1, .str (T rs[k].ow), rfl, rfl, .inl (.inl hrat), atI_nat (j := 1) rfl, _, rfl, hol, _, rfl, T (t ++ [c]), rfl, hzl, ?_⟩
          rw [T_len, cut_from (by omega)]
          refine ⟨_, rfl, (by show 1 ≤ sizeLine; decide), fun D hD => ⟨(by show 2 ≤ sizeLine; decide), fun u hu => ?_⟩⟩
          have sD := same_new hD (.lst [V.int (k : Nat)])
          have su := same_new hu (.tup [.str (T ((t ++ [c]).drop rs[k].ow.length)), .ref D])
          exact q u D _ (s1.trans (sD.trans su)) (s1.free hD) upd_same (su _ _ upd_same)
end
end Say
namespace Say
open PySem PySem.Spec PyProof.Rows L2
abbrev sSy (j : Nat) : Stmt := inClass (topS 99) j
/-- the five fields, as __init__ lays them -/
def fldS (L : List Nat) (R : Addr) (wd tl : List Nat) (pa : Addr) : List (Str × V) := [("_letters", .str (T L)), ("_rules", .ref R), ("_word", .str (T wd)), ("_tail", .str (T tl)), ("_past", .ref pa)]
theorem f_let {L : List Nat} {R : Addr} {wd tl : List Nat} {pa : Addr} : (fldS L R wd tl pa).lookup ("_letters" : Str) = some (.str (T L)) := rfl
theorem f_rul {L : List Nat} {R : Addr} {wd tl : List Nat} {pa : Addr} : (fldS L R wd tl pa).lookup ("_rules" : Str) = some (.ref R) := rfl
theorem f_wd {L : List Nat} {R : Addr} {wd tl : List Nat} {pa : Addr} : (fldS L R wd tl pa).lookup ("_word" : Str) = some (.str (T wd)) := rfl
theorem f_tl {L : List Nat} {R : Addr} {wd tl : List Nat} {pa : Addr} : (fldS L R wd tl pa).lookup ("_tail" : Str) = some (.str (T tl)) := rfl
theorem f_pa {L : List Nat} {R : Addr} {wd tl : List Nat} {pa : Addr} : (fldS L R wd tl pa).lookup ("_past" : Str) = some (.ref pa) := rfl
theorem p_wd {L : List Nat} {R : Addr} {wd tl wd' : List Nat} {pa : Addr} : putF "_word" (.str (T wd')) (fldS L R wd tl pa) = fldS L R wd' tl pa := rfl
theorem p_tl {L : List Nat} {R : Addr} {wd tl tl' : List Nat} {pa : Addr} : putF "_tail" (.str (T tl')) (fldS L R wd tl pa) = fldS L R wd tl' pa := rfl
theorem p_pa {L : List Nat} {R : Addr} {wd tl : List Nat} {pa pa' : Addr} : putF "_past" (.ref pa') (fldS L R wd tl pa) = fldS L R wd tl pa' := rfl
/-- what the top says of the class -/
structure SyC (K : PySem.W.Frag) (C : Addr) : Prop where
  cl : Cls K C
  nL : NoAttr K C "_letters"
  nR : NoAttr K C "_rules"
  nW : NoAttr K C "_word"
  nT : NoAttr K C "_tail"
  nP : NoAttr K C "_past"
/-- the past's pairs -/
def PastAt (H : Hp) (pa : Addr) (ps : List (List Nat × Nat)) : Prop := ∃ ts : List Addr, H pa = some (.lst (ts.map V.ref)) ∧ Paired (fun t (p : List Nat × Nat) => H t = some (.tup [.str (T p.1), .int (p.2 : Nat)])) ts ps
/-- a machine at y: its word, its tail, its past -/
structure SyAt (C : Addr) (H : Hp) (y pa : Addr) (L : List Nat) (R : Addr) (rs : List Rule) (wd tl : List Nat) (ps : List (List Nat × Nat)) : Prop where
  ins : ∃ dx, H y = some (.ins C dx (fldS L R wd tl pa))
  rul : RulesAt H R rs
  past : PastAt H pa ps
/-- all stays but the machine and its past -/
def Kp (y pa : Addr) (H H' : Hp) : Prop := ∀ b o, H b = some o → b ≠ y → b ≠ pa → H' b = some o
theorem Kp.of {y pa : Addr} {H H' : Hp} (e : Same H H') : Kp y pa H H' := fun b o h _ _ => e b o h
theorem Kp.trans {y pa : Addr} {H H1 H2 : Hp} (a : Kp y pa H H1) (b : Kp y pa H1 H2) : Kp y pa H H2 := fun c o h n m => b c o (a c o h n m) n m
theorem Kp.y {y pa : Addr} {H : Hp} (o : HO) : Kp y pa H (upd H y o) := fun b u q n _ => by rw [upd_ne n]; exact q
theorem Kp.pa {y pa : Addr} {H : Hp} (o : HO) : Kp y pa H (upd H pa o) := fun b u q _ n => by rw [upd_ne n]; exact q
theorem Kp.kt {y pa C dx : Addr} {fs : List (Str × V)} {l : List V} {H H' : Hp} (e : Kp y pa H H') (hy : H y = some (.ins C dx fs)) (hp : H pa = some (.lst l)) : KT H H' := KT.by fun t u h hu =>
  e t _ h (ne_of h hy (by rcases hu with ⟨_, rfl⟩ | ⟨_, _, rfl⟩ <;> (intro z; cases z))) (ne_of h hp (by rcases hu with ⟨_, rfl⟩ | ⟨_, _, rfl⟩ <;> (intro z; cases z)))
theorem SyAt.ne {C : Addr} {H : Hp} {y pa : Addr} {L : List Nat} {R : Addr} {rs : List Rule} {wd tl : List Nat} {ps : List (List Nat × Nat)} (h : SyAt C H y pa L R rs wd tl ps) : y ≠ pa := by
  obtain ⟨⟨dx, h1⟩, _, ts, h2, _⟩ := h
  exact ne_of h1 h2 (by intro z; cases z)
theorem SyAt.kt {C : Addr} {H H' : Hp} {y pa : Addr} {L : List Nat} {R : Addr} {rs : List Rule} {wd tl : List Nat} {ps : List (List Nat × Nat)} (h : SyAt C H y pa L R rs wd tl ps) (e : Kp y pa H H') : KT H H' := by
  obtain ⟨⟨dx, h1⟩, _, ts, h2, _⟩ := h
  exact e.kt h1 h2
theorem SyAt.same {C : Addr} {H H' : Hp} {y pa : Addr} {L : List Nat} {R : Addr} {rs : List Rule} {wd tl : List Nat} {ps : List (List Nat × Nat)} (h : SyAt C H y pa L R rs wd tl ps) (e : Same H H') : SyAt C H' y pa L R rs wd tl ps := by
  obtain ⟨⟨dx, h1⟩, hR, ts, h2, h3⟩ := h
  exact ⟨⟨dx, e _ _ h1⟩, hR.kt (.of e), ts, e _ _ h2, paired_mono (fun t p q => e _ _ q) h3⟩
section
variable {P : Program} {w : World} {K : PySem.W.Frag} {mg : Str → Option Value} {base : Heap}
theorem scWord : FnScope ["self"] ["self"] (defScope (sSy 4)) := ⟨rfl, rfl, rfl, by decide +kernel, rfl, by decide +kernel, by decide +kernel⟩
def spWord (C : Addr) : Sp := fun vs H Q _ => ∃ (y dx : Addr) (fs : List (Str × V)) (wd : List Nat), vs = [.ref y] ∧ H y = some (.ins C dx fs) ∧ fs.lookup ("_word" : Str) = some (.str (T wd)) ∧ Q (.str (T wd)) H
theorem ok_word {f C : Addr} {fd : FuncData} {k : Nat} (F : Fun K "word" "Sayer.word" (sSy 4) f fd) (S : SyC K C) : FnOk P w K mg base CX0 (k + 1) f fd ["self"] (spWord C) := by
  refine F.ok scWord (fun vs H Q E h => ?_) (fun cdv A outer s H vs Q E hr h => ?_)
  · obtain ⟨y, dx, fs, wd, rfl, _⟩ := h
    rfl
  · obtain ⟨y, dx, fs, wd, rfl, h1, h2, q⟩ := h
    refine ⟨_, pss_one (ps_ret (pe_fld (pv 0) rfl)), ?_⟩
    exact ⟨_, rfl, y, C, dx, _, _, rfl, h1, S.cl, S.nW, h2, q⟩
theorem scBegin : FnScope ["self"] ["self"] (defScope (sSy 5)) := ⟨rfl, rfl, rfl, by decide +kernel, rfl, by decide +kernel, by decide +kernel⟩
def spBegin (C : Addr) : Sp := fun vs H Q _ => ∃ (y dx : Addr) (fs : List (Str × V)), vs = [.ref y] ∧ H y = some (.ins C dx fs) ∧ fs.length ≤ 100 ∧
  ∀ (pa : Addr) (H' : Hp), H pa = none → H' y = some (.ins C dx (putF "_past" (.ref pa) (putF "_tail" (.str (T [35])) (putF "_word" (.str (T [])) fs)))) → H' pa = some (.lst []) → Stp y H H' → Q .non H'
theorem putF_len (x : Str) (v : V) (fs : List (Str × V)) : (putF x v fs).length ≤ fs.length + 1 := length_putF x v fs
theorem ok_begin {f C : Addr} {fd : FuncData} {k : Nat} (F : Fun K "_begin" "Sayer._begin" (sSy 5) f fd) (S : SyC K C) (Cn_ : Cn mg) : FnOk P w K mg base CX0 (k + 1) f fd ["self"] (spBegin C) := by
  obtain ⟨tE, mE⟩ := Cn_.edge
  refine F.ok scBegin (fun vs H Q E h => ?_) (fun cdv A outer s H vs Q E hr h => ?_)
  · obtain ⟨y, dx, fs, rfl, _⟩ := h
    rfl
  · obtain ⟨y, dx, fs, rfl, h1, hl, q⟩ := h
    refine ⟨_, pss_cons (ps_fld (pv 0) pe_str rfl)
      (pss_cons (ps_fld (pv 0) (pe_glob (v := .str "#") rfl mE ⟨_, rfl⟩) rfl)
      (pss_one (ps_fld (pv 0) (pe_lst pa_nil) rfl))), ?_⟩
    have l1 := putF_len "_word" (.str (Str.ofString "")) fs
    have l2 := putF_len "_tail" (.str (Str.ofString "#")) (putF "_word" (.str (Str.ofString "")) fs)
    refine ⟨_, rfl, y, C, dx, _, rfl, h1, S.cl, S.nW, by omega, ?_⟩
    refine ⟨_, rfl, y, C, dx, _, rfl, upd_same, S.cl, S.nT, by omega, ?_⟩
    refine ⟨(by show 0 ≤ sizeLine; decide), fun pa hpa => ?_⟩
    have nyp : y ≠ pa := fun z => by rw [← z, upd_same] at hpa; cases hpa
    have hpa0 : H pa = none := by rw [upd_ne nyp.symm, upd_ne nyp.symm] at hpa; exact hpa
    refine ⟨_, rfl, y, C, dx, _, rfl, (by rw [upd_ne nyp]; exact upd_same), S.cl, S.nP, by omega, ?_⟩
    refine q pa _ hpa0 (by rw [upd_same, show Str.ofString "#" = T [35] from hash_eq, show Str.ofString "" = T [] from nil_eq]) (by rw [upd_ne nyp.symm, upd_same]) fun b o hb n => ?_
    rw [upd_ne n, upd_ne (ne_of_none hb hpa0), upd_ne n, upd_ne n]
    exact hb
theorem scPlace : FnScope ["self"] ["self"] (defScope (sSy 6)) := ⟨rfl, rfl, rfl, by decide +kernel, rfl, by decide +kernel, by decide +kernel⟩
def spPlace (C : Addr) : Sp := fun vs H Q _ => ∃ (y dx : Addr) (L : List Nat) (R pa : Addr) (wd tl : List Nat), vs = [.ref y] ∧ H y = some (.ins C dx (fldS L R wd tl pa)) ∧ wd.length ≤ 100 ∧ 1 ≤ tl.length ∧ tl.length ≤ wd.length + 1 ∧ Q (.int ((wd.length + 1 - tl.length : Nat) : Int)) H
theorem ok_place {f C : Addr} {fd : FuncData} {k : Nat} (F : Fun K "_place" "Sayer._place" (sSy 6) f fd) (S : SyC K C) (B : Bn mg) : FnOk P w K mg base CX0 (k + 1) f fd ["self"] (spPlace C) := by
  refine F.ok scPlace (fun vs H Q E h => ?_) (fun cdv A outer s H vs Q E hr h => ?_)
  · obtain ⟨y, dx, L, R, pa, wd, tl, rfl, _⟩ := h
    rfl
  · obtain ⟨y, dx, L, R, pa, wd, tl, rfl, h1, hw, t1, tw, q⟩ := h
    refine ⟨_, pss_one (ps_ret (pe_op op_sub (pe_callB call_len_str (by rfl) B.len PySem.boot_len (pa_cons (pe_fld (pv 0) rfl) pa_nil)) (pe_op op_sub (pe_callB call_len_str (by rfl) B.len PySem.boot_len (pa_cons (pe_fld (pv 0) rfl) pa_nil)) pe_int))), ?_⟩
    refine ⟨_, rfl, y, C, dx, _, _, rfl, h1, S.cl, S.nW, f_wd, _, rfl, (by rw [T_len]; exact small (by omega)), ?_⟩
    refine ⟨_, rfl, y, C, dx, _, _, rfl, h1, S.cl, S.nT, f_tl, _, rfl, (by rw [T_len]; exact small (by omega)), ?_⟩
    refine ⟨_, _, rfl, rfl, _, _, rfl, rfl, ?_⟩
    rw [T_len, T_len]
    show Q (V.int (((wd.length : Nat) : Int) - (((tl.length : Nat) : Int) - 1))) H
    rw [show ((wd.length : Nat) : Int) - (((tl.length : Nat) : Int) - 1) = ((wd.length + 1 - tl.length : Nat) : Int) by omega]
    exact q
/-- what the top says of a refusal without fields -/
structure RaC (K : PySem.W.Frag) (mg : Str → Option Value) (x : Str) (C : Addr) : Prop where
  ex : PySem.W.excIn K C [.type "ValueError", .type "Exception", .type "BaseException", .type "object"] "ValueError.__new__" = true
  g : mg x = some (.ref C)
  k : PySem.W.keepIn K (.ref C) = true
  b : PySem.W.subIn K (.ref C) (.type "BaseException") = some true
  t : PySem.W.typeIn K (.ref C) = some (.type "type")
theorem scFeed : FnScope ["self", "letter", "tail", "numbers", "sounds"] ["self", "letter"] (defScope (sSy 1)) := ⟨rfl, rfl, rfl, by decide +kernel, rfl, by decide +kernel, by decide +kernel⟩
def spFeed (C CW CU : Addr) : Sp := fun vs H Q E => ∃ (y pa : Addr) (L : List Nat) (R : Addr) (rs : List Rule) (wd tl : List Nat) (ps : List (List Nat × Nat)) (c : Nat), vs = [.ref y, .str (T [c])] ∧ SyAt C H y pa L R rs wd tl ps ∧ (∀ ρ ∈ rs, RlOk ρ) ∧ c ∈ L ∧ wd.length ≤ 12 ∧ 1 ≤ tl.length ∧ tl.length ≤ 3 ∧ tl.length ≤ wd.length + 1 ∧ ps.length = wd.length ∧
  (wd.length = 12 → ∀ H', Same H H' → E (.ref CW) none H') ∧
  (wd.length < 12 → (∀ tl', (tkM rs (some tl) c).1 = some tl' → ∀ H', Kp y pa H H' → SyAt C H' y pa L R rs (wd ++ [c]) tl' (ps ++ [(tl, (soL rs (tkM rs (some tl) c).2).length)]) → Q (.str (T (soL rs (tkM rs (some tl) c).2))) H') ∧
    ((tkM rs (some tl) c).1 = none → ∀ d H', Same H H' → H d = none → H' d = some (.xd [(("place" : Str), .int ((wd.length + 1 - tl.length : Nat) : Int))]) → E (.ref CU) (some d) H'))
theorem tk_ks {rs : List Rule} {t : List Nat} {c : Nat} : (∀ k ∈ (tkM rs (some t) c).2, k < rs.length) ∧ (tkM rs (some t) c).2.length ≤ 1 := by
  unfold tkM
  simp only
  by_cases c1 : (t ++ [c]).length < 4
  · rw [if_pos c1]
    exact ⟨fun k h => (nomatch h), Nat.zero_le _⟩
  · rw [if_neg c1]
    cases e : ff rs (t ++ [c]) 1 with
    | none => exact ⟨fun k h => (nomatch h), Nat.zero_le _⟩
    | some k => exact ⟨fun j h => (by rw [List.mem_singleton.mp h]; exact ff_lt e), Nat.le_refl _⟩
theorem isText_one {L : List Nat} {c : Nat} (h : c ∈ L) : isText [c] L 1 1 = true := isText_of (Nat.le_refl _) (Nat.le_refl _) fun d hd => by rw [List.mem_singleton.mp hd]; exact h
theorem ok_feed {f C CW CU fI fPl : Addr} {fd fdPl : FuncData} (F : Fun K "feed" "Sayer.feed" (sSy 1) f fd) (S : SyC K C) (B : Bn mg) (cW : KI mg "LONGEST_WORD" 12) (RW : RaC K mg "BadWord" CW) (U : PySem.UnsX.UnsTxt P K mg CU fI)
    (GPl : FnOk P w K mg base CX0 1 fPl fdPl ["self"] (spPlace C)) (mPl : Meth K C "_place" fPl) (bPl : Binds K fdPl ["self"] [])
    (DTx : Df P w K mg base "is_text" psIsText 1 spIsText) (DTk : Df P w K mg base "taken" ["rules", "tail", "letter"] 3 spTk) (DSo : Df P w K mg base "sounds_of" ["rules", "numbers"] 1 spSou) :
    FnOk P w K mg base (L2.CX P w) 4 f fd ["self", "letter"] (spFeed C CW CU) := by
  obtain ⟨fTx, fdTx, GTx, kTx, bTx, mTx⟩ := DTx
  obtain ⟨fTk, fdTk, GTk, kTk, bTk, mTk⟩ := DTk
  obtain ⟨fSo, fdSo, GSo, kSo, bSo, mSo⟩ := DSo
  obtain ⟨tW, mW⟩ := cW
  refine F.okX scFeed (fun vs H Q E h => ?_) (fun cdv A outer s H vs Q E hr h => ?_)
  · obtain ⟨y, pa, L, R, rs, wd, tl, ps, c, rfl, _⟩ := h
    rfl
  · obtain ⟨y, pa, L, R, rs, wd, tl, ps, c, rfl, hS, ho, hc, h12, t1, t3, tw, hps, qW, qF⟩ := h
    have hr1 : Room 1 _ := hr.mono (by decide)
    have hr3 : Room 3 _ := hr
    refine ⟨_, pss_cons (ps_if (PW.pt (pw_or (pt_not (pt_val (pe_call GTx hr1 (by rfl) mTx kTx bTx .nil pass0 (pa_cons (pv 1) (pa_cons (pe_fld (pv 0) rfl) (pa_cons pe_int (pa_cons pe_int pa_nil))))))) (pw_or1 (pt_cmpR op_eq (pe_callB call_len_str (by rfl) B.len PySem.boot_len (pa_cons (pe_fld (pv 0) rfl) pa_nil)) (pe_glob (v := .int 12) rfl mW ⟨_, rfl⟩) (nomark _))))) (pss_one (ps_raise rfl (takes_of rfl rfl rfl rfl) (pmk_own PySem.F.excBase_ValueError RW.ex RW.g RW.k (raises_own RW.b RW.t) rfl))) pss_nil)
      (pss_cons (ps_asg (pe_call GTk hr3 (by rfl) mTk kTk bTk .nil pass0 (pa_cons (pe_fld (pv 0) rfl) (pa_cons (pe_fld (pv 0) rfl) (pa_cons (pv 1) pa_nil)))) (pg_tup (by rfl) (pgs_cons (pg_name (i := 2) scFeed.nd rfl (.inl rfl)) (pgs_cons (pg_name (i := 3) scFeed.nd rfl (.inl rfl)) pgs_nil))))
      (pss_cons (ps_if (pt_cmpR op_isN (pv 2) pe_non (nomark _)) (pss_one (ps_raiseUns rfl U hr (takes_of rfl rfl rfl rfl) (by exact (pa_cons (pe_meth0 (pv 0) S.cl mPl GPl hr1 bPl .nil pass0) pa_nil)))) pss_nil)
      (pss_cons (ps_set (i := 4) scFeed.nd rfl (.inl rfl) (pe_call GSo hr1 (by rfl) mSo kSo bSo .nil pass0 (pa_cons (pe_fld (pv 0) rfl) (pa_cons (pv 3) pa_nil))))
      (pss_cons (ps_expr (pe_bm PySem.F.plainAttrs_list PySem.F.slot_list_append PySem.F.type_list_append mt_append (pe_fld (pv 0) rfl) (pa_cons (pe_tup (pa_cons (pe_fld (pv 0) rfl) (pa_cons (pe_callB call_len_str (by rfl) B.len PySem.boot_len (pa_cons (pv 4) pa_nil)) pa_nil))) pa_nil)))
      (pss_cons (ps_fldaug (pv 0) (pv 1) in_addS)
      (pss_cons (ps_fld (pv 0) (pv 2) rfl)
      (pss_one (ps_ret (pv 4))))))))), ?_⟩
    obtain ⟨⟨dx, hy⟩, hR, ts, hpa, hpp⟩ := id hS
    refine ⟨_, rfl, _, rfl, y, C, dx, _, _, rfl, hy, S.cl, S.nL, f_let, [c], L, 1, 1, rfl, by simp, fun H1 s1 => ?_⟩
    have hS1 := hS.same s1
    have hy1 := s1 _ _ hy
    rw [isText_one hc]
    refine ⟨true, rfl, iteF ?_⟩
    refine ⟨_, rfl, y, C, dx, _, _, rfl, hy1, S.cl, S.nW, f_wd, _, rfl, (by rw [T_len]; exact small (by omega)), rfl, _, rfl, ?_⟩
    rw [T_len]
    refine ite2 (fun c12 => ?_) (fun c12 => ?_)
    · have c12 : wd.length = 12 := by have := V.int.inj (of_decide_eq_true c12); omega
      exact qW c12 H1 s1
    · have c12 : wd.length < 12 := by
        have h : ¬ wd.length = 12 := fun z => c12 (by rw [z]; rfl)
        omega
      obtain ⟨qT, qN⟩ := qF c12
      refine ⟨_, rfl, y, C, dx, _, _, rfl, hy1, S.cl, S.nR, f_rul, _, rfl, y, C, dx, _, _, rfl, hy1, S.cl, S.nT, f_tl, _, rfl, ?_⟩
      refine ⟨R, rs, some tl, c, rfl, hR.kt (.of s1), ho, (fun t e => by cases e; exact ⟨t1, t3⟩), fun u D H2 s2 hD hu hDl => ?_⟩
      have hS2 := hS1.same s2
      have hy2 := s2 _ _ hy1
      refine ⟨u, _, rfl, .inl (.inl hu), rfl, _, _, rfl, _, _, rfl, rfl, ?_⟩
      refine ⟨_, rfl, rfl, _, rfl, ?_⟩
      obtain ⟨kl, k1⟩ := tk_ks (rs := rs) (t := tl) (c := c)
      cases e : (tkM rs (some tl) c).1 with
      | none =>
        refine iteT ?_
        refine ⟨_, rfl, y, dx, _, rfl, hy2, rfl, y, dx, L, R, pa, wd, tl, rfl, hy2, by omega, t1, tw, _, rfl, by omega, fun d hd => ?_⟩
        exact qN e d _ (s1.trans (s2.trans (same_new hd _))) (s1.free (s2.free hd)) upd_same
      | some tl' =>
        refine iteF ?_
        refine ⟨_, rfl, y, C, dx, _, _, rfl, hy2, S.cl, S.nR, f_rul, _, rfl, ?_⟩
        refine ⟨R, D, rs, _, rfl, hR.kt (.of (s1.trans s2)), ho, hDl, kl, by omega, fun H3 s3 => ?_⟩
        have hS3 := hS2.same s3
        have hy3 := s3 _ _ hy2
        obtain ⟨_, hR3, ts3, hpa3, hpp3⟩ := id hS3
        have so3 : (soL rs (tkM rs (some tl) c).2).length ≤ 3 := by
          have := flat_len ho _ kl
          omega
        refine ⟨_, rfl, y, C, dx, _, _, rfl, hy3, S.cl, S.nP, f_pa, .inl ⟨rfl, _, .inl (.inl hpa3)⟩, ?_⟩
        refine ⟨_, rfl, y, C, dx, _, _, rfl, hy3, S.cl, S.nT, f_tl, _, rfl, _, rfl, (by rw [T_len]; exact small (by omega)), (by show 2 ≤ sizeLine; decide), fun t ht => ?_⟩
        have st := same_new ht (.tup [.str (T tl), .int ((T (soL rs (tkM rs (some tl) c).2)).length : Nat)])
        have nyp := hS.ne
        have hpa4 := st _ _ hpa3
        have hy4 := st _ _ hy3
        refine ⟨pa, _, _, rfl, rfl, hpa4, ?_, ?_⟩
        · rw [List.length_map, paired_len hpp3]
          exact small1000 (by omega)
        · obtain ⟨H5, e5⟩ : ∃ H5, H5 = upd (upd H3 t (.tup [.str (T tl), .int ((T (soL rs (tkM rs (some tl) c).2)).length : Nat)])) pa (.lst (ts3.map V.ref ++ [.ref t])) := ⟨_, rfl⟩
          have nyt : y ≠ t := ne_of_none hy3 ht
          have hy5 : H5 y = some (.ins C dx (fldS L R wd tl pa)) := by rw [e5, upd_ne nyp]; exact hy4
          rw [← e5]
          refine ⟨_, rfl, y, C, dx, _, _, rfl, hy5, S.cl, S.nW, f_wd, _, rfl, ?_⟩
          refine ⟨_, _, rfl, rfl, (by rw [T_len, T_len]; exact small (by simp; omega)), dx, _, hy5, (by show 5 < 1000; decide), ?_⟩
          rw [T_app, p_wd]
          refine ⟨_, rfl, _, rfl, y, C, dx, _, rfl, upd_same, S.cl, S.nT, (by show 5 < 1000; decide), ?_⟩
          rw [show optT (some tl') = V.str (T tl') from rfl, p_tl]
          refine ⟨_, rfl, qT tl' e _ ?_ ?_⟩
          · refine fun b o hb n1 n2 => ?_
            rw [upd_ne n1, upd_ne n1, e5, upd_ne n2]
            exact st _ _ (s3 _ _ (s2 _ _ (s1 _ _ hb)))
          · have k5 : KT H3 H5 := by
              rw [e5]
              exact (KT.of st).trans (kt_upd hpa4)
            have k7 : KT H5 (upd (upd H5 y (.ins C dx (fldS L R (wd ++ [c]) tl pa))) y (.ins C dx (fldS L R (wd ++ [c]) tl' pa))) := KT.by fun t' xs h hu => by
              have n := ne_of h hy5 (by rcases hu with ⟨_, rfl⟩ | ⟨_, _, rfl⟩ <;> (intro z; cases z))
              rw [upd_ne n, upd_ne n]
              exact h
            refine ⟨⟨dx, upd_same⟩, (hR3.kt k5).kt k7, ts3 ++ [t], ?_, ?_⟩
            · rw [upd_ne nyp.symm, upd_ne nyp.symm, e5, upd_same, List.map_append]
              rfl
            · refine paired_app (paired_mono (fun t' p q => k7.1 _ _ (k5.1 _ _ q)) hpp3) (.cons (k7.1 _ _ ?_) .nil)
              rw [e5, upd_ne (ne_of_none hpa3 ht).symm, upd_same, T_len]
theorem scBack : FnScope ["self", "many"] ["self"] (defScope (sSy 2)) := ⟨rfl, rfl, rfl, by decide +kernel, rfl, by decide +kernel, by decide +kernel⟩
def spBack (C CN : Addr) : Sp := fun vs H Q E => ∃ (y pa : Addr) (L : List Nat) (R : Addr) (rs : List Rule) (wd tl : List Nat) (ps : List (List Nat × Nat)), vs = [.ref y] ∧ SyAt C H y pa L R rs wd tl ps ∧ wd.length ≤ 12 ∧ ps.length = wd.length ∧
  (ps = [] → ∀ H', Same H H' → E (.ref CN) none H') ∧
  (∀ ps' t n, ps = ps' ++ [(t, n)] → ∀ H', Kp y pa H H' → SyAt C H' y pa L R rs wd.dropLast t ps' → Q (.int (n : Nat)) H')
theorem paired_snoc {α β : Type} {F : α → β → Prop} : ∀ {xs : List α} {ys : List β} {y : β}, Paired F xs (ys ++ [y]) → ∃ xs' x, xs = xs' ++ [x] ∧ Paired F xs' ys ∧ F x y
  | _, [], _, .cons a .nil => ⟨[], _, rfl, .nil, a⟩
  | _, _ :: _, _, .cons a b => by
    obtain ⟨xs', x, rfl, h1, h2⟩ := paired_snoc b
    exact ⟨_ :: xs', x, rfl, .cons a h1, h2⟩
theorem drop_last {wd : List Nat} (h : wd.length ≤ 100) : cutS (T wd) none (some (-1)) = T wd.dropLast := by
  unfold cutS
  have e : HT.sIx (T wd).length (T wd).length (some (-1)) = wd.length - 1 := by
    rw [T_len]
    unfold HT.sIx
    simp only
    split <;> omega
  rw [e]
  show T ((wd.drop 0).take (wd.length - 1 - 0)) = _
  rw [List.drop_zero, List.dropLast_eq_take, Nat.sub_zero]
theorem ok_back {f C CN : Addr} {fd : FuncData} {k : Nat} (F : Fun K "back" "Sayer.back" (sSy 2) f fd) (S : SyC K C) (RN : RaC K mg "NoLetter" CN) :
    FnOk P w K mg base (L2.CX P w) (k + 1) f fd ["self"] (spBack C CN) := by
  refine F.okX scBack (fun vs H Q E h => ?_) (fun cdv A outer s H vs Q E hr h => ?_)
  · obtain ⟨y, pa, L, R, rs, wd, tl, ps, rfl, _⟩ := h
    rfl
  · obtain ⟨y, pa, L, R, rs, wd, tl, ps, rfl, hS, h12, hps, qE, qT⟩ := h
    refine ⟨_, pss_cons (ps_if (pt_not (pt_truth (pe_fld (pv 0) rfl) (by intro _; rfl))) (pss_one (ps_raise rfl (takes_of rfl rfl rfl rfl) (pmk_own PySem.F.excBase_ValueError RN.ex RN.g RN.k (raises_own RN.b RN.t) rfl))) pss_nil)
      (pss_cons (ps_asg (pe_bm0 PySem.F.plainAttrs_list PySem.F.slot_list_pop PySem.F.type_list_pop mt_pop (pe_fld (pv 0) rfl)) (pg_tup (by rfl) (pgs_cons (pg_attr (pv 0)) (pgs_cons (pg_name (i := 1) scBack.nd rfl (.inl rfl)) pgs_nil))))
      (pss_cons (ps_fld (pv 0) (pe_slice sl_str (pe_fld (pv 0) rfl) po_none (po_some (pe_un un_neg pe_int))) rfl)
      (pss_one (ps_ret (pv 1))))), ?_⟩
    obtain ⟨⟨dx, hy⟩, hR, ts, hpa, hpp⟩ := id hS
    have nyp := hS.ne
    refine ⟨_, rfl, y, C, dx, _, _, rfl, hy, S.cl, S.nP, f_pa, _, .inl ⟨_, .inl (.inl hpa), rfl⟩, ?_⟩
    by_cases c : ps = []
    · subst c
      cases hpp
      refine iteT ?_
      exact qE rfl H (Same.refl H)
    · obtain ⟨ps', tn, rfl⟩ : ∃ ps' tn, ps = ps' ++ [tn] := ⟨_, _, (List.dropLast_concat_getLast c).symm⟩
      obtain ⟨t, n⟩ := tn
      obtain ⟨ts', ta, rfl, hpp', hat⟩ := paired_snoc hpp
      rw [show (!(!((ts' ++ [ta]).map V.ref).isEmpty)) = false by simp]
      refine iteF ?_
      refine ⟨_, rfl, y, C, dx, _, _, rfl, hy, S.cl, S.nP, f_pa, .inl ⟨rfl, _, .inl (.inl hpa)⟩, ?_⟩
      refine ⟨pa, _, .ref ta, rfl, rfl, hpa, ?_, ?_⟩
      · rw [List.map_append, List.length_append, List.length_map]
        show (ts'.map V.ref ++ [V.ref ta])[ts'.length + 1 - 1]? = _
        rw [Nat.add_sub_cancel, List.getElem?_append_right (by rw [List.length_map]; exact Nat.le_refl _), List.length_map, Nat.sub_self]
        rfl
      obtain ⟨H5, e5⟩ : ∃ H5, H5 = upd H pa (.lst ((ts' ++ [ta]).map V.ref).dropLast) := ⟨_, rfl⟩
      have k5 : KT H H5 := by rw [e5]; exact kt_upd hpa
      have hy5 : H5 y = some (.ins C dx (fldS L R wd tl pa)) := by rw [e5, upd_ne nyp]; exact hy
      have hpa5 : H5 pa = some (.lst (ts'.map V.ref)) := by
        rw [e5, upd_same, List.map_append]
        show some (HO.lst ((ts'.map V.ref ++ [V.ref ta]).dropLast)) = _
        rw [List.dropLast_concat]
      rw [← e5]
      refine ⟨ta, _, rfl, .inl (.inl (k5.1 _ _ hat)), rfl, _, _, rfl, ?_⟩
      refine ⟨_, rfl, y, C, dx, _, rfl, hy5, S.cl, S.nT, (by show 5 < 1000; decide), ?_⟩
      rw [p_tl]
      refine ⟨_, _, rfl, rfl, ?_⟩
      refine ⟨_, rfl, y, C, dx, _, _, rfl, upd_same, S.cl, S.nW, f_wd, _, rfl, _, rfl, T wd, rfl, (by rw [T_len]; exact small (by omega)), ?_⟩
      rw [show cutS (T wd) none (some (-(1 : Int))) = T wd.dropLast from drop_last (by omega)]
      refine ⟨_, rfl, y, C, dx, _, rfl, upd_same, S.cl, S.nW, (by show 5 < 1000; decide), ?_⟩
      rw [p_wd]
      refine ⟨_, rfl, qT ps' t n rfl _ ?_ ?_⟩
      · refine fun b o hb n1 n2 => ?_
        rw [upd_ne n1, upd_ne n1, e5, upd_ne n2]
        exact hb
      · have k7 : KT H5 (upd (upd H5 y (.ins C dx (fldS L R wd t pa))) y (.ins C dx (fldS L R wd.dropLast t pa))) := KT.by fun t' xs h hu => by
          have n := ne_of h hy5 (by rcases hu with ⟨_, rfl⟩ | ⟨_, _, rfl⟩ <;> (intro z; cases z))
          rw [upd_ne n, upd_ne n]
          exact h
        refine ⟨⟨dx, upd_same⟩, (hR.kt k5).kt k7, ts', ?_, paired_mono (fun t' p q => k7.1 _ _ (k5.1 _ _ q)) hpp'⟩
        rw [upd_ne nyp.symm, upd_ne nyp.symm]
        exact hpa5
theorem scEndS : FnScope ["self", "steps", "stuck"] ["self"] (defScope (sSy 3)) := ⟨rfl, rfl, rfl, by decide +kernel, rfl, by decide +kernel, by decide +kernel⟩
def spEndS (C CU : Addr) : Sp := fun vs H Q E => ∃ (y pa : Addr) (L : List Nat) (R : Addr) (rs : List Rule) (wd tl : List Nat) (ps : List (List Nat × Nat)), vs = [.ref y] ∧ SyAt C H y pa L R rs wd tl ps ∧ (∀ ρ ∈ rs, RlOk ρ) ∧ wd.length ≤ 12 ∧ 1 ≤ tl.length ∧ tl.length ≤ 3 ∧ tl.length ≤ wd.length + 1 ∧
  ((Wt rs tl).2 = none → ∀ pa' H', H pa' = none → Kp y pa H H' → SyAt C H' y pa' L R rs [] [35] [] → Q (.str (T (soL rs ((Wt rs tl).1.map (·.2))))) H') ∧
  (∀ p, (Wt rs tl).2 = some p → ∀ d H', Same H H' → H d = none → H' d = some (.xd [(("place" : Str), .int ((wd.length + 1 - tl.length + p : Nat) : Int))]) → E (.ref CU) (some d) H')
theorem Wt_stuck {rs : List Rule} {tl : List Nat} {p : Nat} (h : (Wt rs tl).2 = some p) : p < tl.length := by
  have := wk_stuck rs (tl ++ [35]) tl.length 1 p (Nat.le_refl 1) h
  rw [len1] at this
  omega
theorem ok_endS {f C CU fI fPl fBg : Addr} {fd fdPl fdBg : FuncData} (F : Fun K "end" "Sayer.end" (sSy 3) f fd) (S : SyC K C) (U : PySem.UnsX.UnsTxt P K mg CU fI)
    (GPl : FnOk P w K mg base CX0 1 fPl fdPl ["self"] (spPlace C)) (mPl : Meth K C "_place" fPl) (bPl : Binds K fdPl ["self"] []) (GBg : FnOk P w K mg base CX0 1 fBg fdBg ["self"] (spBegin C)) (mBg : Meth K C "_begin" fBg) (bBg : Binds K fdBg ["self"] [])
    (DSt : Df P w K mg base "steps_of" ["rules", "tail"] 3 spSt) (DNu : Df P w K mg base "numbers_of" ["steps"] 1 spNum) (DSo : Df P w K mg base "sounds_of" ["rules", "numbers"] 1 spSou) :
    FnOk P w K mg base (L2.CX P w) 4 f fd ["self"] (spEndS C CU) := by
  obtain ⟨fSt, fdSt, GSt, kSt, bSt, mSt⟩ := DSt
  obtain ⟨fNu, fdNu, GNu, kNu, bNu, mNu⟩ := DNu
  obtain ⟨fSo, fdSo, GSo, kSo, bSo, mSo⟩ := DSo
  refine F.okX scEndS (fun vs H Q E h => ?_) (fun cdv A outer s H vs Q E hr h => ?_)
  · obtain ⟨y, pa, L, R, rs, wd, tl, ps, rfl, _⟩ := h
    rfl
  · obtain ⟨y, pa, L, R, rs, wd, tl, ps, rfl, hS, ho, h12, t1, t3, tw, qT, qE⟩ := h
    have hr1 : Room 1 _ := hr.mono (by decide)
    have hr3 : Room 3 _ := hr
    refine ⟨_, pss_cons (ps_asg (pe_call GSt hr3 (by rfl) mSt kSt bSt .nil pass0 (pa_cons (pe_fld (pv 0) rfl) (pa_cons (pe_fld (pv 0) rfl) pa_nil))) (pg_tup (by rfl) (pgs_cons (pg_name (i := 1) scEndS.nd rfl (.inl rfl)) (pgs_cons (pg_name (i := 2) scEndS.nd rfl (.inl rfl)) pgs_nil))))
      (pss_cons (ps_if (pt_cmpR op_notN (pv 2) pe_non (nomark _)) (pss_one (ps_raiseUns rfl U hr (takes_of rfl rfl rfl rfl) (by exact (pa_cons (pe_op op_add (pe_meth0 (pv 0) S.cl mPl GPl hr1 bPl .nil pass0) (pv 2)) pa_nil)))) pss_nil)
      (pss_cons (ps_expr (pe_meth0 (pv 0) S.cl mBg GBg hr1 bBg .nil pass0))
      (pss_one (ps_ret (pe_call GSo hr1 (by rfl) mSo kSo bSo .nil pass0 (pa_cons (pe_fld (pv 0) rfl) (pa_cons (pe_call GNu hr1 (by rfl) mNu kNu bNu .nil pass0 (pa_cons (pv 1) pa_nil)) pa_nil))))))), ?_⟩
    obtain ⟨⟨dx, hy⟩, hR, ts, hpa, hpp⟩ := id hS
    have nyp := hS.ne
    refine ⟨_, rfl, y, C, dx, _, _, rfl, hy, S.cl, S.nR, f_rul, _, rfl, y, C, dx, _, _, rfl, hy, S.cl, S.nT, f_tl, ?_⟩
    refine ⟨R, rs, tl, rfl, hR, ho, t1, by omega, fun t D H1 s1 hD ht hSt => ?_⟩
    have hy1 := s1 _ _ hy
    refine ⟨t, _, rfl, .inl (.inl ht), rfl, _, _, rfl, _, _, rfl, rfl, ?_⟩
    refine ⟨_, rfl, rfl, _, rfl, ?_⟩
    cases e : (Wt rs tl).2 with
    | some p =>
      have hp := Wt_stuck e
      refine iteT ?_
      refine ⟨_, rfl, y, dx, _, rfl, hy1, rfl, y, dx, L, R, pa, wd, tl, rfl, hy1, by omega, t1, tw, ?_⟩
      refine ⟨_, rfl, _, _, rfl, rfl, ?_⟩
      refine ⟨wd.length + 1 - tl.length + p, ?_, by omega, fun d hd => ?_⟩
      · show [V.int (((wd.length + 1 - tl.length : Nat) : Int) + ((p : Nat) : Int))] = _
        rw [← Int.natCast_add]
      · exact qE p e d _ (s1.trans (same_new hd _)) (s1.free hd) upd_same
    | none =>
      refine iteF ?_
      refine ⟨_, rfl, y, dx, _, rfl, hy1, rfl, y, dx, _, rfl, hy1, (by show 5 ≤ 100; decide), fun pa' H2 hpa' hy2 hp2 st2 => ?_⟩
      have npa' : H pa' = none := s1.free hpa'
      have k12 : KT H1 H2 := KT.by fun t' xs h hu => st2 _ _ h (ne_of h hy1 (by rcases hu with ⟨_, rfl⟩ | ⟨_, _, rfl⟩ <;> (intro z; cases z)))
      have hSt2 : StepsAt H2 D (Wt rs tl).1 := by
        obtain ⟨ts2, e1, e2⟩ := hSt
        exact ⟨ts2, st2 _ _ e1 (ne_of e1 hy1 (by intro z; cases z)), paired_mono (fun t' ρ q => k12.1 _ _ q) e2⟩
      have hl : (Wt rs tl).1.length ≤ tl.length := wk_len rs (tl ++ [35]) tl.length 1
      have hy2' : H2 y = some (.ins C dx (fldS L R [] [35] pa')) := hy2
      refine ⟨_, rfl, y, C, dx, _, _, rfl, hy2', S.cl, S.nR, f_rul, _, rfl, D, _, rfl, hSt2, by omega, fun D' H3 s3 hD' h3 => ?_⟩
      refine ⟨R, D', rs, (Wt rs tl).1.map (·.2), rfl, ((hR.kt (.of s1)).kt k12).kt (.of s3), ho, by rw [h3, List.map_map]; rfl, fun k hk => ?_, by rw [List.length_map]; omega, fun H4 s4 => ?_⟩
      · obtain ⟨st, hst, rfl⟩ := List.mem_map.mp hk
        exact wk_lt _ _ st hst
      · have s24 := s3.trans s4
        refine qT e pa' H4 npa' (fun b o hb n1 n2 => s24 _ _ (st2 _ _ (s1 _ _ hb) n1)) ⟨⟨dx, s24 _ _ hy2'⟩, ((hR.kt (.of s1)).kt k12).kt (.of s24), [], s24 _ _ hp2, .nil⟩
theorem scInit : FnScope ["self", "book", "letters", "rules", "_"] ["self", "book"] (defScope (sSy 0)) := ⟨rfl, rfl, rfl, by decide +kernel, rfl, by decide +kernel, by decide +kernel⟩
def spInitS (C : Addr) : Sp := fun vs H Q _ => ∃ (y dx b : Addr) (L : List Nat) (rs : List Rule) (es : List Exc), vs = [.ref y, .ref b] ∧ H y = some (.ins C dx []) ∧ BookAt H b L rs es ∧ BookOk L rs es ∧
  ∀ (pa R : Addr) (H' : Hp), H pa = none → Stp y H H' → SyAt C H' y pa L R rs [] [35] [] → Q .non H'
theorem ok_initS {f C fBg : Addr} {fd fdBg : FuncData} (F : Fun K "__init__" "Sayer.__init__" (sSy 0) f fd) (S : SyC K C) (GBg : FnOk P w K mg base CX0 1 fBg fdBg ["self"] (spBegin C)) (mBg : Meth K C "_begin" fBg) (bBg : Binds K fdBg ["self"] [])
    (DCh : Df P w K mg base "checked_book" ["book"] 5 spCh) : FnOk P w K mg base CX0 6 f fd ["self", "book"] (spInitS C) := by
  obtain ⟨fCh, fdCh, GCh, kCh, bCh, mCh⟩ := DCh
  refine F.ok scInit (fun vs H Q E h => ?_) (fun cdv A outer s H vs Q E hr h => ?_)
  · obtain ⟨y, dx, b, L, rs, es, rfl, _⟩ := h
    rfl
  · obtain ⟨y, dx, b, L, rs, es, rfl, hy, hB, oB, q⟩ := h
    have hr1 : Room 1 _ := hr.mono (by decide)
    have hr5 : Room 5 _ := hr
    refine ⟨_, pss_cons (ps_asg (pe_call GCh hr5 (by rfl) mCh kCh bCh .nil pass0 (pa_cons (pv 1) pa_nil)) (pg_tup (by rfl) (pgs_cons (pg_name (i := 2) scInit.nd rfl (.inl rfl)) (pgs_cons (pg_name (i := 3) scInit.nd rfl (.inl rfl)) (pgs_cons (pg_name (i := 4) scInit.nd rfl (.inl rfl)) pgs_nil)))))
      (pss_cons (ps_fld (pv 0) (pv 2) rfl)
      (pss_cons (ps_fld (pv 0) (pv 3) rfl)
      (pss_one (ps_expr (pe_meth0 (pv 0) S.cl mBg GBg hr1 bBg .nil pass0))))), ?_⟩
    refine ⟨_, rfl, b, L, rs, es, rfl, hB, oB, fun H1 s1 => ?_⟩
    obtain ⟨R, X, hb, hR, hX⟩ := hB.kt (.of s1)
    have hy1 := s1 _ _ hy
    refine ⟨b, _, rfl, .inl (.inl hb), rfl, _, _, rfl, _, _, rfl, _, _, rfl, rfl, ?_⟩
    refine ⟨_, rfl, _, rfl, y, C, dx, _, rfl, hy1, S.cl, S.nL, (by show 0 < 1000; decide), ?_⟩
    refine ⟨_, rfl, _, rfl, y, C, dx, _, rfl, upd_same, S.cl, S.nR, (by show 1 < 1000; decide), ?_⟩
    refine ⟨_, rfl, y, dx, _, rfl, upd_same, rfl, y, dx, _, rfl, upd_same, (by show 2 ≤ 100; decide), fun pa H2 hpa hy2 hp2 st2 => ?_⟩
    have npa : H1 pa = none := by
      have n : pa ≠ y := fun z => by rw [z, upd_same] at hpa; cases hpa
      rw [upd_ne n, upd_ne n] at hpa
      exact hpa
    have st : Stp y H H2 := fun b' o hb' n => st2 _ _ (by rw [upd_ne n, upd_ne n]; exact s1 _ _ hb') n
    have kt : KT H1 H2 := KT.by fun t' xs h hu => by
      have n := ne_of h hy1 (by rcases hu with ⟨_, rfl⟩ | ⟨_, _, rfl⟩ <;> (intro z; cases z))
      exact st2 _ _ (by rw [upd_ne n, upd_ne n]; exact h) n
    exact q pa R H2 (s1.free npa) st ⟨⟨dx, hy2⟩, hR.kt kt, [], hp2, .nil⟩
end
end Say
namespace Say
open PySem PySem.Spec PyProof.Rows L2
/-! ### doors at which a good book stands, and a word, sounds, a number that can't be -/
section
variable {P : Program} {w : World} {K : PySem.W.Frag} {mg : Str → Option Value} {base : Heap} {CB : Addr}
abbrev sKSaid : Stmt := topS 60
abbrev nKSaid : List Str := ["book", "word", "letters", "rules", "exceptions", "written", "sounds"]
theorem scKSaid : FnScope nKSaid ["book", "word"] (defScope sKSaid) := ⟨rfl, rfl, rfl, by decide +kernel, rfl, by decide +kernel, by decide +kernel⟩
abbrev sKWalk : Stmt := topS 59
abbrev nKWalk : List Str := ["book", "word", "letters", "rules", "_"]
theorem scKWalk : FnScope nKWalk ["book", "word"] (defScope sKWalk) := ⟨rfl, rfl, rfl, by decide +kernel, rfl, by decide +kernel, by decide +kernel⟩
abbrev sKUse : Stmt := topS 80
abbrev nKUse : List Str := ["book", "number", "letters", "rules", "_"]
theorem scKUse : FnScope nKUse ["book", "number"] (defScope sKUse) := ⟨rfl, rfl, rfl, by decide +kernel, rfl, by decide +kernel, by decide +kernel⟩
abbrev sKWr : Stmt := topS 65
abbrev nKWr : List Str := ["book", "sounds", "long", "letters", "rules", "exceptions", "excepted", "found", "word", "told"]
theorem scKWr : FnScope nKWr ["book", "sounds", "long"] (defScope sKWr) := ⟨rfl, rfl, rfl, by decide +kernel, rfl, by decide +kernel, by decide +kernel⟩
def spCwV (K : PySem.W.Frag) (CW : Addr) : Sp := fun vs H Q E => ∃ (L : List Nat) (v : V), vs = [.str (T L), v] ∧ VOk K H v ∧ (txV v L 0 12 = true → ∀ H', Same H H' → Q .non H') ∧ (txV v L 0 12 = false → ∀ H', Same H H' → E (.ref CW) none H')
theorem ok_cwV {f CW : Addr} {fd : FuncData} (F : Fun K "check_word" "check_word" sChW f fd) (cL : KI mg "LONGEST_WORD" 12) (R : RaQ K mg "BadWord" CW) (DT : Df P w K mg base "is_text" psIsText 1 (spTxV K)) : FnOk P w K mg base (L2.CX P w) 2 f fd ["letters", "word"] (spCwV K CW) := by
  obtain ⟨fT, fdT, GT, kT, bT, mT⟩ := DT
  obtain ⟨tS, mS⟩ := cL
  refine F.okX scChW (fun vs H Q E h => ?_) (fun cdv A outer s H vs Q E hr h => ?_)
  · obtain ⟨L, v, rfl, _⟩ := h
    rfl
  · obtain ⟨L, v, rfl, hv, q1, q2⟩ := h
    refine ⟨_, pss_one (ps_if (pt_not (pt_val (pe_call GT hr (by rfl) mT kT bT .nil pass0 (pa_cons (pv 1) (pa_cons (pv 0) (pa_cons pe_int (pa_cons (pe_glob (v := .int 12) rfl mS ⟨_, rfl⟩) pa_nil))))))) (pss_one (ps_raise rfl (takes_of rfl rfl rfl rfl) (pmk_own PySem.F.excBase_ValueError R.ex R.g R.k (raises_own R.b R.t) rfl))) pss_nil), ?_⟩
    refine ⟨_, rfl, _, rfl, v, L, 0, 12, rfl, hv, fun H1 s1 => ⟨_, rfl, ?_⟩⟩
    cases c : txV v L 0 12 with
    | true => exact iteF (q1 c H1 s1)
    | false => exact iteT (q2 c H1 s1)
def spWdX (K : PySem.W.Frag) (CW : Addr) : Sp := fun vs H Q E => ∃ (b : Addr) (v : V) (L : List Nat) (rs : List Rule) (es : List Exc), vs = [.ref b, v] ∧ BookAt H b L rs es ∧ BookOk L rs es ∧ VOk K H v ∧ txV v L 0 12 = false ∧ ∀ H', Same H H' → E (.ref CW) none H'
theorem wx_said {f fW CW : Addr} {fd fdW : FuncData} (F : Fun K "said" "said" sKSaid f fd) (DC : Df P w K mg base "checked_book" ["book"] 5 spCh) (GW : FnOk P w K mg base (L2.CX P w) 2 fW fdW ["letters", "word"] (spCwV K CW)) (kW : PySem.W.keepIn K (.ref fW) = true) (bW : Binds K fdW ["letters", "word"] []) (mW : mg "check_word" = some (.ref fW)) :
    FnOk P w K mg base (L2.CX P w) 6 f fd ["book", "word"] (spWdX K CW) := by
  obtain ⟨fC, fdC, GC, kC, bC, mC⟩ := DC
  refine F.okX scKSaid (fun vs H Q E h => ?_) (fun cdv A outer s H vs Q E hr h => ?_)
  · obtain ⟨b, v, L, rs, es, rfl, _⟩ := h
    rfl
  · obtain ⟨b, v, L, rs, es, rfl, hB, ho, hv, hx, q⟩ := h
    have tk : Takes _ (fun cls d _ H => E cls d H) := takes_of (X := cxOf (L2.CX P w) P w K mg base nKSaid "said" (defScope sKSaid) f cdv A outer s H E) rfl rfl rfl rfl
    refine ⟨_, pss_cons (ps_asg (pe_call GC hr (by rfl) mC kC bC .nil pass0 (pa_cons (pv 0) pa_nil)) (pg_tup (by rfl) (pgs_cons (pg_name (i := 2) scKSaid.nd rfl (.inl rfl)) (pgs_cons (pg_name (i := 3) scKSaid.nd rfl (.inl rfl)) (pgs_cons (pg_name (i := 4) scKSaid.nd rfl (.inl rfl)) pgs_nil)))))
      (pss_cons (ps_expr (pe_callS GW (hr.mono (by decide)) (by rfl) mW kW bW (fun σ => passAt tk σ) (by exact (pa_cons (pv 2) (pa_cons (pv 1) pa_nil))))) (pss_cons ps_never (pss_one ps_never))), ?_⟩
    refine ⟨_, rfl, b, L, rs, es, rfl, hB, ho, fun H1 s1 => ?_⟩
    obtain ⟨R, X, hb, hR, hX⟩ := hB.kt (.of s1)
    refine ⟨b, _, rfl, .inl (.inl hb), rfl, _, _, rfl, _, _, rfl, _, _, rfl, rfl, ?_⟩
    exact ⟨_, rfl, _, rfl, L, v, rfl, hv.same s1, (fun c => by rw [hx] at c; cases c), fun _ H2 s2 => q H2 (s1.trans s2)⟩
theorem wx_walk {f fW CW : Addr} {fd fdW : FuncData} (F : Fun K "walk" "walk" sKWalk f fd) (DC : Df P w K mg base "checked_book" ["book"] 5 spCh) (GW : FnOk P w K mg base (L2.CX P w) 2 fW fdW ["letters", "word"] (spCwV K CW)) (kW : PySem.W.keepIn K (.ref fW) = true) (bW : Binds K fdW ["letters", "word"] []) (mW : mg "check_word" = some (.ref fW)) :
    FnOk P w K mg base (L2.CX P w) 6 f fd ["book", "word"] (spWdX K CW) := by
  obtain ⟨fC, fdC, GC, kC, bC, mC⟩ := DC
  refine F.okX scKWalk (fun vs H Q E h => ?_) (fun cdv A outer s H vs Q E hr h => ?_)
  · obtain ⟨b, v, L, rs, es, rfl, _⟩ := h
    rfl
  · obtain ⟨b, v, L, rs, es, rfl, hB, ho, hv, hx, q⟩ := h
    have tk : Takes _ (fun cls d _ H => E cls d H) := takes_of (X := cxOf (L2.CX P w) P w K mg base nKWalk "walk" (defScope sKWalk) f cdv A outer s H E) rfl rfl rfl rfl
    refine ⟨_, pss_cons (ps_asg (pe_call GC hr (by rfl) mC kC bC .nil pass0 (pa_cons (pv 0) pa_nil)) (pg_tup (by rfl) (pgs_cons (pg_name (i := 2) scKWalk.nd rfl (.inl rfl)) (pgs_cons (pg_name (i := 3) scKWalk.nd rfl (.inl rfl)) (pgs_cons (pg_name (i := 4) scKWalk.nd rfl (.inl rfl)) pgs_nil)))))
      (pss_cons (ps_expr (pe_callS GW (hr.mono (by decide)) (by rfl) mW kW bW (fun σ => passAt tk σ) (by exact (pa_cons (pv 2) (pa_cons (pv 1) pa_nil))))) (pss_one ps_never)), ?_⟩
    refine ⟨_, rfl, b, L, rs, es, rfl, hB, ho, fun H1 s1 => ?_⟩
    obtain ⟨R, X, hb, hR, hX⟩ := hB.kt (.of s1)
    refine ⟨b, _, rfl, .inl (.inl hb), rfl, _, _, rfl, _, _, rfl, _, _, rfl, rfl, ?_⟩
    exact ⟨_, rfl, _, rfl, L, v, rfl, hv.same s1, (fun c => by rw [hx] at c; cases c), fun _ H2 s2 => q H2 (s1.trans s2)⟩
/-- Desk.say of no word -/
theorem scDSayK : FnScope ["self", "word"] ["self", "word"] (defScope (sDk 2)) := ⟨rfl, rfl, rfl, by decide +kernel, rfl, by decide +kernel, by decide +kernel⟩
def spDSayX (K : PySem.W.Frag) (C CW : Addr) : Sp := fun vs H Q E => ∃ (y b t : Addr) (L : List Nat) (rs : List Rule) (es : List Exc) (ws : List Str) (i : Bool) (v : V), vs = [.ref y, v] ∧ DkAt C H y b t L rs es ws i ∧ BookOk L rs es ∧ VOk K H v ∧ txV v L 0 12 = false ∧ ∀ H', Same H H' → E (.ref CW) none H'
theorem wx_dsay {f C CW fS : Addr} {fd fdS : FuncData} (F : Fun K "say" "Desk.say" (sDk 2) f fd) (S : DkC K C) (GS : FnOk P w K mg base (L2.CX P w) 6 fS fdS ["book", "word"] (spWdX K CW)) (kS : PySem.W.keepIn K (.ref fS) = true) (bS : Binds K fdS ["book", "word"] []) (mS : mg "said" = some (.ref fS)) :
    FnOk P w K mg base (L2.CX P w) 7 f fd ["self", "word"] (spDSayX K C CW) := by
  refine F.okX scDSayK (fun vs H Q E h => ?_) (fun cdv A outer s H vs Q E hr h => ?_)
  · obtain ⟨y, b, t, L, rs, es, ws, i, v, rfl, _⟩ := h
    rfl
  · obtain ⟨y, b, t, L, rs, es, ws, i, v, rfl, hk, ho, hv, hx, q⟩ := h
    have tk : Takes _ (fun cls d _ H => E cls d H) := takes_of (X := cxOf (L2.CX P w) P w K mg base ["self", "word"] "Desk.say" (defScope (sDk 2)) f cdv A outer s H E) rfl rfl rfl rfl
    refine ⟨_, pss_one (ps_ret (pe_callS GS hr (by rfl) mS kS bS (fun σ => passAt tk σ) (by exact (pa_cons (pe_fld (pv 0) rfl) (pa_cons (pv 1) pa_nil))))), ?_⟩
    obtain ⟨⟨dx, hy⟩, hB, hto⟩ := id hk
    exact ⟨_, rfl, y, C, dx, _, _, rfl, hy, S.cl, S.nB, d_bk, _, rfl, b, v, L, rs, es, rfl, hB, ho, hv, hx, q⟩
/-- Sayer.feed of no letter -/
def spFeedX (K : PySem.W.Frag) (C CW : Addr) : Sp := fun vs H Q E => ∃ (y pa : Addr) (L : List Nat) (R : Addr) (wd tl : List Nat) (v : V), vs = [.ref y, v] ∧ (∃ dx, H y = some (.ins C dx (fldS L R wd tl pa))) ∧ VOk K H v ∧ txV v L 1 1 = false ∧ ∀ H', Same H H' → E (.ref CW) none H'
theorem wx_feed {f C CW : Addr} {fd : FuncData} (F : Fun K "feed" "Sayer.feed" (sSy 1) f fd) (S : SyC K C) (B : Bn mg) (R : RaQ K mg "BadWord" CW) (DT : Df P w K mg base "is_text" psIsText 1 (spTxV K)) (cW : KI mg "LONGEST_WORD" 12) :
    FnOk P w K mg base (L2.CX P w) 2 f fd ["self", "letter"] (spFeedX K C CW) := by
  obtain ⟨fT, fdT, GT, kT, bT, mT⟩ := DT
  obtain ⟨tW, mW⟩ := cW
  refine F.okX scFeed (fun vs H Q E h => ?_) (fun cdv A outer s H vs Q E hr h => ?_)
  · obtain ⟨y, pa, L, R, wd, tl, v, rfl, _⟩ := h
    rfl
  · obtain ⟨y, pa, L, R', wd, tl, v, rfl, ⟨dx, hy⟩, hv, hx, q⟩ := h
    refine ⟨_, pss_cons (ps_if (PW.pt (pw_or (pt_not (pt_val (pe_call GT hr (by rfl) mT kT bT .nil pass0 (pa_cons (pv 1) (pa_cons (pe_fld (pv 0) rfl) (pa_cons pe_int (pa_cons pe_int pa_nil))))))) (pw_or1 (pt_cmpR op_eq (pe_callB call_len_str (by rfl) B.len PySem.boot_len (pa_cons (pe_fld (pv 0) rfl) pa_nil)) (pe_glob (v := .int 12) rfl mW ⟨_, rfl⟩) (nomark _))))) (pss_one (ps_raise rfl (takes_of rfl rfl rfl rfl) (pmk_own PySem.F.excBase_ValueError R.ex R.g R.k (raises_own R.b R.t) rfl))) pss_nil)
      (pss_cons ps_never (pss_cons ps_never (pss_cons ps_never (pss_cons ps_never (pss_cons ps_never (pss_cons ps_never (pss_one ps_never))))))), ?_⟩
    refine ⟨_, rfl, _, rfl, y, C, dx, _, _, rfl, hy, S.cl, S.nL, f_let, v, L, 1, 1, rfl, hv, fun H1 s1 => ?_⟩
    rw [hx]
    exact ⟨false, rfl, iteT (q H1 s1)⟩
/-- use of no number -/
def spUseX (CC : Addr) : Sp := fun vs H Q E => ∃ (b : Addr) (v : V) (L : List Nat) (rs : List Rule) (es : List Exc), vs = [.ref b, v] ∧ BookAt H b L rs es ∧ BookOk L rs es ∧ NumV v ∧ cntV v (rs.length - 1) = false ∧ ∀ H', Same H H' → E (.ref CC) none H'
theorem wx_use {f CC : Addr} {fd : FuncData} (F : Fun K "use" "use" sKUse f fd) (B : Bn mg) (DC : Df P w K mg base "checked_book" ["book"] 5 spCh) (DN : Df P w K mg base "is_count" ["number", "most"] 1 spCnV) (R : RaQ K mg "BadCount" CC) :
    FnOk P w K mg base (L2.CX P w) 6 f fd ["book", "number"] (spUseX CC) := by
  obtain ⟨fC, fdC, GC, kC, bC, mC⟩ := DC
  obtain ⟨fN, fdN, GN, kN, bN, mN⟩ := DN
  refine F.okX scKUse (fun vs H Q E h => ?_) (fun cdv A outer s H vs Q E hr h => ?_)
  · obtain ⟨b, v, L, rs, es, rfl, _⟩ := h
    rfl
  · obtain ⟨b, v, L, rs, es, rfl, hB, ho, hv, hx, q⟩ := h
    refine ⟨_, pss_cons (ps_asg (pe_call GC hr (by rfl) mC kC bC .nil pass0 (pa_cons (pv 0) pa_nil)) (pg_tup (by rfl) (pgs_cons (pg_name (i := 2) scKUse.nd rfl (.inl rfl)) (pgs_cons (pg_name (i := 3) scKUse.nd rfl (.inl rfl)) (pgs_cons (pg_name (i := 4) scKUse.nd rfl (.inl rfl)) pgs_nil)))))
      (pss_cons (ps_if (pt_not (pt_val (pe_call GN (hr.mono (by decide)) (by rfl) mN kN bN .nil pass0 (pa_cons (pv 1) (pa_cons (pe_op op_sub (pe_callB call_len (by rfl) B.len PySem.boot_len (pa_cons (pv 3) pa_nil)) pe_int) pa_nil))))) (pss_one (ps_raise rfl (takes_of rfl rfl rfl rfl) (pmk_own PySem.F.excBase_ValueError R.ex R.g R.k (raises_own R.b R.t) rfl))) pss_nil) (pss_one ps_never)), ?_⟩
    refine ⟨_, rfl, b, L, rs, es, rfl, hB, ho, fun H1 s1 => ?_⟩
    obtain ⟨Ra, X, hb, hR, hX⟩ := hB.kt (.of s1)
    obtain ⟨rts, hRl, hRp⟩ := id hR
    have lr : (rts.map V.ref).length = rs.length := by rw [List.length_map, paired_len hRp]
    refine ⟨b, _, rfl, .inl (.inl hb), rfl, _, _, rfl, _, _, rfl, _, _, rfl, rfl, ?_⟩
    refine ⟨_, rfl, _, rfl, _, _, rfl, .inr ⟨_, .inl (.inl hRl), rfl⟩, _, _, rfl, rfl, v, _, rfl, hv, false, ?_, iteT (q H1 s1)⟩
    rw [lr, hx]
/-- writings of no sounds, of no number of letters -/
def spWrX (K : PySem.W.Frag) (CS CC : Addr) : Sp := fun vs H Q E => ∃ (b : Addr) (so lg : V) (L : List Nat) (rs : List Rule) (es : List Exc), vs = [.ref b, so, lg] ∧ BookAt H b L rs es ∧ BookOk L rs es ∧ VOk K H so ∧ NumV lg ∧ (txV so capsL 0 36 = false → ∀ H', Same H H' → E (.ref CS) none H') ∧ (txV so capsL 0 36 = true → cntV lg 7 = false ∧ ∀ H', Same H H' → E (.ref CC) none H')
theorem wx_wr {f fS CS CC : Addr} {fd fdS : FuncData} (F : FunD K "writings" "writings" (defArgs sKWr) (defBody sKWr) (defScope sKWr) [] [("long", .int 5)] f fd) (cW : KI mg "LONGEST_WRITING" 7) (DC : Df P w K mg base "checked_book" ["book"] 5 spCh) (DN : Df P w K mg base "is_count" ["number", "most"] 1 spCnV)
    (GS : FnOk P w K mg base (L2.CX P w) 3 fS fdS ["sounds"] (spCs K CS)) (kS : PySem.W.keepIn K (.ref fS) = true) (bS : Binds K fdS ["sounds"] []) (mS : mg "check_sounds" = some (.ref fS)) (R : RaQ K mg "BadCount" CC) :
    FnOk P w K mg base (L2.CX P w) 6 f fd ["book", "sounds", "long"] (spWrX K CS CC) := by
  obtain ⟨fC, fdC, GC, kC, bC, mC⟩ := DC
  obtain ⟨fN, fdN, GN, kN, bN, mN⟩ := DN
  obtain ⟨tW, mW⟩ := cW
  refine F.ok scKWr (fun vs H Q E h => ?_) (fun cdv A outer s H vs Q E hr h => ?_)
  · obtain ⟨b, so, lg, L, rs, es, rfl, _⟩ := h
    rfl
  · obtain ⟨b, so, lg, L, rs, es, rfl, hB, ho, hv, hn, q1, q2⟩ := h
    have tk : Takes _ (fun cls d _ H => E cls d H) := takes_of (X := cxOf (L2.CX P w) P w K mg base nKWr "writings" (defScope sKWr) f cdv A outer s H E) rfl rfl rfl rfl
    refine ⟨_, pss_cons (ps_asg (pe_call GC hr (by rfl) mC kC bC .nil pass0 (pa_cons (pv 0) pa_nil)) (pg_tup (by rfl) (pgs_cons (pg_name (i := 3) scKWr.nd rfl (.inl rfl)) (pgs_cons (pg_name (i := 4) scKWr.nd rfl (.inl rfl)) (pgs_cons (pg_name (i := 5) scKWr.nd rfl (.inl rfl)) pgs_nil)))))
      (pss_cons (ps_expr (pe_callS GS (hr.mono (by decide)) (by rfl) mS kS bS (fun σ => passAt tk σ) (by exact (pa_cons (pv 1) pa_nil))))
      (pss_cons (ps_if (pt_not (pt_val (pe_call GN (hr.mono (by decide)) (by rfl) mN kN bN .nil pass0 (pa_cons (pv 2) (pa_cons (pe_glob (v := .int 7) rfl mW ⟨_, rfl⟩) pa_nil))))) (pss_one (ps_raise rfl (takes_of rfl rfl rfl rfl) (pmk_own PySem.F.excBase_ValueError R.ex R.g R.k (raises_own R.b R.t) rfl))) pss_nil)
      (pss_cons ps_never (pss_cons ps_never (pss_cons ps_never (pss_one ps_never)))))), ?_⟩
    refine ⟨_, rfl, b, L, rs, es, rfl, hB, ho, fun H1 s1 => ?_⟩
    obtain ⟨Ra, X, hb, hR, hX⟩ := hB.kt (.of s1)
    refine ⟨b, _, rfl, .inl (.inl hb), rfl, _, _, rfl, _, _, rfl, _, _, rfl, rfl, ?_⟩
    refine ⟨_, rfl, so, rfl, hv.same s1, fun c H2 s2 => ?_, fun c H2 s2 => q1 c H2 (s1.trans s2)⟩
    obtain ⟨c7, q3⟩ := q2 c
    refine ⟨_, rfl, lg, _, rfl, hn, false, ?_, iteT (q3 H2 (s1.trans s2))⟩
    rw [c7]
end
end Say
namespace Say
open PySem PySem.Spec PyProof.Rows L2
theorem first_of {p : Nat → Prop} (h : ∃ n, p n) : ∃ n, p n ∧ ∀ m, m < n → ¬ p m := by
  obtain ⟨n, hn⟩ := h
  induction n using Nat.strongRecOn with
  | _ n ih =>
    by_cases c : ∃ m, m < n ∧ p m
    · obtain ⟨m, h1, h2⟩ := c
      exact ih m h1 h2
    · exact ⟨n, hn, fun m hm z => c ⟨m, hm, z⟩⟩
def letV (v : V) : Bool := txV v smallL 2 4 && riV v
/-- v as a tuple of rules: which are -/
def RsR (K : PySem.W.Frag) (H : Hp) (L : List Nat) (v : V) (o : Option (List Bool)) : Prop := (NoTup K H v ∧ o = none) ∨ ∃ t xs bs, v = .ref t ∧ SqT K H t xs ∧ xs.length ≤ 90 ∧ Paired (RulR K H L) xs bs ∧ o = some bs
def badRs (o : Option (List Bool)) (n : Nat) : Prop := match o with
  | none => n = 0
  | some bs => badR bs n
def EsR (K : PySem.W.Frag) (H : Hp) (L : List Nat) (v : V) (o : Option (List (Option (List Nat)))) : Prop := (NoTup K H v ∧ o = none) ∨ ∃ t xs ws, v = .ref t ∧ SqT K H t xs ∧ xs.length ≤ 90 ∧ Paired (ExcR K H L) xs ws ∧ o = some ws
def badEs (o : Option (List (Option (List Nat)))) (n : Nat) : Prop := match o with
  | none => n = 0
  | some ws => badE ws n
theorem RsR.same {K : PySem.W.Frag} {H H' : Hp} {L : List Nat} {v : V} {o : Option (List Bool)} (h : RsR K H L v o) (s : Same H H') : RsR K H' L v o := by
  rcases h with ⟨h, e⟩ | ⟨t, xs, bs, h1, h2, h3, h4, e⟩
  · exact .inl ⟨h.same s, e⟩
  · exact .inr ⟨t, xs, bs, h1, seqT_same s h2, h3, paired_mono (fun _ _ q => q.same s) h4, e⟩
theorem EsR.same {K : PySem.W.Frag} {H H' : Hp} {L : List Nat} {v : V} {o : Option (List (Option (List Nat)))} (h : EsR K H L v o) (s : Same H H') : EsR K H' L v o := by
  rcases h with ⟨h, e⟩ | ⟨t, xs, bs, h1, h2, h3, h4, e⟩
  · exact .inl ⟨h.same s, e⟩
  · exact .inr ⟨t, xs, bs, h1, seqT_same s h2, h3, paired_mono (fun _ _ q => q.same s) h4, e⟩
theorem refB.same {CB : Addr} {H H' : Hp} {E : XK} {p n : Int} (h : refB CB H E p n) (s : Same H H') : refB CB H' E p n := fun d H2 s2 hd hx => h d H2 (s.trans s2) (s.free hd) hx
section
variable {P : Program} {w : World} {K : PySem.W.Frag} {mg : Str → Option Value} {base : Heap} {CB fI : Addr}
def spChLV (K : PySem.W.Frag) (CB : Addr) : Sp := fun vs H Q E => ∃ (v : V), vs = [v] ∧ VOk K H v ∧ (letV v = true → ∀ (H' : Hp), Same H H' → Q .non H') ∧ (letV v = false → refB CB H E 0 0)
theorem ok_chLV {f : Addr} {fd : FuncData} (F : Fun K "check_letters" "check_letters" sChL f fd) (C : Cn mg) (cL : KI mg "LETTERS" 0) (O : PySem.XBadBook.ExTxt P K mg CB fI) (DT : Df P w K mg base "is_text" psIsText 1 (spTxV K)) (DR : Df P w K mg base "is_rising" ["text"] 1 spRise) :
    FnOk P w K mg base (L2.CX P w) 2 f fd ["letters"] (spChLV K CB) := by
  obtain ⟨fT, fdT, GT, kT, bT, mT⟩ := DT
  obtain ⟨fR, fdR, GR, kR, bR, mR⟩ := DR
  obtain ⟨tS, mS⟩ := C.small
  obtain ⟨tL, mL⟩ := cL
  refine F.okX scChL (fun vs H Q E h => ?_) (fun cdv A outer s H vs Q E hr h => ?_)
  · obtain ⟨L, rfl, _⟩ := h
    rfl
  · obtain ⟨v, rfl, hv, q1, q2⟩ := h
    refine ⟨_, pss_one (ps_if (PW.pt (pw_or (pt_not (pt_val (pe_call GT hr (by rfl) mT kT bT .nil pass0 (pa_cons (pv 0) (pa_cons (pe_glob (v := .str "abcdefghijklmnopqrstuvwxyz") rfl mS ⟨_, rfl⟩) (pa_cons pe_int (pa_cons pe_int pa_nil)))))))
        (pw_or1 (pt_not (pt_val (pe_call GR hr (by rfl) mR kR bR .nil pass0 (pa_cons (pv 0) pa_nil))))))) (pss_one (ps_raiseBadBook rfl O hr (takes_of rfl rfl rfl rfl) (by exact (pa_cons (pe_glob (v := .int 0) rfl mL ⟨_, rfl⟩) (pa_cons pe_int pa_nil))))) pss_nil), ?_⟩
    unfold letV at q1 q2
    refine ⟨_, rfl, v, smallL, 2, 4, (by rw [small_eq]; rfl), hv, fun H1 s1 => ?_⟩
    cases c1 : txV v smallL 2 4 with
    | false =>
      rw [c1] at q2
      refine ⟨false, rfl, iteT ?_⟩
      exact ⟨0, 0, rfl, ⟨by decide, by decide⟩, ⟨by decide, by decide⟩, fun d hd => q2 rfl d _ (s1.trans (same_new hd _)) (s1.free hd) upd_same⟩
    | true =>
      rw [c1, Bool.true_and] at q1 q2
      refine ⟨true, rfl, iteF ?_⟩
      obtain ⟨z, rfl, hz⟩ : ∃ z : List Nat, v = .str (T z) ∧ z.length ≤ 100 := by
        rcases hv with h | h
        · exact h
        · rcases h with rfl | ⟨i, rfl⟩ | ⟨a, xs, rfl, h⟩ | ⟨a, xs, rfl, h⟩ <;> cases c1
      refine ⟨_, rfl, z, rfl, hz, fun H2 s2 => ?_⟩
      have q1 : rises z = true → ∀ H', Same H H' → Q .non H' := q1
      have q2 : rises z = false → refB CB H E 0 0 := q2
      cases c2 : rises z with
      | true => exact ⟨true, rfl, iteF (q1 c2 H2 (s1.trans s2))⟩
      | false =>
        refine ⟨false, rfl, iteT ?_⟩
        exact ⟨0, 0, rfl, ⟨by decide, by decide⟩, ⟨by decide, by decide⟩, fun d hd => q2 c2 d _ ((s1.trans s2).trans (same_new hd _)) ((s1.trans s2).free hd) upd_same⟩
def spChRV (K : PySem.W.Frag) (CB : Addr) : Sp := fun vs H Q E => ∃ (L : List Nat) (v : V) (o : Option (List Bool)), vs = [.str (T L), v] ∧ L.length ≤ 50 ∧ RsR K H L v o ∧ ((∀ n, ¬ badRs o n) → ∀ (H' : Hp), Same H H' → Q .non H') ∧ (∀ n : Nat, badRs o n → (∀ m, m < n → ¬ badRs o m) → refB CB H E 1 n)
theorem ok_chRV {f : Addr} {fd : FuncData} (F : Fun K "check_rules" "check_rules" sChR f fd) (B : Bn mg) (C : Cn mg) (cR : KI mg "RULES" 1) (O : PySem.XBadBook.ExTxt P K mg CB fI) (DI : Df P w K mg base "is_rule" ["letters", "rule"] 3 (spIsRuV K)) :
    FnOk P w K mg base (L2.CX P w) 4 f fd ["letters", "rules"] (spChRV K CB) := by
  obtain ⟨fI, fdI, GI, kI, bI, mI⟩ := DI
  obtain ⟨tS, mS⟩ := C.mrul
  obtain ⟨tR, mR⟩ := cR
  refine F.okX scChR (fun vs H Q E h => ?_) (fun cdv A outer s H vs Q E hr h => ?_)
  · obtain ⟨L, v, o, rfl, _⟩ := h
    rfl
  · obtain ⟨L, v, o, rfl, hL, hv, q1, q2⟩ := h
    have px : PassesOwn (model P w) (A.deeper (envOfC "check_rules" (defScope sChR) s.heap.objs.size f cdv)) (envOfC "check_rules" (defScope sChR) s.heap.objs.size f cdv) (cxOf (L2.CX P w) P w K mg base ["letters", "rules", "number", "rule"] "check_rules" (defScope sChR) f cdv A outer s H E).xe := PassesOwn.leaving
    refine ⟨_, pss_cons (ps_if (pt_not (pt_val (pe_callB call_isi (by rfl) B.isi (by decide +kernel) (pa_cons (pv 1) (pa_cons (pe_bltn (v := .ty "tuple") rfl B.tup (by decide +kernel) rfl) pa_nil))))) (pss_one (ps_raiseBadBook rfl O hr (takes_of rfl rfl rfl rfl) (by exact (pa_cons (pe_glob (v := .int 1) rfl mR ⟨_, rfl⟩) (pa_cons pe_int pa_nil))))) pss_nil)
      (pss_one (ps_for px rfl (pi_enumT (by rfl) B.enu (pa_cons (pv 1) pa_nil)) (pg_tup (by rfl) (pgs_cons (pg_name (i := 2) scChR.nd rfl (.inl rfl)) (pgs_cons (pg_name (i := 3) scChR.nd rfl (.inl rfl)) pgs_nil)))
        (pss_one (ps_if (PW.pt (pw_or (pt_cmpR op_eq (pv 2) (pe_glob (v := .int 12) rfl mS ⟨_, rfl⟩) (nomark _)) (pw_or1 (pt_not (pt_val (pe_call GI hr (by rfl) mI kI bI .nil pass0 (pa_cons (pv 0) (pa_cons (pv 3) pa_nil)))))))) (pss_one (ps_raiseBadBook rfl O hr (takes_of rfl rfl rfl rfl) (by exact (pa_cons (pe_glob (v := .int 1) rfl mR ⟨_, rfl⟩) (pa_cons (pv 2) pa_nil))))) pss_nil)))), ?_⟩
    rcases hv with ⟨hn, rfl⟩ | ⟨t, xs, bs, rfl, ht, h90, hp, rfl⟩
    · obtain ⟨t, h1, h2⟩ := hn.ty
      refine ⟨_, rfl, v, _, .type t, _, false, rfl, ClsV.ty _, h1, kit_ty h2, false, rfl, iteT ?_⟩
      exact ⟨1, 0, rfl, ⟨by decide, by decide⟩, ⟨by decide, by decide⟩, fun d hd => q2 0 rfl (fun m hm => absurd hm (Nat.not_lt_zero m)) d _ (same_new hd _) hd upd_same⟩
    · have hl := paired_len hp
      refine ⟨_, rfl, _, _, .type "tuple", _, true, rfl, ClsV.ty _, tyT ht, kit_ty (by decide +kernel), true, rfl, iteF ?_⟩
      refine ⟨_, rfl, t, _, rfl, ht, for_it (walk_enumT (xs := xs)) (fun i σ H2 => Same H H2 ∧ (∃ v2 v3, σ = [some (.str (T L)), some (.ref t), v2, v3]) ∧ ∀ m, m < i → ¬ badR bs m) ⟨Same.refl H, ⟨_, _, rfl⟩, fun m hm => absurd hm (Nat.not_lt_zero m)⟩ (fun i σ H2 _ h => seqT_same h.1 ht) ?_ ?_⟩
      · rintro i x σ H2 H3 hi ⟨s2, ⟨v2, v3, rfl⟩, hb⟩ ⟨tt, x1, x2, rfl, htt, rfl, g1, g2⟩
        cases g1
        have g2 : xs[i]? = some x2 := g2
        obtain ⟨b, hbi, hv⟩ := paired_at hp g2
        have hib : i < bs.length := (List.getElem?_eq_some_iff.mp hbi).1
        have sm := same_new htt (.tup [.int (i : Nat), x2])
        refine ⟨tt, _, rfl, .inl (.inl upd_same), rfl, _, _, rfl, _, _, rfl, rfl, ?_⟩
        refine ⟨_, rfl, rfl, _, rfl, ?_⟩
        by_cases c : i = 12
        · rw [show decide (V.int ((i : Nat) : Int) = V.int 12) = true from decide_eq_true (by rw [c] <;> rfl)]
          refine iteT ?_
          exact ⟨_, rfl, 1, (i : Nat), rfl, ⟨by decide, by decide⟩, ⟨by omega, by omega⟩, fun d hd => q2 i ⟨hib, .inl c⟩ hb d _ ((s2.trans sm).trans (same_new hd _)) ((s2.trans sm).free hd) upd_same⟩
        · rw [show decide (V.int ((i : Nat) : Int) = V.int 12) = false from decide_eq_false fun z => c (by have := V.int.inj z; omega)]
          refine iteF ?_
          refine ⟨_, rfl, _, rfl, L, x2, b, rfl, hL, hv.same (s2.trans sm), fun H4 s4 => ?_⟩
          have s24 := (s2.trans sm).trans s4
          cases b with
          | true =>
            refine ⟨true, rfl, iteF ⟨s24, ⟨_, _, rfl⟩, fun m hm => ?_⟩⟩
            rcases Nat.lt_or_eq_of_le (Nat.le_of_lt_succ hm) with h | h
            · exact hb m h
            · rw [h]
              rintro ⟨_, z | z⟩
              · exact c z
              · rw [hbi] at z; cases z
          | false =>
            refine ⟨false, rfl, iteT ?_⟩
            exact ⟨_, rfl, 1, (i : Nat), rfl, ⟨by decide, by decide⟩, ⟨by omega, by omega⟩, fun d hd => q2 i ⟨hib, .inr hbi⟩ hb d _ (s24.trans (same_new hd _)) (s24.free hd) upd_same⟩
      · rintro σ H2 ⟨s2, _, hb⟩
        exact q1 (fun n hn => hb n (by have := hn.1; omega) hn) H2 s2
def spChEV (K : PySem.W.Frag) (CB : Addr) : Sp := fun vs H Q E => ∃ (L : List Nat) (v : V) (o : Option (List (Option (List Nat)))), vs = [.str (T L), v] ∧ EsR K H L v o ∧ ((∀ n, ¬ badEs o n) → ∀ (H' : Hp), Same H H' → Q .non H') ∧ (∀ n : Nat, badEs o n → (∀ m, m < n → ¬ badEs o m) → refB CB H E 2 n)
theorem ok_chEV {f : Addr} {fd : FuncData} (F : Fun K "check_exceptions" "check_exceptions" sChE f fd) (B : Bn mg) (cM : KI mg "MOST_EXCEPTIONS" 8) (cE : KI mg "EXCEPTIONS" 2) (O : PySem.XBadBook.ExTxt P K mg CB fI) (DI : Df P w K mg base "is_exception" ["letters", "pair"] 3 (spIsExV K)) :
    FnOk P w K mg base (L2.CX P w) 4 f fd ["letters", "exceptions"] (spChEV K CB) := by
  obtain ⟨fI, fdI, GI, kI, bI, mI⟩ := DI
  obtain ⟨tS, mS⟩ := cM
  obtain ⟨tR, mR⟩ := cE
  refine F.okX scChE (fun vs H Q E h => ?_) (fun cdv A outer s H vs Q E hr h => ?_)
  · obtain ⟨L, v, o, rfl, _⟩ := h
    rfl
  · obtain ⟨L, v, o, rfl, hv, q1, q2⟩ := h
    have px : PassesOwn (model P w) (A.deeper (envOfC "check_exceptions" (defScope sChE) s.heap.objs.size f cdv)) (envOfC "check_exceptions" (defScope sChE) s.heap.objs.size f cdv) (cxOf (L2.CX P w) P w K mg base ["letters", "exceptions", "last", "number", "pair"] "check_exceptions" (defScope sChE) f cdv A outer s H E).xe := PassesOwn.leaving
    refine ⟨_, pss_cons (ps_if (pt_not (pt_val (pe_callB call_isi (by rfl) B.isi (by decide +kernel) (pa_cons (pv 1) (pa_cons (pe_bltn (v := .ty "tuple") rfl B.tup (by decide +kernel) rfl) pa_nil))))) (pss_one (ps_raiseBadBook rfl O hr (takes_of rfl rfl rfl rfl) (by exact (pa_cons (pe_glob (v := .int 2) rfl mR ⟨_, rfl⟩) (pa_cons pe_int pa_nil))))) pss_nil)
      (pss_cons (ps_set (i := 2) scChE.nd rfl (.inl rfl) pe_str)
      (pss_one (ps_for px rfl (pi_enumT (by rfl) B.enu (pa_cons (pv 1) pa_nil)) (pg_tup (by rfl) (pgs_cons (pg_name (i := 3) scChE.nd rfl (.inl rfl)) (pgs_cons (pg_name (i := 4) scChE.nd rfl (.inl rfl)) pgs_nil)))
        (pss_cons (ps_if (PW.pt (pw_or (pt_cmpR op_eq (pv 3) (pe_glob (v := .int 8) rfl mS ⟨_, rfl⟩) (nomark _)) (pw_or (pt_not (pt_val (pe_call GI hr (by rfl) mI kI bI .nil pass0 (pa_cons (pv 0) (pa_cons (pv 4) pa_nil)))))
            (pw_or1 (pt_cmpR op_le_str (pe_ix ix_tup (pv 4) pe_int (fun _ _ => rfl)) (pv 2) (nomark _)))))) (pss_one (ps_raiseBadBook rfl O hr (takes_of rfl rfl rfl rfl) (by exact (pa_cons (pe_glob (v := .int 2) rfl mR ⟨_, rfl⟩) (pa_cons (pv 3) pa_nil))))) pss_nil)
        (pss_one (ps_set (i := 2) scChE.nd rfl (.inl rfl) (pe_ix ix_tup (pv 4) pe_int (fun _ _ => rfl)))))))), ?_⟩
    rcases hv with ⟨hn, rfl⟩ | ⟨t, xs, ws, rfl, ht, h90, hp, rfl⟩
    · obtain ⟨t, h1, h2⟩ := hn.ty
      refine ⟨_, rfl, v, _, .type t, _, false, rfl, ClsV.ty _, h1, kit_ty h2, false, rfl, iteT ?_⟩
      exact ⟨2, 0, rfl, ⟨by decide, by decide⟩, ⟨by decide, by decide⟩, fun d hd => q2 0 rfl (fun m hm => absurd hm (Nat.not_lt_zero m)) d _ (same_new hd _) hd upd_same⟩
    · have hl := paired_len hp
      refine ⟨_, rfl, _, _, .type "tuple", _, true, rfl, ClsV.ty _, tyT ht, kit_ty (by decide +kernel), true, rfl, iteF ?_⟩
      refine ⟨_, rfl, t, _, rfl, ht, for_it (walk_enumT (xs := xs)) (fun i σ H2 => Same H H2 ∧ (∃ v3 v4, σ = [some (.str (T L)), some (.ref t), some (.str (T (lastW ws i))), v3, v4]) ∧ ∀ m, m < i → ¬ badE ws m) ⟨Same.refl H, ⟨_, _, by rw [show lastW ws 0 = [] from rfl, ← show Str.ofString "" = T [] from nil_eq]; rfl⟩, fun m hm => absurd hm (Nat.not_lt_zero m)⟩ (fun i σ H2 _ h => seqT_same h.1 ht) ?_ ?_⟩
      · rintro i x σ H2 H3 hi ⟨s2, ⟨v3, v4, rfl⟩, hb⟩ ⟨tt, x1, x2, rfl, htt, rfl, g1, g2⟩
        cases g1
        have g2 : xs[i]? = some x2 := g2
        obtain ⟨b, hbi, hv⟩ := paired_at hp g2
        have hib : i < ws.length := (List.getElem?_eq_some_iff.mp hbi).1
        have sm := same_new htt (.tup [.int (i : Nat), x2])
        have ref : badE ws i → ∀ (H4 : Hp), Same H H4 → ∃ p n : Int, [V.int 2, V.int (i : Nat)] = [V.int p, V.int n] ∧ (-1 ≤ p ∧ p ≤ 100) ∧ (-1 ≤ n ∧ n ≤ 100) ∧ ∀ d, H4 d = none → E (.ref CB) (some d) (upd H4 d (.xd [(("number" : Str), .int n), (("part" : Str), .int p)])) := fun bd H4 s4 =>
          ⟨2, (i : Nat), rfl, ⟨by decide, by decide⟩, ⟨by omega, by omega⟩, fun d hd => q2 i bd hb d _ (s4.trans (same_new hd _)) (s4.free hd) upd_same⟩
        refine ⟨tt, _, rfl, .inl (.inl upd_same), rfl, _, _, rfl, _, _, rfl, rfl, ?_⟩
        refine ⟨_, rfl, rfl, _, rfl, ?_⟩
        by_cases c : i = 8
        · rw [show decide (V.int ((i : Nat) : Int) = V.int 8) = true from decide_eq_true (by rw [c] <;> rfl)]
          refine iteT ?_
          exact ⟨_, rfl, ref ⟨hib, .inl c⟩ _ (s2.trans sm)⟩
        · rw [show decide (V.int ((i : Nat) : Int) = V.int 8) = false from decide_eq_false fun z => c (by have := V.int.inj z; omega)]
          refine iteF ?_
          refine ⟨_, rfl, _, rfl, L, x2, b, rfl, hv.same (s2.trans sm), fun H4 s4 => ?_⟩
          have s24 := (s2.trans sm).trans s4
          cases b with
          | none =>
            refine ⟨false, rfl, iteT ?_⟩
            exact ⟨_, rfl, ref ⟨hib, .inr (.inl hbi)⟩ _ s24⟩
          | some wd =>
            refine ⟨true, rfl, iteF ?_⟩
            rcases hv.same s24 with ⟨_, e⟩ | ⟨_, _, _, _, _, e⟩ | ⟨u, a, z, rfl, hu, _, _, ⟨_, e⟩ | ⟨wd', rfl, _, e⟩⟩
            · cases e
            · cases e
            · cases e
            have e := Option.some.inj e
            subst e
            refine ⟨_, rfl, u, _, 0, .str (T wd), rfl, rfl, hu, atI_nat (j := 0) rfl, _, rfl, _, _, rfl, rfl, _, rfl, ?_⟩
            by_cases lt : lastW ws i < wd
            · rw [show decide ((T (lastW ws i)).cps.toList < (T wd).cps.toList) = true from decide_eq_true lt]
              refine iteF ?_
              refine ⟨_, rfl, u, _, 0, .str (T wd), rfl, rfl, hu, atI_nat (j := 0) rfl, ?_⟩
              refine ⟨s24, ⟨_, _, by rw [show lastW ws (i + 1) = wd by show (ws.getD i none).getD [] = wd; rw [List.getD_eq_getElem?_getD, hbi] <;> rfl]; rfl⟩, fun m hm => ?_⟩
              rcases Nat.lt_or_eq_of_le (Nat.le_of_lt_succ hm) with h | h
              · exact hb m h
              · rw [h]
                rintro ⟨_, z | z | ⟨w', z, n⟩⟩
                · exact c z
                · rw [hbi] at z; cases z
                · rw [hbi] at z
                  have := Option.some.inj (Option.some.inj z)
                  rw [← this] at n
                  exact n lt
            · rw [show decide ((T (lastW ws i)).cps.toList < (T wd).cps.toList) = false from decide_eq_false lt]
              refine iteT ?_
              exact ⟨_, rfl, ref ⟨hib, .inr (.inr ⟨wd, hbi, lt⟩)⟩ _ s24⟩
      · rintro σ H2 ⟨s2, _, hb⟩
        exact q1 (fun n hn => hb n (by have := hn.1; omega) hn) H2 s2
/-- any value as a book -/
def spChV (K : PySem.W.Frag) (CB : Addr) : Sp := fun vs H Q E => ∃ (v : V), vs = [v] ∧
  ((NoTup K H v ∧ refB CB H E (-1) 0) ∨ (∃ t xs, v = .ref t ∧ SqT K H t xs ∧ xs.length ≠ 3 ∧ refB CB H E (-1) 0) ∨
   ∃ t l r x, v = .ref t ∧ SqT K H t [l, r, x] ∧ VOk K H l ∧ (letV l = false → refB CB H E 0 0) ∧
     (∀ L, l = .str (T L) → letV l = true → ∃ o, RsR K H L r o ∧ (∀ n : Nat, badRs o n → (∀ m, m < n → ¬ badRs o m) → refB CB H E 1 n) ∧
       ((∀ n, ¬ badRs o n) → ∃ oe, EsR K H L x oe ∧ (∀ n : Nat, badEs oe n → (∀ m, m < n → ¬ badEs oe m) → refB CB H E 2 n) ∧ ((∀ n, ¬ badEs oe n) → ∀ H', Same H H' → Q v H'))))
theorem ok_chV {f : Addr} {fd : FuncData} (F : Fun K "checked_book" "checked_book" sCh f fd) (B : Bn mg) (cN : KI mg "NO_BOOK" (-1)) (O : PySem.XBadBook.ExTxt P K mg CB fI)
    {fL fR fE : Addr} {fdL fdR fdE : FuncData} (GL : FnOk P w K mg base (L2.CX P w) 2 fL fdL ["letters"] (spChLV K CB)) (kL : PySem.W.keepIn K (.ref fL) = true) (bL : Binds K fdL ["letters"] []) (mL : mg "check_letters" = some (.ref fL))
    (GR : FnOk P w K mg base (L2.CX P w) 4 fR fdR ["letters", "rules"] (spChRV K CB)) (kR : PySem.W.keepIn K (.ref fR) = true) (bR : Binds K fdR ["letters", "rules"] []) (mR : mg "check_rules" = some (.ref fR))
    (GE : FnOk P w K mg base (L2.CX P w) 4 fE fdE ["letters", "exceptions"] (spChEV K CB)) (kE : PySem.W.keepIn K (.ref fE) = true) (bE : Binds K fdE ["letters", "exceptions"] []) (mE : mg "check_exceptions" = some (.ref fE)) :
    FnOk P w K mg base (L2.CX P w) 5 f fd ["book"] (spChV K CB) := by
  obtain ⟨tN, mN⟩ := cN
  refine F.okX scCh (fun vs H Q E h => ?_) (fun cdv A outer s H vs Q E hr h => ?_)
  · obtain ⟨v, rfl, _⟩ := h
    rfl
  · obtain ⟨v, rfl, h⟩ := h
    have tk : Takes _ (fun cls d _ H => E cls d H) := takes_of (X := cxOf (L2.CX P w) P w K mg base ["book", "letters", "rules", "exceptions"] "checked_book" (defScope sCh) f cdv A outer s H E) rfl rfl rfl rfl
    refine ⟨_, pss_cons (ps_if (PW.pt (pw_or (pt_not (pt_val (pe_callB call_isi (by rfl) B.isi (by decide +kernel) (pa_cons (pv 0) (pa_cons (pe_bltn (v := .ty "tuple") rfl B.tup (by decide +kernel) rfl) pa_nil)))))
          (pw_or1 (pt_cmpR op_ne (pe_callB call_len (by rfl) B.len PySem.boot_len (pa_cons (pv 0) pa_nil)) pe_int (nomark _))))) (pss_one (ps_raiseBadBook rfl O hr (takes_of rfl rfl rfl rfl) (by exact (pa_cons (pe_glob (v := .int (-1)) rfl mN ⟨_, rfl⟩) (pa_cons pe_int pa_nil))))) pss_nil)
      (pss_cons (ps_asg (pv 0) (pg_tup (by rfl) (pgs_cons (pg_name (i := 1) scCh.nd rfl (.inl rfl)) (pgs_cons (pg_name (i := 2) scCh.nd rfl (.inl rfl)) (pgs_cons (pg_name (i := 3) scCh.nd rfl (.inl rfl)) pgs_nil)))))
      (pss_cons (ps_expr (pe_callS GL (hr.mono (by decide)) (by rfl) mL kL bL (fun σ => passAt tk σ) (by exact (pa_cons (pv 1) pa_nil))))
      (pss_cons (ps_expr (pe_callS GR hr (by rfl) mR kR bR (fun σ => passAt tk σ) (by exact (pa_cons (pv 1) (pa_cons (pv 2) pa_nil)))))
      (pss_cons (ps_expr (pe_callS GE hr (by rfl) mE kE bE (fun σ => passAt tk σ) (by exact (pa_cons (pv 1) (pa_cons (pv 3) pa_nil)))))
      (pss_one (ps_ret (pv 0))))))), ?_⟩
    have ref : refB CB H E (-1) 0 → ∃ p n : Int, [V.int (-1), V.int 0] = [V.int p, V.int n] ∧ (-1 ≤ p ∧ p ≤ 100) ∧ (-1 ≤ n ∧ n ≤ 100) ∧ ∀ d, H d = none → E (.ref CB) (some d) (upd H d (.xd [(("number" : Str), .int n), (("part" : Str), .int p)])) := fun q =>
      ⟨-1, 0, rfl, ⟨by decide, by decide⟩, ⟨by decide, by decide⟩, fun d hd => q d _ (same_new hd _) hd upd_same⟩
    rcases h with ⟨hn, q⟩ | ⟨t, xs, rfl, ht, hl, q⟩ | ⟨t, l, r, x, rfl, ht, hv, ql, q⟩
    · obtain ⟨t, h1, h2⟩ := hn.ty
      exact ⟨_, rfl, v, _, .type t, _, false, rfl, ClsV.ty _, h1, kit_ty h2, false, rfl, iteT (ref q)⟩
    · refine ⟨_, rfl, _, _, .type "tuple", _, true, rfl, ClsV.ty _, tyT ht, kit_ty (by decide +kernel), true, rfl, iteF ?_⟩
      refine ⟨_, rfl, _, _, rfl, .inr ⟨_, ht, rfl⟩, rfl, _, rfl, ?_⟩
      rw [show decide (V.int ((xs.length : Nat) : Int) = V.int 3) = false from decide_eq_false fun z => hl (by have := V.int.inj z; omega)]
      exact iteT (ref q)
    · refine ⟨_, rfl, _, _, .type "tuple", _, true, rfl, ClsV.ty _, tyT ht, kit_ty (by decide +kernel), true, rfl, iteF ?_⟩
      refine ⟨_, rfl, _, 3, rfl, .inr ⟨_, ht, rfl⟩, rfl, _, rfl, iteF ?_⟩
      refine ⟨_, rfl, t, _, rfl, ht, rfl, _, _, rfl, _, _, rfl, _, _, rfl, rfl, ?_⟩
      refine ⟨_, rfl, l, rfl, hv, fun hl H1 s1 => ?_, ql⟩
      obtain ⟨L, rfl, hz⟩ : ∃ z : List Nat, l = .str (T z) ∧ z.length ≤ 100 := by
        rcases hv with h | h
        · exact h
        · rcases h with rfl | ⟨i, rfl⟩ | ⟨a, xs, rfl, h⟩ | ⟨a, xs, rfl, h⟩ <;> cases hl
      have h4 : L.length ≤ 4 := by
        have : (isText L smallL 2 4 && rises L) = true := hl
        unfold isText at this
        simp only [Bool.and_eq_true, decide_eq_true_eq] at this
        exact this.1.2.1
      obtain ⟨o, hR, q2, q3⟩ := q L rfl hl
      refine ⟨_, rfl, _, rfl, L, r, o, rfl, by omega, hR.same s1, fun hno H2 s2 => ?_, fun n hn hm => (q2 n hn hm).same s1⟩
      obtain ⟨oe, hE, q4, q5⟩ := q3 hno
      refine ⟨_, rfl, _, rfl, L, x, oe, rfl, hE.same (s1.trans s2), fun hne H3 s3 => ?_, fun n hn hm => (q4 n hn hm).same (s1.trans s2)⟩
      exact ⟨_, rfl, q5 hne H3 ((s1.trans s2).trans s3)⟩
end
end Say
namespace PySem
namespace XBadSamples
open PySem.W PySem.Calls PyProof.Rows PySem.HandSPX
/-! ### the text of BadSamples.__init__ -/
abbrev sEx : Stmt := L2.inClass (Say.topS 12) 0
abbrev iA : Arguments := L2.defArgs sEx
abbrev iB : List Stmt := L2.defBody sEx
abbrev iS : Scope := L2.defScope sEx
def eF : Expr := match iB with
  | .Expr (.Call _ (e :: _) _ _) _ :: _ => e
  | _ => .Constant .none 0 ⟨0, 0, 0, 0⟩
theorem eF_eq : ∃ c1 c2 d2 c3 c0, eF = .JoinedStr [.Constant (.str "sample ") 0 c1, .FormattedValue (.Name "number" c2) (-1) none d2, .Constant (.str " can't be") 0 c3] c0 := ⟨_, _, _, _, _, rfl⟩
theorem slen (x y : Str) : (x ++ y).length = x.length + y.length := by rw [TL.len_tl, TL.tl_append, List.length_append, ← TL.len_tl, ← TL.len_tl]
theorem iS_cell : ∀ y ∈ iS.names, y.2 ≠ .cell := by decide +kernel
/-- what the written part says of BadSamples, at C, and of its __init__, at fI -/
structure ExTxt (P : Program) (K : Frag) (mg : Str → Option Value) (C fI : Addr) : Prop where
  gC : mg "BadSamples" = some (.ref C)
  sB : mg "super" = none
  cls : ∃ nm q N bs bm sn sub ab col dd k0 k1 k2 k3 k5, K.lookup C = some (excClassObj nm q C N bs bm true sn sub ab col dd k0 k1 k2 k3 k5 "ValueError.__new__") ∧ refsVE bm = true
  sa : findIn K (.ref C) "__setattr__" = some (some (.builtin "object.__setattr__"))
  noP0 : findIn K (.ref C) "number" = some none
  iC : findIn K (.ref C) "__init__" = some (some (.ref fI))
  tC : typeIn K (.ref fI) = some (.type "function")
  kC : keepIn K (.ref C) = true
  exC : subIn K (.ref C) (.type "BaseException") = some true
  tyC : typeIn K (.ref C) = some (.type "type")
  sup : ks_superIn K C C "__init__" = some (some (.builtin "ValueError.__init__"))
  subV : subIn K (.ref C) (.type "ValueError") = some true
  any : nsIn K cStatics "thirdparty.any" = some none
  main : (P.main.scope.names.lookup ("super" : Str)).isSome = false
  fn : ∃ (oc : Value) (od : Option Addr) (doc pm : Value) (an : Option Addr) (cda cc : Addr) (ct : Value) (osl : Array (Option Value)),
    K.lookup fI = some ⟨oc, od, .func (ksFn "__init__" "BadSamples.__init__" iA iB iS .none .none doc pm an (.ref cda) ct cc), osl⟩ ∧ codeIn K (.ref cda) "BadSamples.__init__" = true ∧
    (∃ cl cld csl, K.lookup cc = some ⟨cl, cld, .cell (some (.ref C)), csl⟩) ∧ ∃ ccl cdd vs ccs file tf, K.lookup cda = some ⟨ccl, cdd, .fields vs, ccs⟩ ∧ vs[2]? = some (.str file tf) ∧ ((P.main.file : Str) == file) = true
/-- what __init__ leaves of a fresh exception at x -/
structure InitEnd (h h' : Heap) (x C dx : Addr) (v0 : Value) : Prop where
  keep : ∀ b o, b ≠ x → h.get? b = some o → h'.get? b = some o
  obj : ∃ t1 : Addr, h'.get? x = some { cls := .ref C, dict := some dx, data := .fields #[.ref t1, .none, .none, .none, .bool false, .none] }
  dbig : h.objs.size ≤ dx
  dne : dx ≠ x
  ns : h'.Ns1 dx (fun y => if y = "number" then some v0 else none)
section
variable {prog : Program} {w : World} {A : Around} {E : Value → Shared → Prop} {R : Result → Shared → Prop} {s : Shared} {K : Frag} {mg : Str → Option Value} {C fI : Addr} {base : Heap}
theorem ld {M : Model} {s : Shared} {env : Env} {m : Str → Option Value} {x : Str} {pos : Pos} {v : Value} {Q : Value → Shared → Prop} {A : Around} {E : Value → Shared → Prop} (hn : s.heap.Ns env.locals m) (hv : m x = some v) (h : Q v s)
    (hk : env.scope.kind = .function) (hl : env.kindOf x = some .local) (hd : (x == ("__debug__" : Str)) = false := by decide) :
    wpAny M A (eval (.Name x pos) env) Q E s := wpAny_Name (wpAny_loadName_local hk hl hn hv h) hd
theorem ex_init (T : ExTxt prog K mg C fI) {x t0 : Addr} {i : Int} {ti : Tok} (B : L2.Mod K mg base) (kb : ∀ b o, base.get? b = some o → s.heap.get? b = some o) (hx : s.heap.get? x = some (excO C t0)) (hnx : base.get? x = none) (hi : i.natAbs.log2 < 1920) (hi2 : (toString i : Str).length ≤ 1000) (hroom : A.depth < recursionLimit)
    (hq : ∀ h' tk dx, InitEnd s.heap h' x C dx (.int i ti) → R (.ok (.ret .none)) { s with heap := h', toks := tk }) :
    codeAny (model prog w) A (.call (.ref fI) ⟨[.ref x, .int i ti], []⟩) R s := by
  obtain ⟨oc, od, doc, pm, an, cda, cc, ct, osl, ho, hcd, ⟨cl, cld, csl, hcell⟩, ccl, cdd, vs, ccs, file, tf, hcode, hvs, hfile⟩ := T.fn
  obtain ⟨nm, q, N, bs, bm, sn, sub, ab, col, dd, k0, k1', k2, k3, k5, hC, hbm⟩ := T.cls
  obtain ⟨hp, g, dr, tk0, os⟩ := s
  have hcl : clsIn K C = some { name := nm, bases := bs, mro := .ref C :: bm, ns := N, qualname := q, hasDict := true, slotNames := sn, subclasses := sub, abstract := ab, collection := col, hasDel := false } := by unfold clsIn; rw [hC] <;> rfl
  have X : K.In hp := B.kin.keeps kb
  have nl : hp.NoLimit := B.nolimit.keeps kb
  refine ks_codeAny_call_defAt (fd := ksFn "__init__" "BadSamples.__init__" iA iB iS .none .none doc pm an (.ref cda) ct cc) (body := iB) (binds := [("self", .ref x), ("number", .int i ti)])
    hroom (X _ _ ho) rfl nl (codeRec_of X hcd) rfl (BindsTo.of_eq (by first | rfl | with_unfolding_all rfl)) iS_cell (fun y hy => ?_) (fun h₀ hns k => ?_)
  · have e : y = (PySem.Str.ofString "self", Value.ref x) ∨ y = (PySem.Str.ofString "number", Value.int i ti) := by simpa using hy
    rcases e with rfl | rfl
    · exact (by decide +kernel : iS.names.lookup (PySem.Str.ofString "self") = some .local)
    · exact (by decide +kernel : iS.names.lookup (PySem.Str.ofString "number") = some .local)
  generalize hL : (Shared.heap ⟨hp, g, dr, tk0, os⟩).objs.size = L at hns ⊢
  have henv : callEnv (ksFn "__init__" "BadSamples.__init__" iA iB iS .none .none doc pm an (.ref cda) ct cc) L fI = ksEnv "BadSamples.__init__" iS L fI (.ref cda) cc := rfl
  rw [henv]
  have X0 : K.In h₀ := X.keeps k
  have hx0 := k _ _ hx
  have kb0 : ∀ b o, base.get? b = some o → h₀.get? b = some o := fun b o e => k b o (kb b o e)
  obtain ⟨oC, hC0, hC1⟩ : ∃ oC, h₀.get? C = some oC ∧ oC.data = .cls { name := nm, bases := bs, mro := .ref C :: bm, ns := N, qualname := q, hasDict := true, slotNames := sn, subclasses := sub, abstract := ab, collection := col, hasDel := false } := ⟨_, X0 _ _ hC, rfl⟩
  have I0 : InstAt h₀ x (excO C t0) C none := ⟨hx0, rfl, rfl, trivial⟩
  obtain ⟨mb, hb1, hb2⟩ := B.blt
  have hxC : x ≠ C := fun z => by
    rw [z, hC0] at hx0
    cases hx0
    cases hC1
  have hsub : mroIn K C (.ref C) = some true := by
    unfold mroIn
    rw [hcl]
    simp
  have nS : iS.names.lookup (PySem.Str.ofString "super") = some .globalImplicit := by decide +kernel
  have nC : iS.names.lookup (PySem.Str.ofString "__class__") = some .free := by decide +kernel
  have nx : iS.names.lookup (PySem.Str.ofString "self") = some .local := by decide +kernel
  have np0 : iS.names.lookup (PySem.Str.ofString "number") = some .local := by decide +kernel
  have hLx : L ≠ x := by
    rw [← hL]
    exact Nat.ne_of_gt (Heap.lt_size hx)
  refine ks_wpAt_execs_cons (ks_wpAt_Expr_any (ks_wpAt_MethodCall (ks_wpAt_super_base nS nC (by decide +kernel) rfl (X0 _ _ ho) rfl rfl rfl (X0 _ _ hcode) rfl hvs hfile T.main ?_)))
  refine ks_loadName_global rfl nS (loadGlobal_builtin (B.glob.keeps kb0) T.sB (hb1.keeps kb0) ((hb2 _ (by decide +kernel)).trans (by decide +kernel)) ⟨rfl, ?_⟩)
  refine wpAny_loadName_free rfl nC rfl ⟨_, X0 _ _ hcell, rfl⟩ ?_
  refine wpAny_loadName_local rfl nx hns rfl ?_
  refine ks_wpAny_isType_cls hC0 hC1 ⟨rfl, ?_⟩
  refine ks_wpAny_call_super hC0 hC1 hx0 rfl (fun c e => by cases e) (looks_mroIn X0 hsub) (fun h1 e1 k1 => ?_)
  have X1 : K.In h1 := X0.keeps k1
  have hx1 := k1 _ _ hx0
  have I1 : InstAt h1 x (excO C t0) C none := ⟨hx1, rfl, rfl, trivial⟩
  have hf : alongIn K "__init__" (((Value.ref C :: bm).dropWhile (· != .ref C)).drop 1) = some (some (.builtin "ValueError.__init__")) := by
    have := T.sup
    unfold ks_superIn at this
    rw [hcl] at this
    exact this
  refine kxs_getMethod kxs_ValueError e1 (looks_opaque X1 T.any) (l₀ := .ref C :: bm) (fun A Q E s k q => wpAny_bind ((looks_clsIn X1 hcl) A _ E s k (wpAny_pure q))) rfl X1 hf (I1.type.andThen (looks_subIn X1 T.subV)) hxC (by decide +kernel) ?_
  have hu : (h1.push (kxs_mw "ValueError.__init__" x)).get? h1.objs.size = some (kxs_mw "ValueError.__init__" x) := Heap.get?_push_size _ rfl
  have k2' : ∀ b o, h₀.get? b = some o → (h1.push (kxs_mw "ValueError.__init__" x)).get? b = some o := fun b o e => Heap.get?_push_of_some _ (k1 b o e)
  generalize h1.push (kxs_mw "ValueError.__init__" x) = h2 at hu k2' ⊢
  generalize h1.objs.size = u at hu ⊢
  have X2 : K.In h2 := X0.keeps k2'
  have hx2 := k2' _ _ hx0
  have hns2 := hns.keeps k2'
  -- the text that is handed on
  show wpAny _ _ (callWith _ (.ref u) [] _ []) _ _ _
  refine kxs_callWith (i := "ValueError.__init__") (x := x) rfl (evalArgs_plain ?_)
  show wpAny _ _ (spliced ((false, eval eF (ksEnv "BadSamples.__init__" iS L fI (.ref cda) cc)) :: [])) _ _ _
  obtain ⟨c1, c2, d2, c3, c0, eFe⟩ := eF_eq
  rw [eFe]
  have z0 : Str.empty.length = 0 := by decide +kernel
  have z1 : (PySem.Str.ofString "sample ").length = 7 := by decide +kernel
  have z2 : (PySem.Str.ofString " can't be").length = 9 := by decide +kernel
  refine Calls.spliced_cons (wpAny_JoinedStr ?_)
  refine wpAny_Constant_str ⟨_, _, rfl, (by show ((Str.empty ++ PySem.Str.ofString "sample ")).length ≤ sizeLine; simp only [slen, z0, z1, z2, sizeLine_eq]; omega), ?_⟩
  refine wpAny_FormattedValue_plain (ld hns2 rfl ?_ rfl np0)
  refine wpAny_formatField_int hi ⟨_, _, rfl, (by show (((Str.empty ++ PySem.Str.ofString "sample ") ++ (toString i : Str))).length ≤ sizeLine; simp only [slen, z0, z1, z2, sizeLine_eq]; omega), ?_⟩
  refine wpAny_Constant_str ⟨_, _, rfl, (by show ((((Str.empty ++ PySem.Str.ofString "sample ") ++ (toString i : Str)) ++ PySem.Str.ofString " can't be")).length ≤ sizeLine; simp only [slen, z0, z1, z2, sizeLine_eq]; omega), ?_⟩
  refine ⟨(by show ((((Str.empty ++ PySem.Str.ofString "sample ") ++ (toString i : Str)) ++ PySem.Str.ofString " can't be")).length ≤ sizeLine; simp only [slen, z0, z1, z2, sizeLine_eq]; omega), ?_⟩
  refine Calls.spliced_nil ⟨hu, ?_⟩
  refine wpAny_call (codeAny_of_tree ?_)
  show wpAny _ _ (callAny (.ref u) ⟨_, []⟩) _ _ _
  simp only [callAny]
  refine wpAny_bind (wpAny_load hu ?_)
  simp only [kxs_mw, show (Value.type "method-wrapper" == Value.type "method" || Value.type "method-wrapper" == Value.type "builtin_function_or_method" || Value.type "method-wrapper" == Value.type "method-wrapper") = true by decide, if_true]
  refine KFB.if_so (by decide) ?_
  refine wpAny_bind (check_bound_init F.excBase_ValueError.toExcCallFacts (X2 _ _ hC) hx2 rfl ?_)
  refine wpAny_bind (wpAny_pure (wpAny_pure ?_))
  refine ⟨plainId_quiet F.excBase_ValueError.init.plain _, codeAny_builtin F.excBase_ValueError.initEntry ?_⟩
  refine exc_init_tree (cls := .ref C) (t0 := t0) (dv := none) (c2 := .none) (c3 := .none) (b4 := .bool false) hx2 (by rw [sizeLine_eq]; show 1 ≤ 16777216; decide) fun h3 k3 e3 _ => ?_
  have k3' : ∀ b o, b ≠ x → h₀.get? b = some o → h3.get? b = some o := fun b o hb e => k3 b o hb (k2' b o e)
  have X3 : K.In h3 := fun b o e => k3' b o (fun z => by
    have := B.kin b o e
    rw [z, hnx] at this
    cases this) (X0 b o e)
  have hns3 : h3.Ns L (fun y => (([("self", Value.ref x), ("number", .int i ti)] : List (Str × Value)).reverse.lookup y)) := hns.at fun o e => k3' L o hLx e
  show wpAt _ _ _ (execs (_ :: []) _) _ _ _
  refine ks_wpAt_execs_cons (ks_wpAt_Assign_Attr (wpAt_of_wpAny (ld hns3 rfl (ld hns3 rfl ?_ rfl nx) rfl np0)))
  refine set_plain X3 (ox := excO C h2.objs.size) (od := none) ⟨e3, rfl, rfl, trivial⟩ T.sa ?_
  refine exc_osa X3 e3 hcl (show refsVE (.ref C :: bm) = true from hbm) rfl T.noP0 (fun h4 tk4 dx k4 dn dne hx4 hn4 => ?_)
  show wpAt _ _ _ (execs [] _) _ _ _
  refine wpAt_of_wpAny (wpAny_execs_nil ?_)
  have big : hp.objs.size ≤ dx := by
    have h1 : L < h3.objs.size := hns3.lt
    have h2 : hp.objs.size = L := hL
    exact Nat.le_trans (Nat.le_of_eq h2) (Nat.le_trans (Nat.le_of_lt h1) dn)
  exact hq h4 _ dx ⟨fun b o hb e => k4 b o hb (k3' b o hb (k b o e)), ⟨_, hx4⟩, big, dne, hn4⟩
end
end XBadSamples
end PySem
namespace PySem
namespace XBadSamples
open PySem.W PySem.Calls PyProof.Rows PySem.HandSPX
/-- a made BadSamples -/
structure OwnMade (h h' : Heap) (e C d : Addr) (v0 : Value) : Prop where
  keep : ∀ b o, h.get? b = some o → h'.get? b = some o
  new : h.objs.size ≤ e
  obj : ∃ oe vs, h'.get? e = some oe ∧ oe.cls = .ref C ∧ oe.dict = some d ∧ oe.data = .fields vs ∧ vs[1]? = some .none
  dbig : h.objs.size ≤ d
  dne : d ≠ e
  ns : h'.Ns1 d (fun y => if y = "number" then some v0 else none)
theorem one_size (v0 : Value) : [v0].length ≤ sizeLine := by
  rw [sizeLine_eq]
  exact (by decide : 1 ≤ 16777216)
section
variable {prog : Program} {w : World} {A : Around} {E : Value → Shared → Prop} {R : Result → Shared → Prop} {s : Shared} {K : Frag} {mg : Str → Option Value} {C fI : Addr} {base : Heap}
theorem ex_made (T : ExTxt prog K mg C fI) {i : Int} {ti : Tok} (B : L2.Mod K mg base) (kb : ∀ b o, base.get? b = some o → s.heap.get? b = some o) (hi : i.natAbs.log2 < 1920) (hi2 : (toString i : Str).length ≤ 1000) (hroom : A.depth + 1 < recursionLimit)
    (hq : ∀ h' tk e d, OwnMade s.heap h' e C d (.int i ti) → R (.ok (.ret (.ref e))) { s with heap := h', toks := tk }) :
    codeAny (model prog w) A (.call (.ref C) ⟨[.int i ti], []⟩) R s := by
  obtain ⟨nm, q, N, bs, bm, sn, sub, ab, col, dd, k0, k1, k2, k3, k5, hC, hbm⟩ := T.cls
  have X : K.In s.heap := B.kin.keeps kb
  obtain ⟨hp, g, dr, tk, os⟩ := s
  have k : ∀ b o, hp.get? b = some o → ((hp.push (kdv_tup [.int i ti])).push (excO C hp.objs.size)).get? b = some o := fun b o e => Heap.get?_push_of_some _ (Heap.get?_push_of_some _ e)
  have hget : ((hp.push (kdv_tup [.int i ti])).push (excO C hp.objs.size)).get? (hp.objs.size + 1) = some (excO C hp.objs.size) := by heap_get
  have hnx : base.get? (hp.objs.size + 1) = none := by
    cases e : base.get? (hp.objs.size + 1) with
    | none => rfl
    | some o =>
      have z : hp.get? (hp.objs.size + 1) = some o := kb _ _ e
      exact absurd (Nat.lt_of_succ_lt (Heap.lt_size z)) (Nat.lt_irrefl _)
  refine call_own F.excBase_ValueError (fun X => refsVE_contains X bm hbm) (X _ _ hC) (looks_findIn X T.iC) (fun self => bind_fn X self T.tC) (one_size (.int i ti)) ?_
  refine ex_init (s := ⟨(hp.push (kdv_tup [.int i ti])).push (excO C hp.objs.size), g, dr, tk, os⟩) T B (fun b o e => k b o (kb b o e)) hget hnx hi hi2 ?_ fun h' tk' dx ⟨k', ⟨t1, hx⟩, dn, dne, hns⟩ => ?_
  · show A.depth + 1 < recursionLimit
    exact hroom
  · have old : ∀ b o, hp.get? b = some o → h'.get? b = some o := fun b o e => k' b o (Nat.ne_of_lt (Nat.lt_succ_of_lt (Heap.lt_size e))) (k b o e)
    have z : hp.objs.size + 1 + 1 ≤ dx := by
      first
        | (simpa only [Heap.size_push] using dn)
        | exact dn
        | (have q := dn; rw [Heap.size_push, Heap.size_push] at q; exact q)
    exact ⟨rfl, hq h' tk' (hp.objs.size + 1) dx ⟨old, Nat.le_succ _, ⟨_, _, hx, rfl, rfl, rfl, rfl⟩, Nat.le_trans (Nat.le_trans (Nat.le_succ _) (Nat.le_succ _)) z, dne, hns⟩⟩
end
end XBadSamples
end PySem
namespace Say
open PySem PySem.Spec PyProof.Rows L2
theorem rel_BadSamples {i : Int} {ti : Tok} (f : Str) : RelO (List.lookup f ([(("number" : Str), .int i)] : List (Str × V))) (if f = "number" then some (Value.int i ti) else none) := by
  refine relO_put (f := "number") (mA := fun _ => none) (y := .int i) (u := .int i ti) (fs := []) ⟨_, rfl⟩ (fun g => ?_) f
  exact True.intro
section
variable {X : Cx} {C fI : Addr}
/-- BadSamples(e) -/
def tMkBadSamples (C : Addr) (ta : TA) : L2.St → Hp → XK → Prop := fun σ H Q => ta σ H fun vs H1 => ∃ i : Int, vs = [.int i] ∧ (-1 ≤ i ∧ i ≤ 100) ∧ ∀ d, H1 d = none → Q (.ref C) (some d) (upd H1 d (.xd [(("number" : Str), .int i)]))
theorem small_BadSamples {i : Int} (h : -1 ≤ i ∧ i ≤ 100) : i.natAbs.log2 < 1920 ∧ (toString i : Str).length ≤ 1000 := by
  have key : ∀ q : Fin 102, ((q.1 : Int) - 1).natAbs.log2 < 1920 ∧ (toString ((q.1 : Int) - 1) : Str).length ≤ 1000 := by decide +kernel
  have e : i = (((i + 1).toNat : Nat) : Int) - 1 := by omega
  rw [e]
  exact key ⟨(i + 1).toNat, by omega⟩
theorem pmk_BadSamples {a : Expr} {ta : TA} {p pos : Pos} {k : Nat} (T : PySem.XBadSamples.ExTxt X.prog X.K X.mg C fI) (hr : Room k X.A) (ha : PA X [a] ta) (hg : Gl X "BadSamples" := by rfl)
    (he : starEach (a :: []) X.env = (false, eval a X.env) :: starEach [] X.env := by rfl) (hpl : (backTo pos (starEach [] X.env)).any (·.1) = false := by rfl) :
    PMk X (.Call (.Name "BadSamples" p) [a] [] pos) (tMkBadSamples C ta) := by
  intro pins s σ H Q I h
  unfold tMkBadSamples at h
  refine wpAny_Call_Name_kw (ld_glob I hg T.gC ?_)
  refine PySem.W.callWith_K (h₀ := X.base) I.ok.mod.kin T.kC (thn (ha.run pos pins s σ H _ I h) fun us s1 hh => ?_) he hpl
  obtain ⟨vs, H1, I1, r1, i, ev, ni, q1⟩ := hh
  subst ev
  refine ⟨I1.kIn, ?_⟩
  obtain ⟨v', rfl, rv⟩ := vals1 r1
  obtain ⟨ti, rfl⟩ := rv
  show wpAny _ _ (call (.ref C) [.int i ti]) _ _ _
  have b1 := I1.mod
  have b2 := I1.bk
  obtain ⟨hp, g, dr, tk, os⟩ := s1
  refine wpAny_call (PySem.XBadSamples.ex_made T b1 b2 (small_BadSamples ni).1 (small_BadSamples ni).2 (by have := hr.dp; omega) fun h' tk' e d M => ?_)
  show MkP X pins σ Q (.ref e) ⟨h', g, dr, tk', os⟩
  obtain ⟨oe, fv, hoe, hc, hd, hdat, h1⟩ := M.obj
  have hns := M.ns
  obtain ⟨G', g1, g2⟩ := restrict h' fun b => decide (b ≠ e)
  have gk : ∀ b, b ≠ e → G'.get? b = h'.get? b := fun b hb => g1 b (decide_eq_true hb)
  have ge : G'.get? e = none := g2 e (by simp)
  have old : ∀ b o, hp.get? b = some o → G'.get? b = some o := fun b o q => (gk b (Nat.ne_of_lt (Nat.lt_of_lt_of_le (Heap.lt_size q) M.new))).trans (M.keep b o q)
  have ob : ObjOk X.prog X.w (upd H1 d (.xd [(("number" : Str), .int i)])) G' d (.xd [(("number" : Str), .int i)]) :=
    ⟨_, hns.at (fun o q => (gk d M.dne).trans q), fun f => rel_BadSamples f⟩
  have J : Inv X pins σ (upd H1 d (.xd [(("number" : Str), .int i)])) ⟨G', g, dr, tk', os⟩ := I1.laid (t' := tk') old M.dbig ob
  refine ⟨e, oe, fv, ⟨G', g, dr, tk', os⟩, _, .ref C, some d, rfl, J, fun b o q => ?_, ge, hoe, ⟨hc, hd⟩, hdat, h1, ?_, rfl, I1.bare, raises_own T.exC T.tyC, q1 d (I1.hok.fresh M.dbig)⟩
  · by_cases hb : b = e
    · have q' : G'.get? b = some o := q
      rw [hb, ge] at q'; cases q'
    · exact (gk b hb).symm.trans q
  · rw [upd_ne (Ne.symm M.dne)]
    exact I1.hok.fresh M.new
/-- raise BadSamples(e) -/
def tRaiseBadSamples (C : Addr) (W : WX) (ta : TA) : TS := fun _ σ H => tMkBadSamples C ta σ H fun cls d H' => W cls d σ H'
theorem ps_raiseBadSamples {a : Expr} {ta : TA} {W : WX} {p pos pos2 : Pos} {k : Nat} (hc : X.calm = true) (T : PySem.XBadSamples.ExTxt X.prog X.K X.mg C fI) (hr : Room k X.A) (tk : Takes X W) (ha : PA X [a] ta) (hg : Gl X "BadSamples" := by rfl)
    (he : starEach (a :: []) X.env = (false, eval a X.env) :: starEach [] X.env := by rfl) (hpl : (backTo pos (starEach [] X.env)).any (·.1) = false := by rfl) :
    PS X (.Raise (some (.Call (.Name "BadSamples" p) [a] [] pos)) none pos2) (tRaiseBadSamples C W ta) := ps_raise hc tk (pmk_BadSamples T hr ha hg he hpl)
end
end Say
namespace Say
open PySem PySem.Spec PyProof.Rows L2
section
variable {P : Program} {w : World} {K : PySem.W.Frag} {mg : Str → Option Value} {base : Heap}
abbrev sEnd : Stmt := topS 53
theorem scEnd : FnScope ["rules", "tail", "steps", "stuck"] ["rules", "tail"] (defScope sEnd) := ⟨rfl, rfl, rfl, by decide +kernel, rfl, by decide +kernel, by decide +kernel⟩
/-- the numbers by which a tail is said -/
def endM (rs : List Rule) : Option (List Nat) → Option (List Nat)
  | none => none
  | some t => if (Wt rs t).2 = none then some ((Wt rs t).1.map (·.2)) else none
def ensM (rs : List Rule) (tl : Option (List Nat)) : Option (List Nat) := (endM rs tl).map (soL rs)
theorem sayW_ens (rs : List Rule) (wd : List Nat) : sayW rs wd = ensM rs (some (35 :: wd)) := by
  unfold sayW ensM endM
  rw [W_Wt]
  by_cases c : (Wt rs (35 :: wd)).2 = none
  · rw [if_pos c]
    simp only [c, if_true, Option.map_some]
  · rw [if_neg c]
    simp only [c, if_false, Option.map_none]
def EndV (H : Hp) (v : V) : Option (List Nat) → Prop
  | none => v = .non
  | some ks => ∃ D, v = .ref D ∧ H D = some (.lst (ks.map fun k => V.int (k : Nat)))
/-- a tail, not long -/
def TlOk (tl : Option (List Nat)) : Prop := ∀ t, tl = some t → 1 ≤ t.length ∧ t.length ≤ 81
def spEnd : Sp := fun vs H Q _ => ∃ (R : Addr) (rs : List Rule) (tl : Option (List Nat)), vs = [.ref R, optT tl] ∧ RulesAt H R rs ∧ (∀ ρ ∈ rs, RlOk ρ) ∧ TlOk tl ∧
  ∀ (v : V) (H' : Hp), Same H H' → EndV H' v (endM rs tl) → Q v H'
theorem ok_end {f : Addr} {fd : FuncData} (F : Fun K "ending" "ending" sEnd f fd) (DS : Df P w K mg base "steps_of" ["rules", "tail"] 3 spSt) (DN : Df P w K mg base "numbers_of" ["steps"] 1 spNum) : FnOk P w K mg base CX0 4 f fd ["rules", "tail"] spEnd := by
  obtain ⟨fS, fdS, GS, kS, bS, mS⟩ := DS
  obtain ⟨fN, fdN, GN, kN, bN, mN⟩ := DN
  refine F.ok scEnd (fun vs H Q E h => ?_) (fun cdv A outer s H vs Q E hr h => ?_)
  · obtain ⟨R, rs, tl, rfl, _⟩ := h
    rfl
  · obtain ⟨R, rs, tl, rfl, hR, ho, hw, q⟩ := h
    have hr1 : Room 1 _ := hr.mono (by decide)
    refine ⟨_, pss_cons (ps_if (pt_cmpR op_isN (pv 1) pe_non (nomark _)) (pss_one (ps_ret pe_non)) pss_nil)
      (pss_cons (ps_asg (pe_call GS hr (by rfl) mS kS bS .nil pass0 (pa_cons (pv 0) (pa_cons (pv 1) pa_nil))) (pg_tup (by rfl) (pgs_cons (pg_name (i := 2) scEnd.nd rfl (.inl rfl)) (pgs_cons (pg_name (i := 3) scEnd.nd rfl (.inl rfl)) pgs_nil))))
      (pss_cons (ps_if (pt_cmpR op_notN (pv 3) pe_non (nomark _)) (pss_one (ps_ret pe_non)) pss_nil)
      (pss_one (ps_ret (pe_call GN hr1 (by rfl) mN kN bN .nil pass0 (pa_cons (pv 2) pa_nil)))))), ?_⟩
    cases tl with
    | none =>
      refine ⟨_, rfl, rfl, _, rfl, iteT ?_⟩
      exact q _ H (Same.refl H) rfl
    | some tl =>
    obtain ⟨h1, h81⟩ := hw tl rfl
    refine ⟨_, rfl, rfl, _, rfl, ?_⟩
    rw [show decide (optT (some tl) = V.non) = false from decide_eq_false (fun z => by cases z)]
    refine iteF ?_
    refine ⟨_, rfl, _, rfl, R, rs, tl, rfl, hR, ho, h1, h81, fun t D H1 s1 hD ht hS => ?_⟩
    refine ⟨t, _, rfl, .inl (.inl ht), rfl, _, _, rfl, _, _, rfl, rfl, ?_⟩
    refine ⟨_, rfl, rfl, _, rfl, ?_⟩
    simp only [endM] at q
    cases e : (Wt rs tl).2 with
    | some p =>
      rw [e, if_neg (fun z => by cases z)] at q
      rw [show decide (optI (some p) = V.non) = false from decide_eq_false (fun z => by cases z)]
      refine iteT ?_
      exact q _ H1 s1 rfl
    | none =>
      rw [e, if_pos rfl] at q
      refine iteF ?_
      have hl : (Wt rs tl).1.length ≤ tl.length := wk_len rs (tl ++ [35]) tl.length 1
      refine ⟨_, rfl, D, _, rfl, hS, by omega, fun D' H2 s2 _ h2 => ?_⟩
      refine q _ H2 (s1.trans s2) ⟨D', rfl, ?_⟩
      rw [h2, List.map_map]
      rfl
end
end Say
namespace Say
open PySem PySem.Spec PyProof.Rows L2
section
variable {P : Program} {w : World} {K : PySem.W.Frag} {mg : Str → Option Value} {base : Heap}
abbrev sEnS : Stmt := topS 54
theorem scEnS : FnScope ["rules", "tail", "numbers"] ["rules", "tail"] (defScope sEnS) := ⟨rfl, rfl, rfl, by decide +kernel, rfl, by decide +kernel, by decide +kernel⟩
def spEnS : Sp := fun vs H Q _ => ∃ (R : Addr) (rs : List Rule) (tl : Option (List Nat)), vs = [.ref R, optT tl] ∧ RulesAt H R rs ∧ (∀ ρ ∈ rs, RlOk ρ) ∧ TlOk tl ∧
  ∀ (H' : Hp), Same H H' → Q (optT (ensM rs tl)) H'
theorem end_ks {rs : List Rule} {tl : Option (List Nat)} {ks : List Nat} (h : endM rs tl = some ks) (hw : TlOk tl) : (∀ k ∈ ks, k < rs.length) ∧ ks.length ≤ 81 := by
  cases tl with
  | none => cases h
  | some t =>
    unfold endM at h
    by_cases c : (Wt rs t).2 = none
    · simp only [c, if_true] at h
      cases h
      refine ⟨fun k hk => ?_, ?_⟩
      · obtain ⟨st, hst, rfl⟩ := List.mem_map.mp hk
        exact wk_lt _ _ st hst
      · have hl : (Wt rs t).1.length ≤ t.length := wk_len rs (t ++ [35]) t.length 1
        have := (hw t rfl).2
        rw [List.length_map]
        omega
    · simp only [c, if_false] at h
      cases h
theorem ok_enS {f : Addr} {fd : FuncData} (F : Fun K "ending_sounds" "ending_sounds" sEnS f fd) (DE : Df P w K mg base "ending" ["rules", "tail"] 4 spEnd) (DN : Df P w K mg base "sounds_of" ["rules", "numbers"] 1 spSou) : FnOk P w K mg base CX0 5 f fd ["rules", "tail"] spEnS := by
  obtain ⟨fS, fdS, GS, kS, bS, mS⟩ := DE
  obtain ⟨fN, fdN, GN, kN, bN, mN⟩ := DN
  refine F.ok scEnS (fun vs H Q E h => ?_) (fun cdv A outer s H vs Q E hr h => ?_)
  · obtain ⟨R, rs, tl, rfl, _⟩ := h
    rfl
  · obtain ⟨R, rs, tl, rfl, hR, ho, hw, q⟩ := h
    have hr1 : Room 1 _ := hr.mono (by decide)
    refine ⟨_, pss_cons (ps_set (i := 2) scEnS.nd rfl (.inl rfl) (pe_call GS hr (by rfl) mS kS bS .nil pass0 (pa_cons (pv 0) (pa_cons (pv 1) pa_nil))))
      (pss_cons (ps_if (pt_cmpR op_isN (pv 2) pe_non (nomark _)) (pss_one (ps_ret pe_non)) pss_nil)
      (pss_one (ps_ret (pe_call GN hr1 (by rfl) mN kN bN .nil pass0 (pa_cons (pv 0) (pa_cons (pv 2) pa_nil)))))), ?_⟩
    refine ⟨_, rfl, _, rfl, R, rs, tl, rfl, hR, ho, hw, fun v H1 s1 hv => ?_⟩
    unfold ensM at q
    cases e : endM rs tl with
    | none =>
      rw [e] at hv q
      cases hv
      refine ⟨_, rfl, rfl, _, rfl, iteT ?_⟩
      exact q H1 s1
    | some ks =>
      rw [e] at hv q
      obtain ⟨D, rfl, hD⟩ := hv
      obtain ⟨hk, hl⟩ := end_ks e hw
      refine ⟨_, rfl, rfl, _, rfl, ?_⟩
      rw [show decide (V.ref D = V.non) = false from decide_eq_false (fun z => by cases z)]
      refine iteF ?_
      exact ⟨_, rfl, _, rfl, R, D, rs, ks, rfl, hR.kt (.of s1), ho, hD, hk, by omega, fun H2 s2 => q H2 (s1.trans s2)⟩
end
end Say
namespace Say
open PySem PySem.Spec PyProof.Rows L2
section
variable {P : Program} {w : World} {K : PySem.W.Frag} {mg : Str → Option Value} {base : Heap}
abbrev sWS : Stmt := topS 55
theorem scWS : FnScope ["rules", "word"] ["rules", "word"] (defScope sWS) := ⟨rfl, rfl, rfl, by decide +kernel, rfl, by decide +kernel, by decide +kernel⟩
def spWS : Sp := fun vs H Q _ => ∃ (R : Addr) (rs : List Rule) (wd : List Nat), vs = [.ref R, .str (T wd)] ∧ RulesAt H R rs ∧ (∀ ρ ∈ rs, RlOk ρ) ∧ wd.length ≤ 80 ∧
  ∀ (H' : Hp), Same H H' → Q (optT (sayW rs wd)) H'
theorem ok_WS {f : Addr} {fd : FuncData} (F : Fun K "word_sounds" "word_sounds" sWS f fd) (C : Cn mg) (DE : Df P w K mg base "ending_sounds" ["rules", "tail"] 5 spEnS) : FnOk P w K mg base CX0 6 f fd ["rules", "word"] spWS := by
  obtain ⟨fE, fdE, GE, kE, bE, mE⟩ := DE
  obtain ⟨tE, mG⟩ := C.edge
  refine F.ok scWS (fun vs H Q E h => ?_) (fun cdv A outer s H vs Q E hr h => ?_)
  · obtain ⟨R, rs, wd, rfl, _⟩ := h
    rfl
  · obtain ⟨R, rs, wd, rfl, hR, ho, hw, q⟩ := h
    refine ⟨_, pss_one (ps_ret (pe_call GE hr (by rfl) mE kE bE .nil pass0 (pa_cons (pv 0) (pa_cons (pe_op op_add_str (pe_glob (v := .str "#") rfl mG ⟨_, rfl⟩) (pv 1)) pa_nil)))), ?_⟩
    exact ⟨_, rfl, _, rfl, _, _, rfl, rfl, (by rw [len_hash, T_len]; exact small (by omega)), R, rs, some (35 :: wd), (by rw [hash_app]; rfl), hR, ho, (fun t e => by cases e; exact ⟨by simp, by simp; omega⟩), fun H1 s1 => by have := q H1 s1; rw [sayW_ens] at this; exact this⟩
end
end Say
namespace Say
open PySem PySem.Spec PyProof.Rows L2
/-- the list at S holds samples -/
def SampsAt (H : Hp) (S : Addr) (ss : List Exc) : Prop := ∃ ts : List Addr, H S = some (.lst (ts.map V.ref)) ∧ Paired (fun t (e : Exc) => H t = some (.tup [.str (T e.1), .str (T e.2)])) ts ss
theorem SampsAt.same {H H' : Hp} {S : Addr} {ss : List Exc} (h : SampsAt H S ss) (e : Same H H') : SampsAt H' S ss := by
  obtain ⟨ts, h1, h2⟩ := h
  exact ⟨ts, e _ _ h1, paired_mono (fun t ρ q => e _ _ q) h2⟩
theorem eqO {o : Option (List Nat)} {b : List Nat} : decide (optT o = V.str (T b)) = decide (o = some b) := by
  cases o with
  | none => rw [decide_eq_false (fun z => by cases z), decide_eq_false (fun z => by cases z)]
  | some a => exact decide_eq_decide.mpr ⟨fun z => by rw [T_inj (V.str.inj z)], fun z => by cases z; rfl⟩
section
variable {P : Program} {w : World} {K : PySem.W.Frag} {mg : Str → Option Value} {base : Heap}
abbrev sIsSaid : Stmt := topS 97
theorem scIsSaid : FnScope ["rules", "sample", "word", "sounds"] ["rules", "sample"] (defScope sIsSaid) := ⟨rfl, rfl, rfl, by decide +kernel, rfl, by decide +kernel, by decide +kernel⟩
def spIsSaid : Sp := fun vs H Q _ => ∃ (R t : Addr) (rs : List Rule) (e : Exc), vs = [.ref R, .ref t] ∧ RulesAt H R rs ∧ (∀ ρ ∈ rs, RlOk ρ) ∧ H t = some (.tup [.str (T e.1), .str (T e.2)]) ∧ e.1.length ≤ 80 ∧
  ∀ (H' : Hp), Same H H' → Q (.bl (decide (sayW rs e.1 = some e.2))) H'
theorem ok_isSaid {f : Addr} {fd : FuncData} (F : Fun K "is_said" "is_said" sIsSaid f fd) (DE : Df P w K mg base "word_sounds" ["rules", "word"] 6 spWS) : FnOk P w K mg base CX0 7 f fd ["rules", "sample"] spIsSaid := by
  obtain ⟨fE, fdE, GE, kE, bE, mE⟩ := DE
  refine F.ok scIsSaid (fun vs H Q E h => ?_) (fun cdv A outer s H vs Q E hr h => ?_)
  · obtain ⟨R, t, rs, e, rfl, _⟩ := h
    rfl
  · obtain ⟨R, t, rs, e, rfl, hR, ho, ht, hw, q⟩ := h
    refine ⟨_, pss_cons (ps_asg (pv 1) (pg_tup (by rfl) (pgs_cons (pg_name (i := 2) scIsSaid.nd rfl (.inl rfl)) (pgs_cons (pg_name (i := 3) scIsSaid.nd rfl (.inl rfl)) pgs_nil))))
      (pss_one (ps_ret (pe_cmpR op_eq (pe_call GE hr (by rfl) mE kE bE .nil pass0 (pa_cons (pv 0) (pa_cons (pv 2) pa_nil))) (pv 3) (nomark _)))), ?_⟩
    refine ⟨_, rfl, t, _, rfl, .inl (.inl ht), rfl, _, _, rfl, _, _, rfl, rfl, ?_⟩
    refine ⟨_, rfl, _, rfl, R, rs, e.1, rfl, hR, ho, hw, fun H1 s1 => ?_⟩
    have hsc : scal (optT (sayW rs e.1)) (V.str (T e.2)) = true := by
      cases sayW rs e.1 <;> rfl
    refine ⟨_, rfl, hsc, ?_⟩
    have := q H1 s1
    rw [← eqO] at this
    exact this
abbrev sChS : Stmt := topS 95
theorem scChS : FnScope ["letters", "samples", "number", "sample"] ["letters", "samples"] (defScope sChS) := ⟨rfl, rfl, rfl, by decide +kernel, rfl, by decide +kernel, by decide +kernel⟩
def spChS : Sp := fun vs H Q _ => ∃ (L : List Nat) (S : Addr) (ss : List Exc), vs = [.str (T L), .ref S] ∧ SampsAt H S ss ∧ (∀ e ∈ ss, ExcOk L e) ∧ ss.length ≤ 12 ∧ ∀ (H' : Hp), Same H H' → Q .non H'
theorem ok_chS {f : Addr} {fd : FuncData} (F : Fun K "check_samples" "check_samples" sChS f fd) (B : Bn mg) (cM : KI mg "MOST_SAMPLES" 12) (DI : Df P w K mg base "is_exception" ["letters", "pair"] 3 spIsExc) :
    FnOk P w K mg base CX0 4 f fd ["letters", "samples"] spChS := by
  obtain ⟨fI, fdI, GI, kI, bI, mI⟩ := DI
  obtain ⟨tS, mS⟩ := cM
  refine F.ok scChS (fun vs H Q E h => ?_) (fun cdv A outer s H vs Q E hr h => ?_)
  · obtain ⟨L, S, ss, rfl, _⟩ := h
    rfl
  · obtain ⟨L, S, ss, rfl, ⟨ts, hS, hp⟩, ho, h12, q⟩ := h
    refine ⟨_, pss_cons (ps_if (pt_not (pt_val (pe_callB call_isi (by rfl) B.isi (by decide +kernel) (pa_cons (pv 1) (pa_cons (pe_bltn (v := .ty "list") rfl B.lst (by decide +kernel) rfl) pa_nil))))) (pss_one ps_never) pss_nil)
      (pss_one (ps_for PassesOwn.never rfl (pi_enum (by rfl) B.enu (pa_cons (pv 1) pa_nil)) (pg_tup (by rfl) (pgs_cons (pg_name (i := 2) scChS.nd rfl (.inl rfl)) (pgs_cons (pg_name (i := 3) scChS.nd rfl (.inl rfl)) pgs_nil)))
        (pss_one (ps_if (PW.pt (pw_or (pt_cmpR op_eq (pv 2) (pe_glob (v := .int 12) rfl mS ⟨_, rfl⟩) (nomark _)) (pw_or1 (pt_not (pt_val (pe_call GI hr (by rfl) mI kI bI .nil pass0 (pa_cons (pv 0) (pa_cons (pv 3) pa_nil)))))))) (pss_one ps_never) pss_nil)))), ?_⟩
    refine ⟨_, rfl, _, _, .type "list", _, true, rfl, ClsV.ty _, .base (.lst hS), kit_ty (by decide +kernel), true, rfl, iteF ?_⟩
    refine ⟨_, rfl, S, _, rfl, .inl (.inl hS), for_it (walk_enum (xs := ts.map V.ref)) (fun i σ H2 => Same H H2 ∧ ∃ v2 v3, σ = [some (.str (T L)), some (.ref S), v2, v3]) ⟨Same.refl H, _, _, rfl⟩ (fun i σ H2 _ h => .inl (.inl (h.1 _ _ hS))) ?_ ?_⟩
    · rintro i x σ H2 H3 hi ⟨s2, v2, v3, rfl⟩ ⟨t, x1, x2, rfl, ht, rfl, g1, g2⟩
      cases g1
      have g2 : (ts.map V.ref)[i]? = some x2 := g2
      rw [List.getElem?_map] at g2
      obtain ⟨a, ha, e⟩ := Option.map_eq_some_iff.mp g2
      subst e
      obtain ⟨e, he, hat⟩ := paired_at hp ha
      have sm := same_new ht (.tup [.int (i : Nat), .ref a])
      have hi2 : i < ss.length := (List.getElem?_eq_some_iff.mp he).1
      refine ⟨t, _, rfl, .inl (.inl upd_same), rfl, _, _, rfl, _, _, rfl, rfl, ?_⟩
      refine ⟨_, rfl, rfl, _, rfl, ?_⟩
      have nq : ¬ V.int ((i : Nat) : Int) = V.int 12 := fun z => by
        have := V.int.inj z
        omega
      rw [decide_eq_false nq]
      refine iteF ?_
      refine ⟨_, rfl, _, rfl, L, a, e, rfl, sm _ _ (s2 _ _ hat), ho e (List.mem_of_getElem? he), fun H4 s4 => ?_⟩
      exact ⟨true, rfl, iteF ⟨s2.trans (sm.trans s4), _, _, rfl⟩⟩
    · rintro σ H2 ⟨s2, v2, v3, rfl⟩
      exact q H2 s2
abbrev sChA : Stmt := topS 94
theorem scChA : FnScope ["letters", "rules", "samples"] ["letters", "rules", "samples"] (defScope sChA) := ⟨rfl, rfl, rfl, by decide +kernel, rfl, by decide +kernel, by decide +kernel⟩
def spChA : Sp := fun vs H Q _ => ∃ (L : List Nat) (R S : Addr) (rs : List Rule) (ss : List Exc), vs = [.str (T L), .ref R, .ref S] ∧ LetOk L ∧ RulesAt H R rs ∧ (∀ ρ ∈ rs, RuleOk L ρ) ∧ rs.length ≤ 12 ∧ SampsAt H S ss ∧ (∀ e ∈ ss, ExcOk L e) ∧ ss.length ≤ 12 ∧ ∀ (H' : Hp), Same H H' → Q .non H'
theorem ok_chA {f : Addr} {fd : FuncData} (F : Fun K "check_all" "check_all" sChA f fd) (DL : Df P w K mg base "check_letters" ["letters"] 2 spChL) (DR : Df P w K mg base "check_rules" ["letters", "rules"] 4 spChR)
    (DS : Df P w K mg base "check_samples" ["letters", "samples"] 4 spChS) : FnOk P w K mg base CX0 5 f fd ["letters", "rules", "samples"] spChA := by
  obtain ⟨fL, fdL, GL, kL, bL, mL⟩ := DL
  obtain ⟨fR, fdR, GR, kR, bR, mR⟩ := DR
  obtain ⟨fS, fdS, GS, kS, bS, mS⟩ := DS
  refine F.ok scChA (fun vs H Q E h => ?_) (fun cdv A outer s H vs Q E hr h => ?_)
  · obtain ⟨L, R, S, rs, ss, rfl, _⟩ := h
    rfl
  · obtain ⟨L, R, S, rs, ss, rfl, hL, hR, ho, h12, hS, hs, s12, q⟩ := h
    refine ⟨_, pss_cons (ps_expr (pe_call GL (hr.mono (by decide)) (by rfl) mL kL bL .nil pass0 (pa_cons (pv 0) pa_nil)))
      (pss_cons (ps_expr (pe_call GR hr (by rfl) mR kR bR .nil pass0 (pa_cons (pv 0) (pa_cons (pv 1) pa_nil))))
      (pss_one (ps_expr (pe_call GS hr (by rfl) mS kS bS .nil pass0 (pa_cons (pv 0) (pa_cons (pv 2) pa_nil)))))), ?_⟩
    refine ⟨_, rfl, L, rfl, hL, fun H1 s1 => ?_⟩
    refine ⟨_, rfl, _, rfl, L, R, rs, rfl, hL, hR.kt (.of s1), ho, h12, fun H2 s2 => ?_⟩
    refine ⟨_, rfl, _, rfl, L, S, ss, rfl, hS.same (s1.trans s2), hs, s12, fun H3 s3 => ?_⟩
    exact q H3 (s1.trans (s2.trans s3))
end
end Say
namespace Say
open PySem PySem.Spec PyProof.Rows L2
section
variable {P : Program} {w : World} {K : PySem.W.Frag} {mg : Str → Option Value} {base : Heap} {CB : Addr}
theorem spChV.mono {v : V} {H : Hp} {Q Q' : VK} {E : XK} (h : spChV K CB [v] H Q E) (q : ∀ H', Same H H' → Q v H' → Q' v H') : spChV K CB [v] H Q' E := by
  obtain ⟨u, e, h⟩ := h
  cases e
  refine ⟨v, rfl, h.imp id fun h => h.imp id fun ⟨t, l, r, x, h1, h2, h3, h4, h5⟩ => ⟨t, l, r, x, h1, h2, h3, h4, fun L e1 e2 => ?_⟩⟩
  obtain ⟨o, a1, a2, a3⟩ := h5 L e1 e2
  refine ⟨o, a1, a2, fun n1 => ?_⟩
  obtain ⟨oe, b1, b2, b3⟩ := a3 n1
  exact ⟨oe, b1, b2, fun n2 H' s' => q H' s' (b3 n2 H' s')⟩
abbrev sKPt : Stmt := topS 79
abbrev nKPt : List Str := ["one", "other"]
theorem scKPt : FnScope nKPt ["one", "other"] (defScope sKPt) := ⟨rfl, rfl, rfl, by decide +kernel, rfl, by decide +kernel, by decide +kernel⟩
/-- two books of other letters; or one that can't be -/
def spPtX (K : PySem.W.Frag) (CB CO : Addr) : Sp := fun vs H Q E => ∃ (g v : V), vs = [g, v] ∧ spChV K CB [g] H (fun _ H1 => spChV K CB [v] H1 (fun _ H2 => ∃ (t1 t2 : Addr) (L1 L2 : List Nat) (r1 x1 r2 x2 : V), g = .ref t1 ∧ v = .ref t2 ∧ SqT K H2 t1 [.str (T L1), r1, x1] ∧ SqT K H2 t2 [.str (T L2), r2, x2] ∧ L1 ≠ L2 ∧ E (.ref CO) none H2) E) E
theorem wx_parted {f fC CO : Addr} {fd fdC : FuncData} (F : Fun K "parted" "parted" sKPt f fd) (GC : FnOk P w K mg base (L2.CX P w) 5 fC fdC ["book"] (spChV K CB)) (kC : PySem.W.keepIn K (.ref fC) = true) (bC : Binds K fdC ["book"] []) (mC : mg "checked_book" = some (.ref fC)) (R : RaQ K mg "OtherLetters" CO) :
    FnOk P w K mg base (L2.CX P w) 6 f fd ["one", "other"] (spPtX K CB CO) := by
  refine F.okX scKPt (fun vs H Q E h => ?_) (fun cdv A outer s H vs Q E hr h => ?_)
  · obtain ⟨g, v, rfl, _⟩ := h
    rfl
  · obtain ⟨g, v, rfl, hR⟩ := h
    have tk : Takes _ (fun cls d _ H => E cls d H) := takes_of (X := cxOf (L2.CX P w) P w K mg base nKPt "parted" (defScope sKPt) f cdv A outer s H E) rfl rfl rfl rfl
    refine ⟨_, pss_cons (ps_expr (pe_callS GC hr (by rfl) mC kC bC (fun σ => passAt tk σ) (by exact (pa_cons (pv 0) pa_nil)))) (pss_cons (ps_expr (pe_callS GC hr (by rfl) mC kC bC (fun σ => passAt tk σ) (by exact (pa_cons (pv 1) pa_nil))))
      (pss_cons (ps_if (pt_cmpR op_ne (pe_ix ix_tup (pv 0) pe_int (fun _ _ => rfl)) (pe_ix ix_tup (pv 1) pe_int (fun _ _ => rfl)) (nomark _)) (pss_one (ps_raise rfl (takes_of rfl rfl rfl rfl) (pmk_own PySem.F.excBase_ValueError R.ex R.g R.k (raises_own R.b R.t) rfl))) pss_nil) (pss_one ps_never))), ?_⟩
    refine ⟨_, rfl, hR.mono fun H1 s1 h1 => ?_⟩
    refine ⟨_, rfl, h1.mono fun H2 s2 h2 => ?_⟩
    obtain ⟨t1, t2, L1, L2, r1, x1, r2, x2, rfl, rfl, q1, q2, ne, hE⟩ := h2
    refine ⟨_, rfl, t1, _, 0, .str (T L1), rfl, rfl, q1, atI_nat (j := 0) rfl, _, rfl, t2, _, 0, .str (T L2), rfl, rfl, q2, atI_nat (j := 0) rfl, rfl, _, rfl, ?_⟩
    rw [show (!decide (V.str (T L1) = V.str (T L2))) = true by rw [decide_eq_false fun z => ne (T_inj (V.str.inj z))]; rfl]
    exact iteT hE
/-! ### samples that can't be -/
abbrev sKSm : Stmt := topS 95
abbrev nKSm : List Str := ["letters", "samples", "number", "sample"]
theorem scKSm : FnScope nKSm ["letters", "samples"] (defScope sKSm) := ⟨rfl, rfl, rfl, by decide +kernel, rfl, by decide +kernel, by decide +kernel⟩
/-- refused with a number -/
def refS (CM : Addr) (H : Hp) (E : XK) (n : Int) : Prop := ∀ d H', Same H H' → H d = none → H' d = some (.xd [(("number" : Str), .int n)]) → E (.ref CM) (some d) H'
theorem refS.same {CM : Addr} {H H' : Hp} {E : XK} {n : Int} (h : refS CM H E n) (s : Same H H') : refS CM H' E n := fun d H2 s2 hd hx => h d H2 (s.trans s2) (s.free hd) hx
def badS (ws : List (Option (List Nat))) (n : Nat) : Prop := n < ws.length ∧ (n = 12 ∨ ws[n]? = some none)
/-- v is no list of samples: n tells the first of them -/
def SmBad (K : PySem.W.Frag) (H : Hp) (L : List Nat) (v : V) (n : Nat) : Prop := (NoLst K H v ∧ n = 0) ∨ ∃ t xs ws, v = .ref t ∧ SqL K H t xs ∧ xs.length ≤ 90 ∧ Paired (ExcR K H L) xs ws ∧ badS ws n ∧ ∀ m, m < n → ¬ badS ws m
def spSmX (K : PySem.W.Frag) (CM : Addr) : Sp := fun vs H Q E => ∃ (L : List Nat) (v : V) (n : Nat), vs = [.str (T L), v] ∧ SmBad K H L v n ∧ refS CM H E n
theorem wx_sm {f CM fI : Addr} {fd : FuncData} (F : Fun K "check_samples" "check_samples" sKSm f fd) (B : Bn mg) (cM : KI mg "MOST_SAMPLES" 12) (O : PySem.XBadSamples.ExTxt P K mg CM fI) (DI : Df P w K mg base "is_exception" ["letters", "pair"] 3 (spIsExV K)) :
    FnOk P w K mg base (L2.CX P w) 4 f fd ["letters", "samples"] (spSmX K CM) := by
  obtain ⟨fI, fdI, GI, kI, bI, mI⟩ := DI
  obtain ⟨tS, mS⟩ := cM
  refine F.okX scKSm (fun vs H Q E h => ?_) (fun cdv A outer s H vs Q E hr h => ?_)
  · obtain ⟨L, v, n, rfl, _⟩ := h
    rfl
  · obtain ⟨L, v, n, rfl, hv, q⟩ := h
    have px : PassesOwn (model P w) (A.deeper (envOfC "check_samples" (defScope sKSm) s.heap.objs.size f cdv)) (envOfC "check_samples" (defScope sKSm) s.heap.objs.size f cdv) (cxOf (L2.CX P w) P w K mg base nKSm "check_samples" (defScope sKSm) f cdv A outer s H E).xe := PassesOwn.leaving
    refine ⟨_, pss_cons (ps_if (pt_not (pt_val (pe_callB call_isi (by rfl) B.isi (by decide +kernel) (pa_cons (pv 1) (pa_cons (pe_bltn (v := .ty "list") rfl B.lst (by decide +kernel) rfl) pa_nil))))) (pss_one (ps_raiseBadSamples rfl O hr (takes_of rfl rfl rfl rfl) (by exact (pa_cons pe_int pa_nil)))) pss_nil)
      (pss_one (ps_for px rfl (pi_enum (by rfl) B.enu (pa_cons (pv 1) pa_nil)) (pg_tup (by rfl) (pgs_cons (pg_name (i := 2) scKSm.nd rfl (.inl rfl)) (pgs_cons (pg_name (i := 3) scKSm.nd rfl (.inl rfl)) pgs_nil)))
        (pss_one (ps_if (PW.pt (pw_or (pt_cmpR op_eq (pv 2) (pe_glob (v := .int 12) rfl mS ⟨_, rfl⟩) (nomark _)) (pw_or1 (pt_not (pt_val (pe_call GI hr (by rfl) mI kI bI .nil pass0 (pa_cons (pv 0) (pa_cons (pv 3) pa_nil)))))))) (pss_one (ps_raiseBadSamples rfl O hr (takes_of rfl rfl rfl rfl) (by exact (pa_cons (pv 2) pa_nil)))) pss_nil)))), ?_⟩
    rcases hv with ⟨hn, rfl⟩ | ⟨t, xs, ws, rfl, ht, h90, hp, hb, hf⟩
    · obtain ⟨ty, h1, h2⟩ := hn.ty
      refine ⟨_, rfl, v, _, .type ty, _, false, rfl, ClsV.ty _, h1, kit_ty h2, false, rfl, iteT ?_⟩
      exact ⟨0, rfl, ⟨by decide, by decide⟩, fun d hd => q d _ (same_new hd _) hd upd_same⟩
    · refine ⟨_, rfl, _, _, .type "list", _, true, rfl, ClsV.ty _, tyL ht, kit_ty (by decide +kernel), true, rfl, iteF ?_⟩
      refine ⟨_, rfl, t, _, rfl, ht, for_it (walk_enum (xs := xs)) (fun i σ H2 => Same H H2 ∧ (∃ v2 v3, σ = [some (.str (T L)), some (.ref t), v2, v3]) ∧ i ≤ n) ⟨Same.refl H, ⟨_, _, rfl⟩, Nat.zero_le _⟩ (fun i σ H2 _ h => Same.seq h.1 ht) ?_ ?_⟩
      · rintro i x σ H2 H3 hi ⟨s2, ⟨v2, v3, rfl⟩, hin⟩ ⟨tt, x1, x2, rfl, htt, rfl, g1, g2⟩
        cases g1
        have g2 : xs[i]? = some x2 := g2
        obtain ⟨b, hbi, hv⟩ := paired_at hp g2
        have hib : i < ws.length := (List.getElem?_eq_some_iff.mp hbi).1
        have hl := paired_len hp
        have sm := same_new htt (.tup [.int (i : Nat), x2])
        have bad : badS ws i → i = n := fun h => by
          rcases Nat.lt_or_eq_of_le hin with h2 | h2
          · exact absurd h (hf i h2)
          · exact h2
        refine ⟨tt, _, rfl, .inl (.inl upd_same), rfl, _, _, rfl, _, _, rfl, rfl, ?_⟩
        refine ⟨_, rfl, rfl, _, rfl, ?_⟩
        by_cases c : i = 12
        · rw [show decide (V.int ((i : Nat) : Int) = V.int 12) = true from decide_eq_true (by rw [c] <;> rfl)]
          refine iteT ?_
          have e := bad ⟨hib, .inl c⟩
          subst e
          exact ⟨_, rfl, (i : Nat), rfl, ⟨by omega, by omega⟩, fun d hd => q d _ ((s2.trans sm).trans (same_new hd _)) ((s2.trans sm).free hd) upd_same⟩
        · rw [show decide (V.int ((i : Nat) : Int) = V.int 12) = false from decide_eq_false fun z => c (by have := V.int.inj z; omega)]
          refine iteF ?_
          refine ⟨_, rfl, _, rfl, L, x2, b, rfl, hv.same (s2.trans sm), fun H4 s4 => ?_⟩
          have s24 := (s2.trans sm).trans s4
          cases b with
          | none =>
            refine ⟨false, rfl, iteT ?_⟩
            have e := bad ⟨hib, .inr hbi⟩
            subst e
            exact ⟨_, rfl, (i : Nat), rfl, ⟨by omega, by omega⟩, fun d hd => q d _ (s24.trans (same_new hd _)) (s24.free hd) upd_same⟩
          | some wd =>
            refine ⟨true, rfl, iteF ⟨s24, ⟨_, _, rfl⟩, ?_⟩⟩
            rcases Nat.lt_or_eq_of_le hin with h2 | h2
            · exact h2
            · exfalso
              subst h2
              obtain ⟨_, z | z⟩ := hb
              · exact c z
              · rw [hbi] at z; cases z
      · rintro σ H2 ⟨s2, _, hin⟩
        have hl := paired_len hp
        have := hb.1
        omega
/-- letters and rules, good; samples that can't be -/
def spSaX (K : PySem.W.Frag) (CM : Addr) : Sp := fun vs H Q E => ∃ (L : List Nat) (R : Addr) (rs : List Rule) (v : V) (n : Nat), vs = [.str (T L), .ref R, v] ∧ LetOk L ∧ RulesAt H R rs ∧ (∀ ρ ∈ rs, RuleOk L ρ) ∧ rs.length ≤ 12 ∧ (∀ H', Same H H' → SmBad K H' L v n) ∧ refS CM H E n
abbrev sKCa : Stmt := topS 94
abbrev nKCa : List Str := ["letters", "rules", "samples"]
theorem scKCa : FnScope nKCa ["letters", "rules", "samples"] (defScope sKCa) := ⟨rfl, rfl, rfl, by decide +kernel, rfl, by decide +kernel, by decide +kernel⟩
theorem wx_all {f fS CM : Addr} {fd fdS : FuncData} (F : Fun K "check_all" "check_all" sKCa f fd) (DL : Df P w K mg base "check_letters" ["letters"] 2 spChL) (DR : Df P w K mg base "check_rules" ["letters", "rules"] 4 spChR)
    (GS : FnOk P w K mg base (L2.CX P w) 4 fS fdS ["letters", "samples"] (spSmX K CM)) (kS : PySem.W.keepIn K (.ref fS) = true) (bS : Binds K fdS ["letters", "samples"] []) (mS : mg "check_samples" = some (.ref fS)) :
    FnOk P w K mg base (L2.CX P w) 5 f fd ["letters", "rules", "samples"] (spSaX K CM) := by
  obtain ⟨fL, fdL, GL, kL, bL, mL⟩ := DL
  obtain ⟨fR, fdR, GR, kR, bR, mR⟩ := DR
  refine F.okX scKCa (fun vs H Q E h => ?_) (fun cdv A outer s H vs Q E hr h => ?_)
  · obtain ⟨L, R, rs, v, n, rfl, _⟩ := h
    rfl
  · obtain ⟨L, R, rs, v, n, rfl, oL, hR, ok, h12, hv, q⟩ := h
    have tk : Takes _ (fun cls d _ H => E cls d H) := takes_of (X := cxOf (L2.CX P w) P w K mg base nKCa "check_all" (defScope sKCa) f cdv A outer s H E) rfl rfl rfl rfl
    refine ⟨_, pss_cons (ps_expr (pe_call GL (hr.mono (by decide)) (by rfl) mL kL bL .nil pass0 (pa_cons (pv 0) pa_nil)))
      (pss_cons (ps_expr (pe_call GR hr (by rfl) mR kR bR .nil pass0 (pa_cons (pv 0) (pa_cons (pv 1) pa_nil))))
      (pss_one (ps_expr (pe_callS GS hr (by rfl) mS kS bS (fun σ => passAt tk σ) (by exact (pa_cons (pv 0) (pa_cons (pv 2) pa_nil))))))), ?_⟩
    refine ⟨_, rfl, L, rfl, oL, fun H1 s1 => ?_⟩
    refine ⟨_, rfl, _, rfl, L, R, rs, rfl, oL, hR.kt (.of s1), ok, h12, fun H2 s2 => ?_⟩
    exact ⟨_, rfl, _, rfl, L, v, n, rfl, hv _ (s1.trans s2), q.same (s1.trans s2)⟩
abbrev sKLs : Stmt := topS 92
abbrev nKLs : List Str := ["letters", "rules", "samples", "many", "numbers", "number"]
theorem scKLs : FnScope nKLs ["letters", "rules", "samples"] (defScope sKLs) := ⟨rfl, rfl, rfl, by decide +kernel, rfl, by decide +kernel, by decide +kernel⟩
theorem wx_least {f fA CM : Addr} {fd fdA : FuncData} (F : Fun K "least" "least" sKLs f fd) (GA : FnOk P w K mg base (L2.CX P w) 5 fA fdA ["letters", "rules", "samples"] (spSaX K CM)) (kA : PySem.W.keepIn K (.ref fA) = true) (bA : Binds K fdA ["letters", "rules", "samples"] []) (mA : mg "check_all" = some (.ref fA)) :
    FnOk P w K mg base (L2.CX P w) 6 f fd ["letters", "rules", "samples"] (spSaX K CM) := by
  refine F.okX scKLs (fun vs H Q E h => ?_) (fun cdv A outer s H vs Q E hr h => ?_)
  · obtain ⟨L, R, rs, v, n, rfl, _⟩ := h
    rfl
  · obtain ⟨L, R, rs, v, n, rfl, hh⟩ := h
    have tk : Takes _ (fun cls d _ H => E cls d H) := takes_of (X := cxOf (L2.CX P w) P w K mg base nKLs "least" (defScope sKLs) f cdv A outer s H E) rfl rfl rfl rfl
    refine ⟨_, pss_cons (ps_expr (pe_callS GA hr (by rfl) mA kA bA (fun σ => passAt tk σ) (by exact (pa_cons (pv 0) (pa_cons (pv 1) (pa_cons (pv 2) pa_nil)))))) (pss_cons ps_never (pss_one ps_never)), ?_⟩
    exact ⟨_, rfl, _, rfl, _, rfl, L, R, rs, v, n, rfl, hh⟩
abbrev sKBm : Stmt := topS 93
abbrev nKBm : List Str := ["letters", "rules", "samples", "number", "sample"]
theorem scKBm : FnScope nKBm ["letters", "rules", "samples"] (defScope sKBm) := ⟨rfl, rfl, rfl, by decide +kernel, rfl, by decide +kernel, by decide +kernel⟩
theorem wx_blamed {f fA CM : Addr} {fd fdA : FuncData} (F : Fun K "blamed" "blamed" sKBm f fd) (GA : FnOk P w K mg base (L2.CX P w) 5 fA fdA ["letters", "rules", "samples"] (spSaX K CM)) (kA : PySem.W.keepIn K (.ref fA) = true) (bA : Binds K fdA ["letters", "rules", "samples"] []) (mA : mg "check_all" = some (.ref fA)) :
    FnOk P w K mg base (L2.CX P w) 6 f fd ["letters", "rules", "samples"] (spSaX K CM) := by
  refine F.okX scKBm (fun vs H Q E h => ?_) (fun cdv A outer s H vs Q E hr h => ?_)
  · obtain ⟨L, R, rs, v, n, rfl, _⟩ := h
    rfl
  · obtain ⟨L, R, rs, v, n, rfl, hh⟩ := h
    have tk : Takes _ (fun cls d _ H => E cls d H) := takes_of (X := cxOf (L2.CX P w) P w K mg base nKBm "blamed" (defScope sKBm) f cdv A outer s H E) rfl rfl rfl rfl
    refine ⟨_, pss_cons (ps_expr (pe_callS GA hr (by rfl) mA kA bA (fun σ => passAt tk σ) (by exact (pa_cons (pv 0) (pa_cons (pv 1) (pa_cons (pv 2) pa_nil)))))) (pss_one ps_never), ?_⟩
    exact ⟨_, rfl, _, rfl, _, rfl, L, R, rs, v, n, rfl, hh⟩
end
end Say
namespace Say
open PySem PySem.Spec PyProof.Rows L2
section
variable {X : Cx}
/-- tuple(xs) of a list: a tuple as it is made -/
theorem call_tupN : CallR X (.type "tuple") (fun xs H Q => ∃ p ys, xs = [.ref p] ∧ SqL X.K H p ys ∧ ∀ (l : Addr) (o : Obj), o.dict = none → H l = none → Q (.ref l) (upd H l (.frz o (.tup ys)))) := by
  intro pins s σ H xs us Q I r h
  obtain ⟨p, ys, rfl, hq, q⟩ := h
  obtain ⟨u, rfl, rx⟩ := vals1 r
  cases rx
  obtain ⟨its, r', pl, hz⟩ := I.list hq
  have hlen := r'.length
  refine call_tuple_list pl.isList (fun h' kp => ?_) (by simp only [List.size_toArray] <;> omega)
  have I1 : Inv X pins σ H { s with heap := h' } := I.kept (t' := s.toks) kp
  have I2 : Inv X pins σ (upd H h'.objs.size (.frz { cls := .type "tuple", data := .seq its.toArray } (.tup ys))) { s with heap := h'.push { cls := .type "tuple", data := .seq its.toArray } } :=
    I1.laid (t' := s.toks) (fun b o e => Heap.get?_push_of_some _ e) (Nat.le_refl _) (show ObjOk X.prog X.w _ _ _ (.frz _ (.tup ys)) from ⟨Heap.get?_push_size _ rfl, hz, its, r', IsTup.new _ _⟩)
  exact ⟨.ref h'.objs.size, _, I2, rfl, q _ _ rfl (I1.hok.fresh (Nat.le_refl _))⟩
theorem pairs_ofT {pins : List (Addr × Obj)} {σ : L2.St} {H : Hp} {s : Shared} (I : L2.Inv X pins σ H s) : ∀ {ps : List Addr} {kvs : List (Key × V)}, Paired (fun p kv => SqT X.K H p [kV kv.1, kv.2]) ps kvs →
    ∃ (prs : List (Key × Value)) (vs : List (Value × Value)), KV kvs prs ∧ prs.length = ps.length ∧ vs.length = ps.length ∧
      ∀ (j : Nat) (k v : Value), vs[j]? = some (k, v) → ∃ (b : Addr) (q : Key), ps[j]? = some b ∧ prs[j]? = some (q, v) ∧ IsTup s.heap b #[k, v] ∧ keyIs q k = true
  | _, _, .nil => ⟨[], [], .nil, rfl, rfl, fun j k v e => by simp at e⟩
  | _, _, .cons (a := p) (b := kv) h t => by
    obtain ⟨prs, vs, r, hl, hl2, hp⟩ := pairs_ofT I t
    obtain ⟨its, rv, ht, _⟩ := I.tuple h
    obtain ⟨u, y, ei, ru, ry⟩ := vals2 rv
    subst ei
    refine ⟨(kv.1, y) :: prs, (u, y) :: vs, .cons ⟨rfl, ry⟩ r, by rw [List.length_cons, List.length_cons, hl], by rw [List.length_cons, List.length_cons, hl2], fun j k v e => ?_⟩
    cases j with
    | zero =>
      have e' : (u, y) = (k, v) := Option.some.inj e
      cases e'
      exact ⟨p, kv.1, rfl, rfl, ht, kV_is (P := X.prog) (w := X.w) ru⟩
    | succ j =>
      obtain ⟨b, q, e1, e2, e3⟩ := hp j k v (by simpa using e)
      exact ⟨b, q, by simpa using e1, by simpa using e2, e3⟩
/-- a display, as it is made -/
def tTupN (t : TA) : TE := fun σ H Q => t σ H fun xs H1 => xs.length ≤ sizeLine ∧ ∀ (p : Addr) (o : Obj), o.dict = none → H1 p = none → Q (.ref p) (upd H1 p (.frz o (.tup xs)))
theorem pe_tupN {es : List Expr} {t : TA} {pos : Pos} {x1} (h : PA X es t) : PE X (.Tuple es x1 pos) (tTupN t) := by
  refine ⟨fun pins s σ H Q I hq => ?_⟩
  refine wpAny_Tuple_spliced (thn (h.run pos pins s σ H _ I hq) fun us s1 ⟨xs, H1, I1, r, z, q⟩ => ⟨by rw [← r.length]; exact z, ?_⟩)
  have hf : H1 s1.heap.objs.size = none := I1.hok.fresh (Nat.le_refl _)
  exact ⟨.ref s1.heap.objs.size, upd H1 s1.heap.objs.size (.frz _ (.tup xs)), I1.laid (t' := s1.toks) (fun b u e => Heap.get?_push_of_some _ e) (Nat.le_refl _) ⟨Heap.get?_push_size _ rfl, z, us, r, ⟨_, Heap.get?_push_size _ rfl, rfl, _, rfl⟩⟩, rfl, q _ _ rfl hf⟩
/-- dict(ps) of such a tuple of pairs -/
theorem call_dictT (hcalm : X.calm = true) : CallR X (.type "dict") (fun xs H Q => ∃ (a : Addr) (ps : List Addr) (kvs : List (Key × V)), xs = [.ref a] ∧ TupN H a (ps.map V.ref) ∧ Paired (fun p kv => SqT X.K H p [kV kv.1, kv.2]) ps kvs ∧
    ∀ p, H p = none → Q (.ref p) (upd H p (.dK (mergeK [] kvs)))) := by
  intro pins s σ H xs us Q I r q
  obtain ⟨a, ps, kvs, ex, hq, hp, q⟩ := q
  subst ex
  obtain ⟨u, eu, rx⟩ := vals1 r
  subst eu
  cases rx
  obtain ⟨o, hH, hd⟩ := hq
  obtain ⟨ho, hz, its, rv, ⟨o', ho', hc, n, hdat⟩⟩ : s.heap.get? a = some o ∧ (ps.map V.ref).length ≤ sizeLine ∧ ∃ its : List Value, Vals (ps.map V.ref) its ∧ IsTup s.heap a its.toArray := I.hok _ _ hH
  have eo : o' = o := Option.some.inj (ho'.symm.trans ho)
  subst eo
  have ei := refs_at rv
  subst ei
  rw [List.length_map] at hz
  obtain ⟨prs, vs, rel, hl, hl2, hpr⟩ := pairs_ofT I hp
  refine PySem.call_dict_pairs (knd := mixKind X.prog X.w) (kvs := prs) (PySem.PairArg.tuple a (ps.map Value.ref).toArray (fun j => (ps[j]?).getD 0) vs) (I.ok.hd hcalm) ⟨⟨o', n, ho, hc, hd, hdat⟩, by simp [hl2], fun j k v e => ?_⟩ ⟨by rw [hl, hl2], fun j k v e => ?_⟩ (by rw [hl2]; exact hz) fun h' tk hd' k => ?_
  · obtain ⟨b, q', e1, _, e3, _⟩ := hpr j k v e
    refine ⟨by simp [e1], .inl ?_⟩
    show s.heap.IsTuple ((ps[j]?).getD 0) _
    rw [e1]
    exact e3
  · obtain ⟨b, q', e1, e2, _, e4⟩ := hpr j k v e
    exact ⟨q', e2, e4⟩
  · have hm : (s.heap.objs.size == sysModules) = false := beq_eq_false_iff_ne.mpr (Nat.ne_of_gt I.big)
    have hlen : (mergeK [] kvs).length ≤ sizeLine := by
      refine Nat.le_trans (length_mergeK kvs []) ?_
      rw [List.length_nil, Nat.zero_add, rel.length, hl]
      exact hz
    have k' : ∀ b o, s.heap.get? b = some o → h'.get? b = some o := fun b o e => k b o (by simp) e
    exact ⟨.ref s.heap.objs.size, upd H s.heap.objs.size (.dK (mergeK [] kvs)), I.laid (t' := tk) k' (Nat.le_refl _) (show ObjOk X.prog X.w _ _ _ (.dK (mergeK [] kvs)) from ⟨hlen, hm, merged [] prs, KV.merge rel .nil, hd'⟩), rfl, q _ (I.hok.fresh (Nat.le_refl _))⟩
end
end Say
namespace Say
open PySem PySem.Spec PyProof.Rows L2
section
variable {P : Program} {w : World} {K : PySem.W.Frag} {mg : Str → Option Value} {base : Heap}
abbrev sTaken : Stmt := topS 102
theorem scTaken : FnScope ["_law_row_here", "_law_many", "_law_found", "_law_cell"] ["_law_row_here", "_law_many"] (defScope sTaken) := ⟨rfl, rfl, rfl, by decide +kernel, rfl, by decide +kernel, by decide +kernel⟩
theorem fmod_in {x n : Int} (h : 0 < n) : 0 ≤ x.fmod n ∧ x.fmod n < n := ⟨Int.fmod_nonneg_of_pos _ h, Int.fmod_lt_of_pos _ h⟩
theorem ok_taken {f : Addr} {fd : FuncData} {k : Nat} (F : Fun K "_law_taken" "_law_taken" sTaken f fd) (ml : mg "len" = none) : FnOk P w K mg base CX0 (k + 1) f fd ["_law_row_here", "_law_many"] (spTaken K) := by
  refine F.ok scTaken (fun vs H Q E h => ?_) (fun cdv A outer s H vs Q E hr h => ?_)
  · obtain ⟨r, a, ns, n, rfl, _⟩ := h
    rfl
  · obtain ⟨r, a, ns, n, rfl, R, h0, h1, q⟩ := h
    obtain ⟨⟨i, c, m, hR, hi, hm0, hm1⟩, hS, hle⟩ := id R
    refine ⟨_, pss_cons (ps_if (pt_cmpR op_gt (pe_ix ix_list (pv 0) pe_int (fun _ _ => rfl)) pe_int (nomark _))
        (pss_cons (ps_set (i := 2) scTaken.nd rfl (.inl rfl) (pe_op op_modN (pe_ix ix_list (pv 0) pe_int (fun _ _ => rfl)) (pv 1)))
        (pss_cons (ps_asg (pe_op op_fdivN (pe_ix ix_list (pv 0) pe_int (fun _ _ => rfl)) (pv 1)) (pg_sub (pv 0) pe_int set_list))
        (pss_one (ps_ret (pv 2))))) pss_nil)
      (pss_cons (ps_if (pt_cmpR op_lt (pe_ix ix_list (pv 0) pe_int (fun _ _ => rfl)) (pe_callB call_len_seq (by rfl) ml PySem.boot_len (pa_cons (pe_ix ix_list (pv 0) pe_int (fun _ _ => rfl)) pa_nil)) (nomark _))
        (pss_cons (ps_set (i := 3) scTaken.nd rfl (.inl rfl) (pe_ix ix_list (pe_ix ix_list (pv 0) pe_int (fun _ _ => rfl)) (pe_ix ix_list (pv 0) pe_int (fun _ _ => rfl)) (fun _ _ => rfl)))
        (pss_cons (ps_asg (pe_op op_add (pe_ix ix_list (pv 0) pe_int (fun _ _ => rfl)) pe_int) (pg_sub (pv 0) pe_int set_list))
        (pss_cons (ps_if (pt_cmpR op_ge (pv 3) (pe_op op_pow pe_int pe_int) (nomark _))
          (pss_one (ps_asg (pe_op op_fdivN (pv 3) (pv 1)) (pg_sub (pv 0) pe_int set_list))) pss_nil)
        (pss_one (ps_ret (pe_op op_modN (pv 3) (pv 1))))))) pss_nil)
      (pss_cons (ps_asg (pe_op op_modN (pe_op op_add (pe_op op_mul (pe_ix ix_list (pv 0) pe_int (fun _ _ => rfl)) pe_int) pe_int) pe_int) (pg_sub (pv 0) pe_int set_list))
      (pss_one (ps_ret (pe_op op_modN (pe_op op_fdivN (pe_ix ix_list (pv 0) pe_int (fun _ _ => rfl)) pe_int) (pv 1)))))), ?_⟩
    have hL : SqL K H r [.ref a, .int i, .int c, .int m] := .inl (.inl hR)
    have gn : n ≠ 0 ∧ n.natAbs < 1073741824 := ⟨by omega, by omega⟩
    -- row[2] > 0
    refine ⟨_, rfl, r, _, 2, .int c, rfl, rfl, hL, atI_nat (j := 2) rfl, _, _, rfl, rfl, _, rfl, ite2 (fun e => ?_) (fun e => ?_)⟩
    · refine ⟨_, rfl, r, _, 2, .int c, rfl, rfl, hL, atI_nat (j := 2) rfl, _, rfl, _, _, rfl, rfl, gn.1, ?_⟩
      refine ⟨_, rfl, r, _, 2, .int c, rfl, rfl, hL, atI_nat (j := 2) rfl, _, rfl, _, _, rfl, rfl, gn, ?_⟩
      refine ⟨_, rfl, r, _, 2, 2, rfl, rfl, hR, rfl, ?_⟩
      refine ⟨_, rfl, ?_⟩
      exact q _ _ (fmod_in h0).1 (fmod_in h0).2 (stp_at _) (R.put hi hm0 hm1)
    -- row[1] < len(row[0])
    refine ⟨_, rfl, r, _, 1, .int i, rfl, rfl, hL, atI_nat (j := 1) rfl, _, rfl, r, _, 0, .ref a, rfl, rfl, hL, atI_nat (j := 0) rfl, a, _, rfl, .inl hS, _, _, rfl, rfl, _, rfl, ite2 (fun e1 => ?_) (fun e1 => ?_)⟩
    · have e2 : i < ((ns.map V.int).length : Int) := of_decide_eq_true e1
      rw [List.length_map] at e2
      have hj : i.toNat < ns.length := by omega
      have gx : (ns.map V.int)[i.toNat]? = some (.int ns[i.toNat]) := by
        rw [List.getElem?_map, List.getElem?_eq_getElem hj]
        rfl
      refine ⟨_, rfl, r, _, 0, .ref a, rfl, rfl, hL, atI_nat (j := 0) rfl, _, rfl, r, _, 1, .int i, rfl, rfl, hL, atI_nat (j := 1) rfl, a, _, i, .int ns[i.toNat], rfl, rfl, hS, at_of (j := i.toNat) (by omega) gx, ?_⟩
      refine ⟨_, rfl, r, _, 1, .int i, rfl, rfl, hL, atI_nat (j := 1) rfl, _, _, rfl, rfl, ?_⟩
      refine ⟨_, rfl, r, _, 1, 1, rfl, rfl, hR, rfl, ?_⟩
      have R1 : RowAt K (upd H r (.lst [.ref a, .int (i + 1), .int c, .int m])) r a ns := R.put (by omega) hm0 hm1
      refine ⟨_, rfl, _, _, rfl, rfl, ⟨by decide, by decide, by decide⟩, _, _, rfl, rfl, _, rfl, ite2 (fun e3 => ?_) (fun e3 => ?_)⟩
      · refine ⟨_, rfl, _, rfl, _, _, rfl, rfl, gn, ?_⟩
        refine ⟨_, rfl, r, _, 2, 2, rfl, rfl, upd_same, rfl, ?_⟩
        refine ⟨_, rfl, _, rfl, _, _, rfl, rfl, gn.1, ?_⟩
        exact q _ _ (fmod_in h0).1 (fmod_in h0).2 ((stp_at _).trans (stp_at _)) (R1.put (by omega) hm0 hm1)
      · refine ⟨_, rfl, _, rfl, _, _, rfl, rfl, gn.1, ?_⟩
        exact q _ _ (fmod_in h0).1 (fmod_in h0).2 (stp_at _) R1
    · refine ⟨_, rfl, r, _, 3, .int m, rfl, rfl, hL, atI_nat (j := 3) rfl, _, _, rfl, rfl, .inl ⟨by omega, by omega⟩, _, _, rfl, rfl, _, _, rfl, rfl, (by show (2147483647 : Int) ≠ 0; decide), ?_⟩
      refine ⟨_, rfl, r, _, 3, 3, rfl, rfl, hR, rfl, ?_⟩
      have b := fmod_in (x := m * 48271 + 12345) (n := 2147483647) (by decide)
      have R1 : RowAt K (upd H r (.lst [.ref a, .int i, .int c, .int ((m * 48271 + 12345).fmod 2147483647)])) r a ns := R.put hi b.1 b.2
      refine ⟨_, rfl, r, _, 3, .int ((m * 48271 + 12345).fmod 2147483647), rfl, rfl, .inl (.inl upd_same), atI_nat (j := 3) rfl, _, _, rfl, rfl, ⟨by decide, by decide⟩, _, rfl, _, _, rfl, rfl, gn.1, ?_⟩
      exact q _ _ (fmod_in h0).1 (fmod_in h0).2 (stp_at _) R1
end
end Say
namespace Say
open PySem PySem.Spec PyProof.Rows L2
def lets : List (List Nat) := [[97, 98], [97, 98, 99], [97, 99], [97, 98, 99, 100]]
section
variable {P : Program} {w : World} {K : PySem.W.Frag} {mg : Str → Option Value} {base : Heap}
abbrev sSide : Stmt := topS 104
theorem scSide : FnScope ["_law_row_here", "_law_letters_here", "_law_sign"] ["_law_row_here", "_law_letters_here"] (defScope sSide) := ⟨rfl, rfl, rfl, by decide +kernel, rfl, by decide +kernel, by decide +kernel⟩
def spSide (K : PySem.W.Frag) : Sp := fun vs H Q _ => ∃ (r a : Addr) (ns : List Int) (L : List Nat), vs = [.ref r, .str (T L)] ∧ RowAt K H r a ns ∧ L.length ≤ 4 ∧
  ∀ (z : List Nat) (H' : Hp), z.Sublist (35 :: L) → Stp r H H' → RowAt K H' r a ns → Q (.str (T z)) H'
theorem ok_side {f : Addr} {fd : FuncData} (F : Fun K "_law_side" "_law_side" sSide f fd) (DT : Df P w K mg base "_law_taken" ["_law_row_here", "_law_many"] 1 (spTaken K)) :
    FnOk P w K mg base CX0 2 f fd ["_law_row_here", "_law_letters_here"] (spSide K) := by
  obtain ⟨fT, fdT, GT, kT, bT, mT⟩ := DT
  refine F.ok scSide (fun vs H Q E h => ?_) (fun cdv A outer s H vs Q E hr h => ?_)
  · obtain ⟨r, a, ns, L, rfl, _⟩ := h
    rfl
  · obtain ⟨r, a, ns, L, rfl, R, hl, q⟩ := h
    refine ⟨_, pss_cons (ps_if (pt_cmpR op_eq (pe_call GT hr (by rfl) mT kT bT .nil pass0 (pa_cons (pv 0) (pa_cons pe_int pa_nil))) pe_int (nomark _)) (pss_one (ps_ret pe_str)) pss_nil)
      (pss_one (ps_ret (pe_join pe_str (pe_lc (own := [("_law_sign", 2)]) (g := gName 2) rfl scSide.nd (pi_str (pe_op op_add_str pe_str (pv 1)))
        (blkOk_by (N := ["_law_row_here", "_law_letters_here", "_law_sign"]) (sc := defScope sSide) (by decide +kernel)) (fun _ _ _ _ _ => pg_name (i := 2) scSide.nd rfl (.inl rfl))
        (fun _ _ _ _ _ => pts_one (pt_cmpR op_eq (pe_call GT hr (by rfl) mT kT bT .nil pass0 (pa_cons (pv 0) (pa_cons pe_int pa_nil))) pe_int (nomark _))) (fun _ _ _ _ _ => pv 2))))), ?_⟩
    refine ⟨_, rfl, r, a, ns, 2, rfl, R, by decide, by decide, fun k1 H1 h0 h1 s1 R1 => ?_⟩
    refine ⟨rfl, _, rfl, ite2 (fun _ => ?_) (fun _ => ?_)⟩
    · have e := q [] H1 (List.nil_sublist _) s1 R1
      exact e
    refine ⟨⟨_, rfl⟩, _, rfl, _, _, rfl, rfl, (by rw [len_hash, T_len]; exact small (by omega)), ?_⟩
    refine ⟨T (35 :: L), congrArg V.str (hash_app L), fun D hD => ?_⟩
    refine lc_it (walk_str) (fun i H2 => ∃ acc : List Nat, H2 D = some (.lst (sg acc)) ∧ acc.Sublist ((35 :: L).take i) ∧ Stp r H1 H2 ∧ RowIn H2 r a) ?_ (fun _ _ _ _ => trivial) ?_ ?_
    · exact ⟨[], upd_same, List.nil_sublist _, Stp.of (same_new hD _), R1.in.upd (R1.nw hD)⟩
    · rintro i x H2 H2' hi ⟨acc, e1, e2, e3, e4⟩ ⟨rfl, c, hc, rfl⟩
      have hc := T_at hc
      have tk := take_next hc
      refine ⟨rfl, _, rfl, r, a, ns, 2, rfl, R1.of e3 e4, by decide, by decide, fun k2 H3 h0 h1 s2 R2 => ?_⟩
      have e1' := s2.one e1 (R1.nw hD)
      refine ⟨rfl, _, rfl, ite2 (fun _ => ?_) (fun _ => ?_)⟩
      · refine ⟨_, rfl, _, e1', ?_, acc ++ [c], ?_, ?_, (e3.trans s2).put hD _, R2.in.upd (R1.nw hD)⟩
        · have := e2.length_le
          rw [sg_len]
          rw [List.length_take, List.length_cons] at this
          exact small1000 (by omega)
        · rw [upd_same]
          exact congrArg (fun l => some (HO.lst l)) (sg_app acc c)
        · rw [tk]
          exact e2.append (List.Sublist.refl [c])
      · refine ⟨acc, e1', ?_, e3.trans s2, R2.in⟩
        rw [tk]
        exact e2.trans (List.sublist_append_left _ _)
    · rintro H2 ⟨acc, e1, e2, e3, e4⟩
      rw [T_size, List.take_length] at e2
      refine ⟨Str.ofString "", D, (acc.map fun c => [c]).map T, rfl, rfl, .inl (.inl (.inl ?_)), ?_, ?_⟩
      · rw [e1, sg_map]
      · rw [sum_ones]
        have := e2.length_le
        rw [List.length_cons] at this
        show acc.length + _ * 0 ≤ _
        omega
      · rw [show Str.ofString "" = T [] from nil_eq, join_nil, map_single]
        exact q acc H2 e2 (s1.trans e3) (R1.of e3 e4)
end
end Say
namespace Say
open PySem PySem.Spec PyProof.Rows L2
section
variable {P : Program} {w : World} {K : PySem.W.Frag} {mg : Str → Option Value} {base : Heap}
abbrev sText : Stmt := topS 105
theorem scText : FnScope ["_law_row_here", "_law_signs", "_law_fewest", "_law_many", "_law_k"] ["_law_row_here", "_law_signs", "_law_fewest", "_law_many"] (defScope sText) := ⟨rfl, rfl, rfl, by decide +kernel, rfl, by decide +kernel, by decide +kernel⟩
def spText (K : PySem.W.Frag) : Sp := fun vs H Q _ => ∃ (r a : Addr) (ns : List Int) (S : List Nat) (lo hi : Nat), vs = [.ref r, .str (T S), .int lo, .int hi] ∧ RowAt K H r a ns ∧ 0 < S.length ∧ S.length ≤ 100 ∧ lo ≤ hi ∧ hi ≤ 100 ∧
  ∀ (z : List Nat) (H' : Hp), (∀ c ∈ z, c ∈ S) → lo ≤ z.length → z.length ≤ hi → Stp r H H' → RowAt K H' r a ns → Q (.str (T z)) H'
theorem ok_text {f : Addr} {fd : FuncData} (F : Fun K "_law_text" "_law_text" sText f fd) (DT : Df P w K mg base "_law_taken" ["_law_row_here", "_law_many"] 1 (spTaken K)) (ml : mg "len" = none) (mr : mg "range" = none) :
    FnOk P w K mg base CX0 2 f fd ["_law_row_here", "_law_signs", "_law_fewest", "_law_many"] (spText K) := by
  obtain ⟨fT, fdT, GT, kT, bT, mT⟩ := DT
  refine F.ok scText (fun vs H Q E h => ?_) (fun cdv A outer s H vs Q E hr h => ?_)
  · obtain ⟨r, a, ns, S, lo, hi, rfl, _⟩ := h
    rfl
  · obtain ⟨r, a, ns, S, lo, hi, rfl, R, hS0, hS1, hlh, hh, q⟩ := h
    refine ⟨_, pss_one (ps_ret (pe_join pe_str (pe_lc (own := [("_law_k", 4)]) (g := gName 4) rfl scText.nd
        (pi_range1 rfl mr (pa_cons (pe_op op_add (pv 2) (pe_call GT hr (by rfl) mT kT bT .nil pass0 (pa_cons (pv 0) (pa_cons (pe_op op_add (pe_op op_sub (pv 3) (pv 2)) pe_int) pa_nil)))) pa_nil))
        (blkOk_by (N := ["_law_row_here", "_law_signs", "_law_fewest", "_law_many", "_law_k"]) (sc := defScope sText) (by decide +kernel)) (fun _ _ _ _ _ => pg_name (i := 4) scText.nd rfl (.inl rfl))
        (fun _ _ _ _ _ => pts_nil) (fun _ _ _ _ _ => pe_ix ix_str (pv 1) (pe_call GT hr (by rfl) mT kT bT .nil pass0 (pa_cons (pv 0) (pa_cons (pe_callB call_len_str (by rfl) ml PySem.boot_len (pa_cons (pv 1) pa_nil)) pa_nil))) (fun _ _ => rfl))))), ?_⟩
    refine ⟨⟨_, rfl⟩, _, rfl, _, rfl, _, rfl, _, rfl, _, _, rfl, rfl, _, _, rfl, rfl, r, a, ns, _, rfl, R, by omega, by omega, fun k1 H1 h0 h1 s1 R1 => ?_⟩
    refine ⟨_, _, rfl, rfl, (lo : Int) + k1, rfl, by omega, by omega, fun D hD => ?_⟩
    refine lc_it (walk_range) (fun i H2 => ∃ acc : List Nat, H2 D = some (.lst (sg acc)) ∧ acc.length = i ∧ (∀ c ∈ acc, c ∈ S) ∧ Stp r H1 H2 ∧ RowIn H2 r a) ?_ (fun _ _ _ _ => trivial) ?_ ?_
    · exact ⟨[], upd_same, rfl, by simp, Stp.of (same_new hD _), R1.in.upd (R1.nw hD)⟩
    · rintro i x H2 H2' hi' ⟨acc, e1, e2, e3, e4, e5⟩ ⟨rfl, rfl⟩
      refine ⟨rfl, ?_⟩
      refine ⟨_, rfl, _, rfl, _, rfl, _, rfl, (by rw [T_len]; exact small (by omega)), r, a, ns, _, rfl, R1.of e4 e5, (by rw [T_len]; omega), (by rw [T_len]; omega), fun k2 H3 h2 h3 s2 R2 => ?_⟩
      have e1' := s2.one e1 (R1.nw hD)
      rw [T_len] at h3
      have hj : k2.toNat < S.length := by omega
      refine ⟨T S, k2, S[k2.toNat], rfl, rfl, (by rw [T_len]; exact small (by omega)), at_list hj (by omega), ?_⟩
      refine ⟨_, e1', ?_, acc ++ [S[k2.toNat]], ?_, by simp [e2], ?_, (e4.trans s2).put hD _, R2.in.upd (R1.nw hD)⟩
      · rw [sg_len]
        exact small1000 (by omega)
      · rw [upd_same]
        exact congrArg (fun l => some (HO.lst l)) (sg_app acc _)
      · intro c hc
        rcases List.mem_append.mp hc with h | h
        · exact e3 c h
        · rw [List.mem_singleton.mp h]
          exact List.getElem_mem hj
    · rintro H2 ⟨acc, e1, e2, e3, e4, e5⟩
      refine ⟨Str.ofString "", D, (acc.map fun c => [c]).map T, rfl, rfl, .inl (.inl (.inl ?_)), ?_, ?_⟩
      · rw [e1, sg_map]
      · rw [sum_ones]
        show acc.length + _ * 0 ≤ _
        omega
      · rw [show Str.ofString "" = T [] from nil_eq, join_nil, map_single]
        exact q acc H2 e3 (by omega) (by omega) (s1.trans e4) (R1.of e4 e5)
end
end Say
namespace Say
open PySem PySem.Spec PyProof.Rows L2
section
variable {P : Program} {w : World} {K : PySem.W.Frag} {mg : Str → Option Value} {base : Heap}
abbrev sRule : Stmt := topS 106
theorem scRule : FnScope ["_law_row_here", "_law_letters_here", "_law_ahead", "_law_own"] ["_law_row_here", "_law_letters_here"] (defScope sRule) := ⟨rfl, rfl, rfl, by decide +kernel, rfl, by decide +kernel, by decide +kernel⟩
def spRule (K : PySem.W.Frag) : Sp := fun vs H Q _ => ∃ (r a : Addr) (ns : List Int) (L : List Nat), vs = [.ref r, .str (T L)] ∧ RowAt K H r a ns ∧ 0 < L.length ∧ L.length ≤ 4 ∧
  ∀ (ρ : Rule) (t : Addr) (H' : Hp), RuleOk L ρ → H' t = some (.tup ρ.vs) → Stp r H H' → RowAt K H' r a ns → Q (.ref t) H'
theorem AB_eq : Str.ofString "AB" = T [65, 66] := by decide +kernel
theorem AB_ok {z : List Nat} (h : ∀ c ∈ z, c ∈ [65, 66]) : ∀ c ∈ z, 65 ≤ c ∧ c ≤ 90 := fun c hc => by
  have := h c hc
  simp at this
  omega
theorem ok_rule {f : Addr} {fd : FuncData} (F : Fun K "_law_rule" "_law_rule" sRule f fd) (DT : Df P w K mg base "_law_taken" ["_law_row_here", "_law_many"] 1 (spTaken K))
    (DS : Df P w K mg base "_law_side" ["_law_row_here", "_law_letters_here"] 2 (spSide K)) (DX : Df P w K mg base "_law_text" ["_law_row_here", "_law_signs", "_law_fewest", "_law_many"] 2 (spText K)) :
    FnOk P w K mg base CX0 3 f fd ["_law_row_here", "_law_letters_here"] (spRule K) := by
  obtain ⟨fT, fdT, GT, kT, bT, mT⟩ := DT
  obtain ⟨fS, fdS, GS, kS, bS, mS⟩ := DS
  obtain ⟨fX, fdX, GX, kX, bX, mX⟩ := DX
  refine F.ok scRule (fun vs H Q E h => ?_) (fun cdv A outer s H vs Q E hr h => ?_)
  · obtain ⟨r, a, ns, L, rfl, _⟩ := h
    rfl
  · obtain ⟨r, a, ns, L, rfl, R, hl0, hl, q⟩ := h
    have hr1 : Room 1 _ := hr.mono (by decide)
    refine ⟨_, pss_cons (ps_par (i := 2) (j := 3) (by rfl) scRule.nd rfl rfl (by decide) rfl rfl (pa_cons (pe_call GS hr (by rfl) mS kS bS .nil pass0 (pa_cons (pv 0) (pa_cons (pv 1) pa_nil)))
          (pa_cons (pe_call GX hr (by rfl) mX kX bX .nil pass0 (pa_cons (pv 0) (pa_cons (pv 1) (pa_cons pe_int (pa_cons pe_int pa_nil))))) pa_nil)) (by rfl))
      (pss_one (ps_ret (pe_tup (pa_cons (pv 2) (pa_cons (pv 3) (pa_cons (pe_call GS hr (by rfl) mS kS bS .nil pass0 (pa_cons (pv 0) (pa_cons (pv 1) pa_nil)))
        (pa_cons (pe_call GX hr (by rfl) mX kX bX .nil pass0 (pa_cons (pv 0) (pa_cons pe_str (pa_cons pe_int (pa_cons (pe_ix ix_list (pe_lst (pa_cons pe_int (pa_cons pe_int (pa_cons pe_int pa_nil)))) (pe_call GT hr1 (by rfl) mT kT bT .nil pass0 (pa_cons (pv 0) (pa_cons pe_int pa_nil))) (fun _ _ => rfl)) pa_nil))))) pa_nil))))))), ?_⟩
    refine ⟨_, rfl, _, rfl, r, a, ns, L, rfl, R, hl, fun ah H1 o1 s1 R1 => ?_⟩
    refine ⟨_, rfl, _, rfl, r, a, ns, L, 1, 2, rfl, R1, hl0, by omega, by decide, by decide, fun ow H2 o2 o3 o4 s2 R2 => ?_⟩
    refine ⟨_, _, rfl, ?_⟩
    refine ⟨_, rfl, _, rfl, _, rfl, _, rfl, r, a, ns, L, rfl, R2, hl, fun be H3 o5 s3 R3 => ?_⟩
    refine ⟨_, rfl, (by show 3 ≤ sizeLine; decide), fun p hp => ?_⟩
    have sm := same_new hp (.lst [V.int 1, .int 1, .int 3])
    refine ⟨_, rfl, r, a, ns, 3, rfl, R3.stp sm, by decide, by decide, fun k1 H4 h0 h1 s4 R4 => ?_⟩
    have hL : SqL K H4 p [V.int 1, .int 1, .int 3] := .inl (.inl (s4 _ _ upd_same (R3.nw hp).symm))
    have s34 := (Stp.of sm).trans s4
    have fin : ∀ m : Nat, m ≤ 3 → ∀ (so : List Nat) (H5 : Hp), (∀ c ∈ so, c ∈ [65, 66]) → 0 ≤ so.length → so.length ≤ m → Stp r H4 H5 → RowAt K H5 r a ns → 
        (4 ≤ sizeLine ∧ ∀ t, H5 t = none → Q (.ref t) (upd H5 t (.tup [.str (T ah), .str (T ow), .str (T be), .str (T so)]))) := fun m hm so H5 o6 _ o7 s5 R5 =>
      ⟨by decide, fun t ht => q ⟨ah, ow, be, so⟩ t _ ⟨o1, o2, o3, o4, o5, AB_ok o6, by show so.length ≤ 3; omega⟩ upd_same (s1.trans (s2.trans (s3.trans (s34.trans (s5.trans (Stp.of (same_new ht _))))))) (R5.stp (same_new ht _))⟩
    have hk : k1 = 0 ∨ k1 = 1 ∨ k1 = 2 := by omega
    rcases hk with e | e | e
    · exact ⟨p, _, k1, V.int 1, rfl, rfl, hL, at_of (j := 0) e rfl, r, a, ns, [65, 66], 0, 1, by rw [AB_eq]; rfl, R4, by decide, by decide, by decide, by decide, fin 1 (by decide)⟩
    · exact ⟨p, _, k1, V.int 1, rfl, rfl, hL, at_of (j := 1) e rfl, r, a, ns, [65, 66], 0, 1, by rw [AB_eq]; rfl, R4, by decide, by decide, by decide, by decide, fin 1 (by decide)⟩
    · exact ⟨p, _, k1, V.int 3, rfl, rfl, hL, at_of (j := 2) e rfl, r, a, ns, [65, 66], 0, 3, by rw [AB_eq]; rfl, R4, by decide, by decide, by decide, by decide, fin 3 (by decide)⟩
abbrev sRules : Stmt := topS 107
theorem scRules : FnScope ["_law_row_here", "_law_letters_here", "_law_most", "_law_found", "_law_letter", "_law_k"] ["_law_row_here", "_law_letters_here", "_law_most"] (defScope sRules) := ⟨rfl, rfl, rfl, by decide +kernel, rfl, by decide +kernel, by decide +kernel⟩
def spRules (K : PySem.W.Frag) : Sp := fun vs H Q _ => ∃ (r a : Addr) (ns : List Int) (L : List Nat) (n : Nat), vs = [.ref r, .str (T L), .int n] ∧ RowAt K H r a ns ∧ 0 < L.length ∧ L.length ≤ 4 ∧ n ≤ 20 ∧
  ∀ (rs : List Rule) (R : Addr) (H' : Hp), (∀ ρ ∈ rs, RuleOk L ρ) → rs.length ≤ n + L.length → RulesAt H' R rs → Stp r H H' → RowAt K H' r a ns → Q (.ref R) H'
theorem ok_rules {f : Addr} {fd : FuncData} (F : Fun K "_law_rules" "_law_rules" sRules f fd) (DT : Df P w K mg base "_law_taken" ["_law_row_here", "_law_many"] 1 (spTaken K))
    (DR : Df P w K mg base "_law_rule" ["_law_row_here", "_law_letters_here"] 3 (spRule K)) (mr : mg "range" = none) (mt : mg "tuple" = none) :
    FnOk P w K mg base CX0 4 f fd ["_law_row_here", "_law_letters_here", "_law_most"] (spRules K) := by
  obtain ⟨fT, fdT, GT, kT, bT, mT⟩ := DT
  obtain ⟨fR, fdR, GR, kR, bR, mR⟩ := DR
  refine F.ok scRules (fun vs H Q E h => ?_) (fun cdv A outer s H vs Q E hr h => ?_)
  · obtain ⟨r, a, ns, L, n, rfl, _⟩ := h
    rfl
  · obtain ⟨r, a, ns, L, n, rfl, R, hl0, hl, hn, q⟩ := h
    have hr1 : Room 1 _ := hr.mono (by decide)
    refine ⟨_, pss_cons (ps_setLc (i := 3) (own := [("_law_k", 5)]) (g := gName 5) rfl scRules.nd rfl rfl (sw_true rfl rfl rfl (by decide +kernel))
        (pi_range1 rfl mr (pa_cons (pe_call GT hr1 (by rfl) mT kT bT .nil pass0 (pa_cons (pv 0) (pa_cons (pe_op op_add (pv 2) pe_int) pa_nil))) pa_nil))
        (blkOk_by (N := ["_law_row_here", "_law_letters_here", "_law_most", "_law_found", "_law_letter", "_law_k"]) (sc := defScope sRules) (by decide +kernel)) (fun _ _ _ _ _ => pg_name (i := 5) scRules.nd rfl (.inl rfl))
        (fun _ _ _ _ _ => pts_nil) (fun _ _ _ _ _ => pe_call GR hr (by rfl) mR kR bR .nil pass0 (pa_cons (pv 0) (pa_cons (pv 1) pa_nil))))
      (pss_cons (ps_if (pt_cmpR op_gt (pe_call GT hr1 (by rfl) mT kT bT .nil pass0 (pa_cons (pv 0) (pa_cons pe_int pa_nil))) pe_int (nomark _))
        (pss_one (ps_for PassesOwn.never rfl (pi_str (pv 1)) (pg_name (i := 4) scRules.nd rfl (.inl rfl))
          (pss_one (ps_expr (pe_bm PySem.F.plainAttrs_list PySem.F.slot_list_append PySem.F.type_list_append mt_append (pv 3)
            (pa_cons (pe_tup (pa_cons pe_str (pa_cons (pv 4) (pa_cons pe_str (pa_cons (pe_ix ix_list (pe_lst (pa_cons pe_str (pa_cons pe_str (pa_cons pe_str (pa_cons pe_str pa_nil))))) (pe_call GT hr1 (by rfl) mT kT bT .nil pass0 (pa_cons (pv 0) (pa_cons pe_int pa_nil))) (fun _ _ => rfl)) pa_nil))))) pa_nil)))))) pss_nil)
      (pss_one (ps_ret (pe_callTy call_tuple_of (by rfl) mt (by decide +kernel) (pa_cons (pv 3) pa_nil))))), ?_⟩
    refine ⟨_, rfl, _, rfl, _, _, rfl, rfl, r, a, ns, _, rfl, R, by omega, by omega, fun k1 H1 h0 h1 s1 R1 => ?_⟩
    refine ⟨k1, rfl, by omega, by omega, fun D hD => ?_⟩
    have nD := R1.nw hD
    refine lc_it (walk_range) (fun i H2 => ∃ (ts : List Addr) (rs : List Rule), H2 D = some (.lst (ts.map V.ref)) ∧ Paired (fun t ρ => H2 t = some (.tup (Rule.vs ρ))) ts rs ∧ rs.length = i ∧ (∀ ρ ∈ rs, RuleOk L ρ) ∧ Stp r H1 H2 ∧ RowIn H2 r a) ?_ (fun _ _ _ _ => trivial) ?_ ?_
    · exact ⟨[], [], upd_same, .nil, rfl, by simp, Stp.of (same_new hD _), R1.in.upd nD⟩
    · rintro i x H2 H2' hi' ⟨ts, rs, e1, e2, e3, e4, e5, e6⟩ ⟨rfl, rfl⟩
      refine ⟨rfl, ?_⟩
      refine ⟨_, rfl, _, rfl, r, a, ns, L, rfl, R1.of e5 e6, hl0, hl, fun ρ t H3 o1 o2 s2 R2 => ?_⟩
      have e1' := s2.one e1 nD
      have kt := (s2.kt e6).trans (kt_upd e1' (o := .lst (ts.map V.ref ++ [.ref t])))
      refine ⟨_, e1', ?_, ts ++ [t], rs ++ [ρ], ?_, ?_, by simp [e3], ?_, (e5.trans s2).put hD _, R2.in.upd nD⟩
      · rw [List.length_map, paired_len e2]
        exact small1000 (by omega)
      · rw [upd_same, List.map_append]
        rfl
      · exact paired_app (paired_mono (fun t ρ h => kt.1 _ _ h) e2) (.cons ((kt_upd e1').1 _ _ o2) .nil)
      · intro c hc
        rcases List.mem_append.mp hc with h | h
        · exact e4 c h
        · rw [List.mem_singleton.mp h]
          exact o1
    · rintro H2 ⟨ts, rs, e1, e2, e3, e4, e5, e6⟩
      have e3' : rs.length ≤ n := by omega
      refine ⟨_, rfl, r, a, ns, 4, rfl, R1.of e5 e6, by decide, by decide, fun k2 H3 h2 h3 s2 R2 => ?_⟩
      have e1' := s2.one e1 nD
      have e2' := paired_mono (fun t ρ h => (s2.kt e6).1 _ _ h) e2
      have e5' := e5.trans s2
      -- the end: tuple(found)
      have fin : ∀ (H4 : Hp) (ts : List Addr) (rs : List Rule), H4 D = some (.lst (ts.map V.ref)) → Paired (fun t ρ => H4 t = some (.tup (Rule.vs ρ))) ts rs → rs.length ≤ n + L.length → (∀ ρ ∈ rs, RuleOk L ρ) → Stp r H1 H4 → RowIn H4 r a → ∀ t, H4 t = none → Q (.ref t) (upd H4 t (.tup (ts.map V.ref))) := fun H4 ts rs f1 f2 f3 f4 f5 f6 t ht =>
        q rs t _ f4 f3 ⟨ts, upd_same, paired_mono (fun t ρ h => (kt_new ht).1 _ _ h) f2⟩ (s1.trans (f5.trans (Stp.of (same_new ht _)))) ((R1.of f5 f6).stp (same_new ht _))
      refine ⟨_, _, rfl, rfl, _, rfl, ite2 (fun _ => ?_) (fun _ => ?_)⟩
      · refine ⟨_, rfl, T L, rfl, for_it (walk_str) (fun i σ H4 => ∃ (ts : List Addr) (rs : List Rule) (v : Option V), σ = [some (.ref r), some (.str (T L)), some (.int n), some (.ref D), v, none] ∧ H4 D = some (.lst (ts.map V.ref)) ∧ Paired (fun t ρ => H4 t = some (.tup (Rule.vs ρ))) ts rs ∧ rs.length ≤ n + i ∧ (∀ ρ ∈ rs, RuleOk L ρ) ∧ Stp r H1 H4 ∧ RowIn H4 r a)
          ⟨ts, rs, _, rfl, e1', e2', by omega, e4, e5', R2.in⟩ (fun _ _ _ _ _ => trivial) ?_ ?_⟩
        · rintro i x σ H4 H4' hi' ⟨ts, rs, v, rfl, e1, e2, e3, e4, e5, e6⟩ ⟨rfl, c, hc, rfl⟩
          have hc := T_at hc
          have hi2 : i < L.length := by rw [T_size] at hi'; exact hi'
          have RA := R1.of e5 e6
          refine ⟨_, rfl, .inl ⟨rfl, _, .inl (.inl e1)⟩, _, rfl, (by show 4 ≤ sizeLine; decide), fun p hp => ?_⟩
          have sm := same_new hp (.lst [V.str "A", .str "B", .str "", .str "AB"])
          refine ⟨_, rfl, r, a, ns, 4, rfl, RA.stp sm, by decide, by decide, fun k3 H5 h4 h5 s3 R3 => ?_⟩
          have s3' := (Stp.of sm).trans s3
          have hL : SqL K H5 p [V.str "A", .str "B", .str "", .str "AB"] := .inl (.inl (s3 _ _ upd_same (RA.nw hp).symm))
          have f1 := s3'.one e1 nD
          have kt3 := s3'.kt e6
          have ec : c ∈ L := List.mem_of_getElem? hc
          have ok : ∀ so : List Nat, (∀ c ∈ so, 65 ≤ c ∧ c ≤ 90) → so.length ≤ 3 → RuleOk L ⟨[], [c], [], so⟩ := fun so g1 g2 =>
            ⟨List.nil_sublist _, fun d hd => by rw [List.mem_singleton.mp hd]; exact ec, Nat.le_refl _, by show 1 ≤ 2; decide, List.nil_sublist _, g1, g2⟩
          obtain ⟨so, g1, g2, g3⟩ : ∃ so : List Nat, (∀ c ∈ so, 65 ≤ c ∧ c ≤ 90) ∧ so.length ≤ 3 ∧ atI [V.str "A", .str "B", .str "", .str "AB"] k3 = some (V.str (T so)) := by
            have hk : k3 = 0 ∨ k3 = 1 ∨ k3 = 2 ∨ k3 = 3 := by omega
            rcases hk with e | e | e | e
            · exact ⟨[65], by decide, by decide, at_of (j := 0) e (by decide +kernel)⟩
            · exact ⟨[66], by decide, by decide, at_of (j := 1) e (by decide +kernel)⟩
            · exact ⟨[], by decide, by decide, at_of (j := 2) e (by decide +kernel)⟩
            · exact ⟨[65, 66], by decide, by decide, at_of (j := 3) e (by decide +kernel)⟩
          refine ⟨p, _, k3, V.str (T so), rfl, rfl, hL, g3, (by show 4 ≤ sizeLine; decide), fun t ht => ?_⟩
          have f2 := same_new ht (.tup [.str (Str.ofString ""), .str ⟨#[c]⟩, .str (Str.ofString ""), .str (T so)])
          have f3 := f2 _ _ f1
          have kt4 := (kt3.trans (KT.of f2)).trans (kt_upd f3 (o := .lst (ts.map V.ref ++ [.ref t])))
          refine ⟨D, _, _, rfl, rfl, f3, ?_, ts ++ [t], rs ++ [⟨[], [c], [], so⟩], _, rfl, ?_, ?_, ?_, ?_, ((e5.trans s3').trans (Stp.of f2)).put hD _, ?_⟩
          · rw [List.length_map, paired_len e2]
            exact small1000 (by omega)
          · rw [upd_same, List.map_append]
            rfl
          · refine paired_app (paired_mono (fun t ρ h => kt4.1 _ _ h) e2) (.cons ((kt_upd f3).1 _ _ ?_) .nil)
            rw [upd_same, show Str.ofString "" = T [] from nil_eq]
            rfl
          · rw [List.length_append]
            show rs.length + 1 ≤ n + (i + 1)
            omega
          · intro d hd
            rcases List.mem_append.mp hd with h | h
            · exact e4 d h
            · rw [List.mem_singleton.mp h]
              exact ok so g1 g2
          · exact (R3.stp f2).in.upd nD
        · rintro σ H4 ⟨ts, rs, v, rfl, e1, e2, e3, e4, e5, e6⟩
          rw [T_size] at e3
          exact ⟨_, rfl, D, _, rfl, .inl ⟨.inl (.inl e1), fin H4 ts rs e1 e2 e3 e4 e5 e6⟩⟩
      · exact ⟨_, rfl, D, _, rfl, .inl ⟨.inl (.inl e1'), fin H3 ts rs e1' e2' (by omega) e4 e5' R2.in⟩⟩
end
end Say
namespace Say
open PySem PySem.Spec PyProof.Rows L2
section
variable {P : Program} {w : World} {K : PySem.W.Frag} {mg : Str → Option Value} {base : Heap}
abbrev sRow : Stmt := topS 101
theorem scRow : FnScope ["_law_script", "_law_mixed", "_law_cell"] ["_law_script"] (defScope sRow) := ⟨rfl, rfl, rfl, by decide +kernel, rfl, by decide +kernel, by decide +kernel⟩
def spRow (K : PySem.W.Frag) : Sp := fun vs H Q _ => ∃ (a : Addr) (ns : List Int), vs = [.ref a] ∧ SqL K H a (ns.map V.int) ∧ ns.length ≤ 63 ∧
  ∀ (r : Addr) (H' : Hp), H r = none → Same H H' → RowAt K H' r a ns → Q (.ref r) H'
theorem map_int_get {ns : List Int} {i : Nat} {x : V} (h : (ns.map V.int)[i]? = some x) : ∃ z, x = V.int z := by
  rw [List.getElem?_map] at h
  cases e : ns[i]? with
  | none => rw [e] at h; cases h
  | some z => rw [e] at h; exact ⟨z, (Option.some.inj h).symm⟩
theorem ok_row {f : Addr} {fd : FuncData} {k : Nat} (F : Fun K "_law_row" "_law_row" sRow f fd) : FnOk P w K mg base CX0 (k + 1) f fd ["_law_script"] (spRow K) := by
  refine F.ok scRow (fun vs H Q E h => ?_) (fun cdv A outer s H vs Q E hr h => ?_)
  · obtain ⟨a, ns, rfl, _⟩ := h
    rfl
  · obtain ⟨a, ns, rfl, hS, hle, q⟩ := h
    refine ⟨_, pss_cons (ps_set (i := 1) scRow.nd rfl (.inl rfl) pe_int)
      (pss_cons (ps_for PassesOwn.never rfl (pi_list (pv 0)) (pg_name (i := 2) scRow.nd rfl (.inl rfl))
        (pss_one (ps_set (i := 1) scRow.nd rfl (.inl rfl) (pe_op op_modN (pe_op op_add (pe_op op_add (pe_op op_mul (pv 1) pe_int) (pv 2)) pe_int) pe_int))))
      (pss_one (ps_ret (pe_lst (pa_cons (pv 0) (pa_cons pe_int (pa_cons pe_int (pa_cons (pv 1) pa_nil)))))))), ?_⟩
    refine ⟨_, rfl, a, rfl, ⟨_, hS⟩, for_list (K := K) (a := a) (xs := ns.map V.int) (fun i σ H2 => H2 = H ∧ ∃ (m : Int) (v : Option V), σ = [some (.ref a), some (.int m), v] ∧ 0 ≤ m ∧ m < 2147483647)
      ⟨rfl, 7, none, rfl, by decide, by decide⟩ (fun i σ H2 _ h => by obtain ⟨rfl, _⟩ := h; exact hS) ?_ ?_⟩
    · rintro i x σ H2 hx ⟨rfl, m, v, rfl, h0, h1⟩
      obtain ⟨z, rfl⟩ := map_int_get hx
      refine ⟨_, rfl, _, _, rfl, rfl, .inl ⟨by omega, by omega⟩, _, rfl, _, _, rfl, rfl, _, _, rfl, rfl, _, _, rfl, rfl, (by show (2147483647 : Int) ≠ 0; decide), ?_⟩
      exact ⟨rfl, _, _, rfl, Int.fmod_nonneg_of_pos _ (by decide), Int.fmod_lt_of_pos _ (by decide)⟩
    · rintro σ H2 ⟨rfl, m, v, rfl, h0, h1⟩
      refine ⟨_, rfl, _, rfl, (by show 4 ≤ sizeLine; decide), fun p hp => ?_⟩
      have sm := same_new hp (.lst [.ref a, .int 0, .int 0, .int m])
      exact q p _ hp sm ⟨⟨0, 0, m, upd_same, by decide, h0, h1⟩, sm.seq hS, hle⟩
end
end Say
namespace Say
open PySem PySem.Spec PyProof.Rows L2 L2.DX
theorem ABD_eq : Str.ofString "ABD" = T [65, 66, 68] := by decide +kernel
theorem ABD_ok {z : List Nat} (h : ∀ c ∈ z, c ∈ [65, 66, 68]) : ∀ c ∈ z, 65 ≤ c ∧ c ≤ 90 := fun c hc => by
  have := h c hc
  simp at this
  omega
theorem RowAt.dput {K : PySem.W.Frag} {H : Hp} {r a F : Addr} {ns : List Int} {kvs : List (Key × V)} (R : RowAt K H r a ns) (hF : H F = some (.dK kvs)) (o : HO) : RowAt K (upd H F o) r a ns :=
  R.stpD hF (stp_at _)
section
variable {P : Program} {w : World} {K : PySem.W.Frag} {mg : Str → Option Value} {base : Heap}
abbrev sLEx : Stmt := topS 108
abbrev nLEx : List Str := ["_law_row_here", "_law_letters_here", "_law_most", "_law_found", "_law_k"]
theorem scLEx : FnScope nLEx ["_law_row_here", "_law_letters_here", "_law_most"] (defScope sLEx) := ⟨rfl, rfl, rfl, by decide +kernel, rfl, by decide +kernel, by decide +kernel⟩
def spLEx (K : PySem.W.Frag) : Sp := fun vs H Q _ => ∃ (r a : Addr) (ns : List Int) (L : List Nat) (n : Nat), vs = [.ref r, .str (T L), .int n] ∧ RowAt K H r a ns ∧ LetOk L ∧ n ≤ 8 ∧
  ∀ (es : List Exc) (X : Addr) (H' : Hp), (∀ e ∈ es, ExcOk L e) → es.length ≤ n → (es.Pairwise fun e f => e.1 < f.1) → ExcsAt H' X es → Stp r H H' → RowAt K H' r a ns → Q (.ref X) H'
theorem ok_LEx {f : Addr} {fd : FuncData} (F : Fun K "_law_exceptions" "_law_exceptions" sLEx f fd) (B : Bn mg) (DT : Df P w K mg base "_law_taken" ["_law_row_here", "_law_many"] 1 (spTaken K))
    (DX : Df P w K mg base "_law_text" ["_law_row_here", "_law_signs", "_law_fewest", "_law_many"] 2 (spText K)) : FnOk P w K mg base CX0 3 f fd ["_law_row_here", "_law_letters_here", "_law_most"] (spLEx K) := by
  obtain ⟨fT, fdT, GT, kT, bT, mT⟩ := DT
  obtain ⟨fX, fdX, GX, kX, bX, mX⟩ := DX
  refine F.ok scLEx (fun vs H Q E h => ?_) (fun cdv A outer s H vs Q E hr h => ?_)
  · obtain ⟨r, a, ns, L, n, rfl, _⟩ := h
    rfl
  · obtain ⟨r, a, ns, L, n, rfl, R, oL, hn, q⟩ := h
    have l2 := oL.l2
    have l4 := oL.l4
    have hu := hu_of hr
    have hr1 : Room 1 _ := hr.mono (by decide)
    refine ⟨_, pss_cons (ps_set (i := 3) scLEx.nd rfl (.inl rfl) pe_dnewK)
      (pss_cons (ps_for PassesOwn.never rfl (pi_range1 rfl B.rng (pa_cons (pe_call GT hr1 (by rfl) mT kT bT .nil pass0 (pa_cons (pv 0) (pa_cons (pe_op op_add (pv 2) pe_int) pa_nil))) pa_nil)) (pg_name (i := 4) scLEx.nd rfl (.inl rfl))
        (pss_one (ps_dput hu (pv 3) (pe_call GX hr (by rfl) mX kX bX .nil pass0 (pa_cons (pv 0) (pa_cons (pv 1) (pa_cons pe_int (pa_cons pe_int pa_nil)))))
          (pe_call GX hr (by rfl) mX kX bX .nil pass0 (pa_cons (pv 0) (pa_cons pe_str (pa_cons pe_int (pa_cons pe_int pa_nil))))) rfl)))
      (pss_one (ps_ret (pe_callTy call_tupN (by rfl) B.tup (by decide +kernel) (pa_cons (pe_callB (cr_sortedTx rfl) (by rfl) B.srt (by decide +kernel)
            (pa_cons (pe_bm0 PySem.F.plainAttrs_dict PySem.F.slot_dict_items PySem.F.type_dict_items mt_itemsK (pv 3)) pa_nil)) pa_nil))))), ?_⟩
    intro D hD
    have nD : D ≠ r := (R.nw hD).symm
    have R1 := R.stp (same_new hD (.dK []))
    have hD1 : (upd H D (.dK [])) D = some (.dK (([] : List Exc).map ent)) := upd_same
    have s1 : Stp r H (upd H D (.dK [])) := .of (same_new hD _)
    generalize upd H D (.dK []) = H1 at R1 hD1 s1 ⊢
    refine ⟨_, rfl, _, rfl, _, _, rfl, rfl, r, a, ns, _, rfl, R1, by omega, by omega, fun k1 H2 h0 h1 s2 R2 => ?_⟩
    refine ⟨k1, rfl, by omega, by omega, for_it (walk_range) (fun i σ H3 => ∃ (es : List Exc) (v4 : Option V), σ = [some (.ref r), some (.str (T L)), some (.int n), some (.ref D), v4] ∧ H3 D = some (.dK (es.map ent)) ∧ (∀ e ∈ es, ExcOk L e) ∧ (es.map (·.1)).Nodup ∧ es.length ≤ i ∧ Stp r H H3 ∧ RowAt K H3 r a ns)
      ⟨[], _, rfl, s2 _ _ hD1 nD, by simp, by simp, Nat.le_refl _, s1.trans s2, R2⟩ (fun _ _ _ _ _ => trivial) ?_ ?_⟩
    · rintro i x σ H3 H3' hi ⟨es, v4, rfl, hD3, hes, hnd, hel, s3, R3⟩ ⟨rfl, rfl⟩
      have hi8 : i < 8 := by omega
      refine ⟨_, rfl, r, a, ns, [65, 66, 68], 0, 5, by rw [ABD_eq]; rfl, R3, by decide, by decide, by decide, by decide, fun so H4 g1 g2 g3 s4 R4 => ?_⟩
      refine ⟨_, rfl, _, rfl, _, rfl, r, a, ns, L, 1, 4, rfl, R4, by omega, by omega, by decide, by decide, fun wd H5 w1 w2 w3 s5 R5 => ?_⟩
      have hD5 := (s4.trans s5) _ _ hD3 nD
      refine ⟨D, _, rfl, DPut.k (k := Sum.inr (T wd)) hD5 (by rw [List.length_map]; exact small1000 (by omega)), ?_⟩
      refine ⟨putE es wd so, _, rfl, by rw [upd_same, put_ent], putE_ok hes ⟨w1, w2, by show wd.length ≤ 8; omega, ABD_ok g1, by show so.length ≤ 36; omega⟩, putE_nd hnd, Nat.le_trans (putE_len _ _ _) (by omega), ?_, R5.dput hD5 _⟩
      exact (s3.trans (s4.trans s5)).put hD _
    · rintro σ H3 ⟨es, v4, rfl, hD3, hes, hnd, hel, s3, R3⟩
      have hln : es.length ≤ n := by omega
      refine ⟨_, rfl, .inr (.inr (.inl ⟨rfl, .inl ⟨_, hD3⟩⟩)), D, _, rfl, rfl, hD3, fun p hp => ?_⟩
      have sp := same_new hp (itemsO p D)
      refine ⟨p, D, es.map tt, rfl, upd_same, by rw [sp _ _ hD3, List.map_map]; rfl, by rw [List.length_map]; omega, fun H4 l ps s4 hperm hpw hln' hll hps => ?_⟩
      have s34 : Same H3 H4 := sp.trans s4
      obtain ⟨pe1, pe2, pe3⟩ := sort_exc hnd hperm hpw
      refine ⟨l, _, rfl, .inl (.inl hll), fun X oX hoX hX => ?_⟩
      have sX := same_new hX (.frz oX (.tup (ps.map fun z => V.ref z.1)))
      refine q ((ps.map (·.2)).map bk) X _ (fun e he => hes e (pe2.mem_iff.mp he)) (by rw [pe2.length_eq]; exact hln) pe3 ⟨ps.map (·.1), ⟨oX, by rw [upd_same, List.map_map]; rfl, hoX⟩, ?_⟩ (s3.trans (.of (s34.trans sX))) (R3.stp (s34.trans sX))
      rw [List.map_map]
      refine paired_map fun z hz => ?_
      have := sX _ _ (hps z hz)
      rw [this]
      show some (HO.tup [V.str z.2.1, V.str z.2.2]) = some (HO.tup [V.str (T z.2.1.cps.toList), V.str (T z.2.2.cps.toList)])
      rw [T_list, T_list]
end
end Say
namespace Say
open PySem PySem.Spec PyProof.Rows L2
section
variable {P : Program} {w : World} {K : PySem.W.Frag} {mg : Str → Option Value} {base : Heap}
abbrev sLetters : Stmt := topS 103
theorem scLetters : FnScope ["_law_row_here"] ["_law_row_here"] (defScope sLetters) := ⟨rfl, rfl, rfl, by decide +kernel, rfl, by decide +kernel, by decide +kernel⟩
def spLetters (K : PySem.W.Frag) : Sp := fun vs H Q _ => ∃ (r a : Addr) (ns : List Int), vs = [.ref r] ∧ RowAt K H r a ns ∧
  ∀ (L : List Nat) (H' : Hp), L ∈ lets → Stp r H H' → RowAt K H' r a ns → Q (.str (T L)) H'
theorem ok_letters {f : Addr} {fd : FuncData} (F : Fun K "_law_letters" "_law_letters" sLetters f fd) (DT : Df P w K mg base "_law_taken" ["_law_row_here", "_law_many"] 1 (spTaken K)) :
    FnOk P w K mg base CX0 2 f fd ["_law_row_here"] (spLetters K) := by
  obtain ⟨fT, fdT, GT, kT, bT, mT⟩ := DT
  refine F.ok scLetters (fun vs H Q E h => ?_) (fun cdv A outer s H vs Q E hr h => ?_)
  · obtain ⟨r, a, ns, rfl, _⟩ := h
    rfl
  · obtain ⟨r, a, ns, rfl, R, q⟩ := h
    refine ⟨_, pss_one (ps_ret (pe_ix ix_list (pe_lst (pa_cons pe_str (pa_cons pe_str (pa_cons pe_str (pa_cons pe_str pa_nil))))) (pe_call GT hr (by rfl) mT kT bT .nil pass0 (pa_cons (pv 0) (pa_cons pe_int pa_nil))) (fun _ _ => rfl))), ?_⟩
    refine ⟨(by show 4 ≤ sizeLine; decide), fun p hp => ?_⟩
    have sm := same_new hp (.lst [V.str "ab", .str "abc", .str "ac", .str "abcd"])
    refine ⟨_, rfl, r, a, ns, 4, rfl, R.stp sm, by decide, by decide, fun k1 H1 h0 h1 s1 R1 => ?_⟩
    have hL : SqL K H1 p [V.str "ab", .str "abc", .str "ac", .str "abcd"] := .inl (.inl (s1 _ _ upd_same (R.nw hp).symm))
    have hk : k1 = 0 ∨ k1 = 1 ∨ k1 = 2 ∨ k1 = 3 := by omega
    rcases hk with e | e | e | e
    · exact ⟨p, _, k1, V.str (T [97, 98]), rfl, rfl, hL, at_of (j := 0) e (by decide +kernel), q _ H1 (by decide) ((Stp.of sm).trans s1) R1⟩
    · exact ⟨p, _, k1, V.str (T [97, 98, 99]), rfl, rfl, hL, at_of (j := 1) e (by decide +kernel), q _ H1 (by decide) ((Stp.of sm).trans s1) R1⟩
    · exact ⟨p, _, k1, V.str (T [97, 99]), rfl, rfl, hL, at_of (j := 2) e (by decide +kernel), q _ H1 (by decide) ((Stp.of sm).trans s1) R1⟩
    · exact ⟨p, _, k1, V.str (T [97, 98, 99, 100]), rfl, rfl, hL, at_of (j := 3) e (by decide +kernel), q _ H1 (by decide) ((Stp.of sm).trans s1) R1⟩
end
end Say
namespace Say
open PySem PySem.Spec PyProof.Rows L2 L2.DX
theorem let_ok {L : List Nat} (h : L ∈ lets) : LetOk L := by
  have : ∀ L ∈ lets, LetOk L := by
    intro L h
    simp only [lets, List.mem_cons, List.not_mem_nil, or_false] at h
    rcases h with rfl | rfl | rfl | rfl <;> exact ⟨by decide, by decide, by decide, by decide⟩
  exact this L h
section
variable {P : Program} {w : World} {K : PySem.W.Frag} {mg : Str → Option Value} {base : Heap}
abbrev sLBk : Stmt := topS 109
theorem scLBk : FnScope ["_law_row_here", "_law_letters_here"] ["_law_row_here"] (defScope sLBk) := ⟨rfl, rfl, rfl, by decide +kernel, rfl, by decide +kernel, by decide +kernel⟩
def spLBL (K : PySem.W.Frag) : Sp := fun vs H Q _ => ∃ (r a : Addr) (ns : List Int), vs = [.ref r] ∧ RowAt K H r a ns ∧
  ∀ (b : Addr) (L : List Nat) (rs : List Rule) (es : List Exc) (H' : Hp), L ∈ lets → rs.length ≤ 10 → BookOk L rs es → BookAt H' b L rs es → Stp r H H' → RowAt K H' r a ns → Q (.ref b) H'
theorem ok_LBL {f : Addr} {fd : FuncData} (F : Fun K "_law_book" "_law_book" sLBk f fd) (DLe : Df P w K mg base "_law_letters" ["_law_row_here"] 2 (spLetters K))
    (DRu : Df P w K mg base "_law_rules" ["_law_row_here", "_law_letters_here", "_law_most"] 4 (spRules K)) (DEx : Df P w K mg base "_law_exceptions" ["_law_row_here", "_law_letters_here", "_law_most"] 3 (spLEx K)) :
    FnOk P w K mg base CX0 5 f fd ["_law_row_here"] (spLBL K) := by
  obtain ⟨fL, fdL, GL, kL, bL, mL⟩ := DLe
  obtain ⟨fR, fdR, GR, kR, bR, mR⟩ := DRu
  obtain ⟨fE, fdE, GE, kE, bE, mE⟩ := DEx
  refine F.ok scLBk (fun vs H Q E h => ?_) (fun cdv A outer s H vs Q E hr h => ?_)
  · obtain ⟨r, a, ns, rfl, _⟩ := h
    rfl
  · obtain ⟨r, a, ns, rfl, R, q⟩ := h
    refine ⟨_, pss_cons (ps_set (i := 1) scLBk.nd rfl (.inl rfl) (pe_call GL (hr.mono (by decide)) (by rfl) mL kL bL .nil pass0 (pa_cons (pv 0) pa_nil)))
      (pss_one (ps_ret (pe_tup (pa_cons (pv 1) (pa_cons (pe_call GR hr (by rfl) mR kR bR .nil pass0 (pa_cons (pv 0) (pa_cons (pv 1) (pa_cons pe_int pa_nil))))
        (pa_cons (pe_call GE (hr.mono (by decide)) (by rfl) mE kE bE .nil pass0 (pa_cons (pv 0) (pa_cons (pv 1) (pa_cons pe_int pa_nil)))) pa_nil)))))), ?_⟩
    refine ⟨_, rfl, r, a, ns, rfl, R, fun L H1 hL s1 R1 => ?_⟩
    have oL := let_ok hL
    have l2 := oL.l2
    have l4 := oL.l4
    refine ⟨_, rfl, _, rfl, _, rfl, r, a, ns, L, 6, rfl, R1, by omega, by omega, by decide, fun rs Ra H2 ho hlen hR s2 R2 => ?_⟩
    refine ⟨_, rfl, _, rfl, r, a, ns, L, 3, rfl, R2, oL, by decide, fun es X H3 hes hel hup hX s3 R3 => ?_⟩
    refine ⟨(by show 3 ≤ sizeLine; decide), fun b hb => ?_⟩
    have sb := same_new hb (.tup [.str (T L), .ref Ra, .ref X])
    exact q b L rs es _ hL (by omega) ⟨oL, ho, by omega, hes, by omega, hup⟩ ⟨Ra, X, upd_same, hR.kt ((R2.kt s3).trans (.of sb)), hX.kt (.of sb)⟩ (s1.trans (s2.trans (s3.trans (.of sb)))) (R3.stp sb)
end
end Say
namespace Say
open PySem PySem.Spec PyProof.Rows L2
theorem count_eqU {x : V} : ∀ {xs : List V} {us : List Value}, Vals xs us → xs.all flatV = true → us.countP (eqU x) = xs.countP fun y => eqV y x
  | _, _, .nil, _ => rfl
  | y :: xs, u :: us, .cons r t, f => by
    rw [List.all_cons, Bool.and_eq_true] at f
    have ih := count_eqU (x := x) t f.2
    rw [List.countP_cons, List.countP_cons, ih, eqU_of r f.1]
section
variable {X : Cx}
/-- l.count(y) of plain values -/
def rCntV (K : PySem.W.Frag) : V → List V → Hp → VK → Prop := fun x xs H Q => ∃ (p : Addr) (ys : List V) (y : V), x = .ref p ∧ xs = [y] ∧ SqL K H p ys ∧ flatV y = true ∧ ys.all flatV = true ∧ Q (.int ((ys.countP fun z => eqV z y : Nat) : Int)) H
theorem mt_countV : MtR X "list.count" (rCntV X.K) := by
  intro pins s σ H x xs v us Q I rx rxs h
  obtain ⟨p, ys, y, rfl, rfl, hs, fy, fys, q⟩ := h
  cases rx
  obtain ⟨u, rfl, ru⟩ := rxs.one
  obtain ⟨its, rv, ⟨⟨cls, dd, data, sl⟩, n, ho, hc, hdn, hd⟩, hlen⟩ := I.list hs
  simp only at hc hd
  subst hc hd
  refine call_meets PySem.F.slot_list_count ⟨_, ho, rfl⟩ PySem.F.entry_list_count (PySem.F.args_list_count_2 _ _)
    (SeqAt.list_countAt p its.toArray n dd sl u (eqU y)) ⟨ho, fun u' hu' => mem_eqAt ru fy rv fys u' (by simpa using hu'), ?_⟩
  have ec : its.toArray.toList.countP (eqU y) = ys.countP fun z => eqV z y := count_eqU rv fys
  refine ⟨.int _, H, I.tok _, ⟨s.toks, ?_⟩, q⟩
  rw [ec]
/-- isinstance(e, c), e the caught one, an instance of D with a dict -/
def rIsED (K : PySem.W.Frag) (D a : Addr) (cls : Value) (d : Option Addr) : List V → Hp → VK → Prop := fun xs H Q => ∃ (c : V) (cv : Value) (b : Bool) (dd : Addr) (fs : List (Str × V)), xs = [.ref a, c] ∧ ClsV c cv ∧ cls = .ref D ∧ d = some dd ∧ H dd = some (.xd fs) ∧ PySem.W.kitOne K (.ref D) cv = some b ∧ Q (.bl b) H
theorem call_isED {a D : Addr} {oe : Obj} {cls : Value} {d : Option Addr} {pn : List (Addr × Obj)} (C : ExcC X.K D) (hz : Zc cls d oe) (hf : ∃ vs, oe.data = .fields vs) : CallR (X.suite a ((a, oe) :: pn)) (.builtin "isinstance") (rIsED X.K D a cls d) := by
  intro pins s σ H xs us Q I r h
  obtain ⟨c, cv, b, dd, fs, rfl, hcv, ecl, ed, hH, e, q⟩ := h
  subst ed
  subst ecl
  obtain ⟨u1, u2, rfl, r1, r2⟩ := vals2 r
  cases (show u1 = Value.ref a from r1)
  have ec := hcv.eq r2
  subst ec
  obtain ⟨hget, _⟩ := I.pin (a, oe) (List.mem_append.mpr (.inl List.mem_cons_self))
  obtain ⟨vs, hv⟩ := hf
  have hx : ObjOk X.prog X.w H s.heap dd (.xd fs) := I.hok dd _ hH
  obtain ⟨mA, hns, hr⟩ := hx
  obtain ⟨od, ho, hl⟩ := lookIn_ns hns
  have J : PySem.W.InstAt s.heap a oe D (some od) := ⟨hget, hz.1, by unfold PySem.W.notCls; rw [hv] <;> rfl, by rw [hz.2]; exact ho⟩
  have hcl : (PySem.W.clsIn X.K D).isSome = true := by
    obtain ⟨cd, hc, _⟩ := PySem.W.any_some C.hd
    rw [hc]; rfl
  exact PySem.W.kia_one (PySem.W.kitx_exc hcl C.hg C.hk C.hs C.ha C.hn C.ht C.hm) I.kIn J e (fun z => nomatch z) fun tk => ⟨.bl b, H, I.kept (t' := tk) fun _ _ z => z, rfl, q⟩
/-- what may be known of the caught one's dict -/
def Held (H : Hp) (d : Option Addr) : Prop := d = none ∨ ∃ (dd : Addr) (fs : List (Str × V)), d = some dd ∧ H dd = some (.xd fs)
theorem Held.same {H H' : Hp} {d : Option Addr} (h : Held H d) (e : ∀ b o, H b = some o → H' b = some o) : Held H' d := by
  rcases h with h | ⟨dd, fs, h1, h2⟩
  · exact .inl h
  · exact .inr ⟨dd, fs, h1, e _ _ h2⟩
/-- isinstance(e, c), e the caught one, an instance of D -/
def rIsEA (K : PySem.W.Frag) (D a : Addr) (cls : Value) (d : Option Addr) : List V → Hp → VK → Prop := fun xs H Q => ∃ (c : V) (cv : Value) (b : Bool), xs = [.ref a, c] ∧ ClsV c cv ∧ cls = .ref D ∧ Held H d ∧ PySem.W.kitOne K (.ref D) cv = some b ∧ Q (.bl b) H
theorem call_isEA {a D : Addr} {oe : Obj} {cls : Value} {d : Option Addr} {pn : List (Addr × Obj)} (C : ExcC X.K D) (hz : Zc cls d oe) (hf : ∃ vs, oe.data = .fields vs) : CallR (X.suite a ((a, oe) :: pn)) (.builtin "isinstance") (rIsEA X.K D a cls d) := by
  intro pins s σ H xs us Q I r h
  obtain ⟨c, cv, b, rfl, hcv, ecl, hH, e, q⟩ := h
  subst ecl
  obtain ⟨u1, u2, rfl, r1, r2⟩ := vals2 r
  cases (show u1 = Value.ref a from r1)
  have ec := hcv.eq r2
  subst ec
  obtain ⟨hget, _⟩ := I.pin (a, oe) (List.mem_append.mpr (.inl List.mem_cons_self))
  obtain ⟨vs, hv⟩ := hf
  have hcl : (PySem.W.clsIn X.K D).isSome = true := by
    obtain ⟨cd, hc, _⟩ := PySem.W.any_some C.hd
    rw [hc]; rfl
  obtain ⟨od, J⟩ : ∃ od, PySem.W.InstAt s.heap a oe D od := by
    rcases hH with ed | ⟨dd, fs, ed, hH⟩
    · subst ed
      obtain ⟨oc, od, oda, osl⟩ := oe
      obtain ⟨h1, h2⟩ := hz
      dsimp only at h1 h2 hv
      subst h1 h2 hv
      exact ⟨none, hget, rfl, rfl, trivial⟩
    · subst ed
      have hx : ObjOk X.prog X.w H s.heap dd (.xd fs) := I.hok dd _ hH
      obtain ⟨mA, hns, hr⟩ := hx
      obtain ⟨od, ho, hl⟩ := lookIn_ns hns
      exact ⟨some od, hget, hz.1, by unfold PySem.W.notCls; rw [hv] <;> rfl, by rw [hz.2]; exact ho⟩
  exact PySem.W.kia_one (PySem.W.kitx_exc hcl C.hg C.hk C.hs C.ha C.hn C.ht C.hm) I.kIn J e (fun z => nomatch z) fun tk => ⟨.bl b, H, I.kept (t' := tk) fun _ _ z => z, rfl, q⟩
end
end Say
namespace Say
open PySem PySem.Spec PyProof.Rows L2
/-- what the top says of the classes that are asked for, the caught one's class at CU, the j-th of the twelve -/
structure WordC (K : PySem.W.Frag) (mg : Str → Option Value) (CU : Addr) (j : Nat) : Prop where
  say : ∃ c, mg "SayError" = some (.ref c) ∧ PySem.W.exmOne K (.ref CU) (.ref c) = some true
  book : ∃ c, mg "BadBook" = some (.ref c) ∧ PySem.W.kitOne K (.ref CU) (.ref c) = some (decide (0 = j))
  word : ∃ c, mg "BadWord" = some (.ref c) ∧ PySem.W.kitOne K (.ref CU) (.ref c) = some (decide (1 = j))
  snds : ∃ c, mg "BadSounds" = some (.ref c) ∧ PySem.W.kitOne K (.ref CU) (.ref c) = some (decide (2 = j))
  coun : ∃ c, mg "BadCount" = some (.ref c) ∧ PySem.W.kitOne K (.ref CU) (.ref c) = some (decide (3 = j))
  uns : ∃ c, mg "Unsaid" = some (.ref c) ∧ PySem.W.kitOne K (.ref CU) (.ref c) = some (decide (4 = j))
  lett : ∃ c, mg "NoLetter" = some (.ref c) ∧ PySem.W.kitOne K (.ref CU) (.ref c) = some (decide (5 = j))
  exce : ∃ c, mg "NoException" = some (.ref c) ∧ PySem.W.kitOne K (.ref CU) (.ref c) = some (decide (6 = j))
  othe : ∃ c, mg "OtherLetters" = some (.ref c) ∧ PySem.W.kitOne K (.ref CU) (.ref c) = some (decide (7 = j))
  samp : ∃ c, mg "BadSamples" = some (.ref c) ∧ PySem.W.kitOne K (.ref CU) (.ref c) = some (decide (8 = j))
  deed : ∃ c, mg "BadDeed" = some (.ref c) ∧ PySem.W.kitOne K (.ref CU) (.ref c) = some (decide (9 = j))
  halt : ∃ c, mg "Halted" = some (.ref c) ∧ PySem.W.kitOne K (.ref CU) (.ref c) = some (decide (10 = j))
  text : ∃ c, mg "BadText" = some (.ref c) ∧ PySem.W.kitOne K (.ref CU) (.ref c) = some (decide (11 = j))
  val : mg "ValueError" = none
  kv : PySem.W.kitOne K (.ref CU) (.type "ValueError") = some true
  exc : ExcC K CU
  xf : XfC K CU
  noP : PySem.W.findIn K (.ref CU) "place" = some none
  noN : PySem.W.findIn K (.ref CU) "number" = some none
  noA : PySem.W.findIn K (.ref CU) "part" = some none
  noD : PySem.W.findIn K (.ref CU) "done" = some none
  noR : PySem.W.findIn K (.ref CU) "row" = some none
/-- the name of the j-th -/
def nmJ (j : Nat) : Str := (["book", "word", "sounds", "count", "unsaid", "letter", "exception", "others", "samples", "deed", "halted", "text"] : List Str).getD j ""
def plainJ (j : Nat) : Bool := decide (j = 1) || (decide (j = 2) || (decide (j = 3) || (decide (j = 5) || (decide (j = 6) || decide (j = 7)))))
def toldJ (j : Nat) : Bool := decide (j < 12)
def bsJ (j : Nat) : List V := [.bl (decide (0 = j)), .bl (decide (1 = j)), .bl (decide (2 = j)), .bl (decide (3 = j)), .bl (decide (4 = j)), .bl (decide (5 = j)), .bl (decide (6 = j)), .bl (decide (7 = j)), .bl (decide (8 = j)), .bl (decide (9 = j)), .bl (decide (10 = j)), .bl (decide (11 = j))]
theorem plain_cases {j : Nat} (h : plainJ j = true) : j = 1 ∨ j = 2 ∨ j = 3 ∨ j = 5 ∨ j = 6 ∨ j = 7 := by
  unfold plainJ at h
  simpa using h
theorem told_cases {j : Nat} (h : toldJ j = true) : j = 0 ∨ j = 1 ∨ j = 2 ∨ j = 3 ∨ j = 4 ∨ j = 5 ∨ j = 6 ∨ j = 7 ∨ j = 8 ∨ j = 9 ∨ j = 10 ∨ j = 11 := by
  have h := of_decide_eq_true h
  omega
theorem told_facts {j : Nat} (h : toldJ j = true) : (bsJ j).all flatV = true ∧ ((bsJ j).countP fun z => eqV z (.bl true)) = 1 ∧ (bsJ j)[j]? = some (.bl true) ∧ (∀ (m : Nat) (z : V), m < j → (bsJ j)[m]? = some z → eqV z (.bl true) = false) ∧
    atI ([.str "book", .str "word", .str "sounds", .str "count", .str "unsaid", .str "letter", .str "exception", .str "others", .str "samples", .str "deed"] ++ [.str "halted", .str "text"] : List V) (j : Nat) = some (.str (nmJ j)) := by
  have key : ∀ (m : Nat) (z : V), m < j → (bsJ j)[m]? = some z → eqV z (.bl true) = false := fun m z hm hz => by
    have hj := of_decide_eq_true h
    have hk : ∀ a b : Nat, a ≠ b → eqV (.bl (decide (a = b))) (.bl true) = false := fun a b n => by rw [decide_eq_false n]; rfl
    match m, hm, hz with
    | 0, hm, e => cases e; exact hk _ _ (Nat.ne_of_lt hm)
    | 1, hm, e => cases e; exact hk _ _ (Nat.ne_of_lt hm)
    | 2, hm, e => cases e; exact hk _ _ (Nat.ne_of_lt hm)
    | 3, hm, e => cases e; exact hk _ _ (Nat.ne_of_lt hm)
    | 4, hm, e => cases e; exact hk _ _ (Nat.ne_of_lt hm)
    | 5, hm, e => cases e; exact hk _ _ (Nat.ne_of_lt hm)
    | 6, hm, e => cases e; exact hk _ _ (Nat.ne_of_lt hm)
    | 7, hm, e => cases e; exact hk _ _ (Nat.ne_of_lt hm)
    | 8, hm, e => cases e; exact hk _ _ (Nat.ne_of_lt hm)
    | 9, hm, e => cases e; exact hk _ _ (Nat.ne_of_lt hm)
    | 10, hm, e => cases e; exact hk _ _ (Nat.ne_of_lt hm)
    | 11, hm, e => cases e; exact hk _ _ (Nat.ne_of_lt hm)
    | m + 12, hm, e => omega
  rcases told_cases h with rfl | rfl | rfl | rfl | rfl | rfl | rfl | rfl | rfl | rfl | rfl | rfl
  all_goals exact ⟨rfl, rfl, rfl, key, rfl⟩
theorem plain_facts {j : Nat} (h : plainJ j = true) : nmJ j ≠ "book" ∧ nmJ j ≠ "halted" ∧ nmJ j ≠ "unsaid" ∧ nmJ j ≠ "text" ∧ nmJ j ≠ "samples" ∧ nmJ j ≠ "deed" := by
  rcases plain_cases h with rfl | rfl | rfl | rfl | rfl | rfl
  all_goals exact ⟨by decide +kernel, by decide +kernel, by decide +kernel, by decide +kernel, by decide +kernel, by decide +kernel⟩
/-- a wish that may ask how many slots there are -/
theorem takes_len {X : Cx} {W : WX} {n : Nat} (h : X.N.length = n) (tk : Takes X W) : Takes X (fun cls d σ H => σ.length = n → W cls d σ H) := fun u s' xx => by
  obtain ⟨a, B, sI, pins, σ, H, cls, d, e, I, nb, up, sky, na, os, ag, w⟩ := xx
  exact tk u s' ⟨a, B, sI, pins, σ, H, cls, d, e, I, nb, up, sky, na, os, ag, w (I.len.trans h)⟩
abbrev sLWo : Stmt := topS 110
abbrev nLWo : List Str := ["_law_work", "_law_found", "_law_e", "_law_kinds", "_law_names", "_law_name"]
theorem scLWo : FnScope nLWo ["_law_work"] (defScope sLWo) := ⟨rfl, rfl, rfl, by decide +kernel, rfl, by decide +kernel, by decide +kernel⟩
abbrev suLWo : List Stmt := match defBody sLWo with
  | _ :: .Try _ (.ExceptHandler _ _ b _ :: _) _ _ _ :: _ => b
  | _ => []
section
variable {X : Cx} {g CU : Addr} {cdg : Value} {s : Shared} {H : Hp}
abbrev cxLWo (X : Cx) (g : Addr) (cdg : Value) (s : Shared) (H : Hp) : Cx := (cxOf C8.CX0 X.prog X.w X.K X.mg X.base nLWo "_law_word" (defScope sLWo) g cdg X.A X.stack s H C8.E0).nox
/-- what the caught one is told as -/
def tellsJ (j : Nat) (d : Option Addr) (H : Hp) (R : Hp → Addr → Prop) : Prop :=
  (j = 4 ∧ ∃ (dd : Addr) (p : Nat), d = some dd ∧ H dd = some (.xd [(("place" : Str), .int p)]) ∧ R = fun H2 t => H2 t = some (.tup [.str "unsaid", .int p])) ∨
  (plainJ j = true ∧ Held H d ∧ R = fun H2 t => H2 t = some (.tup [.str (nmJ j), .non])) ∨
  (j = 0 ∧ ∃ (dd : Addr) (p n : Int), d = some dd ∧ H dd = some (.xd [(("number" : Str), .int n), (("part" : Str), .int p)]) ∧ R = fun H2 t => ∃ q, H2 q = some (.tup [.int p, .int n]) ∧ H2 t = some (.tup [.str "book", .ref q])) ∨
  (j = 10 ∧ ∃ (dd : Addr) (n m : Int), d = some dd ∧ H dd = some (.xd [(("done" : Str), .int m), (("number" : Str), .int n)]) ∧ R = fun H2 t => ∃ q, H2 q = some (.tup [.int n, .int m]) ∧ H2 t = some (.tup [.str "halted", .ref q])) ∨
  (j = 11 ∧ ∃ (dd : Addr) (n : Int), d = some dd ∧ H dd = some (.xd [(("row" : Str), .int n)]) ∧ R = fun H2 t => H2 t = some (.tup [.str "text", .int n])) ∨
  ((j = 8 ∨ j = 9) ∧ ∃ (dd : Addr) (n : Int), d = some dd ∧ H dd = some (.xd [(("number" : Str), .int n)]) ∧ R = fun H2 t => H2 t = some (.tup [.str (nmJ j), .int n]))
theorem word_suite {j : Nat} (B : Bn X.mg) (WC : WordC X.K X.mg CU j) (a : Addr) (oe : Obj) (cls : Value) (d : Option Addr) (pn : List (Addr × Obj)) (hz : Zc cls d oe) (hf : ∃ vs, oe.data = .fields vs) : ∃ t : TS,
    PSs ((cxLWo X g cdg s H).suite a ((a, oe) :: pn)) suLWo t ∧
    ∀ (R : Hp → Addr → Prop) (D : Ends) (σ : L2.St) (H1 : Hp), cls = .ref CU → σ.length = 6 → H1 a = none → tellsJ j d H1 R → (∀ (t : Addr) (H2 : Hp), Same H1 H2 → R H2 t → D.rt (.ref t) H2) →
      t D (σ.set 2 (some (.ref a))) H1 := by
  obtain ⟨c1, m1, k1⟩ := WC.book
  obtain ⟨c2, m2, k2⟩ := WC.word
  obtain ⟨c3, m3, k3⟩ := WC.snds
  obtain ⟨c4, m4, k4⟩ := WC.coun
  obtain ⟨c5, m5, k5⟩ := WC.uns
  obtain ⟨c6, m6, k6⟩ := WC.lett
  obtain ⟨c7, m7, k7⟩ := WC.exce
  obtain ⟨c8, m8, k8⟩ := WC.othe
  obtain ⟨c9, m9, k9⟩ := WC.samp
  obtain ⟨c10, m10, k10⟩ := WC.deed
  obtain ⟨c11, m11, k11⟩ := WC.halt
  obtain ⟨c12, m12, k12⟩ := WC.text
  have EC := WC.exc
  have XF := WC.xf
  have isE : CallR ((cxLWo X g cdg s H).suite a ((a, oe) :: pn)) (.builtin "isinstance") (rIsEA X.K CU a cls d) := call_isEA (X := cxLWo X g cdg s H) EC hz hf
  refine ⟨_, pss_cons (ps_set (i := 3) scLWo.nd rfl (.inl rfl) (pe_lst (pa_cons (pe_callB isE (by rfl) B.isi (by decide +kernel) (pa_cons (pv 2) (pa_cons (pe_glob (v := .ref c1) (by rfl) m1 rfl) pa_nil))) (pa_cons (pe_callB isE (by rfl) B.isi (by decide +kernel) (pa_cons (pv 2) (pa_cons (pe_glob (v := .ref c2) (by rfl) m2 rfl) pa_nil)))
        (pa_cons (pe_callB isE (by rfl) B.isi (by decide +kernel) (pa_cons (pv 2) (pa_cons (pe_glob (v := .ref c3) (by rfl) m3 rfl) pa_nil))) (pa_cons (pe_callB isE (by rfl) B.isi (by decide +kernel) (pa_cons (pv 2) (pa_cons (pe_glob (v := .ref c4) (by rfl) m4 rfl) pa_nil))) pa_nil))))))
      (pss_cons (ps_set (i := 3) scLWo.nd rfl (.inl rfl) (pe_op op_cat (pv 3) (pe_lst (pa_cons (pe_callB isE (by rfl) B.isi (by decide +kernel) (pa_cons (pv 2) (pa_cons (pe_glob (v := .ref c5) (by rfl) m5 rfl) pa_nil))) (pa_cons (pe_callB isE (by rfl) B.isi (by decide +kernel) (pa_cons (pv 2) (pa_cons (pe_glob (v := .ref c6) (by rfl) m6 rfl) pa_nil)))
        (pa_cons (pe_callB isE (by rfl) B.isi (by decide +kernel) (pa_cons (pv 2) (pa_cons (pe_glob (v := .ref c7) (by rfl) m7 rfl) pa_nil))) pa_nil))))))
      (pss_cons (ps_set (i := 3) scLWo.nd rfl (.inl rfl) (pe_op op_cat (pv 3) (pe_lst (pa_cons (pe_callB isE (by rfl) B.isi (by decide +kernel) (pa_cons (pv 2) (pa_cons (pe_glob (v := .ref c8) (by rfl) m8 rfl) pa_nil))) (pa_cons (pe_callB isE (by rfl) B.isi (by decide +kernel) (pa_cons (pv 2) (pa_cons (pe_glob (v := .ref c9) (by rfl) m9 rfl) pa_nil)))
        (pa_cons (pe_callB isE (by rfl) B.isi (by decide +kernel) (pa_cons (pv 2) (pa_cons (pe_glob (v := .ref c10) (by rfl) m10 rfl) pa_nil))) pa_nil))))))
      (pss_cons (ps_set (i := 3) scLWo.nd rfl (.inl rfl) (pe_op op_cat (pv 3) (pe_lst (pa_cons (pe_callB isE (by rfl) B.isi (by decide +kernel) (pa_cons (pv 2) (pa_cons (pe_glob (v := .ref c11) (by rfl) m11 rfl) pa_nil))) (pa_cons (pe_callB isE (by rfl) B.isi (by decide +kernel) (pa_cons (pv 2) (pa_cons (pe_glob (v := .ref c12) (by rfl) m12 rfl) pa_nil))) pa_nil)))))
      (pss_cons (ps_set (i := 4) scLWo.nd rfl (.inl rfl) (pe_lst (pa_cons pe_str (pa_cons pe_str (pa_cons pe_str (pa_cons pe_str (pa_cons pe_str (pa_cons pe_str (pa_cons pe_str (pa_cons pe_str (pa_cons pe_str (pa_cons pe_str pa_nil))))))))))))
      (pss_cons (ps_if (PW.pt (pw_or (pt_cmpR op_ne (pe_bm PySem.F.plainAttrs_list PySem.F.slot_list_count PySem.F.type_list_count mt_countV (pv 3) (pa_cons pe_bl pa_nil)) pe_int (nomark _)) (pw_or1 (pt_not (pt_val (pe_callB isE (by rfl) B.isi (by decide +kernel) (pa_cons (pv 2) (pa_cons (pe_bltn (v := .ty "ValueError") (by rfl) WC.val (by decide +kernel) rfl) pa_nil)))))))) (pss_one ps_never) pss_nil)
      (pss_cons (ps_set (i := 5) scLWo.nd rfl (.inl rfl) (pe_ix ix_list (pe_op op_cat (pv 4) (pe_lst (pa_cons pe_str (pa_cons pe_str pa_nil)))) (pe_bm PySem.F.plainAttrs_list PySem.F.slot_list_index PySem.F.type_list_index mt_index (pv 3) (pa_cons pe_bl pa_nil)) (fun _ _ => rfl)))
      (pss_cons (ps_if (pt_cmpR op_eq (pv 5) pe_str (nomark _)) (pss_one (ps_ret (pe_tup (pa_cons (pv 5) (pa_cons (pe_tup (pa_cons (pe_xf XF WC.noA hz hf (pv 2)) (pa_cons (pe_xf XF WC.noN hz hf (pv 2)) pa_nil))) pa_nil))))) pss_nil)
      (pss_cons (ps_if (pt_cmpR op_eq (pv 5) pe_str (nomark _)) (pss_one (ps_ret (pe_tup (pa_cons (pv 5) (pa_cons (pe_tup (pa_cons (pe_xf XF WC.noN hz hf (pv 2)) (pa_cons (pe_xf XF WC.noD hz hf (pv 2)) pa_nil))) pa_nil))))) pss_nil)
      (pss_cons (ps_if (pt_cmpR op_eq (pv 5) pe_str (nomark _)) (pss_one (ps_ret (pe_tup (pa_cons (pv 5) (pa_cons (pe_xf XF WC.noP hz hf (pv 2)) pa_nil))))) pss_nil)
      (pss_cons (ps_if (pt_cmpR op_eq (pv 5) pe_str (nomark _)) (pss_one (ps_ret (pe_tup (pa_cons (pv 5) (pa_cons (pe_xf XF WC.noR hz hf (pv 2)) pa_nil))))) pss_nil)
      (pss_one (ps_ret (pe_ifExp (pt_cmpR op_in_seq (pv 5) (pe_tup (pa_cons pe_str (pa_cons pe_str pa_nil))) rfl) (pe_tup (pa_cons (pv 5) (pa_cons (pe_xf XF WC.noN hz hf (pv 2)) pa_nil))) (pe_tup (pa_cons (pv 5) (pa_cons pe_non pa_nil)))))))))))))))), ?_⟩
  intro R D σ H1 ec hl ha hT q
  obtain ⟨x0, x1, x2, x3, x4, x5, rfl⟩ : ∃ x0 x1 x2 x3 x4 x5, σ = [x0, x1, x2, x3, x4, x5] := by
    rcases σ with _ | ⟨x0, _ | ⟨x1, _ | ⟨x2, _ | ⟨x3, _ | ⟨x4, _ | ⟨x5, _ | ⟨x6, r⟩⟩⟩⟩⟩⟩⟩ <;> simp at hl
    exact ⟨_, _, _, _, _, _, rfl⟩
  show tSeq _ _ _ [x0, x1, some (.ref a), x3, x4, x5] H1
  have fr : ∀ {Hx Hy : Hp} {x y : Addr} {o u : HO}, Hy = upd Hx x o → Hx x = none → Hx y = some u → Hy y = some u := fun e n h => by
    rw [e, upd_ne (ne_of_none h n)]
    exact h
  have hj : toldJ j = true := by
    rcases hT with ⟨rfl, _⟩ | ⟨e, _⟩ | ⟨rfl, _⟩ | ⟨rfl, _⟩ | ⟨rfl, _⟩ | ⟨rfl | rfl, _⟩
    case inr.inl => exact decide_eq_true (by have := plain_cases e; omega)
    all_goals exact decide_eq_true (by decide)
  have hH : Held H1 d := by
    rcases hT with ⟨_, dd, p, e1, e2, _⟩ | ⟨_, e, _⟩ | ⟨_, dd, p, n, e1, e2, _⟩ | ⟨_, dd, p, n, e1, e2, _⟩ | ⟨_, dd, n, e1, e2, _⟩ | ⟨_, dd, n, e1, e2, _⟩
    case inr.inl => exact e
    all_goals exact .inr ⟨dd, _, e1, e2⟩
  obtain ⟨fall, fcnt, fat, fno, fnm⟩ := told_facts hj
  refine ⟨_, rfl, _, _, _, rfl, .own _, ec, hH, k1, _, rfl, _, _, _, rfl, .own _, ec, hH, k2, _, rfl, _, _, _, rfl, .own _, ec, hH, k3, _, rfl, _, _, _, rfl, .own _, ec, hH, k4, ?_⟩
  refine ⟨(by show 4 ≤ sizeLine; decide), fun p1 n1 => ?_⟩
  obtain ⟨H2, e2⟩ : ∃ H2, H2 = upd H1 p1 (.lst [.bl (decide (0 = j)), .bl (decide (1 = j)), .bl (decide (2 = j)), .bl (decide (3 = j))]) := ⟨_, rfl⟩
  have g2 : H2 p1 = some (.lst [.bl (decide (0 = j)), .bl (decide (1 = j)), .bl (decide (2 = j)), .bl (decide (3 = j))]) := by rw [e2]; exact upd_same
  have S2 : Same H1 H2 := by rw [e2]; exact same_new n1 _
  have h2 := hH.same S2
  rw [← e2]
  clear e2
  refine ⟨_, rfl, _, rfl, _, _, _, rfl, .own _, ec, h2, k5, _, rfl, _, _, _, rfl, .own _, ec, h2, k6, _, rfl, _, _, _, rfl, .own _, ec, h2, k7, ?_⟩
  refine ⟨(by show 3 ≤ sizeLine; decide), fun p2 np2 => ?_⟩
  refine ⟨_, _, _, _, rfl, rfl, fr rfl np2 g2, upd_same, (by show 4 + 3 ≤ sizeLine; decide), fun p3 np3 => ?_⟩
  obtain ⟨H3, e3⟩ : ∃ H3, H3 = upd (upd H2 p2 (.lst [.bl (decide (4 = j)), .bl (decide (5 = j)), .bl (decide (6 = j))])) p3 (.lst ([.bl (decide (0 = j)), .bl (decide (1 = j)), .bl (decide (2 = j)), .bl (decide (3 = j))] ++ [.bl (decide (4 = j)), .bl (decide (5 = j)), .bl (decide (6 = j))])) := ⟨_, rfl⟩
  have g3 : H3 p3 = some (.lst [.bl (decide (0 = j)), .bl (decide (1 = j)), .bl (decide (2 = j)), .bl (decide (3 = j)), .bl (decide (4 = j)), .bl (decide (5 = j)), .bl (decide (6 = j))]) := by rw [e3]; exact upd_same
  have S3 : Same H1 H3 := by rw [e3]; exact (S2.trans (same_new np2 _)).trans (same_new np3 _)
  have h3 := hH.same S3
  rw [← e3]
  clear e3
  refine ⟨_, rfl, _, rfl, _, _, _, rfl, .own _, ec, h3, k8, _, rfl, _, _, _, rfl, .own _, ec, h3, k9, _, rfl, _, _, _, rfl, .own _, ec, h3, k10, ?_⟩
  refine ⟨(by show 3 ≤ sizeLine; decide), fun p4 np4 => ?_⟩
  refine ⟨_, _, _, _, rfl, rfl, fr rfl np4 g3, upd_same, (by show 7 + 3 ≤ sizeLine; decide), fun p5 np5 => ?_⟩
  obtain ⟨H4, e4⟩ : ∃ H4, H4 = upd (upd H3 p4 (.lst [.bl (decide (7 = j)), .bl (decide (8 = j)), .bl (decide (9 = j))])) p5 (.lst ([.bl (decide (0 = j)), .bl (decide (1 = j)), .bl (decide (2 = j)), .bl (decide (3 = j)), .bl (decide (4 = j)), .bl (decide (5 = j)), .bl (decide (6 = j))] ++ [.bl (decide (7 = j)), .bl (decide (8 = j)), .bl (decide (9 = j))])) := ⟨_, rfl⟩
  have g4 : H4 p5 = some (.lst [.bl (decide (0 = j)), .bl (decide (1 = j)), .bl (decide (2 = j)), .bl (decide (3 = j)), .bl (decide (4 = j)), .bl (decide (5 = j)), .bl (decide (6 = j)), .bl (decide (7 = j)), .bl (decide (8 = j)), .bl (decide (9 = j))]) := by rw [e4]; exact upd_same
  have S4 : Same H1 H4 := by rw [e4]; exact (S3.trans (same_new np4 _)).trans (same_new np5 _)
  have h4 := hH.same S4
  rw [← e4]
  clear e4
  refine ⟨_, rfl, _, rfl, _, _, _, rfl, .own _, ec, h4, k11, _, rfl, _, _, _, rfl, .own _, ec, h4, k12, ?_⟩
  refine ⟨(by show 2 ≤ sizeLine; decide), fun p6 np6 => ?_⟩
  refine ⟨_, _, _, _, rfl, rfl, fr rfl np6 g4, upd_same, (by show 10 + 2 ≤ sizeLine; decide), fun p7 np7 => ?_⟩
  obtain ⟨H5, e5⟩ : ∃ H5, H5 = upd (upd H4 p6 (.lst [.bl (decide (10 = j)), .bl (decide (11 = j))])) p7 (.lst ([.bl (decide (0 = j)), .bl (decide (1 = j)), .bl (decide (2 = j)), .bl (decide (3 = j)), .bl (decide (4 = j)), .bl (decide (5 = j)), .bl (decide (6 = j)), .bl (decide (7 = j)), .bl (decide (8 = j)), .bl (decide (9 = j))] ++ [.bl (decide (10 = j)), .bl (decide (11 = j))])) := ⟨_, rfl⟩
  have g5 : H5 p7 = some (.lst (bsJ j)) := by rw [e5]; exact upd_same
  have S5 : Same H1 H5 := by rw [e5]; exact (S4.trans (same_new np6 _)).trans (same_new np7 _)
  have h5 := hH.same S5
  rw [← e5]
  clear e5
  refine ⟨(by show 10 ≤ sizeLine; decide), fun p8 n8 => ?_⟩
  obtain ⟨H6, e6⟩ : ∃ H6, H6 = upd H5 p8 (.lst [.str "book", .str "word", .str "sounds", .str "count", .str "unsaid", .str "letter", .str "exception", .str "others", .str "samples", .str "deed"]) := ⟨_, rfl⟩
  have g6 : H6 p8 = some (.lst [.str "book", .str "word", .str "sounds", .str "count", .str "unsaid", .str "letter", .str "exception", .str "others", .str "samples", .str "deed"]) := by rw [e6]; exact upd_same
  have S6 : Same H1 H6 := by rw [e6]; exact S5.trans (same_new n8 _)
  have g6' := fr e6 n8 g5
  have h6 := hH.same S6
  rw [← e6]
  clear e6
  refine ⟨_, rfl, .inl ⟨rfl, _, .inl (.inl g6')⟩, p7, bsJ j, _, rfl, rfl, .inl (.inl g6'), rfl, fall, ?_⟩
  rw [fcnt]
  refine ⟨rfl, _, rfl, iteF ?_⟩
  refine ⟨_, rfl, _, _, _, rfl, .ty _, ec, h6, WC.kv, true, rfl, iteF ?_⟩
  refine ⟨_, rfl, (by show 2 ≤ sizeLine; decide), fun p9 n9 => ?_⟩
  refine ⟨_, _, _, _, rfl, rfl, fr rfl n9 g6, upd_same, (by show 10 + 2 ≤ sizeLine; decide), fun p10 n10 => ?_⟩
  have S69 := (same_new n9 (.lst [.str "halted", .str "text"])).trans (same_new n10 (.lst ([.str "book", .str "word", .str "sounds", .str "count", .str "unsaid", .str "letter", .str "exception", .str "others", .str "samples", .str "deed"] ++ [.str "halted", .str "text"])))
  have S9 := S6.trans S69
  have g9 := S69 _ _ g6'
  refine ⟨_, rfl, .inl ⟨rfl, _, .inl (.inl g9)⟩, p7, bsJ j, _, j, .bl true, rfl, rfl, .inl (.inl g9), rfl, fall, fat, rfl, fno, ?_⟩
  refine ⟨p10, _, _, .str (nmJ j), rfl, rfl, .inl (.inl upd_same), fnm, ?_⟩
  have ne : ∀ {z : Str}, nmJ j ≠ z → decide (V.str (nmJ j) = V.str z) = false := fun h => decide_eq_false fun e => h (V.str.inj e)
  rcases hT with ⟨rfl, dd, p, e1, e2, rfl⟩ | ⟨hp, hHd, rfl⟩ | ⟨rfl, dd, p, n, e1, e2, rfl⟩ | ⟨rfl, dd, n, m, e1, e2, rfl⟩ | ⟨rfl, dd, n, e1, e2, rfl⟩ | ⟨hj, dd, n, e1, e2, rfl⟩
  · refine ⟨_, rfl, rfl, _, rfl, iteF ?_⟩
    refine ⟨_, rfl, rfl, _, rfl, iteF ?_⟩
    refine ⟨_, rfl, rfl, _, rfl, iteT ?_⟩
    have h9 := S9 _ _ e2
    refine ⟨_, rfl, _, rfl, rfl, ec, dd, _, _, e1, h9, by rfl, ?_⟩
    refine ⟨(by show 2 ≤ sizeLine; decide), fun t nt => ?_⟩
    exact q t _ (S9.trans (same_new nt _)) upd_same
  · obtain ⟨f5, f6, f1, f2, f3, f4⟩ := plain_facts hp
    refine ⟨_, rfl, rfl, _, rfl, ?_⟩
    rw [ne f5]
    refine iteF ?_
    refine ⟨_, rfl, rfl, _, rfl, ?_⟩
    rw [ne f6]
    refine iteF ?_
    refine ⟨_, rfl, rfl, _, rfl, ?_⟩
    rw [ne f1]
    refine iteF ?_
    refine ⟨_, rfl, rfl, _, rfl, ?_⟩
    rw [ne f2]
    refine iteF ?_
    refine ⟨_, rfl, (by show 2 ≤ sizeLine; decide), fun p11 n11 => ?_⟩
    have S11 := S9.trans (same_new n11 (.tup [.str "samples", .str "deed"]))
    refine ⟨p11, _, rfl, .inr (.inl (.inl upd_same)), rfl, by rfl, _, rfl, ?_⟩
    have hin : inV (V.str (nmJ j)) [.str "samples", .str "deed"] = false := by
      unfold inV
      simp only [List.any_cons, List.any_nil, Bool.or_false, eqV]
      rw [beq_eq_false_iff_ne.mpr (Ne.symm f3), beq_eq_false_iff_ne.mpr (Ne.symm f4)]
      rfl
    simp only [hin, Bool.false_eq_true, if_false]
    refine ⟨_, rfl, (by show 2 ≤ sizeLine; decide), fun t nt => ?_⟩
    exact q t _ (S11.trans (same_new nt _)) upd_same
  · refine ⟨_, rfl, rfl, _, rfl, iteT ?_⟩
    have h9 := S9 _ _ e2
    refine ⟨_, rfl, _, rfl, rfl, ec, dd, _, _, e1, h9, by rfl, _, rfl, rfl, ec, dd, _, _, e1, h9, by rfl, ?_⟩
    refine ⟨(by show 2 ≤ sizeLine; decide), fun u nu => ⟨(by show 2 ≤ sizeLine; decide), fun t nt => ?_⟩⟩
    have su := same_new nu (.tup [.int p, .int n])
    have st := same_new nt (.tup [.str (nmJ 0), .ref u])
    exact q t _ (S9.trans (su.trans st)) ⟨u, st _ _ upd_same, upd_same⟩
  · refine ⟨_, rfl, rfl, _, rfl, iteF ?_⟩
    refine ⟨_, rfl, rfl, _, rfl, iteT ?_⟩
    have h9 := S9 _ _ e2
    refine ⟨_, rfl, _, rfl, rfl, ec, dd, _, _, e1, h9, by rfl, _, rfl, rfl, ec, dd, _, _, e1, h9, by rfl, ?_⟩
    refine ⟨(by show 2 ≤ sizeLine; decide), fun u nu => ⟨(by show 2 ≤ sizeLine; decide), fun t nt => ?_⟩⟩
    have su := same_new nu (.tup [.int n, .int m])
    have st := same_new nt (.tup [.str (nmJ 10), .ref u])
    exact q t _ (S9.trans (su.trans st)) ⟨u, st _ _ upd_same, upd_same⟩
  · refine ⟨_, rfl, rfl, _, rfl, iteF ?_⟩
    refine ⟨_, rfl, rfl, _, rfl, iteF ?_⟩
    refine ⟨_, rfl, rfl, _, rfl, iteF ?_⟩
    refine ⟨_, rfl, rfl, _, rfl, iteT ?_⟩
    have h9 := S9 _ _ e2
    refine ⟨_, rfl, _, rfl, rfl, ec, dd, _, _, e1, h9, by rfl, ?_⟩
    refine ⟨(by show 2 ≤ sizeLine; decide), fun t nt => ?_⟩
    exact q t _ (S9.trans (same_new nt _)) upd_same
  · have nj : ∀ {z : Str}, (nmJ 8 ≠ z ∧ nmJ 9 ≠ z) → nmJ j ≠ z := fun h => by
      rcases hj with rfl | rfl
      · exact h.1
      · exact h.2
    refine ⟨_, rfl, rfl, _, rfl, ?_⟩
    rw [ne (nj ⟨by decide +kernel, by decide +kernel⟩)]
    refine iteF ?_
    refine ⟨_, rfl, rfl, _, rfl, ?_⟩
    rw [ne (nj ⟨by decide +kernel, by decide +kernel⟩)]
    refine iteF ?_
    refine ⟨_, rfl, rfl, _, rfl, ?_⟩
    rw [ne (nj ⟨by decide +kernel, by decide +kernel⟩)]
    refine iteF ?_
    refine ⟨_, rfl, rfl, _, rfl, ?_⟩
    rw [ne (nj ⟨by decide +kernel, by decide +kernel⟩)]
    refine iteF ?_
    refine ⟨_, rfl, (by show 2 ≤ sizeLine; decide), fun p11 n11 => ?_⟩
    have S11 := S9.trans (same_new n11 (.tup [.str "samples", .str "deed"]))
    refine ⟨p11, _, rfl, .inr (.inl (.inl upd_same)), rfl, by rfl, _, rfl, ?_⟩
    have hin : inV (V.str (nmJ j)) [.str "samples", .str "deed"] = true := by rcases hj with rfl | rfl <;> decide +kernel
    simp only [hin, if_true]
    have h11 := S11 _ _ e2
    refine ⟨_, rfl, _, rfl, rfl, ec, dd, _, _, e1, h11, by rfl, ?_⟩
    refine ⟨(by show 2 ≤ sizeLine; decide), fun t nt => ?_⟩
    exact q t _ (S11.trans (same_new nt _)) upd_same
/-- how it was refused, told -/
def echW (K : PySem.W.Frag) (mg : Str → Option Value) (Q : VK) : XK := fun cls d H' => ∃ (CU : Addr) (j : Nat) (R : Hp → Addr → Prop), WordC K mg CU j ∧ cls = .ref CU ∧ tellsJ j d H' R ∧ ∀ (t : Addr) (H2 : Hp), Same H' H2 → R H2 t → Q (.ref t) H2
/-- _law_word: ("", what is told), or how it was refused -/
def TTw (K : PySem.W.Frag) (mg : Str → Option Value) : (XK → Hp → VK → Prop) → Hp → VK → Prop := fun tl H Q => ∀ D, H D = none → ∀ post : VK,
  (∀ v H', H' D = some (.lst []) → (∀ (t : Addr) (H2 : Hp), Stp D H' H2 → H2 t = some (.tup [.str "", v]) → Q (.ref t) H2) → post v H') → tl (echW K mg Q) (upd H D (.lst [])) post
theorem word_gives {q : Str} (B : Bn X.mg) {cS : Addr} (mS : X.mg "SayError" = some (.ref cS)) : LamX.GivesTo X nLWo "_law_word" (defScope sLWo) g cdg (defBody sLWo) "_law_work" q (TTw X.K X.mg) := by
  intro f c' s H Q tl act hc h
  refine ⟨_, pss_cons (ps_set (i := 1) scLWo.nd rfl (.inl rfl) (pe_lst pa_nil))
    (pss_cons (ps_try_as (X := cxLWo X g cdg s H) (i := 2) (c := .ref cS) (Wout := fun _ _ _ _ => False)
        (tb := fun W D σ H => ∃ Ech : XK, (∀ cls d σ' H', Ech cls d H' → σ'.length = 6 → W cls d σ' H') ∧ tDrop (tBM X.K "list" rAppend (tVar 1) (tCons (fun σZ HZ Q => σZ[0]? = some (some (.ref f)) ∧ HZ c' = some (LamX.CodeO c' q) ∧ tl Ech HZ Q) tNil)) D σ H)
        (ts := fun a' cls d D σ H1 => ∀ oe pn, Zc cls d oe → (∃ vs, oe.data = .fields vs) → ∃ t : TS, PSs ((cxLWo X g cdg s H).suite a' ((a', oe) :: pn)) suLWo t ∧ t D σ H1)
        rfl rfl scLWo.nd rfl rfl ⟨by rfl, by decide, .inl mS⟩ LamX.takes0
        (fun W pn xe tk _ => ?_)
        (fun a oe cls d pn hz hf => ?_))
    (pss_one (ps_ret (pe_tup (pa_cons pe_str (pa_cons (pe_ix ix_list (pv 1) pe_int (fun _ _ => rfl)) pa_nil)))))), ?_⟩
  · refine ⟨fun pins s' σ H' D I h' => ?_⟩
    obtain ⟨Ech, hW, h1⟩ := h'
    have tk6 : Takes ((cxLWo X g cdg s H).tr pn xe) (fun cls d σ H => σ.length = 6 → W cls d σ H) := takes_len rfl tk
    exact (pss_one (ps_expr (pe_bm PySem.F.plainAttrs_list PySem.F.slot_list_append PySem.F.type_list_append mt_append (pv 1) (pa_cons (act (fun cls d σ H => σ.length = 6 → W cls d σ H) pn xe Ech _ _ tk6 hW) pa_nil)))).run pins s' σ H' D I h1
  · refine ⟨fun pins s' σ H' D I h' => ?_⟩
    obtain ⟨t, ht, q1⟩ := h' oe pn hz hf
    exact ht.run pins s' σ H' D I q1
  · refine ⟨(by show 0 ≤ sizeLine; decide), fun D hD => ?_⟩
    refine ⟨echW X.K X.mg Q, fun cls d σ' H' he hl => ?_, _, rfl, .inl ⟨rfl, _, .inl (.inl upd_same)⟩, rfl, by rw [upd_ne (ne_of_none hc hD)]; exact hc, h D hD _ fun v H' hv k => ?_⟩
    · obtain ⟨CU, j, xs, WC, rfl, hT, k⟩ := he
      obtain ⟨c2, e2, xS⟩ := WC.say
      rw [mS] at e2
      cases e2
      refine ⟨true, xS, fun _ a ha oe pn hz hf => ?_, fun z => Bool.noConfusion z⟩
      obtain ⟨t, ht, q1⟩ := word_suite (g := g) (cdg := cdg) (s := s) (H := H) B WC a oe _ _ pn hz hf
      exact ⟨t, ht, q1 xs _ σ' H' rfl hl ha hT k⟩
    · refine ⟨D, _, _, rfl, rfl, hv, (by show 0 < sizeLine; decide), ?_⟩
      refine ⟨_, rfl, D, _, _, v, rfl, rfl, .inl (.inl upd_same), rfl, ?_⟩
      refine ⟨(by show 2 ≤ sizeLine; decide), fun t nt => ?_⟩
      exact k t _ ((stp_at _).trans (.of (same_new nt _))) upd_same
end
end Say
namespace Say
open PySem PySem.Spec PyProof.Rows L2
/-- the numbers, below n, of samples that rules don't say so -/
def blamM (rs : List Rule) (ss : List Exc) (n : Nat) : List Nat := (List.range n).filter fun i => match ss[i]? with
  | some e => !decide (sayW rs e.1 = some e.2)
  | none => false
theorem blam_next {rs : List Rule} {ss : List Exc} {n : Nat} {e : Exc} (h : ss[n]? = some e) : blamM rs ss (n + 1) = blamM rs ss n ++ (if sayW rs e.1 = some e.2 then [] else [n]) := by
  unfold blamM
  rw [List.range_succ, List.filter_append]
  congr 1
  by_cases c : sayW rs e.1 = some e.2
  · rw [if_pos c]
    refine List.filter_cons_of_neg ?_
    simp [h, c]
  · rw [if_neg c]
    refine List.filter_cons_of_pos ?_
    simp [h, c]
theorem blam_len (rs : List Rule) (ss : List Exc) (n : Nat) : (blamM rs ss n).length ≤ n := by
  unfold blamM
  have := List.length_filter_le (fun i => match ss[i]? with | some e => !decide (sayW rs e.1 = some e.2) | none => false) (List.range n)
  rwa [List.length_range] at this
def natsV (ks : List Nat) : List V := ks.map fun k => V.int (k : Nat)
section
variable {P : Program} {w : World} {K : PySem.W.Frag} {mg : Str → Option Value} {base : Heap}
abbrev sBl : Stmt := topS 93
abbrev nBl : List Str := ["letters", "rules", "samples", "number", "sample"]
theorem scBl : FnScope nBl ["letters", "rules", "samples"] (defScope sBl) := ⟨rfl, rfl, rfl, by decide +kernel, rfl, by decide +kernel, by decide +kernel⟩
def spBl : Sp := fun vs H Q _ => ∃ (L : List Nat) (R S : Addr) (rs : List Rule) (ss : List Exc), vs = [.str (T L), .ref R, .ref S] ∧ LetOk L ∧ RulesAt H R rs ∧ (∀ ρ ∈ rs, RuleOk L ρ) ∧ rs.length ≤ 12 ∧ SampsAt H S ss ∧ (∀ e ∈ ss, ExcOk L e) ∧ ss.length ≤ 12 ∧
  ∀ (D : Addr) (H' : Hp), Same H H' → H D = none → H' D = some (.lst (natsV (blamM rs ss ss.length))) → Q (.ref D) H'
theorem ok_bl {f : Addr} {fd : FuncData} (F : Fun K "blamed" "blamed" sBl f fd) (B : Bn mg) (DC : Df P w K mg base "check_all" ["letters", "rules", "samples"] 5 spChA) (DI : Df P w K mg base "is_said" ["rules", "sample"] 7 spIsSaid) :
    FnOk P w K mg base CX0 8 f fd ["letters", "rules", "samples"] spBl := by
  obtain ⟨fC, fdC, GC, kC, bC, mC⟩ := DC
  obtain ⟨fI, fdI, GI, kI, bI, mI⟩ := DI
  refine F.ok scBl (fun vs H Q E h => ?_) (fun cdv A outer s H vs Q E hr h => ?_)
  · obtain ⟨L, R, S, rs, ss, rfl, _⟩ := h
    rfl
  · obtain ⟨L, R, S, rs, ss, rfl, hL, hR, ho, h12, hS, hs, s12, q⟩ := h
    refine ⟨_, pss_cons (ps_expr (pe_call GC (hr.mono (by decide)) (by rfl) mC kC bC .nil pass0 (pa_cons (pv 0) (pa_cons (pv 1) (pa_cons (pv 2) pa_nil)))))
      (pss_one (ps_ret (pe_lc (own := [("number", 3), ("sample", 4)]) (g := gTup K 2 (gCons (gName 3) (gCons (gName 4) gNil))) (te := tVar 3) (tt := tNot (tB (tCall spIsSaid [] E0 (tCons (tVar 1) (tCons (tVar 4) tNil))))) rfl scBl.nd (pi_enum (by rfl) B.enu (pa_cons (pv 2) pa_nil))
        (blkOk_by (N := nBl) (sc := defScope sBl) (by decide +kernel)) (fun _ _ _ _ _ => pg_tup (by rfl) (pgs_cons (pg_name (i := 3) scBl.nd rfl (.inl rfl)) (pgs_cons (pg_name (i := 4) scBl.nd rfl (.inl rfl)) pgs_nil)))
        (fun _ _ _ _ _ => pts_one (pt_not (pt_val (pe_call GI hr (by rfl) mI kI bI .nil pass0 (pa_cons (pv 1) (pa_cons (pv 4) pa_nil)))))) (fun _ _ _ _ _ => pv 3)))), ?_⟩
    refine ⟨_, rfl, _, rfl, _, rfl, L, R, S, rs, ss, rfl, hL, hR, ho, h12, hS, hs, s12, fun H1 s1 => ?_⟩
    have hR1 := hR.kt (.of s1)
    obtain ⟨ts, hSl, hSp⟩ := hS.same s1
    have hrl : ∀ ρ ∈ rs, RlOk ρ := fun ρ hρ => (ho ρ hρ).rl hL
    refine ⟨_, rfl, S, _, rfl, .inl (.inl hSl), fun D hD => ?_⟩
    refine lc_it (walk_enum (xs := ts.map V.ref)) (fun i H2 => H2 D = some (.lst (natsV (blamM rs ss i))) ∧ Same H1 H2) ?_ (fun i H2 _ h => .inl (.inl (h.2 _ _ hSl))) ?_ ?_
    · exact ⟨upd_same, same_new hD _⟩
    · rintro i x H2 H3 hi ⟨e1, e2⟩ ⟨t, x1, x2, rfl, ht, rfl, g1, g2⟩
      cases g1
      have g2 : (ts.map V.ref)[i]? = some x2 := g2
      rw [List.getElem?_map] at g2
      obtain ⟨a, ha, e⟩ := Option.map_eq_some_iff.mp g2
      subst e
      obtain ⟨e, he, hat⟩ := paired_at hSp ha
      have sm := same_new ht (.tup [.int (i : Nat), .ref a])
      have hi2 : i < ss.length := (List.getElem?_eq_some_iff.mp he).1
      have w8 := (hs e (List.mem_of_getElem? he)).w8
      have sR := e2.trans sm
      have et := blam_next (rs := rs) he
      refine ⟨t, _, rfl, .inl (.inl upd_same), rfl, _, _, rfl, _, _, rfl, rfl, ?_⟩
      refine ⟨rfl, _, rfl, _, rfl, R, a, rs, e, rfl, hR1.kt (.of sR), hrl, sR _ _ hat, by omega, fun H4 s4 => ?_⟩
      have eD := s4 _ _ (sm _ _ e1)
      refine ⟨_, rfl, ite2 (fun c => ?_) (fun c => ?_)⟩
      · have c : ¬ sayW rs e.1 = some e.2 := by simpa using c
        rw [if_neg c] at et
        refine ⟨_, rfl, _, eD, ?_, ?_, ?_⟩
        · unfold natsV
          rw [List.length_map]
          have := blam_len rs ss i
          exact small1000 (by omega)
        · rw [upd_same, et]
          unfold natsV
          rw [List.map_append]
          rfl
        · exact fun b u q => by
            rw [upd_ne (ne_of_none q hD)]
            exact s4 _ _ (sR b u q)
      · have c : sayW rs e.1 = some e.2 := by simpa using c
        rw [if_pos c, List.append_nil] at et
        exact ⟨by rw [et]; exact eD, sR.trans s4⟩
    · rintro H2 ⟨e1, e2⟩
      rw [List.length_map, paired_len hSp] at e1
      exact q D H2 (s1.trans e2) (s1.free hD) e1
end
end Say
namespace Say
open PySem PySem.Spec PyProof.Rows L2
section
variable {P : Program} {w : World} {K : PySem.W.Frag} {mg : Str → Option Value} {base : Heap}
abbrev sCnt : Stmt := topS 44
theorem scCnt : FnScope ["number", "most"] ["number", "most"] (defScope sCnt) := ⟨rfl, rfl, rfl, by decide +kernel, rfl, by decide +kernel, by decide +kernel⟩
/-- a number within the bounds -/
def spCnt : Sp := fun vs H Q _ => ∃ (n m : Nat), vs = [.int n, .int m] ∧ n ≤ m ∧ Q (.bl true) H
theorem ok_cnt {f : Addr} {fd : FuncData} {k : Nat} (F : Fun K "is_count" "is_count" sCnt f fd) (B : Bn mg) (hi : mg "int" = none) : FnOk P w K mg base CX0 (k + 1) f fd ["number", "most"] spCnt := by
  refine F.ok scCnt (fun vs H Q E h => ?_) (fun cdv A outer s H vs Q E hr h => ?_)
  · obtain ⟨n, m, rfl, _⟩ := h
    rfl
  · obtain ⟨n, m, rfl, hnm, q⟩ := h
    refine ⟨_, pss_cons (ps_if (PW.pt (pw_or (pt_not (pt_val (pe_callB call_isi (by rfl) B.isi (by decide +kernel) (pa_cons (pv 0) (pa_cons (pe_bltn (v := .ty "int") rfl hi (by decide +kernel) rfl) pa_nil)))))
        (pw_or1 (pt_val (pe_callB call_isi (by rfl) B.isi (by decide +kernel) (pa_cons (pv 0) (pa_cons (pe_bltn (v := .ty "bool") rfl B.bool (by decide +kernel) rfl) pa_nil)))))))
        (pss_one (ps_ret pe_bl)) pss_nil)
      (pss_one (ps_ret (pe_chain op_le op_le pe_int (pv 0) (pv 1)))), ?_⟩
    refine ⟨_, rfl, _, _, .type "int", _, true, rfl, ClsV.ty _, .base (.int _), kit_ty (by decide +kernel), true, rfl, iteF ?_⟩
    refine ⟨_, rfl, _, _, .type "int", _, false, rfl, ClsV.ty _, .base (.int _), kit_ty (by decide +kernel), false, rfl, iteF ?_⟩
    refine ⟨_, rfl, _, _, rfl, rfl, true, (by show V.bl (decide ((0 : Int) ≤ (n : Int))) = _; rw [decide_eq_true (by omega : (0 : Int) ≤ (n : Int))]), iteT ?_⟩
    refine ⟨_, rfl, _, _, rfl, rfl, ?_⟩
    show Q (V.bl (decide ((n : Int) ≤ (m : Int)))) H
    rw [decide_eq_true (by omega : (n : Int) ≤ (m : Int))]
    exact q
end
end Say
namespace Say
open PySem PySem.Spec PyProof.Rows L2
/-! ### walks with fuel enough are alike -/
theorem wk_fuel {rs : List Rule} (h : ∀ ρ ∈ rs, RlOk ρ) {z : List Nat} : ∀ m m' i : Nat, z.length ≤ m + i + 1 → z.length ≤ m' + i + 1 → wk rs z m i = wk rs z m' i
  | 0, m', i, a, b => by
    have n : ¬ i < z.length - 1 := by omega
    rw [wk_end rs z 0 i n, wk_end rs z m' i n]
  | m + 1, m', i, a, b => by
    by_cases n : i < z.length - 1
    · obtain ⟨m'', rfl⟩ : ∃ m'', m' = m'' + 1 := ⟨m' - 1, by omega⟩
      cases e : ff rs z i with
      | none => rw [wk_none n e, wk_none n e]
      | some k =>
        have o1 : 1 ≤ (ruleAt rs k).ow.length := by
          rw [ruleAt_eq (List.getElem?_eq_getElem (ff_lt e))]
          exact (h _ (List.getElem_mem (ff_lt e))).o1
        rw [wk_some n e, wk_some n e, wk_fuel h m m'' _ (by omega) (by omega)]
    · rw [wk_end rs z _ i n, wk_end rs z m' i n]
/-- the walk from a place on -/
def wc (rs : List Rule) (z : List Nat) (i : Nat) : List (Nat × Nat) × Option Nat := wk rs z z.length i
theorem wc_end {rs : List Rule} {z : List Nat} {i : Nat} (n : ¬ i < z.length - 1) : wc rs z i = ([], none) := wk_end rs z _ i n
theorem wc_none {rs : List Rule} {z : List Nat} {i : Nat} (n : i < z.length - 1) (e : ff rs z i = none) : wc rs z i = ([], some (i - 1)) := by
  unfold wc
  obtain ⟨m, hm⟩ : ∃ m, z.length = m + 1 := ⟨z.length - 1, by omega⟩
  rw [hm, wk_none n e]
theorem wc_some {rs : List Rule} (h : ∀ ρ ∈ rs, RlOk ρ) {z : List Nat} {i k : Nat} (n : i < z.length - 1) (e : ff rs z i = some k) : wc rs z i = ((i - 1, k) :: (wc rs z (i + (ruleAt rs k).ow.length)).1, (wc rs z (i + (ruleAt rs k).ow.length)).2) := by
  unfold wc
  obtain ⟨m, hm⟩ : ∃ m, z.length = m + 1 := ⟨z.length - 1, by omega⟩
  have o1 : 1 ≤ (ruleAt rs k).ow.length := by
    rw [ruleAt_eq (List.getElem?_eq_getElem (ff_lt e))]
    exact (h _ (List.getElem_mem (ff_lt e))).o1
  rw [wk_fuel h z.length (m + 1) i (by omega) (by omega), wk_some n e, wk_fuel h m z.length _ (by omega) (by omega)]
theorem W_wc {rs : List Rule} (h : ∀ ρ ∈ rs, RlOk ρ) (wd : List Nat) : W rs wd = wc rs (sgn wd) 1 := wk_fuel h _ _ 1 (by rw [sgn_len]; omega) (by omega)
theorem Wt_wc {rs : List Rule} (h : ∀ ρ ∈ rs, RlOk ρ) (tl : List Nat) : Wt rs tl = wc rs (tl ++ [35]) 1 := wk_fuel h _ _ 1 (by rw [len1]; omega) (by omega)
/-! ### what rules look at -/
theorem fits_drop (ρ : Rule) (z : List Nat) (p i : Nat) : fitsL ρ (z.drop p) (i + 1) = fitsL ρ z (p + i + 1) := by
  unfold fitsL
  rw [List.drop_drop, ← Nat.add_assoc]
  simp only [List.getD_eq_getElem?_getD, List.getElem?_drop]
  rw [show p + (i + 1 - 1) = p + i + 1 - 1 by omega, show p + (i + 1 + ρ.ow.length) = p + i + 1 + ρ.ow.length by omega]
theorem fits_pre (ρ : Rule) (u v : List Nat) (i : Nat) (h1 : 1 ≤ i) (h : i + ρ.ow.length < u.length) : fitsL ρ (u ++ v) i = fitsL ρ u i := by
  unfold fitsL
  rw [List.drop_append_of_le_length (by omega), List.take_append_of_le_length (by rw [List.length_drop]; omega)]
  simp only [List.getD_eq_getElem?_getD]
  rw [List.getElem?_append_left (by omega), List.getElem?_append_left (by omega)]
theorem ff_congr {rs : List Rule} {z z' : List Nat} {i i' : Nat} (h : ∀ ρ ∈ rs, fitsL ρ z i = fitsL ρ z' i') : ff rs z i = ff rs z' i' := by
  unfold ff
  induction rs with
  | nil => rfl
  | cons a r ih =>
    rw [List.findIdx?_cons, List.findIdx?_cons, h a (List.mem_cons_self ..), ih fun ρ hρ => h ρ (List.mem_cons_of_mem _ hρ)]
theorem ff_drop (rs : List Rule) (z : List Nat) (p i : Nat) : ff rs (z.drop p) (i + 1) = ff rs z (p + i + 1) := ff_congr fun ρ _ => fits_drop ρ z p i
theorem ff_at (rs : List Rule) (z : List Nat) (p : Nat) : ff rs z (p + 1) = ff rs (z.drop p) 1 := (ff_drop rs z p 0).symm
theorem ff_pre {rs : List Rule} (h : ∀ ρ ∈ rs, RlOk ρ) (u v : List Nat) (h4 : 4 ≤ u.length) : ff rs (u ++ v) 1 = ff rs u 1 := ff_congr fun ρ hρ => fits_pre ρ u v 1 (Nat.le_refl 1) (by have := (h ρ hρ).o2; omega)
/-- a walk moved on -/
def shiftW (p : Nat) (q : List (Nat × Nat) × Option Nat) : List (Nat × Nat) × Option Nat := (q.1.map fun s => (s.1 + p, s.2), q.2.map (· + p))
theorem wk_shift (rs : List Rule) (z : List Nat) (p : Nat) (hp : p ≤ z.length) : ∀ m i : Nat, wk rs z m (p + i + 1) = shiftW p (wk rs (z.drop p) m (i + 1))
  | 0, i => rfl
  | m + 1, i => by
    have hl : (z.drop p).length = z.length - p := List.length_drop
    by_cases n : p + i + 1 < z.length - 1
    · have n' : i + 1 < (z.drop p).length - 1 := by omega
      have ef := ff_drop rs z p i
      cases e : ff rs z (p + i + 1) with
      | none =>
        rw [wk_none n e, wk_none n' (by rw [ef]; exact e)]
        unfold shiftW
        simp only [List.map_nil, Option.map_some]
        rw [show p + i + 1 - 1 = i + 1 - 1 + p by omega]
      | some k =>
        rw [wk_some n e, wk_some n' (by rw [ef]; exact e)]
        have ih := wk_shift rs z p hp m (i + (ruleAt rs k).ow.length)
        rw [show p + (i + (ruleAt rs k).ow.length) + 1 = p + i + 1 + (ruleAt rs k).ow.length by omega, show i + (ruleAt rs k).ow.length + 1 = i + 1 + (ruleAt rs k).ow.length by omega] at ih
        rw [ih]
        unfold shiftW
        simp only [List.map_cons]
        rw [show p + i + 1 - 1 = i + 1 - 1 + p by omega]
    · rw [wk_end rs z _ _ n, wk_end rs (z.drop p) _ _ (by omega)]
      rfl
theorem wc_shift {rs : List Rule} (h : ∀ ρ ∈ rs, RlOk ρ) (z : List Nat) (p : Nat) (hp : p ≤ z.length) : wc rs z (p + 1) = shiftW p (wc rs (z.drop p) 1) := by
  unfold wc
  rw [show p + 1 = p + 0 + 1 by omega, wk_shift rs z p hp z.length 0]
  congr 1
  exact wk_fuel h _ _ 1 (by rw [List.length_drop]; omega) (by omega)
/-! ### letters fed -/
/-- wd was fed: the tail, the numbers that are settled -/
def Fed (rs : List Rule) (wd tl ks : List Nat) : Prop := ∃ (p : Nat) (st : List (Nat × Nat)), p ≤ wd.length ∧ wd.length ≤ p + 2 ∧ tl = (35 :: wd).drop p ∧ st.map (·.2) = ks ∧
  ∀ v, wc rs (sgn (wd ++ v)) 1 = (st ++ (wc rs (sgn (wd ++ v)) (p + 1)).1, (wc rs (sgn (wd ++ v)) (p + 1)).2)
theorem fed_nil (rs : List Rule) : Fed rs [] [35] [] := ⟨0, [], Nat.le_refl _, Nat.zero_le _, rfl, rfl, fun v => rfl⟩
theorem Fed.len {rs : List Rule} {wd tl ks : List Nat} (h : Fed rs wd tl ks) : 1 ≤ tl.length ∧ tl.length ≤ 3 ∧ tl.length ≤ wd.length + 1 := by
  obtain ⟨p, st, h1, h2, rfl, _⟩ := h
  rw [List.length_drop, List.length_cons]
  omega
theorem sgn_drop (wd v : List Nat) (p : Nat) (h : p ≤ wd.length + 1) : (sgn (wd ++ v)).drop p = (35 :: wd).drop p ++ (v ++ [35]) := by
  have e : sgn (wd ++ v) = (35 :: wd) ++ (v ++ [35]) := by unfold sgn; simp
  rw [e, List.drop_append_of_le_length (by rw [List.length_cons]; exact h)]
theorem Fed.step {rs : List Rule} (h : ∀ ρ ∈ rs, RlOk ρ) {wd tl ks tl' : List Nat} {c : Nat} (F : Fed rs wd tl ks) (e : (tkM rs (some tl) c).1 = some tl') : Fed rs (wd ++ [c]) tl' (ks ++ (tkM rs (some tl) c).2) := by
  obtain ⟨p, st, h1, h2, rfl, rfl, hv⟩ := F
  have et : (35 :: wd).drop p ++ [c] = (35 :: (wd ++ [c])).drop p := by
    rw [← List.cons_append, List.drop_append_of_le_length (by rw [List.length_cons]; omega)]
  have hl : ((35 :: (wd ++ [c])).drop p).length = wd.length + 2 - p := by
    rw [List.length_drop, List.length_cons, List.length_append, List.length_singleton]
  unfold tkM at e ⊢
  simp only at e ⊢
  rw [et] at e ⊢
  by_cases c4 : ((35 :: (wd ++ [c])).drop p).length < 4
  · rw [if_pos c4] at e ⊢
    cases e
    refine ⟨p, st, by rw [List.length_append]; omega, by rw [List.length_append, List.length_singleton]; omega, rfl, by simp, fun v => ?_⟩
    have := hv ([c] ++ v)
    rw [← List.append_assoc] at this
    exact this
  · rw [if_neg c4] at e ⊢
    cases hf : ff rs ((35 :: (wd ++ [c])).drop p) 1 with
    | none => rw [hf] at e; cases e
    | some k =>
      rw [hf] at e
      cases e
      have hk := ff_lt hf
      have er : ruleAt rs k = rs[k] := ruleAt_eq (List.getElem?_eq_getElem hk)
      have o1 := (h _ (List.getElem_mem hk)).o1
      have o2 := (h _ (List.getElem_mem hk)).o2
      refine ⟨p + (ruleAt rs k).ow.length, st ++ [(p, k)], by rw [er, List.length_append, List.length_singleton]; omega, by rw [er, List.length_append, List.length_singleton]; omega, by rw [List.drop_drop], by simp, fun v => ?_⟩
      have := hv ([c] ++ v)
      rw [← List.append_assoc] at this
      rw [this]
      have fz : ff rs (sgn (wd ++ [c] ++ v)) (p + 1) = some k := by
        rw [← hf, ff_at, sgn_drop _ _ _ (by rw [List.length_append]; omega)]
        exact ff_pre h _ _ (by omega)
      have nz : p + 1 < (sgn (wd ++ [c] ++ v)).length - 1 := by
        rw [sgn_len, List.length_append, List.length_append, List.length_singleton]; omega
      rw [wc_some h nz fz, show p + 1 + (ruleAt rs k).ow.length = p + (ruleAt rs k).ow.length + 1 by omega]
      rw [List.append_assoc st [(p, k)]]
      rfl
/-- where a letter isn't taken no word that begins so is said -/
theorem Fed.stuck {rs : List Rule} (h : ∀ ρ ∈ rs, RlOk ρ) {wd tl ks : List Nat} {c : Nat} (F : Fed rs wd tl ks) (e : (tkM rs (some tl) c).1 = none) (v : List Nat) : (W rs (wd ++ [c] ++ v)).2 = some (wd.length + 1 - tl.length) := by
  obtain ⟨p, st, h1, h2, rfl, rfl, hv⟩ := F
  have et : (35 :: wd).drop p ++ [c] = (35 :: (wd ++ [c])).drop p := by
    rw [← List.cons_append, List.drop_append_of_le_length (by rw [List.length_cons]; omega)]
  have hl : ((35 :: (wd ++ [c])).drop p).length = wd.length + 2 - p := by
    rw [List.length_drop, List.length_cons, List.length_append, List.length_singleton]
  unfold tkM at e
  simp only at e
  rw [et] at e
  by_cases c4 : ((35 :: (wd ++ [c])).drop p).length < 4
  · rw [if_pos c4] at e
    cases e
  · rw [if_neg c4] at e
    cases hf : ff rs ((35 :: (wd ++ [c])).drop p) 1 with
    | some k => rw [hf] at e; cases e
    | none =>
      have := hv ([c] ++ v)
      rw [← List.append_assoc] at this
      have fz : ff rs (sgn (wd ++ [c] ++ v)) (p + 1) = none := by
        rw [← hf, ff_at, sgn_drop _ _ _ (by rw [List.length_append]; omega)]
        exact ff_pre h _ _ (by omega)
      have nz : p + 1 < (sgn (wd ++ [c] ++ v)).length - 1 := by
        rw [sgn_len, List.length_append, List.length_append, List.length_singleton]; omega
      rw [W_wc h, this, wc_none nz fz]
      show some (p + 1 - 1) = _
      rw [List.length_drop, List.length_cons, show p + 1 - 1 = wd.length + 1 - (wd.length + 1 - p) by omega]
/-- the whole word, by its tail's end -/
theorem Fed.whole {rs : List Rule} (h : ∀ ρ ∈ rs, RlOk ρ) {wd tl ks : List Nat} (F : Fed rs wd tl ks) : (W rs wd).1.map (·.2) = ks ++ (Wt rs tl).1.map (·.2) ∧ (W rs wd).2 = (Wt rs tl).2.map (· + (wd.length + 1 - tl.length)) := by
  obtain ⟨p, st, h1, h2, rfl, rfl, hv⟩ := F
  have := hv []
  rw [List.append_nil] at this
  have e := wc_shift h (sgn wd) p (by rw [sgn_len]; omega)
  have ed : (sgn wd).drop p = (35 :: wd).drop p ++ [35] := by
    have := sgn_drop wd [] p (by omega)
    rw [List.append_nil] at this
    exact this
  rw [ed, ← Wt_wc h] at e
  rw [e] at this
  rw [W_wc h, this]
  unfold shiftW
  simp only [List.map_append, List.map_map]
  refine ⟨rfl, ?_⟩
  rw [List.length_drop, List.length_cons, show wd.length + 1 - (wd.length + 1 - p) = p by omega]
theorem Fed.kb {rs : List Rule} {wd tl ks : List Nat} (F : Fed rs wd tl ks) : (∀ k ∈ ks, k < rs.length) ∧ ks.length ≤ wd.length + 2 := by
  obtain ⟨p, st, h1, h2, rfl, rfl, hv⟩ := F
  have e := hv []
  rw [List.append_nil] at e
  have l : (wc rs (sgn wd) 1).1.length ≤ (sgn wd).length := wk_len rs (sgn wd) (sgn wd).length 1
  rw [e, List.length_append, sgn_len] at l
  refine ⟨fun k hk => ?_, by rw [List.length_map]; omega⟩
  obtain ⟨s, hs, rfl⟩ := List.mem_map.mp hk
  refine wk_lt (rs := rs) (z := sgn wd) (sgn wd).length 1 s ?_
  show s ∈ (wc rs (sgn wd) 1).1
  rw [e]
  exact List.mem_append_left _ hs
theorem soL_app (rs : List Rule) (a b : List Nat) : soL rs (a ++ b) = soL rs a ++ soL rs b := by
  unfold soL
  rw [List.map_append, List.flatten_append]
end Say
namespace Say
open PySem PySem.Spec PyProof.Rows L2
def wv (ws : List (List Nat)) : List V := ws.map fun x => V.str (T x)
def leW (a b : List Nat) : Bool := decide (a ≤ b)
def leL (a b : List Nat) : Bool := decide ((a.length : Int) ≤ (b.length : Int))
/-- a value that is the text -/
def TxIs (v : Value) (x : List Nat) : Prop := ∃ t, v = .str (T x) t
theorem txs_each : ∀ {ws : List (List Nat)} {its : List Value}, Vals (wv ws) its → PySem.W.EachIs TxIs its ws
  | [], _, .nil => .nil
  | x :: r, _, .cons a b => .cons a (txs_each b)
theorem each_txs : ∀ {ws : List (List Nat)} {its : List Value}, PySem.W.EachIs TxIs its ws → Vals (wv ws) its
  | _, _, .nil => .nil
  | _, _, .cons a b => .cons a (each_txs b)
section
variable {X : Cx}
/-- sorted(xs), texts, any number of them -/
def rSortTA (K : PySem.W.Frag) : List V → Hp → VK → Prop := fun vs H Q => ∃ (a : Addr) (ws : List (List Nat)), vs = [V.ref a] ∧ SqL K H a (wv ws) ∧
  ∀ p : Addr, H p = none → Q (.ref p) (upd H p (.lst (wv (ws.mergeSort leW))))
theorem cr_sortTA (hu : X.A.units + 64 < cLine) : CallR X (.builtin "sorted") (rSortTA X.K) := by
  intro pins s σ H vs us Q I r h
  obtain ⟨a, ws, rfl, hs, q⟩ := h
  obtain ⟨its, rv, hl, hz⟩ := I.list hs
  rw [Vals.ref1 r]
  have ev := txs_each rv
  have hlen : ws.length ≤ sizeLine := by
    have : (wv ws).length = ws.length := by unfold wv; rw [List.length_map]
    rw [← this]
    exact hz
  refine PySem.W.sorted_data (enc := fun x : List Nat => PyData.str (T x)) hl.isList ev (ev.mono fun v x ⟨t, e⟩ => ⟨[], by rw [e]; exact .str _ _⟩) (PySem.W.AllAlike.of fun _ _ => rfl) (.inr fun d hd => ?_) hlen (fun b _ => ?_) fun out _ eo => ?_
  · obtain ⟨x, _, rfl⟩ := List.mem_map.mp hd
    exact ⟨fun z => (by cases z), fun xs z => (by cases z)⟩
  · show X.A.units + 2 + 0 < cLine
    omega
  · rw [PySem.W.dataLe_str] at eo
    obtain ⟨ep, he'⟩ := PyProof.Rows.sortedAll_at s.heap its out.toArray
    have eo : PySem.W.EachIs TxIs out (ws.mergeSort leW) := eo
    have l2 : (wv (ws.mergeSort leW)).length ≤ sizeLine := by
      unfold wv
      rw [List.length_map, List.length_mergeSort]
      exact hlen
    exact ⟨.ref _, upd H (s.heap.objs.size + 1) (.lst (wv (ws.mergeSort leW))), I.laid (t' := s.toks) (fun _ _ => PyProof.Rows.sortedAll_old) (Nat.le_succ _) ⟨l2, out, ep, each_txs eo, he'⟩, rfl, q _ (I.hok.fresh (Nat.le_succ _))⟩
/-- sorted(xs, key=len), texts -/
def tSortLen (K : PySem.W.Frag) (t : TA) : TE := fun σ H Q => t σ H fun vs H1 => ∃ (a : Addr) (ws : List (List Nat)), vs = [V.ref a] ∧ SqL K H1 a (wv ws) ∧ (∀ x ∈ ws, x.length ≤ 1000) ∧
  ∀ p : Addr, H1 p = none → Q (.ref p) (upd H1 p (.lst (wv (ws.mergeSort leL))))
theorem pe_sortLen {e : Expr} {p p2 p3 pos : Pos} {t : TA} (hu : X.A.units + 64 < cLine) (hg : Gl X "sorted") (hm : X.mg "sorted" = none) (hg2 : Gl X "len") (hm2 : X.mg "len" = none) (ha : PA X [e] t)
    (he : backTo pos (starEach [e] X.env) = (false, eval e X.env) :: backTo pos (starEach [] X.env) := by rfl) (hpl : (backTo pos (starEach [e] X.env)).any (·.1) = false := by rfl) :
    PE X (.Call (.Name "sorted" p) [e] [⟨some "key", .Name "len" p2, p3⟩] pos) (tSortLen X.K t) := by
  refine ⟨fun pins s σ H Q I h => ?_⟩
  refine wpAny_Call_Name_kw (ld_blt I hg hm (show bootBuiltins (Str.ofString "sorted") = some (.builtin "sorted") by decide +kernel) ?_)
  refine PyProof.Rows.callWith_kw (id := "sorted") (thn (ha.run pos pins s σ H _ I h) fun us s1 ⟨vs, H1, I1, r1, a, ws, ev, hs, h9, q⟩ => ?_) he hpl rfl rfl
  subst ev
  show wpAny _ _ (evalAll [(do let v ← eval (.Name "len" p2) X.env; standAt pos; pure v)]) _ _ s1
  refine wpAny_evalAll_cons (wpAny_bind (ld_blt I1 hg2 hm2 PySem.boot_len (wpAny_bind (wpAny_standAt (wpAny_pure (wpAny_evalAll_nil ?_))))))
  show wpAny _ _ (call (.builtin "sorted") us [(Str.ofString "key", .builtin "len")]) _ _ s1
  obtain ⟨its, rv, hl, hz⟩ := I1.list hs
  rw [Vals.ref1 r1]
  have evs := txs_each rv
  have hlen : ws.length ≤ sizeLine := by
    have : (wv ws).length = ws.length := by unfold wv; rw [List.length_map]
    rw [← this]
    exact hz
  refine PySem.W.sorted_key_data (b := false) (fun x : List Nat => PyData.int (x.length : Int)) hl.isList evs (PySem.W.AllAlike.of fun _ _ => rfl) (.inr fun d hd => ?_) hlen (fun b _ => ?_) (PyProof.Rows.ksk_s1 _ _) (fun _ => PyProof.Rows.ksk_l1 _ _) (fun _ => PyProof.Rows.ksk_t4 _ _)
    (fun v x ⟨tt, ex⟩ hx h' tk kp => ?_) fun out c h' tk kp fr hD _ eo => ?_
  · obtain ⟨x, _, rfl⟩ := List.mem_map.mp hd
    exact ⟨fun z => (by cases z), fun xs z => (by cases z)⟩
  · show X.A.units + 2 + 0 < cLine
    omega
  · subst ex
    have h1000 := h9 x hx
    have hn := line63
    have hsz := small (Nat.le_trans h1000 (by decide))
    refine PyProof.Rows.len_str (by rw [T_len]; omega) ?_
    rw [T_len]
    exact ⟨h', _, rfl, fun _ _ e => e, .int _ _⟩
  · rw [PySem.W.dataLe_int] at eo
    have eo : PySem.W.EachIs TxIs out (ws.mergeSort leL) := eo
    have l2 : (wv (ws.mergeSort leL)).length ≤ sizeLine := by
      unfold wv
      rw [List.length_map, List.length_mergeSort]
      exact hlen
    exact ⟨.ref _, upd H1 (s1.heap.objs.size + 1) (.lst (wv (ws.mergeSort leL))), I1.laid (t' := tk) kp (Nat.le_succ _) ⟨l2, out, c, each_txs eo, hD⟩, rfl, q _ (I1.hok.fresh (Nat.le_succ _))⟩
end
end Say
namespace Say
open PySem PySem.Spec PyProof.Rows L2
/-! ### all words, level by level -/
def lv (L : List Nat) : Nat → List (List Nat)
  | 0 => [[]]
  | n + 1 => (lv L n).flatMap fun w => L.map fun c => w ++ [c]
/-- all words of up to n letters, the shorter ones first -/
def upto (L : List Nat) (n : Nat) : List (List Nat) := (List.range (n + 1)).flatMap (lv L)
theorem mem_lv {L : List Nat} : ∀ {n : Nat} {w : List Nat}, w ∈ lv L n ↔ w.length = n ∧ ∀ c ∈ w, c ∈ L
  | 0, w => by
    unfold lv
    rw [List.mem_singleton]
    constructor
    · rintro rfl; exact ⟨rfl, by simp⟩
    · rintro ⟨h, _⟩; exact List.eq_nil_of_length_eq_zero h
  | n + 1, w => by
    unfold lv
    rw [List.mem_flatMap]
    constructor
    · rintro ⟨u, hu, hw⟩
      obtain ⟨c, hc, rfl⟩ := List.mem_map.mp hw
      obtain ⟨h1, h2⟩ := mem_lv.mp hu
      refine ⟨by simp [h1], fun d hd => ?_⟩
      rcases List.mem_append.mp hd with hd | hd
      · exact h2 d hd
      · rw [List.mem_singleton.mp hd]; exact hc
    · rintro ⟨h1, h2⟩
      rcases List.eq_nil_or_concat w with rfl | ⟨u, c, rfl⟩
      · cases h1
      · refine ⟨u, mem_lv.mpr ⟨by simpa using h1, fun d hd => h2 d (by simp [hd])⟩, List.mem_map.mpr ⟨c, h2 c (by simp), by simp⟩⟩
theorem mem_upto {L : List Nat} {n : Nat} {w : List Nat} : w ∈ upto L n ↔ w.length ≤ n ∧ ∀ c ∈ w, c ∈ L := by
  unfold upto
  rw [List.mem_flatMap]
  constructor
  · rintro ⟨k, hk, hw⟩
    obtain ⟨h1, h2⟩ := mem_lv.mp hw
    have := List.mem_range.mp hk
    exact ⟨by omega, h2⟩
  · rintro ⟨h1, h2⟩
    exact ⟨w.length, List.mem_range.mpr (by omega), mem_lv.mpr ⟨rfl, h2⟩⟩
theorem lex_app : ∀ {w w' a b : List Nat}, w.length = w'.length → w < w' → w ++ a < w' ++ b
  | [], [], _, _, _, h => absurd h (List.lt_irrefl _)
  | x :: w, y :: w', a, b, hl, h => by
    rw [List.cons_lt_cons_iff] at h
    rw [List.cons_append, List.cons_append, List.cons_lt_cons_iff]
    rcases h with h | ⟨h, h'⟩
    · exact .inl h
    · exact .inr ⟨h, lex_app (by simpa using hl) h'⟩
theorem lex_end : ∀ (w : List Nat) {c d : Nat}, c < d → w ++ [c] < w ++ [d]
  | [], c, d, h => by
    show [c] < [d]
    rw [List.cons_lt_cons_iff]
    exact .inl h
  | x :: w, c, d, h => by
    rw [List.cons_append, List.cons_append, List.cons_lt_cons_iff]
    exact .inr ⟨rfl, lex_end w h⟩
theorem lv_up {L : List Nat} (hL : L.Pairwise (· < ·)) : ∀ n, (lv L n).Pairwise (· < ·)
  | 0 => List.pairwise_singleton _ _
  | n + 1 => by
    unfold lv
    rw [List.pairwise_flatMap]
    refine ⟨fun w _ => List.pairwise_map.mpr (hL.imp fun h => lex_end w h), ?_⟩
    refine (lv_up hL n).imp_of_mem fun {u v} hu hv h x hx y hy => ?_
    obtain ⟨c, _, rfl⟩ := List.mem_map.mp hx
    obtain ⟨d, _, rfl⟩ := List.mem_map.mp hy
    exact lex_app (by rw [(mem_lv.mp hu).1, (mem_lv.mp hv).1]) h
/-! ### the beginnings that may still come to the sounds -/
abbrev Bg := List Nat × List Nat × List Nat
def lng (rs : List Rule) (so : List Nat) (x : Bg) (c : Nat) : Option Bg := match (tkM rs (some x.2.1) c).1 with
  | none => none
  | some t' => if (x.2.2 ++ soL rs (tkM rs (some x.2.1) c).2).isPrefixOf so = true then some (x.1 ++ [c], t', x.2.2 ++ soL rs (tkM rs (some x.2.1) c).2) else none
def root : Bg := ([], [35], [])
def kids (rs : List Rule) (so L : List Nat) (long : Nat) (x : Bg) : List Bg := if x.1.length < long then L.filterMap (lng rs so x) else []
def kl (rs : List Rule) (so L : List Nat) (long : Nat) : Nat → List Bg
  | 0 => [root]
  | n + 1 => (kl rs so L long n).flatMap (kids rs so L long)
def allB (rs : List Rule) (so L : List Nat) (long : Nat) : List Bg := (List.range (long + 1)).flatMap (kl rs so L long)
section
variable {rs : List Rule} {so L : List Nat} {long : Nat}
theorem lng_w {x y : Bg} {c : Nat} (h : lng rs so x c = some y) : y.1 = x.1 ++ [c] := by
  unfold lng at h
  cases e : (tkM rs (some x.2.1) c).1 with
  | none => rw [e] at h; cases h
  | some t' =>
    rw [e] at h
    simp only at h
    split at h
    · cases h; rfl
    · cases h
theorem kids_len {x y : Bg} (h : y ∈ kids rs so L long x) : y.1.length = x.1.length + 1 ∧ x.1.length < long := by
  unfold kids at h
  by_cases c : x.1.length < long
  · rw [if_pos c] at h
    obtain ⟨d, _, hd⟩ := List.mem_filterMap.mp h
    exact ⟨by rw [lng_w hd]; simp, c⟩
  · rw [if_neg c] at h
    cases h
theorem kl_len : ∀ {n : Nat} {x : Bg}, x ∈ kl rs so L long n → x.1.length = n
  | 0, x, h => by
    have h : x ∈ [root] := h
    rw [List.mem_singleton.mp h]; rfl
  | n + 1, x, h => by
    have h : x ∈ (kl rs so L long n).flatMap (kids rs so L long) := h
    obtain ⟨y, hy, hx⟩ := List.mem_flatMap.mp h
    rw [(kids_len hx).1, kl_len hy]
theorem kl_over : kl rs so L long (long + 1) = [] := by
  refine List.eq_nil_iff_forall_not_mem.mpr fun x hx => ?_
  have hx : x ∈ (kl rs so L long long).flatMap (kids rs so L long) := hx
  obtain ⟨y, hy, h⟩ := List.mem_flatMap.mp hx
  have := (kids_len h).2
  rw [kl_len hy] at this
  exact absurd this (Nat.lt_irrefl _)
theorem all_eq : allB rs so L long = root :: (allB rs so L long).flatMap (kids rs so L long) := by
  have e1 : (allB rs so L long).flatMap (kids rs so L long) = (List.range (long + 1)).flatMap fun n => kl rs so L long (n + 1) := by
    unfold allB
    rw [List.flatMap_assoc]
    rfl
  have e2 : (List.range (long + 1 + 1)).flatMap (kl rs so L long) = allB rs so L long := by
    rw [List.range_succ, List.flatMap_append]
    show allB rs so L long ++ (kl rs so L long (long + 1) ++ []) = _
    rw [kl_over, List.append_nil, List.append_nil]
  rw [e1]
  conv => lhs; rw [← e2]
  rw [List.range_succ_eq_map, List.flatMap_cons, List.flatMap_map]
  rfl
/-- the queue, i beginnings taken -/
def que (rs : List Rule) (so L : List Nat) (long i : Nat) : List Bg := root :: ((allB rs so L long).take i).flatMap (kids rs so L long)
theorem que_pre (i : Nat) : allB rs so L long = que rs so L long i ++ ((allB rs so L long).drop i).flatMap (kids rs so L long) := by
  unfold que
  rw [List.cons_append, ← List.flatMap_append, List.take_append_drop]
  exact all_eq
theorem que_at {i : Nat} (h : i < (que rs so L long i).length) : ∃ x, (allB rs so L long)[i]? = some x ∧ (que rs so L long i)[i]? = some x := by
  refine ⟨(que rs so L long i)[i], ?_, List.getElem?_eq_getElem h⟩
  have e := que_pre (rs := rs) (so := so) (L := L) (long := long) i
  rw [e, List.getElem?_append_left h]
  exact List.getElem?_eq_getElem h
theorem que_next {i : Nat} {x : Bg} (h : (allB rs so L long)[i]? = some x) : que rs so L long (i + 1) = que rs so L long i ++ kids rs so L long x := by
  unfold que
  rw [List.take_add_one, h, List.flatMap_append]
  simp
theorem que_end {i : Nat} (h : (que rs so L long i).length ≤ i) : (allB rs so L long).take i = allB rs so L long := by
  have e := que_pre (rs := rs) (so := so) (L := L) (long := long) i
  have hd : ∀ x ∈ (allB rs so L long).drop i, x ∈ ((allB rs so L long).drop i).flatMap (kids rs so L long) := fun x hx => by
    have hx' := hx
    rw [e, List.drop_append, List.drop_eq_nil_of_le h, List.nil_append] at hx'
    exact List.mem_of_mem_drop hx'
  have no : ∀ n, ∀ x ∈ (allB rs so L long).drop i, x.1.length ≠ n := by
    intro n
    induction n with
    | zero =>
      intro x hx z
      obtain ⟨y, _, hy⟩ := List.mem_flatMap.mp (hd x hx)
      have := (kids_len hy).1
      omega
    | succ n ih =>
      intro x hx z
      obtain ⟨y, hy1, hy⟩ := List.mem_flatMap.mp (hd x hx)
      have := (kids_len hy).1
      exact ih y hy1 (by omega)
  have en : (allB rs so L long).drop i = [] := List.eq_nil_iff_forall_not_mem.mpr fun x hx => no _ x hx rfl
  exact List.take_of_length_le (List.drop_eq_nil_iff.mp en)
/-! ### by letters -/
def bg (rs : List Rule) (so : List Nat) (w : List Nat) : Option Bg := w.foldl (fun o c => o.bind fun x => lng rs so x c) (some root)
theorem bg_snoc (w : List Nat) (c : Nat) : bg rs so (w ++ [c]) = (bg rs so w).bind fun x => lng rs so x c := by
  unfold bg
  rw [List.foldl_append]
  rfl
theorem bind_flat {α β γ : Type} (f : α → Option β) (g : β → List γ) : ∀ l : List α, (l.filterMap f).flatMap g = l.flatMap fun a => match f a with | none => [] | some b => g b
  | [] => rfl
  | a :: r => by
    rw [List.filterMap_cons, List.flatMap_cons, ← bind_flat f g r]
    cases f a with
    | none => rfl
    | some b => rw [List.flatMap_cons]
theorem flat_bind {α β γ : Type} (g : α → List β) (f : β → Option γ) : ∀ l : List α, (l.flatMap g).filterMap f = l.flatMap fun a => (g a).filterMap f
  | [] => rfl
  | a :: r => by rw [List.flatMap_cons, List.flatMap_cons, List.filterMap_append, flat_bind g f r]
theorem flat_congr {α β : Type} {f g : α → List β} : ∀ {l : List α}, (∀ a ∈ l, f a = g a) → l.flatMap f = l.flatMap g
  | [], _ => rfl
  | a :: r, h => by rw [List.flatMap_cons, List.flatMap_cons, h a (List.mem_cons_self ..), flat_congr fun b hb => h b (List.mem_cons_of_mem _ hb)]
theorem bg_w : ∀ (n : Nat) {w : List Nat} {x : Bg}, w.length = n → bg rs so w = some x → x.1 = w
  | 0, w, x, hn, h => by
    have := List.eq_nil_of_length_eq_zero hn
    subst this
    have h : some root = some x := h
    cases h; rfl
  | n + 1, w, x, hn, h => by
    rcases List.eq_nil_or_concat w with rfl | ⟨u, c, rfl⟩
    · cases hn
    · rw [List.concat_eq_append] at h hn ⊢
      rw [bg_snoc] at h
      cases e : bg rs so u with
      | none => rw [e] at h; cases h
      | some y =>
        rw [e] at h
        have h : lng rs so y c = some x := h
        rw [lng_w h, bg_w n (by simpa using hn) e]
theorem kl_bg : ∀ n, n ≤ long → kl rs so L long n = (lv L n).filterMap (bg rs so)
  | 0, _ => rfl
  | n + 1, hn => by
    show (kl rs so L long n).flatMap (kids rs so L long) = ((lv L n).flatMap fun w => L.map fun c => w ++ [c]).filterMap (bg rs so)
    rw [kl_bg n (by omega), bind_flat, flat_bind]
    refine flat_congr fun w hw => ?_
    have hl := (mem_lv.mp hw).1
    have e2 : (L.map fun c => w ++ [c]).filterMap (bg rs so) = L.filterMap fun c => (bg rs so w).bind fun x => lng rs so x c := by
      rw [List.filterMap_map]
      congr 1
      funext c
      exact bg_snoc w c
    rw [e2]
    cases e : bg rs so w with
    | none =>
      simp only [Option.bind_none]
      symm
      exact List.filterMap_eq_nil_iff.mpr fun _ _ => rfl
    | some x =>
      simp only [Option.bind_some]
      have := bg_w _ hl e
      unfold kids
      rw [if_pos (by rw [this]; omega)]
/-! ### what is said so -/
def okB (rs : List Rule) (so : List Nat) (x : Bg) : Bool := match ensM rs (some x.2.1) with
  | none => false
  | some r => decide (x.2.2 ++ r = so)
theorem Fed.say (ho : ∀ ρ ∈ rs, RlOk ρ) {wd tl ks : List Nat} (F : Fed rs wd tl ks) : sayW rs wd = (ensM rs (some tl)).map (soL rs ks ++ ·) := by
  obtain ⟨w1, w2⟩ := F.whole ho
  unfold sayW ensM endM
  rw [w2, w1]
  simp only
  cases e : (Wt rs tl).2 with
  | none => simp [soL_app]
  | some p => simp
theorem Fed.sayV (ho : ∀ ρ ∈ rs, RlOk ρ) {wd tl ks v s : List Nat} (F : Fed rs wd tl ks) (h : sayW rs (wd ++ v) = some s) : (soL rs ks).isPrefixOf s = true := by
  obtain ⟨p, st, h1, h2, rfl, rfl, hv⟩ := F
  have e := hv v
  rw [← W_wc ho] at e
  unfold sayW at h
  split at h
  · have h := Option.some.inj h
    rw [e] at h
    simp only [List.map_append, soL_app] at h
    rw [← h, List.isPrefixOf_iff_prefix]
    exact List.prefix_append _ _
  · cases h
theorem bg_fed (ho : ∀ ρ ∈ rs, RlOk ρ) : ∀ (n : Nat) {w : List Nat} {x : Bg}, w.length = n → bg rs so w = some x → ∃ ks, Fed rs w x.2.1 ks ∧ x.2.2 = soL rs ks
  | 0, w, x, hn, h => by
    have := List.eq_nil_of_length_eq_zero hn
    subst this
    have h : some root = some x := h
    cases h
    exact ⟨[], fed_nil rs, rfl⟩
  | n + 1, w, x, hn, h => by
    rcases List.eq_nil_or_concat w with rfl | ⟨u, c, rfl⟩
    · cases hn
    · rw [List.concat_eq_append] at h hn ⊢
      rw [bg_snoc] at h
      cases e : bg rs so u with
      | none => rw [e] at h; cases h
      | some y =>
        rw [e] at h
        have h : lng rs so y c = some x := h
        obtain ⟨ks, hF, es⟩ := bg_fed ho n (by simpa using hn) e
        unfold lng at h
        cases et : (tkM rs (some y.2.1) c).1 with
        | none => rw [et] at h; cases h
        | some t' =>
          rw [et] at h
          simp only at h
          split at h
          · cases h
            exact ⟨_, hF.step ho et, by rw [soL_app, es]⟩
          · cases h
theorem bg_none (ho : ∀ ρ ∈ rs, RlOk ρ) : ∀ (n : Nat) {w : List Nat}, w.length = n → bg rs so w = none → ∀ v, sayW rs (w ++ v) ≠ some so
  | 0, w, hn, h, v => by
    have := List.eq_nil_of_length_eq_zero hn
    subst this
    cases h
  | n + 1, w, hn, h, v => by
    rcases List.eq_nil_or_concat w with rfl | ⟨u, c, rfl⟩
    · cases hn
    · rw [List.concat_eq_append] at h hn ⊢
      rw [bg_snoc] at h
      cases e : bg rs so u with
      | none =>
        rw [List.append_assoc]
        exact bg_none ho n (by simpa using hn) e _
      | some y =>
        rw [e] at h
        have h : lng rs so y c = none := h
        obtain ⟨ks, hF, es⟩ := bg_fed ho n (by simpa using hn) e
        unfold lng at h
        cases et : (tkM rs (some y.2.1) c).1 with
        | none =>
          have := hF.stuck ho et v
          unfold sayW
          rw [this, if_neg (fun z => by cases z)]
          exact fun z => by cases z
        | some t' =>
          rw [et] at h
          simp only at h
          split at h
          · cases h
          · rename_i np
            intro z
            have := (hF.step ho et).sayV ho z
            rw [soL_app, ← es] at this
            exact np this
theorem bind_filter {α β γ : Type} {f : α → Option β} {g : β → γ} {okb : β → Bool} {P : γ → Bool} {i : α → γ} : ∀ {l : List α}, (∀ a ∈ l, match f a with | none => P (i a) = false | some b => g b = i a ∧ okb b = P (i a)) → ((l.filterMap f).filter okb).map g = (l.map i).filter P
  | [], _ => rfl
  | a :: r, h => by
    have ih := bind_filter (l := r) fun b hb => h b (List.mem_cons_of_mem _ hb)
    have ha := h a (List.mem_cons_self ..)
    rw [List.filterMap_cons, List.map_cons]
    cases e : f a with
    | none =>
      rw [e] at ha
      rw [List.filter_cons_of_neg (by rw [ha]; exact Bool.false_ne_true)]
      exact ih
    | some b =>
      rw [e] at ha
      obtain ⟨h1, h2⟩ := ha
      simp only
      cases c : okb b with
      | true =>
        rw [List.filter_cons_of_pos c, List.map_cons, ih, h1, List.filter_cons_of_pos (by rw [← h2]; exact c)]
      | false =>
        rw [List.filter_cons_of_neg (by rw [c]; exact Bool.false_ne_true), ih, List.filter_cons_of_neg (by rw [← h2, c]; exact Bool.false_ne_true)]
/-- the words that rules say so, in the queue's turn -/
theorem all_ruled (ho : ∀ ρ ∈ rs, RlOk ρ) : ((allB rs so L long).filter (okB rs so)).map (·.1) = (upto L long).filter fun w => decide (sayW rs w = some so) := by
  have e : allB rs so L long = (upto L long).filterMap (bg rs so) := by
    unfold allB upto
    rw [flat_bind]
    exact flat_congr fun n hn => kl_bg n (by have := List.mem_range.mp hn; omega)
  rw [e]
  have := bind_filter (f := bg rs so) (g := fun x : Bg => x.1) (okb := okB rs so) (P := fun w => decide (sayW rs w = some so)) (i := id) (l := upto L long) fun w hw => by
    cases eb : bg rs so w with
    | none =>
      refine decide_eq_false ?_
      have := bg_none ho _ rfl eb []
      rw [List.append_nil] at this
      exact this
    | some x =>
      obtain ⟨ks, hF, es⟩ := bg_fed ho _ rfl eb
      refine ⟨bg_w _ rfl eb, ?_⟩
      unfold okB
      rw [show sayW rs (id w) = (ensM rs (some x.2.1)).map (soL rs ks ++ ·) from hF.say ho]
      cases er : ensM rs (some x.2.1) with
      | none => rfl
      | some r =>
        simp only [Option.map_some, Option.some.injEq]
        rw [es]
  rw [List.map_id] at this
  exact this
end
theorem flat_le {α β : Type} {f : α → List β} {k : Nat} : ∀ {l : List α}, (∀ a ∈ l, (f a).length ≤ k) → (l.flatMap f).length ≤ l.length * k
  | [], _ => Nat.zero_le _
  | a :: r, h => by
    have ih := flat_le fun b hb => h b (List.mem_cons_of_mem _ hb)
    have := h a (List.mem_cons_self ..)
    rw [List.flatMap_cons, List.length_append, List.length_cons, Nat.succ_mul]
    omega
end Say
namespace Say
open PySem PySem.Spec PyProof.Rows L2
theorem strict_ext {α : Type} {lt : α → α → Prop} (irr : ∀ a, ¬ lt a a) (tr : ∀ a b c, lt a b → lt b c → lt a c) : ∀ {l m : List α}, l.Pairwise lt → m.Pairwise lt → (∀ x, x ∈ l ↔ x ∈ m) → l = m
  | [], m, _, _, h => (List.eq_nil_iff_forall_not_mem.mpr fun x hx => nomatch (h x).mpr hx).symm
  | a :: l, [], _, _, h => nomatch (h a).mp (List.mem_cons_self ..)
  | a :: l, b :: m, h1, h2, h => by
    obtain ⟨a1, a2⟩ := List.pairwise_cons.mp h1
    obtain ⟨b1, b2⟩ := List.pairwise_cons.mp h2
    have e : a = b := by
      rcases List.mem_cons.mp ((h a).mp (List.mem_cons_self ..)) with e | e
      · exact e
      · rcases List.mem_cons.mp ((h b).mpr (List.mem_cons_self ..)) with e' | e'
        · exact e'.symm
        · exact absurd (tr _ _ _ (b1 _ e) (a1 _ e')) (irr _)
    subst e
    congr 1
    refine strict_ext irr tr a2 b2 fun x => ⟨fun hx => ?_, fun hx => ?_⟩
    · rcases List.mem_cons.mp ((h x).mp (List.mem_cons_of_mem _ hx)) with e | e
      · rw [e] at hx; exact absurd (a1 _ hx) (irr _)
      · exact e
    · rcases List.mem_cons.mp ((h x).mpr (List.mem_cons_of_mem _ hx)) with e | e
      · rw [e] at hx; exact absurd (b1 _ hx) (irr _)
      · exact e
theorem lexIrr (a : List Nat) : ¬ a < a := List.lt_irrefl a
theorem lexTr (a b c : List Nat) (h : a < b) (h' : b < c) : a < c := List.lt_trans h h'
theorem leW_tot : PySem.W.TotalLe leW where
  trans a b c h1 h2 := decide_eq_true (List.le_trans (of_decide_eq_true h1) (of_decide_eq_true h2))
  total a b := by
    rcases List.le_total a b with h | h
    · exact .inl (decide_eq_true h)
    · exact .inr (decide_eq_true h)
theorem leL_tot : PySem.W.TotalLe leL where
  trans a b c h1 h2 := decide_eq_true (Int.le_trans (of_decide_eq_true h1) (of_decide_eq_true h2))
  total a b := by
    rcases Int.le_total (a.length : Int) (b.length : Int) with h | h
    · exact .inl (decide_eq_true h)
    · exact .inr (decide_eq_true h)
theorem upto_up {L : List Nat} (hL : L.Pairwise (· < ·)) (n : Nat) : (upto L n).Pairwise fun a b => a.length < b.length ∨ (a.length = b.length ∧ a < b) := by
  unfold upto
  rw [List.pairwise_flatMap]
  refine ⟨fun k _ => (lv_up hL k).imp_of_mem fun {a b} ha hb h => .inr ⟨by rw [(mem_lv.mp ha).1, (mem_lv.mp hb).1], h⟩, ?_⟩
  refine List.pairwise_lt_range.imp fun {i j} h x hx y hy => .inl ?_
  rw [(mem_lv.mp hx).1, (mem_lv.mp hy).1]
  exact h
def ruledW (rs : List Rule) (so L : List Nat) (long : Nat) : List (List Nat) := (upto L long).filter fun w => decide (sayW rs w = some so)
def exW (es : List Exc) (so : List Nat) (long : Nat) : List (List Nat) := (es.filter fun e => decide (e.2 = so) && decide (e.1.length ≤ long)).map (·.1)
def isExc (es : List Exc) (w : List Nat) : Bool := es.any fun e => decide (e.1 = w)
def foundW (rs : List Rule) (es : List Exc) (so L : List Nat) (long : Nat) : List (List Nat) := ((ruledW rs so L long).filter fun w => !isExc es w) ++ exW es so long
/-- all words that are said so -/
def writM (rs : List Rule) (es : List Exc) (so L : List Nat) (long : Nat) : List (List Nat) := (upto L long).filter fun w => decide (saidM rs es w = some so)
section
variable {rs : List Rule} {es : List Exc} {so L : List Nat} {long : Nat}
theorem exc_said (up : es.Pairwise fun e f => e.1 < f.1) {e : Exc} (h : e ∈ es) : saidM rs es e.1 = some e.2 := by
  unfold saidM
  have : es.find? (fun f => decide (f.1 = e.1)) = some e := by
    induction es with
    | nil => cases h
    | cons a r ih =>
      obtain ⟨p1, p2⟩ := List.pairwise_cons.mp up
      rcases List.mem_cons.mp h with rfl | h
      · exact List.find?_cons_of_pos (decide_eq_true rfl)
      · rw [List.find?_cons_of_neg (by
          intro z
          have z := of_decide_eq_true z
          have := p1 e h
          rw [z] at this
          exact lexIrr _ this)]
        exact ih p2 h
  rw [this]
theorem noexc_said {w : List Nat} (h : isExc es w = false) : saidM rs es w = sayW rs w := by
  unfold saidM
  have : es.find? (fun f => decide (f.1 = w)) = none := by
    refine List.find?_eq_none.mpr fun e he z => ?_
    unfold isExc at h
    rw [List.any_eq_false] at h
    exact h e he z
  rw [this]
theorem mem_found (ex : ∀ e ∈ es, ∀ c ∈ e.1, c ∈ L) (up : es.Pairwise fun e f => e.1 < f.1) (w : List Nat) : w ∈ foundW rs es so L long ↔ w ∈ writM rs es so L long := by
  unfold foundW writM ruledW exW
  rw [List.mem_append, List.mem_filter, List.mem_filter, List.mem_filter]
  constructor
  · rintro (⟨⟨h1, h2⟩, h3⟩ | h)
    · have h3 : isExc es w = false := by simpa using h3
      exact ⟨h1, by rw [noexc_said h3]; exact h2⟩
    · obtain ⟨e, he, rfl⟩ := List.mem_map.mp h
      obtain ⟨he1, he2⟩ := List.mem_filter.mp he
      rw [Bool.and_eq_true] at he2
      have e2 := of_decide_eq_true he2.1
      exact ⟨mem_upto.mpr ⟨of_decide_eq_true he2.2, ex e he1⟩, decide_eq_true (by rw [exc_said up he1, e2])⟩
  · rintro ⟨h1, h2⟩
    have h2 := of_decide_eq_true h2
    cases h : isExc es w with
    | false =>
      rw [noexc_said h] at h2
      exact .inl ⟨⟨h1, decide_eq_true h2⟩, rfl⟩
    | true =>
      refine .inr ?_
      unfold isExc at h
      obtain ⟨e, he, hw⟩ := List.any_eq_true.mp h
      have hw := of_decide_eq_true hw
      subst hw
      rw [exc_said up he] at h2
      refine List.mem_map.mpr ⟨e, List.mem_filter.mpr ⟨he, ?_⟩, rfl⟩
      rw [Bool.and_eq_true]
      exact ⟨decide_eq_true (Option.some.inj h2), decide_eq_true (mem_upto.mp h1).1⟩
theorem found_nd (hL : L.Pairwise (· < ·)) (up : es.Pairwise fun e f => e.1 < f.1) : (foundW rs es so L long).Nodup := by
  unfold foundW
  refine List.nodup_append.mpr ⟨?_, ?_, fun a ha b hb z => ?_⟩
  · refine List.Nodup.sublist (List.filter_sublist.trans List.filter_sublist) ?_
    exact (upto_up hL long).imp fun {a b} h z => by
      subst z
      rcases h with h | ⟨_, h⟩
      · exact Nat.lt_irrefl _ h
      · exact lexIrr _ h
  · unfold exW
    refine (List.pairwise_map.mpr ((up.sublist List.filter_sublist).imp fun {e f} h => ?_))
    intro z
    rw [z] at h
    exact lexIrr _ h
  · subst z
    obtain ⟨_, h⟩ := List.mem_filter.mp ha
    unfold exW at hb
    obtain ⟨e, he, rfl⟩ := List.mem_map.mp hb
    have : isExc es e.1 = true := List.any_eq_true.mpr ⟨e, (List.mem_filter.mp he).1, decide_eq_true rfl⟩
    rw [this] at h
    cases h
/-- sorted, then by lengths: that is all words in their turn -/
theorem writ_sort (hL : L.Pairwise (· < ·)) (ex : ∀ e ∈ es, ∀ c ∈ e.1, c ∈ L) (up : es.Pairwise fun e f => e.1 < f.1) : ((foundW rs es so L long).mergeSort leW).mergeSort leL = writM rs es so L long := by
  symm
  have uu : (writM rs es so L long).Pairwise fun a b => a.length < b.length ∨ (a.length = b.length ∧ a < b) := (upto_up hL long).sublist List.filter_sublist
  refine PySem.W.sort_unique leL_tot (uu.imp fun {a b} h => decide_eq_true (by omega)) fun c => ?_
  refine strict_ext (lt := fun a b : List Nat => a < b) lexIrr lexTr ?_ ?_ fun x => ?_
  · refine (uu.sublist List.filter_sublist).imp_of_mem fun {a b} ha hb h => ?_
    have ra := (List.mem_filter.mp ha).2
    have rb := (List.mem_filter.mp hb).2
    unfold PySem.W.sameRank at ra rb
    rw [Bool.and_eq_true] at ra rb
    have a1 := of_decide_eq_true ra.1
    have a2 := of_decide_eq_true ra.2
    have b1 := of_decide_eq_true rb.1
    have b2 := of_decide_eq_true rb.2
    rcases h with h | ⟨_, h⟩
    · omega
    · exact h
  · have h1 := PySem.W.sort_pairwise leW_tot (foundW rs es so L long)
    have h2 : ((foundW rs es so L long).mergeSort leW).Nodup := (List.mergeSort_perm _ _).nodup_iff.mpr (found_nd hL up)
    refine List.Pairwise.sublist List.filter_sublist ((List.pairwise_and_iff.mpr ⟨h1, h2⟩).imp fun {a b} h => ?_)
    have le := of_decide_eq_true h.1
    exact Decidable.byContradiction fun n => h.2 (List.le_antisymm le (List.not_lt.mp n))
  · rw [List.mem_filter, List.mem_filter, List.mem_mergeSort, mem_found ex up]
end
end Say
namespace Say
open PySem PySem.Spec PyProof.Rows L2
theorem tkB_ks {rs : List Rule} {t : List Nat} {c : Nat} : (∀ k ∈ (tkM rs (some t) c).2, k < rs.length) ∧ (tkM rs (some t) c).2.length ≤ 1 := by
  unfold tkM
  simp only
  by_cases c1 : (t ++ [c]).length < 4
  · rw [if_pos c1]
    exact ⟨fun k h => (nomatch h), Nat.zero_le _⟩
  · rw [if_neg c1]
    cases e : ff rs (t ++ [c]) 1 with
    | none => exact ⟨fun k h => (nomatch h), Nat.zero_le _⟩
    | some k => exact ⟨fun j h => (by rw [List.mem_singleton.mp h]; exact ff_lt e), Nat.le_refl _⟩
theorem tkB_len {rs : List Rule} (ho : ∀ ρ ∈ rs, RlOk ρ) {t t' : List Nat} {c : Nat} (h1 : 1 ≤ t.length) (h3 : t.length ≤ 3) (e : (tkM rs (some t) c).1 = some t') : 1 ≤ t'.length ∧ t'.length ≤ 3 := by
  unfold tkM at e
  simp only at e
  by_cases c1 : (t ++ [c]).length < 4
  · rw [if_pos c1] at e
    cases e
    simp only [List.length_append, List.length_singleton] at c1 ⊢
    omega
  · rw [if_neg c1] at e
    cases ef : ff rs (t ++ [c]) 1 with
    | none => rw [ef] at e; cases e
    | some k =>
      rw [ef] at e
      cases e
      have hk := ff_lt ef
      have er : ruleAt rs k = rs[k] := ruleAt_eq (List.getElem?_eq_getElem hk)
      have o2 := (ho _ (List.getElem_mem hk)).o2
      have o1 := (ho _ (List.getElem_mem hk)).o1
      simp only [List.length_append, List.length_singleton] at c1
      rw [List.length_drop, er, List.length_append, List.length_singleton]
      omega
/-- a beginning in its bounds -/
structure BgOk (so : List Nat) (x : Bg) : Prop where
  t1 : 1 ≤ x.2.1.length
  t3 : x.2.1.length ≤ 3
  s : x.2.2.length ≤ so.length
  w : x.1.length ≤ 7
theorem root_ok (so : List Nat) : BgOk so root := ⟨Nat.le_refl _, by decide, Nat.zero_le _, Nat.zero_le _⟩
theorem lng_ok {rs : List Rule} (ho : ∀ ρ ∈ rs, RlOk ρ) {so : List Nat} {x y : Bg} {c : Nat} (h : lng rs so x c = some y) (hx : BgOk so x) (h7 : x.1.length < 7) : BgOk so y := by
  unfold lng at h
  cases e : (tkM rs (some x.2.1) c).1 with
  | none => rw [e] at h; cases h
  | some t' =>
    rw [e] at h
    simp only at h
    split at h
    · rename_i p
      cases h
      obtain ⟨a, b⟩ := tkB_len ho hx.t1 hx.t3 e
      rw [List.isPrefixOf_iff_prefix] at p
      exact ⟨a, b, p.length_le, by show (x.1 ++ [c]).length ≤ 7; simp; omega⟩
    · cases h
theorem kids_ok {rs : List Rule} (ho : ∀ ρ ∈ rs, RlOk ρ) {so L : List Nat} {long : Nat} (hl : long ≤ 7) {x y : Bg} (hx : BgOk so x) (h : y ∈ kids rs so L long x) : BgOk so y := by
  unfold kids at h
  by_cases c : x.1.length < long
  · rw [if_pos c] at h
    obtain ⟨d, _, hd⟩ := List.mem_filterMap.mp h
    exact lng_ok ho hd hx (by omega)
  · rw [if_neg c] at h
    cases h
theorem kl_ok {rs : List Rule} (ho : ∀ ρ ∈ rs, RlOk ρ) {so L : List Nat} {long : Nat} (hl : long ≤ 7) : ∀ (n : Nat) {x : Bg}, x ∈ kl rs so L long n → BgOk so x
  | 0, x, h => by
    have h : x ∈ [root] := h
    rw [List.mem_singleton.mp h]; exact root_ok so
  | n + 1, x, h => by
    have h : x ∈ (kl rs so L long n).flatMap (kids rs so L long) := h
    obtain ⟨y, hy, hx⟩ := List.mem_flatMap.mp h
    exact kids_ok ho hl (kl_ok ho hl n hy) hx
theorem all_bg {rs : List Rule} (ho : ∀ ρ ∈ rs, RlOk ρ) {so L : List Nat} {long : Nat} (hl : long ≤ 7) {x : Bg} (h : x ∈ allB rs so L long) : BgOk so x := by
  unfold allB at h
  obtain ⟨n, _, hx⟩ := List.mem_flatMap.mp h
  exact kl_ok ho hl n hx
theorem kids_le {rs : List Rule} {so L : List Nat} {long : Nat} (x : Bg) : (kids rs so L long x).length ≤ L.length := by
  unfold kids
  by_cases c : x.1.length < long
  · rw [if_pos c]; exact List.length_filterMap_le _ _
  · rw [if_neg c]; exact Nat.zero_le _
theorem kl_le {rs : List Rule} {so L : List Nat} {long : Nat} (h4 : L.length ≤ 4) : ∀ n, (kl rs so L long n).length ≤ 4 ^ n
  | 0 => Nat.le_refl _
  | n + 1 => by
    have ih := kl_le (rs := rs) (so := so) (long := long) h4 n
    have := flat_le (f := kids rs so L long) (k := 4) (l := kl rs so L long n) fun a _ => Nat.le_trans (kids_le a) h4
    show ((kl rs so L long n).flatMap (kids rs so L long)).length ≤ 4 ^ n * 4
    exact Nat.le_trans this (Nat.mul_le_mul_right 4 ih)
theorem all_le {rs : List Rule} {so L : List Nat} {long : Nat} (h4 : L.length ≤ 4) (hl : long ≤ 7) : (allB rs so L long).length ≤ 131072 := by
  have := flat_le (f := kl rs so L long) (k := 16384) (l := List.range (long + 1)) fun n hn => by
    have := List.mem_range.mp hn
    have h1 := kl_le (rs := rs) (so := so) (long := long) h4 n
    have h2 : 4 ^ n ≤ 4 ^ 7 := Nat.pow_le_pow_right (by decide) (by omega)
    exact Nat.le_trans h1 (Nat.le_trans h2 (by decide))
  rw [List.length_range] at this
  unfold allB
  have h3 : (long + 1) * 16384 ≤ 8 * 16384 := Nat.mul_le_mul_right _ (by omega)
  omega
theorem sw_T (a b : List Nat) : Txt.startswith (T a) (T b) = b.isPrefixOf a := by
  unfold Txt.startswith
  rw [PySem.StrLaws.subAt_eq, T_len, T_len, Bool.eq_iff_iff, Bool.and_eq_true, decide_eq_true_eq, List.isPrefixOf_iff_prefix, List.prefix_iff_eq_take]
  show 0 + b.length ≤ a.length ∧ ((a.drop 0).take b.length == b) = true ↔ _
  rw [beq_iff_eq, List.drop_zero]
  constructor
  · exact fun h => h.2.symm
  · intro h
    refine ⟨?_, h.symm⟩
    have := congrArg List.length h
    rw [List.length_take] at this
    omega
def bgV (x : Bg) : List V := [.str (T x.1), .str (T x.2.1), .str (T x.2.2)]
def BgsAt (H : Hp) (D : Addr) (xs : List Bg) : Prop := ∃ ts : List Addr, H D = some (.lst (ts.map V.ref)) ∧ Paired (fun t (x : Bg) => H t = some (.tup (bgV x))) ts xs
section
variable {P : Program} {w : World} {K : PySem.W.Frag} {mg : Str → Option Value} {base : Heap}
abbrev sCSo : Stmt := topS 36
theorem scCSo : FnScope ["sounds"] ["sounds"] (defScope sCSo) := ⟨rfl, rfl, rfl, by decide +kernel, rfl, by decide +kernel, by decide +kernel⟩
def spCSo : Sp := fun vs H Q _ => ∃ z : List Nat, vs = [.str (T z)] ∧ (∀ c ∈ z, 65 ≤ c ∧ c ≤ 90) ∧ z.length ≤ 36 ∧ ∀ (H' : Hp), Same H H' → Q .non H'
theorem ok_cSo {f : Addr} {fd : FuncData} (F : Fun K "check_sounds" "check_sounds" sCSo f fd) (DI : Df P w K mg base "is_sounds" ["sounds"] 2 spIsSo) : FnOk P w K mg base CX0 3 f fd ["sounds"] spCSo := by
  obtain ⟨fI, fdI, GI, kI, bI, mI⟩ := DI
  refine F.ok scCSo (fun vs H Q E h => ?_) (fun cdv A outer s H vs Q E hr h => ?_)
  · obtain ⟨z, rfl, _⟩ := h
    rfl
  · obtain ⟨z, rfl, h1, h2, q⟩ := h
    refine ⟨_, pss_one (ps_if (pt_not (pt_val (pe_call GI hr (by rfl) mI kI bI .nil pass0 (pa_cons (pv 0) pa_nil)))) (pss_one ps_never) pss_nil), ?_⟩
    refine ⟨_, rfl, z, rfl, by omega, fun H1 s1 => ?_⟩
    rw [isText_of (Nat.zero_le _) h2 fun c hc => mem_caps (h1 c hc)]
    exact ⟨true, rfl, iteF (q H1 s1)⟩
end
end Say
namespace Say
open PySem PySem.Spec PyProof.Rows L2
section
variable {P : Program} {w : World} {K : PySem.W.Frag} {mg : Str → Option Value} {base : Heap}
abbrev sLB : Stmt := topS 67
abbrev nLB : List Str := ["letters", "rules", "beginning", "sounds", "word", "tail", "sure", "longer", "letter", "longer_tail", "numbers", "told"]
theorem scLB : FnScope nLB ["letters", "rules", "beginning", "sounds"] (defScope sLB) := ⟨rfl, rfl, rfl, by decide +kernel, rfl, by decide +kernel, by decide +kernel⟩
def spLB : Sp := fun vs H Q _ => ∃ (L : List Nat) (R b : Addr) (rs : List Rule) (x : Bg) (so : List Nat), vs = [.str (T L), .ref R, .ref b, .str (T so)] ∧ RulesAt H R rs ∧ (∀ ρ ∈ rs, RlOk ρ) ∧ L.length ≤ 4 ∧ H b = some (.tup (bgV x)) ∧ BgOk so x ∧ x.1.length < 7 ∧ so.length ≤ 36 ∧
  ∀ (D : Addr) (H' : Hp), Same H H' → H D = none → BgsAt H' D (L.filterMap (lng rs so x)) → Q (.ref D) H'
theorem lng_next {rs : List Rule} {so L : List Nat} {x : Bg} {i : Nat} {c : Nat} (h : L[i]? = some c) : (L.take (i + 1)).filterMap (lng rs so x) = (L.take i).filterMap (lng rs so x) ++ (lng rs so x c).toList := by
  rw [List.take_add_one, h, List.filterMap_append]
  congr 1
theorem ok_LB {f : Addr} {fd : FuncData} (F : Fun K "longer_beginnings" "longer_beginnings" sLB f fd) (DTk : Df P w K mg base "taken" ["rules", "tail", "letter"] 3 spTk) (DSo : Df P w K mg base "sounds_of" ["rules", "numbers"] 1 spSou) :
    FnOk P w K mg base CX0 4 f fd ["letters", "rules", "beginning", "sounds"] spLB := by
  obtain ⟨fTk, fdTk, GTk, kTk, bTk, mTk⟩ := DTk
  obtain ⟨fSo, fdSo, GSo, kSo, bSo, mSo⟩ := DSo
  refine F.ok scLB (fun vs H Q E h => ?_) (fun cdv A outer s H vs Q E hr h => ?_)
  · obtain ⟨L, R, b, rs, x, so, rfl, _⟩ := h
    rfl
  · obtain ⟨L, R, b, rs, x, so, rfl, hR, ho, h4, hb, hx, h7, h36, q⟩ := h
    have hr3 := hr
    have hr1 : Room 1 _ := hr.mono (by decide)
    refine ⟨_, pss_cons (ps_asg (pv 2) (pg_tup (by rfl) (pgs_cons (pg_name (i := 4) scLB.nd rfl (.inl rfl)) (pgs_cons (pg_name (i := 5) scLB.nd rfl (.inl rfl)) (pgs_cons (pg_name (i := 6) scLB.nd rfl (.inl rfl)) pgs_nil)))))
      (pss_cons (ps_set (i := 7) scLB.nd rfl (.inl rfl) (pe_lst pa_nil))
      (pss_cons (ps_for PassesOwn.never rfl (pi_str (pv 0)) (pg_name (i := 8) scLB.nd rfl (.inl rfl)) (pss_cons (ps_asg (pe_call GTk hr3 (by rfl) mTk kTk bTk .nil pass0 (pa_cons (pv 1) (pa_cons (pv 5) (pa_cons (pv 8) pa_nil)))) (pg_tup (by rfl) (pgs_cons (pg_name (i := 9) scLB.nd rfl (.inl rfl)) (pgs_cons (pg_name (i := 10) scLB.nd rfl (.inl rfl)) pgs_nil))))
        (pss_cons (ps_set (i := 11) scLB.nd rfl (.inl rfl) (pe_op op_add_str (pv 6) (pe_call GSo hr1 (by rfl) mSo kSo bSo .nil pass0 (pa_cons (pv 1) (pa_cons (pv 10) pa_nil)))))
        (pss_one (ps_if (PW.pt (pw_and (pt_cmpR op_notN (pv 9) pe_non (nomark _)) (pw_and1 (pt_val (pe_m1 PySem.F.slot_str_startswith PySem.F.type_str_startswith mt_startswith (pv 3) (pv 11)))))) (pss_one (ps_expr (pe_bm PySem.F.plainAttrs_list PySem.F.slot_list_append PySem.F.type_list_append mt_append (pv 7) (pa_cons (pe_tup (pa_cons (pe_op op_add_str (pv 4) (pv 8)) (pa_cons (pv 9) (pa_cons (pv 11) pa_nil)))) pa_nil)))) pss_nil)))))
      (pss_one (ps_ret (pv 7))))), ?_⟩
    refine ⟨_, rfl, b, _, rfl, .inl (.inl hb), rfl, _, _, rfl, _, _, rfl, _, _, rfl, rfl, ?_⟩
    refine ⟨by decide, fun D hD => ?_⟩
    refine ⟨_, rfl, T L, rfl, for_it (walk_str) (fun i σ H4 => ∃ (v8 v9 v10 v11 : Option V), σ = [some (.str (T L)), some (.ref R), some (.ref b), some (.str (T so)), some (.str (T x.1)), some (.str (T x.2.1)), some (.str (T x.2.2)), some (.ref D), v8, v9, v10, v11] ∧ Same H H4 ∧ BgsAt H4 D ((L.take i).filterMap (lng rs so x)))
      ⟨_, _, _, _, rfl, same_new hD _, [], upd_same, .nil⟩ (fun _ _ _ _ _ => trivial) ?_ ?_⟩
    · rintro i y σ H0 H4 hi ⟨v8, v9, v10, v11, rfl, s4, ts, e1, e2⟩ ⟨rfl, c, hc, rfl⟩
      have hc := T_at hc
      refine ⟨_, rfl, _, rfl, _, rfl, R, rs, some x.2.1, c, rfl, hR.kt (.of s4), ho, (fun t e => by cases e; exact ⟨hx.t1, hx.t3⟩), fun u Dn H5 s5 hDn hu hDl => ?_⟩
      refine ⟨u, _, rfl, .inl (.inl hu), rfl, _, _, rfl, _, _, rfl, rfl, ?_⟩
      obtain ⟨hk, hl⟩ := tkB_ks (rs := rs) (t := x.2.1) (c := c)
      refine ⟨_, rfl, _, rfl, _, rfl, R, Dn, rs, _, rfl, hR.kt (.of (s4.trans s5)), ho, hDl, hk, by omega, fun H6 s6 => ?_⟩
      have hls := flat_len ho _ hk
      have hxs := hx.s
      have hxw := hx.w
      have hxt := hx.t3
      refine ⟨_, _, rfl, rfl, (by rw [T_len, T_len]; exact small (by omega)), ?_⟩
      rw [T_app]
      have s46 : Same H4 H6 := s5.trans s6
      have fin : ∀ zs : List Bg, zs = (L.take (i + 1)).filterMap (lng rs so x) → BgsAt H6 D zs → BgsAt H6 D ((L.take (i + 1)).filterMap (lng rs so x)) := fun zs e h => e ▸ h
      have en := lng_next (rs := rs) (so := so) (x := x) hc
      have eD := s46 _ _ e1
      have eP := paired_mono (fun t y h => s46 _ _ h) e2
      have lts := paired_len e2
      have lle : ((L.take i).filterMap (lng rs so x)).length ≤ 4 := Nat.le_trans (List.length_filterMap_le _ _) (by rw [List.length_take]; omega)
      cases ek : (tkM rs (some x.2.1) c).1 with
      | none =>
        have el : lng rs so x c = none := by unfold lng; rw [ek]
        rw [el] at en
        refine ⟨_, rfl, rfl, _, rfl, iteF (iteF ?_)⟩
        exact ⟨_, _, _, _, rfl, s4.trans s46, by rw [en]; exact ⟨ts, eD, by simpa using eP⟩⟩
      | some t' =>
        refine ⟨_, rfl, rfl, _, rfl, iteT ?_⟩
        refine ⟨_, rfl, ⟨_, rfl⟩, _, rfl, _, _, rfl, rfl, ?_⟩
        rw [sw_T]
        refine ⟨_, rfl, ite2 (fun cp => ?_) (fun cp => ?_)⟩
        · have el : lng rs so x c = some (x.1 ++ [c], t', x.2.2 ++ soL rs (tkM rs (some x.2.1) c).2) := by unfold lng; rw [ek]; simp only; rw [if_pos cp]
          rw [el] at en
          refine ⟨_, rfl, .inl ⟨rfl, _, .inl (.inl eD)⟩, _, rfl, _, rfl, _, _, rfl, rfl, (by rw [T_len]; exact small (by show x.1.length + 1 ≤ 16000000; omega)), _, rfl, _, rfl, (by show 3 ≤ sizeLine; decide), fun t ht => ?_⟩
          rw [T_app]
          have st := same_new ht (.tup [.str (T (x.1 ++ [c])), optT (some t'), .str (T (x.2.2 ++ soL rs (tkM rs (some x.2.1) c).2))])
          have eD' := st _ _ eD
          refine ⟨D, _, _, rfl, rfl, eD', ?_, _, _, _, _, rfl, ?_, ts ++ [t], ?_, ?_⟩
          · rw [List.length_map, lts]
            exact small1000 (by omega)
          · exact fun b u q => by
              rw [upd_ne (ne_of_none q hD)]
              exact st _ _ (s46 _ _ (s4 _ _ q))
          · rw [upd_same, List.map_append]
            rfl
          · rw [en]
            refine paired_app (paired_mono (fun t' y h => ?_) eP) (.cons ?_ .nil)
            · rw [upd_ne (ne_of h eD (by intro z; cases z))]
              exact st _ _ h
            · rw [upd_ne (ne_of_none eD ht).symm, upd_same]
              rfl
        · have el : lng rs so x c = none := by unfold lng; rw [ek]; simp only; rw [if_neg cp]
          rw [el] at en
          exact ⟨_, _, _, _, rfl, s4.trans s46, by rw [en]; exact ⟨ts, eD, by simpa using eP⟩⟩
    · rintro σ H4 ⟨v8, v9, v10, v11, rfl, s4, hB⟩
      refine ⟨_, rfl, q D H4 s4 hD ?_⟩
      have : L.take ((T L).cps.size) = L := by rw [T_size]; exact List.take_length
      rw [this] at hB
      exact hB
end
end Say
namespace Say
open PySem PySem.Spec PyProof.Rows L2
section
variable {P : Program} {w : World} {K : PySem.W.Frag} {mg : Str → Option Value} {base : Heap}
abbrev sRW : Stmt := topS 66
abbrev nRW : List Str := ["letters", "rules", "sounds", "long", "queue", "found", "at", "beginning", "word", "tail", "sure", "rest"]
theorem scRW : FnScope nRW ["letters", "rules", "sounds", "long"] (defScope sRW) := ⟨rfl, rfl, rfl, by decide +kernel, rfl, by decide +kernel, by decide +kernel⟩
def spRW : Sp := fun vs H Q _ => ∃ (L : List Nat) (R : Addr) (rs : List Rule) (so : List Nat) (long : Nat), vs = [.str (T L), .ref R, .str (T so), .int long] ∧ RulesAt H R rs ∧ (∀ ρ ∈ rs, RlOk ρ) ∧ L.length ≤ 4 ∧ so.length ≤ 36 ∧ long ≤ 7 ∧
  ∀ (D : Addr) (H' : Hp), Same H H' → H D = none → H' D = some (.lst (wv (ruledW rs so L long))) → Q (.ref D) H'
def fnd (rs : List Rule) (so L : List Nat) (long i : Nat) : List (List Nat) := (((allB rs so L long).take i).filter (okB rs so)).map (·.1)
theorem fnd_next {rs : List Rule} {so L : List Nat} {long i : Nat} {x : Bg} (h : (allB rs so L long)[i]? = some x) : fnd rs so L long (i + 1) = fnd rs so L long i ++ (if okB rs so x = true then [x.1] else []) := by
  unfold fnd
  rw [List.take_add_one, h, List.filter_append, List.map_append]
  congr 1
  show List.map (·.1) (List.filter (okB rs so) [x]) = _
  by_cases c : okB rs so x = true
  · rw [if_pos c, List.filter_cons_of_pos c]; rfl
  · rw [if_neg c, List.filter_cons_of_neg c]; rfl
theorem ok_RW {f : Addr} {fd : FuncData} (F : Fun K "ruled_writings" "ruled_writings" sRW f fd) (B : Bn mg) (C : Cn mg) (DEn : Df P w K mg base "ending_sounds" ["rules", "tail"] 5 spEnS) (DLb : Df P w K mg base "longer_beginnings" ["letters", "rules", "beginning", "sounds"] 4 spLB) :
    FnOk P w K mg base CX0 6 f fd ["letters", "rules", "sounds", "long"] spRW := by
  obtain ⟨fEn, fdEn, GEn, kEn, bEn, mEn⟩ := DEn
  obtain ⟨fLb, fdLb, GLb, kLb, bLb, mLb⟩ := DLb
  obtain ⟨tE, mG⟩ := C.edge
  refine F.ok scRW (fun vs H Q E h => ?_) (fun cdv A outer s H vs Q E hr h => ?_)
  · obtain ⟨L, R, rs, so, long, rfl, _⟩ := h
    rfl
  · obtain ⟨L, R, rs, so, long, rfl, hR, ho, h4, h36, h7, q⟩ := h
    have hr5 := hr
    have hr4 : Room 4 _ := hr.mono (by decide)
    refine ⟨_, pss_cons (ps_set (i := 4) scRW.nd rfl (.inl rfl) (pe_lst (pa_cons (pe_tup (pa_cons pe_str (pa_cons (pe_glob (v := .str "#") rfl mG ⟨_, rfl⟩) (pa_cons pe_str pa_nil)))) pa_nil)))
      (pss_cons (ps_set (i := 5) scRW.nd rfl (.inl rfl) (pe_lst pa_nil))
      (pss_cons (ps_set (i := 6) scRW.nd rfl (.inl rfl) pe_int)
      (pss_cons (ps_while PassesOwn.never (pt_cmpR op_lt (pv 6) (pe_callB call_len (by rfl) B.len PySem.boot_len (pa_cons (pv 4) pa_nil)) (nomark _)) (pss_cons (ps_set (i := 7) scRW.nd rfl (.inl rfl) (pe_ix ix_list (pv 4) (pv 6) (fun _ _ => rfl)))
        (pss_cons (ps_aug (i := 6) scRW.nd rfl (.inl rfl) pe_int ip_add)
        (pss_cons (ps_asg (pv 7) (pg_tup (by rfl) (pgs_cons (pg_name (i := 8) scRW.nd rfl (.inl rfl)) (pgs_cons (pg_name (i := 9) scRW.nd rfl (.inl rfl)) (pgs_cons (pg_name (i := 10) scRW.nd rfl (.inl rfl)) pgs_nil)))))
        (pss_cons (ps_set (i := 11) scRW.nd rfl (.inl rfl) (pe_call GEn hr5 (by rfl) mEn kEn bEn .nil pass0 (pa_cons (pv 1) (pa_cons (pv 9) pa_nil))))
        (pss_cons (ps_if (PW.pt (pw_and (pt_cmpR op_notN (pv 11) pe_non (nomark _)) (pw_and1 (pt_cmpR op_eq (pe_op op_add_str (pv 10) (pv 11)) (pv 2) (nomark _))))) (pss_one (ps_expr (pe_bm PySem.F.plainAttrs_list PySem.F.slot_list_append PySem.F.type_list_append mt_append (pv 5) (pa_cons (pv 8) pa_nil)))) pss_nil)
        (pss_one (ps_if (pt_cmpR op_lt (pe_callB call_len_str (by rfl) B.len PySem.boot_len (pa_cons (pv 8) pa_nil)) (pv 3) (nomark _)) (pss_one (ps_expr (pe_bm PySem.F.plainAttrs_list PySem.F.slot_list_extend PySem.F.type_list_extend mt_extend (pv 4) (pa_cons (pe_call GLb hr4 (by rfl) mLb kLb bLb .nil pass0 (pa_cons (pv 0) (pa_cons (pv 1) (pa_cons (pv 7) (pa_cons (pv 2) pa_nil))))) pa_nil)))) pss_nil))))))))
      (pss_one (ps_ret (pv 5)))))), ?_⟩
    have nl : ∀ i, (que rs so L long i).length ≤ 131072 := fun i => by
      have e := que_pre (rs := rs) (so := so) (L := L) (long := long) i
      have := congrArg List.length e
      rw [List.length_append] at this
      have := all_le (rs := rs) (so := so) (L := L) (long := long) h4 h7
      omega
    have fl : ∀ i, (fnd rs so L long i).length ≤ 131072 := fun i => by
      unfold fnd
      rw [List.length_map]
      have := all_le (rs := rs) (so := so) (L := L) (long := long) h4 h7
      have h1 : (((allB rs so L long).take i).filter (okB rs so)).length ≤ ((allB rs so L long).take i).length := List.length_filter_le _ _
      rw [List.length_take] at h1
      omega
    refine ⟨(by show 3 ≤ sizeLine; decide), fun b0 hb0 => ⟨(by show 1 ≤ sizeLine; decide), fun Q0 hQ0' => ⟨(by show 0 ≤ sizeLine; decide), fun F0 hF0' => ?_⟩⟩⟩
    have sa := same_new hb0 (.tup (bgV root))
    have sb := same_new hQ0' (.lst [V.ref b0])
    have sc := same_new hF0' (.lst [])
    have hQ0 : H Q0 = none := sa.free hQ0'
    have hF0 : H F0 = none := (sa.trans sb).free hF0'
    have hq1 := sc _ _ (upd_same (H := upd H b0 (.tup (bgV root))) (a := Q0) (o := .lst [V.ref b0]))
    have nQF : Q0 ≠ F0 := ne_of_none (upd_same (H := upd H b0 (.tup (bgV root))) (a := Q0) (o := .lst [V.ref b0])) hF0'
    refine ⟨fun m σ H2 => ∃ (i : Nat) (v7 v8 v9 v10 v11 : Option V), σ = [some (.str (T L)), some (.ref R), some (.str (T so)), some (.int long), some (.ref Q0), some (.ref F0), some (.int i), v7, v8, v9, v10, v11] ∧ (allB rs so L long).length < i + m ∧ Same H H2 ∧ BgsAt H2 Q0 (que rs so L long i) ∧ H2 F0 = some (.lst (wv (fnd rs so L long i))), ⟨(allB rs so L long).length + 1, 0, _, _, _, _, _, rfl, by omega, (sa.trans sb).trans sc, ⟨[b0], hq1, ?_⟩, upd_same⟩, fun m σ H2 hW => ?_⟩
    · exact .cons (sc _ _ (sb _ _ upd_same)) .nil
    obtain ⟨i, v7, v8, v9, v10, v11, rfl, hm, s2, ⟨ts, hq, hp⟩, hf⟩ := hW
    have lts := paired_len hp
    refine ⟨_, rfl, _, rfl, _, _, rfl, .inl ⟨_, .inl (.inl hq), rfl⟩, _, _, rfl, rfl, _, rfl, ite2 (fun c => ?_) (fun c => ?_)⟩
    · have c' : (i : Int) < (((ts.map V.ref).length : Nat) : Int) := of_decide_eq_true c
      rw [List.length_map, lts] at c'
      have hi : i < (que rs so L long i).length := by omega
      obtain ⟨x, hx1, hx2⟩ := que_at hi
      obtain ⟨a, ha, hat⟩ := paired_at' hp hx2
      have hia : i < (allB rs so L long).length := (List.getElem?_eq_some_iff.mp hx1).1
      have hx := all_bg ho h7 (List.mem_of_getElem? hx1)
      have nx := que_next hx1
      have fx := fnd_next hx1
      have xw := hx.w
      have xs := hx.s
      have xt := hx.t3
      obtain ⟨m', rfl⟩ : ∃ m', m = m' + 1 := ⟨m - 1, by omega⟩
      refine ⟨fun σ' H' => ∃ (i : Nat) (v7 v8 v9 v10 v11 : Option V), σ' = [some (.str (T L)), some (.ref R), some (.str (T so)), some (.int long), some (.ref Q0), some (.ref F0), some (.int i), v7, v8, v9, v10, v11] ∧ (allB rs so L long).length < i + m' ∧ Same H H' ∧ BgsAt H' Q0 (que rs so L long i) ∧ H' F0 = some (.lst (wv (fnd rs so L long i))), fun σ' H' h => ⟨m', Nat.lt_succ_self _, h⟩, ?_⟩
      refine ⟨_, rfl, _, rfl, Q0, _, (i : Int), .ref a, rfl, rfl, .inl (.inl hq), atI_nat (by rw [List.getElem?_map, ha]; rfl), ?_⟩
      refine ⟨_, rfl, _, _, rfl, rfl, ?_⟩
      refine ⟨_, rfl, a, _, rfl, .inl (.inl hat), rfl, _, _, rfl, _, _, rfl, _, _, rfl, rfl, ?_⟩
      refine ⟨_, rfl, _, rfl, R, rs, some x.2.1, rfl, hR.kt (.of s2), ho, (fun t e => by cases e; exact ⟨hx.t1, by omega⟩), fun H3 s3 => ?_⟩
      have a3 := s3 _ _ hat
      have q3 := s3 _ _ hq
      have f3 := s3 _ _ hf
      have p3 := paired_mono (fun t y h => s3 _ _ h) hp
      have s23 := s2.trans s3
      cases er : ensM rs (some x.2.1) with
      | none =>
        have ok0 : okB rs so x = false := by unfold okB; rw [er]
        rw [ok0, if_neg (by decide), List.append_nil] at fx
        rw [← fx] at f3
        obtain ⟨H5, s5, b5, f5, a5, e5⟩ : ∃ H5, Same H H5 ∧ BgsAt H5 Q0 (que rs so L long i) ∧ H5 F0 = some (.lst (wv (fnd rs so L long (i + 1)))) ∧ H5 a = some (.tup (bgV x)) ∧ H5 = H3 := ⟨H3, s23, ⟨ts, q3, p3⟩, f3, a3, rfl⟩
        subst e5
        refine ⟨_, rfl, rfl, _, rfl, iteF (iteF ?_)⟩
        refine ⟨_, rfl, _, rfl, (by rw [T_len]; exact small (by omega)), _, rfl, _, _, rfl, rfl, _, rfl, ite2 (fun cl => ?_) (fun cl => ?_)⟩
        · have cl' : ((T x.1).length : Int) < (long : Int) := of_decide_eq_true cl
          rw [T_len] at cl'
          have ek : kids rs so L long x = L.filterMap (lng rs so x) := by unfold kids; rw [if_pos (by omega)]
          rw [ek] at nx
          obtain ⟨ts5, q51, q52⟩ := b5
          refine ⟨_, rfl, .inl ⟨rfl, _, .inl (.inl q51)⟩, _, rfl, _, rfl, _, rfl, _, rfl, L, R, a, rs, x, so, rfl, hR.kt (.of s5), ho, h4, a5, hx, by omega, h36, fun D6 H6 s6 hD6 hB6 => ?_⟩
          obtain ⟨ts6, q61, q62⟩ := hB6
          have l5 := paired_len q52
          have l6 := paired_len q62
          have hle := nl (i + 1)
          rw [nx, List.length_append] at hle
          have e6 := s6 _ _ q51
          refine ⟨Q0, D6, _, _, rfl, rfl, e6, q61, by rw [List.length_map, List.length_map, l5, l6]; exact Nat.le_trans hle (by decide), ?_⟩
          refine ⟨i + 1, _, _, _, _, _, rfl, by omega, fun b u q => ?_, ⟨ts5 ++ ts6, ?_, ?_⟩, ?_⟩
          · rw [upd_ne (ne_of_none q hQ0)]
            exact s6 _ _ (s5 _ _ q)
          · rw [upd_same, List.map_append]
          · rw [nx]
            refine paired_app (paired_mono (fun t y h => ?_) q52) (paired_mono (fun t y h => ?_) q62)
            · rw [upd_ne (ne_of (s6 _ _ h) e6 (by intro z; cases z))]
              exact s6 _ _ h
            · rw [upd_ne (ne_of h e6 (by intro z; cases z))]
              exact h
          · rw [upd_ne nQF.symm]
            exact s6 _ _ f5
        · have cl' := of_decide_eq_false (Bool.eq_false_iff.mpr cl)
          rw [T_len] at cl'
          have ek : kids rs so L long x = [] := by unfold kids; rw [if_neg (by omega)]
          rw [ek, List.append_nil] at nx
          exact ⟨i + 1, _, _, _, _, _, rfl, by omega, s5, by rw [nx]; exact b5, f5⟩
      | some r =>
        have hlr : r.length ≤ 243 := by
          unfold ensM at er
          obtain ⟨ks, e1, e2⟩ := Option.map_eq_some_iff.mp er
          obtain ⟨k1, k2⟩ := end_ks e1 (fun t e => by cases e; exact ⟨hx.t1, by omega⟩)
          have := flat_len ho ks k1
          rw [← e2]
          omega
        refine ⟨_, rfl, rfl, _, rfl, iteT ?_⟩
        refine ⟨_, rfl, _, rfl, _, _, rfl, rfl, (by rw [T_len, T_len]; exact small (by omega)), _, rfl, rfl, ?_⟩
        rw [T_app, eqT]
        refine ⟨_, rfl, ite2 (fun ce => ?_) (fun ce => ?_)⟩
        · have ok1 : okB rs so x = true := by unfold okB; rw [er]; exact ce
          rw [if_pos ok1] at fx
          have eF : wv (fnd rs so L long i) ++ [V.str (T x.1)] = wv (fnd rs so L long (i + 1)) := by rw [fx]; unfold wv; rw [List.map_append]; rfl
          refine ⟨_, rfl, .inl ⟨rfl, _, .inl (.inl f3)⟩, _, rfl, F0, _, _, rfl, rfl, f3, (by unfold wv; rw [List.length_map]; exact Nat.lt_of_le_of_lt (fl i) (by decide)), ?_⟩
          rw [eF]
          obtain ⟨H5, s5, b5, f5, a5, e5⟩ : ∃ H5, Same H H5 ∧ BgsAt H5 Q0 (que rs so L long i) ∧ H5 F0 = some (.lst (wv (fnd rs so L long (i + 1)))) ∧ H5 a = some (.tup (bgV x)) ∧ H5 = upd H3 F0 (.lst (wv (fnd rs so L long (i + 1)))) := by
            refine ⟨_, fun b u q => ?_, ⟨ts, ?_, paired_mono (fun t y h => ?_) p3⟩, upd_same, ?_, rfl⟩
            · rw [upd_ne (ne_of_none q hF0)]; exact s23 _ _ q
            · rw [upd_ne nQF]; exact q3
            · rw [upd_ne (ne_of h f3 (by intro z; cases z))]; exact h
            · rw [upd_ne (ne_of a3 f3 (by intro z; cases z))]; exact a3
          rw [← e5]
          refine ⟨_, rfl, _, rfl, (by rw [T_len]; exact small (by omega)), _, rfl, _, _, rfl, rfl, _, rfl, ite2 (fun cl => ?_) (fun cl => ?_)⟩
          · have cl' : ((T x.1).length : Int) < (long : Int) := of_decide_eq_true cl
            rw [T_len] at cl'
            have ek : kids rs so L long x = L.filterMap (lng rs so x) := by unfold kids; rw [if_pos (by omega)]
            rw [ek] at nx
            obtain ⟨ts5, q51, q52⟩ := b5
            refine ⟨_, rfl, .inl ⟨rfl, _, .inl (.inl q51)⟩, _, rfl, _, rfl, _, rfl, _, rfl, L, R, a, rs, x, so, rfl, hR.kt (.of s5), ho, h4, a5, hx, by omega, h36, fun D6 H6 s6 hD6 hB6 => ?_⟩
            obtain ⟨ts6, q61, q62⟩ := hB6
            have l5 := paired_len q52
            have l6 := paired_len q62
            have hle := nl (i + 1)
            rw [nx, List.length_append] at hle
            have e6 := s6 _ _ q51
            refine ⟨Q0, D6, _, _, rfl, rfl, e6, q61, by rw [List.length_map, List.length_map, l5, l6]; exact Nat.le_trans hle (by decide), ?_⟩
            refine ⟨i + 1, _, _, _, _, _, rfl, by omega, fun b u q => ?_, ⟨ts5 ++ ts6, ?_, ?_⟩, ?_⟩
            · rw [upd_ne (ne_of_none q hQ0)]
              exact s6 _ _ (s5 _ _ q)
            · rw [upd_same, List.map_append]
            · rw [nx]
              refine paired_app (paired_mono (fun t y h => ?_) q52) (paired_mono (fun t y h => ?_) q62)
              · rw [upd_ne (ne_of (s6 _ _ h) e6 (by intro z; cases z))]
                exact s6 _ _ h
              · rw [upd_ne (ne_of h e6 (by intro z; cases z))]
                exact h
            · rw [upd_ne nQF.symm]
              exact s6 _ _ f5
          · have cl' := of_decide_eq_false (Bool.eq_false_iff.mpr cl)
            rw [T_len] at cl'
            have ek : kids rs so L long x = [] := by unfold kids; rw [if_neg (by omega)]
            rw [ek, List.append_nil] at nx
            exact ⟨i + 1, _, _, _, _, _, rfl, by omega, s5, by rw [nx]; exact b5, f5⟩
        · have ok0 : okB rs so x = false := by unfold okB; rw [er]; exact Bool.eq_false_iff.mpr ce
          rw [ok0, if_neg (by decide), List.append_nil] at fx
          rw [← fx] at f3
          obtain ⟨H5, s5, b5, f5, a5, e5⟩ : ∃ H5, Same H H5 ∧ BgsAt H5 Q0 (que rs so L long i) ∧ H5 F0 = some (.lst (wv (fnd rs so L long (i + 1)))) ∧ H5 a = some (.tup (bgV x)) ∧ H5 = H3 := ⟨H3, s23, ⟨ts, q3, p3⟩, f3, a3, rfl⟩
          subst e5
          refine ⟨_, rfl, _, rfl, (by rw [T_len]; exact small (by omega)), _, rfl, _, _, rfl, rfl, _, rfl, ite2 (fun cl => ?_) (fun cl => ?_)⟩
          · have cl' : ((T x.1).length : Int) < (long : Int) := of_decide_eq_true cl
            rw [T_len] at cl'
            have ek : kids rs so L long x = L.filterMap (lng rs so x) := by unfold kids; rw [if_pos (by omega)]
            rw [ek] at nx
            obtain ⟨ts5, q51, q52⟩ := b5
            refine ⟨_, rfl, .inl ⟨rfl, _, .inl (.inl q51)⟩, _, rfl, _, rfl, _, rfl, _, rfl, L, R, a, rs, x, so, rfl, hR.kt (.of s5), ho, h4, a5, hx, by omega, h36, fun D6 H6 s6 hD6 hB6 => ?_⟩
            obtain ⟨ts6, q61, q62⟩ := hB6
            have l5 := paired_len q52
            have l6 := paired_len q62
            have hle := nl (i + 1)
            rw [nx, List.length_append] at hle
            have e6 := s6 _ _ q51
            refine ⟨Q0, D6, _, _, rfl, rfl, e6, q61, by rw [List.length_map, List.length_map, l5, l6]; exact Nat.le_trans hle (by decide), ?_⟩
            refine ⟨i + 1, _, _, _, _, _, rfl, by omega, fun b u q => ?_, ⟨ts5 ++ ts6, ?_, ?_⟩, ?_⟩
            · rw [upd_ne (ne_of_none q hQ0)]
              exact s6 _ _ (s5 _ _ q)
            · rw [upd_same, List.map_append]
            · rw [nx]
              refine paired_app (paired_mono (fun t y h => ?_) q52) (paired_mono (fun t y h => ?_) q62)
              · rw [upd_ne (ne_of (s6 _ _ h) e6 (by intro z; cases z))]
                exact s6 _ _ h
              · rw [upd_ne (ne_of h e6 (by intro z; cases z))]
                exact h
            · rw [upd_ne nQF.symm]
              exact s6 _ _ f5
          · have cl' := of_decide_eq_false (Bool.eq_false_iff.mpr cl)
            rw [T_len] at cl'
            have ek : kids rs so L long x = [] := by unfold kids; rw [if_neg (by omega)]
            rw [ek, List.append_nil] at nx
            exact ⟨i + 1, _, _, _, _, _, rfl, by omega, s5, by rw [nx]; exact b5, f5⟩
    · have c' := of_decide_eq_false (Bool.eq_false_iff.mpr c)
      rw [List.length_map, lts] at c'
      have et := que_end (rs := rs) (so := so) (L := L) (long := long) (i := i) (by omega)
      refine ⟨_, rfl, q F0 H2 s2 hF0 ?_⟩
      rw [hf]
      unfold fnd ruledW
      rw [et, all_ruled ho]
end
end Say
namespace Say
open PySem PySem.Spec PyProof.Rows L2
theorem merge_any : ∀ (more acc : List (Key × V)) (k : Key), (valV (mergeK acc more) k).isSome = ((valV acc k).isSome || more.any fun kv => decide (kv.1 = k))
  | [], acc, k => by
    show (valV acc k).isSome = _
    rw [List.any_nil, Bool.or_false]
  | p :: r, acc, k => by
    show (valV (mergeK (putK acc p.1 p.2) r) k).isSome = _
    rw [merge_any r, valV_put, List.any_cons]
    by_cases e : k = p.1
    · rw [if_pos e, decide_eq_true e.symm]
      simp
    · rw [if_neg e, decide_eq_false (fun z => e z.symm), Bool.false_or]
theorem exc_any (es : List Exc) (wd : List Nat) : (valV (mergeK [] (es.map ent)) (Sum.inr (T wd))).isSome = isExc es wd := by
  rw [merge_any, valV_nil]
  simp only [Option.isSome_none, Bool.false_or]
  unfold isExc
  rw [List.any_map]
  congr 1
  funext e
  exact decide_eq_decide.mpr key_eq
theorem paired_ent {K : PySem.W.Frag} {H : Hp} : ∀ {ts : List Addr} {es : List Exc}, Paired (fun t (e : Exc) => H t = some (.tup [.str (T e.1), .str (T e.2)])) ts es → Paired (fun p (kv : Key × V) => SqT K H p [kV kv.1, kv.2]) ts (es.map ent)
  | _, _, .nil => .nil
  | _, _, .cons h t => .cons (.inl (.inl h)) (paired_ent t)
theorem wv_app (a b : List (List Nat)) : wv a ++ wv b = wv (a ++ b) := by unfold wv; rw [List.map_append]
theorem take_filter_next {α : Type} {l : List α} {i : Nat} {x : α} (h : l[i]? = some x) (p : α → Bool) : (l.take (i + 1)).filter p = (l.take i).filter p ++ (if p x = true then [x] else []) := by
  rw [List.take_add_one, h, List.filter_append]
  congr 1
  show List.filter p [x] = _
  by_cases c : p x = true
  · rw [if_pos c, List.filter_cons_of_pos c]; rfl
  · rw [if_neg c, List.filter_cons_of_neg c]; rfl
section
variable {P : Program} {w : World} {K : PySem.W.Frag} {mg : Str → Option Value} {base : Heap}
abbrev sWr : Stmt := topS 65
abbrev nWr : List Str := ["book", "sounds", "long", "letters", "rules", "exceptions", "excepted", "found", "word", "told"]
abbrev psWr : List Str := ["book", "sounds", "long"]
theorem scWr : FnScope nWr psWr (defScope sWr) := ⟨rfl, rfl, rfl, by decide +kernel, rfl, by decide +kernel, by decide +kernel⟩
def spWr : Sp := fun vs H Q _ => ∃ (b : Addr) (L : List Nat) (rs : List Rule) (es : List Exc) (so : List Nat) (long : Nat), vs = [.ref b, .str (T so), .int long] ∧ BookAt H b L rs es ∧ BookOk L rs es ∧ (∀ c ∈ so, 65 ≤ c ∧ c ≤ 90) ∧ so.length ≤ 36 ∧ long ≤ 7 ∧
  ∀ (D : Addr) (H' : Hp), Same H H' → H D = none → H' D = some (.lst (wv (writM rs es so L long))) → Q (.ref D) H'
theorem ok_wr {f : Addr} {fd : FuncData} (F : FunD K "writings" "writings" (defArgs sWr) (defBody sWr) (defScope sWr) [] [("long", .int 5)] f fd) (B : Bn mg) (hdict : mg "dict" = none) (c7 : KI mg "LONGEST_WRITING" 7)
    (DCh : Df P w K mg base "checked_book" ["book"] 5 spCh) (DCs : Df P w K mg base "check_sounds" ["sounds"] 3 spCSo) (DCn : Df P w K mg base "is_count" ["number", "most"] 1 spCnt)
    (DRw : Df P w K mg base "ruled_writings" ["letters", "rules", "sounds", "long"] 6 spRW) : FnOk P w K mg base CX0 7 f fd psWr spWr := by
  obtain ⟨fCh, fdCh, GCh, kCh, bCh, mCh⟩ := DCh
  obtain ⟨fCs, fdCs, GCs, kCs, bCs, mCs⟩ := DCs
  obtain ⟨fCn, fdCn, GCn, kCn, bCn, mCn⟩ := DCn
  obtain ⟨fRw, fdRw, GRw, kRw, bRw, mRw⟩ := DRw
  obtain ⟨t7, m7⟩ := c7
  refine F.ok scWr (fun vs H Q E h => ?_) (fun cdv A outer s H vs Q E hr h => ?_)
  · obtain ⟨b, L, rs, es, so, long, rfl, _⟩ := h
    rfl
  · obtain ⟨b, L, rs, es, so, long, rfl, hB, ho, hc, h36, h7, q⟩ := h
    have hu := hu_of hr
    have hu64 : (A.deeper (envOfC "writings" (defScope sWr) s.heap.objs.size f cdv)).units + 64 < cLine := by have := hr.un; omega
    refine ⟨_, pss_cons (ps_asg (pe_call GCh (hr.mono (by decide)) (by rfl) mCh kCh bCh .nil pass0 (pa_cons (pv 0) pa_nil)) (pg_tup (by rfl) (pgs_cons (pg_name (i := 3) scWr.nd rfl (.inl rfl)) (pgs_cons (pg_name (i := 4) scWr.nd rfl (.inl rfl)) (pgs_cons (pg_name (i := 5) scWr.nd rfl (.inl rfl)) pgs_nil)))))
      (pss_cons (ps_expr (pe_call GCs (hr.mono (by decide)) (by rfl) mCs kCs bCs .nil pass0 (pa_cons (pv 1) pa_nil)))
      (pss_cons (ps_if (pt_not (pt_val (pe_call GCn (hr.mono (by decide)) (by rfl) mCn kCn bCn .nil pass0 (pa_cons (pv 2) (pa_cons (pe_glob (v := .int 7) rfl m7 ⟨_, rfl⟩) pa_nil))))) (pss_one ps_never) pss_nil)
      (pss_cons (ps_set (i := 6) scWr.nd rfl (.inr rfl) (pe_callTy (call_dictT rfl) (by rfl) hdict (by decide +kernel) (pa_cons (pv 5) pa_nil)))
      (pss_cons (ps_setLc (i := 7) (own := [("word", 8)]) (g := gName 8) (te := tVar 8) (tt := tB (tDNotIn (tVar 8) (tVar 6))) rfl scWr.nd rfl rfl (sw_true rfl rfl rfl (by decide +kernel))
          (pi_list (pe_call GRw (hr.mono (by decide)) (by rfl) mRw kRw bRw .nil pass0 (pa_cons (pv 3) (pa_cons (pv 4) (pa_cons (pv 1) (pa_cons (pv 2) pa_nil))))))
          (blkOk_by (N := nWr) (sc := defScope sWr) (by decide +kernel)) (fun _ _ _ _ _ => pg_name (i := 8) scWr.nd rfl (.inl rfl))
          (fun _ _ _ _ _ => pts_one (pt_cmp (pc_dnotin hu (pv 8) (pv 6)))) (fun _ _ _ _ _ => pv 8))
      (pss_cons (ps_expr (pe_bm PySem.F.plainAttrs_list PySem.F.slot_list_extend PySem.F.type_list_extend mt_extend (pv 7) (pa_cons (pe_lc (own := [("word", 8), ("told", 9)]) (g := gTup K 2 (gCons (gName 8) (gCons (gName 9) gNil))) (te := tVar 8) rfl scWr.nd
          (pi_tup (pv 5)) (blkOk_by (N := nWr) (sc := defScope sWr) (by decide +kernel)) (fun _ _ _ _ _ => pg_tup (by rfl) (pgs_cons (pg_name (i := 8) scWr.nd rfl (.inl rfl)) (pgs_cons (pg_name (i := 9) scWr.nd rfl (.inl rfl)) pgs_nil)))
          (fun _ _ _ _ _ => pts_one (PW.pt (pw_and (pt_cmpR op_eq (pv 9) (pv 1) (nomark _)) (pw_and1 (pt_cmpR op_le (pe_callB call_len_str (by rfl) B.len PySem.boot_len (pa_cons (pv 8) pa_nil)) (pv 2) (nomark _)))))) (fun _ _ _ _ _ => pv 8)) pa_nil)))
      (pss_one (ps_ret (pe_sortLen hu64 (by rfl) B.srt (by rfl) B.len (pa_cons (pe_callB (cr_sortTA hu64) (by rfl) B.srt (by decide +kernel) (pa_cons (pv 7) pa_nil)) pa_nil))))))))), ?_⟩
    refine ⟨_, rfl, b, L, rs, es, rfl, hB, ho, fun H1 s1 => ?_⟩
    obtain ⟨R, X, hb, hR, hX⟩ := hB.kt (.of s1)
    obtain ⟨ts, hXl, hXp⟩ := id hX
    refine ⟨b, _, rfl, .inl (.inl hb), rfl, _, _, rfl, _, _, rfl, _, _, rfl, rfl, ?_⟩
    refine ⟨_, rfl, so, rfl, hc, h36, fun H2 s2 => ?_⟩
    refine ⟨_, rfl, long, 7, rfl, h7, true, rfl, iteF ?_⟩
    have hXl2 := hXl.kt (.of s2)
    have hXp2 := paired_mono (fun t e h => s2 _ _ h) hXp
    refine ⟨_, rfl, X, ts, es.map ent, rfl, hXl2, paired_ent hXp2, fun p hp => ?_⟩
    have sp := same_new hp (.dK (mergeK [] (es.map ent)))
    have hp1 : (upd H2 p (.dK (mergeK [] (es.map ent)))) p = some (.dK (mergeK [] (es.map ent))) := upd_same
    generalize upd H2 p (.dK (mergeK [] (es.map ent))) = H3 at sp hp1 ⊢
    have s13 := s2.trans sp
    have s03 := s1.trans s13
    refine ⟨_, rfl, _, rfl, _, rfl, _, rfl, L, R, rs, so, long, rfl, hR.kt (.of s13), ho.rls, ho.lt.l4, h36, h7, fun D1 H4 s4 hD1 hL1 => ?_⟩
    have rl : (ruledW rs so L long).length ≤ 131072 := by
      unfold ruledW
      rw [← all_ruled ho.rls, List.length_map]
      exact Nat.le_trans (List.length_filter_le _ _) (all_le ho.lt.l4 h7)
    refine ⟨D1, rfl, ⟨_, .inl (.inl hL1)⟩, fun D hD => ?_⟩
    have s04 := s03.trans s4
    have hp4 := s4 _ _ hp1
    refine lc_it (walk_list (xs := wv (ruledW rs so L long))) (fun i H5 => H5 D = some (.lst (wv (((ruledW rs so L long).take i).filter fun x => !isExc es x))) ∧ Same H4 H5) ?_ (fun i H5 _ h => .inl (.inl (h.2 _ _ hL1))) ?_ ?_
    · exact ⟨upd_same, same_new hD _⟩
    · rintro i x H5 H5' hi ⟨e1, e2⟩ ⟨rfl, hx⟩
      unfold wv at hx
      rw [List.getElem?_map] at hx
      obtain ⟨wd, hw, e⟩ := Option.map_eq_some_iff.mp hx
      subst e
      have nx := take_filter_next hw (fun x => !isExc es x)
      have lle : (((ruledW rs so L long).take i).filter fun x => !isExc es x).length ≤ 131072 := by
        have := List.length_filter_le (fun x => !isExc es x) ((ruledW rs so L long).take i)
        rw [List.length_take] at this
        omega
      refine ⟨rfl, ?_⟩
      refine ⟨_, rfl, _, rfl, p, _, rfl, DGet.k (k := Sum.inr (T wd)) (e2 _ _ hp4), _, rfl, ?_⟩
      rw [exc_any]
      refine ite2 (fun c => ?_) (fun c => ?_)
      · rw [if_pos c] at nx
        refine ⟨_, rfl, _, e1, ?_, ?_, ?_⟩
        · unfold wv
          rw [List.length_map]
          exact Nat.lt_of_le_of_lt lle (by decide)
        · rw [upd_same, nx, ← wv_app]
          rfl
        · exact fun b u q => by
            rw [upd_ne (ne_of_none q hD)]
            exact e2 b u q
      · rw [if_neg c, List.append_nil] at nx
        exact ⟨by rw [nx]; exact e1, e2⟩
    · rintro H5 ⟨e1, e2⟩
      have el : (wv (ruledW rs so L long)).length = (ruledW rs so L long).length := by unfold wv; rw [List.length_map]
      rw [el, List.take_length] at e1
      have s15 := s13.trans (s4.trans e2)
      have hX5 := hXl.kt (.of s15)
      have hD0 : H D = none := s04.free hD
      refine ⟨_, rfl, .inl ⟨rfl, _, .inl (.inl e1)⟩, _, rfl, X, rfl, ⟨_, .inl hX5.rd⟩, fun D2 hD2 => ?_⟩
      refine lc_it (walk_tup (xs := ts.map V.ref)) (fun i H6 => H6 D2 = some (.lst (wv (((es.take i).filter fun e => decide (e.2 = so) && decide (e.1.length ≤ long)).map (·.1)))) ∧ Same H5 H6) ?_ (fun i H6 _ h => .inl (hX5.kt (.of h.2)).rd) ?_ ?_
      · exact ⟨upd_same, same_new hD2 _⟩
      · rintro i x H0 H6 hi ⟨g1, g2⟩ ⟨rfl, hx⟩
        rw [List.getElem?_map] at hx
        obtain ⟨a, ha, e⟩ := Option.map_eq_some_iff.mp hx
        subst e
        obtain ⟨e, he, hat⟩ := paired_at hXp ha
        have hat6 := g2 _ _ (s15 _ _ hat)
        have nx := take_filter_next he (fun e => decide (e.2 = so) && decide (e.1.length ≤ long))
        have h8 := (ho.ex e (List.mem_of_getElem? he)).w8
        have lle : ((es.take i).filter fun e => decide (e.2 = so) && decide (e.1.length ≤ long)).length ≤ 8 := by
          have := List.length_filter_le (fun e : Exc => decide (e.2 = so) && decide (e.1.length ≤ long)) (es.take i)
          rw [List.length_take] at this
          have := ho.e8
          omega
        have no : (decide (e.2 = so) && decide (e.1.length ≤ long)) = false → (H6 D2 = some (.lst (wv (((es.take (i + 1)).filter fun e => decide (e.2 = so) && decide (e.1.length ≤ long)).map (·.1)))) ∧ Same H5 H6) := fun c => by
          rw [c, if_neg (by decide), List.append_nil] at nx
          exact ⟨by rw [nx]; exact g1, g2⟩
        refine ⟨a, _, rfl, .inl (.inl hat6), rfl, _, _, rfl, _, _, rfl, rfl, ?_⟩
        refine ⟨rfl, ?_⟩
        refine ⟨_, rfl, _, rfl, rfl, _, rfl, ?_⟩
        rw [eqT]
        refine ite2 (fun c1 => ?_) (fun c1 => ?_)
        · refine ⟨_, rfl, _, rfl, (by rw [T_len]; exact small (by omega)), _, rfl, _, _, rfl, rfl, _, rfl, ite2 (fun c2 => ?_) (fun c2 => ?_)⟩
          · have c2' : ((T e.1).length : Int) ≤ (long : Int) := of_decide_eq_true c2
            rw [T_len] at c2'
            rw [if_pos (by rw [c1, Bool.true_and]; exact decide_eq_true (by omega))] at nx
            refine ⟨_, rfl, _, g1, ?_, ?_, ?_⟩
            · unfold wv
              rw [List.length_map, List.length_map]
              exact Nat.lt_of_le_of_lt lle (by decide)
            · rw [upd_same, nx, List.map_append, ← wv_app]
              rfl
            · exact fun b u q => by
                rw [upd_ne (ne_of_none q hD2)]
                exact g2 b u q
          · have c2' : ¬ ((T e.1).length : Int) ≤ (long : Int) := of_decide_eq_false (Bool.eq_false_iff.mpr c2)
            rw [T_len] at c2'
            exact no (by rw [decide_eq_false (p := e.1.length ≤ long) (by omega), Bool.and_false])
        · exact iteF (no (by rw [Bool.eq_false_iff.mpr c1, Bool.false_and]))
      · rintro H6 ⟨g1, g2⟩
        rw [List.length_map, paired_len hXp, List.take_length] at g1
        have f1 := g2 _ _ e1
        have l1 : ((ruledW rs so L long).filter fun x => !isExc es x).length ≤ 131072 := Nat.le_trans (List.length_filter_le _ _) rl
        have l2 : ((es.filter fun e => decide (e.2 = so) && decide (e.1.length ≤ long)).map (·.1)).length ≤ 8 := by
          rw [List.length_map]
          exact Nat.le_trans (List.length_filter_le _ _) ho.e8
        refine ⟨D, D2, _, _, rfl, rfl, f1, g1, ?_, ?_⟩
        · unfold wv
          rw [List.length_map, List.length_map]
          exact Nat.le_trans (Nat.add_le_add l1 l2) (by decide)
        rw [wv_app]
        have hf : (upd H6 D (.lst (wv (foundW rs es so L long)))) D = some (.lst (wv (foundW rs es so L long))) := upd_same
        refine ⟨_, rfl, D, foundW rs es so L long, rfl, .inl (.inl hf), fun p1 hp1 => ⟨p1, _, rfl, .inl (.inl upd_same), fun x hx => ?_, fun p2 hp2 => ?_⟩⟩
        · rw [List.mem_mergeSort, mem_found (fun e he => (ho.ex e he).w) ho.up] at hx
          have := (mem_upto.mp (List.mem_filter.mp hx).1).1
          omega
        · rw [writ_sort ((rises_iff L).mp ho.lt.up) (fun e he => (ho.ex e he).w) ho.up] at *
          have sF : Same H (upd H6 D (.lst (wv (foundW rs es so L long)))) := fun b u q => by
            rw [upd_ne (ne_of_none q hD0)]
            exact g2 _ _ (e2 _ _ (s04 _ _ q))
          have st := (sF.trans (same_new hp1 _)).trans (same_new hp2 (.lst (wv (writM rs es so L long))))
          exact q p2 _ st ((sF.trans (same_new hp1 _)).free hp2) upd_same
end
end Say
namespace Say
open PySem PySem.Spec PyProof.Rows L2
section
variable {P : Program} {w : World} {K : PySem.W.Frag} {mg : Str → Option Value} {base : Heap}
/-- writings(b, s, long = n) -/
theorem wr_kb {f : Addr} {fd : FuncData} (F : FunD K "writings" "writings" (defArgs sWr) (defBody sWr) (defScope sWr) [] [("long", .int 5)] f fd) : ∃ mv : List Value, KBn K fd psWr 2 ["long"] (fun us ws => us ++ ws) (fun vs zs => vs ++ zs) := by
  refine F.kbinds0 2 ["long"] [] (fun us mv ws => us ++ ws) (by simp) (by simp) (fun r1 r2 r3 => r1.append r3) (fun D doc pm an cdv ct us mv ws h1 h2 h3 => ?_)
  match us, h1, mv, h2, ws, h3 with
  | [a, b], _, [], _, [c], _ => rfl
/-- writings(b, s) -/
theorem wr_b {f : Addr} {fd : FuncData} (F : FunD K "writings" "writings" (defArgs sWr) (defBody sWr) (defScope sWr) [] [("long", .int 5)] f fd) : ∃ ds, Vals [V.int 5] ds ∧ L2.Binds K fd psWr ds := by
  refine F.binds0 2 (by simp) rfl (fun D doc pm an cdv ct us ks h1 h2 => ?_)
  match us, h1, ks, h2 with
  | [a, b], _, [c], _ => exact ⟨_, _, _, _, _, _, rfl, rfl, rfl⟩
end
end Say
namespace Say
open PySem PySem.Spec PyProof.Rows L2
section
variable {X : Cx}
/-- t[lo:hi] of a tuple, as it is made: t itself where it is the whole -/
def rSlN (K : PySem.W.Frag) : V → Option Int → Option Int → Hp → VK → Prop := fun x lo hi H Q => ∃ a xs, x = .ref a ∧ SqT K H a xs ∧
  (HT.sIx xs.length 0 lo = 0 ∧ HT.sIx xs.length xs.length hi = xs.length → Q (.ref a) H) ∧ (¬ (HT.sIx xs.length 0 lo = 0 ∧ HT.sIx xs.length xs.length hi = xs.length) → ∀ (p : Addr) (o : Obj), o.dict = none → H p = none → Q (.ref p) (upd H p (.frz o (.tup (cutV xs lo hi)))))
theorem sl_tupN : SlR X (rSlN X.K) := by
  intro pins s σ H x v vl vu lo hi sl Q I rx hs pl pu h
  obtain ⟨a, xs, rfl, hx, q1, q2⟩ := h
  cases rx
  obtain ⟨its, r, ht, hz⟩ := I.tuple hx
  have hlen : its.toArray.size = xs.length := by rw [List.size_toArray]; exact r.length.symm
  refine ⟨"tuple", _, PyProof.Rows.slot_tuple_getitem.lookup, ht.typeIs, ?_⟩
  by_cases hw : HT.sIx xs.length 0 lo = 0 ∧ HT.sIx xs.length xs.length hi = xs.length
  · exact getItem_tuple_whole ht hs pl pu (by rw [hlen]; exact hw) ⟨.ref a, H, I, rfl, q1 hw⟩
  · refine HT.getItem_tuple_cut ht hs pl pu (by rw [hlen]; exact hw) ?_ (by rw [hlen]; exact hz)
    rw [hlen]
    have rr := (r.drop (HT.sIx xs.length 0 lo)).take (HT.sIx xs.length xs.length hi - HT.sIx xs.length 0 lo)
    exact ⟨.ref s.heap.objs.size, _, I.laid (t' := s.toks) (fun b ob e => Heap.get?_push_of_some _ e) (Nat.le_refl _) (show ObjOk X.prog X.w _ _ _ (.frz _ (.tup (cutV xs lo hi))) from ⟨Heap.get?_push_size _ rfl, Nat.le_trans (cutV_length xs lo hi) hz, _, rr, IsTup.new _ _⟩), rfl, q2 hw _ _ rfl (I.hok.fresh (Nat.le_refl _))⟩
/-- t[lo:hi] of a tuple as it was made, whatever is cut -/
theorem sl_tupQ : SlR X (fun x lo hi H Q => ∃ a xs, x = .ref a ∧ TupN H a xs ∧ ∀ (p : Addr) (H' : Hp), (∀ b o, H b = some o → H' b = some o) → TupN H' p (cutV xs lo hi) → Q (.ref p) H') := by
  intro pins s σ H x v vl vu lo hi sl Q I rx hs pl pu h
  obtain ⟨a, xs, e, ha, q⟩ := h
  refine sl_tupN pins s σ H x v vl vu lo hi sl Q I rx hs pl pu ⟨a, xs, e, .inl (.inr ⟨_, ha.choose_spec.1⟩), fun hw => ?_, fun hw p o ho hp => ?_⟩
  · refine q a H (fun _ _ h => h) ?_
    have : cutV xs lo hi = xs := by
      unfold cutV
      rw [hw.1, hw.2, List.drop_zero, Nat.sub_zero, List.take_length]
    rw [this]
    exact ha
  · refine q p _ (fun b u hb => ?_) ⟨o, upd_same, ho⟩
    rw [upd_ne (fun z => by rw [z, hp] at hb; cases hb)]
    exact hb
end
end Say
namespace Say
open PySem PySem.Spec PyProof.Rows L2
theorem sl_tupW {X : Cx} : SlR X (fun x lo hi H Q => ∃ a xs, x = .ref a ∧ H a = some (.tup xs) ∧ ∀ (p : Addr) (H' : Hp), Same H H' → H' p = some (.tup (cutV xs lo hi)) → Q (.ref p) H') := by
  intro pins s σ H x v vl vu lo hi sl Q I rx hs pl pu h
  obtain ⟨a, xs, e, ha, q⟩ := h
  refine sl_tupA pins s σ H x v vl vu lo hi sl Q I rx hs pl pu ⟨a, xs, e, .inl (.inl ha), fun hw => ?_, fun hw p hp => ?_⟩
  · refine q a H (Same.refl H) ?_
    have : cutV xs lo hi = xs := by
      unfold cutV
      rw [hw.1, hw.2, List.drop_zero, Nat.sub_zero, List.take_length]
    rw [this]
    exact ha
  · exact q p _ (same_new hp _) upd_same
theorem paired_takeW {α β : Type} {F : α → β → Prop} : ∀ (m : Nat) {l : List α} {k : List β}, Paired F l k → Paired F (l.take m) (k.take m)
  | 0, _, _, _ => .nil
  | _ + 1, _, _, .nil => .nil
  | m + 1, _, _, .cons a t => .cons a (paired_takeW m t)
theorem cut_takeW (xs : List V) (k : Nat) : cutV xs none (some (k : Int)) = xs.take k := by
  unfold cutV
  rw [HT.sIx_none, HT.sIx_nat, List.drop_zero, Nat.sub_zero]
  rcases Nat.le_total k xs.length with h | h
  · rw [Nat.min_eq_left h]
  · rw [Nat.min_eq_right h, List.take_length, List.take_of_length_le h]
theorem rules_take {H H' : Hp} {R p : Addr} {rs : List Rule} {ts : List Addr} (k : Nat) (pR : Paired (fun t ρ => H t = some (.tup (Rule.vs ρ))) ts rs) (s : Same H H') (hp : H' p = some (.tup (cutV (ts.map V.ref) none (some (k : Int))))) : RulesAt H' p (rs.take k) := by
  refine ⟨ts.take k, ?_, paired_takeW k (paired_mono (fun t ρ h => s _ _ h) pR)⟩
  rw [hp, cut_takeW, List.map_take]
theorem excs_take {H H' : Hp} {p : Addr} {es : List Exc} {ts : List Addr} (k : Nat) (pX : Paired (fun t (e : Exc) => H t = some (.tup [.str (T e.1), .str (T e.2)])) ts es) (s : Same H H') (hp : TupN H' p (cutV (ts.map V.ref) none (some (k : Int)))) : ExcsAt H' p (es.take k) := by
  refine ⟨ts.take k, ?_, paired_takeW k (paired_mono (fun t ρ h => s _ _ h) pX)⟩
  rw [cut_takeW, ← List.map_take] at hp
  exact hp
end Say
namespace Say
open PySem PySem.Spec PyProof.Rows L2
/-! ### a sign, repeated -/
theorem fold_one (c : Nat) : ∀ (m : Nat) (acc : Array Nat), (List.replicate m #[c]).foldl (· ++ ·) acc = acc ++ (List.replicate m c).toArray
  | 0, acc => by simp
  | m + 1, acc => by
    rw [List.replicate_succ, List.foldl_cons, fold_one c m]
    apply Array.ext'
    simp [List.replicate_succ]
theorem op_repS {X : Cx} : OpR X (binaryOp .Mult) (fun x y H Q => ∃ (c k : Nat), x = .str (T [c]) ∧ y = .int (k : Nat) ∧ 2 ≤ k ∧ k ≤ 100 ∧ Q (.str (T (List.replicate k c))) H) := by
  intro pins s σ H x y v u Q I rx ry h
  obtain ⟨c, k, rfl, rfl, h1, h2, q⟩ := h
  obtain ⟨t, rfl⟩ := rx
  obtain ⟨t', rfl⟩ := ry
  have hlen : (T [c]).length = 1 := T_len [c]
  have hn1 : ¬ ((k : Int) < 1) := by omega
  have hn2 : ((k : Int) == 1 || (T [c]).length == 0) = false := by
    rw [hlen, Bool.or_eq_false_iff]
    exact ⟨beq_false_of_ne (by omega), rfl⟩
  refine PySem.P.mul_str (by rw [decide_eq_false (by omega), decide_eq_false (by omega)]; rfl) (fun _ _ => ?_) (fun _ _ => ?_) ?_
  · rw [hlen]
    have h : (1 : Int) ≤ (2 ^ 63 - 1) / (k : Int) := by
      rw [Int.le_ediv_iff_mul_le (by omega)]
      omega
    exact Int.not_lt.mpr h
  · rw [hlen]
    show Builtin.Str.tooLong (1 * ((k : Int)).toNat) = false
    have : 1 * ((k : Int)).toNat ≤ 100 := by omega
    generalize 1 * ((k : Int)).toNat = m at this
    unfold Builtin.Str.tooLong
    exact decide_eq_false (Nat.not_lt.mpr (small (by omega)))
  · rw [if_neg hn1, if_neg (by rw [hn2]; exact Bool.false_ne_true)]
    have e : (⟨(List.replicate ((k : Int)).toNat (T [c]).cps).foldl (· ++ ·) #[]⟩ : Str) = T (List.replicate k c) := by
      rw [show ((k : Int)).toNat = k from rfl, show (T [c]).cps = #[c] from rfl, fold_one]
      show (⟨#[] ++ (List.replicate k c).toArray⟩ : Str) = ⟨(List.replicate k c).toArray⟩
      rw [Array.empty_append]
    rw [e]
    refine ⟨?_, .str (T (List.replicate k c)), H, I.tok _, ⟨_, rfl⟩, q⟩
    show (T (List.replicate k c)).length ≤ _
    rw [T_len, List.length_replicate]
    exact Nat.le_trans h2 (by decide)
/-- any number of times, none too -/
theorem op_repA {X : Cx} : OpR X (binaryOp .Mult) (fun x y H Q => ∃ (c k : Nat), x = .str (T [c]) ∧ y = .int (k : Nat) ∧ k ≤ 100 ∧ Q (.str (T (List.replicate k c))) H) := by
  intro pins s σ H x y v u Q I rx ry h
  obtain ⟨c, k, rfl, rfl, h2, q⟩ := h
  by_cases h1 : 2 ≤ k
  · exact op_repS pins s σ H _ _ v u Q I rx ry ⟨c, k, rfl, rfl, h1, h2, q⟩
  obtain ⟨t, rfl⟩ := rx
  obtain ⟨t', rfl⟩ := ry
  refine PySem.P.mul_str (by rw [decide_eq_false (by omega), decide_eq_false (by omega)]; rfl) (fun h3 h4 => ?_) (fun h3 h4 => ?_) ?_
  · rw [Bool.or_eq_false_iff] at h4
    have := h4.1
    rw [show (k : Int) = 1 by omega] at this
    cases this
  · rw [Bool.or_eq_false_iff] at h4
    have := h4.1
    rw [show (k : Int) = 1 by omega] at this
    cases this
  · by_cases h0 : k = 0
    · subst h0
      rw [if_pos (by decide)]
      refine ⟨by decide, .str (T []), H, I.tok _, ⟨_, rfl⟩, q⟩
    · have : k = 1 := by omega
      subst this
      rw [if_neg (by decide), if_pos (by rfl)]
      exact ⟨.str (T [c]), H, I, ⟨_, rfl⟩, q⟩
end Say
/-! a lambda of one parameter with a number as its default, handed to a def -/
namespace LamD
open PySem PySem.Spec PyProof.Rows L2 LamX
/-- its own name is the parameter alone, which the maker doesn't know -/
structure Par (N : List Str) (sc own : Scope) (a : Str) : Prop where
  kind : own.kind = .function
  co : own.isCoroutine = false
  gen : own.isGenerator = false
  par : own.names.lookup a = some .local
  loc : ∀ y ∈ own.names, y.2 ≠ .cell ∧ (y.2 = .local → y.1 = a)
  free : ∀ y ∈ own.names, y.2 = .free → sc.names.lookup y.1 = some .cell ∨ sc.names.lookup y.1 = some .free
  out : a ∉ N
def parB (N : List Str) (sc own : Scope) (a : Str) : Bool :=
  decide (own.kind = .function) && (!own.isCoroutine && (!own.isGenerator && (decide (own.names.lookup a = some .local) && (decide (a ∉ N) && own.names.all fun y =>
    !decide (y.2 = .cell) && ((!decide (y.2 = .local) || decide (y.1 = a)) && (!decide (y.2 = .free) || (decide (sc.names.lookup y.1 = some .cell) || decide (sc.names.lookup y.1 = some .free))))))))
theorem par_by {N : List Str} {sc own : Scope} {a : Str} (h : parB N sc own a = true) : Par N sc own a := by
  unfold parB at h
  simp only [Bool.and_eq_true, Bool.or_eq_true, Bool.not_eq_true', decide_eq_true_eq, decide_eq_false_iff_not, List.all_eq_true] at h
  obtain ⟨g1, g2, g3, g4, g5, g6⟩ := h
  refine ⟨g1, g2, g3, g4, fun y hy => ⟨(g6 y hy).1, fun e => ?_⟩, fun y hy e => ?_, g5⟩
  · rcases (g6 y hy).2.1 with z | z
    · exact absurd e z
    · exact z
  · rcases (g6 y hy).2.2 with z | z
    · exact absurd e z
    · exact z
section
variable {X : Cx} {pins : List (Addr × Obj)} {σ : L2.St} {H HZ : Hp} {s s1 : Shared}
section
variable {f : Addr}
/-- an address that the frame knows nothing of -/
def NewF (X : Cx) (pins : List (Addr × Obj)) (f : Addr) : Prop := X.s_0.heap.objs.size ≤ f ∧ f ≠ X.env.locals ∧ (∀ x c, X.env.cells.lookup x = some c → c ≠ f) ∧ ∀ p ∈ X.pn ++ pins, p.1 ≠ f
theorem new_of (I : Inv X pins σ H s) (h : s.heap.objs.size ≤ f) : NewF X pins f := by
  have lt : ∀ {b o}, s.heap.get? b = some o → b ≠ f := fun e z => by
    rw [z] at e
    exact Nat.lt_irrefl _ (Nat.lt_of_lt_of_le (Heap.lt_size e) h)
  refine ⟨Nat.le_trans I.sz h, fun z => ?_, fun x c e => ?_, fun p hp => lt (I.pin p hp).1⟩
  · have := I.lt
    rw [← z] at this
    exact Nat.lt_irrefl _ (Nat.lt_of_lt_of_le this h)
  · obtain ⟨v, o, ho, _⟩ := I.cell x c e
    exact lt ho
end
theorem Par.has {own : Scope} {a : Str} (L : Par X.N X.env.scope own a) (ok : X.Ok) : ∀ y ∈ own.names, y.2 = .free → ∃ c, X.env.cells.lookup y.1 = some c := fun y hy e =>
  (L.free y hy e).elim (fun k => ok.has _ (.inl k)) fun k => ok.has _ (.inr k)
/-- the lambda's object, its default at D -/
abbrev dObj (X : Cx) (params : Arguments) (body : Expr) (own : Scope) (D : Addr) (doc pm : Value) (c' : Addr) (ctv : Value) : Obj :=
  PySem.W.kdv_obj "<lambda>" (X.env.qual ++ "<lambda>") params (.expr body) own (cloFrom X.env.cells own.names []) (.ref D) doc pm c' ctv
/-- made: a code object that is new or found in the table, and the tuple of the default -/
theorem make {Ts : List (Addr × Str)} {c P : Addr} {params : Arguments} {body de : Expr} {own : Scope} {pos : Pos} {z : Int} {Q : Value → Shared → Prop} (I : Inv X pins σ H s) (TB : TabB X.base X.mg c P) (hcode : X.env.code = .ref c)
    (hm : (P, X.env.qual ++ "<lambda>") ∈ Ts) (hu : ∀ p ∈ Ts, p.1 = P → p.2 = X.env.qual ++ "<lambda>") (hT : Tabs Ts H) (hde : params.defaults = [de]) (hkw : params.kw_defaults = []) (hz : PE X de (tC (.int z))) (hfree : ∀ y ∈ own.names, y.2 = .free → ∃ c, X.env.cells.lookup y.1 = some c)
    (h : ∀ (f c' D : Addr) (u doc pm ctv : Value) (H1 : Hp) (s' : Shared), Inv X pins σ H1 s' → ExtN H H1 → Tabs Ts H1 → s'.heap.get? f = some (dObj X params body own D doc pm c' ctv) → H1 f = none → f ∉ frs X.stack →
      s'.heap.get? D = some (PySem.W.kdv_tup [u]) → H1 D = none → D ∉ frs X.stack → NewF X pins f → NewF X pins D → f ≠ D → H f = none → H1 c' = some (CodeO c' (X.env.qual ++ "<lambda>")) → Q (.ref f) s') :
    wpAny (model X.prog X.w) X.A (eval (.Lambda params body own pos) X.env) Q X.xe s := by
  refine PySem.W.kdv_lam (by rw [hde]; rfl) hkw ?_
  rw [hde]
  refine PySem.W.kdv_all1 (thn (hz.run pins s σ H (fun v H0 => H0 = H) I rfl) fun u sa ⟨v, H0, Ia, _, eH⟩ => PySem.W.kdv_all0 ?_)
  subst eH
  rw [makeFunction_eq]
  simp only [List.zip_nil_right, List.filterMap_nil, List.isEmpty_nil, if_true, pure_bind, List.isEmpty_cons, Bool.false_eq_true, if_false]
  refine wpAny_bind (wpAny_newTextTuple ?_)
  -- the default's tuple
  have hDn : H0 sa.heap.objs.size = none := Ia.hok.fresh (Nat.le_refl _)
  have stk : ∀ {b : Addr} {hp : Heap} {σ' : L2.St} {H' : Hp} {tk : Nat} (J : Inv X pins σ' H' { sa with heap := hp, toks := tk }), hp.objs.size ≤ b → b ∉ frs X.stack := fun {b hp σ' H' tk} J hb m => by
    rcases List.mem_cons.mp (J.stkSub _ m) with e | e
    · have lt := J.lt
      rw [← e] at lt
      exact Nat.lt_irrefl _ (Nat.lt_of_lt_of_le lt hb)
    · exact J.nofs hb e
  have newD := new_of Ia (f := sa.heap.objs.size) (Nat.le_refl _)
  have frD := stk (hp := sa.heap) (tk := sa.toks) Ia (Nat.le_refl _)
  have Ib : Inv X pins σ H0 { sa with heap := sa.heap.push (PySem.W.kdv_tup [u]) } := Ia.kept (t' := sa.toks) fun _ _ e => Heap.get?_push_of_some _ e
  have atD : (sa.heap.push (PySem.W.kdv_tup [u])).get? sa.heap.objs.size = some (PySem.W.kdv_tup [u]) := Heap.get?_push_size _ rfl
  have szD : sa.heap.objs.size < (sa.heap.push (PySem.W.kdv_tup [u])).objs.size := by rw [Heap.size_push]; exact Nat.lt_succ_self _
  obtain ⟨ps, hP, ht, ha⟩ := hT _ hm
  have ltP : P < sa.heap.objs.size := Heap.lt_size (Ia.hok P _ hP)
  generalize hhb : sa.heap.push (PySem.W.kdv_tup [u]) = hb at Ib atD szD ⊢
  generalize sa.heap.objs.size = D at hDn frD newD atD szD ltP ⊢
  have hP' : hb.get? P = some { cls := .none, data := .fields ps } := Ib.hok P _ hP
  have bP : hb.BuiltinsAt X.mg P := TB.bm.keeps Ib.bk
  cases hc : codeAmong pos ps.toList with
  | none =>
    refine PySem.W.kdv_makeTail (s := { sa with heap := hb }) (closure_ok hfree) Ib.ok.glob (Ib.mod.glob.keeps Ib.bk) hcode (TB.code.keeps Ib.bk) hP' ht hc TB.gP bP fun c' ctv doc h' tk hx hge hlt hrec htb => ?_
    obtain ⟨c2, oc, vs, t, e2, hoc, hd, hv⟩ := hrec
    cases e2
    have hge : hb.objs.size ≤ c' := hge
    have nC : H0 c' = none := Ib.hok.fresh hge
    have I1 := inv_table (t' := tk) (more := #[rawInt pos.line, rawInt pos.col, .ref c']) (h' := h'.push (dObj X params body own D doc ((X.mg "__name__").getD .none) c' ctv)) Ib hP
      (fun b o n e => Heap.get?_push_of_some _ (hx b o n e)) (Heap.get?_push_of_some _ htb) hge ⟨oc, vs, t, Heap.get?_push_of_some _ hoc, hd, hv⟩
    have hE : ExtN H0 (upd (upd H0 P (.tbl (ps ++ #[rawInt pos.line, rawInt pos.col, .ref c']))) c' (CodeO c' (X.env.qual ++ "<lambda>"))) := fun b o e n => by
      rw [upd_ne (ne_of_none e nC), upd_ne fun y => n ps (Option.some.inj (e.symm.trans (by rw [y]; exact hP)))]
      exact e
    have toL : (ps ++ #[rawInt pos.line, rawInt pos.col, .ref c']).toList = ps.toList ++ [rawInt pos.line, rawInt pos.col, .ref c'] := by simp
    have nf1 : h'.objs.size ≠ c' := Nat.ne_of_gt hlt
    have nf2 : h'.objs.size ≠ P := Nat.ne_of_gt (Nat.lt_of_lt_of_le (Heap.lt_size hP') (Nat.le_trans hge (Nat.le_of_lt hlt)))
    refine h h'.objs.size c' D u doc ((X.mg "__name__").getD .none) ctv _ _ I1 hE (fun p hp => ?_) (Heap.get?_push_size _ rfl) ?_ (stk (hp := hb) (tk := sa.toks) Ib (by omega)) (Heap.get?_push_of_some _ (hx D _ (Nat.ne_of_gt ltP) atD)) ?_ frD (new_of Ib (show hb.objs.size ≤ _ by omega)) newD (show h'.objs.size ≠ D from Nat.ne_of_gt (Nat.lt_of_lt_of_le szD (Nat.le_trans hge (Nat.le_of_lt hlt)))) (Ib.hok.fresh (show hb.objs.size ≤ _ by omega)) upd_same
    · by_cases eP : p.1 = P
      · rw [hu p hp eP, eP]
        refine ⟨_, by rw [upd_ne (ne_of_none hP nC), upd_same], by rw [toL]; exact PySem.TriplesOk_snoc _ _ _ _ ht, fun p' cv hcv => ?_⟩
        rw [toL] at hcv
        rcases among_app _ ht hcv with y | y
        · obtain ⟨c0, y1, y2⟩ := ha p' cv y
          exact ⟨c0, y1, hE _ _ y2 codeO_ne⟩
        · exact ⟨c', y, upd_same⟩
      · obtain ⟨qs, y1, y2, y3⟩ := hT p hp
        refine ⟨qs, by rw [upd_ne (ne_of_none y1 nC), upd_ne eP]; exact y1, y2, fun p' cv hcv => ?_⟩
        obtain ⟨c0, y4, y5⟩ := y3 p' cv hcv
        exact ⟨c0, y4, hE _ _ y5 codeO_ne⟩
    · rw [upd_ne nf1, upd_ne nf2]
      exact Ib.hok.fresh (show hb.objs.size ≤ _ by omega)
    · rw [upd_ne (Nat.ne_of_lt (Nat.lt_of_lt_of_le szD hge)), upd_ne (Nat.ne_of_gt ltP)]
      exact hDn
  | some cv =>
    obtain ⟨c', e, hco⟩ := ha pos cv hc
    subst e
    refine PySem.W.kdv_makeTailHit (s := { sa with heap := hb }) (closure_ok hfree) Ib.ok.glob (Ib.mod.glob.keeps Ib.bk) hcode (TB.code.keeps Ib.bk) hP' ht hc bP fun ctv doc h' tk hx hsz => ?_
    have hsz : hb.objs.size ≤ h'.objs.size := hsz
    have I1 : Inv X pins σ H0 { sa with heap := h'.push (dObj X params body own D doc ((X.mg "__name__").getD .none) c' ctv), toks := tk } := Ib.kept (t' := tk) fun b o e => Heap.get?_push_of_some _ (hx b o e)
    exact h h'.objs.size c' D u doc ((X.mg "__name__").getD .none) ctv H0 _ I1 (ExtN.refl H0) hT (Heap.get?_push_size _ rfl) (Ib.hok.fresh hsz) (stk (hp := hb) (tk := sa.toks) Ib hsz) (Heap.get?_push_of_some _ (hx D _ atD)) hDn frD (new_of Ib hsz) newD (show h'.objs.size ≠ D from Nat.ne_of_gt (Nat.lt_of_lt_of_le szD hsz)) (Ib.hok.fresh hsz) hco
abbrev dEnv (X : Cx) (own : Scope) (L f c' : Addr) : Env := lamEnv X own L f c'
/-- its body's context, entered -/
theorem enter {A : Around} {outer : List Env} {E : XK} {own : Scope} {a : Str} {f c' : Addr} {h₁ : Heap} {tk : Nat} {m : Str → Option Value} (I : Inv X pins σ H s) (L : Par X.N X.env.scope own a) (e0 : Env0 X.prog X.w X.K X.mg X.base A outer s1 HZ) (hd : A.handled = none)
    (un : Un (frs X.stack) [] H HZ s.heap s1.heap) (hns : h₁.Ns s1.heap.objs.size m) (kp : ∀ b o, s1.heap.get? b = some o → h₁.get? b = some o) :
    Inv (lamCx X A outer s1 HZ E own f c') [] σ HZ { s1 with heap := h₁, toks := tk } := by
  have has := L.has I.ok
  -- a name that it captures has the maker's cell
  have cl1 : ∀ {y c}, (cloFrom X.env.cells own.names []).lookup y = some c → X.env.cells.lookup y = some c := fun {y c} e => by
    rcases cloFrom_mem (PySem.mem_of_lookup e) with z | ⟨z1, z2⟩
    · cases z
    · obtain ⟨c1, hc⟩ := has _ z1 rfl
      have hc : X.env.cells.lookup y = some c1 := hc
      rw [z2, hc]
      rfl
  have cl2 : ∀ {y}, own.names.lookup y = some .free → ∃ c, (cloFrom X.env.cells own.names []).lookup y = some c := fun {y} hl =>
    mem_lookup (cloFrom_has (cells := X.env.cells) (acc := []) (show (y, NameKind.free) ∈ own.names from PySem.mem_of_lookup hl))
  have cellK : ∀ {c : Addr} {v : Option Value}, H c = none → s.heap.IsCell c v → h₁.IsCell c v := fun {c v} n ⟨o, ho, od⟩ => by
    obtain ⟨sl, q⟩ := un.any ho n (by simp)
    exact ⟨_, kp _ _ q, od⟩
  have no : ∀ b : Addr, b ∉ (lamCx X A outer s1 HZ E own f c').ex := fun b z => absurd (show b ∈ ([] : List Addr) from z) (by simp)
  refine ⟨⟨e0.mod, L.kind, rfl, rfl, Nat.le_refl _, fun y z c e1 e2 => I.ok.inj y z c (cl1 e1) (cl1 e2), fun y hy => ?_, fun y c z _ => (by cases (show false = true from z)), fun _ => hd, Around.frames_deeper e0.frames, .inr ⟨rfl, rfl⟩, fun b z => absurd z (no b), e0.bs, e0.bsz, fun b _ _ => no b,
      fun b z => absurd z (no b), e0.funs, e0.frf⟩,
    rfl, e0.bare, Un.kept kp, ⟨_, hns, fun i y v e1 e2 e3 => ?_⟩, fun y c e => ?_, e0.hok.fresh (Nat.le_refl _), fun y c e => ?_, fun q hq => absurd (show q ∈ ([] : List (Addr × Obj)) ++ [] from hq) (by simp), e0.hok.kept kp, I.len⟩
  · have hy : own.names.lookup y = some .cell ∨ own.names.lookup y = some .free := hy
    exact hy.elim (fun z => absurd rfl (L.loc _ (PySem.mem_of_lookup z)).1) cl2
  · have e3 : Vis own y := e3
    rcases e3 with k | k | k
    · -- the parameter is no name of the maker's
      have ey : y = a := (L.loc _ (PySem.mem_of_lookup k)).2 rfl
      have e1 : X.N[i]? = some y := e1
      exact absurd (List.mem_of_getElem? e1) (by rw [ey]; exact L.out)
    · exact absurd rfl (L.loc _ (PySem.mem_of_lookup k)).1
    · obtain ⟨m', hn, hl⟩ := I.loc
      have vis : Vis X.env.scope y := (L.free _ (PySem.mem_of_lookup k) rfl).elim (fun k => .inr (.inl k)) fun k => .inr (.inr k)
      obtain ⟨w', r, q⟩ := hl i y v e1 e2 vis
      obtain ⟨c2, h2⟩ := cl2 k
      refine ⟨w', r, .inr ⟨.inr k, c2, h2, ?_⟩⟩
      rcases q with ⟨k', _⟩ | ⟨_, c3, e', z⟩
      · have k' : X.env.scope.names.lookup y = some .local := k'
        rcases L.free _ (PySem.mem_of_lookup k) rfl with k2 | k2 <;> rw [show X.env.scope.names.lookup y = _ from k2] at k' <;> cases k'
      · rw [cl1 h2] at e'
        cases e'
        exact cellK (I.freeC y _ (cl1 h2)) z
  · obtain ⟨w', z⟩ := I.cell y c (cl1 e)
    exact ⟨w', cellK (I.freeC y c (cl1 e)) z⟩
  · obtain ⟨v, o, ho, od⟩ := I.cell y c (cl1 e)
    exact un.free c o ho (I.freeC y c (cl1 e)) (by simp)
/-- called with nothing by the def that got it -/
theorem act {CXg : CXT} {Eg : XK} {Ng : List Str} {qg : Str} {sg : Scope} {g f c' D : Addr} {cdg doc pm ctv u : Value} {params : Arguments} {body : Expr} {own : Scope} {k i : Nat} {x a : Str} {pn : List (Addr × Obj)} {xe : Value → Shared → Prop} {W : WX} {E : XK} {tb : TE} {p1 p2 : Pos}
    (I : Inv X pins σ H s) (L : Par X.N X.env.scope own a) (hf : s.heap.get? f = some (dObj X params body own D doc pm c' ctv)) (hfn : H f = none) (hfr : f ∉ frs X.stack) (hD : s.heap.get? D = some (PySem.W.kdv_tup [u])) (hDn : H D = none) (hDr : D ∉ frs X.stack)
    (hbind : ∀ s : Shared, s.heap.get? D = some (PySem.W.kdv_tup [u]) → BindsTo s (PySem.W.kdv_fn "<lambda>" (X.env.qual ++ "<lambda>") params (.expr body) own (cloFrom X.env.cells own.names []) (.ref D) doc pm (.ref c') ctv) ⟨[], []⟩ [(a, u)])
    (tk : Takes ((cxOf CXg X.prog X.w X.K X.mg X.base Ng qg sg g cdg X.A X.stack s H Eg).tr pn xe) W) (hW : ∀ cls d σ' H', E cls d H' → W cls d σ' H') (hr : Room (k + 1) (X.A.deeper (envOfC qg sg s.heap.objs.size g cdg)))
    (hbody : ∀ (A : Around) (outer : List Env) (s : Shared) (H : Hp), Room k (A.deeper (lamEnv X own s.heap.objs.size f c')) → PE (lamCx X A outer s H E own f c') body tb)
    (hN : Ng[i]? = some x) (hv : Vis sg x) (hdb : (x == ("__debug__" : Str)) = false := by decide) (hcd : (x == ("__classdict__" : Str)) = false := by decide) :
    PE ((cxOf CXg X.prog X.w X.K X.mg X.base Ng qg sg g cdg X.A X.stack s H Eg).tr pn xe) (.Call (.Name x p1) [] [] p2)
      (fun σZ HZ Q => σZ[i]? = some (some (.ref f)) ∧ HZ c' = some (CodeO c' (X.env.qual ++ "<lambda>")) ∧ tb σ HZ Q) := by
  refine ⟨fun pinsZ sZ σZ HZ Q IZ ⟨hs, hc, ht⟩ => ?_⟩
  refine wpAny_Call_Name_kw (thn ((pe_var (pos := p1) (i := i) hN hv hdb hcd).run pinsZ sZ σZ HZ (fun v H1 => v = .ref f ∧ H1 = HZ) IZ ⟨.ref f, hs, rfl, rfl⟩) fun u' s1 ⟨v, H1, I1, r1, ev, eH⟩ => ?_)
  subst ev eH
  obtain rfl : u' = Value.ref f := r1
  have keep : ∀ {b : Addr} {o : Obj}, s.heap.get? b = some o → H b = none → b ∉ frs X.stack → s1.heap.get? b = some o := fun {b o} e n fr => I1.base.keep b _ e n fr fun z => nomatch (show b ∈ ([] : List Addr) from z)
  have of1 := keep hf hfn hfr
  refine PySem.W.callWith_F0 ⟨_, _, _, _, of1⟩ ?_
  have un : Un (frs X.stack) [] H H1 s.heap s1.heap := I1.base
  obtain ⟨⟨oc, vs, t, hoc, hdc, hvc⟩, _, _⟩ := I1.hok c' _ hc
  have rc : codeAny (model X.prog X.w) (X.A.deeper (envOfC qg sg s.heap.objs.size g cdg)) (.call (.ref f) ⟨[], []⟩) (CR (L2.CX X.prog X.w) (envOfC qg sg s.heap.objs.size g cdg :: X.stack) X.prog X.w H1 s1 Q E) s1 := by
    refine PySem.W.kla_callFunE hr.depth of1 rfl L.co L.gen rfl ⟨c', oc, vs, t, rfl, hoc, hdc, hvc⟩ (hbind s1 (keep hD hDn hDr) _ _ _ _ ?_)
    refine wpAny_newFunctionEnv (fun y hy => (L.loc y hy).1) (fun y hy => by rw [List.mem_singleton.mp hy]; exact L.par) (fun h₁ hns hsb => ⟨I1.nolimit.fresh _ hsb, ?_⟩) L.kind
    refine (?_ : codeAny _ _ (.expr body (lamEnv X own s1.heap.objs.size f c')) _ _)
    have kp : ∀ b o, s1.heap.get? b = some o → h₁.get? b = some o := fun b o e => hsb.extBut b o (Nat.ne_of_lt (Heap.lt_size e)) (Heap.get?_push_of_some _ e)
    have J := enter (A := X.A.deeper (envOfC qg sg s.heap.objs.size g cdg)) (outer := envOfC qg sg s.heap.objs.size g cdg :: X.stack) (E := E) (f := f) (c' := c') (tk := s1.toks + ([(a, u)] : List (Str × Value)).length) I L I1.env0 hr.hd un hns kp
    exact PySem.W.kla_codeExpr (wpAny_mono ((hbody _ _ s1 H1 (hr.deeper _)).run [] _ _ H1 Q J ht) (fun v s' ⟨w', H', J', rv, q⟩ => ⟨w', H', J'.os, J'.bare, J'.base, J'.hok, rv, q⟩) fun _ _ hq => hq)
  have hx : Passes (L2.CX X.prog X.w) ((cxOf CXg X.prog X.w X.K X.mg X.base Ng qg sg g cdg X.A X.stack s H Eg).tr pn xe) E := passes_call tk hW
  refine wpAny_call (codeAny_mono rc fun r s' hq => ?_)
  match r, hq with
  | .error e, hq => exact hx pinsZ σZ H1 s1 e s' I1 hq
  | .ok (.ret u), hq => exact I1.after hq
  | .ok .next, hq => exact False.elim hq
  | .ok .brk, hq => exact False.elim hq
  | .ok .cont, hq => exact False.elim hq
end
section
variable {X : Cx}
/-- x(lambda a=z: body) -/
theorem pe_lamcall {Ts : List (Addr × Str)} {TT : (XK → Hp → VK → Prop) → Hp → VK → Prop} {x y a : Str} {g c P : Addr} {k : Nat} {pg : Arguments} {bg : List Stmt} {sg : Scope} {dV kV doc pm cdv ct oc : Value} {an od : Option Addr} {osl : Array (Option Value)} {Ng : List Str}
    {params : Arguments} {body de : Expr} {own : Scope} {t : XK → TE} {p lpos pos : Pos} {z : Int} (hg : Gl X x) (hm : X.mg x = some (.ref g)) (hk : PySem.W.keepIn X.K (.ref g) = true)
    (lk : X.K.lookup g = some ⟨oc, od, .func (PySem.W.fnOf x x pg bg sg dV kV doc pm an cdv ct), osl⟩) (hcg : PySem.W.codeIn X.K cdv x = true) (hb : L2.Binds X.K (PySem.W.fnOf x x pg bg sg dV kV doc pm an cdv ct) [y] []) (Sg : FnScope Ng [y] sg) (hNg : Ng[0]? = some y) (hva : Vis sg y)
    (hG : GivesTo X Ng x sg g cdv bg y (X.env.qual ++ "<lambda>") TT)
    (TB : TabB X.base X.mg c P) (hcode : X.env.code = .ref c) (hmT : (P, X.env.qual ++ "<lambda>") ∈ Ts) (hu : ∀ p ∈ Ts, p.1 = P → p.2 = X.env.qual ++ "<lambda>") (hr : Room (k + 2) X.A) (L : Par X.N X.env.scope own a) (hde : params.defaults = [de]) (hkw : params.kw_defaults = []) (hz : PE X de (tC (.int z)))
    (hbind : ∀ (u : Value) (D : Addr) (q : Str) (cl : List (Str × Addr)) (doc pm cv ctv : Value) (s : Shared), s.heap.get? D = some (PySem.W.kdv_tup [u]) → BindsTo s (PySem.W.kdv_fn "<lambda>" q params (.expr body) own cl (.ref D) doc pm cv ctv) ⟨[], []⟩ [(a, u)])
    (hbody : ∀ (A : Around) (outer : List Env) (s : Shared) (H : Hp) (E : XK) (f c' : Addr), Room k (A.deeper (lamEnv X own s.heap.objs.size f c')) → PE (lamCx X A outer s H E own f c') body (t E))
    (hdb : (x == ("__debug__" : Str)) = false := by decide) (hd : (y == ("__debug__" : Str)) = false := by decide) (hcd : (y == ("__classdict__" : Str)) = false := by decide) :
    PE X (.Call (.Name x p) [.Lambda params body own lpos] [] pos) (tLam Ts TT t) := by
  refine ⟨fun pins s σ H Q I ⟨hT, h⟩ => ?_⟩
  refine wpAny_Call_Name_kw (ld_glob I hg hm ?_ hdb)
  refine PySem.W.callWith_K (h₀ := X.base) I.ok.mod.kin hk ?_ (by rfl) (by rfl)
  refine (?_ : wpAny _ _ (spliced ((false, eval (.Lambda params body own lpos) X.env) :: backTo pos (starEach [] X.env))) _ _ s)
  refine Calls.spliced_cons (make I TB hcode hmT hu hT hde hkw hz (L.has I.ok) fun f c' D u doc' pm' ctv H1 s' I1 eN T1 hf hfn hfr hD hDn hDr _ _ _ _ hco => Calls.spliced_nil ⟨I1.kIn, ?_⟩)
  have rc : codeAny (model X.prog X.w) X.A (.call (.ref g) ⟨[.ref f], []⟩) (CR C8.CX0 X.stack X.prog X.w H1 s' Q C8.E0) s' := by
    refine run_ofS (N := Ng) (ps := [y]) (us := [.ref f]) (vs := [.ref f]) lk hcg Sg hr I1.env0 (hb s' [.ref f] I1.kIn rfl) (.cons rfl .nil) rfl fun hr' => ?_
    obtain ⟨t', ht', hq'⟩ := hG f c' s' H1 Q (fun E H' Q' => t E σ H' Q') (fun W pn xe E p1 p2 tk hW => act (i := 0) I1 L hf hfn hfr hD hDn hDr (fun s2 h2 => hbind u D _ _ _ _ _ _ s2 h2) tk hW hr' (fun A outer s H hr2 => hbody A outer s H E f c' hr2) hNg hva hd hcd) hco (h H1 eN T1)
    exact ⟨t', ht'.nox, hq'⟩
  refine wpAny_call (codeAny_mono rc fun r s2 hq => ?_)
  match r, hq with
  | .error e, hq => exact (show False from hq).elim
  | .ok (.ret u), hq => exact I1.after hq
  | .ok .next, hq => exact False.elim hq
  | .ok .brk, hq => exact False.elim hq
  | .ok .cont, hq => exact False.elim hq
end
end LamD
/-! lambdas in more than one def: each def's own code object tells an empty table at the start -/
namespace LamX
open PySem PySem.Spec PyProof.Rows L2
theorem walk_ofOwns {l : PySem.W.OpenLaw} {n k : Nat} {q : Program} {loose : List Str} {XP : (Str → Option Value) → Heap → Prop} {YP : World → Heap → Prop} {d : DefRec} {K : Params → PySem.W.Frag} {CX : World → CXT} {x : Str}
    (few : l.most = some n) (size : n ≤ sizeLine) (plain : d.params.defaults = []) (room : Room k callerA) (ins : ∀ (w : World) (h : Heap), YP w h → (K w.params).In h)
    (F : ∀ (w : World) (mg : Str → Option Value) (fa : Addr) (h : Heap), YP w h → (K w.params).In h → h.Ns mainGlobals mg → mg d.name = some (.ref fa) →
      (∀ (y : Str) (g : Addr), ((recsOf q).any fun e => e.name == y) = true → mg y = some (.ref g) → OwnTab (K w.params) g h) → LawAtS l w (K w.params) (CX w) k n x mg fa h)
    (never : ∀ (w : World) (H : Hp) (s : Shared) (e : Value) (s' : Shared), CX w [] H s (fun _ _ _ => False) e s' → False) :
    PySem.W.WalkO q loose XP YP l.row.toRowW d [] (fun f vs => PySem.call f vs) := by
  refine Att.attach_callB few plain fun w s₀ s₁ mg mb fa o pm cd doc a vs ns G Y ho hd hcd hmg hobj hints hlen hbits hg => ?_
  have inK := ins w _ Y
  obtain ⟨fd, cs, sp, t1, t2, C, hb, hsp, run⟩ := F w mg fa _ Y inK G.T.g hmg fun y g hy hmy c P o1 fd1 e dd vs1 sl k1 k2 k3 k4 k5 => by
    obtain ⟨dL, hm, same⟩ := List.any_eq_true.mp hy
    obtain ⟨a', o', fd', c', P', h1, h2, h3, h4, h5, h6⟩ := G.T.tab dL hm
    rw [beq_iff_eq.mp same, hmy] at h1
    cases h1
    rw [inK _ _ k1] at h2
    cases h2
    rw [k2] at h3
    cases h3
    rw [k3] at h4
    cases h4
    obtain ⟨⟨oc, vc, e1, _, e3, e4⟩, free⟩ := h6
    rw [inK _ _ k4] at e1
    cases e1
    cases e3
    rw [k5] at e4
    cases e4
    exact free
  exact law_callTs inK G.T.g G.T.b G.T.builtins G.T.nolimit hg t1 t2 C G.T.bmain hobj hints (Nat.le_trans hlen size) room run hb (fun H hH hS => hsp H a ns hlen hbits hH hS) fun H e s' => never w H s₁ e s'
end LamX
namespace Say
open PySem PySem.Spec PyProof.Rows L2
/-! ### what a lambda's making leaves -/
theorem KT.extN {H H' : Hp} (e : LamX.ExtN H H') : KT H H' := KT.by fun t u h hu => e t _ h (fun ps z => by rcases hu with ⟨_, rfl⟩ | ⟨_, _, rfl⟩ <;> cases z)
theorem RowAt.extN {K : PySem.W.Frag} {H H' : Hp} {r a : Addr} {ns : List Int} (R : RowAt K H r a ns) (e : LamX.ExtN H H') : RowAt K H' r a ns := by
  obtain ⟨⟨i, c, m, q, b⟩, sc, le⟩ := R
  refine ⟨⟨i, c, m, e _ _ q (fun ps z => by cases z), b⟩, ?_, le⟩
  rcases sc with (sc | ⟨o, sc⟩) | sc
  · exact .inl (.inl (e _ _ sc (fun ps z => by cases z)))
  · exact .inl (.inr ⟨o, e _ _ sc (fun ps z => by cases z)⟩)
  · exact .inr sc
theorem tabs_stp {Tt : List (Addr × Str)} {H H' : Hp} {r a : Addr} (t : LamX.Tabs Tt H) (w : RowIn H r a) (e : Stp r H H') : LamX.Tabs Tt H' := fun p hp => by
  obtain ⟨i, c, m, q, _⟩ := w
  obtain ⟨ps, h1, h2, h3⟩ := t p hp
  refine ⟨ps, e _ _ h1 (ne_of h1 q (by intro z; cases z)), h2, fun pos cv hc => ?_⟩
  obtain ⟨c', e1, e2⟩ := h3 pos cv hc
  exact ⟨c', e1, e _ _ e2 (ne_of e2 q (by intro z; unfold LamX.CodeO at z; cases z))⟩
theorem same_fresh {H H' : Hp} {D : Addr} {o : HO} (e : Same H H') (h : H D = none) : Same H (upd H' D o) := fun b u q => by
  rw [upd_ne (ne_of_none q h)]
  exact e b u q
theorem same_stp {H H' H2 : Hp} {D : Addr} (e : Same H H') (h : H D = none) (s : Stp D H' H2) : Same H H2 := fun b u q => s b u (e b u q) (ne_of_none q h)
end Say
namespace Say
open PySem PySem.Spec PyProof.Rows L2 L2.DX
theorem newHb {H : Hp} {p : Addr} (h : H p = none) (o : HO) : ∃ H', upd H p o = H' ∧ Same H H' ∧ H' p = some o := ⟨_, rfl, same_new h o, upd_same⟩
theorem cutDropB (xs : List V) (k : Nat) : cutV xs (some (k : Int)) none = xs.drop k := by
  unfold cutV
  rw [HT.sIx_none, HT.sIx_nat]
  by_cases h : k ≤ xs.length
  · rw [Nat.min_eq_left h, List.take_of_length_le]
    rw [List.length_drop]
    omega
  · rw [Nat.min_eq_right (by omega), List.drop_eq_nil_of_le (Nat.le_refl _), List.drop_eq_nil_of_le (by omega)]
    exact List.take_nil
/-- tuples stay; lists stay lists -/
structure KpB (K : PySem.W.Frag) (H H' : Hp) : Prop where
  t : ∀ a xs, SqT K H a xs → SqT K H' a xs
  l : ∀ a xs, SqL K H a xs → ∃ ys, SqL K H' a ys
section
variable {K : PySem.W.Frag} {H H' H2 : Hp} {L : List Nat} {v : V}
theorem KpB.trans (a : KpB K H H') (b : KpB K H' H2) : KpB K H H2 := ⟨fun p xs h => b.t p xs (a.t p xs h), fun p xs h => by obtain ⟨ys, h⟩ := a.l p xs h; exact b.l p ys h⟩
theorem KpB.of (s : Same H H') : KpB K H H' := ⟨fun p xs h => seqT_same s h, fun p xs h => ⟨xs, Same.seq s h⟩⟩
theorem KpB.ext (e : LamX.ExtN H H') : KpB K H H' := ⟨fun p xs h => by
  rcases h with (h | ⟨o, h⟩) | h
  · exact .inl (.inl (e _ _ h (fun ps z => by cases z)))
  · exact .inl (.inr ⟨o, e _ _ h (fun ps z => by cases z)⟩)
  · exact .inr h, fun p xs h => ⟨xs, by
  rcases h with (h | ⟨o, h⟩) | h
  · exact .inl (.inl (e _ _ h (fun ps z => by cases z)))
  · exact .inl (.inr ⟨o, e _ _ h (fun ps z => by cases z)⟩)
  · exact .inr h⟩⟩
theorem KpB.stp {r a : Addr} {ns : List Int} (R : RowAt K H r a ns) (s : Stp r H H') (R' : RowAt K H' r a ns) : KpB K H H' := by
  refine ⟨fun p xs h => ?_, fun p xs h => ?_⟩
  · obtain ⟨⟨i, c, m, q, _⟩, _⟩ := R
    rcases h with (h | ⟨o, h⟩) | h
    · exact .inl (.inl (s _ _ h fun z => by rw [z, q] at h; cases h))
    · exact .inl (.inr ⟨o, s _ _ h fun z => by rw [z, q] at h; cases h⟩)
    · exact .inr h
  · by_cases e : p = r
    · obtain ⟨⟨i, c, m, q, _⟩, _⟩ := R'
      exact ⟨_, .inl (.inl (by rw [e]; exact q))⟩
    · exact ⟨xs, Stp.seq s e h⟩
theorem NoTup.kpB (h : NoTup K H v) (s : KpB K H H') : NoTup K H' v := by
  rcases h with h | h | h | ⟨a, xs, h1, h2⟩
  · exact .inl h
  · exact .inr (.inl h)
  · exact .inr (.inr (.inl h))
  · obtain ⟨ys, h⟩ := s.l a xs h2
    exact .inr (.inr (.inr ⟨a, ys, h1, h⟩))
theorem NoLst.kpB (h : NoLst K H v) (s : KpB K H H') : NoLst K H' v := by
  rcases h with h | h | h | ⟨a, xs, h1, h2⟩
  · exact .inl h
  · exact .inr (.inl h)
  · exact .inr (.inr (.inl h))
  · exact .inr (.inr (.inr ⟨a, xs, h1, s.t _ _ h2⟩))
theorem VOk.kpB (h : VOk K H v) (s : KpB K H H') : VOk K H' v := by
  rcases h with h | h | h | ⟨a, xs, h1, h2⟩ | ⟨a, xs, h1, h2⟩
  · exact .inl h
  · exact .inr (.inl h)
  · exact .inr (.inr (.inl h))
  · obtain ⟨ys, h⟩ := s.l a xs h2
    exact .inr (.inr (.inr (.inl ⟨a, ys, h1, h⟩)))
  · exact .inr (.inr (.inr (.inr ⟨a, xs, h1, s.t _ _ h2⟩)))
theorem ExcR.kpB {b : Option (List Nat)} (h : ExcR K H L v b) (s : KpB K H H') : ExcR K H' L v b := by
  rcases h with ⟨h, e⟩ | ⟨t, xs, h1, h2, h3, e⟩ | ⟨t, a, z, h1, h2, h3, h4, h5⟩
  · exact .inl ⟨h.kpB s, e⟩
  · exact .inr (.inl ⟨t, xs, h1, s.t _ _ h2, h3, e⟩)
  · exact .inr (.inr ⟨t, a, z, h1, s.t _ _ h2, h3.kpB s, h4.kpB s, h5⟩)
theorem vok_strB {s : Str} (h : s.cps.size ≤ 100) : VOk K H (.str s) := .inl ⟨s.cps.toList, by
  show V.str s = .str ⟨s.cps.toList.toArray⟩
  rw [Array.toArray_toList], by simpa using h⟩
theorem exc_lenB {p : Addr} {xs : List V} (h : H p = some (.tup xs)) (n : xs.length ≠ 2) : ExcR K H L (.ref p) none := .inr (.inl ⟨p, xs, rfl, .inl (.inl h), n, rfl⟩)
theorem exc_kindB (h : NoTup K H v) : ExcR K H L v none := .inl ⟨h, rfl⟩
theorem exc_badB {p : Addr} {a s : V} (h : H p = some (.tup [a, s])) (l1 : VOk K H a) (l2 : VOk K H s) (bad : excV L a s = false) : ExcR K H L (.ref p) none := .inr (.inr ⟨p, _, _, rfl, .inl (.inl h), l1, l2, .inl ⟨bad, rfl⟩⟩)
theorem exc_goodB {p : Addr} {e : Exc} (h : H p = some (.tup [.str (T e.1), .str (T e.2)])) (o : ExcOk L e) : ExcR K H L (.ref p) (some e.1) := .inr (.inr ⟨p, _, _, rfl, .inl (.inl h), .inl ⟨_, rfl, by have := o.w8; omega⟩, .inl ⟨_, rfl, by have := o.s36; omega⟩, .inr ⟨e.1, rfl, by
  unfold excV
  rw [show txV (.str (T e.1)) L 1 8 = isText e.1 L 1 8 from rfl, isText_of o.w1 o.w8 o.w, show txV (.str (T e.2)) capsL 0 36 = isText e.2 capsL 0 36 from rfl, isText_of (Nat.zero_le _) o.s36 fun c hc => mem_caps (o.s c hc)]
  rfl, rfl⟩⟩)
theorem paired_appB {α β : Type} {F : α → β → Prop} : ∀ {xs : List α} {ys : List β} {us : List α} {ws : List β}, Paired F xs ys → Paired F us ws → Paired F (xs ++ us) (ys ++ ws)
  | _, _, _, _, .nil, h => h
  | _, _, _, _, .cons a r, h => .cons a (paired_appB r h)
/-- good samples, and one among them that is none -/
theorem bad_sample {D : Addr} {ts : List Addr} {ss : List Exc} {k : Nat} (hp : Paired (fun t (e : Exc) => H t = some (.tup [.str (T e.1), .str (T e.2)])) ts ss) (ok : ∀ e ∈ ss, ExcOk L e) (n : ss.length ≤ 11) (hk : k ≤ ss.length) (hD : H D = some (.lst ((ts.map V.ref).take k ++ [v] ++ (ts.map V.ref).drop k))) (bad : ExcR K H L v none) : SmBad K H L (.ref D) k := by
  have lr := paired_len hp
  have good : Paired (ExcR K H L) (ts.map V.ref) (ss.map fun e => some e.1) := by
    clear hD lr n hk
    induction hp with
    | nil => exact .nil
    | @cons t e ts es hH r ih => exact .cons (exc_goodB hH (ok e (List.mem_cons_self ..))) (ih fun e he => ok e (List.mem_cons_of_mem _ he))
  have gt : ∀ m, Paired (ExcR K H L) ((ts.map V.ref).take m) ((ss.map fun e => some e.1).take m) := fun m => paired_takeW m good
  have gd : ∀ (m : Nat) {xs : List V} {ys : List (Option (List Nat))}, Paired (ExcR K H L) xs ys → Paired (ExcR K H L) (xs.drop m) (ys.drop m) := fun m => by
    induction m with
    | zero => exact fun h => h
    | succ m ih => exact fun h => match h with
      | .nil => .nil
      | .cons _ t => ih t
  have lt : ((ss.map fun e => some e.1).take k).length = k := by rw [List.length_take, List.length_map]; omega
  refine .inr ⟨D, _, (ss.map fun e => some e.1).take k ++ [none] ++ (ss.map fun e => some e.1).drop k, rfl, .inl (.inl hD), ?_, paired_appB (paired_appB (gt k) (.cons bad .nil)) (gd k good), ⟨?_, .inr ?_⟩, fun m hm => ?_⟩
  · rw [List.length_append, List.length_append, List.length_take, List.length_drop, List.length_map]
    show _ + 1 + _ ≤ 90
    omega
  · rw [List.length_append, List.length_append, lt]
    show k < k + 1 + _
    omega
  · rw [List.append_assoc, List.getElem?_append_right (by rw [lt]; exact Nat.le_refl _), lt, Nat.sub_self]
    rfl
  · rintro ⟨_, h | h⟩
    · omega
    · rw [List.append_assoc, List.getElem?_append_left (by rw [lt]; exact hm), List.getElem?_take_of_lt hm, List.getElem?_map] at h
      cases he : ss[m]? with
      | none => rw [he] at h; cases h
      | some e => rw [he] at h; cases h
end
theorem kt_ext {H H' : Hp} (e : LamX.ExtN H H') : KT H H' := ⟨fun t xs q => e _ _ q (fun ps z => by cases z), fun t o xs q => e _ _ q (fun ps z => by cases z)⟩
theorem ext_freshB {H H' : Hp} {W : Addr} {o : HO} (e : LamX.ExtN H H') (h : H W = none) : LamX.ExtN H (upd H' W o) := fun b u hb n => by
  rw [upd_ne (ne_of_none hb h)]
  exact e b u hb n
theorem tabs_lstB {Tt : List (Addr × Str)} {H : Hp} {W : Addr} {l l' : List V} (T : LamX.Tabs Tt H) (h : H W = some (.lst l)) : LamX.Tabs Tt (upd H W (.lst l')) := fun p hp => by
  obtain ⟨ps, h1, h2, h3⟩ := T p hp
  refine ⟨ps, by rw [upd_ne fun z => by rw [z, h] at h1; cases h1]; exact h1, h2, fun pos cv hcv => ?_⟩
  obtain ⟨c, e, hc⟩ := h3 pos cv hcv
  exact ⟨c, e, by rw [upd_ne fun z => by rw [z, h] at hc; unfold LamX.CodeO at hc; cases hc]; exact hc⟩
theorem SmBad.ext {K : PySem.W.Frag} {H H' : Hp} {L : List Nat} {v : V} {n : Nat} (h : SmBad K H L v n) (e : LamX.ExtN H H') : SmBad K H' L v n := by
  rcases h with ⟨h, z⟩ | ⟨t, xs, ws, h1, h2, h3, h4, h5, h6⟩
  · exact .inl ⟨h.kpB (.ext e), z⟩
  · refine .inr ⟨t, xs, ws, h1, ?_, h3, paired_mono (fun _ _ q => q.kpB (.ext e)) h4, h5, h6⟩
    rcases h2 with (h2 | ⟨o, h2⟩) | h2
    · exact .inl (.inl (e _ _ h2 (fun ps z => by cases z)))
    · exact .inl (.inr ⟨o, e _ _ h2 (fun ps z => by cases z)⟩)
    · exact .inr h2
/-- thirteen good ones -/
theorem bad_thirteen {K : PySem.W.Frag} {H : Hp} {L : List Nat} {D t : Addr} (ha : 97 ∈ L) (hD : H D = some (.lst (List.replicate 13 (V.ref t)))) (ht : H t = some (.tup [.str "a", .str ""])) : SmBad K H L (.ref D) 12 := by
  have o : ExcOk L (([97], []) : Exc) := ⟨fun c hc => by rw [List.mem_singleton.mp hc]; exact ha, by decide, by decide, (fun c hc => nomatch hc), by decide⟩
  have one : ExcR K H L (.ref t) (some [97]) := exc_goodB (e := ([97], [])) (by rw [ht, show Str.ofString "a" = T [97] by decide +kernel, show Str.ofString "" = T [] from nil_eq]) o
  have all : ∀ m, Paired (ExcR K H L) (List.replicate m (V.ref t)) (List.replicate m (some [97])) := fun m => by
    induction m with
    | zero => exact .nil
    | succ m ih => exact .cons one ih
  refine .inr ⟨D, _, List.replicate 13 (some [97]), rfl, .inl (.inl hD), by rw [List.length_replicate]; decide, all 13, ⟨by rw [List.length_replicate]; decide, .inl rfl⟩, fun m hm => ?_⟩
  rintro ⟨_, h | h⟩
  · omega
  · have := List.mem_of_getElem? h
    rw [List.mem_replicate] at this
    cases this.2
theorem sayW_nil (rs : List Rule) : sayW rs [] = some [] := by
  have : W rs [] = ([], none) := wk_end rs _ _ _ (by decide)
  unfold sayW
  rw [this]
  rfl
theorem writM_none {L : List Nat} {rs : List Rule} {es : List Exc} (ho : BookOk L rs es) : writM rs es (List.replicate 36 90) L 0 = [] := by
  unfold writM
  refine List.filter_eq_nil_iff.mpr fun w hw z => ?_
  have hl := (mem_upto.mp hw).1
  have e : w = [] := List.eq_nil_of_length_eq_zero (by omega)
  subst e
  have z := of_decide_eq_true z
  have hf : es.find? (fun e => decide (e.1 = ([] : List Nat))) = none := List.find?_eq_none.mpr fun e he h => by
    have h := of_decide_eq_true h
    have := (ho.ex e he).w1
    rw [h] at this
    cases this
  unfold saidM at z
  rw [hf] at z
  have z : sayW rs [] = some (List.replicate 36 90) := z
  rw [sayW_nil] at z
  cases z
theorem lay_sm (n : Int) : (PyData.tuple [.str "samples", .int n]).canLay0 = true := by
  show (PyData.strOk "samples" && (true && true)) = true
  decide +kernel
theorem shaped_sm (a b c d : Int) : SeqAt.shaped (.list [.tuple [.str "samples", .int a], .tuple [.str "samples", .int b], .tuple [.str "samples", .int c], .tuple [.str "samples", .int d]]) = true := by
  unfold SeqAt.shaped
  rw [Bool.and_eq_true]
  refine ⟨?_, decide_eq_true ?_⟩
  · show PyData.canLayAll0 [.tuple [.str "samples", .int a], .tuple [.str "samples", .int b], .tuple [.str "samples", .int c], .tuple [.str "samples", .int d]] = true
    simp only [PyData.canLayAll0, lay_sm, Bool.and_self]
  · show max 1 (max 1 (max 1 (max 1 0))) + 1 ≤ 64
    decide
theorem eqv_smB (a b c d : Int) : PyData.eqv (.list [.tuple [.str "samples", .int a], .tuple [.str "samples", .int b], .tuple [.str "samples", .int c], .tuple [.str "samples", .int d]]) (.list [.tuple [.str "samples", .int a], .tuple [.str "samples", .int b], .tuple [.str "samples", .int c], .tuple [.str "samples", .int d]]) = true := SeqAt.eqv_refl _ (SeqAt.canLay_of_shaped (shaped_sm a b c d))
theorem blam_all : natsV (blamM [] (List.replicate 12 (List.replicate 8 97, List.replicate 36 90)) (List.replicate 12 ((List.replicate 8 97, List.replicate 36 90) : Exc)).length) = natsV (List.range 12) := by
  rw [show blamM [] (List.replicate 12 (List.replicate 8 97, List.replicate 36 90)) (List.replicate 12 ((List.replicate 8 97, List.replicate 36 90) : Exc)).length = List.range 12 by decide +kernel]
theorem dp_intsB {K : PySem.W.Frag} {H : Hp} : ∀ ks : List Nat, DpAll K H (ks.map fun k => V.int (k : Nat)) (ks.map fun k => PyData.int (k : Nat))
  | [] => .nil
  | k :: r => .cons (.int _) (dp_intsB r)
theorem shaped_intsB (ks : List Nat) : SeqAt.shaped (.list (ks.map fun k => PyData.int (k : Nat))) = true := by
  have := PySem.W.ke_shaped_ints (ks.map fun k => ((k : Nat) : Int))
  rw [List.map_map] at this
  exact this
theorem rgV_12 : rgV 0 12 = natsV (List.range 12) := rfl
theorem paired_rep {H : Hp} {t : Addr} {e : Exc} (h : H t = some (.tup [.str (T e.1), .str (T e.2)])) : ∀ n, Paired (fun t (e : Exc) => H t = some (.tup [.str (T e.1), .str (T e.2)])) (List.replicate n t) (List.replicate n e)
  | 0 => .nil
  | n + 1 => .cons h (paired_rep h n)
structure BS (K : PySem.W.Frag) (Ts : List (Addr × Str)) (r a : Addr) (ns : List Int) (b Ra : Addr) (L : List Nat) (rs : List Rule) (es : List Exc) (H : Hp) : Prop where
  R : RowAt K H r a ns
  T : LamX.Tabs Ts H
  B : BookAt H b L rs es
  hR : RulesAt H Ra rs
theorem rowExt {K : PySem.W.Frag} {H H' : Hp} {r a : Addr} {ns : List Int} (R : RowAt K H r a ns) (e : LamX.ExtN H H') : RowAt K H' r a ns := by
  obtain ⟨⟨i, c, m, h, q⟩, sc, l⟩ := R
  refine ⟨⟨i, c, m, e _ _ h (fun ps z => by cases z), q⟩, ?_, l⟩
  rcases sc with (sc | ⟨o, sc⟩) | sc
  · exact .inl (.inl (e _ _ sc (fun ps z => by cases z)))
  · exact .inl (.inr ⟨o, e _ _ sc (fun ps z => by cases z)⟩)
  · exact .inr sc
section
variable {K : PySem.W.Frag} {Ts : List (Addr × Str)} {r a b Ra : Addr} {ns : List Int} {L : List Nat} {rs : List Rule} {es : List Exc} {H H' : Hp}
theorem BS.same (h : BS K Ts r a ns b Ra L rs es H) (s : Same H H') : BS K Ts r a ns b Ra L rs es H' := ⟨h.R.stp s, h.T.ext s, h.B.kt (.of s), h.hR.kt (.of s)⟩
theorem BS.stp (h : BS K Ts r a ns b Ra L rs es H) (s : Stp r H H') (R' : RowAt K H' r a ns) : BS K Ts r a ns b Ra L rs es H' := ⟨R', tabs_stp h.T h.R.in s, h.B.kt (h.R.kt s), h.hR.kt (h.R.kt s)⟩
theorem BS.extN (h : BS K Ts r a ns b Ra L rs es H) (e : LamX.ExtN H H') (T' : LamX.Tabs Ts H') : BS K Ts r a ns b Ra L rs es H' := ⟨rowExt h.R e, T', h.B.kt (kt_ext e), h.hR.kt (kt_ext e)⟩
end
section
variable {P : Program} {w : World} {K : PySem.W.Frag} {mg : Str → Option Value} {base : Heap}
theorem told_sm {CM : Addr} {n : Int} {Q : VK} {H : Hp} (WM : WordC K mg CM 8) (h : ∀ (u : Addr) (H8 : Hp), Same H H8 → H8 u = some (.tup [.str "samples", .int n]) → Q (.ref u) H8) : refS CM H (echW K mg Q) n :=
  fun d H' s hd hx => ⟨CM, 8, _, WM, rfl, .inr (.inr (.inr (.inr (.inr ⟨.inl rfl, d, n, rfl, hx, rfl⟩)))), fun u H8 s8 hu => h u H8 (s.trans s8) hu⟩
abbrev sBs : Stmt := topS 111
abbrev nBs : List Str := ["_law_row_here", "_law_book_here", "_law_letters_here", "_law_rules_here", "_law_samples", "_law_odd", "_law_at", "_law_bad", "_law_none", "_law_due", "_law_found", "_law_k"]
theorem scBs : FnScope nBs ["_law_row_here", "_law_book_here"] (defScope sBs) := ⟨rfl, rfl, rfl, by decide +kernel, rfl, by decide +kernel, by decide +kernel⟩
def qLam : Str := (PySem.W.envX "law" (defScope (topS 112)) 0 0 (.ref 0) []).qual ++ "<lambda>"
def qBs : Str := (PySem.W.envX "_law_bad_samples" (defScope sBs) 0 0 (.ref 0) []).qual ++ "<lambda>"
abbrev Ts4 (Pt PT : Addr) : List (Addr × Str) := [(Pt, qLam), (PT, qBs)]
def spBs (K : PySem.W.Frag) (Ts : List (Addr × Str)) : Sp := fun vs H Q _ => ∃ (r a : Addr) (ns : List Int) (b : Addr) (L : List Nat) (rs : List Rule) (es : List Exc), vs = [.ref r, .ref b] ∧ RowAt K H r a ns ∧ LamX.Tabs Ts H ∧ L ∈ lets ∧ BookAt H b L rs es ∧ BookOk L rs es ∧ ∀ H', Q (.bl true) H'
theorem ok_Bs {f cT Pt PT gW CM fLe fBl fWr : Addr} {fdW fdLe fdBl fdWr : FuncData} {oc : Value} {od an : Option Addr} {osl : Array (Option Value)} {kV doc pm ct : Value}
    (lk : K.lookup f = some ⟨oc, od, .func (PySem.W.fnOf "_law_bad_samples" "_law_bad_samples" (defArgs sBs) (defBody sBs) (defScope sBs) .none kV doc pm an (.ref cT) ct), osl⟩) (hcd : PySem.W.codeIn K (.ref cT) "_law_bad_samples" = true)
    (TB : LamX.TabB base mg cT PT) (nP : Pt ≠ PT) (B : Bn mg) (WM : WordC K mg CM 8) (FW : Fun K "_law_word" "_law_word" sLWo gW fdW) (mW : mg "_law_word" = some (.ref gW))
    (GLe : FnOk P w K mg base (L2.CX P w) 6 fLe fdLe ["letters", "rules", "samples"] (spSaX K CM)) (kLe : PySem.W.keepIn K (.ref fLe) = true) (bLe : Binds K fdLe ["letters", "rules", "samples"] []) (mLe : mg "least" = some (.ref fLe))
    (GBl : FnOk P w K mg base (L2.CX P w) 6 fBl fdBl ["letters", "rules", "samples"] (spSaX K CM)) (kBl : PySem.W.keepIn K (.ref fBl) = true) (bBl : Binds K fdBl ["letters", "rules", "samples"] []) (mBl : mg "blamed" = some (.ref fBl))
    (GBlG : FnOk P w K mg base CX0 8 fBl fdBl ["letters", "rules", "samples"] spBl)
    (FWr : FunD K "writings" "writings" (defArgs sWr) (defBody sWr) (defScope sWr) [] [("long", .int 5)] fWr fdWr) (GWr : FnOk P w K mg base CX0 7 fWr fdWr psWr spWr) (mWr : mg "writings" = some (.ref fWr))
    (DT : Df P w K mg base "_law_taken" ["_law_row_here", "_law_many"] 1 (spTaken K)) (DX : Df P w K mg base "_law_text" ["_law_row_here", "_law_signs", "_law_fewest", "_law_many"] 2 (spText K)) :
    FnOk P w K mg base CX0 9 f (PySem.W.fnOf "_law_bad_samples" "_law_bad_samples" (defArgs sBs) (defBody sBs) (defScope sBs) .none kV doc pm an (.ref cT) ct) ["_law_row_here", "_law_book_here"] (spBs K (Ts4 Pt PT)) := by
  obtain ⟨fT, fdT, GT, kT, bT, mT⟩ := DT
  obtain ⟨fX, fdX, GX, kX, bX, mX⟩ := DX
  obtain ⟨mv, kb⟩ := wr_kb FWr
  have kWr := FWr.kp
  obtain ⟨cS, mS, _⟩ := id WM.say
  obtain ⟨ocW, odW, kVW, docW, pmW, anW, cdvW, ctW, oslW, eW, lkW, hcW⟩ := FW.ex
  have kW := FW.kp
  have bW : Binds K fdW ["_law_work"] [] := FW.binds fun _ _ _ _ _ _ us hl => match us, hl with | [_], _ => rfl
  subst eW
  have hmT : (PT, qBs) ∈ Ts4 Pt PT := by simp
  have huT : ∀ p ∈ Ts4 Pt PT, p.1 = PT → p.2 = qBs := fun p hp e => by
    rcases List.mem_cons.mp hp with rfl | hp
    · exact absurd e nP
    · rw [List.mem_singleton.mp hp]
  refine fn_of lk hcd scBs (fun vs H Q E h => ?_) (fun A outer s H vs Q E hr h => ?_)
  · obtain ⟨r, a, ns, b, L, rs, es, rfl, _⟩ := h
    rfl
  · obtain ⟨r, a, ns, b, L, rs, es, rfl, R0, T0, hL, hB, ho, q⟩ := h
    suffices hh : ∃ tt, PSs (cxOf CX0 P w K mg base nBs "_law_bad_samples" (defScope sBs) f (.ref cT) A outer s H E).nox (defBody sBs) tt ∧ tt { nx := fun _ H' => Q .non H', rt := Q } (start nBs [.ref r, .ref b]) H by
      obtain ⟨tt, h1, h2⟩ := hh
      exact ⟨tt, h1.nox, h2⟩
    have hr1 : Room 1 _ := hr.mono (by decide)
    have hr2 : Room 2 _ := hr.mono (by decide)
    have hr7 : Room 7 _ := hr.mono (by decide)
    have hr8 : Room 8 _ := hr
    have r12 := ho.r12
    have oL := ho.lt
    refine ⟨_, pss_cons (ps_asg (pe_slice sl_tupW (pv 1) po_none (po_some pe_int)) (pg_tup (by rfl) (pgs_cons (pg_name (i := 2) scBs.nd rfl (.inr rfl)) (pgs_cons (pg_name (i := 3) scBs.nd rfl (.inr rfl)) pgs_nil))))
      (pss_cons (ps_setLc (i := 4) (own := [("_law_k", 11)]) (g := gName 11) rfl scBs.nd rfl rfl (sw_true rfl rfl rfl (by decide +kernel)) (pi_range1 rfl B.rng (pa_cons (pe_call GT hr1 (by rfl) mT kT bT .nil pass0 (pa_cons (pv 0) (pa_cons pe_int pa_nil))) pa_nil)) (blkOk_by (N := nBs) (sc := defScope sBs) (by decide +kernel)) (fun _ _ _ _ _ => pg_name (i := 11) scBs.nd rfl (.inl rfl)) (fun _ _ _ _ _ => pts_nil) (fun _ _ _ _ _ => (pe_tup (pa_cons (pe_call GX hr2 (by rfl) mX kX bX .nil pass0 (pa_cons (pv 0) (pa_cons (pv 2) (pa_cons pe_int (pa_cons pe_int pa_nil))))) (pa_cons (pe_call GX hr2 (by rfl) mX kX bX .nil pass0 (pa_cons (pv 0) (pa_cons pe_str (pa_cons pe_int (pa_cons pe_int pa_nil))))) pa_nil)))))
      (pss_cons (ps_set (i := 5) scBs.nd rfl (.inl rfl) (pe_lst (pa_cons (pe_tup pa_nil) (pa_cons (pe_tup (pa_cons pe_str (pa_cons pe_str pa_nil))) (pa_cons (pe_tup (pa_cons pe_str (pa_cons pe_str pa_nil))) (pa_cons (pe_tup (pa_cons (pe_op op_repS pe_str pe_int) (pa_cons pe_str pa_nil))) (pa_cons (pe_tup (pa_cons pe_str (pa_cons pe_str pa_nil))) (pa_cons (pe_tup (pa_cons pe_str (pa_cons (pe_op op_repS pe_str pe_int) pa_nil))) (pa_cons (pe_lst (pa_cons pe_str (pa_cons pe_str pa_nil))) (pa_cons pe_non (pa_cons (pe_tup (pa_cons pe_str (pa_cons pe_non pa_nil))) pa_nil)))))))))))
      (pss_cons (ps_set (i := 6) scBs.nd rfl (.inl rfl) (pe_call GT hr1 (by rfl) mT kT bT .nil pass0 (pa_cons (pv 0) (pa_cons (pe_op op_add (pe_callB call_len (by rfl) B.len PySem.boot_len (pa_cons (pv 4) pa_nil)) pe_int) pa_nil))))
      (pss_cons (ps_set (i := 7) scBs.nd rfl (.inr rfl) (pe_op op_cat (pe_op op_cat (pe_slice sl_list (pv 4) po_none (po_some (pv 6))) (pe_lst (pa_cons (pe_ix ix_list (pv 5) (pe_call GT hr1 (by rfl) mT kT bT .nil pass0 (pa_cons (pv 0) (pa_cons pe_int pa_nil))) (fun _ _ => rfl)) pa_nil))) (pe_slice sl_list (pv 4) (po_some (pv 6)) po_none)))
      (pss_cons (ps_set (i := 8) scBs.nd rfl (.inr rfl) (pe_ix ix_list (pe_lst (pa_cons (pe_tup pa_nil) (pa_cons pe_non (pa_cons pe_str (pa_cons (pe_callTy call_tuple_of (by rfl) B.tup (by decide +kernel) (pa_cons (pv 4) pa_nil)) pa_nil))))) (pe_call GT hr1 (by rfl) mT kT bT .nil pass0 (pa_cons (pv 0) (pa_cons pe_int pa_nil))) (fun _ _ => rfl)))
      (pss_cons (ps_set (i := 9) scBs.nd rfl (.inl rfl) (pe_lst (pa_cons (pe_tup (pa_cons pe_str (pa_cons (pv 6) pa_nil))) (pa_cons (pe_tup (pa_cons pe_str (pa_cons (pv 6) pa_nil))) (pa_cons (pe_tup (pa_cons pe_str (pa_cons pe_int pa_nil))) (pa_cons (pe_tup (pa_cons pe_str (pa_cons pe_int pa_nil))) pa_nil))))))
      (pss_cons (ps_set (i := 10) scBs.nd rfl (.inl rfl) (pe_lst (pa_cons (LamX.pe_lamcall (T := Ts4 Pt PT) (k := 6) (t := fun E => tCall (spSaX K CM) [] E (tCons (tVar 2) (tCons (tVar 3) (tCons (tVar 7) tNil)))) (by rfl) mW kW lkW hcW bW scLWo rfl (by exact .inl rfl) (word_gives B mS) TB rfl hmT huT hr8 (LamX.lamS_by (by show LamX.lamSB (defScope sBs) _ = true; decide +kernel)) rfl (fun _ _ _ _ _ => rfl)
            (fun A' outer' s' H' E' f' c' hr' => pe_call (E := E') GLe hr' (by rfl) mLe kLe bLe .nil (passes_call (W := fun cls d _ H => E' cls d H) (takes_of rfl rfl rfl rfl) (fun _ _ _ _ h => h)) (pa_cons (pv 2) (pa_cons (pv 3) (pa_cons (pv 7) pa_nil))))) (pa_cons (LamD.pe_lamcall (Ts := Ts4 Pt PT) (a := "_law_a") (z := 0) (k := 6) (t := fun E => tCall (spSaX K CM) [] E (tCons (tVar 2) (tCons (tVar 3) (tCons (tVar 7) tNil)))) (by rfl) mW kW lkW hcW bW scLWo rfl (by exact .inl rfl) (word_gives B mS) TB rfl hmT huT hr8 (LamD.par_by (by show LamD.parB nBs (defScope sBs) _ _ = true; decide +kernel)) rfl rfl pe_int (fun _ _ _ _ _ _ _ _ _ hD => BindsTo.of_defaults rfl hD rfl rfl rfl)
            (fun A' outer' s' H' E' f' c' hr' => pe_call (E := E') GBl hr' (by rfl) mBl kBl bBl .nil (passes_call (W := fun cls d _ H => E' cls d H) (takes_of rfl rfl rfl rfl) (fun _ _ _ _ h => h)) (pa_cons (pv 2) (pa_cons (pv 3) (pa_cons (pv 7) pa_nil))))) pa_nil))))
      (pss_cons (ps_expr (pe_bm PySem.F.plainAttrs_list PySem.F.slot_list_append PySem.F.type_list_append mt_append (pv 10) (pa_cons (LamD.pe_lamcall (Ts := Ts4 Pt PT) (a := "_law_b") (z := 0) (k := 6) (t := fun E => tCall (spSaX K CM) [] E (tCons (tVar 2) (tCons (tVar 3) (tCons (tVar 8) tNil)))) (by rfl) mW kW lkW hcW bW scLWo rfl (by exact .inl rfl) (word_gives B mS) TB rfl hmT huT hr8 (LamD.par_by (by show LamD.parB nBs (defScope sBs) _ _ = true; decide +kernel)) rfl rfl pe_int (fun _ _ _ _ _ _ _ _ _ hD => BindsTo.of_defaults rfl hD rfl rfl rfl)
            (fun A' outer' s' H' E' f' c' hr' => pe_call (E := E') GBl hr' (by rfl) mBl kBl bBl .nil (passes_call (W := fun cls d _ H => E' cls d H) (takes_of rfl rfl rfl rfl) (fun _ _ _ _ h => h)) (pa_cons (pv 2) (pa_cons (pv 3) (pa_cons (pv 8) pa_nil))))) pa_nil)))
      (pss_cons (ps_expr (pe_bm PySem.F.plainAttrs_list PySem.F.slot_list_append PySem.F.type_list_append mt_append (pv 10) (pa_cons (LamD.pe_lamcall (Ts := Ts4 Pt PT) (a := "_law_c") (z := 0) (k := 6) (t := fun E => tCall (spSaX K CM) [] E (tCons (tVar 2) (tCons (tVar 3) (tCons (tOp rRep (tLst (tCons (tTup (tCons (tC (.str "a")) (tCons (tC (.str "")) tNil))) tNil)) (tC (.int 13))) tNil)))) (by rfl) mW kW lkW hcW bW scLWo rfl (by exact .inl rfl) (word_gives B mS) TB rfl hmT huT hr8 (LamD.par_by (by show LamD.parB nBs (defScope sBs) _ _ = true; decide +kernel)) rfl rfl pe_int (fun _ _ _ _ _ _ _ _ _ hD => BindsTo.of_defaults rfl hD rfl rfl rfl)
            (fun A' outer' s' H' E' f' c' hr' => pe_call (E := E') GBl hr' (by rfl) mBl kBl bBl .nil (passes_call (W := fun cls d _ H => E' cls d H) (takes_of rfl rfl rfl rfl) (fun _ _ _ _ h => h)) (pa_cons (pv 2) (pa_cons (pv 3) (pa_cons (pe_op op_rep (pe_lst (pa_cons (pe_tup (pa_cons pe_str (pa_cons pe_str pa_nil))) pa_nil)) pe_int) pa_nil))))) pa_nil)))
      (pss_cons (ps_if (PW.pt (pw_or (pt_cmpR (op_neD hr.units) (pv 10) (pv 9) (nomark _)) (pw_or1 (pt_cmpR op_gt (pe_callB call_len (by rfl) B.len PySem.boot_len (pa_cons (pe_callN GWr hr7 (by rfl) mWr kWr kb pass0 (pa_cons (pv 1) (pa_cons (pe_op op_repS pe_str pe_int) pa_nil)) (pk_cons pe_int pk_nil)) pa_nil)) pe_int (nomark _))))) (pss_one (ps_ret pe_bl)) pss_nil)
      (pss_one (ps_ret (pe_and (pe_cmpR (op_eqD hr.units) (pe_call GBlG hr8 (by rfl) mBl kBl bBl .nil pass0 (pa_cons (pv 2) (pa_cons (pe_tup pa_nil) (pa_cons (pe_op op_rep (pe_lst (pa_cons (pe_tup (pa_cons (pe_op op_repS pe_str pe_int) (pa_cons (pe_op op_repS pe_str pe_int) pa_nil))) pa_nil)) pe_int) pa_nil)))) (pe_listRg rfl rfl B.lst (prg_1 rfl B.rng pe_int)) (nomark _)) (pe_one (pe_cmpR op_notN (pe_callN GWr hr7 (by rfl) mWr kWr kb pass0 (pa_cons (pv 1) (pa_cons pe_str pa_nil)) (pk_cons pe_int pk_nil)) pe_non (nomark _)))))))))))))))), ?_⟩
    obtain ⟨Ra, Xa, hb, hR, hX⟩ := id hB
    have l4 : L.length ≤ 4 := oL.l4
    have l2 : 2 ≤ L.length := oL.l2
    have h0 : BS K (Ts4 Pt PT) r a ns b Ra L rs es H := ⟨R0, T0, hB, hR⟩
    refine ⟨_, rfl, 2, rfl, b, _, rfl, hb, fun p0 H1 m1 g1 => ?_⟩
    rw [show (2 : Int) = ((2 : Nat) : Int) from rfl, cut_takeW] at g1
    have h1 := h0.same m1
    refine ⟨p0, _, rfl, .inl (.inl g1), rfl, _, _, rfl, _, _, rfl, rfl, ?_⟩
    simp only [L2.start, List.length_cons, List.length_nil, List.map_cons, List.map_nil, Nat.zero_add, Nat.reduceAdd, Nat.reduceSub, List.replicate, List.cons_append, List.nil_append, List.set_cons_succ, List.set_cons_zero]
    refine ⟨_, rfl, r, a, ns, 12, rfl, h1.R, by decide, by decide, fun k1 H2 k0 k12 s2 R2 => ?_⟩
    have h2 := h1.stp s2 R2
    refine ⟨k1, rfl, by omega, by omega, fun D hD => ?_⟩
    have nD := R2.nw hD
    refine lc_it (walk_range) (fun i HX => ∃ (ts : List Addr) (ss : List Exc), HX D = some (.lst (ts.map V.ref)) ∧ Paired (fun t (e : Exc) => HX t = some (.tup [.str (T e.1), .str (T e.2)])) ts ss ∧ (∀ e ∈ ss, ExcOk L e) ∧ ss.length = i ∧ Stp r H2 HX ∧ RowIn HX r a) ?_ (fun _ _ _ _ => trivial) ?_ ?_
    · exact ⟨[], [], upd_same, .nil, (fun e h => nomatch h), rfl, Stp.of (same_new hD _), R2.in.upd nD⟩
    · rintro i x HX HXx hi ⟨ts, ss, e1, e2, e3, e4, e5, e6⟩ ⟨rfl, rfl⟩
      have hi : i < 12 := by have hh : i < k1.toNat := hi; omega
      refine ⟨rfl, ?_⟩
      refine ⟨_, rfl, _, rfl, r, a, ns, L, 1, 8, rfl, R2.of e5 e6, by omega, by omega, by decide, by decide, fun wd H3 w1 w2 w3 s3 R3 => ?_⟩
      refine ⟨_, rfl, r, a, ns, [65, 66, 90], 0, 9, by rw [show Str.ofString "ABZ" = T [65, 66, 90] by decide +kernel]; rfl, R3, by decide, by decide, by decide, by decide, fun so H4 v1 v2 v3 s4 R4 => ?_⟩
      refine ⟨(by show 2 ≤ sizeLine; decide), fun p np => ?_⟩
      obtain ⟨H5, f5, n5, y5⟩ := newHb np (.tup [.str (T wd), .str (T so)])
      rw [show upd H4 p _ = H5 from f5]
      have s35 := s3.trans (s4.trans (.of n5))
      have e1b : H5 D = some (.lst (ts.map V.ref)) := n5 _ _ (s4.one (s3.one e1 nD) nD)
      have kt := (((R2.of e5 e6).kt s3).trans (R3.kt s4)).trans ((KT.of n5).trans (kt_upd e1b (o := .lst (ts.map V.ref ++ [.ref p]))))
      refine ⟨_, e1b, ?_, ts ++ [p], ss ++ [(wd, so)], ?_, ?_, ?_, by simp [e4], (e5.trans s35).put hD _, (R4.stp n5).in.upd nD⟩
      · rw [List.length_map, paired_len e2]
        exact small1000 (by omega)
      · rw [upd_same, List.map_append]
        rfl
      · exact paired_app (paired_mono (fun t e h => kt.1 _ _ h) e2) (.cons ((kt_upd e1b).1 _ _ y5) .nil)
      · intro e he
        rcases List.mem_append.mp he with he | he
        · exact e3 e he
        · rw [List.mem_singleton.mp he]
          refine ⟨w1, w2, by show wd.length ≤ 8; omega, fun c hc => ?_, by show so.length ≤ 36; omega⟩
          have : c ∈ [65, 66, 90] := v1 c hc
          simp only [List.mem_cons, List.not_mem_nil, or_false] at this
          rcases this with rfl | rfl | rfl <;> decide
    rintro H6 ⟨ts, ss, eD, eP, eO, eL, eS, eR⟩
    have R6 := R2.of eS eR
    have h6 := h2.stp eS R6
    have l11 : ss.length ≤ 11 := by omega
    have lts := paired_len eP
    simp only [List.set_cons_succ, List.set_cons_zero]
    refine ⟨(by show 0 ≤ sizeLine; decide), fun p1 np1 => ?_⟩
    obtain ⟨Hq1, e1, m1, g1⟩ := newHb np1 (.tup [])
    rw [show upd H6 p1 _ = Hq1 from e1]
    refine ⟨(by show 2 ≤ sizeLine; decide), fun p2 np2 => ?_⟩
    obtain ⟨Hq2, e2, m2, g2⟩ := newHb np2 (.tup [.str "z", .str "A"])
    rw [show upd Hq1 p2 _ = Hq2 from e2]
    refine ⟨(by show 2 ≤ sizeLine; decide), fun p3 np3 => ?_⟩
    obtain ⟨Hq3, e3, m3, g3⟩ := newHb np3 (.tup [.str "", .str "A"])
    rw [show upd Hq2 p3 _ = Hq3 from e3]
    refine ⟨97, 9, (by decide +kernel), rfl, (by decide), (by decide), ?_⟩
    refine ⟨(by show 2 ≤ sizeLine; decide), fun p4 np4 => ?_⟩
    obtain ⟨Hq4, e4, m4, g4⟩ := newHb np4 (.tup [.str (T (List.replicate 9 97)), .str "A"])
    rw [show upd Hq3 p4 _ = Hq4 from e4]
    refine ⟨(by show 2 ≤ sizeLine; decide), fun p5 np5 => ?_⟩
    obtain ⟨Hq5, e5, m5, g5⟩ := newHb np5 (.tup [.str "a", .str "a"])
    rw [show upd Hq4 p5 _ = Hq5 from e5]
    refine ⟨65, 37, (by decide +kernel), rfl, (by decide), (by decide), ?_⟩
    refine ⟨(by show 2 ≤ sizeLine; decide), fun p6 np6 => ?_⟩
    obtain ⟨Hq6, e6, m6, g6⟩ := newHb np6 (.tup [.str "a", .str (T (List.replicate 37 65))])
    rw [show upd Hq5 p6 _ = Hq6 from e6]
    refine ⟨(by show 2 ≤ sizeLine; decide), fun p7 np7 => ?_⟩
    obtain ⟨Hq7, e7, m7, g7⟩ := newHb np7 (.lst [.str "a", .str "A"])
    rw [show upd Hq6 p7 _ = Hq7 from e7]
    refine ⟨(by show 2 ≤ sizeLine; decide), fun p8 np8 => ?_⟩
    obtain ⟨Hq8, e8, m8, g8⟩ := newHb np8 (.tup [.str "a", .non])
    rw [show upd Hq7 p8 _ = Hq8 from e8]
    refine ⟨(by show 9 ≤ sizeLine; decide), fun p9 np9 => ?_⟩
    obtain ⟨Hq9, e9, m9, g9⟩ := newHb np9 (.lst [.ref p1, .ref p2, .ref p3, .ref p4, .ref p5, .ref p6, .ref p7, .non, .ref p8])
    rw [show upd Hq8 p9 _ = Hq9 from e9]
    simp only [List.set_cons_succ, List.set_cons_zero]
    have hz := h6.same (m1.trans (m2.trans (m3.trans (m4.trans (m5.trans (m6.trans (m7.trans (m8.trans (m9)))))))))
    have nw : r ≠ p9 := h6.R.nw ((m1.trans (m2.trans (m3.trans (m4.trans (m5.trans (m6.trans (m7.trans (m8)))))))).free np9)
    obtain ⟨xs, hlen, gO, hAll⟩ : ∃ xs : List V, xs.length = 9 ∧ Hq9 p9 = some (.lst xs) ∧ ∀ x ∈ xs, ExcR K Hq9 L x none := by
      refine ⟨[.ref p1, .ref p2, .ref p3, .ref p4, .ref p5, .ref p6, .ref p7, .non, .ref p8], rfl, (Same.refl _) _ _ g9, fun x hx => ?_⟩
      simp only [List.mem_cons, List.not_mem_nil, or_false] at hx
      rcases hx with rfl | rfl | rfl | rfl | rfl | rfl | rfl | rfl | rfl
      · exact exc_lenB ((m2.trans (m3.trans (m4.trans (m5.trans (m6.trans (m7.trans (m8.trans (m9)))))))) _ _ g1) (by show ¬ (0 = 2); decide)
      · exact exc_badB ((m3.trans (m4.trans (m5.trans (m6.trans (m7.trans (m8.trans (m9))))))) _ _ g2) (vok_strB (by decide +kernel)) (vok_strB (by decide +kernel)) ((by decide +kernel : ∀ l ∈ lets, excV l (.str "z") (.str "A") = false) _ hL)
      · exact exc_badB ((m4.trans (m5.trans (m6.trans (m7.trans (m8.trans (m9)))))) _ _ g3) (vok_strB (by decide +kernel)) (vok_strB (by decide +kernel)) ((by decide +kernel : ∀ l ∈ lets, excV l (.str "") (.str "A") = false) _ hL)
      · exact exc_badB ((m5.trans (m6.trans (m7.trans (m8.trans (m9))))) _ _ g4) (vok_strB (by decide +kernel)) (vok_strB (by decide +kernel)) ((by decide +kernel : ∀ l ∈ lets, excV l (.str (T (List.replicate 9 97))) (.str "A") = false) _ hL)
      · exact exc_badB ((m6.trans (m7.trans (m8.trans (m9)))) _ _ g5) (vok_strB (by decide +kernel)) (vok_strB (by decide +kernel)) ((by decide +kernel : ∀ l ∈ lets, excV l (.str "a") (.str "a") = false) _ hL)
      · exact exc_badB ((m7.trans (m8.trans (m9))) _ _ g6) (vok_strB (by decide +kernel)) (vok_strB (by decide +kernel)) ((by decide +kernel : ∀ l ∈ lets, excV l (.str "a") (.str (T (List.replicate 37 65))) = false) _ hL)
      · exact exc_kindB (.inr (.inr (.inr ⟨_, _, rfl, .inl (.inl ((m8.trans (m9)) _ _ g7))⟩)))
      · exact exc_kindB (.inl rfl)
      · exact exc_badB ((m9) _ _ g8) (vok_strB (by decide +kernel)) (.inr (.inl rfl)) ((by decide +kernel : ∀ l ∈ lets, excV l (.str "a") (.non) = false) _ hL)
    have gD := (m1.trans (m2.trans (m3.trans (m4.trans (m5.trans (m6.trans (m7.trans (m8.trans (m9))))))))) _ _ eD
    have hp := paired_mono (fun t e h => (m1.trans (m2.trans (m3.trans (m4.trans (m5.trans (m6.trans (m7.trans (m8.trans (m9))))))))) _ _ h) eP
    clear g1 g2 g3 g4 g5 g6 g7 g8 g9 eD eP
    refine ⟨_, rfl, _, rfl, _, _, rfl, .inl ⟨_, .inl (.inl gD), rfl⟩, _, _, rfl, rfl, r, a, ns, _, rfl, hz.R, ?_, ?_, fun at0 HV aV bV sV RV => ?_⟩
    · omega
    · rw [List.length_map]; omega
    rw [List.length_map, lts] at bV
    obtain ⟨pa, rfl⟩ : ∃ n : Nat, at0 = n := ⟨at0.toNat, by omega⟩
    have hV := hz.stp sV RV
    have kpV := KpB.stp hz.R sV RV
    have gDV := sV _ _ gD (Ne.symm nD)
    have gOV := sV _ _ gO (Ne.symm nw)
    have hpV := paired_mono (fun t e h => (hz.R.kt sV).1 _ _ h) hp
    simp only [List.set_cons_succ, List.set_cons_zero]
    refine ⟨_, rfl, _, rfl, pa, rfl, D, _, rfl, .inl (.inl gDV), fun s1 ns1 => ?_⟩
    obtain ⟨K1, f1, n1, y1⟩ := newHb ns1 (.lst (cutV (ts.map V.ref) none (some (pa : Int))))
    rw [f1]
    rw [cut_takeW] at y1
    have j1 := hV.same n1
    have ns1r : r ≠ s1 := hV.R.nw ns1
    refine ⟨_, rfl, _, rfl, r, a, ns, 9, rfl, j1.R, by decide, by decide, fun k9 HP a9 b9 sP RP => ?_⟩
    have jP := j1.stp sP RP
    obtain ⟨x, hx⟩ : ∃ x, xs[k9.toNat]? = some x := ⟨_, List.getElem?_eq_getElem (by omega)⟩
    have bad := (((hAll x (List.mem_of_getElem? hx)).kpB kpV).kpB (.of n1)).kpB (KpB.stp j1.R sP RP)
    have kP := j1.R.kt sP
    refine ⟨p9, _, k9, x, rfl, rfl, .inl (.inl (sP _ _ (n1 _ _ gOV) (Ne.symm nw))), at_of (j := k9.toNat) (by omega) hx, ?_⟩
    refine ⟨(by show 1 ≤ sizeLine; decide), fun s2' ns2 => ?_⟩
    obtain ⟨K2, f2, n2, y2⟩ := newHb ns2 (.lst [x])
    rw [show upd HP s2' _ = K2 from f2]
    have y1P := sP _ _ y1 (Ne.symm ns1r)
    refine ⟨s1, s2', _, _, rfl, rfl, n2 _ _ y1P, y2, ?_, fun s3' ns3 => ?_⟩
    · rw [List.length_take, List.length_map]
      show _ + 1 ≤ _
      exact small (by omega)
    obtain ⟨K3, f3, n3, y3⟩ := newHb ns3 (.lst ((ts.map V.ref).take pa ++ [x]))
    rw [f3]
    have gDP := sP _ _ (n1 _ _ gDV) (Ne.symm nD)
    have hpP := paired_mono (fun t e h => kP.1 _ _ (n1 _ _ h)) hpV
    refine ⟨_, rfl, _, rfl, pa, rfl, D, _, rfl, .inl (.inl ((n2.trans n3) _ _ gDP)), fun s4' ns4 => ?_⟩
    obtain ⟨K4, f4, n4, y4⟩ := newHb ns4 (.lst (cutV (ts.map V.ref) (some (pa : Int)) none))
    rw [f4]
    rw [cutDropB] at y4
    refine ⟨s3', s4', _, _, rfl, rfl, n4 _ _ y3, y4, ?_, fun BL nBL => ?_⟩
    · rw [List.length_append, List.length_take, List.length_drop, List.length_map]
      show _ + 1 + _ ≤ _
      exact small (by omega)
    obtain ⟨K5, f5, n5, yB⟩ := newHb nBL (.lst ((ts.map V.ref).take pa ++ [x] ++ (ts.map V.ref).drop pa))
    rw [f5]
    have m25 := n2.trans (n3.trans (n4.trans n5))
    have j5 := jP.same m25
    have nB : r ≠ BL := jP.R.nw ((n2.trans (n3.trans n4)).free nBL)
    have gD5 := m25 _ _ gDP
    have hp5 := paired_mono (fun t e h => m25 _ _ h) hpP
    have bad5 := bad.kpB (.of m25)
    clear y1 y2 y3 y4 y1P bad hAll gO gOV gDV gD gDP hp hpV hpP hz hV j1 jP h0 h1 h2 h6 hR hX hb R0 T0 hB g1
    simp only [List.set_cons_succ, List.set_cons_zero]
    refine ⟨(by show 0 ≤ sizeLine; decide), fun t1 nt1 => ?_⟩
    obtain ⟨M1, c1, o1, z1⟩ := newHb nt1 (.tup [])
    rw [show upd K5 t1 _ = M1 from c1]
    refine ⟨_, rfl, D, _, rfl, .inl ⟨.inl (.inl (o1 _ _ gD5)), fun t2 nt2 => ?_⟩⟩
    obtain ⟨M2, c2, o2, z2⟩ := newHb nt2 (.tup (ts.map V.ref))
    rw [c2]
    refine ⟨(by show 4 ≤ sizeLine; decide), fun nl nnl => ?_⟩
    obtain ⟨M3, c3, o3, z3⟩ := newHb nnl (.lst [.ref t1, .non, .str "a", .ref t2])
    rw [show upd M2 nl _ = M3 from c3]
    have m53 := o1.trans (o2.trans o3)
    have j6 := j5.same m53
    have nnr : r ≠ nl := j5.R.nw ((o1.trans o2).free nnl)
    obtain ⟨us, ulen, gU, hU⟩ : ∃ us : List V, us.length = 4 ∧ M3 nl = some (.lst us) ∧ ∀ u ∈ us, NoLst K M3 u := by
      refine ⟨[.ref t1, .non, .str "a", .ref t2], rfl, z3, fun u hu => ?_⟩
      simp only [List.mem_cons, List.not_mem_nil, or_false] at hu
      rcases hu with rfl | rfl | rfl | rfl
      · exact .inr (.inr (.inr ⟨t1, _, rfl, .inl (.inl ((o2.trans o3) _ _ z1))⟩))
      · exact .inl rfl
      · exact .inr (.inl ⟨_, rfl⟩)
      · exact .inr (.inr (.inr ⟨t2, _, rfl, .inl (.inl (o3 _ _ z2))⟩))
    refine ⟨_, rfl, r, a, ns, 4, rfl, j6.R, by decide, by decide, fun k4 M4 a4 b4 s4 R4 => ?_⟩
    have j7 := j6.stp s4 R4
    obtain ⟨nv, hnv⟩ : ∃ x, us[k4.toNat]? = some x := ⟨_, List.getElem?_eq_getElem (by omega)⟩
    have hN := (hU nv (List.mem_of_getElem? hnv)).kpB (KpB.stp j6.R s4 R4)
    refine ⟨nl, _, k4, nv, rfl, rfl, .inl (.inl (s4 _ _ gU (Ne.symm nnr))), at_of (j := k4.toNat) (by omega) hnv, ?_⟩
    have k64 := j6.R.kt s4
    have yB7 := s4 _ _ (m53 _ _ yB) (Ne.symm nB)
    have hp7 := paired_mono (fun t e h => k64.1 _ _ (m53 _ _ h)) hp5
    have bad7 := (bad5.kpB (.of m53)).kpB (KpB.stp j6.R s4 R4)
    clear hU gU z1 z2 z3 bad5 hp5 gD5 yB j5 j6
    simp only [List.set_cons_succ, List.set_cons_zero]
    refine ⟨_, rfl, (by show 2 ≤ sizeLine; decide), fun d0 nd0 => ?_⟩
    obtain ⟨N0, q0, u0, x0⟩ := newHb nd0 (.tup [.str "samples", .int (pa : Nat)])
    rw [show upd M4 d0 _ = N0 from q0]
    refine ⟨_, rfl, (by show 2 ≤ sizeLine; decide), fun d1 nd1 => ?_⟩
    obtain ⟨N1, q1, u1, x1⟩ := newHb nd1 (.tup [.str "samples", .int (pa : Nat)])
    rw [show upd N0 d1 _ = N1 from q1]
    refine ⟨(by show 2 ≤ sizeLine; decide), fun d2 nd2 => ?_⟩
    obtain ⟨N2, q2, u2, x2⟩ := newHb nd2 (.tup [.str "samples", .int 0])
    rw [show upd N1 d2 _ = N2 from q2]
    refine ⟨(by show 2 ≤ sizeLine; decide), fun d3 nd3 => ?_⟩
    obtain ⟨N3, q3, u3, x3⟩ := newHb nd3 (.tup [.str "samples", .int 12])
    rw [show upd N2 d3 _ = N3 from q3]
    refine ⟨(by show 4 ≤ sizeLine; decide), fun DU nDU => ?_⟩
    obtain ⟨N4, q4, u4, x4⟩ := newHb nDU (.lst [.ref d0, .ref d1, .ref d2, .ref d3])
    rw [show upd N3 DU _ = N4 from q4]
    have m4n := u0.trans (u1.trans (u2.trans (u3.trans u4)))
    have g0 := (u1.trans (u2.trans (u3.trans u4))) _ _ x0
    have g1 := (u2.trans (u3.trans u4)) _ _ x1
    have g2 := (u3.trans u4) _ _ x2
    have g3 := u4 _ _ x3
    have j8 := j7.same m4n
    have hSm : SmBad K N4 L (.ref BL) pa := bad_sample (paired_mono (fun t e h => m4n _ _ h) hp7) eO l11 (by omega) (m4n _ _ yB7) (bad7.kpB (.of m4n))
    have hSn : SmBad K N4 L nv 0 := .inl ⟨hN.kpB (.of m4n), rfl⟩
    clear x0 x1 x2 x3 hN bad7 hp7 yB7 j7 m4n u0 u1 u2 u3 u4
    simp only [List.set_cons_succ, List.set_cons_zero]
    refine ⟨j8.T, fun Y1 y1 T1 => ?_⟩
    have jy1 := j8.extN y1 T1
    intro Dw1 nDw1 post1 hpost1
    have sw1 := same_new nDw1 (.lst [])
    refine ⟨_, rfl, _, rfl, _, rfl, L, Ra, rs, (.ref BL), pa, rfl, oL, (jy1.same sw1).hR, ho.rl, r12, fun H' s' => ((hSm.ext y1).ext (.of (sw1.trans s'))), told_sm WM fun u1 A1 s1 hu1 => ?_⟩
    have sa1 := sw1.trans s1
    have ja1 := jy1.same sa1
    have ee1 : LamX.ExtN _ A1 := LamX.ExtN.trans y1 (LamX.ExtN.of sa1)
    have g0 := ee1 _ _ g0 (fun ps z => by cases z)
    have g1 := ee1 _ _ g1 (fun ps z => by cases z)
    have g2 := ee1 _ _ g2 (fun ps z => by cases z)
    have g3 := ee1 _ _ g3 (fun ps z => by cases z)
    have x4 := ee1 _ _ x4 (fun ps z => by cases z)
    have hSm := hSm.ext ee1
    have hSn := hSn.ext ee1
    refine ⟨ja1.T, fun Y2 y2 T2 => ?_⟩
    have jy2 := ja1.extN y2 T2
    intro Dw2 nDw2 post2 hpost2
    have sw2 := same_new nDw2 (.lst [])
    refine ⟨_, rfl, _, rfl, _, rfl, L, Ra, rs, (.ref BL), pa, rfl, oL, (jy2.same sw2).hR, ho.rl, r12, fun H' s' => ((hSm.ext y2).ext (.of (sw2.trans s'))), told_sm WM fun u2 A2 s2 hu2 => ?_⟩
    have sa2 := sw2.trans s2
    have ja2 := jy2.same sa2
    have ee2 : LamX.ExtN _ A2 := LamX.ExtN.trans y2 (LamX.ExtN.of sa2)
    have g0 := ee2 _ _ g0 (fun ps z => by cases z)
    have g1 := ee2 _ _ g1 (fun ps z => by cases z)
    have g2 := ee2 _ _ g2 (fun ps z => by cases z)
    have g3 := ee2 _ _ g3 (fun ps z => by cases z)
    have x4 := ee2 _ _ x4 (fun ps z => by cases z)
    have hu1 := ee2 _ _ hu1 (fun ps z => by cases z)
    have hSn := hSn.ext ee2
    refine ⟨(by show 2 ≤ sizeLine; decide), fun FD nFD => ?_⟩
    obtain ⟨A3, c3, o3, gF⟩ := newHb nFD (.lst [.ref u1, .ref u2])
    rw [show upd A2 FD _ = A3 from c3]
    have ja3 := ja2.same o3
    have hSn3 := hSn.ext (.of o3)
    simp only [List.set_cons_succ, List.set_cons_zero]
    refine ⟨_, rfl, .inl ⟨rfl, _, .inl (.inl gF)⟩, ?_⟩
    refine ⟨ja3.T, fun Y4 y4 T4 => ?_⟩
    have jy4 := ja3.extN y4 T4
    intro Dw4 nDw4 post4 hpost4
    have sw4 := same_new nDw4 (.lst [])
    refine ⟨_, rfl, _, rfl, _, rfl, L, Ra, rs, nv, 0, rfl, oL, (jy4.same sw4).hR, ho.rl, r12, fun H' s' => ((hSn3.ext y4).ext (.of (sw4.trans s'))), told_sm WM fun u4 A4 s4 hu4 => ?_⟩
    have sa4 := sw4.trans s4
    have ja4 := jy4.same sa4
    have ee4 : LamX.ExtN _ A4 := LamX.ExtN.trans y4 (LamX.ExtN.of sa4)
    have gF4 := ee4 _ _ gF (fun ps z => by cases z)
    refine ⟨FD, _, _, rfl, rfl, gF4, (by show 2 < sizeLine; decide), ?_⟩
    have eF : LamX.ExtN A2 (upd A4 FD (.lst ([.ref u1, .ref u2] ++ [.ref u4]))) := ext_freshB (LamX.ExtN.trans (.of o3) ee4) nFD
    have jb := ja2.extN eF (tabs_lstB ja4.T gF4)
    have g0 := eF _ _ g0 (fun ps z => by cases z)
    have g1 := eF _ _ g1 (fun ps z => by cases z)
    have g2 := eF _ _ g2 (fun ps z => by cases z)
    have g3 := eF _ _ g3 (fun ps z => by cases z)
    have x4 := eF _ _ x4 (fun ps z => by cases z)
    have hu1 := eF _ _ hu1 (fun ps z => by cases z)
    have hu2 := eF _ _ hu2 (fun ps z => by cases z)
    have hu4 := (kt_upd gF4 (o := .lst ([.ref u1, .ref u2] ++ [.ref u4]))).1 _ _ hu4
    have gF5 : (upd A4 FD (.lst ([.ref u1, .ref u2] ++ [.ref u4]))) FD = some (.lst [.ref u1, .ref u2, .ref u4]) := upd_same
    generalize upd A4 FD (.lst ([V.ref u1, .ref u2] ++ [.ref u4])) = B1 at jb g0 g1 g2 g3 x4 hu1 hu2 hu4 gF5 ⊢
    simp only [List.set_cons_succ, List.set_cons_zero]
    refine ⟨_, rfl, .inl ⟨rfl, _, .inl (.inl gF5)⟩, ?_⟩
    refine ⟨jb.T, fun Y6 y6 T6 => ?_⟩
    have jy6 := jb.extN y6 T6
    intro Dw6 nDw6 post6 hpost6
    have sw6 := same_new nDw6 (.lst [])
    refine ⟨_, rfl, _, rfl, (by show 2 ≤ sizeLine; decide), fun tu ntu => ?_⟩
    obtain ⟨P1, b1, v1', w1'⟩ := newHb ntu (.tup [.str "a", .str ""])
    rw [show upd (upd Y6 Dw6 (.lst [])) tu _ = P1 from b1]
    refine ⟨(by show 1 ≤ sizeLine; decide), fun tl ntl => ?_⟩
    obtain ⟨P2, b2, v2', w2'⟩ := newHb ntl (.lst [.ref tu])
    rw [show upd P1 tl _ = P2 from b2]
    refine ⟨tl, 13, [.ref tu], rfl, rfl, w2', by decide, by decide, (by show 1 * 13 ≤ sizeLine; decide), fun l13 nl13 => ?_⟩
    obtain ⟨P3, b3, v3', w3'⟩ := newHb nl13 (.lst (List.replicate (13 : Int).toNat [V.ref tu]).flatten)
    rw [show upd P2 l13 _ = P3 from b3]
    have w3'' : P3 l13 = some (.lst (List.replicate 13 (V.ref tu))) := w3'
    have sp3 := sw6.trans (v1'.trans (v2'.trans v3'))
    have h97 : 97 ∈ L := (by decide +kernel : ∀ l ∈ lets, 97 ∈ l) L hL
    refine ⟨L, Ra, rs, .ref l13, 12, rfl, oL, (jy6.same sp3).hR, ho.rl, r12, fun H' s' => (bad_thirteen (K := K) h97 w3'' ((v2'.trans v3') _ _ w1')).ext (.of s'), told_sm WM fun u6 A6 s6 hu6 => ?_⟩
    have sa6 := sp3.trans s6
    have ja6 := jy6.same sa6
    have ee6 : LamX.ExtN _ A6 := LamX.ExtN.trans y6 (LamX.ExtN.of sa6)
    have gF6 := ee6 _ _ gF5 (fun ps z => by cases z)
    refine ⟨FD, _, _, rfl, rfl, gF6, (by show 3 < sizeLine; decide), ?_⟩
    have g0 := ee6 _ _ g0 (fun ps z => by cases z)
    have g1 := ee6 _ _ g1 (fun ps z => by cases z)
    have g2 := ee6 _ _ g2 (fun ps z => by cases z)
    have g3 := ee6 _ _ g3 (fun ps z => by cases z)
    have x4 := ee6 _ _ x4 (fun ps z => by cases z)
    have hu1 := ee6 _ _ hu1 (fun ps z => by cases z)
    have hu2 := ee6 _ _ hu2 (fun ps z => by cases z)
    have hu4 := ee6 _ _ hu4 (fun ps z => by cases z)
    have ktF : KT A6 (upd A6 FD (.lst ([.ref u1, .ref u2, .ref u4] ++ [.ref u6]))) := kt_upd gF6
    have g0 := ktF.1 _ _ g0
    have g1 := ktF.1 _ _ g1
    have g2 := ktF.1 _ _ g2
    have g3 := ktF.1 _ _ g3
    have hu1 := ktF.1 _ _ hu1
    have hu2 := ktF.1 _ _ hu2
    have hu4 := ktF.1 _ _ hu4
    have hu6 := ktF.1 _ _ hu6
    have nFU : DU ≠ FD := fun z => by rw [z, gF6] at x4; cases x4
    have x4 : (upd A6 FD (.lst ([.ref u1, .ref u2, .ref u4] ++ [.ref u6]))) DU = some (.lst [.ref d0, .ref d1, .ref d2, .ref d3]) := by rw [upd_ne nFU]; exact x4
    have gF7 : (upd A6 FD (.lst ([.ref u1, .ref u2, .ref u4] ++ [.ref u6]))) FD = some (.lst [.ref u1, .ref u2, .ref u4, .ref u6]) := upd_same
    have hB7 := ja6.B.kt ktF
    generalize upd A6 FD (.lst ([V.ref u1, .ref u2, .ref u4] ++ [.ref u6])) = B2 at hB7 g0 g1 g2 g3 x4 hu1 hu2 hu4 hu6 gF7 ⊢
    simp only [List.set_cons_succ, List.set_cons_zero]
    have hu4 : B2 u4 = some (.tup [.str "samples", .int 0]) := hu4
    have hu6 : B2 u6 = some (.tup [.str "samples", .int 12]) := hu6
    have dpS : ∀ {u : Addr} {n : Int}, B2 u = some (.tup [.str "samples", .int n]) → Dp K B2 (.ref u) (.tuple [.str "samples", .int n]) := fun h => .tup (.inl (.inl h)) (.cons (.str _) (.cons (.int _) .nil))
    refine ⟨_, rfl, _, rfl, _, _, .lst (.inl (.inl gF7)) (.cons (dpS hu1) (.cons (dpS hu2) (.cons (dpS hu4) (.cons (dpS hu6) .nil)))), .lst (.inl (.inl x4)) (.cons (dpS g0) (.cons (dpS g1) (.cons (dpS g2) (.cons (dpS g3) .nil)))), shaped_sm _ _ _ _, shaped_sm _ _ _ _, _, rfl, ite2 (fun c => absurd (show (!PyData.eqv _ _) = true from c) (by rw [eqv_smB]; decide)) (fun _ => ?_)⟩
    refine ⟨_, rfl, 90, 36, (by decide +kernel), rfl, by decide, by decide, rfl, rfl, b, L, rs, es, List.replicate 36 90, 0, rfl, hB7, ho, (fun c hc => by rw [(List.mem_replicate.mp hc).2]; decide), by decide, by decide, fun WD B3 sB nWD hWD => ?_⟩
    rw [writM_none ho] at hWD
    refine ⟨_, _, rfl, .inl ⟨_, .inl (.inl hWD), rfl⟩, _, _, rfl, rfl, _, rfl, ite2 (fun c => absurd c (by decide)) (fun _ => ?_)⟩
    refine ⟨_, rfl, (by show 0 ≤ sizeLine; decide), fun q0 nq0 => ?_⟩
    obtain ⟨C1, c1, r1, y1⟩ := newHb nq0 (.tup [])
    rw [show upd B3 q0 _ = C1 from c1]
    refine ⟨97, 8, (by decide +kernel), rfl, by decide, by decide, 90, 36, (by decide +kernel), rfl, by decide, by decide, (by show 2 ≤ sizeLine; decide), fun q1 nq1 => ?_⟩
    obtain ⟨C2, c2, r2, y2⟩ := newHb nq1 (.tup [.str (T (List.replicate 8 97)), .str (T (List.replicate 36 90))])
    rw [show upd C1 q1 _ = C2 from c2]
    refine ⟨(by show 1 ≤ sizeLine; decide), fun q2 nq2 => ?_⟩
    obtain ⟨C3, c3, r3, y3⟩ := newHb nq2 (.lst [.ref q1])
    rw [show upd C2 q2 _ = C3 from c3]
    refine ⟨q2, 12, [.ref q1], rfl, rfl, y3, by decide, by decide, (by show 1 * 12 ≤ sizeLine; decide), fun q3 nq3 => ?_⟩
    obtain ⟨C4, c4, r4, y4⟩ := newHb nq3 (.lst (List.replicate (12 : Int).toNat [V.ref q1]).flatten)
    rw [show upd C3 q3 _ = C4 from c4]
    have y4 : C4 q3 = some (.lst ((List.replicate 12 q1).map V.ref)) := y4
    have y2 := (r3.trans r4) _ _ y2
    have h97 : 97 ∈ L := (by decide +kernel : ∀ l ∈ lets, 97 ∈ l) L hL
    have oe : ExcOk L ((List.replicate 8 97, List.replicate 36 90) : Exc) := ⟨fun c hc => by rw [(List.mem_replicate.mp hc).2]; exact h97, by decide, by decide, (fun c hc => by rw [(List.mem_replicate.mp hc).2]; decide), by decide⟩
    refine ⟨L, q0, q3, [], List.replicate 12 (List.replicate 8 97, List.replicate 36 90), rfl, oL, ⟨[], (r2.trans (r3.trans r4)) _ _ y1, .nil⟩, (fun _ h => nomatch h), by decide, ⟨List.replicate 12 q1, y4, paired_rep y2 12⟩, (fun e he => by rw [(List.mem_replicate.mp he).2]; exact oe), by decide, fun BD C5 s5 nBD hBD => ?_⟩
    rw [blam_all] at hBD
    refine ⟨12, rfl, RgOk.of_le (by decide) (by decide) (by decide) (by decide), fun q5 nq5 => ?_⟩
    obtain ⟨C6, c6, r6, y6⟩ := newHb nq5 (.lst (rgV 0 12))
    rw [show upd C5 q5 _ = C6 from c6]
    rw [rgV_12] at y6
    have hBD := r6 _ _ hBD
    refine ⟨_, _, .lst (.inl (.inl hBD)) (dp_intsB _), .lst (.inl (.inl y6)) (dp_intsB _), shaped_intsB _, shaped_intsB _, _, rfl, ite2 (fun _ => ?_) (fun c => absurd (SeqAt.eqv_refl _ (SeqAt.canLay_of_shaped (shaped_intsB _))) c)⟩
    have hB9 := hB7.kt (.of (sB.trans (r1.trans (r2.trans (r3.trans (r4.trans (s5.trans r6)))))))
    refine ⟨_, rfl, rfl, rfl, b, L, rs, es, [], 7, by rw [show Str.ofString "" = T [] from nil_eq]; rfl, hB9, ho, (fun _ h => nomatch h), by decide, by decide, fun W2 H9 s9 n9 h9 => ?_⟩
    refine ⟨rfl, ?_⟩
    exact q H9
end
end Say
namespace Say
open PySem PySem.Spec PyProof.Rows L2 L2.DX
section
variable {K : PySem.W.Frag} {H H' : Hp} {L : List Nat}
theorem letsB_ok (h : L ∈ lets) : letV (.str (T L)) = true ∧ L.length ≤ 4 := by
  have : ∀ l ∈ lets, letV (.str (T l)) = true ∧ l.length ≤ 4 := by decide +kernel
  exact this L h
theorem rulB_good {p : Addr} {ρ : Rule} (hL : L ∈ lets) (h : H p = some (.tup ρ.vs)) (o : RuleOk L ρ) : RulR K H L (.ref p) true := by
  have l4 := (letsB_ok hL).2
  have hs : ∀ l ∈ lets, ∀ z, z.Sublist (35 :: l) → rises z = true := fun l hl z hz => (rises_iff _).mpr (((rises_iff _).mp ((by decide +kernel : ∀ l ∈ lets, rises (35 :: l) = true) l hl)).sublist hz)
  have hb : ∀ z : List Nat, z.Sublist (35 :: L) → besV L (.str (T z)) = true := fun z hz => by
    show (isText z (35 :: L) 0 (L.length + 1) && rises z) = true
    rw [isText_of (Nat.zero_le _) (by have := hz.length_le; simpa using this) fun c hc => hz.subset hc, hs L hL z hz]
    rfl
  have sl : ∀ z : List Nat, z.Sublist (35 :: L) → z.length ≤ 100 := fun z hz => by have := hz.length_le; rw [List.length_cons] at this; omega
  refine .inr (.inr ⟨p, .str (T ρ.ah), .str (T ρ.ow), .str (T ρ.be), .str (T ρ.so), rfl, .inl (.inl h), .inl ⟨_, rfl, sl _ o.ah⟩, .inl ⟨_, rfl, by have := o.o2; omega⟩, .inl ⟨_, rfl, sl _ o.be⟩, .inl ⟨_, rfl, by have := o.s3; omega⟩, ?_⟩)
  unfold rulV
  rw [hb _ o.ah, hb _ o.be, show txV (.str (T ρ.ow)) L 1 2 = isText ρ.ow L 1 2 from rfl, isText_of o.o1 o.o2 o.ow, show txV (.str (T ρ.so)) capsL 0 3 = isText ρ.so capsL 0 3 from rfl, isText_of (Nat.zero_le _) o.s3 fun c hc => mem_caps (o.so c hc)]
  rfl
theorem pairedB_trues {xs : List V} (h : ∀ x ∈ xs, RulR K H L x true) : Paired (RulR K H L) xs (List.replicate xs.length true) := by
  induction xs with
  | nil => exact .nil
  | cons x r ih => exact .cons (h x (List.mem_cons_self ..)) (ih fun y hy => h y (List.mem_cons_of_mem _ hy))
theorem rsB_good {R : Addr} {rs : List Rule} (hL : L ∈ lets) (h : RulesAt H R rs) (ok : ∀ ρ ∈ rs, RuleOk L ρ) (n : rs.length ≤ 12) : ∃ o, RsR K H L (.ref R) o ∧ ∀ k, ¬ badRs o k := by
  obtain ⟨ts, h1, h2⟩ := h
  have lr := paired_len h2
  refine ⟨_, .inr ⟨R, ts.map V.ref, _, rfl, .inl (.inl h1), by rw [List.length_map]; omega, pairedB_trues fun x hx => ?_, rfl⟩, fun k hk => ?_⟩
  · obtain ⟨t, ht, rfl⟩ := List.mem_map.mp hx
    obtain ⟨j, hj⟩ := List.mem_iff_getElem?.mp ht
    obtain ⟨ρ, hρ, hH⟩ := paired_at h2 hj
    exact rulB_good hL hH (ok ρ (List.mem_of_getElem? hρ))
  · obtain ⟨k1, k2⟩ := hk
    rw [List.length_replicate, List.length_map] at k1
    rcases k2 with k2 | k2
    · omega
    · have := List.mem_of_getElem? k2
      rw [List.mem_replicate] at this
      exact absurd this.2 (by decide)
theorem esB_good {X : Addr} {es : List Exc} (h : ExcsAt H X es) (ok : ∀ e ∈ es, ExcOk L e) (n : es.length ≤ 8) (up : es.Pairwise fun e f => e.1 < f.1) : ∃ o, EsR K H L (.ref X) o ∧ ∀ k, ¬ badEs o k := by
  obtain ⟨ts, ⟨ob, h1, _⟩, h2⟩ := h
  have lr := paired_len h2
  have hv : Paired (ExcR K H L) (ts.map V.ref) (es.map fun e => some e.1) := by
    clear n up h1 lr
    induction h2 with
    | nil => exact .nil
    | @cons t e ts es hH r ih => exact .cons (exc_goodB hH (ok e (List.mem_cons_self ..))) (ih fun e he => ok e (List.mem_cons_of_mem _ he))
  refine ⟨some (es.map fun e => some e.1), .inr ⟨X, _, _, rfl, .inl (.inr ⟨ob, h1⟩), by rw [List.length_map]; omega, hv, rfl⟩, fun m hm => ?_⟩
  obtain ⟨k, h | h | ⟨z, h, nz⟩⟩ := hm
  · rw [List.length_map] at k
    omega
  · rw [List.getElem?_map] at h
    cases he : es[m]? with
    | none => rw [he] at h; cases h
    | some e => rw [he] at h; cases h
  · rw [List.getElem?_map] at h
    cases he : es[m]? with
    | none => rw [he] at h; cases h
    | some e =>
      rw [he] at h
      cases h
      apply nz
      cases m with
      | zero =>
        have := (ok e (List.mem_of_getElem? he)).w1
        show ([] : List Nat) < e.1
        cases hz : e.1 with
        | nil => rw [hz] at this; cases this
        | cons a l => exact List.nil_lt_cons a l
      | succ m =>
        obtain ⟨lt, eq⟩ := List.getElem?_eq_some_iff.mp he
        have hm1 : m < es.length := by omega
        have e1 : lastW (es.map fun e => some e.1) (m + 1) = (es[m]'hm1).1 := by
          show ((es.map fun e => some e.1).getD m none).getD [] = _
          rw [List.getD_eq_getElem?_getD, List.getElem?_map, List.getElem?_eq_getElem hm1]
          rfl
        rw [e1, ← eq]
        exact List.pairwise_iff_getElem.mp up m (m + 1) hm1 lt (Nat.lt_succ_self m)
theorem lets_vokB (hL : L ∈ lets) : VOk K H (.str (T L)) := .inl ⟨L, rfl, Nat.le_trans (letsB_ok hL).2 (by decide)⟩
theorem book_chB {CB b : Addr} {rs : List Rule} {es : List Exc} {Q : VK} {E : XK} (hL : L ∈ lets) (h : BookAt H b L rs es) (ho : BookOk L rs es) (q : ∀ H', Same H H' → Q (.ref b) H') : spChV K CB [.ref b] H Q E := by
  obtain ⟨R, X, h1, h2, h3⟩ := h
  obtain ⟨o, g1, g2⟩ := rsB_good (K := K) hL h2 ho.rl ho.r12
  obtain ⟨oe, g3, g4⟩ := esB_good (K := K) h3 ho.ex ho.e8 ho.up
  refine ⟨_, rfl, .inr (.inr ⟨b, _, _, _, rfl, .inl (.inl h1), lets_vokB hL, (fun c => by rw [(letsB_ok hL).1] at c; cases c), fun L' e1 e2 => ?_⟩)⟩
  obtain rfl := T_inj (V.str.inj e1)
  exact ⟨o, g1, fun n hn => absurd hn (g2 n), fun _ => ⟨oe, g3, fun n hn => absurd hn (g4 n), fun _ => q⟩⟩
/-- letters, no rules, no exceptions -/
theorem bare_chB {CB t t1 t2 : Addr} {M : List Nat} {Q : VK} {E : XK} (h : H t = some (.tup [.str (T M), .ref t1, .ref t2])) (h1 : H t1 = some (.tup [])) (h2 : H t2 = some (.tup [])) (l : M.length ≤ 100) (g : letV (.str (T M)) = true) (q : ∀ H', Same H H' → Q (.ref t) H') : spChV K CB [.ref t] H Q E := by
  have n1 : ∀ n, ¬ badRs (some []) n := fun n h => absurd h.1 (Nat.not_lt_zero n)
  have n2 : ∀ n, ¬ badEs (some []) n := fun n h => absurd h.1 (Nat.not_lt_zero n)
  exact ⟨_, rfl, .inr (.inr ⟨t, _, _, _, rfl, .inl (.inl h), .inl ⟨M, rfl, l⟩, (fun c => by rw [g] at c; cases c), fun L' e1 e2 =>
    ⟨some [], .inr ⟨t1, [], [], rfl, .inl (.inl h1), Nat.zero_le _, .nil, rfl⟩, fun n hn => absurd hn (n1 n), fun _ => ⟨some [], .inr ⟨t2, [], [], rfl, .inl (.inl h2), Nat.zero_le _, .nil, rfl⟩, fun n hn => absurd hn (n2 n), fun _ => q⟩⟩⟩)⟩
theorem bare_badB {CB t t1 t2 : Addr} {M : List Nat} {Q : VK} {E : XK} (h : H t = some (.tup [.str (T M), .ref t1, .ref t2])) (l : M.length ≤ 100) (g : letV (.str (T M)) = false) (q : refB CB H E 0 0) : spChV K CB [.ref t] H Q E :=
  ⟨_, rfl, .inr (.inr ⟨t, _, _, _, rfl, .inl (.inl h), .inl ⟨M, rfl, l⟩, fun _ => q, fun L' e1 e2 => by
    rw [g] at e2
    cases e2⟩)⟩
theorem letsZ (h : L ∈ lets) : (L.length < 4 → letV (.str (T (L ++ [122]))) = true) ∧ (¬ L.length < 4 → letV (.str (T (L ++ [122]))) = false) := by
  have : ∀ l ∈ lets, (l.length < 4 → letV (.str (T (l ++ [122]))) = true) ∧ (¬ l.length < 4 → letV (.str (T (l ++ [122]))) = false) := by decide +kernel
  exact this L h
theorem addZ : (T L) ++ Str.ofString "z" = T (L ++ [122]) := by
  rw [show Str.ofString "z" = T [122] by decide +kernel]
  show Str.mk (L.toArray ++ [122].toArray) = Str.mk (L ++ [122]).toArray
  rw [List.append_toArray]
end
theorem toldBB {K : PySem.W.Frag} {mg : Str → Option Value} {CB : Addr} {p n : Int} {Q : VK} {H : Hp} (WB : WordC K mg CB 0) (h : ∀ (u qq : Addr) (H8 : Hp), Same H H8 → H8 u = some (.tup [.str "book", .ref qq]) → H8 qq = some (.tup [.int p, .int n]) → Q (.ref u) H8) : refB CB H (echW K mg Q) p n :=
  fun d H' s hd hx => ⟨CB, 0, _, WB, rfl, .inr (.inr (.inl ⟨rfl, d, p, n, rfl, hx, rfl⟩)), fun u H8 s8 ⟨qq, hq, hu⟩ => h u qq H8 (s.trans s8) hu hq⟩
theorem told_plainB {K : PySem.W.Frag} {mg : Str → Option Value} {C2 : Addr} {j : Nat} {Q : VK} {H H' : Hp} (WC : WordC K mg C2 j) (pj : plainJ j = true) (s : Same H H') (h : ∀ (u : Addr) (H8 : Hp), Same H H8 → H8 u = some (.tup [.str (nmJ j), .non]) → Q (.ref u) H8) : echW K mg Q (.ref C2) none H' :=
  ⟨C2, j, _, WC, rfl, .inr (.inl ⟨pj, .inl rfl, rfl⟩), fun u H8 s8 hu => h u H8 (s.trans s8) hu⟩
theorem ne_plainB {K : PySem.W.Frag} {τ : L2.St} {u : Addr} {H8 : Hp} {nm : Str} {G : VK} (hs : SeqAt.shaped (.tuple [.str nm, .none]) = true) (hu : H8 u = some (.tup [.str nm, .non])) (h : ∀ H9, Same H8 H9 → G (.bl false) H9) :
    tTup (tCons (tC (.str nm)) (tCons (tC .non) tNil)) τ H8 fun y H4 => rNeD K (.ref u) y H4 G := by
  refine ⟨(by show 2 ≤ sizeLine; decide), fun p hp => ?_⟩
  have sp := same_new hp (.tup [.str nm, .non])
  refine ⟨.tuple [.str nm, .none], .tuple [.str nm, .none], .tup (.inl (.inl (sp _ _ hu))) (.cons (.str _) (.cons .non .nil)), .tup (.inl (.inl upd_same)) (.cons (.str _) (.cons .non .nil)), hs, hs, ?_⟩
  rw [SeqAt.eqv_refl _ (SeqAt.canLay_of_shaped hs)]
  exact h _ sp
theorem row_lenB {K : PySem.W.Frag} {H : Hp} {r a D : Addr} {ns : List Int} {xs : List V} (R : RowAt K H r a ns) (h : H D = some (.lst xs)) (n : xs.length ≠ 4) : D ≠ r := fun z => by
  obtain ⟨⟨i, c, m, q, _⟩, _⟩ := R
  rw [z, q] at h
  have := HO.lst.inj (Option.some.inj h)
  rw [← this] at n
  exact n rfl
theorem isText_outB {z S : List Nat} {lo hi c : Nat} (hc : c ∈ z) (n : c ∉ S) : isText z S lo hi = false := by
  cases h : isText z S lo hi with
  | false => rfl
  | true =>
    unfold isText at h
    simp only [Bool.and_eq_true, List.all_eq_true, decide_eq_true_eq] at h
    exact absurd (h.2.2 c hc) n
theorem isText_longB {z S : List Nat} {lo hi : Nat} (h1 : hi < z.length ∨ z.length < lo) : isText z S lo hi = false := by
  cases h : isText z S lo hi with
  | false => rfl
  | true =>
    unfold isText at h
    simp only [Bool.and_eq_true, List.all_eq_true, decide_eq_true_eq] at h
    omega
/-- tuples stay -/
abbrev TU (H H' : Hp) : Prop := ∀ p xs, H p = some (.tup xs) → H' p = some (.tup xs)
theorem TU.ext {H H' : Hp} (e : LamX.ExtN H H') : TU H H' := fun p xs h => e _ _ h (fun ps z => by cases z)
theorem RowAt.appB {K : PySem.W.Frag} {H : Hp} {r a W y : Addr} {x : V} {ns : List Int} {l l' : List V} (R : RowAt K H r a ns) (hW : H W = some (.lst (x :: .ref y :: l))) : RowAt K (upd H W (.lst l')) r a ns := by
  obtain ⟨⟨i, c, m, q, p⟩, sc, le⟩ := R
  refine ⟨⟨i, c, m, by rw [upd_ne (fun z => by rw [z, hW] at q; cases q)]; exact q, p⟩, ?_, le⟩
  rcases sc with (sc | ⟨o, sc⟩) | sc
  · refine .inl (.inl ?_)
    rw [upd_ne (fun z => ?_)]
    · exact sc
    · rw [z, hW] at sc
      have := HO.lst.inj (Option.some.inj sc)
      match ns, this with
      | [], e => cases e
      | [_], e => cases e
      | _ :: _ :: _, e => cases e
  · exact .inl (.inr ⟨o, by rw [upd_ne (fun z => by rw [z, hW] at sc; cases sc)]; exact sc⟩)
  · exact .inr sc
theorem BS.appB {K : PySem.W.Frag} {Ts : List (Addr × Str)} {r a b Ra W y : Addr} {x : V} {ns : List Int} {L : List Nat} {rs : List Rule} {es : List Exc} {H : Hp} {l l' : List V} (h : BS K Ts r a ns b Ra L rs es H) (hW : H W = some (.lst (x :: .ref y :: l))) : BS K Ts r a ns b Ra L rs es (upd H W (.lst l')) :=
  ⟨h.R.appB hW, tabs_lstB h.T hW, h.B.kt (kt_upd hW), h.hR.kt (kt_upd hW)⟩
/-- other letters, or no book -/
def BkOr (L : List Nat) (H : Hp) (u : Addr) : Prop := (L.length < 4 ∧ H u = some (.tup [.str "others", .non])) ∨ (¬ L.length < 4 ∧ ∃ q, H u = some (.tup [.str "book", .ref q]) ∧ H q = some (.tup [.int 0, .int 0]))
theorem BkOr.tu {L : List Nat} {H H' : Hp} {u : Addr} (h : BkOr L H u) (t : TU H H') : BkOr L H' u := by
  rcases h with ⟨a, h⟩ | ⟨a, q, h1, h2⟩
  · exact .inl ⟨a, t _ _ h⟩
  · exact .inr ⟨a, q, t _ _ h1, t _ _ h2⟩
section
variable {K : PySem.W.Frag} {mg : Str → Option Value} {CB CO tt0 tt1 t1 t2 t3 t4 : Addr} {L : List Nat} {Q Q' : VK} {G : Hp}
theorem ne_z (L : List Nat) : L ≠ L ++ [122] := fun z => by
  have := congrArg List.length z
  rw [List.length_append] at this
  have h : ([122] : List Nat).length = 1 := rfl
  omega
theorem pt_lz (hL : L ∈ lets) (WB : WordC K mg CB 0) (WO : WordC K mg CO 7) (h1 : G t1 = some (.tup [])) (h2 : G t2 = some (.tup [])) (h0 : G tt0 = some (.tup [.str (T L), .ref t1, .ref t2])) (h3 : G t3 = some (.tup [])) (h4 : G t4 = some (.tup [])) (h5 : G tt1 = some (.tup [.str (T (L ++ [122])), .ref t3, .ref t4]))
    (hq : ∀ (u : Addr) (H8 : Hp), Same G H8 → BkOr L H8 u → Q (.ref u) H8) : spPtX K CB CO [.ref tt0, .ref tt1] G Q' (echW K mg Q) := by
  obtain ⟨lv, l4⟩ := letsB_ok hL
  obtain ⟨z1, z2⟩ := letsZ hL
  have lz : (L ++ [122]).length ≤ 100 := by rw [List.length_append]; show L.length + 1 ≤ 100; omega
  refine ⟨.ref tt0, .ref tt1, rfl, bare_chB h0 h1 h2 (by omega) lv fun Ha sa => ?_⟩
  by_cases c : L.length < 4
  · exact bare_chB (sa _ _ h5) (sa _ _ h3) (sa _ _ h4) lz (z1 c) fun Hb sb => ⟨tt0, tt1, L, L ++ [122], _, _, _, _, rfl, rfl, .inl (.inl ((sa.trans sb) _ _ h0)), .inl (.inl ((sa.trans sb) _ _ h5)), ne_z L, told_plainB WO rfl (sa.trans sb) fun u H8 s8 hu => hq u H8 s8 (.inl ⟨c, hu⟩)⟩
  · exact bare_badB (sa _ _ h5) lz (z2 c) (toldBB WB fun u qq H8 s8 hu hqq => hq u H8 (sa.trans s8) (.inr ⟨c, qq, hu, hqq⟩))
theorem pt_zl (hL : L ∈ lets) (WB : WordC K mg CB 0) (WO : WordC K mg CO 7) (h1 : G t1 = some (.tup [])) (h2 : G t2 = some (.tup [])) (h0 : G tt0 = some (.tup [.str (T (L ++ [122])), .ref t1, .ref t2])) (h3 : G t3 = some (.tup [])) (h4 : G t4 = some (.tup [])) (h5 : G tt1 = some (.tup [.str (T L), .ref t3, .ref t4]))
    (hq : ∀ (u : Addr) (H8 : Hp), Same G H8 → BkOr L H8 u → Q (.ref u) H8) : spPtX K CB CO [.ref tt0, .ref tt1] G Q' (echW K mg Q) := by
  obtain ⟨lv, l4⟩ := letsB_ok hL
  obtain ⟨z1, z2⟩ := letsZ hL
  have lz : (L ++ [122]).length ≤ 100 := by rw [List.length_append]; show L.length + 1 ≤ 100; omega
  refine ⟨.ref tt0, .ref tt1, rfl, ?_⟩
  by_cases c : L.length < 4
  · refine bare_chB h0 h1 h2 lz (z1 c) fun Ha sa => ?_
    exact bare_chB (sa _ _ h5) (sa _ _ h3) (sa _ _ h4) (by omega) lv fun Hb sb => ⟨tt0, tt1, L ++ [122], L, _, _, _, _, rfl, rfl, .inl (.inl ((sa.trans sb) _ _ h0)), .inl (.inl ((sa.trans sb) _ _ h5)), (ne_z L).symm, told_plainB WO rfl (sa.trans sb) fun u H8 s8 hu => hq u H8 s8 (.inl ⟨c, hu⟩)⟩
  · exact bare_badB h0 lz (z2 c) (toldBB WB fun u qq H8 s8 hu hqq => hq u H8 s8 (.inr ⟨c, qq, hu, hqq⟩))
end
/-- what is told of the words -/
abbrev plD (nm : Str) : PyData := .tuple [.str nm, .none]
abbrev bkD : PyData := .tuple [.str "book", .tuple [.int 0, .int 0]]
abbrev xD (L : List Nat) : PyData := if L.length < 4 then plD "others" else bkD
abbrev wdD (L : List Nat) : PyData := .list [plD "sounds", plD "count", plD "count", plD "others", xD L, xD L]
theorem wd_shaped (L : List Nat) : SeqAt.shaped (wdD L) = true := by
  unfold wdD xD
  by_cases c : L.length < 4
  · rw [if_pos c]
    decide +kernel
  · rw [if_neg c]
    decide +kernel
theorem wd_eqv (L : List Nat) : PyData.eqv (wdD L) (wdD L) = true := SeqAt.eqv_refl _ (SeqAt.canLay_of_shaped (wd_shaped L))
theorem dp_pl {K : PySem.W.Frag} {H : Hp} {u : Addr} {nm : Str} (h : H u = some (.tup [.str nm, .non])) : Dp K H (.ref u) (plD nm) := .tup (.inl (.inl h)) (.cons (.str _) (.cons .non .nil))
theorem dp_bk {K : PySem.W.Frag} {H : Hp} {u q : Addr} (h : H u = some (.tup [.str "book", .ref q])) (hq : H q = some (.tup [.int 0, .int 0])) : Dp K H (.ref u) bkD := .tup (.inl (.inl h)) (.cons (.str _) (.cons (.tup (.inl (.inl hq)) (.cons (.int _) (.cons (.int _) .nil))) .nil))
theorem BkOr.dp {K : PySem.W.Frag} {H : Hp} {u : Addr} {L : List Nat} (h : BkOr L H u) : Dp K H (.ref u) (xD L) := by
  unfold xD
  rcases h with ⟨c, h⟩ | ⟨c, q, h1, h2⟩
  · rw [if_pos c]
    exact dp_pl h
  · rw [if_neg c]
    exact dp_bk h1 h2
end Say
/-! lambdas as values: laid in lists, called later by a def that gets them -/
namespace LamV
open PySem PySem.Spec PyProof.Rows L2 LamX LamD
section
variable {X : Cx} {pins : List (Addr × Obj)} {σ : L2.St} {H H1 HZ : Hp} {s s1 : Shared} {f : Addr}
/-- a thing of ours is tracked from now on -/
theorem track (I1 : Inv X pins σ H1 s1) (nf : NewF X pins f) (n : H1 f = none) {φ : Heap → Prop} (hφ : φ s1.heap) (ho : ∃ o, s1.heap.get? f = some o) (st : ∀ h1 h2 : Heap, φ h1 → (∀ o, h1.get? f = some o → h2.get? f = some o) → φ h2) :
    Inv X pins σ (upd H1 f (.ext φ)) s1 := by
  refine I1.step (h' := s1.heap) (g' := s1.gens) (d' := s1.drawn) (t' := s1.toks) (ch := [f]) (fun b hb => ?_) (fun b o _ _ _ e _ => e) (fun b o _ _ _ e _ => ⟨o.slots, e⟩) (fun b o hb _ e => ?_) (fun b o _ e => ⟨o, e⟩)
    (fun b xs e => by rw [upd_ne (ne_of_none e n)]; exact e) (fun b o u e => by rw [upd_ne (ne_of_none e n)]; exact e) (fun b ps e => ⟨#[], by rw [upd_ne (ne_of_none e n), e]; simp⟩) (fun m h => h) (fun b u e => ?_) I1.bare
  · rw [List.mem_singleton.mp hb]
    exact ⟨.inr nf.1, nf.2.1, nf.2.2.1, nf.2.2.2⟩
  · rw [upd_ne fun z => hb (List.mem_singleton.mpr z)]
    exact e
  · by_cases hb : b = f
    · rw [hb, upd_same] at e
      cases e
      rw [hb]
      exact ⟨hφ, ho, st⟩
    · rw [upd_ne hb] at e
      exact (I1.hok b u e).stay (fun _ _ _ q => q) (fun d q => by rw [upd_ne (ne_of_none q n)]; exact q) fun d xs q => by rw [upd_ne (ne_of_none q n)]; exact q
/-- the lambda that is at f, with no parameter; with one -/
def PlainO (X : Cx) (params : Arguments) (body : Expr) (own : Scope) (f c' : Addr) : HO := .ext fun h => ∃ pm ctv, h.get? f = some (PySem.W.kla_obj "<lambda>" (X.env.qual ++ "<lambda>") params body own (cloFrom X.env.cells own.names []) pm c' ctv)
def DfltO (X : Cx) (params : Arguments) (body : Expr) (own : Scope) (f c' D : Addr) : HO := .ext fun h => ∃ doc pm ctv, h.get? f = some (LamD.dObj X params body own D doc pm c' ctv)
def OneO (D : Addr) (u : Value) : HO := .ext fun h => h.get? D = some (PySem.W.kdv_tup [u])
def IsPlain (X : Cx) (params : Arguments) (body : Expr) (own : Scope) (f : Addr) (H : Hp) : Prop := ∃ c', H f = some (PlainO X params body own f c') ∧ H c' = some (CodeO c' (X.env.qual ++ "<lambda>"))
def IsDflt (X : Cx) (params : Arguments) (body : Expr) (own : Scope) (f : Addr) (H : Hp) : Prop := ∃ c' D u, H f = some (DfltO X params body own f c' D) ∧ H D = some (OneO D u) ∧ H c' = some (CodeO c' (X.env.qual ++ "<lambda>"))
theorem IsPlain.extN {params : Arguments} {body : Expr} {own : Scope} (h : IsPlain X params body own f H) (e : ExtN H H1) : IsPlain X params body own f H1 := by
  obtain ⟨c', h1, h2⟩ := h
  exact ⟨c', e _ _ h1 fun ps z => (by unfold PlainO at z; cases z), e _ _ h2 codeO_ne⟩
theorem IsDflt.extN {params : Arguments} {body : Expr} {own : Scope} (h : IsDflt X params body own f H) (e : ExtN H H1) : IsDflt X params body own f H1 := by
  obtain ⟨c', D, u, h1, h2, h3⟩ := h
  exact ⟨c', D, u, e _ _ h1 fun ps z => (by unfold DfltO at z; cases z), e _ _ h2 fun ps z => (by unfold OneO at z; cases z), e _ _ h3 codeO_ne⟩
/-- a lambda, made -/
def tLamV (Ts : List (Addr × Str)) (I : Addr → Hp → Prop) : TE := fun _ H Q => Tabs Ts H ∧ ∀ f H1, ExtN H H1 → Tabs Ts H1 → H f = none → I f H1 → Q (.ref f) H1
/-- one with no parameter, made: as LamD.make -/
theorem makeP {Ts : List (Addr × Str)} {c P : Addr} {params : Arguments} {body : Expr} {own : Scope} {pos : Pos} {E Q : Value → Shared → Prop} (I : Inv X pins σ H s) (TB : TabB X.base X.mg c P) (hcode : X.env.code = .ref c)
    (hm : (P, X.env.qual ++ "<lambda>") ∈ Ts) (hu : ∀ p ∈ Ts, p.1 = P → p.2 = X.env.qual ++ "<lambda>") (hT : Tabs Ts H) (hdef : defaultsOf params X.env = ([], [])) (hfree : ∀ y ∈ own.names, y.2 = .free → ∃ c, X.env.cells.lookup y.1 = some c)
    (h : ∀ (f c' : Addr) (pm ctv : Value) (H1 : Hp) (s' : Shared), Inv X pins σ H1 s' → ExtN H H1 → Tabs Ts H1 → s'.heap.get? f = some (PySem.W.kla_obj "<lambda>" (X.env.qual ++ "<lambda>") params body own (cloFrom X.env.cells own.names []) pm c' ctv) → H f = none → H1 f = none → NewF X pins f →
      H1 c' = some (CodeO c' (X.env.qual ++ "<lambda>")) → Q (.ref f) s') :
    wpAny (model X.prog X.w) X.A (eval (.Lambda params body own pos) X.env) Q E s := by
  obtain ⟨ps, hP, ht, ha⟩ := hT _ hm
  have atP : s.heap.get? P = some { cls := .none, data := .fields ps } := I.hok P _ hP
  have bP : s.heap.BuiltinsAt X.mg P := TB.bm.keeps I.bk
  refine PySem.W.kla_eval hdef ?_
  cases hc : codeAmong pos ps.toList with
  | some cv =>
    obtain ⟨c', e, hco⟩ := ha pos cv hc
    subst e
    refine PySem.W.kla_makeFunctionHit (mg := X.mg) (c := c) (P := P) (ps := ps) (closure_ok hfree) I.ok.glob (I.mod.glob.keeps I.bk) hcode (TB.code.keeps I.bk) atP ht hc bP fun ctv h' tk hx hsz => ?_
    have hsz : s.heap.objs.size ≤ h'.objs.size := hsz
    have n := I.hok.fresh hsz
    exact h h'.objs.size c' ((X.mg "__name__").getD .none) ctv H _ (I.kept (t' := tk) fun b o e => Heap.get?_push_of_some _ (hx b o e)) (ExtN.refl H) hT (Heap.get?_push_size _ rfl) n n (new_of I hsz) hco
  | none =>
    refine PySem.W.kla_makeFunction (mg := X.mg) (c := c) (P := P) (ps := ps) (closure_ok hfree) I.ok.glob (I.mod.glob.keeps I.bk) hcode (TB.code.keeps I.bk) atP ht hc TB.gP bP fun c' ctv h' tk hx hge hlt hrec htb => ?_
    obtain ⟨_, oc, vs, t, e2, hoc, hd, hv⟩ := hrec
    cases e2
    have hge : s.heap.objs.size ≤ c' := hge
    have nC : H c' = none := I.hok.fresh hge
    have hsz : s.heap.objs.size ≤ h'.objs.size := Nat.le_trans hge (Nat.le_of_lt hlt)
    have I1 := inv_table (t' := tk) (more := #[rawInt pos.line, rawInt pos.col, .ref c']) (h' := h'.push (PySem.W.kla_obj "<lambda>" (X.env.qual ++ "<lambda>") params body own (cloFrom X.env.cells own.names []) ((X.mg "__name__").getD .none) c' ctv)) I hP
      (fun b o n e => Heap.get?_push_of_some _ (hx b o n e)) (Heap.get?_push_of_some _ htb) hge ⟨oc, vs, t, Heap.get?_push_of_some _ hoc, hd, hv⟩
    have hE : ExtN H (upd (upd H P (.tbl (ps ++ #[rawInt pos.line, rawInt pos.col, .ref c']))) c' (CodeO c' (X.env.qual ++ "<lambda>"))) := fun b o e n => by
      rw [upd_ne (ne_of_none e nC), upd_ne fun y => n ps (Option.some.inj (e.symm.trans (by rw [y]; exact hP)))]
      exact e
    have toL : (ps ++ #[rawInt pos.line, rawInt pos.col, .ref c']).toList = ps.toList ++ [rawInt pos.line, rawInt pos.col, .ref c'] := by simp
    refine h h'.objs.size c' ((X.mg "__name__").getD .none) ctv _ _ I1 hE (fun p hp => ?_) (Heap.get?_push_size _ rfl) (I.hok.fresh hsz) ?_ (new_of I hsz) upd_same
    · by_cases eP : p.1 = P
      · rw [hu p hp eP, eP]
        refine ⟨_, by rw [upd_ne (ne_of_none hP nC), upd_same], by rw [toL]; exact PySem.TriplesOk_snoc _ _ _ _ ht, fun p' cv hcv => ?_⟩
        rw [toL] at hcv
        rcases among_app _ ht hcv with y | y
        · obtain ⟨c0, y1, y2⟩ := ha p' cv y
          exact ⟨c0, y1, hE _ _ y2 codeO_ne⟩
        · exact ⟨c', y, upd_same⟩
      · obtain ⟨qs, y1, y2, y3⟩ := hT p hp
        refine ⟨qs, by rw [upd_ne (ne_of_none y1 nC), upd_ne eP]; exact y1, y2, fun p' cv hcv => ?_⟩
        obtain ⟨c0, y4, y5⟩ := y3 p' cv hcv
        exact ⟨c0, y4, hE _ _ y5 codeO_ne⟩
    · rw [upd_ne (Nat.ne_of_gt hlt), upd_ne (Nat.ne_of_gt (Nat.lt_of_lt_of_le (Heap.lt_size atP) hsz))]
      exact I.hok.fresh hsz
theorem tabs_new {Ts : List (Addr × Str)} {o : HO} (t : Tabs Ts H) (n : H f = none) : Tabs Ts (upd H f o) := t.ext fun b u e => by rw [upd_ne (ne_of_none e n)]; exact e
theorem extN_new {o : HO} (e : ExtN H H1) (n : H1 f = none) : ExtN H (upd H1 f o) := fun b u h k => by
  have := e b u h k
  rw [upd_ne (ne_of_none this n)]
  exact this
/-- lambda: body, as a value -/
theorem pe_plain {Ts : List (Addr × Str)} {c P : Addr} {params : Arguments} {body : Expr} {own : Scope} {pos : Pos} (TB : TabB X.base X.mg c P) (hcode : X.env.code = .ref c)
    (hm : (P, X.env.qual ++ "<lambda>") ∈ Ts) (hu : ∀ p ∈ Ts, p.1 = P → p.2 = X.env.qual ++ "<lambda>") (L : LamS X.env.scope own) (hdef : defaultsOf params X.env = ([], [])) : PE X (.Lambda params body own pos) (tLamV Ts (IsPlain X params body own)) := by
  refine ⟨fun pins s σ H Q I ⟨hT, h⟩ => makeP I TB hcode hm hu hT hdef (L.has I.ok) fun f c' pm ctv H1 s' I1 eN T1 hf hfn0 hfn nf hco => ?_⟩
  have I2 := track I1 nf hfn (φ := fun h => ∃ pm ctv, h.get? f = some (PySem.W.kla_obj "<lambda>" (X.env.qual ++ "<lambda>") params body own (cloFrom X.env.cells own.names []) pm c' ctv)) ⟨pm, ctv, hf⟩ ⟨_, hf⟩ (fun h1 h2 ⟨pm, ctv, e⟩ k => ⟨pm, ctv, k _ e⟩)
  exact ⟨.ref f, _, I2, rfl, h f _ (extN_new eN hfn) (tabs_new T1 hfn) hfn0 ⟨c', upd_same, by rw [upd_ne (ne_of_none hco hfn)]; exact hco⟩⟩
/-- lambda a=z: body, as a value -/
theorem pe_dflt {Ts : List (Addr × Str)} {c P : Addr} {params : Arguments} {body de : Expr} {own : Scope} {pos : Pos} {a : Str} {z : Int} (TB : TabB X.base X.mg c P) (hcode : X.env.code = .ref c)
    (hm : (P, X.env.qual ++ "<lambda>") ∈ Ts) (hu : ∀ p ∈ Ts, p.1 = P → p.2 = X.env.qual ++ "<lambda>") (L : Par X.N X.env.scope own a) (hde : params.defaults = [de]) (hkw : params.kw_defaults = []) (hz : PE X de (tC (.int z))) : PE X (.Lambda params body own pos) (tLamV Ts (IsDflt X params body own)) := by
  refine ⟨fun pins s σ H Q I ⟨hT, h⟩ => LamD.make I TB hcode hm hu hT hde hkw hz (L.has I.ok) fun f c' D u doc pm ctv H1 s' I1 eN T1 hf hfn hfr hD hDn hDr nf nD nfD hfn0 hco => ?_⟩
  have I2 := track I1 nf hfn (φ := fun h => ∃ doc pm ctv, h.get? f = some (LamD.dObj X params body own D doc pm c' ctv)) ⟨doc, pm, ctv, hf⟩ ⟨_, hf⟩ (fun h1 h2 ⟨doc, pm, ctv, e⟩ k => ⟨doc, pm, ctv, k _ e⟩)
  have nD2 : (upd H1 f (DfltO X params body own f c' D)) D = none := by rw [upd_ne (Ne.symm nfD)]; exact hDn
  have I3 := track I2 nD nD2 (φ := fun h => h.get? D = some (PySem.W.kdv_tup [u])) hD ⟨_, hD⟩ (fun h1 h2 e k => k _ e)
  exact ⟨.ref f, _, I3, rfl, h f _ (extN_new (extN_new eN hfn) nD2) (tabs_new (tabs_new T1 hfn) nD2) hfn0 ⟨c', D, u, by rw [upd_ne nfD, upd_same]; rfl, upd_same, by rw [upd_ne (ne_of_none (show (upd H1 f _) c' = some _ by rw [upd_ne (ne_of_none hco hfn)]; exact hco) nD2), upd_ne (ne_of_none hco hfn)]; exact hco⟩⟩
end
section
variable {X : Cx}
/-- what is called without anything by a def that got it -/
def CallOk (X : Cx) (k : Nat) (is : Addr → Hp → Prop) (t : XK → TE) : Prop := ∀ (pins : List (Addr × Obj)) (σ : L2.St) (H : Hp) (s : Shared) (f : Addr), Inv X pins σ H s → is f H → ∃ c', H c' = some (CodeO c' (X.env.qual ++ "<lambda>")) ∧
  ∀ (Ng : List Str) (qg : Str) (sg : Scope) (g : Addr) (cdg : Value) (i : Nat) (x : Str) (pn : List (Addr × Obj)) (xe : Value → Shared → Prop) (W : WX) (E : XK) (p1 p2 : Pos), Room (k + 1) (X.A.deeper (envOfC qg sg s.heap.objs.size g cdg)) →
    Takes ((cxOf C8.CX0 X.prog X.w X.K X.mg X.base Ng qg sg g cdg X.A X.stack s H C8.E0).tr pn xe) W → (∀ cls d σ' H', E cls d H' → W cls d σ' H') → Ng[i]? = some x → Vis sg x → (x == ("__debug__" : Str)) = false → (x == ("__classdict__" : Str)) = false →
    PE ((cxOf C8.CX0 X.prog X.w X.K X.mg X.base Ng qg sg g cdg X.A X.stack s H C8.E0).tr pn xe) (.Call (.Name x p1) [] [] p2) (fun σZ HZ Q => σZ[i]? = some (some (.ref f)) ∧ HZ c' = some (CodeO c' (X.env.qual ++ "<lambda>")) ∧ (is f HZ ∧ t E σ HZ Q))
theorem call_plain {params : Arguments} {body : Expr} {own : Scope} {k : Nat} {t : XK → TE} (L : LamS X.env.scope own)
    (hbind : ∀ (q : Str) (cl : List (Str × Addr)) (pm cv ctv : Value), bindArgs (PySem.W.kla_fn "<lambda>" q params body own cl pm cv ctv) ⟨[], []⟩ = pure [])
    (hbody : ∀ (A : Around) (outer : List Env) (s : Shared) (H : Hp) (E : XK) (f c' : Addr), Room k (A.deeper (lamEnv X own s.heap.objs.size f c')) → PE (lamCx X A outer s H E own f c') body (t E)) : CallOk X k (IsPlain X params body own) t := by
  intro pins σ H s f I ⟨c0, _, hc0⟩
  refine ⟨c0, hc0, fun Ng qg sg g cdg i x pn xe W E p1 p2 hr tk hW hN hv hdb hcd => ⟨fun pinsZ sZ σZ HZ Q IZ ⟨hs, _, ⟨c', hf, hc⟩, ht⟩ => ?_⟩⟩
  refine wpAny_Call_Name_kw (thn ((pe_var (pos := p1) (i := i) hN hv hdb hcd).run pinsZ sZ σZ HZ (fun v H1 => v = .ref f ∧ H1 = HZ) IZ ⟨.ref f, hs, rfl, rfl⟩) fun u' s1 ⟨v, H1, I1, r1, ev, eH⟩ => ?_)
  subst ev eH
  obtain rfl : u' = Value.ref f := r1
  obtain ⟨⟨pm, ctv, of1⟩, _, _⟩ := I1.hok f _ hf
  refine PySem.W.callWith_F0 ⟨_, _, _, _, of1⟩ ?_
  have un : Un (frs X.stack) [] H H1 s.heap s1.heap := I1.base
  obtain ⟨⟨oc, vs, tt, hoc, hdc, hvc⟩, _, _⟩ := I1.hok c' _ hc
  have rc : codeAny (model X.prog X.w) (X.A.deeper (envOfC qg sg s.heap.objs.size g cdg)) (.call (.ref f) ⟨[], []⟩) (CR (L2.CX X.prog X.w) (envOfC qg sg s.heap.objs.size g cdg :: X.stack) X.prog X.w H1 s1 Q E) s1 := by
    refine PySem.W.kla_callFunE hr.depth of1 rfl L.co L.gen rfl ⟨c', oc, vs, tt, rfl, hoc, hdc, hvc⟩ ?_
    rw [hbind]
    refine wpAny_pure (wpAny_newFunctionEnv (fun y hy => (L.own y hy).2) (fun y hy => absurd hy (by simp)) (fun h₁ hns hsb => ⟨I1.nolimit.fresh _ hsb, ?_⟩) L.kind)
    refine (?_ : codeAny _ _ (.expr body (lamEnv X own s1.heap.objs.size f c')) _ _)
    have kp : ∀ b o, s1.heap.get? b = some o → h₁.get? b = some o := fun b o e => hsb.extBut b o (Nat.ne_of_lt (Heap.lt_size e)) (Heap.get?_push_of_some _ e)
    have J : Inv (lamCx X (X.A.deeper (envOfC qg sg s.heap.objs.size g cdg)) (envOfC qg sg s.heap.objs.size g cdg :: X.stack) s1 H1 E own f c') [] σ H1 { s1 with heap := h₁, toks := s1.toks + ([] : List (Str × Value)).length } :=
      lam_start2 I L I1.env0 hr.hd un hns kp
    exact PySem.W.kla_codeExpr (wpAny_mono ((hbody _ _ s1 H1 E f c' (hr.deeper _)).run [] _ _ H1 Q J ht) (fun v s' ⟨w', H', J', rv, q⟩ => ⟨w', H', J'.os, J'.bare, J'.base, J'.hok, rv, q⟩) fun _ _ hq => hq)
  have hx : Passes (L2.CX X.prog X.w) ((cxOf C8.CX0 X.prog X.w X.K X.mg X.base Ng qg sg g cdg X.A X.stack s H C8.E0).tr pn xe) E := passes_call tk hW
  refine wpAny_call (codeAny_mono rc fun r s' hq => ?_)
  match r, hq with
  | .error e, hq => exact hx pinsZ σZ H1 s1 e s' I1 hq
  | .ok (.ret u), hq => exact I1.after hq
  | .ok .next, hq => exact False.elim hq
  | .ok .brk, hq => exact False.elim hq
  | .ok .cont, hq => exact False.elim hq
theorem call_dflt {params : Arguments} {body : Expr} {own : Scope} {k : Nat} {a : Str} {t : XK → TE} (L : Par X.N X.env.scope own a)
    (hbind : ∀ (u : Value) (D : Addr) (q : Str) (cl : List (Str × Addr)) (doc pm cv ctv : Value) (s : Shared), s.heap.get? D = some (PySem.W.kdv_tup [u]) → BindsTo s (PySem.W.kdv_fn "<lambda>" q params (.expr body) own cl (.ref D) doc pm cv ctv) ⟨[], []⟩ [(a, u)])
    (hbody : ∀ (A : Around) (outer : List Env) (s : Shared) (H : Hp) (E : XK) (f c' : Addr), Room k (A.deeper (lamEnv X own s.heap.objs.size f c')) → PE (lamCx X A outer s H E own f c') body (t E)) : CallOk X k (IsDflt X params body own) t := by
  intro pins σ H s f I ⟨c0, _, _, _, _, hc0⟩
  refine ⟨c0, hc0, fun Ng qg sg g cdg i x pn xe W E p1 p2 hr tk hW hN hv hdb hcd => ⟨fun pinsZ sZ σZ HZ Q IZ ⟨hs, _, ⟨c', D, u, hf, hD, hc⟩, ht⟩ => ?_⟩⟩
  refine wpAny_Call_Name_kw (thn ((pe_var (pos := p1) (i := i) hN hv hdb hcd).run pinsZ sZ σZ HZ (fun v H1 => v = .ref f ∧ H1 = HZ) IZ ⟨.ref f, hs, rfl, rfl⟩) fun u' s1 ⟨v, H1, I1, r1, ev, eH⟩ => ?_)
  subst ev eH
  obtain rfl : u' = Value.ref f := r1
  obtain ⟨⟨doc, pm, ctv, of1⟩, _, _⟩ := I1.hok f _ hf
  obtain ⟨oD, _, _⟩ := I1.hok D _ hD
  refine PySem.W.callWith_F0 ⟨_, _, _, _, of1⟩ ?_
  have un : Un (frs X.stack) [] H H1 s.heap s1.heap := I1.base
  obtain ⟨⟨oc, vs, tt, hoc, hdc, hvc⟩, _, _⟩ := I1.hok c' _ hc
  have rc : codeAny (model X.prog X.w) (X.A.deeper (envOfC qg sg s.heap.objs.size g cdg)) (.call (.ref f) ⟨[], []⟩) (CR (L2.CX X.prog X.w) (envOfC qg sg s.heap.objs.size g cdg :: X.stack) X.prog X.w H1 s1 Q E) s1 := by
    refine PySem.W.kla_callFunE hr.depth of1 rfl L.co L.gen rfl ⟨c', oc, vs, tt, rfl, hoc, hdc, hvc⟩ (hbind u D _ _ _ _ _ _ s1 oD _ _ _ _ ?_)
    refine wpAny_newFunctionEnv (fun y hy => (L.loc y hy).1) (fun y hy => by rw [List.mem_singleton.mp hy]; exact L.par) (fun h₁ hns hsb => ⟨I1.nolimit.fresh _ hsb, ?_⟩) L.kind
    refine (?_ : codeAny _ _ (.expr body (lamEnv X own s1.heap.objs.size f c')) _ _)
    have kp : ∀ b o, s1.heap.get? b = some o → h₁.get? b = some o := fun b o e => hsb.extBut b o (Nat.ne_of_lt (Heap.lt_size e)) (Heap.get?_push_of_some _ e)
    have J := LamD.enter (A := X.A.deeper (envOfC qg sg s.heap.objs.size g cdg)) (outer := envOfC qg sg s.heap.objs.size g cdg :: X.stack) (E := E) (f := f) (c' := c') (tk := s1.toks + ([(a, u)] : List (Str × Value)).length) I L I1.env0 hr.hd un hns kp
    exact PySem.W.kla_codeExpr (wpAny_mono ((hbody _ _ s1 H1 E f c' (hr.deeper _)).run [] _ _ H1 Q J ht) (fun v s' ⟨w', H', J', rv, q⟩ => ⟨w', H', J'.os, J'.bare, J'.base, J'.hok, rv, q⟩) fun _ _ hq => hq)
  have hx : Passes (L2.CX X.prog X.w) ((cxOf C8.CX0 X.prog X.w X.K X.mg X.base Ng qg sg g cdg X.A X.stack s H C8.E0).tr pn xe) E := passes_call tk hW
  refine wpAny_call (codeAny_mono rc fun r s' hq => ?_)
  match r, hq with
  | .error e, hq => exact hx pinsZ σZ H1 s1 e s' I1 hq
  | .ok (.ret u), hq => exact I1.after hq
  | .ok .next, hq => exact False.elim hq
  | .ok .brk, hq => exact False.elim hq
  | .ok .cont, hq => exact False.elim hq
/-- x(v), v one of some lambdas -/
def tWordV (TT : (XK → Hp → VK → Prop) → Hp → VK → Prop) (Ls : List ((Addr → Hp → Prop) × (XK → TE))) (te : TE) : TE := fun σ H Q => te σ H fun v H1 => ∃ f : Addr, v = .ref f ∧ ∃ l ∈ Ls, l.1 f H1 ∧ TT (fun E H' Q' => l.1 f H' ∧ l.2 E σ H' Q') H1 Q
theorem pe_wordcall {Ls : List ((Addr → Hp → Prop) × (XK → TE))} {TT : (XK → Hp → VK → Prop) → Hp → VK → Prop} {x y z : Str} {g : Addr} {k j : Nat} {pg : Arguments} {bg : List Stmt} {sg : Scope} {dV kV doc pm cdv ct oc : Value} {an od : Option Addr} {osl : Array (Option Value)} {Ng : List Str}
    {p pz pos : Pos} (hg : Gl X x) (hm : X.mg x = some (.ref g)) (hk : PySem.W.keepIn X.K (.ref g) = true)
    (lk : X.K.lookup g = some ⟨oc, od, .func (PySem.W.fnOf x x pg bg sg dV kV doc pm an cdv ct), osl⟩) (hcg : PySem.W.codeIn X.K cdv x = true) (hb : L2.Binds X.K (PySem.W.fnOf x x pg bg sg dV kV doc pm an cdv ct) [y] []) (Sg : FnScope Ng [y] sg) (hNg : Ng[0]? = some y) (hva : Vis sg y)
    (hG : GivesTo X Ng x sg g cdv bg y (X.env.qual ++ "<lambda>") TT) (hr : Room (k + 2) X.A) (hL : ∀ l ∈ Ls, CallOk X k l.1 l.2) (hz : PE X (.Name z pz) (tVar j))
    (hdb : (x == ("__debug__" : Str)) = false := by decide) (hd : (y == ("__debug__" : Str)) = false := by decide) (hcd : (y == ("__classdict__" : Str)) = false := by decide) :
    PE X (.Call (.Name x p) [.Name z pz] [] pos) (tWordV TT Ls (tVar j)) := by
  refine ⟨fun pins s σ H Q I h => ?_⟩
  refine wpAny_Call_Name_kw (ld_glob I hg hm ?_ hdb)
  refine PySem.W.callWith_K (h₀ := X.base) I.ok.mod.kin hk ?_ (by rfl) (by rfl)
  refine (?_ : wpAny _ _ (spliced ((false, eval (.Name z pz) X.env) :: backTo pos (starEach [] X.env))) _ _ s)
  refine Calls.spliced_cons (thn (hz.run pins s σ H _ I h) fun u s' ⟨v, H1, I1, rv, f, ev, l, hl, hi, hT⟩ => Calls.spliced_nil ⟨I1.kIn, ?_⟩)
  subst ev
  obtain rfl : u = Value.ref f := rv
  obtain ⟨c', hco, act⟩ := hL l hl pins σ H1 s' f I1 hi
  have rc : codeAny (model X.prog X.w) X.A (.call (.ref g) ⟨[.ref f], []⟩) (CR C8.CX0 X.stack X.prog X.w H1 s' Q C8.E0) s' := by
    refine run_ofS (N := Ng) (ps := [y]) (us := [.ref f]) (vs := [.ref f]) lk hcg Sg hr I1.env0 (hb s' [.ref f] I1.kIn rfl) (.cons rfl .nil) rfl fun hr' => ?_
    obtain ⟨t', ht', hq'⟩ := hG f c' s' H1 Q (fun E H' Q' => l.1 f H' ∧ l.2 E σ H' Q') (fun W pn xe E p1 p2 tk hW => act Ng x sg g cdv 0 y pn xe W E p1 p2 hr' tk hW hNg hva hd hcd) hco hT
    exact ⟨t', ht'.nox, hq'⟩
  refine wpAny_call (codeAny_mono rc fun r s2 hq => ?_)
  match r, hq with
  | .error e, hq => exact (show False from hq).elim
  | .ok (.ret u), hq => exact I1.after hq
  | .ok .next, hq => exact False.elim hq
  | .ok .brk, hq => exact False.elim hq
  | .ok .cont, hq => exact False.elim hq
end
end LamV
/-! a comprehension whose tests and items may lean on what the def's frame holds where the comprehension begins -/
namespace LamV
open PySem PySem.Spec PyProof.Rows L2 LamX LamD
abbrev blkX (X : Cx) (scope : Scope) (s : Shared) (H : Hp) (C : Addr) (cl : List (Str × Addr)) (fp : List Addr) : Cx := X.blk s H scope (compEnvC scope cl C X.env) fp
theorem pe_lcI {X : Cx} {elt tg iter : Expr} {ifs : List Expr} {scope : Scope} {own : List (Str × Nat)} {pos : Pos} {wi : TI} {g : TG} {tt : L2.St → TT} {te : L2.St → TE} (calm : X.calm = true) (nd : X.N.Nodup) (hi : PI X tg iter wi) (ok : BlkOk X.N X.env.scope scope own)
    (hg : ∀ (pins : List (Addr × Obj)) (σ : L2.St) (s : Shared) (H : Hp) (C : Addr) (cl : List (Str × Addr)) (fp : List Addr), Inv X pins σ H s → (∀ b ∈ fp, FpOk X pins H b) → PG (blkX X scope s H C cl fp) tg g)
    (ht : ∀ (pins : List (Addr × Obj)) (σ : L2.St) (s : Shared) (H : Hp) (C : Addr) (cl : List (Str × Addr)) (fp : List Addr), Inv X pins σ H s → (∀ b ∈ fp, FpOk X pins H b) → PTs (blkX X scope s H C cl fp) ifs (tt σ))
    (he : ∀ (pins : List (Addr × Obj)) (σ : L2.St) (s : Shared) (H : Hp) (C : Addr) (cl : List (Str × Addr)) (fp : List Addr), Inv X pins σ H s → (∀ b ∈ fp, FpOk X pins H b) → PE (blkX X scope s H C cl fp) elt (te σ))
    (hs : ∀ x, foldedSetIterable iter X.env x = pure x := by intro _; rfl) :
    PE X (.ListComp elt [⟨tg, iter, ifs, 0⟩] scope pos) (fun σ H Q => tLc wi g (tt σ) (te σ) (own.map (·.2)) σ H Q) := by
  constructor
  intro pins s σ H Q I want
  rw [eval_ListComp]
  have capt : ∀ y ∈ scope.names, y.2 = .free → ∃ c, X.env.cells.lookup y.1 = some c := fun y m e => I.ok.has _ (ok.free y m e)
  refine wpAny_comprehension_free (use := none) rfl hs (closure_ok capt) ok.kind (fun y m e => (ok.uniq y m).trans (congrArg some e)) (thn (hi.run pins s σ H _ I want) fun _ _ hx => thn hx fun _ sI ⟨it, fp, tn, J, HI, eIt, II, Tn, st, away, plan⟩ => ?_)
  subst eIt
  refine wpAny_newObj_type (newEnv_comp ?_) (Nat.zero_le _)
  -- the list that grows, at its address
  obtain ⟨D, eD⟩ : ∃ D, sI.heap.objs.size = D := ⟨_, rfl⟩
  rw [eD]
  obtain ⟨W, ⟨m0, w0⟩, turn⟩ := plan D (II.hok.fresh (Nat.le_of_eq eD))
  obtain ⟨sD, esD⟩ : ∃ sD : Shared, ({ sI with heap := sI.heap.push { cls := .type "list", data := .seq ([] : List Value).toArray } } : Shared) = sD := ⟨_, rfl⟩
  obtain ⟨HD, eHD⟩ : ∃ HD, upd HI D (.lst []) = HD := ⟨_, rfl⟩
  have grow : ∀ b o, sI.heap.get? b = some o → sD.heap.get? b = some o := fun b o e => by rw [← esD]; exact Heap.get?_push_of_some _ e
  have ID : Inv X pins σ HD sD := by
    rw [← esD, ← eHD]
    exact II.laid (t' := sI.toks) (fun b o e => Heap.get?_push_of_some _ e) (Nat.le_of_eq eD) ⟨Nat.zero_le _, [], 0, .nil, by rw [← eD]; exact Heap.get?_push_size _ rfl⟩
  have away2 : ∀ b ∈ fp, FpOk X pins HD b ∧ b < sD.heap.objs.size := fun b m => by
    obtain ⟨o, e, _⟩ := Tn.obj _ _ st b m
    have lt := Heap.lt_size e
    refine ⟨⟨?_, (away b m).2⟩, Heap.lt_size (grow b o e)⟩
    rw [← eHD, upd_ne (by rw [← eD]; exact Nat.ne_of_lt lt)]
    exact (away b m).1
  rw [eHD] at w0
  rw [esD]
  obtain ⟨L0, eL⟩ : ∃ L0, sD.heap.objs.size = L0 := ⟨_, rfl⟩
  have start := block_start ID ok nd away2
  rw [eL] at start ⊢
  obtain ⟨cl, ecl⟩ : ∃ cl, cellsFrom (L0 + 1) scope.names (cloFrom X.env.cells scope.names []) = cl := ⟨_, rfl⟩
  have G := hg pins σ sD HD L0 cl fp ID fun b m => (away2 b m).1
  have TT' := ht pins σ sD HD L0 cl fp ID fun b m => (away2 b m).1
  have EE := he pins σ sD HD L0 cl fp ID fun b m => (away2 b m).1
  rw [ecl] at start
  refine (?_ : codeAny _ _ (.compStart (.ListComp elt [⟨tg, iter, ifs, 0⟩] scope pos) 0 (.ref it) (.ref D) (compEnvC scope (cellsFrom (L0 + 1) scope.names (cloFrom X.env.cells scope.names [])) L0 X.env)) (compPost (model X.prog X.w) X.A X.xe none (EP X pins σ Q) (.ref D) L0) { sD with heap := pushCells (sD.heap.push { cls := .type "dict", data := .dict #[] }) scope.names })
  rw [ecl]
  obtain ⟨sB, esB⟩ : ∃ sB : Shared, ({ sD with heap := pushCells (sD.heap.push { cls := .type "dict", data := .dict #[] }) scope.names } : Shared) = sB := ⟨_, rfl⟩
  have stB : tn 0 sB.heap := Tn.keep _ _ _ st fun b _ o e => by rw [← esB]; exact pushCells_keeps _ _ _ _ (Heap.get?_push_of_some _ (grow b o e))
  rw [esB] at start ⊢
  have noFp : ∀ b ∈ fp, HD b = none := fun b m => (away2 b m).1.1
  have still : ∀ {τ : L2.St} {H' : Hp} {s' : Shared}, Inv (blkX X scope sD HD L0 cl fp) [] τ H' s' → (∀ b ∈ fp, H' b = none) → ∀ b ∈ fp, FpOk (blkX X scope sD HD L0 cl fp) [] H' b := fun {τ H' s'} J n b m =>
    ⟨n b m, (J.ok.exf b m).1, J.ok.exfs b m, .inl m, fun x c e => (J.ok.exf b m).2 x c e, fun p hp => by cases (show p ∈ ([] : List (Addr × Obj)) from hp)⟩
  have loop : codeAny (model X.prog X.w) X.A (.compLoop (.ListComp elt [⟨tg, iter, ifs, 0⟩] scope pos) 0 (.ref it) (.ref D) (compEnvC scope cl L0 X.env)) (compPost (model X.prog X.w) X.A X.xe none (EP X pins σ Q) (.ref D) L0) sB := by
    refine compLoop_any (fun n s' => ∃ (i : Nat) (H' : Hp), W i n H' ∧ (∀ b ∈ fp, H' b = none) ∧ tn i s'.heap ∧ Inv (blkX X scope sD HD L0 cl fp) [] (wipe σ (own.map (·.2))) H' s') (fun n s5 ⟨i, H5, w5, n5, t5, I5⟩ => ?_) m0 ⟨0, HD, w0, noFp, stB, start⟩
    cases turn i n H5 w5 with
    | inl stp =>
      refine thnF (Tn.done (blkX X scope sD HD L0 cl fp) rfl rfl rfl calm i [] s5 _ H5 (fun _ _ => False) I5 (still I5 n5) t5 stp.1) fun r s6 ⟨er, I6⟩ => ?_
      subst er
      have back : Inv X pins σ H5 s6 := ID.call' (ch := fp) I6.os I6.base I6.hok I6.bare fun b m => let z := (away2 b m).1.2; ⟨z.2.2.1, z.1, z.2.2.2.1, z.2.2.2.2⟩
      obtain ⟨μ, ns, _⟩ := I6.loc
      have fL : FpOk X pins H5 L0 := by rw [← eL]; exact ID.fpOk (Nat.le_refl _) (by rw [eL]; exact I6.free)
      obtain ⟨f0, f1, f2, f3, f4, f5⟩ := fL
      exact ⟨μ, ns, fun h'' sb => ⟨.ref D, H5, back.turned (t' := s6.toks) (fun b o hb e => (sb.2 b hb).trans e) f0 f1 f3 f4 f5, rfl, stp.2⟩⟩
    | inr goes =>
      obtain ⟨go, Nx, less, each⟩ := goes
      refine thnF (Tn.item (blkX X scope sD HD L0 cl fp) rfl rfl rfl calm i [] s5 _ H5 (fun _ _ => False) I5 (still I5 n5) t5 go) fun r s6 ⟨u, er, h6⟩ => ?_
      subst er
      refine thnF h6 fun _ s7 ⟨x, H7, I7, r7, y7, t7, n7⟩ => ?_
      have P7 := I7.pinned (still I7 n7) (Tn.obj _ _ t7)
      refine thnF (G.run _ s7 _ H7 x u _ P7 r7 (each x H7 y7)) fun _ s8 ⟨τ, H8, I8, wiped, q8⟩ => ?_
      have next : ∀ {s' : Shared} {H' : Hp}, Nx H' → Inv (blkX X scope sD HD L0 cl fp) ([] ++ pinsAt fp s7.heap) τ H' s' → ∃ m, m < n ∧ ∃ (i : Nat) (H' : Hp), W i m H' ∧ (∀ b ∈ fp, H' b = none) ∧ tn i s'.heap ∧ Inv (blkX X scope sD HD L0 cl fp) [] (wipe σ (own.map (·.2))) H' s' := fun {s' H'} nx I' => by
        have pinned : ∀ b ∈ fp, ∀ o, s7.heap.get? b = some o → s'.heap.get? b = some o ∧ H' b = none := fun b m o e =>
          let z := I'.pin (b, o) (List.mem_append_right _ (List.mem_append_right _ (mem_pinsAt m e)))
          ⟨z.1, z.2.1⟩
        obtain ⟨m, lt, wm⟩ := less H' nx
        refine ⟨m, lt, i + 1, H', wm, fun b hb => ?_, Tn.keep _ _ _ t7 fun b hb o e => (pinned b hb o e).1, ?_⟩
        · obtain ⟨o, e, _⟩ := Tn.obj _ _ t7 b hb
          exact (pinned b hb o e).2
        · refine (I'.unpinned (pins := [])).weak (by rw [← wiped, wipe_length]) fun j v e => ?_
          rw [← wiped] at e
          exact (wipe_some e).1
      refine thnF (TT'.run _ s8 τ H8 _ I8 q8) fun b s9 ⟨H9, I9, q9⟩ => ?_
      cases b with
      | false =>
        rw [if_neg Bool.false_ne_true] at q9 ⊢
        exact next q9 I9
      | true =>
        rw [if_pos rfl] at q9 ⊢
        refine thnF (EE.run _ s9 τ H9 _ I9 q9) fun z s10 ⟨yv, H10, I10, r10, acc, hD10, fits, nx⟩ => ?_
        exact app_ok (X := blkX X scope sD HD L0 cl fp) I10 hD10 fits r10 fun s11 I11 => next nx I11
  exact codeAny_compStart_list loop (Tn.self X.A 0 _ _ _ stB loop)
/-! ### lambdas that are called there -/
structure LamN (N : List Str) (sc own : Scope) : Prop where
  kind : own.kind = .function
  co : own.isCoroutine = false
  gen : own.isGenerator = false
  loc : ∀ y ∈ own.names, y.2 ≠ .cell ∧ (y.2 = .local → y.1 ∉ N)
  free : ∀ y ∈ own.names, y.2 = .free → sc.names.lookup y.1 = some .cell ∨ sc.names.lookup y.1 = some .free
theorem LamN.ofS {N : List Str} {sc own : Scope} (L : LamS sc own) : LamN N sc own := ⟨L.kind, L.co, L.gen, fun y m => ⟨(L.own y m).2, fun e => absurd e (L.own y m).1⟩, L.free⟩
theorem LamN.ofP {N : List Str} {sc own : Scope} {a : Str} (L : Par N sc own a) : LamN N sc own := ⟨L.kind, L.co, L.gen, fun y m => ⟨(L.loc y m).1, fun e => by rw [(L.loc y m).2 e]; exact L.out⟩, L.free⟩
section
variable {X : Cx} {pins : List (Addr × Obj)} {σ : L2.St} {H HZ : Hp} {s s1 : Shared}
/-- the maker's cells, as they were -/
def CellK (X : Cx) (s : Shared) (s1 : Shared) (HZ : Hp) : Prop := ∀ (x : Str) (c : Addr) (v : Option Value), X.env.cells.lookup x = some c → s.heap.IsCell c v → s1.heap.IsCell c v ∧ HZ c = none
theorem cell_un {fs ex : List Addr} (I : Inv X pins σ H s) (un : Un fs ex H HZ s.heap s1.heap) (nx : ∀ x c, X.env.cells.lookup x = some c → c ∉ ex) : CellK X s s1 HZ := fun x c v e ⟨o, ho, od⟩ => by
  obtain ⟨sl, q⟩ := un.any ho (I.freeC x c e) (nx x c e)
  exact ⟨⟨_, q, od⟩, un.free c o ho (I.freeC x c e) (nx x c e)⟩
theorem CellK.refl (I : Inv X pins σ H s) : CellK X s s H := fun x c v e h => ⟨h, I.freeC x c e⟩
theorem CellK.un {fs : List Addr} (k : CellK X s s1 HZ) {s2 : Shared} {H2 : Hp} (un : Un fs [] HZ H2 s1.heap s2.heap) : CellK X s s2 H2 := fun x c v e h => by
  obtain ⟨⟨o, ho, od⟩, n⟩ := k x c v e h
  obtain ⟨sl, q⟩ := un.any ho n (by simp)
  exact ⟨⟨_, q, od⟩, un.free c o ho n (by simp)⟩
/-- its body's context, entered -/
theorem enterN {A : Around} {outer : List Env} {E : XK} {own : Scope} {f c' : Addr} {h₁ : Heap} {tk : Nat} {m : Str → Option Value} (I : Inv X pins σ H s) (L : LamN X.N X.env.scope own) (e0 : Env0 X.prog X.w X.K X.mg X.base A outer s1 HZ) (hd : A.handled = none)
    (ck : CellK X s s1 HZ) (hns : h₁.Ns s1.heap.objs.size m) (kp : ∀ b o, s1.heap.get? b = some o → h₁.get? b = some o) :
    Inv (lamCx X A outer s1 HZ E own f c') [] σ HZ { s1 with heap := h₁, toks := tk } := by
  have has : ∀ y ∈ own.names, y.2 = .free → ∃ c, X.env.cells.lookup y.1 = some c := fun y hy e => (L.free y hy e).elim (fun k => I.ok.has _ (.inl k)) fun k => I.ok.has _ (.inr k)
  have cl1 : ∀ {y c}, (cloFrom X.env.cells own.names []).lookup y = some c → X.env.cells.lookup y = some c := fun {y c} e => by
    rcases cloFrom_mem (PySem.mem_of_lookup e) with z | ⟨z1, z2⟩
    · cases z
    · obtain ⟨c1, hc⟩ := has _ z1 rfl
      have hc : X.env.cells.lookup y = some c1 := hc
      rw [z2, hc]
      rfl
  have cl2 : ∀ {y}, own.names.lookup y = some .free → ∃ c, (cloFrom X.env.cells own.names []).lookup y = some c := fun {y} hl =>
    mem_lookup (cloFrom_has (cells := X.env.cells) (acc := []) (show (y, NameKind.free) ∈ own.names from PySem.mem_of_lookup hl))
  have up : ∀ {c : Addr} {v : Option Value}, s1.heap.IsCell c v → h₁.IsCell c v := fun {c v} ⟨o, ho, od⟩ => ⟨o, kp _ _ ho, od⟩
  have no : ∀ b : Addr, b ∉ (lamCx X A outer s1 HZ E own f c').ex := fun b z => absurd (show b ∈ ([] : List Addr) from z) (by simp)
  refine ⟨⟨e0.mod, L.kind, rfl, rfl, Nat.le_refl _, fun y z c e1 e2 => I.ok.inj y z c (cl1 e1) (cl1 e2), fun y hy => ?_, fun y c z _ => (by cases (show false = true from z)), fun _ => hd, Around.frames_deeper e0.frames, .inr ⟨rfl, rfl⟩, fun b z => absurd z (no b), e0.bs, e0.bsz, fun b _ _ => no b,
      fun b z => absurd z (no b), e0.funs, e0.frf⟩,
    rfl, e0.bare, Un.kept kp, ⟨_, hns, fun i y v e1 e2 e3 => ?_⟩, fun y c e => ?_, e0.hok.fresh (Nat.le_refl _), fun y c e => ?_, fun q hq => absurd (show q ∈ ([] : List (Addr × Obj)) ++ [] from hq) (by simp), e0.hok.kept kp, I.len⟩
  · have hy : own.names.lookup y = some .cell ∨ own.names.lookup y = some .free := hy
    exact hy.elim (fun z => absurd rfl (L.loc _ (PySem.mem_of_lookup z)).1) cl2
  · have e3 : Vis own y := e3
    rcases e3 with k | k | k
    · have e1 : X.N[i]? = some y := e1
      exact absurd (List.mem_of_getElem? e1) ((L.loc _ (PySem.mem_of_lookup k)).2 rfl)
    · exact absurd rfl (L.loc _ (PySem.mem_of_lookup k)).1
    · obtain ⟨m', hn, hl⟩ := I.loc
      have vis : Vis X.env.scope y := (L.free _ (PySem.mem_of_lookup k) rfl).elim (fun k => .inr (.inl k)) fun k => .inr (.inr k)
      obtain ⟨w', r, q⟩ := hl i y v e1 e2 vis
      obtain ⟨c2, h2⟩ := cl2 k
      refine ⟨w', r, .inr ⟨.inr k, c2, h2, ?_⟩⟩
      rcases q with ⟨k', _⟩ | ⟨_, c3, e', z⟩
      · have k' : X.env.scope.names.lookup y = some .local := k'
        rcases L.free _ (PySem.mem_of_lookup k) rfl with k2 | k2 <;> rw [show X.env.scope.names.lookup y = _ from k2] at k' <;> cases k'
      · rw [cl1 h2] at e'
        cases e'
        exact up (ck y _ _ (cl1 h2) z).1
  · obtain ⟨w', z⟩ := I.cell y c (cl1 e)
    exact ⟨w', up (ck y c _ (cl1 e) z).1⟩
  · obtain ⟨v, z⟩ := I.cell y c (cl1 e)
    exact (ck y c _ (cl1 e) z).2
/-- what is called without anything by a def that got it, wherever the maker's cells are as they were -/
def CallK (X : Cx) (k : Nat) (is : Addr → Hp → Prop) (t : XK → TE) : Prop := ∀ (pins : List (Addr × Obj)) (σ : L2.St) (H0 : Hp) (s0 : Shared) (H : Hp) (s : Shared) (f : Addr), Inv X pins σ H0 s0 → CellK X s0 s H → is f H → ∃ c', H c' = some (CodeO c' (X.env.qual ++ "<lambda>")) ∧
  ∀ (Ng : List Str) (qg : Str) (sg : Scope) (g : Addr) (cdg : Value) (i : Nat) (x : Str) (pn : List (Addr × Obj)) (xe : Value → Shared → Prop) (W : WX) (E : XK) (p1 p2 : Pos), Room (k + 1) (X.A.deeper (envOfC qg sg s.heap.objs.size g cdg)) →
    Takes ((cxOf C8.CX0 X.prog X.w X.K X.mg X.base Ng qg sg g cdg X.A X.stack s H C8.E0).tr pn xe) W → (∀ cls d σ' H', E cls d H' → W cls d σ' H') → Ng[i]? = some x → Vis sg x → (x == ("__debug__" : Str)) = false → (x == ("__classdict__" : Str)) = false →
    PE ((cxOf C8.CX0 X.prog X.w X.K X.mg X.base Ng qg sg g cdg X.A X.stack s H C8.E0).tr pn xe) (.Call (.Name x p1) [] [] p2) (fun σZ HZ Q => σZ[i]? = some (some (.ref f)) ∧ HZ c' = some (CodeO c' (X.env.qual ++ "<lambda>")) ∧ (is f HZ ∧ t E σ HZ Q))
theorem callk_plain {params : Arguments} {body : Expr} {own : Scope} {k : Nat} {t : XK → TE} (L : LamS X.env.scope own)
    (hbind : ∀ (q : Str) (cl : List (Str × Addr)) (pm cv ctv : Value), bindArgs (PySem.W.kla_fn "<lambda>" q params body own cl pm cv ctv) ⟨[], []⟩ = pure [])
    (hbody : ∀ (A : Around) (outer : List Env) (s : Shared) (H : Hp) (E : XK) (f c' : Addr), Room k (A.deeper (lamEnv X own s.heap.objs.size f c')) → PE (lamCx X A outer s H E own f c') body (t E)) : CallK X k (IsPlain X params body own) t := by
  intro pins σ H0 s0 H s f I ck ⟨c0, _, hc0⟩
  refine ⟨c0, hc0, fun Ng qg sg g cdg i x pn xe W E p1 p2 hr tk hW hN hv hdb hcd => ⟨fun pinsZ sZ σZ HZ Q IZ ⟨hs, _, ⟨c', hf, hc⟩, ht⟩ => ?_⟩⟩
  refine wpAny_Call_Name_kw (thn ((pe_var (pos := p1) (i := i) hN hv hdb hcd).run pinsZ sZ σZ HZ (fun v H1 => v = .ref f ∧ H1 = HZ) IZ ⟨.ref f, hs, rfl, rfl⟩) fun u' s1 ⟨v, H1, I1, r1, ev, eH⟩ => ?_)
  subst ev eH
  obtain rfl : u' = Value.ref f := r1
  obtain ⟨⟨pm, ctv, of1⟩, _, _⟩ := I1.hok f _ hf
  refine PySem.W.callWith_F0 ⟨_, _, _, _, of1⟩ ?_
  have ck1 : CellK X s0 s1 H1 := ck.un (show Un (frs X.stack) [] H H1 s.heap s1.heap from I1.base)
  obtain ⟨⟨oc, vs, tt, hoc, hdc, hvc⟩, _, _⟩ := I1.hok c' _ hc
  have rc : codeAny (model X.prog X.w) (X.A.deeper (envOfC qg sg s.heap.objs.size g cdg)) (.call (.ref f) ⟨[], []⟩) (CR (L2.CX X.prog X.w) (envOfC qg sg s.heap.objs.size g cdg :: X.stack) X.prog X.w H1 s1 Q E) s1 := by
    refine PySem.W.kla_callFunE hr.depth of1 rfl L.co L.gen rfl ⟨c', oc, vs, tt, rfl, hoc, hdc, hvc⟩ ?_
    rw [hbind]
    refine wpAny_pure (wpAny_newFunctionEnv (fun y hy => (L.own y hy).2) (fun y hy => absurd hy (by simp)) (fun h₁ hns hsb => ⟨I1.nolimit.fresh _ hsb, ?_⟩) L.kind)
    refine (?_ : codeAny _ _ (.expr body (lamEnv X own s1.heap.objs.size f c')) _ _)
    have kp : ∀ b o, s1.heap.get? b = some o → h₁.get? b = some o := fun b o e => hsb.extBut b o (Nat.ne_of_lt (Heap.lt_size e)) (Heap.get?_push_of_some _ e)
    have J := enterN (A := X.A.deeper (envOfC qg sg s.heap.objs.size g cdg)) (outer := envOfC qg sg s.heap.objs.size g cdg :: X.stack) (E := E) (f := f) (c' := c') (tk := s1.toks + ([] : List (Str × Value)).length) I (LamN.ofS L) I1.env0 hr.hd ck1 hns kp
    exact PySem.W.kla_codeExpr (wpAny_mono ((hbody _ _ s1 H1 E f c' (hr.deeper _)).run [] _ _ H1 Q J ht) (fun v s' ⟨w', H', J', rv, q⟩ => ⟨w', H', J'.os, J'.bare, J'.base, J'.hok, rv, q⟩) fun _ _ hq => hq)
  have hx : Passes (L2.CX X.prog X.w) ((cxOf C8.CX0 X.prog X.w X.K X.mg X.base Ng qg sg g cdg X.A X.stack s H C8.E0).tr pn xe) E := passes_call tk hW
  refine wpAny_call (codeAny_mono rc fun r s' hq => ?_)
  match r, hq with
  | .error e, hq => exact hx pinsZ σZ H1 s1 e s' I1 hq
  | .ok (.ret u), hq => exact I1.after hq
  | .ok .next, hq => exact False.elim hq
  | .ok .brk, hq => exact False.elim hq
  | .ok .cont, hq => exact False.elim hq
theorem callk_dflt {params : Arguments} {body : Expr} {own : Scope} {k : Nat} {a : Str} {t : XK → TE} (L : Par X.N X.env.scope own a)
    (hbind : ∀ (u : Value) (D : Addr) (q : Str) (cl : List (Str × Addr)) (doc pm cv ctv : Value) (s : Shared), s.heap.get? D = some (PySem.W.kdv_tup [u]) → BindsTo s (PySem.W.kdv_fn "<lambda>" q params (.expr body) own cl (.ref D) doc pm cv ctv) ⟨[], []⟩ [(a, u)])
    (hbody : ∀ (A : Around) (outer : List Env) (s : Shared) (H : Hp) (E : XK) (f c' : Addr), Room k (A.deeper (lamEnv X own s.heap.objs.size f c')) → PE (lamCx X A outer s H E own f c') body (t E)) : CallK X k (IsDflt X params body own) t := by
  intro pins σ H0 s0 H s f I ck ⟨c0, _, _, _, _, hc0⟩
  refine ⟨c0, hc0, fun Ng qg sg g cdg i x pn xe W E p1 p2 hr tk hW hN hv hdb hcd => ⟨fun pinsZ sZ σZ HZ Q IZ ⟨hs, _, ⟨c', D, u, hf, hD, hc⟩, ht⟩ => ?_⟩⟩
  refine wpAny_Call_Name_kw (thn ((pe_var (pos := p1) (i := i) hN hv hdb hcd).run pinsZ sZ σZ HZ (fun v H1 => v = .ref f ∧ H1 = HZ) IZ ⟨.ref f, hs, rfl, rfl⟩) fun u' s1 ⟨v, H1, I1, r1, ev, eH⟩ => ?_)
  subst ev eH
  obtain rfl : u' = Value.ref f := r1
  obtain ⟨⟨doc, pm, ctv, of1⟩, _, _⟩ := I1.hok f _ hf
  obtain ⟨oD, _, _⟩ := I1.hok D _ hD
  refine PySem.W.callWith_F0 ⟨_, _, _, _, of1⟩ ?_
  have ck1 : CellK X s0 s1 H1 := ck.un (show Un (frs X.stack) [] H H1 s.heap s1.heap from I1.base)
  obtain ⟨⟨oc, vs, tt, hoc, hdc, hvc⟩, _, _⟩ := I1.hok c' _ hc
  have rc : codeAny (model X.prog X.w) (X.A.deeper (envOfC qg sg s.heap.objs.size g cdg)) (.call (.ref f) ⟨[], []⟩) (CR (L2.CX X.prog X.w) (envOfC qg sg s.heap.objs.size g cdg :: X.stack) X.prog X.w H1 s1 Q E) s1 := by
    refine PySem.W.kla_callFunE hr.depth of1 rfl L.co L.gen rfl ⟨c', oc, vs, tt, rfl, hoc, hdc, hvc⟩ (hbind u D _ _ _ _ _ _ s1 oD _ _ _ _ ?_)
    refine wpAny_newFunctionEnv (fun y hy => (L.loc y hy).1) (fun y hy => by rw [List.mem_singleton.mp hy]; exact L.par) (fun h₁ hns hsb => ⟨I1.nolimit.fresh _ hsb, ?_⟩) L.kind
    refine (?_ : codeAny _ _ (.expr body (lamEnv X own s1.heap.objs.size f c')) _ _)
    have kp : ∀ b o, s1.heap.get? b = some o → h₁.get? b = some o := fun b o e => hsb.extBut b o (Nat.ne_of_lt (Heap.lt_size e)) (Heap.get?_push_of_some _ e)
    have J := enterN (A := X.A.deeper (envOfC qg sg s.heap.objs.size g cdg)) (outer := envOfC qg sg s.heap.objs.size g cdg :: X.stack) (E := E) (f := f) (c' := c') (tk := s1.toks + ([(a, u)] : List (Str × Value)).length) I (LamN.ofP L) I1.env0 hr.hd ck1 hns kp
    exact PySem.W.kla_codeExpr (wpAny_mono ((hbody _ _ s1 H1 E f c' (hr.deeper _)).run [] _ _ H1 Q J ht) (fun v s' ⟨w', H', J', rv, q⟩ => ⟨w', H', J'.os, J'.bare, J'.base, J'.hok, rv, q⟩) fun _ _ hq => hq)
  have hx : Passes (L2.CX X.prog X.w) ((cxOf C8.CX0 X.prog X.w X.K X.mg X.base Ng qg sg g cdg X.A X.stack s H C8.E0).tr pn xe) E := passes_call tk hW
  refine wpAny_call (codeAny_mono rc fun r s' hq => ?_)
  match r, hq with
  | .error e, hq => exact hx pinsZ σZ H1 s1 e s' I1 hq
  | .ok (.ret u), hq => exact I1.after hq
  | .ok .next, hq => exact False.elim hq
  | .ok .brk, hq => exact False.elim hq
  | .ok .cont, hq => exact False.elim hq
/-- x(v), v one of some lambdas of the def's, in a comprehension; the def's slots are σ -/
def tWordI (TT : (XK → Hp → VK → Prop) → Hp → VK → Prop) (Ls : List ((Addr → Hp → Prop) × (XK → TE))) (te : TE) (σ : L2.St) : TE := fun τ H Q => te τ H fun v H1 => ∃ f : Addr, v = .ref f ∧ ∃ l ∈ Ls, l.1 f H1 ∧ TT (fun E H' Q' => l.1 f H' ∧ l.2 E σ H' Q') H1 Q
theorem pe_wordI {scope : Scope} {C : Addr} {cl : List (Str × Addr)} {fp : List Addr} {Ls : List ((Addr → Hp → Prop) × (XK → TE))} {TT : (XK → Hp → VK → Prop) → Hp → VK → Prop} {x y z : Str} {g : Addr} {k j : Nat} {pg : Arguments} {bg : List Stmt} {sg : Scope} {dV kV doc pm cdv ct oc : Value} {an od : Option Addr} {osl : Array (Option Value)} {Ng : List Str}
    {p pz pos : Pos} (I0 : Inv X pins σ H s) (away : ∀ b ∈ fp, FpOk X pins H b) (hg : Gl (blkX X scope s H C cl fp) x) (hm : X.mg x = some (.ref g)) (hk : PySem.W.keepIn X.K (.ref g) = true)
    (lk : X.K.lookup g = some ⟨oc, od, .func (PySem.W.fnOf x x pg bg sg dV kV doc pm an cdv ct), osl⟩) (hcg : PySem.W.codeIn X.K cdv x = true) (hb : L2.Binds X.K (PySem.W.fnOf x x pg bg sg dV kV doc pm an cdv ct) [y] []) (Sg : FnScope Ng [y] sg) (hNg : Ng[0]? = some y) (hva : Vis sg y)
    (hG : GivesTo X Ng x sg g cdv bg y (X.env.qual ++ "<lambda>") TT) (hr : Room (k + 2) X.A) (hL : ∀ l ∈ Ls, CallK X k l.1 l.2) (hz : PE (blkX X scope s H C cl fp) (.Name z pz) (tVar j))
    (hdb : (x == ("__debug__" : Str)) = false := by decide) (hd : (y == ("__debug__" : Str)) = false := by decide) (hcd : (y == ("__classdict__" : Str)) = false := by decide) :
    PE (blkX X scope s H C cl fp) (.Call (.Name x p) [.Name z pz] [] pos) (tWordI TT Ls (tVar j) σ) := by
  refine ⟨fun pins' s2 τ H2 Q I h => ?_⟩
  refine wpAny_Call_Name_kw (ld_glob I hg hm ?_ hdb)
  refine PySem.W.callWith_K (h₀ := X.base) I.ok.mod.kin hk ?_ (by rfl) (by rfl)
  refine (?_ : wpAny _ _ (spliced ((false, eval (.Name z pz) (blkX X scope s H C cl fp).env) :: backTo pos (starEach [] (blkX X scope s H C cl fp).env))) _ _ s2)
  refine Calls.spliced_cons (thn (hz.run pins' s2 τ H2 _ I h) fun u s' ⟨v, H1, I1, rv, f, ev, l, hl, hi, hT⟩ => Calls.spliced_nil ⟨I1.kIn, ?_⟩)
  subst ev
  obtain rfl : u = Value.ref f := rv
  have ck : CellK X s s' H1 := cell_un I0 (show Un (blkX X scope s H C cl fp).fs fp H H1 s.heap s'.heap from I1.base) fun x c e m => (away c m).2.2.2.2.1 x c e rfl
  obtain ⟨c', hco, act⟩ := hL l hl pins σ H s H1 s' f I0 ck hi
  have rc : codeAny (model X.prog X.w) X.A (.call (.ref g) ⟨[.ref f], []⟩) (CR C8.CX0 X.stack X.prog X.w H1 s' Q C8.E0) s' := by
    refine run_ofS (N := Ng) (ps := [y]) (us := [.ref f]) (vs := [.ref f]) lk hcg Sg hr I1.env0 (hb s' [.ref f] I1.kIn rfl) (.cons rfl .nil) rfl fun hr' => ?_
    obtain ⟨t', ht', hq'⟩ := hG f c' s' H1 Q (fun E H' Q' => l.1 f H' ∧ l.2 E σ H' Q') (fun W pn xe E p1 p2 tk hW => act Ng x sg g cdv 0 y pn xe W E p1 p2 hr' tk hW hNg hva hd hcd) hco hT
    exact ⟨t', ht'.nox, hq'⟩
  refine wpAny_call (codeAny_mono rc fun r s2 hq => ?_)
  match r, hq with
  | .error e, hq => exact (show False from hq).elim
  | .ok (.ret u), hq => exact I1.after hq
  | .ok .next, hq => exact False.elim hq
  | .ok .brk, hq => exact False.elim hq
  | .ok .cont, hq => exact False.elim hq
end
end LamV
namespace LamV
open PySem PySem.Spec PyProof.Rows L2
theorem allB_nil {X : Cx} {k : Nat} : ∀ l ∈ ([] : List ((Addr → Hp → Prop) × (XK → TE))), CallK X k l.1 l.2 := fun l h => nomatch h
theorem allB_cons {X : Cx} {k : Nat} {i : Addr → Hp → Prop} {t : XK → TE} {r : List ((Addr → Hp → Prop) × (XK → TE))} (h : CallK X k i t) (hr : ∀ l ∈ r, CallK X k l.1 l.2) : ∀ l ∈ (i, t) :: r, CallK X k l.1 l.2 := fun l hl => by
  rcases List.mem_cons.mp hl with rfl | hl
  · exact h
  · exact hr l hl
end LamV
namespace Say
open PySem PySem.Spec PyProof.Rows L2 L2.DX
abbrev lamP : Expr → Arguments
  | .Lambda a _ _ _ => a
  | _ => defArgs (topS 112)
abbrev lamB : Expr → Expr
  | .Lambda _ b _ _ => b
  | e => e
abbrev lamO : Expr → Scope
  | .Lambda _ _ o _ => o
  | _ => defScope (topS 112)
section
variable {P : Program} {w : World} {K : PySem.W.Frag} {mg : Str → Option Value} {base : Heap}
abbrev sLaw : Stmt := topS 112
abbrev nLaw : List Str := ["_law_script", "_law_row_here", "_law_book_here", "_law_letters_here", "_law_rules_here", "_law_far", "_law_word_here", "_law_works", "_law_sounds", "_law_many", "_law_words", "_law_number", "_law_due", "_law_work"]
theorem scLaw : FnScope nLaw ["_law_script"] (defScope sLaw) := ⟨rfl, rfl, rfl, by decide +kernel, rfl, by decide +kernel, by decide +kernel⟩
abbrev eNone : Expr := .Constant .none 0 ⟨0, 0, 0, 0⟩
abbrev lamE (i : Nat) : Expr := match (defBody sLaw).getD 4 (.Pass ⟨0, 0, 0, 0⟩) with
  | .Assign _ (.List es _) _ => es.getD i eNone
  | _ => eNone
abbrev lamE0 : Expr := lamE 0
abbrev lamE1 : Expr := lamE 1
abbrev lamE2 : Expr := lamE 2
abbrev lamE3 : Expr := match (defBody sLaw).getD 5 (.Pass ⟨0, 0, 0, 0⟩) with
  | .Assign _ (.BinOp _ _ (.List (e :: _) _) _) _ => e
  | _ => eNone
abbrev rAddZ : R2 := fun x y H Q => ∃ i j, x = .str i ∧ y = .str j ∧ i.length + j.length ≤ sizeLine ∧ Q (.str (i ++ j)) H
abbrev rInt1 : List V → Hp → VK → Prop := fun xs H Q => (∃ i, xs = [.int i] ∧ Q (.int i) H) ∨ ∃ k, xs = [.bl k] ∧ Q (.int (if k then 1 else 0)) H
def spLawT2 (K : PySem.W.Frag) (Pt PT : Addr) : Sp := fun vs H Q _ => ∃ (a : Addr) (ns : List Int), vs = [.ref a] ∧ SqL K H a (ns.map V.int) ∧ ns.length ≤ 63 ∧ H Pt = some (.tbl #[]) ∧ H PT = some (.tbl #[]) ∧ ∀ H', Q (.bl true) H'
theorem ok_law {f cL Pt PT gW CB CW CS CC CO CDk CSy fInDk fInSy fSa fFe : Addr} {fdW fdInDk fdInSy fdSa fdFe : FuncData} {oc : Value} {od an : Option Addr} {osl : Array (Option Value)} {kV doc pm ct : Value}
    (lk : K.lookup f = some ⟨oc, od, .func (PySem.W.fnOf "law" "law" (defArgs sLaw) (defBody sLaw) (defScope sLaw) .none kV doc pm an (.ref cL) ct), osl⟩) (hcd : PySem.W.codeIn K (.ref cL) "law" = true)
    (TB : LamX.TabB base mg cL Pt) (nP : Pt ≠ PT) (B : Bn mg) (mInt : mg "int" = none) (kLong : KI mg "LONG" 5) (WB : WordC K mg CB 0) (WW : WordC K mg CW 1) (WS : WordC K mg CS 2) (WC : WordC K mg CC 3) (WO : WordC K mg CO 7)
    (FW : Fun K "_law_word" "_law_word" sLWo gW fdW) (mW : mg "_law_word" = some (.ref gW))
    {fWk : Addr} {fdWk : FuncData} (GWk : FnOk P w K mg base (L2.CX P w) 6 fWk fdWk ["book", "word"] (spWdX K CW)) (kWk : PySem.W.keepIn K (.ref fWk) = true) (bWk : Binds K fdWk ["book", "word"] []) (mWk : mg "walk" = some (.ref fWk))
    {fSd : Addr} {fdSd : FuncData} (GSd : FnOk P w K mg base (L2.CX P w) 6 fSd fdSd ["book", "word"] (spWdX K CW)) (kSd : PySem.W.keepIn K (.ref fSd) = true) (bSd : Binds K fdSd ["book", "word"] []) (mSd : mg "said" = some (.ref fSd))
    {fUs : Addr} {fdUs : FuncData} (GUs : FnOk P w K mg base (L2.CX P w) 6 fUs fdUs ["book", "number"] (spUseX CC)) (kUs : PySem.W.keepIn K (.ref fUs) = true) (bUs : Binds K fdUs ["book", "number"] []) (mUs : mg "use" = some (.ref fUs))
    {fPt : Addr} {fdPt : FuncData} (GPt : FnOk P w K mg base (L2.CX P w) 6 fPt fdPt ["one", "other"] (spPtX K CB CO)) (kPt : PySem.W.keepIn K (.ref fPt) = true) (bPt : Binds K fdPt ["one", "other"] []) (mPt : mg "parted" = some (.ref fPt))
    {fWr : Addr} {fdWr : FuncData} (FWr : FunD K "writings" "writings" (defArgs sWr) (defBody sWr) (defScope sWr) [] [("long", .int 5)] fWr fdWr) (GWr : FnOk P w K mg base (L2.CX P w) 6 fWr fdWr ["book", "sounds", "long"] (spWrX K CS CC)) (mWr : mg "writings" = some (.ref fWr))
    (SDk : DkC K CDk) (mCDk : mg "Desk" = some (.ref CDk)) (MkDk : Mk K CDk fInDk) (GInDk : FnOk P w K mg base CX0 6 fInDk fdInDk ["self", "book"] (spDIn CDk)) (bInDk : Binds K fdInDk ["self", "book"] [])
    (GSa : FnOk P w K mg base (L2.CX P w) 7 fSa fdSa ["self", "word"] (spDSayX K CDk CW)) (mSa : Meth K CDk "say" fSa) (bSa : Binds K fdSa ["self", "word"] [])
    (SSy : SyC K CSy) (mCSy : mg "Sayer" = some (.ref CSy)) (MkSy : Mk K CSy fInSy) (GInSy : FnOk P w K mg base CX0 6 fInSy fdInSy ["self", "book"] (spInitS CSy)) (bInSy : Binds K fdInSy ["self", "book"] [])
    (GFe : FnOk P w K mg base (L2.CX P w) 2 fFe fdFe ["self", "letter"] (spFeedX K CSy CW)) (mFe : Meth K CSy "feed" fFe) (bFe : Binds K fdFe ["self", "letter"] [])
    (DBs : Df P w K mg base "_law_bad_samples" ["_law_row_here", "_law_book_here"] 9 (spBs K (Ts4 Pt PT)))
    (DRo : Df P w K mg base "_law_row" ["_law_script"] 1 (spRow K)) (DT : Df P w K mg base "_law_taken" ["_law_row_here", "_law_many"] 1 (spTaken K)) (DLB : Df P w K mg base "_law_book" ["_law_row_here"] 5 (spLBL K)) :
    FnOk P w K mg base CX0 10 f (PySem.W.fnOf "law" "law" (defArgs sLaw) (defBody sLaw) (defScope sLaw) .none kV doc pm an (.ref cL) ct) ["_law_script"] (spLawT2 K Pt PT) := by
  obtain ⟨fRo, fdRo, GRo, kRo, bRo, mRo⟩ := DRo
  obtain ⟨fT, fdT, GT, kT, bT, mT⟩ := DT
  obtain ⟨fLB, fdLB, GLB, kLB, bLB, mLB⟩ := DLB
  obtain ⟨fBs, fdBs, GBs, kBs, bBs, mBs⟩ := DBs
  obtain ⟨tLong, mLong⟩ := kLong
  obtain ⟨cS, mS, _⟩ := id WC.say
  obtain ⟨mv, kb⟩ := wr_kb FWr
  have kWr := FWr.kp
  obtain ⟨ocW, odW, kVW, docW, pmW, anW, cdvW, ctW, oslW, eW, lkW, hcW⟩ := FW.ex
  have kW := FW.kp
  have bW : Binds K fdW ["_law_work"] [] := FW.binds fun _ _ _ _ _ _ us hl => match us, hl with | [_], _ => rfl
  subst eW
  have hmT : (Pt, qLam) ∈ Ts4 Pt PT := by simp
  have huT : ∀ p ∈ Ts4 Pt PT, p.1 = Pt → p.2 = qLam := fun p hp e => by
    rcases List.mem_cons.mp hp with rfl | hp
    · rfl
    · rw [List.mem_singleton.mp hp] at e
      exact absurd e.symm nP
  refine fn_of lk hcd scLaw (fun vs H Q E h => ?_) (fun A outer s H vs Q E hr h => ?_)
  · obtain ⟨a, ns, rfl, _⟩ := h
    rfl
  · obtain ⟨a, ns, rfl, hSc, hle, hPt, hPT, q⟩ := h
    suffices hh : ∃ tt, PSs (cxOf CX0 P w K mg base nLaw "law" (defScope sLaw) f (.ref cL) A outer s H E).nox (defBody sLaw) tt ∧ tt { nx := fun _ H' => Q .non H', rt := Q } (start nLaw [.ref a]) H by
      obtain ⟨tt, h1, h2⟩ := hh
      exact ⟨tt, h1.nox, h2⟩
    have hr1 : Room 1 _ := hr.mono (by decide)
    have hr5 : Room 5 _ := hr.mono (by decide)
    have hr9 : Room 9 _ := hr
    have hu := hu_of hr
    refine ⟨_, pss_cons (ps_set (i := 1) scLaw.nd rfl (.inl rfl) (pe_call GRo hr1 (by rfl) mRo kRo bRo .nil pass0 (pa_cons (pv 0) pa_nil)))
      (pss_cons (ps_set (i := 2) scLaw.nd rfl (.inr rfl) (pe_call GLB hr5 (by rfl) mLB kLB bLB .nil pass0 (pa_cons (pv 1) pa_nil)))
      (pss_cons (ps_asg (pe_tup (pa_cons (pe_ix ix_tup (pv 2) pe_int (fun _ _ => rfl)) (pa_cons (pe_ix ix_tup (pv 2) pe_int (fun _ _ => rfl)) (pa_cons (pe_call GT hr1 (by rfl) mT kT bT .nil pass0 (pa_cons (pv 1) (pa_cons pe_int pa_nil))) pa_nil)))) (pg_tup (by rfl) (pgs_cons (pg_name (i := 3) scLaw.nd rfl (.inr rfl)) (pgs_cons (pg_name (i := 4) scLaw.nd rfl (.inl rfl)) (pgs_cons (pg_name (i := 5) scLaw.nd rfl (.inr rfl)) pgs_nil)))))
      (pss_cons (ps_set (i := 6) scLaw.nd rfl (.inr rfl) (pe_ix ix_list (pe_lst (pa_cons pe_str (pa_cons pe_str (pa_cons (pe_op op_repS (pe_ix ix_str (pv 3) pe_int (fun _ _ => rfl)) pe_int) (pa_cons pe_str (pa_cons pe_non (pa_cons pe_int (pa_cons (pe_tup (pa_cons pe_str pa_nil)) pa_nil)))))))) (pe_call GT hr1 (by rfl) mT kT bT .nil pass0 (pa_cons (pv 1) (pa_cons pe_int pa_nil))) (fun _ _ => rfl)))
      (pss_cons (ps_set (i := 7) scLaw.nd rfl (.inl rfl) (pe_lst (pa_cons (LamV.pe_plain (Ts := Ts4 Pt PT) TB rfl hmT huT (LamX.lamS_by (by show LamX.lamSB (defScope sLaw) _ = true; decide +kernel)) rfl) (pa_cons (LamV.pe_dflt (Ts := Ts4 Pt PT) (a := "_law_a") (z := 0) TB rfl hmT huT (LamD.par_by (by show LamD.parB nLaw (defScope sLaw) _ _ = true; decide +kernel)) rfl rfl pe_int) (pa_cons (LamV.pe_dflt (Ts := Ts4 Pt PT) (a := "_law_b") (z := 0) TB rfl hmT huT (LamD.par_by (by show LamD.parB nLaw (defScope sLaw) _ _ = true; decide +kernel)) rfl rfl pe_int) pa_nil)))))
      (pss_cons (ps_set (i := 7) scLaw.nd rfl (.inl rfl) (pe_op op_cat (pv 7) (pe_lst (pa_cons (LamV.pe_dflt (Ts := Ts4 Pt PT) (a := "_law_c") (z := 0) TB rfl hmT huT (LamD.par_by (by show LamD.parB nLaw (defScope sLaw) _ _ = true; decide +kernel)) rfl rfl pe_int) pa_nil))))
      (pss_cons (ps_if (pt_cmpR (op_neD hr.units) (LamV.pe_lcI (own := [("_law_work", 13)]) (g := gName 13) (tt := fun σ0 => tTest (tOp (rNeD K) (LamV.tWordI (TTw K mg) [(LamV.IsPlain (cxOf CX0 P w K mg base nLaw "law" (defScope sLaw) f (.ref cL) A outer s H E).nox (lamP lamE0) (lamB lamE0) (lamO lamE0), fun E => tCall (spWdX K CW) [] E (tCons (tVar 2) (tCons (tVar 6) tNil))), (LamV.IsDflt (cxOf CX0 P w K mg base nLaw "law" (defScope sLaw) f (.ref cL) A outer s H E).nox (lamP lamE1) (lamB lamE1) (lamO lamE1), fun E => tCall (spWdX K CW) [] E (tCons (tVar 2) (tCons (tVar 6) tNil))), (LamV.IsDflt (cxOf CX0 P w K mg base nLaw "law" (defScope sLaw) f (.ref cL) A outer s H E).nox (lamP lamE2) (lamB lamE2) (lamO lamE2), fun E => tMeth CDk "say" (spDSayX K CDk CW) [] E (tMake CDk (spDIn CDk) [] E0 (tCons (tVar 2) tNil)) (tCons (tVar 6) tNil)), (LamV.IsDflt (cxOf CX0 P w K mg base nLaw "law" (defScope sLaw) f (.ref cL) A outer s H E).nox (lamP lamE3) (lamB lamE3) (lamO lamE3), fun E => tMeth CSy "feed" (spFeedX K CSy CW) [] E (tMake CSy (spInitS CSy) [] E0 (tCons (tVar 2) tNil)) (tCons (tOp (rIxL K) (tLst (tCons (tVar 6) (tCons (tC (.str "")) (tCons (tVar 3) tNil)))) (tOp (rI (fun _ j => 0 < j) fun i j => .int (i % j)) (tVar 5) (tC (.int 3)))) tNil))] (tVar 13) σ0) (tTup (tCons (tC (.str "word")) (tCons (tC .non) tNil))))) (te := fun _ => tVar 13) rfl scLaw.nd (pi_list (pv 7)) (blkOk_by (N := nLaw) (sc := defScope sLaw) (by decide +kernel)) (fun _ _ _ _ _ _ _ _ _ => pg_name (i := 13) scLaw.nd rfl (.inl rfl)) (fun _ σ0 _ _ _ _ _ I0 aw => pts_one (pt_cmpR (op_neD hr.units) (LamV.pe_wordI I0 aw (by rfl) mW kW lkW hcW bW scLWo rfl (by exact .inl rfl) (word_gives B mS) hr9 (LamV.allB_cons (LamV.callk_plain (t := fun E => tCall (spWdX K CW) [] E (tCons (tVar 2) (tCons (tVar 6) tNil))) (LamX.lamS_by (by show LamX.lamSB (defScope sLaw) _ = true; decide +kernel)) (fun _ _ _ _ _ => rfl) (fun A' outer' s' H' E' f' c' hr' => pe_call (E := E') GWk (hr'.mono (by decide)) (by rfl) mWk kWk bWk .nil (passes_call (W := fun cls d _ H => E' cls d H) (takes_of rfl rfl rfl rfl) (fun _ _ _ _ h => h)) (pa_cons (pv 2) (pa_cons (pv 6) pa_nil)))) (LamV.allB_cons (LamV.callk_dflt (a := "_law_a") (t := fun E => tCall (spWdX K CW) [] E (tCons (tVar 2) (tCons (tVar 6) tNil))) (LamD.par_by (by show LamD.parB nLaw (defScope sLaw) _ _ = true; decide +kernel)) (fun _ _ _ _ _ _ _ _ _ hD => BindsTo.of_defaults rfl hD rfl rfl rfl) (fun A' outer' s' H' E' f' c' hr' => pe_call (E := E') GSd (hr'.mono (by decide)) (by rfl) mSd kSd bSd .nil (passes_call (W := fun cls d _ H => E' cls d H) (takes_of rfl rfl rfl rfl) (fun _ _ _ _ h => h)) (pa_cons (pv 2) (pa_cons (pv 6) pa_nil)))) (LamV.allB_cons (LamV.callk_dflt (a := "_law_b") (t := fun E => tMeth CDk "say" (spDSayX K CDk CW) [] E (tMake CDk (spDIn CDk) [] E0 (tCons (tVar 2) tNil)) (tCons (tVar 6) tNil)) (LamD.par_by (by show LamD.parB nLaw (defScope sLaw) _ _ = true; decide +kernel)) (fun _ _ _ _ _ _ _ _ _ hD => BindsTo.of_defaults rfl hD rfl rfl rfl) (fun A' outer' s' H' E' f' c' hr' => pe_meth (E := E') (pe_make MkDk GInDk hr' (by rfl) mCDk bInDk .nil pass0 (pa_cons (pv 2) pa_nil)) SDk.cl mSa GSa (hr'.mono (by decide)) bSa .nil (passes_call (W := fun cls d _ H => E' cls d H) (takes_of rfl rfl rfl rfl) (fun _ _ _ _ h => h)) (pa_cons (pv 6) pa_nil))) (LamV.allB_cons (LamV.callk_dflt (a := "_law_c") (t := fun E => tMeth CSy "feed" (spFeedX K CSy CW) [] E (tMake CSy (spInitS CSy) [] E0 (tCons (tVar 2) tNil)) (tCons (tOp (rIxL K) (tLst (tCons (tVar 6) (tCons (tC (.str "")) (tCons (tVar 3) tNil)))) (tOp (rI (fun _ j => 0 < j) fun i j => .int (i % j)) (tVar 5) (tC (.int 3)))) tNil)) (LamD.par_by (by show LamD.parB nLaw (defScope sLaw) _ _ = true; decide +kernel)) (fun _ _ _ _ _ _ _ _ _ hD => BindsTo.of_defaults rfl hD rfl rfl rfl) (fun A' outer' s' H' E' f' c' hr' => pe_meth (E := E') (pe_make MkSy GInSy hr' (by rfl) mCSy bInSy .nil pass0 (pa_cons (pv 2) pa_nil)) SSy.cl mFe GFe (hr'.mono (by decide)) bFe .nil (passes_call (W := fun cls d _ H => E' cls d H) (takes_of rfl rfl rfl rfl) (fun _ _ _ _ h => h)) (pa_cons (pe_ix ix_list (pe_lst (pa_cons (pv 6) (pa_cons pe_str (pa_cons (pv 3) pa_nil)))) (pe_op op_mod (pv 5) pe_int) (fun _ _ => rfl)) pa_nil))) LamV.allB_nil)))) (pv 13)) (pe_tup (pa_cons pe_str (pa_cons pe_non pa_nil))) (nomark _))) (fun _ _ _ _ _ _ _ _ _ => pv 13)) (pe_lst pa_nil) (nomark _)) (pss_one (ps_ret pe_bl)) pss_nil)
      (pss_cons (ps_set (i := 8) scLaw.nd rfl (.inr rfl) (pe_ix ix_list (pe_lst (pa_cons pe_str (pa_cons (pe_op op_repS pe_str pe_int) (pa_cons pe_str (pa_cons pe_non (pa_cons pe_int (pa_cons (pe_tup (pa_cons pe_str pa_nil)) pa_nil))))))) (pe_call GT hr1 (by rfl) mT kT bT .nil pass0 (pa_cons (pv 1) (pa_cons pe_int pa_nil))) (fun _ _ => rfl)))
      (pss_cons (ps_set (i := 9) scLaw.nd rfl (.inr rfl) (pe_ix ix_list (pe_lst (pa_cons (pe_op op_add pe_int (pv 5)) (pa_cons (pe_op op_sub (pe_op op_sub pe_int pe_int) (pv 5)) (pa_cons pe_non (pa_cons pe_bl (pa_cons pe_str pa_nil)))))) (pe_call GT hr1 (by rfl) mT kT bT .nil pass0 (pa_cons (pv 1) (pa_cons pe_int pa_nil))) (fun _ _ => rfl)))
      (pss_cons (ps_set (i := 10) scLaw.nd rfl (.inl rfl) (pe_lst (pa_cons (LamX.pe_lamcall (T := Ts4 Pt PT) (k := 7) (t := fun E => tCallN 2 (["long"] : List Str).length (spWrX K CS CC) (fun vs zs => vs ++ zs) E (tCons (tVar 2) (tCons (tVar 8) tNil)) (tCons (tVar 9) tNil)) (by rfl) mW kW lkW hcW bW scLWo rfl (by exact .inl rfl) (word_gives B mS) TB rfl hmT huT hr9 (LamX.lamS_by (by show LamX.lamSB (defScope sLaw) _ = true; decide +kernel)) rfl (fun _ _ _ _ _ => rfl)
            (fun A' outer' s' H' E' f' c' hr' => pe_callN (E := E') GWr (hr'.mono (by decide)) (by rfl) mWr kWr kb (passes_call (W := fun cls d _ H => E' cls d H) (takes_of rfl rfl rfl rfl) (fun _ _ _ _ h => h)) (pa_cons (pv 2) (pa_cons (pv 8) pa_nil)) (pk_cons (pv 9) pk_nil))) (pa_cons (LamD.pe_lamcall (Ts := Ts4 Pt PT) (a := "_law_a") (z := 0) (k := 7) (t := fun E => tCallN 2 (["long"] : List Str).length (spWrX K CS CC) (fun vs zs => vs ++ zs) E (tCons (tVar 2) (tCons (tC (.str "")) tNil)) (tCons (tVar 9) tNil)) (by rfl) mW kW lkW hcW bW scLWo rfl (by exact .inl rfl) (word_gives B mS) TB rfl hmT huT hr9 (LamD.par_by (by show LamD.parB nLaw (defScope sLaw) _ _ = true; decide +kernel)) rfl rfl pe_int (fun _ _ _ _ _ _ _ _ _ hD => BindsTo.of_defaults rfl hD rfl rfl rfl)
            (fun A' outer' s' H' E' f' c' hr' => pe_callN (E := E') GWr (hr'.mono (by decide)) (by rfl) mWr kWr kb (passes_call (W := fun cls d _ H => E' cls d H) (takes_of rfl rfl rfl rfl) (fun _ _ _ _ h => h)) (pa_cons (pv 2) (pa_cons pe_str pa_nil)) (pk_cons (pv 9) pk_nil))) pa_nil))))
      (pss_cons (ps_set (i := 11) scLaw.nd rfl (.inr rfl) (pe_ix ix_list (pe_lst (pa_cons (pe_op op_add (pe_callB call_len (by rfl) B.len PySem.boot_len (pa_cons (pv 4) pa_nil)) (pv 5)) (pa_cons (pe_op op_sub (pe_op op_sub pe_int pe_int) (pv 5)) (pa_cons pe_non (pa_cons pe_bl (pa_cons pe_str pa_nil)))))) (pe_call GT hr1 (by rfl) mT kT bT .nil pass0 (pa_cons (pv 1) (pa_cons pe_int pa_nil))) (fun _ _ => rfl)))
      (pss_cons (ps_expr (pe_bm PySem.F.plainAttrs_list PySem.F.slot_list_append PySem.F.type_list_append mt_append (pv 10) (pa_cons (LamD.pe_lamcall (Ts := Ts4 Pt PT) (a := "_law_b") (z := 0) (k := 7) (t := fun E => tCall (spUseX CC) [] E (tCons (tVar 2) (tCons (tVar 11) tNil))) (by rfl) mW kW lkW hcW bW scLWo rfl (by exact .inl rfl) (word_gives B mS) TB rfl hmT huT hr9 (LamD.par_by (by show LamD.parB nLaw (defScope sLaw) _ _ = true; decide +kernel)) rfl rfl pe_int (fun _ _ _ _ _ _ _ _ _ hD => BindsTo.of_defaults rfl hD rfl rfl rfl)
            (fun A' outer' s' H' E' f' c' hr' => pe_call (E := E') GUs (hr'.mono (by decide)) (by rfl) mUs kUs bUs .nil (passes_call (W := fun cls d _ H => E' cls d H) (takes_of rfl rfl rfl rfl) (fun _ _ _ _ h => h)) (pa_cons (pv 2) (pa_cons (pv 11) pa_nil)))) pa_nil)))
      (pss_cons (ps_expr (pe_bm PySem.F.plainAttrs_list PySem.F.slot_list_append PySem.F.type_list_append mt_append (pv 10) (pa_cons (LamD.pe_lamcall (Ts := Ts4 Pt PT) (a := "_law_c") (z := 0) (k := 7) (t := fun E => tCall (spPtX K CB CO) [] E (tCons (tVar 2) (tCons (tTup (tCons (tOp (rIxL K) (tLst (tCons (tC (.str "ab")) (tCons (tC (.str "bc")) tNil))) (tCB rInt1 (tCons (tOp rEq (tVar 3) (tC (.str "ab"))) tNil))) (tCons (tTup tNil) (tCons (tTup tNil) tNil)))) tNil))) (by rfl) mW kW lkW hcW bW scLWo rfl (by exact .inl rfl) (word_gives B mS) TB rfl hmT huT hr9 (LamD.par_by (by show LamD.parB nLaw (defScope sLaw) _ _ = true; decide +kernel)) rfl rfl pe_int (fun _ _ _ _ _ _ _ _ _ hD => BindsTo.of_defaults rfl hD rfl rfl rfl)
            (fun A' outer' s' H' E' f' c' hr' => pe_call (E := E') GPt (hr'.mono (by decide)) (by rfl) mPt kPt bPt .nil (passes_call (W := fun cls d _ H => E' cls d H) (takes_of rfl rfl rfl rfl) (fun _ _ _ _ h => h)) (pa_cons (pv 2) (pa_cons (pe_tup (pa_cons (pe_ix ix_list (pe_lst (pa_cons pe_str (pa_cons pe_str pa_nil))) (pe_callTy call_int1 (by rfl) mInt (by decide +kernel) (pa_cons (pe_cmpR op_eq (pv 3) pe_str (nomark _)) pa_nil)) (fun _ _ => rfl)) (pa_cons (pe_tup pa_nil) (pa_cons (pe_tup pa_nil) pa_nil)))) pa_nil)))) pa_nil)))
      (pss_cons (ps_expr (pe_bm PySem.F.plainAttrs_list PySem.F.slot_list_append PySem.F.type_list_append mt_append (pv 10) (pa_cons (LamD.pe_lamcall (Ts := Ts4 Pt PT) (a := "_law_e") (z := 0) (k := 7) (t := fun E => tCall (spPtX K CB CO) [] E (tCons (tTup (tCons (tVar 3) (tCons (tTup tNil) (tCons (tTup tNil) tNil)))) (tCons (tTup (tCons (tOp rAddZ (tVar 3) (tC (.str "z"))) (tCons (tTup tNil) (tCons (tTup tNil) tNil)))) tNil))) (by rfl) mW kW lkW hcW bW scLWo rfl (by exact .inl rfl) (word_gives B mS) TB rfl hmT huT hr9 (LamD.par_by (by show LamD.parB nLaw (defScope sLaw) _ _ = true; decide +kernel)) rfl rfl pe_int (fun _ _ _ _ _ _ _ _ _ hD => BindsTo.of_defaults rfl hD rfl rfl rfl)
            (fun A' outer' s' H' E' f' c' hr' => pe_call (E := E') GPt (hr'.mono (by decide)) (by rfl) mPt kPt bPt .nil (passes_call (W := fun cls d _ H => E' cls d H) (takes_of rfl rfl rfl rfl) (fun _ _ _ _ h => h)) (pa_cons (pe_tup (pa_cons (pv 3) (pa_cons (pe_tup pa_nil) (pa_cons (pe_tup pa_nil) pa_nil)))) (pa_cons (pe_tup (pa_cons (pe_op op_add_str (pv 3) pe_str) (pa_cons (pe_tup pa_nil) (pa_cons (pe_tup pa_nil) pa_nil)))) pa_nil)))) pa_nil)))
      (pss_cons (ps_expr (pe_bm PySem.F.plainAttrs_list PySem.F.slot_list_append PySem.F.type_list_append mt_append (pv 10) (pa_cons (LamD.pe_lamcall (Ts := Ts4 Pt PT) (a := "_law_f") (z := 0) (k := 7) (t := fun E => tCall (spPtX K CB CO) [] E (tCons (tTup (tCons (tOp rAddZ (tVar 3) (tC (.str "z"))) (tCons (tTup tNil) (tCons (tTup tNil) tNil)))) (tCons (tTup (tCons (tVar 3) (tCons (tTup tNil) (tCons (tTup tNil) tNil)))) tNil))) (by rfl) mW kW lkW hcW bW scLWo rfl (by exact .inl rfl) (word_gives B mS) TB rfl hmT huT hr9 (LamD.par_by (by show LamD.parB nLaw (defScope sLaw) _ _ = true; decide +kernel)) rfl rfl pe_int (fun _ _ _ _ _ _ _ _ _ hD => BindsTo.of_defaults rfl hD rfl rfl rfl)
            (fun A' outer' s' H' E' f' c' hr' => pe_call (E := E') GPt (hr'.mono (by decide)) (by rfl) mPt kPt bPt .nil (passes_call (W := fun cls d _ H => E' cls d H) (takes_of rfl rfl rfl rfl) (fun _ _ _ _ h => h)) (pa_cons (pe_tup (pa_cons (pe_op op_add_str (pv 3) pe_str) (pa_cons (pe_tup pa_nil) (pa_cons (pe_tup pa_nil) pa_nil)))) (pa_cons (pe_tup (pa_cons (pv 3) (pa_cons (pe_tup pa_nil) (pa_cons (pe_tup pa_nil) pa_nil)))) pa_nil)))) pa_nil)))
      (pss_cons (ps_set (i := 12) scLaw.nd rfl (.inl rfl) (pe_lst (pa_cons (pe_tup (pa_cons pe_str (pa_cons pe_non pa_nil))) (pa_cons (pe_tup (pa_cons pe_str (pa_cons pe_non pa_nil))) (pa_cons (pe_tup (pa_cons pe_str (pa_cons pe_non pa_nil))) (pa_cons (pe_tup (pa_cons pe_str (pa_cons pe_non pa_nil))) (pa_cons (pe_tup (pa_cons pe_str (pa_cons pe_non pa_nil))) (pa_cons (pe_tup (pa_cons pe_str (pa_cons pe_non pa_nil))) pa_nil))))))))
      (pss_cons (ps_if (PW.pt (pw_or (pt_cmpR (op_neD hr.units) (pv 10) (pe_ifExp (pt_cmpR op_lt (pe_callB call_len_str (by rfl) B.len PySem.boot_len (pa_cons (pv 3) pa_nil)) pe_int (nomark _)) (pv 12) (pe_op op_cat (pe_slice sl_list (pv 12) po_none (po_some pe_int)) (pe_op op_rep (pe_lst (pa_cons (pe_tup (pa_cons pe_str (pa_cons (pe_tup (pa_cons pe_int (pa_cons pe_int pa_nil))) pa_nil))) pa_nil)) pe_int))) (nomark _)) (pw_or1 (pt_cmpR op_ne (pe_glob (v := .int 5) rfl mLong ⟨_, rfl⟩) pe_int (nomark _))))) (pss_one (ps_ret pe_bl)) pss_nil)
      (pss_one (ps_ret (pe_call GBs hr9 (by rfl) mBs kBs bBs .nil pass0 (pa_cons (pv 1) (pa_cons (pv 2) pa_nil))))))))))))))))))))), ?_⟩
    have T0 : LamX.Tabs (Ts4 Pt PT) H := fun p hp => by
      rcases List.mem_cons.mp hp with rfl | hp
      · exact LamX.TabS.nil hPt
      · rw [List.mem_singleton.mp hp]
        exact LamX.TabS.nil hPT
    refine ⟨_, rfl, a, ns, rfl, hSc, hle, fun r H1 hr0 s1 R1 => ?_⟩
    have T1 := T0.ext s1
    refine ⟨_, rfl, r, a, ns, rfl, R1, fun b L rs es H2 hL r10 ho hB s2 R2 => ?_⟩
    have T2 := tabs_stp T1 R1.in s2
    have oL := ho.lt
    have l4 := oL.l4
    have l2 := oL.l2
    obtain ⟨Ra, Xa, hb, hR, hX⟩ := id hB
    have h2 : BS K (Ts4 Pt PT) r a ns b Ra L rs es H2 := ⟨R2, T2, hB, hR⟩
    simp only [L2.start, List.length_cons, List.length_nil, List.map_cons, List.map_nil, Nat.zero_add, Nat.reduceAdd, Nat.reduceSub, List.replicate, List.cons_append, List.nil_append, List.set_cons_succ, List.set_cons_zero]
    refine ⟨_, rfl, b, _, 0, _, rfl, rfl, .inl (.inl hb), atI_nat (j := 0) rfl, _, rfl, b, _, 1, _, rfl, rfl, .inl (.inl hb), atI_nat (j := 1) rfl, _, rfl, r, a, ns, 1000, rfl, h2.R, by decide, by decide, fun far0 H3 a3 b3 s3 R3 => ?_⟩
    have h3 := h2.stp s3 R3
    obtain ⟨far, rfl⟩ : ∃ n : Nat, far0 = n := ⟨far0.toNat, by omega⟩
    refine ⟨(by show 3 ≤ sizeLine; decide), fun tp ntp => ?_⟩
    have h4 := h3.same (same_new ntp (.tup [.str (T L), .ref Ra, .int (far : Nat)]))
    refine ⟨tp, _, rfl, .inl (.inl upd_same), rfl, _, _, rfl, _, _, rfl, _, _, rfl, rfl, ?_⟩
    simp only [List.set_cons_succ, List.set_cons_zero]
    generalize upd H3 tp (.tup [.str (T L), .ref Ra, .int (far : Nat)]) = H4 at h4 ⊢
    -- a word that can't be
    have z1 : Str.ofString "z" = T [122] := by decide +kernel
    have zA : Str.ofString "A" = T [65] := by decide +kernel
    have z3 : Str.ofString "a#" = T [97, 35] := by decide +kernel
    have z4 : Str.ofString "a" = T [97] := by decide +kernel
    have zE : Str.ofString "" = T [] := nil_eq
    have zAB : Str.ofString "A B" = T [65, 32, 66] := by decide +kernel
    have az : ∀ c ∈ L, 97 ≤ c ∧ c ≤ 100 := fun c hc => (by decide +kernel : ∀ l ∈ lets, ∀ c ∈ l, 97 ≤ c ∧ c ≤ 100) L hL c hc
    obtain ⟨c0, hc0⟩ : ∃ c0, L[0]? = some c0 := ⟨_, List.getElem?_eq_getElem (by omega)⟩
    refine ⟨_, rfl, T L, 0, c0, rfl, rfl, (by rw [T_len]; exact small (by omega)), atI_nat (j := 0) hc0, c0, 13, rfl, rfl, (by decide), (by decide), ?_⟩
    refine ⟨(by show 1 ≤ sizeLine; decide), fun p3 np3 => ?_⟩
    obtain ⟨H5, e5, m5, g5⟩ := newHb np3 (.tup [.str "a"])
    rw [show upd H4 p3 _ = H5 from e5]
    refine ⟨(by show 7 ≤ sizeLine; decide), fun wl nwl => ?_⟩
    obtain ⟨H6, e6, m6, g6⟩ := newHb nwl (.lst [.str "z", .str "A", .str (T (List.replicate 13 c0)), .str "a#", .non, .int 5, .ref p3])
    rw [show upd H5 wl _ = H6 from e6]
    have h6 := h4.same (m5.trans m6)
    have hW : ∀ x ∈ ([.str "z", .str "A", .str (T (List.replicate 13 c0)), .str "a#", .non, .int 5, .ref p3] : List V), VOk K H6 x ∧ txV x L 0 12 = false ∧ txV x L 1 1 = false := fun x hx => by
      simp only [List.mem_cons, List.not_mem_nil, or_false] at hx
      rcases hx with rfl | rfl | rfl | rfl | rfl | rfl | rfl
      · rw [z1]
        exact ⟨.inl ⟨_, rfl, by decide⟩, isText_outB (c := 122) (List.mem_singleton.mpr rfl) (fun h => by have := az _ h; omega), isText_outB (c := 122) (List.mem_singleton.mpr rfl) (fun h => by have := az _ h; omega)⟩
      · rw [zA]
        exact ⟨.inl ⟨_, rfl, by decide⟩, isText_outB (c := 65) (List.mem_singleton.mpr rfl) (fun h => by have := az _ h; omega), isText_outB (c := 65) (List.mem_singleton.mpr rfl) (fun h => by have := az _ h; omega)⟩
      · exact ⟨.inl ⟨_, rfl, by rw [List.length_replicate]; decide⟩, isText_longB (.inl (by rw [List.length_replicate]; decide)), isText_longB (.inl (by rw [List.length_replicate]; decide))⟩
      · rw [z3]
        exact ⟨.inl ⟨_, rfl, by decide⟩, isText_outB (c := 35) (by simp) (fun h => by have := az _ h; omega), isText_outB (c := 35) (by simp) (fun h => by have := az _ h; omega)⟩
      · exact ⟨.inr (.inl rfl), rfl, rfl⟩
      · exact ⟨.inr (.inr (.inl ⟨5, rfl⟩)), rfl, rfl⟩
      · exact ⟨.inr (.inr (.inr (.inr ⟨p3, _, rfl, .inl (.inl (m6 _ _ g5))⟩))), rfl, rfl⟩
    refine ⟨_, rfl, r, a, ns, 7, rfl, h6.R, by decide, by decide, fun k7 H7 a7 b7 s7 R7 => ?_⟩
    have h7 := h6.stp s7 R7
    have g7 := s7 _ _ g6 (row_lenB h6.R g6 (by show ¬ (7 = 4); decide))
    have lW : ([.str "z", .str "A", .str (T (List.replicate 13 c0)), .str "a#", .non, .int 5, .ref p3] : List V).length = 7 := rfl
    generalize ([.str "z", .str "A", .str (T (List.replicate 13 c0)), .str "a#", .non, .int 5, .ref p3] : List V) = wls at hW lW g7
    obtain ⟨wv, hwv⟩ : ∃ wv, wls[k7.toNat]? = some wv := ⟨_, List.getElem?_eq_getElem (by omega)⟩
    obtain ⟨ow, tw, tw1⟩ := hW wv (List.mem_of_getElem? hwv)
    have ow := ow.kpB (KpB.stp h6.R s7 R7)
    refine ⟨wl, _, k7, wv, rfl, rfl, .inl (.inl g7), at_of (j := k7.toNat) (by omega) hwv, ?_⟩
    clear hW g6 g7 hwv e6 e5 lW g5
    simp only [List.set_cons_succ, List.set_cons_zero]
    -- lambdas in a list
    refine ⟨h7.T, fun f0 H10 e10 T10 n10 i0 => ?_⟩
    have h10 := h7.extN e10 T10
    refine ⟨h10.T, fun f1 H11 e11 T11 n11 i1 => ?_⟩
    have h11 := h10.extN e11 T11
    refine ⟨h11.T, fun f2 H12 e12 T12 n12 i2 => ?_⟩
    have h12 := h11.extN e12 T12
    have ow := ((ow.kpB (.ext e10)).kpB (.ext e11)).kpB (.ext e12)
    have i0 := (i0.extN e11).extN e12
    have i1 := i1.extN e12
    refine ⟨(by show 3 ≤ sizeLine; decide), fun wk nwk => ?_⟩
    obtain ⟨H13, e13, m13, g13⟩ := newHb nwk (.lst [.ref f0, .ref f1, .ref f2])
    rw [show upd H12 wk _ = H13 from e13]
    have h13 := h12.same m13
    have i0 := i0.extN (.of m13)
    have i1 := i1.extN (.of m13)
    have i2 := i2.extN (.of m13)
    have ow := ow.kpB (.of m13)
    simp only [List.set_cons_succ, List.set_cons_zero]
    refine ⟨_, rfl, h13.T, fun f3 H14 e14 T14 n14 i3 => ?_⟩
    have h14 := h13.extN e14 T14
    have g14 := e14 _ _ g13 (fun ps z => by cases z)
    have i0 := i0.extN e14
    have i1 := i1.extN e14
    have i2 := i2.extN e14
    have ow := ow.kpB (.ext e14)
    refine ⟨(by show 1 ≤ sizeLine; decide), fun w2 nw2 => ?_⟩
    obtain ⟨H15, e15, m15, g15⟩ := newHb nw2 (.lst [.ref f3])
    rw [show upd H14 w2 _ = H15 from e15]
    refine ⟨wk, w2, [.ref f0, .ref f1, .ref f2], [.ref f3], rfl, rfl, m15 _ _ g14, g15, (by show 3 + 1 ≤ sizeLine; decide), fun w3 nw3 => ?_⟩
    obtain ⟨H16, e16, m16, g16⟩ := newHb nw3 (.lst ([V.ref f0, .ref f1, .ref f2] ++ [.ref f3]))
    rw [show upd H15 w3 _ = H16 from e16]
    have g16 : H16 w3 = some (.lst [.ref f0, .ref f1, .ref f2, .ref f3]) := g16
    have m1416 := m15.trans m16
    have h16 := h14.same m1416
    have i0 := i0.extN (.of m1416)
    have i1 := i1.extN (.of m1416)
    have i2 := i2.extN (.of m1416)
    have i3 := i3.extN (.of m1416)
    have ow := ow.kpB (.of m1416)
    clear g14 g15 g13 e16 e15 e13
    simp only [List.set_cons_succ, List.set_cons_zero]
    -- all of them are refused
    refine ⟨_, rfl, w3, rfl, ⟨_, .inl (.inl g16)⟩, fun D nD => ?_⟩
    refine lc_it (walk_list (xs := [.ref f0, .ref f1, .ref f2, .ref f3])) (fun i HX => HX D = some (.lst []) ∧ Same H16 HX) ⟨upd_same, same_new nD _⟩ (fun i HX _ hh => .inl (.inl (hh.2 _ _ g16))) ?_ ?_
    · rintro i x HX HX' hi ⟨hD', sX⟩ ⟨rfl, hx⟩
      have hX := h16.same sX
      have owX := ow.kpB (.of sX)
      have i0 := i0.extN (.of sX)
      have i1 := i1.extN (.of sX)
      have i2 := i2.extN (.of sX)
      have i3 := i3.extN (.of sX)
      have fin : ∀ (u : Addr) (H8 : Hp), Same HX' H8 → H8 u = some (.tup [.str (nmJ 1), .non]) → ∀ H9, Same H8 H9 → H9 D = some (.lst []) ∧ Same H16 H9 := fun u H8 s8 _ H9 s9 => ⟨s9 _ _ (s8 _ _ hD'), (sX.trans s8).trans s9⟩
      refine ⟨rfl, _, rfl, ?_⟩
      match i, hx with
      | 0, hx =>
        cases hx
        refine ⟨f0, rfl, _, List.mem_cons_self .., i0, fun D1 nD1 post hpost => ⟨i0.extN (.of (same_new nD1 _)), ?_⟩⟩
        have sD1 := same_new nD1 (.lst [])
        refine ⟨_, rfl, _, rfl, b, wv, L, rs, es, rfl, (hX.same sD1).B, ho, owX.kpB (.of sD1), tw, fun H' s' => told_plainB WW rfl (sD1.trans s') fun u H8 s8 hu => ?_⟩
        exact ne_plainB (by decide +kernel) hu fun H9 s9 => ⟨false, rfl, iteF (fin u H8 s8 hu H9 s9)⟩
      | 1, hx =>
        cases hx
        refine ⟨f1, rfl, _, List.mem_cons_of_mem _ (List.mem_cons_self ..), i1, fun D1 nD1 post hpost => ⟨i1.extN (.of (same_new nD1 _)), ?_⟩⟩
        have sD1 := same_new nD1 (.lst [])
        refine ⟨_, rfl, _, rfl, b, wv, L, rs, es, rfl, (hX.same sD1).B, ho, owX.kpB (.of sD1), tw, fun H' s' => told_plainB WW rfl (sD1.trans s') fun u H8 s8 hu => ?_⟩
        exact ne_plainB (by decide +kernel) hu fun H9 s9 => ⟨false, rfl, iteF (fin u H8 s8 hu H9 s9)⟩
      | 2, hx =>
        cases hx
        refine ⟨f2, rfl, _, List.mem_cons_of_mem _ (List.mem_cons_of_mem _ (List.mem_cons_self ..)), i2, fun D1 nD1 post hpost => ⟨i2.extN (.of (same_new nD1 _)), ?_⟩⟩
        have sD1 := same_new nD1 (.lst [])
        refine ⟨_, rfl, fun y dx ny ndx nd => ?_⟩
        have sy : Same (upd HX' D1 (.lst [])) (upd (upd (upd HX' D1 (.lst [])) dx (.own y)) y (.ins CDk dx [])) := fun b' o hb' => by
          rw [upd_ne (ne_of_none hb' ny), upd_ne (ne_of_none hb' ndx)]
          exact hb'
        refine ⟨y, dx, b, L, rs, es, rfl, upd_same, (hX.same (sD1.trans sy)).B, ho, fun t H4 ht st hS => ⟨rfl, ?_⟩⟩
        have s4 : Same (upd HX' D1 (.lst [])) H4 := fun b' o hb' => st _ _ (sy _ _ hb') (ne_of_none hb' ny)
        obtain ⟨⟨dy, hy⟩, _, _⟩ := id hS
        refine ⟨y, dy, _, rfl, hy, rfl, _, rfl, y, b, t, L, rs, es, [], true, wv, rfl, hS, ho, owX.kpB (.of (sD1.trans s4)), tw, fun H' s' => told_plainB WW rfl ((sD1.trans s4).trans s') fun u H8 s8 hu => ?_⟩
        exact ne_plainB (by decide +kernel) hu fun H9 s9 => ⟨false, rfl, iteF (fin u H8 s8 hu H9 s9)⟩
      | 3, hx =>
        cases hx
        refine ⟨f3, rfl, _, List.mem_cons_of_mem _ (List.mem_cons_of_mem _ (List.mem_cons_of_mem _ (List.mem_cons_self ..))), i3, fun D1 nD1 post hpost => ⟨i3.extN (.of (same_new nD1 _)), ?_⟩⟩
        have sD1 := same_new nD1 (.lst [])
        refine ⟨_, rfl, fun y dx ny ndx nd => ?_⟩
        have sy : Same (upd HX' D1 (.lst [])) (upd (upd (upd HX' D1 (.lst [])) dx (.own y)) y (.ins CSy dx [])) := fun b' o hb' => by
          rw [upd_ne (ne_of_none hb' ny), upd_ne (ne_of_none hb' ndx)]
          exact hb'
        refine ⟨y, dx, b, L, rs, es, rfl, upd_same, (hX.same (sD1.trans sy)).B, ho, fun pa R H4 hpa st hS => ⟨rfl, ?_⟩⟩
        have s4 : Same (upd HX' D1 (.lst [])) H4 := fun b' o hb' => st _ _ (sy _ _ hb') (ne_of_none hb' ny)
        obtain ⟨⟨dy, hy⟩, _, _⟩ := id hS
        refine ⟨y, dy, _, rfl, hy, rfl, _, rfl, _, rfl, (by show 3 ≤ sizeLine; decide), fun pl npl => ?_⟩
        obtain ⟨K5, q5, m5', y5⟩ := newHb npl (.lst [wv, .str "", .str (T L)])
        rw [show upd H4 pl _ = K5 from q5]
        have s5 := s4.trans m5'
        have exc : ∃ x : V, ([wv, .str "", .str (T L)] : List V)[((far : Int) % 3).toNat]? = some x ∧ VOk K K5 x ∧ txV x L 1 1 = false := by
          have h012 : ((far : Int) % 3).toNat = 0 ∨ ((far : Int) % 3).toNat = 1 ∨ ((far : Int) % 3).toNat = 2 := by omega
          rcases h012 with h | h | h
          · exact ⟨wv, by rw [h]; rfl, owX.kpB (.of (sD1.trans s5)), tw1⟩
          · exact ⟨.str "", by rw [h]; rfl, by rw [zE]; exact .inl ⟨_, rfl, by decide⟩, by rw [zE]; exact isText_longB (.inr (by decide))⟩
          · exact ⟨.str (T L), by rw [h]; rfl, .inl ⟨_, rfl, by omega⟩, show isText L L 1 1 = false from isText_longB (.inl l2)⟩
        obtain ⟨x, hx, ox, tx⟩ := exc
        refine ⟨_, rfl, _, _, rfl, rfl, (by show (0 : Int) < 3; decide), pl, _, _, x, rfl, rfl, .inl (.inl y5), at_of (j := ((far : Int) % 3).toNat) (by omega) hx, ?_⟩
        refine ⟨y, pa, L, R, [], [35], x, rfl, ⟨dy, m5' _ _ hy⟩, ox, tx, fun H' s' => told_plainB WW rfl ((sD1.trans s5).trans s') fun u H8 s8 hu => ?_⟩
        exact ne_plainB (by decide +kernel) hu fun H9 s9 => ⟨false, rfl, iteF (fin u H8 s8 hu H9 s9)⟩
      | n + 4, hx => exact absurd hi (by show ¬ (n + 4 < 4); omega)
    rintro H17 ⟨hD17, s17⟩
    refine ⟨(by show 0 ≤ sizeLine; decide), fun z0 nz0 => ?_⟩
    obtain ⟨H18, e18, m18, g18⟩ := newHb nz0 (.lst [])
    rw [show upd H17 z0 _ = H18 from e18]
    have h18 := h16.same (s17.trans m18)
    refine ⟨.list [], .list [], .lst (.inl (.inl (m18 _ _ hD17))) .nil, .lst (.inl (.inl g18)) .nil, by decide +kernel, by decide +kernel, false, rfl, iteF ?_⟩
    clear i0 i1 i2 i3 g16 hD17 g18 ow tw tw1 h16 h14 h13 h12 h11 h10 h7 h6 h4 h3 h2
    simp only [List.set_cons_succ, List.set_cons_zero]
    -- sounds that can't be
    refine ⟨65, 37, (by rw [zA]), rfl, (by decide), (by decide), ?_⟩
    refine ⟨(by show 1 ≤ sizeLine; decide), fun p4 np4 => ?_⟩
    obtain ⟨H20, e20, m20, g20⟩ := newHb np4 (.tup [.str "A"])
    rw [show upd H18 p4 _ = H20 from e20]
    refine ⟨(by show 6 ≤ sizeLine; decide), fun sl nsl => ?_⟩
    obtain ⟨H21, e21, m21, g21⟩ := newHb nsl (.lst [.str "a", .str (T (List.replicate 37 65)), .str "A B", .non, .int 5, .ref p4])
    rw [show upd H20 sl _ = H21 from e21]
    have h21 := h18.same (m20.trans m21)
    have hS : ∀ x ∈ ([.str "a", .str (T (List.replicate 37 65)), .str "A B", .non, .int 5, .ref p4] : List V), VOk K H21 x ∧ txV x capsL 0 36 = false := fun x hx => by
      simp only [List.mem_cons, List.not_mem_nil, or_false] at hx
      rcases hx with rfl | rfl | rfl | rfl | rfl | rfl
      · rw [z4]
        exact ⟨.inl ⟨_, rfl, by decide⟩, isText_outB (c := 97) (List.mem_singleton.mpr rfl) (by decide +kernel)⟩
      · exact ⟨.inl ⟨_, rfl, by rw [List.length_replicate]; decide⟩, isText_longB (.inl (by rw [List.length_replicate]; decide))⟩
      · rw [zAB]
        exact ⟨.inl ⟨_, rfl, by decide⟩, isText_outB (c := 32) (by simp) (by decide +kernel)⟩
      · exact ⟨.inr (.inl rfl), rfl⟩
      · exact ⟨.inr (.inr (.inl ⟨5, rfl⟩)), rfl⟩
      · exact ⟨.inr (.inr (.inr (.inr ⟨p4, _, rfl, .inl (.inl (m21 _ _ g20))⟩))), rfl⟩
    refine ⟨_, rfl, r, a, ns, 6, rfl, h21.R, by decide, by decide, fun k22 H22 a22 b22 s22 R22 => ?_⟩
    have h22 := h21.stp s22 R22
    have g22 := s22 _ _ g21 (row_lenB h21.R g21 (by show ¬ (6 = 4); decide))
    have lS : ([.str "a", .str (T (List.replicate 37 65)), .str "A B", .non, .int 5, .ref p4] : List V).length = 6 := rfl
    generalize ([.str "a", .str (T (List.replicate 37 65)), .str "A B", .non, .int 5, .ref p4] : List V) = sls at hS lS g22
    obtain ⟨sv, hsv⟩ : ∃ sv, sls[k22.toNat]? = some sv := ⟨_, List.getElem?_eq_getElem (by omega)⟩
    obtain ⟨os, ts⟩ := hS sv (List.mem_of_getElem? hsv)
    have os := os.kpB (KpB.stp h21.R s22 R22)
    refine ⟨sl, _, k22, sv, rfl, rfl, .inl (.inl g22), at_of (j := k22.toNat) (by omega) hsv, ?_⟩
    clear hS g21 g22 hsv e20 e21 lS g20 h21
    simp only [List.set_cons_succ, List.set_cons_zero]
    -- a count that can't be
    refine ⟨_, rfl, _, _, rfl, rfl, _, _, rfl, rfl, _, rfl, _, _, rfl, rfl, ?_⟩
    refine ⟨(by show 5 ≤ sizeLine; decide), fun cl ncl => ?_⟩
    obtain ⟨H23, e23, m23, g23⟩ := newHb ncl (.lst [.int (8 + (far : Nat)), .int (0 - 1 - (far : Nat)), .non, .bl true, .str "5"])
    rw [show upd H22 cl _ = H23 from e23]
    have h23 := h22.same m23
    have os := os.kpB (.of m23)
    have hC : ∀ v ∈ ([.int (8 + (far : Nat)), .int (0 - 1 - (far : Nat)), .non, .bl true, .str "5"] : List V), NumV v ∧ cntV v 7 = false := fun v hv => by
      simp only [List.mem_cons, List.not_mem_nil, or_false] at hv
      rcases hv with rfl | rfl | rfl | rfl | rfl
      · refine ⟨.inr (.inl ⟨_, rfl⟩), ?_⟩
        unfold cntV
        rw [Bool.and_eq_false_iff, decide_eq_false_iff_not, decide_eq_false_iff_not]
        exact .inr (by omega)
      · refine ⟨.inr (.inl ⟨_, rfl⟩), ?_⟩
        unfold cntV
        rw [Bool.and_eq_false_iff, decide_eq_false_iff_not, decide_eq_false_iff_not]
        exact .inl (by omega)
      · exact ⟨.inl rfl, rfl⟩
      · exact ⟨.inr (.inr (.inl ⟨_, rfl⟩)), rfl⟩
      · exact ⟨.inr (.inr (.inr ⟨_, rfl⟩)), rfl⟩
    refine ⟨_, rfl, r, a, ns, 5, rfl, h23.R, by decide, by decide, fun k24 H24 a24 b24 s24 R24 => ?_⟩
    have h24 := h23.stp s24 R24
    have os := os.kpB (KpB.stp h23.R s24 R24)
    have g24 := s24 _ _ g23 (row_lenB h23.R g23 (by show ¬ (5 = 4); decide))
    have lC : ([.int (8 + (far : Nat)), .int (0 - 1 - (far : Nat)), .non, .bl true, .str "5"] : List V).length = 5 := rfl
    generalize ([.int (8 + (far : Nat)), .int (0 - 1 - (far : Nat)), .non, .bl true, .str "5"] : List V) = cls at hC lC g24
    obtain ⟨cv, hcv⟩ : ∃ cv, cls[k24.toNat]? = some cv := ⟨_, List.getElem?_eq_getElem (by omega)⟩
    obtain ⟨nc, cc⟩ := hC cv (List.mem_of_getElem? hcv)
    refine ⟨cl, _, k24, cv, rfl, rfl, .inl (.inl g24), at_of (j := k24.toNat) (by omega) hcv, ?_⟩
    clear hC g23 g24 hcv e23 lC h23 h22
    simp only [List.set_cons_succ, List.set_cons_zero]
    -- writings: sounds, a count
    refine ⟨h24.T, fun H25 e25 T25 => ?_⟩
    have h25 := h24.extN e25 T25
    have os := os.kpB (.ext e25)
    intro D1 nD1 post1 hp1
    have sD1 := same_new nD1 (.lst [])
    refine ⟨_, rfl, _, rfl, _, rfl, rfl, rfl, b, sv, cv, L, rs, es, rfl, (h25.same sD1).B, ho, os.kpB (.of sD1), nc, (fun _ H' s' => told_plainB WS rfl (sD1.trans s') fun u1 H26 s26 hu1 => ?_), fun c => by rw [ts] at c; cases c⟩
    have hu1 : H26 u1 = some (.tup [.str "sounds", .non]) := hu1
    have h26 := h25.same s26
    refine ⟨h26.T, fun H27 e27 T27 => ?_⟩
    have h27 := h26.extN e27 T27
    have hu1 := TU.ext e27 _ _ hu1
    intro D2 nD2 post2 hp2
    have sD2 := same_new nD2 (.lst [])
    refine ⟨_, rfl, _, rfl, rfl, rfl, b, .str "", cv, L, rs, es, rfl, (h27.same sD2).B, ho, (by rw [zE]; exact .inl ⟨_, rfl, by decide⟩), nc, (fun c => by rw [zE] at c; cases c), fun _ => ⟨cc, fun H' s' => told_plainB WC rfl (sD2.trans s') fun u2 H28 s28 hu2 => ?_⟩⟩
    have hu2 : H28 u2 = some (.tup [.str "count", .non]) := hu2
    have h28 := h27.same s28
    have hu1 := s28 _ _ hu1
    refine ⟨(by show 2 ≤ sizeLine; decide), fun W nW => ?_⟩
    obtain ⟨H29, e29, m29, hW⟩ := newHb nW (.lst [.ref u1, .ref u2])
    rw [show upd H28 W _ = H29 from e29]
    have h29 := h28.same m29
    have hu1 := m29 _ _ hu1
    have hu2 := m29 _ _ hu2
    clear e29 os ts hp1 hp2 h24 h25 h26 h27 h28
    simp only [List.set_cons_succ, List.set_cons_zero]
    -- a rule's number that can't be
    obtain ⟨tsR, hRt, hRp⟩ := id h29.hR
    have lR := paired_len hRp
    refine ⟨_, rfl, _, _, rfl, .inr ⟨_, .inl (.inl hRt), rfl⟩, _, rfl, _, _, rfl, rfl, _, _, rfl, rfl, _, rfl, _, _, rfl, rfl, ?_⟩
    refine ⟨(by show 5 ≤ sizeLine; decide), fun nl nnl => ?_⟩
    obtain ⟨H30, e30, m30, g30⟩ := newHb nnl (.lst [.int (((tsR.map V.ref).length : Nat) + (far : Nat)), .int (0 - 1 - (far : Nat)), .non, .bl true, .str "0"])
    rw [show upd H29 nl _ = H30 from e30]
    have h30 := h29.same m30
    have hN : ∀ v ∈ ([.int (((tsR.map V.ref).length : Nat) + (far : Nat)), .int (0 - 1 - (far : Nat)), .non, .bl true, .str "0"] : List V), NumV v ∧ cntV v ((rs.length : Int) - 1) = false := fun v hv => by
      simp only [List.mem_cons, List.not_mem_nil, or_false] at hv
      rcases hv with rfl | rfl | rfl | rfl | rfl
      · refine ⟨.inr (.inl ⟨_, rfl⟩), ?_⟩
        unfold cntV
        rw [Bool.and_eq_false_iff, decide_eq_false_iff_not, decide_eq_false_iff_not, List.length_map, lR]
        exact .inr (by omega)
      · refine ⟨.inr (.inl ⟨_, rfl⟩), ?_⟩
        unfold cntV
        rw [Bool.and_eq_false_iff, decide_eq_false_iff_not, decide_eq_false_iff_not]
        exact .inl (by omega)
      · exact ⟨.inl rfl, rfl⟩
      · exact ⟨.inr (.inr (.inl ⟨_, rfl⟩)), rfl⟩
      · exact ⟨.inr (.inr (.inr ⟨_, rfl⟩)), rfl⟩
    refine ⟨_, rfl, r, a, ns, 5, rfl, h30.R, by decide, by decide, fun k31 H31 a31 b31 s31 R31 => ?_⟩
    have h31 := h30.stp s31 R31
    have g31 := s31 _ _ g30 (row_lenB h30.R g30 (by show ¬ (5 = 4); decide))
    have hW := s31 _ _ (m30 _ _ hW) (row_lenB h30.R (m30 _ _ hW) (by show ¬ (2 = 4); decide))
    have kt31 := h30.R.kt s31
    have hu1 := kt31.1 _ _ (m30 _ _ hu1)
    have hu2 := kt31.1 _ _ (m30 _ _ hu2)
    have lN : ([.int (((tsR.map V.ref).length : Nat) + (far : Nat)), .int (0 - 1 - (far : Nat)), .non, .bl true, .str "0"] : List V).length = 5 := rfl
    generalize ([.int (((tsR.map V.ref).length : Nat) + (far : Nat)), .int (0 - 1 - (far : Nat)), .non, .bl true, .str "0"] : List V) = nls at hN lN g31
    obtain ⟨nv, hnv⟩ : ∃ nv, nls[k31.toNat]? = some nv := ⟨_, List.getElem?_eq_getElem (by omega)⟩
    obtain ⟨nn, cn⟩ := hN nv (List.mem_of_getElem? hnv)
    refine ⟨nl, _, k31, nv, rfl, rfl, .inl (.inl g31), at_of (j := k31.toNat) (by omega) hnv, ?_⟩
    clear hN g30 g31 hnv e30 lN h30 h29 hRt hRp
    simp only [List.set_cons_succ, List.set_cons_zero]
    -- used: refused
    refine ⟨_, rfl, .inl ⟨rfl, _, .inl (.inl hW)⟩, h31.T, fun H32 e32 T32 => ?_⟩
    have h32 := h31.extN e32 T32
    intro D3 nD3 post3 hp3
    have sD3 := same_new nD3 (.lst [])
    refine ⟨_, rfl, _, rfl, b, nv, L, rs, es, rfl, (h32.same sD3).B, ho, nn, cn, fun H' s' => told_plainB WC rfl (sD3.trans s') fun u3 H33 s33 hu3 => ?_⟩
    have hu3 : H33 u3 = some (.tup [.str "count", .non]) := hu3
    have h33 := h32.same s33
    have x33 := LamX.ExtN.trans e32 (LamX.ExtN.of s33)
    have hW33 := x33 _ _ hW (fun ps z => by cases z)
    have hu1 := TU.ext x33 _ _ hu1
    have hu2 := TU.ext x33 _ _ hu2
    refine ⟨W, _, _, rfl, rfl, hW33, (by show 2 < sizeLine; decide), ?_⟩
    have h34 := h33.appB (l' := [.ref u1, .ref u2] ++ [.ref u3]) hW33
    have up34 := (kt_upd (o := .lst ([.ref u1, .ref u2] ++ [.ref u3])) hW33).1
    have hu1 := up34 _ _ hu1
    have hu2 := up34 _ _ hu2
    have hu3 := up34 _ _ hu3
    have hW : (upd H33 W (.lst ([.ref u1, .ref u2] ++ [.ref u3]))) W = some (.lst [.ref u1, .ref u2, .ref u3]) := upd_same
    generalize upd H33 W (.lst ([V.ref u1, .ref u2] ++ [.ref u3])) = H34 at h34 hu1 hu2 hu3 hW ⊢
    clear up34 hW33
    clear hp3 h31 h32 h33
    simp only [List.set_cons_succ, List.set_cons_zero]
    have zab : Str.ofString "ab" = T [97, 98] := by decide +kernel
    have zbc : Str.ofString "bc" = T [98, 99] := by decide +kernel
    have lv := letsB_ok hL
    obtain ⟨lz1, lz2⟩ := letsZ hL
    -- parted: other letters
    refine ⟨_, rfl, .inl ⟨rfl, _, .inl (.inl hW)⟩, h34.T, fun H35 e35 T35 => ?_⟩
    have h35 := h34.extN e35 T35
    intro D4 nD4 post4 hp4
    have sD4 := same_new nD4 (.lst [])
    refine ⟨_, rfl, (by show 2 ≤ sizeLine; decide), fun pl npl => ?_⟩
    obtain ⟨A1, eA1, mA1, yA1⟩ := newHb npl (.lst [.str "ab", .str "bc"])
    rw [show upd (upd H35 D4 (.lst [])) pl _ = A1 from eA1]
    have exc : ∃ M : List Nat, ([.str "ab", .str "bc"] : List V)[((if decide (V.str (T L) = V.str "ab") = true then 1 else 0 : Int)).toNat]? = some (.str (T M)) ∧ M ≠ L ∧ letV (.str (T M)) = true ∧ M.length ≤ 100 := by
      by_cases c : L = [97, 98]
      · refine ⟨[98, 99], ?_, fun z => by rw [c] at z; exact absurd z (by decide), by decide +kernel, by decide⟩
        rw [show decide (V.str (T L) = V.str "ab") = true from decide_eq_true (by rw [c, ← zab])]
        rw [← zbc]
        rfl
      · refine ⟨[97, 98], ?_, fun z => c z.symm, by decide +kernel, by decide⟩
        rw [show decide (V.str (T L) = V.str "ab") = false from decide_eq_false (fun z => c (T_inj (by rw [V.str.inj z, zab])))]
        rw [← zab]
        rfl
    obtain ⟨M, hM, nM, vM, lM⟩ := exc
    refine ⟨_, rfl, rfl, .inr ⟨_, rfl, pl, _, _, .str (T M), rfl, rfl, .inl (.inl yA1), at_of (j := ((if decide (V.str (T L) = V.str "ab") = true then 1 else 0 : Int)).toNat) (by split <;> rfl) hM, ?_⟩⟩
    refine ⟨(by show 0 ≤ sizeLine; decide), fun t1 nt1 => ?_⟩
    obtain ⟨A2, eA2, mA2, yA2⟩ := newHb nt1 (.tup [])
    rw [show upd A1 t1 _ = A2 from eA2]
    refine ⟨(by show 0 ≤ sizeLine; decide), fun t2 nt2 => ?_⟩
    obtain ⟨A3, eA3, mA3, yA3⟩ := newHb nt2 (.tup [])
    rw [show upd A2 t2 _ = A3 from eA3]
    refine ⟨(by show 3 ≤ sizeLine; decide), fun tb ntb => ?_⟩
    obtain ⟨A4, eA4, mA4, yA4⟩ := newHb ntb (.tup [.str (T M), .ref t1, .ref t2])
    rw [show upd A3 tb _ = A4 from eA4]
    have sA := sD4.trans (mA1.trans (mA2.trans (mA3.trans mA4)))
    have hBk := (h35.same sA).B
    obtain ⟨Rb, Xb, hbb, _, _⟩ := id hBk
    refine ⟨.ref b, .ref tb, rfl, book_chB hL hBk ho fun Ha sa => bare_chB (sa _ _ yA4) (sa _ _ ((mA3.trans mA4) _ _ yA2)) (sa _ _ (mA4 _ _ yA3)) lM vM fun Hb sb => ⟨b, tb, L, M, _, _, _, _, rfl, rfl, .inl (.inl ((sa.trans sb) _ _ hbb)), .inl (.inl ((sa.trans sb) _ _ yA4)), nM.symm, told_plainB WO rfl ((sA.trans sa).trans sb) fun u4 H36 s36 hu4 => ?_⟩⟩
    have hu4 : H36 u4 = some (.tup [.str "others", .non]) := hu4
    have h36 := h35.same s36
    have x36 := LamX.ExtN.trans e35 (LamX.ExtN.of s36)
    have hW36 := x36 _ _ hW (fun ps z => by cases z)
    have hu1 := TU.ext x36 _ _ hu1
    have hu2 := TU.ext x36 _ _ hu2
    have hu3 := TU.ext x36 _ _ hu3
    refine ⟨W, _, _, rfl, rfl, hW36, (by show 3 < sizeLine; decide), ?_⟩
    have h37 := h36.appB (l' := [.ref u1, .ref u2, .ref u3] ++ [.ref u4]) hW36
    have up37 := (kt_upd (o := .lst ([.ref u1, .ref u2, .ref u3] ++ [.ref u4])) hW36).1
    have hu1 := up37 _ _ hu1
    have hu2 := up37 _ _ hu2
    have hu3 := up37 _ _ hu3
    have hu4 := up37 _ _ hu4
    have hW : (upd H36 W (.lst ([.ref u1, .ref u2, .ref u3] ++ [.ref u4]))) W = some (.lst [.ref u1, .ref u2, .ref u3, .ref u4]) := upd_same
    generalize upd H36 W (.lst ([V.ref u1, .ref u2, .ref u3] ++ [.ref u4])) = H37 at h37 hu1 hu2 hu3 hu4 hW ⊢
    clear up37 hW36
    clear hp4 h34 h35 h36 hBk hbb yA1 yA2 yA3 yA4 hM
    simp only [List.set_cons_succ, List.set_cons_zero]
    refine ⟨_, rfl, .inl ⟨rfl, _, .inl (.inl hW)⟩, h37.T, fun H38 e38 T38 => ?_⟩
    have h38 := h37.extN e38 T38
    intro D37 nD37 post37 hp37
    have sD37 := same_new nD37 (.lst [])
    refine ⟨_, rfl, (by show 0 ≤ sizeLine; decide), fun t1 nt1 => ?_⟩
    obtain ⟨B37_1, eB37_1, mB37_1, yB37_1⟩ := newHb nt1 (.tup [])
    rw [show upd (upd H38 D37 (.lst [])) t1 _ = B37_1 from eB37_1]
    refine ⟨(by show 0 ≤ sizeLine; decide), fun t2 nt2 => ?_⟩
    obtain ⟨B37_2, eB37_2, mB37_2, yB37_2⟩ := newHb nt2 (.tup [])
    rw [show upd B37_1 t2 _ = B37_2 from eB37_2]
    refine ⟨(by show 3 ≤ sizeLine; decide), fun tt0 ntt0 => ?_⟩
    obtain ⟨B37_3, eB37_3, mB37_3, yB37_3⟩ := newHb ntt0 (.tup [.str (T L), .ref t1, .ref t2])
    rw [show upd B37_2 tt0 _ = B37_3 from eB37_3]
    refine ⟨_, rfl, _, _, rfl, rfl, (by rw [T_len]; exact small (by show L.length + 1 ≤ 16000000; omega)), (by show 0 ≤ sizeLine; decide), fun t4 nt4 => ?_⟩
    obtain ⟨B37_4, eB37_4, mB37_4, yB37_4⟩ := newHb nt4 (.tup [])
    rw [show upd B37_3 t4 _ = B37_4 from eB37_4]
    refine ⟨(by show 0 ≤ sizeLine; decide), fun t5 nt5 => ?_⟩
    obtain ⟨B37_5, eB37_5, mB37_5, yB37_5⟩ := newHb nt5 (.tup [])
    rw [show upd B37_4 t5 _ = B37_5 from eB37_5]
    refine ⟨(by show 3 ≤ sizeLine; decide), fun tt1 ntt1 => ?_⟩
    rw [addZ]
    obtain ⟨B37_6, eB37_6, mB37_6, yB37_6⟩ := newHb ntt1 (.tup [.str (T (L ++ [122])), .ref t4, .ref t5])
    rw [show upd B37_5 tt1 _ = B37_6 from eB37_6]
    have sB := sD37.trans (mB37_1.trans (mB37_2.trans (mB37_3.trans (mB37_4.trans (mB37_5.trans (mB37_6))))))
    refine pt_lz (Q' := post37) hL WB WO ((mB37_2.trans (mB37_3.trans (mB37_4.trans (mB37_5.trans (mB37_6))))) _ _ yB37_1) ((mB37_3.trans (mB37_4.trans (mB37_5.trans (mB37_6)))) _ _ yB37_2) ((mB37_4.trans (mB37_5.trans (mB37_6))) _ _ yB37_3) ((mB37_5.trans (mB37_6)) _ _ yB37_4) (mB37_6 _ _ yB37_5) yB37_6 fun u5 H39 s39 hu5 => ?_
    have s39 := sB.trans s39
    have h39 := h38.same s39
    have x39 := LamX.ExtN.trans e38 (LamX.ExtN.of s39)
    have hW39 := x39 _ _ hW (fun ps z => by cases z)
    have hu1 := TU.ext x39 _ _ hu1
    have hu2 := TU.ext x39 _ _ hu2
    have hu3 := TU.ext x39 _ _ hu3
    have hu4 := TU.ext x39 _ _ hu4
    refine ⟨W, _, _, rfl, rfl, hW39, (by show 4 < sizeLine; decide), ?_⟩
    have h40 := h39.appB (l' := [.ref u1, .ref u2, .ref u3, .ref u4] ++ [.ref u5]) hW39
    have up40 := (kt_upd (o := .lst ([.ref u1, .ref u2, .ref u3, .ref u4] ++ [.ref u5])) hW39).1
    have hu1 := up40 _ _ hu1
    have hu2 := up40 _ _ hu2
    have hu3 := up40 _ _ hu3
    have hu4 := up40 _ _ hu4
    have hu5 := hu5.tu up40
    have hW : (upd H39 W (.lst ([.ref u1, .ref u2, .ref u3, .ref u4] ++ [.ref u5]))) W = some (.lst [.ref u1, .ref u2, .ref u3, .ref u4, .ref u5]) := upd_same
    generalize upd H39 W (.lst ([V.ref u1, .ref u2, .ref u3, .ref u4] ++ [.ref u5])) = H40 at h40 hu1 hu2 hu3 hu4 hu5 hW ⊢
    clear up40 hW39
    clear hp37 h37 h38 h39
    simp only [List.set_cons_succ, List.set_cons_zero]
    refine ⟨_, rfl, .inl ⟨rfl, _, .inl (.inl hW)⟩, h40.T, fun H41 e41 T41 => ?_⟩
    have h41 := h40.extN e41 T41
    intro D40 nD40 post40 hp40
    have sD40 := same_new nD40 (.lst [])
    refine ⟨_, rfl, _, _, rfl, rfl, (by rw [T_len]; exact small (by show L.length + 1 ≤ 16000000; omega)), (by show 0 ≤ sizeLine; decide), fun t1 nt1 => ?_⟩
    obtain ⟨B40_1, eB40_1, mB40_1, yB40_1⟩ := newHb nt1 (.tup [])
    rw [show upd (upd H41 D40 (.lst [])) t1 _ = B40_1 from eB40_1]
    refine ⟨(by show 0 ≤ sizeLine; decide), fun t2 nt2 => ?_⟩
    obtain ⟨B40_2, eB40_2, mB40_2, yB40_2⟩ := newHb nt2 (.tup [])
    rw [show upd B40_1 t2 _ = B40_2 from eB40_2]
    refine ⟨(by show 3 ≤ sizeLine; decide), fun tt0 ntt0 => ?_⟩
    rw [addZ]
    obtain ⟨B40_3, eB40_3, mB40_3, yB40_3⟩ := newHb ntt0 (.tup [.str (T (L ++ [122])), .ref t1, .ref t2])
    rw [show upd B40_2 tt0 _ = B40_3 from eB40_3]
    refine ⟨_, rfl, (by show 0 ≤ sizeLine; decide), fun t4 nt4 => ?_⟩
    obtain ⟨B40_4, eB40_4, mB40_4, yB40_4⟩ := newHb nt4 (.tup [])
    rw [show upd B40_3 t4 _ = B40_4 from eB40_4]
    refine ⟨(by show 0 ≤ sizeLine; decide), fun t5 nt5 => ?_⟩
    obtain ⟨B40_5, eB40_5, mB40_5, yB40_5⟩ := newHb nt5 (.tup [])
    rw [show upd B40_4 t5 _ = B40_5 from eB40_5]
    refine ⟨(by show 3 ≤ sizeLine; decide), fun tt1 ntt1 => ?_⟩
    obtain ⟨B40_6, eB40_6, mB40_6, yB40_6⟩ := newHb ntt1 (.tup [.str (T L), .ref t4, .ref t5])
    rw [show upd B40_5 tt1 _ = B40_6 from eB40_6]
    have sB := sD40.trans (mB40_1.trans (mB40_2.trans (mB40_3.trans (mB40_4.trans (mB40_5.trans (mB40_6))))))
    refine pt_zl (Q' := post40) hL WB WO ((mB40_2.trans (mB40_3.trans (mB40_4.trans (mB40_5.trans (mB40_6))))) _ _ yB40_1) ((mB40_3.trans (mB40_4.trans (mB40_5.trans (mB40_6)))) _ _ yB40_2) ((mB40_4.trans (mB40_5.trans (mB40_6))) _ _ yB40_3) ((mB40_5.trans (mB40_6)) _ _ yB40_4) (mB40_6 _ _ yB40_5) yB40_6 fun u6 H42 s42 hu6 => ?_
    have s42 := sB.trans s42
    have h42 := h41.same s42
    have x42 := LamX.ExtN.trans e41 (LamX.ExtN.of s42)
    have hW42 := x42 _ _ hW (fun ps z => by cases z)
    have hu1 := TU.ext x42 _ _ hu1
    have hu2 := TU.ext x42 _ _ hu2
    have hu3 := TU.ext x42 _ _ hu3
    have hu4 := TU.ext x42 _ _ hu4
    have hu5 := hu5.tu (TU.ext x42)
    refine ⟨W, _, _, rfl, rfl, hW42, (by show 5 < sizeLine; decide), ?_⟩
    have h43 := h42.appB (l' := [.ref u1, .ref u2, .ref u3, .ref u4, .ref u5] ++ [.ref u6]) hW42
    have up43 := (kt_upd (o := .lst ([.ref u1, .ref u2, .ref u3, .ref u4, .ref u5] ++ [.ref u6])) hW42).1
    have hu1 := up43 _ _ hu1
    have hu2 := up43 _ _ hu2
    have hu3 := up43 _ _ hu3
    have hu4 := up43 _ _ hu4
    have hu5 := hu5.tu up43
    have hu6 := hu6.tu up43
    have hW : (upd H42 W (.lst ([.ref u1, .ref u2, .ref u3, .ref u4, .ref u5] ++ [.ref u6]))) W = some (.lst [.ref u1, .ref u2, .ref u3, .ref u4, .ref u5, .ref u6]) := upd_same
    generalize upd H42 W (.lst ([V.ref u1, .ref u2, .ref u3, .ref u4, .ref u5] ++ [.ref u6])) = H43 at h43 hu1 hu2 hu3 hu4 hu5 hu6 hW ⊢
    clear up43 hW42
    clear hp40 h40 h41 h42
    simp only [List.set_cons_succ, List.set_cons_zero]
    -- what is due
    refine ⟨(by show 2 ≤ sizeLine; decide), fun d0 nd0 => ?_⟩
    obtain ⟨N0, eN0, mN0, yN0⟩ := newHb nd0 (.tup [.str "sounds", .non])
    rw [show upd H43 d0 _ = N0 from eN0]
    refine ⟨(by show 2 ≤ sizeLine; decide), fun d1 nd1 => ?_⟩
    obtain ⟨N1, eN1, mN1, yN1⟩ := newHb nd1 (.tup [.str "count", .non])
    rw [show upd N0 d1 _ = N1 from eN1]
    refine ⟨(by show 2 ≤ sizeLine; decide), fun d2 nd2 => ?_⟩
    obtain ⟨N2, eN2, mN2, yN2⟩ := newHb nd2 (.tup [.str "count", .non])
    rw [show upd N1 d2 _ = N2 from eN2]
    refine ⟨(by show 2 ≤ sizeLine; decide), fun d3 nd3 => ?_⟩
    obtain ⟨N3, eN3, mN3, yN3⟩ := newHb nd3 (.tup [.str "others", .non])
    rw [show upd N2 d3 _ = N3 from eN3]
    refine ⟨(by show 2 ≤ sizeLine; decide), fun d4 nd4 => ?_⟩
    obtain ⟨N4, eN4, mN4, yN4⟩ := newHb nd4 (.tup [.str "others", .non])
    rw [show upd N3 d4 _ = N4 from eN4]
    refine ⟨(by show 2 ≤ sizeLine; decide), fun d5 nd5 => ?_⟩
    obtain ⟨N5, eN5, mN5, yN5⟩ := newHb nd5 (.tup [.str "others", .non])
    rw [show upd N4 d5 _ = N5 from eN5]
    refine ⟨(by show 6 ≤ sizeLine; decide), fun DU nDU => ?_⟩
    obtain ⟨N6, eN6, mN6, yN6⟩ := newHb nDU (.lst [.ref d0, .ref d1, .ref d2, .ref d3, .ref d4, .ref d5])
    rw [show upd N5 DU _ = N6 from eN6]
    have m06 := mN0.trans (mN1.trans (mN2.trans (mN3.trans (mN4.trans (mN5.trans mN6)))))
    have g0 := (mN1.trans (mN2.trans (mN3.trans (mN4.trans (mN5.trans (mN6)))))) _ _ yN0
    have g1 := (mN2.trans (mN3.trans (mN4.trans (mN5.trans (mN6))))) _ _ yN1
    have g2 := (mN3.trans (mN4.trans (mN5.trans (mN6)))) _ _ yN2
    have g3 := (mN4.trans (mN5.trans (mN6))) _ _ yN3
    have g4 := (mN5.trans (mN6)) _ _ yN4
    have g5 := (mN6) _ _ yN5
    have h49 := h43.same m06
    have hW := m06 _ _ hW
    have hu1 := m06 _ _ hu1
    have hu2 := m06 _ _ hu2
    have hu3 := m06 _ _ hu3
    have hu4 := m06 _ _ hu4
    have hu5 := hu5.tu (fun p xs h => m06 _ _ h)
    have hu6 := hu6.tu (fun p xs h => m06 _ _ h)
    have hDU : N6 DU = some (.lst [.ref d0, .ref d1, .ref d2, .ref d3, .ref d4, .ref d5]) := yN6
    simp only [List.set_cons_succ, List.set_cons_zero]
    refine ⟨_, rfl, _, rfl, _, rfl, (by rw [T_len]; exact small (by omega)), _, _, rfl, rfl, _, rfl, ite2 (fun c => ?_) (fun c => ?_)⟩
    · have c : L.length < 4 := by
        have c' : ((T L).length : Int) < 4 := of_decide_eq_true c
        rw [T_len] at c'
        omega
      have d4 : Dp K N6 (.ref d4) (xD L) := by
        unfold xD
        rw [if_pos c]
        exact dp_pl g4
      have d5 : Dp K N6 (.ref d5) (xD L) := by
        unfold xD
        rw [if_pos c]
        exact dp_pl g5
      have hz := h49
      refine ⟨_, rfl, wdD L, wdD L, .lst (.inl (.inl hW)) (.cons (dp_pl hu1) (.cons (dp_pl hu2) (.cons (dp_pl hu3) (.cons (dp_pl hu4) (.cons hu5.dp (.cons hu6.dp .nil)))))), .lst (.inl (.inl hDU)) (.cons (dp_pl g0) (.cons (dp_pl g1) (.cons (dp_pl g2) (.cons (dp_pl g3) (.cons d4 (.cons d5 .nil)))))), wd_shaped L, wd_shaped L, _, rfl, ite2 (fun c => absurd (show (!PyData.eqv _ _) = true from c) (by rw [wd_eqv]; decide)) (fun _ => ?_)⟩
      refine ⟨rfl, _, rfl, ite2 (fun c => absurd c (by decide)) (fun _ => ?_)⟩
      exact ⟨_, rfl, _, rfl, r, a, ns, b, L, rs, es, rfl, hz.R, hz.T, hL, hz.B, ho, fun H' => q H'⟩
    · have c : ¬ L.length < 4 := by
        intro h
        refine c (decide_eq_true ?_)
        show ((T L).length : Int) < 4
        rw [T_len]
        omega
      refine ⟨_, rfl, 4, rfl, DU, _, rfl, .inl (.inl hDU), fun p0 np0 => ?_⟩
      obtain ⟨Z1, eZ1, mZ1, yZ1⟩ := newHb np0 (.lst (cutV [.ref d0, .ref d1, .ref d2, .ref d3, .ref d4, .ref d5] none (some 4)))
      rw [show upd N6 p0 _ = Z1 from eZ1]
      rw [show (4 : Int) = ((4 : Nat) : Int) from rfl, cut_takeW] at yZ1
      refine ⟨(by show 2 ≤ sizeLine; decide), fun q1 nq1 => ?_⟩
      obtain ⟨Z2, eZ2, mZ2, yZ2⟩ := newHb nq1 (.tup [.int 0, .int 0])
      rw [show upd Z1 q1 _ = Z2 from eZ2]
      refine ⟨(by show 2 ≤ sizeLine; decide), fun q2 nq2 => ?_⟩
      obtain ⟨Z3, eZ3, mZ3, yZ3⟩ := newHb nq2 (.tup [.str "book", .ref q1])
      rw [show upd Z2 q2 _ = Z3 from eZ3]
      refine ⟨(by show 1 ≤ sizeLine; decide), fun q3 nq3 => ?_⟩
      obtain ⟨Z4, eZ4, mZ4, yZ4⟩ := newHb nq3 (.lst [.ref q2])
      rw [show upd Z3 q3 _ = Z4 from eZ4]
      refine ⟨q3, 2, [.ref q2], rfl, rfl, yZ4, by decide, by decide, (by show 1 * 2 ≤ sizeLine; decide), fun q4 nq4 => ?_⟩
      obtain ⟨Z5, eZ5, mZ5, yZ5⟩ := newHb nq4 (.lst (List.replicate (2 : Int).toNat [V.ref q2]).flatten)
      rw [show upd Z4 q4 _ = Z5 from eZ5]
      refine ⟨p0, q4, _, _, rfl, rfl, (mZ2.trans (mZ3.trans (mZ4.trans mZ5))) _ _ yZ1, yZ5, (by show 4 + 2 ≤ sizeLine; decide), fun q5 nq5 => ?_⟩
      obtain ⟨Z6, eZ6, mZ6, yZ6⟩ := newHb nq5 (.lst (([V.ref d0, .ref d1, .ref d2, .ref d3, .ref d4, .ref d5] : List V).take 4 ++ (List.replicate (2 : Int).toNat [V.ref q2]).flatten))
      rw [show upd Z5 q5 _ = Z6 from eZ6]
      have yZ6 : Z6 q5 = some (.lst [.ref d0, .ref d1, .ref d2, .ref d3, .ref q2, .ref q2]) := yZ6
      have mz := mZ1.trans (mZ2.trans (mZ3.trans (mZ4.trans (mZ5.trans mZ6))))
      have hz := h49.same mz
      have b2 := (mZ4.trans (mZ5.trans mZ6)) _ _ yZ3
      have b1 := (mZ3.trans (mZ4.trans (mZ5.trans mZ6))) _ _ yZ2
      have d4 : Dp K Z6 (.ref q2) (xD L) := by
        unfold xD
        rw [if_neg c]
        exact dp_bk b2 b1
      refine ⟨wdD L, wdD L, .lst (.inl (.inl (mz _ _ hW))) (.cons (dp_pl (mz _ _ hu1)) (.cons (dp_pl (mz _ _ hu2)) (.cons (dp_pl (mz _ _ hu3)) (.cons (dp_pl (mz _ _ hu4)) (.cons (hu5.tu fun p xs h => mz _ _ h).dp (.cons (hu6.tu fun p xs h => mz _ _ h).dp .nil)))))), .lst (.inl (.inl yZ6)) (.cons (dp_pl (mz _ _ g0)) (.cons (dp_pl (mz _ _ g1)) (.cons (dp_pl (mz _ _ g2)) (.cons (dp_pl (mz _ _ g3)) (.cons d4 (.cons d4 .nil)))))), wd_shaped L, wd_shaped L, _, rfl, ite2 (fun c => absurd (show (!PyData.eqv _ _) = true from c) (by rw [wd_eqv]; decide)) (fun _ => ?_)⟩
      refine ⟨rfl, _, rfl, ite2 (fun c => absurd c (by decide)) (fun _ => ?_)⟩
      exact ⟨_, rfl, _, rfl, r, a, ns, b, L, rs, es, rfl, hz.R, hz.T, hL, hz.B, ho, fun H' => q H'⟩
end
end Say
namespace Say
open PySem PySem.Spec PyProof.Rows L2
/-- a def as the top has left it -/
structure Std (K : PySem.W.Frag) (x : Str) (st : Stmt) (f : Addr) : Prop where
  ns : PySem.W.nsIn K mainGlobals x = some (some (.ref f))
  fn : ∃ fd, Fun K x x st f fd ∧ ∃ kV dc pm an cd ct, fd = PySem.W.fnOf x x (defArgs st) (defBody st) (defScope st) .none kV dc pm an cd ct
theorem std_mk {K : PySem.W.Frag} {x : Str} {st : Stmt} {f : Addr} {oc : Value} {od an : Option Addr} {osl : Array (Option Value)} {kV dc pm cd ct : Value} (a : PySem.W.nsIn K mainGlobals x = some (some (.ref f))) (l : K.lookup f = some ⟨oc, od, .func (PySem.W.fnOf x x (defArgs st) (defBody st) (defScope st) .none kV dc pm an cd ct), osl⟩) (c : PySem.W.codeIn K cd x = true) (k : PySem.W.keepIn K (.ref f) = true) : Std K x st f :=
  ⟨a, _, fun_mk l c k, kV, dc, pm, an, cd, ct, rfl⟩
structure StdD (K : PySem.W.Frag) (x : Str) (st : Stmt) (f : Addr) : Prop where
  ns : PySem.W.nsIn K mainGlobals x = some (some (.ref f))
  fn : ∃ fd, FunD K x x (defArgs st) (defBody st) (defScope st) [] [("long", .int 5)] f fd
theorem stdD_mk {K : PySem.W.Frag} {x : Str} {st : Stmt} {f D : Addr} {oc : Value} {od an : Option Addr} {osl : Array (Option Value)} {dc pm cd ct : Value} {t : Tok} (a : PySem.W.nsIn K mainGlobals x = some (some (.ref f))) (l : K.lookup f = some ⟨oc, od, .func (PySem.W.fnOf x x (defArgs st) (defBody st) (defScope st) .none (.ref D) dc pm an cd ct), osl⟩) (c : PySem.W.codeIn K cd x = true) (k : PySem.W.keepIn K (.ref f) = true) (d : PySem.W.nsIn K D "long" = some (some (.int 5 t))) : StdD K x st f :=
  ⟨a, _, ⟨⟨_, _, _, _, _, _, _, _, _, _, rfl, l, c, .inl ⟨rfl, rfl⟩, .inr ⟨D, rfl, fun q hq => by rw [List.mem_singleton.mp hq]; exact ⟨_, d, ⟨_, rfl⟩⟩⟩⟩, k⟩⟩
/-- a method as the top has left it -/
structure MStd (K : PySem.W.Frag) (C : Addr) (x q : Str) (st : Stmt) (f : Addr) : Prop where
  me : Meth K C x f
  fn : ∃ fd, Fun K x q st f fd ∧ ∃ kV dc pm an cd ct, fd = PySem.W.fnOf x q (defArgs st) (defBody st) (defScope st) .none kV dc pm an cd ct
theorem mstd_mk {K : PySem.W.Frag} {C : Addr} {x q : Str} {st : Stmt} {f : Addr} {oc : Value} {od an : Option Addr} {osl : Array (Option Value)} {kV dc pm cd ct : Value} (a : PySem.W.findIn K (.ref C) x = some (some (.ref f))) (i : PySem.W.isFn K (.ref f) = true) (l : K.lookup f = some ⟨oc, od, .func (PySem.W.fnOf x q (defArgs st) (defBody st) (defScope st) .none kV dc pm an cd ct), osl⟩) (c : PySem.W.codeIn K cd q = true) (k : PySem.W.keepIn K (.ref f) = true) : MStd K C x q st f :=
  ⟨⟨a, i, k⟩, _, fun_mk l c k, kV, dc, pm, an, cd, ct, rfl⟩
theorem all_ok {l : PySem.W.OpenLaw} {w : World} {K : PySem.W.Frag} {h : Heap} {mg : Str → Option Value} {fa f42 f43 f38 f37 f40 f41 f39 f31 f34 f32 f33 f30 f36 f44 f49 f50 f51 f52 f56 f57 f53 f54 f55 f60 f59 f67 f66 f65 f79 f80 f97 f95 f94 f92 f93 f101 f102 f103 f104 f105 f106 f107 f108 f109 f110 f112 f111 xSayError xBadBook xBadWord xBadSounds xBadCount xUnsaid xNoLetter xNoException xOtherLetters xBadSamples xBadDeed xHalted xBadText ySayer gBg gFe gSyI yDesk gDkI gSa fIo0 cdIo0 ccIo0 N_o0 fIo1 cdIo1 ccIo1 N_o1 Pt cL Pth0_ cLh0_ : Addr} {t_small t_caps t_edge t_mrul t_lexc t_lrs t_lso t_imost_exceptions t_ilongest_word t_iown t_isounds t_isettling t_imost_samples t_ilong t_ilongest_writing t_ileads t_ino_book t_iletters t_irules t_iexceptions : Tok} {tfIo0 : Tok} {nmo0 qo0 flIo0 : Str} {bso0 subo0 : List Value} {sno0 : List Str} {abo0 : Bool} {colo0 : Option Bool} {ddo0 odIo0 anIo0 cldIo0 cddIo0 : Option Addr} {m0o0 m1o0 m2o0 m3o0 m5o0 : Option Value} {oIo0 dcIo0 pmIo0 ctIo0 clIo0 cclIo0 : Value} {slIo0 cslIo0 ccsIo0 : Array (Option Value)} {vsIo0 : Array Value} {tfIo1 : Tok} {nmo1 qo1 flIo1 : Str} {bso1 subo1 : List Value} {sno1 : List Str} {abo1 : Bool} {colo1 : Option Bool} {ddo1 odIo1 anIo1 cldIo1 cddIo1 : Option Addr} {m0o1 m1o1 m2o1 m3o1 m5o1 : Option Value} {oIo1 dcIo1 pmIo1 ctIo1 clIo1 cclIo1 : Value} {slIo1 cslIo1 ccsIo1 : Array (Option Value)} {vsIo1 : Array Value} {lt18 lt7 lt10 : Tok} {li7 li10 : Int} {lb9 : Bool} {lf18 : Str} {cddL odL anL : Option Addr} {oL kVL dcL pmL ctL : Value} {cslL slL : Array (Option Value)} {vsL : Array Value} {lt18h0_ lt7h0_ lt10h0_ : Tok} {li7h0_ li10h0_ : Int} {lb9h0_ : Bool} {lf18h0_ : Str} {cddLh0_ odLh0_ anLh0_ : Option Addr} {oLh0_ kVLh0_ dcLh0_ pmLh0_ ctLh0_ : Value} {cslLh0_ slLh0_ : Array (Option Value)} {vsLh0_ : Array Value}
    (X : K.In h) (G : h.Ns mainGlobals mg) (hfa : mg "law" = some (.ref fa)) (OT : LamX.OwnTab K fa h) (OT0 : ∀ g : Addr, mg "_law_bad_samples" = some (.ref g) → LamX.OwnTab K g h)
    (S42 : Std K "is_text" (topS 42) f42)
    (S43 : Std K "is_rising" (topS 43) f43)
    (S38 : Std K "is_beside" (topS 38) f38)
    (S37 : Std K "is_rule" (topS 37) f37)
    (S40 : Std K "is_excepted" (topS 40) f40)
    (S41 : Std K "is_sounds" (topS 41) f41)
    (S39 : Std K "is_exception" (topS 39) f39)
    (S31 : Std K "check_letters" (topS 31) f31)
    (S34 : Std K "check_word" (topS 34) f34)
    (S32 : Std K "check_rules" (topS 32) f32)
    (S33 : Std K "check_exceptions" (topS 33) f33)
    (S30 : Std K "checked_book" (topS 30) f30)
    (S36 : Std K "check_sounds" (topS 36) f36)
    (S44 : Std K "is_count" (topS 44) f44)
    (S49 : Std K "fits" (topS 49) f49)
    (S50 : Std K "first_fit" (topS 50) f50)
    (S51 : Std K "steps_of" (topS 51) f51)
    (S52 : Std K "taken" (topS 52) f52)
    (S56 : Std K "numbers_of" (topS 56) f56)
    (S57 : Std K "sounds_of" (topS 57) f57)
    (S53 : Std K "ending" (topS 53) f53)
    (S54 : Std K "ending_sounds" (topS 54) f54)
    (S55 : Std K "word_sounds" (topS 55) f55)
    (S60 : Std K "said" (topS 60) f60)
    (S59 : Std K "walk" (topS 59) f59)
    (S67 : Std K "longer_beginnings" (topS 67) f67)
    (S66 : Std K "ruled_writings" (topS 66) f66)
    (S65 : StdD K "writings" (topS 65) f65)
    (S79 : Std K "parted" (topS 79) f79)
    (S80 : Std K "use" (topS 80) f80)
    (S97 : Std K "is_said" (topS 97) f97)
    (S95 : Std K "check_samples" (topS 95) f95)
    (S94 : Std K "check_all" (topS 94) f94)
    (S92 : Std K "least" (topS 92) f92)
    (S93 : Std K "blamed" (topS 93) f93)
    (S101 : Std K "_law_row" (topS 101) f101)
    (S102 : Std K "_law_taken" (topS 102) f102)
    (S103 : Std K "_law_letters" (topS 103) f103)
    (S104 : Std K "_law_side" (topS 104) f104)
    (S105 : Std K "_law_text" (topS 105) f105)
    (S106 : Std K "_law_rule" (topS 106) f106)
    (S107 : Std K "_law_rules" (topS 107) f107)
    (S108 : Std K "_law_exceptions" (topS 108) f108)
    (S109 : Std K "_law_book" (topS 109) f109)
    (S110 : Std K "_law_word" (topS 110) f110)
    (MBg : MStd K ySayer "_begin" "Sayer._begin" (sSy 5) gBg)
    (MFe : MStd K ySayer "feed" "Sayer.feed" (sSy 1) gFe)
    (MSyI : MStd K ySayer "__init__" "Sayer.__init__" (sSy 0) gSyI)
    (MDkI : MStd K yDesk "__init__" "Desk.__init__" (sDk 0) gDkI)
    (MSa : MStd K yDesk "say" "Desk.say" (sDk 2) gSa)
    (a_law : PySem.W.nsIn K mainGlobals "law" = some (some (.ref f112)))
    (l_law : K.lookup f112 = some ⟨oL, odL, .func (PySem.W.fnOf "law" "law" (defArgs (topS 112)) (defBody (topS 112)) (defScope (topS 112)) .none kVL dcL pmL anL (.ref cL) ctL), slL⟩)
    (c_law : PySem.W.codeIn K (.ref cL) "law" = true)
    (k_law : PySem.W.keepIn K (.ref f112) = true)
    (z_len : PySem.W.nsIn K mainGlobals "len" = some none)
    (z_range : PySem.W.nsIn K mainGlobals "range" = some none)
    (z_tuple : PySem.W.nsIn K mainGlobals "tuple" = some none)
    (z_list : PySem.W.nsIn K mainGlobals "list" = some none)
    (z_isinstance : PySem.W.nsIn K mainGlobals "isinstance" = some none)
    (z_str : PySem.W.nsIn K mainGlobals "str" = some none)
    (z_all : PySem.W.nsIn K mainGlobals "all" = some none)
    (z_enumerate : PySem.W.nsIn K mainGlobals "enumerate" = some none)
    (z_sorted : PySem.W.nsIn K mainGlobals "sorted" = some none)
    (z_bool : PySem.W.nsIn K mainGlobals "bool" = some none)
    (z_dict : PySem.W.nsIn K mainGlobals "dict" = some none)
    (z_int : PySem.W.nsIn K mainGlobals "int" = some none)
    (c_small : PySem.W.nsIn K mainGlobals "SMALL" = some (some (.str "abcdefghijklmnopqrstuvwxyz" t_small)))
    (c_caps : PySem.W.nsIn K mainGlobals "CAPITALS" = some (some (.str "ABCDEFGHIJKLMNOPQRSTUVWXYZ" t_caps)))
    (c_edge : PySem.W.nsIn K mainGlobals "EDGE" = some (some (.str "#" t_edge)))
    (c_mrul : PySem.W.nsIn K mainGlobals "MOST_RULES" = some (some (.int 12 t_mrul)))
    (c_lexc : PySem.W.nsIn K mainGlobals "LONGEST_EXCEPTION" = some (some (.int 8 t_lexc)))
    (c_lrs : PySem.W.nsIn K mainGlobals "LONGEST_RULE_SOUNDS" = some (some (.int 3 t_lrs)))
    (c_lso : PySem.W.nsIn K mainGlobals "LONGEST_SOUNDS" = some (some (.int 36 t_lso)))
    (c_imost_exceptions : PySem.W.nsIn K mainGlobals "MOST_EXCEPTIONS" = some (some (.int 8 t_imost_exceptions)))
    (c_ilongest_word : PySem.W.nsIn K mainGlobals "LONGEST_WORD" = some (some (.int 12 t_ilongest_word)))
    (c_iown : PySem.W.nsIn K mainGlobals "OWN" = some (some (.int 1 t_iown)))
    (c_isounds : PySem.W.nsIn K mainGlobals "SOUNDS" = some (some (.int 3 t_isounds)))
    (c_isettling : PySem.W.nsIn K mainGlobals "SETTLING" = some (some (.int 4 t_isettling)))
    (c_imost_samples : PySem.W.nsIn K mainGlobals "MOST_SAMPLES" = some (some (.int 12 t_imost_samples)))
    (c_ilong : PySem.W.nsIn K mainGlobals "LONG" = some (some (.int 5 t_ilong)))
    (c_ilongest_writing : PySem.W.nsIn K mainGlobals "LONGEST_WRITING" = some (some (.int 7 t_ilongest_writing)))
    (c_ileads : PySem.W.nsIn K mainGlobals "LEADS" = some (some (.int 2 t_ileads)))
    (c_ino_book : PySem.W.nsIn K mainGlobals "NO_BOOK" = some (some (.int (-1) t_ino_book)))
    (c_iletters : PySem.W.nsIn K mainGlobals "LETTERS" = some (some (.int 0 t_iletters)))
    (c_irules : PySem.W.nsIn K mainGlobals "RULES" = some (some (.int 1 t_irules)))
    (c_iexceptions : PySem.W.nsIn K mainGlobals "EXCEPTIONS" = some (some (.int 2 t_iexceptions)))
    (z_super : PySem.W.nsIn K mainGlobals "super" = some none)
    (z_ValueError : PySem.W.nsIn K mainGlobals "ValueError" = some none)
    (gSayError : PySem.W.nsIn K mainGlobals "SayError" = some (some (.ref xSayError)))
    (gBadBook : PySem.W.nsIn K mainGlobals "BadBook" = some (some (.ref xBadBook)))
    (gBadWord : PySem.W.nsIn K mainGlobals "BadWord" = some (some (.ref xBadWord)))
    (gBadSounds : PySem.W.nsIn K mainGlobals "BadSounds" = some (some (.ref xBadSounds)))
    (gBadCount : PySem.W.nsIn K mainGlobals "BadCount" = some (some (.ref xBadCount)))
    (gUnsaid : PySem.W.nsIn K mainGlobals "Unsaid" = some (some (.ref xUnsaid)))
    (gNoLetter : PySem.W.nsIn K mainGlobals "NoLetter" = some (some (.ref xNoLetter)))
    (gNoException : PySem.W.nsIn K mainGlobals "NoException" = some (some (.ref xNoException)))
    (gOtherLetters : PySem.W.nsIn K mainGlobals "OtherLetters" = some (some (.ref xOtherLetters)))
    (gBadSamples : PySem.W.nsIn K mainGlobals "BadSamples" = some (some (.ref xBadSamples)))
    (gBadDeed : PySem.W.nsIn K mainGlobals "BadDeed" = some (some (.ref xBadDeed)))
    (gHalted : PySem.W.nsIn K mainGlobals "Halted" = some (some (.ref xHalted)))
    (gBadText : PySem.W.nsIn K mainGlobals "BadText" = some (some (.ref xBadText)))
    (eS1 : PySem.W.subIn K (.ref xSayError) (.type "BaseException") = some true)
    (eS2 : PySem.W.hasDictIn K xSayError = true)
    (eS3 : PySem.W.typeIn K (.ref xSayError) = some (.type "type"))
    (BadBook_e4 : PySem.W.subIn K (.ref xBadBook) (.ref xSayError) = some true)
    (BadBook_kBadBook : PySem.W.kitOne K (.ref xBadBook) (.ref xBadBook) = some true)
    (BadBook_kBadWord : PySem.W.kitOne K (.ref xBadBook) (.ref xBadWord) = some false)
    (BadBook_kBadSounds : PySem.W.kitOne K (.ref xBadBook) (.ref xBadSounds) = some false)
    (BadBook_kBadCount : PySem.W.kitOne K (.ref xBadBook) (.ref xBadCount) = some false)
    (BadBook_kUnsaid : PySem.W.kitOne K (.ref xBadBook) (.ref xUnsaid) = some false)
    (BadBook_kNoLetter : PySem.W.kitOne K (.ref xBadBook) (.ref xNoLetter) = some false)
    (BadBook_kNoException : PySem.W.kitOne K (.ref xBadBook) (.ref xNoException) = some false)
    (BadBook_kOtherLetters : PySem.W.kitOne K (.ref xBadBook) (.ref xOtherLetters) = some false)
    (BadBook_kBadSamples : PySem.W.kitOne K (.ref xBadBook) (.ref xBadSamples) = some false)
    (BadBook_kBadDeed : PySem.W.kitOne K (.ref xBadBook) (.ref xBadDeed) = some false)
    (BadBook_kHalted : PySem.W.kitOne K (.ref xBadBook) (.ref xHalted) = some false)
    (BadBook_kBadText : PySem.W.kitOne K (.ref xBadBook) (.ref xBadText) = some false)
    (BadBook_kV : PySem.W.kitOne K (.ref xBadBook) (.type "ValueError") = some true)
    (BadBook_noP : PySem.W.findIn K (.ref xBadBook) "place" = some none)
    (BadBook_noN : PySem.W.findIn K (.ref xBadBook) "number" = some none)
    (BadBook_noA : PySem.W.findIn K (.ref xBadBook) "part" = some none)
    (BadBook_noD : PySem.W.findIn K (.ref xBadBook) "done" = some none)
    (BadBook_noR : PySem.W.findIn K (.ref xBadBook) "row" = some none)
    (BadBook_ga : PySem.W.findIn K (.ref xBadBook) "__getattribute__" = some (some (.builtin "BaseException.__getattribute__")))
    (BadBook_gg : PySem.W.findIn K (.ref xBadBook) "__getattr__" = some none)
    (BadBook_hd : PySem.W.hasDictIn K xBadBook = true)
    (BadBook_ex : PySem.W.subIn K (.ref xBadBook) (.type "BaseException") = some true)
    (BadBook_ha : PySem.W.findIn K (.ref xBadBook) "__class__" = some (some (.builtin "object.__class__")))
    (BadBook_hm : PySem.W.mroIn K xBadBook (.type "object") = some true)
    (BadWord_e4 : PySem.W.subIn K (.ref xBadWord) (.ref xSayError) = some true)
    (BadWord_kBadBook : PySem.W.kitOne K (.ref xBadWord) (.ref xBadBook) = some false)
    (BadWord_kBadWord : PySem.W.kitOne K (.ref xBadWord) (.ref xBadWord) = some true)
    (BadWord_kBadSounds : PySem.W.kitOne K (.ref xBadWord) (.ref xBadSounds) = some false)
    (BadWord_kBadCount : PySem.W.kitOne K (.ref xBadWord) (.ref xBadCount) = some false)
    (BadWord_kUnsaid : PySem.W.kitOne K (.ref xBadWord) (.ref xUnsaid) = some false)
    (BadWord_kNoLetter : PySem.W.kitOne K (.ref xBadWord) (.ref xNoLetter) = some false)
    (BadWord_kNoException : PySem.W.kitOne K (.ref xBadWord) (.ref xNoException) = some false)
    (BadWord_kOtherLetters : PySem.W.kitOne K (.ref xBadWord) (.ref xOtherLetters) = some false)
    (BadWord_kBadSamples : PySem.W.kitOne K (.ref xBadWord) (.ref xBadSamples) = some false)
    (BadWord_kBadDeed : PySem.W.kitOne K (.ref xBadWord) (.ref xBadDeed) = some false)
    (BadWord_kHalted : PySem.W.kitOne K (.ref xBadWord) (.ref xHalted) = some false)
    (BadWord_kBadText : PySem.W.kitOne K (.ref xBadWord) (.ref xBadText) = some false)
    (BadWord_kV : PySem.W.kitOne K (.ref xBadWord) (.type "ValueError") = some true)
    (BadWord_noP : PySem.W.findIn K (.ref xBadWord) "place" = some none)
    (BadWord_noN : PySem.W.findIn K (.ref xBadWord) "number" = some none)
    (BadWord_noA : PySem.W.findIn K (.ref xBadWord) "part" = some none)
    (BadWord_noD : PySem.W.findIn K (.ref xBadWord) "done" = some none)
    (BadWord_noR : PySem.W.findIn K (.ref xBadWord) "row" = some none)
    (BadWord_ga : PySem.W.findIn K (.ref xBadWord) "__getattribute__" = some (some (.builtin "BaseException.__getattribute__")))
    (BadWord_gg : PySem.W.findIn K (.ref xBadWord) "__getattr__" = some none)
    (BadWord_hd : PySem.W.hasDictIn K xBadWord = true)
    (BadWord_ex : PySem.W.subIn K (.ref xBadWord) (.type "BaseException") = some true)
    (BadWord_ha : PySem.W.findIn K (.ref xBadWord) "__class__" = some (some (.builtin "object.__class__")))
    (BadWord_hm : PySem.W.mroIn K xBadWord (.type "object") = some true)
    (BadSounds_e4 : PySem.W.subIn K (.ref xBadSounds) (.ref xSayError) = some true)
    (BadSounds_kBadBook : PySem.W.kitOne K (.ref xBadSounds) (.ref xBadBook) = some false)
    (BadSounds_kBadWord : PySem.W.kitOne K (.ref xBadSounds) (.ref xBadWord) = some false)
    (BadSounds_kBadSounds : PySem.W.kitOne K (.ref xBadSounds) (.ref xBadSounds) = some true)
    (BadSounds_kBadCount : PySem.W.kitOne K (.ref xBadSounds) (.ref xBadCount) = some false)
    (BadSounds_kUnsaid : PySem.W.kitOne K (.ref xBadSounds) (.ref xUnsaid) = some false)
    (BadSounds_kNoLetter : PySem.W.kitOne K (.ref xBadSounds) (.ref xNoLetter) = some false)
    (BadSounds_kNoException : PySem.W.kitOne K (.ref xBadSounds) (.ref xNoException) = some false)
    (BadSounds_kOtherLetters : PySem.W.kitOne K (.ref xBadSounds) (.ref xOtherLetters) = some false)
    (BadSounds_kBadSamples : PySem.W.kitOne K (.ref xBadSounds) (.ref xBadSamples) = some false)
    (BadSounds_kBadDeed : PySem.W.kitOne K (.ref xBadSounds) (.ref xBadDeed) = some false)
    (BadSounds_kHalted : PySem.W.kitOne K (.ref xBadSounds) (.ref xHalted) = some false)
    (BadSounds_kBadText : PySem.W.kitOne K (.ref xBadSounds) (.ref xBadText) = some false)
    (BadSounds_kV : PySem.W.kitOne K (.ref xBadSounds) (.type "ValueError") = some true)
    (BadSounds_noP : PySem.W.findIn K (.ref xBadSounds) "place" = some none)
    (BadSounds_noN : PySem.W.findIn K (.ref xBadSounds) "number" = some none)
    (BadSounds_noA : PySem.W.findIn K (.ref xBadSounds) "part" = some none)
    (BadSounds_noD : PySem.W.findIn K (.ref xBadSounds) "done" = some none)
    (BadSounds_noR : PySem.W.findIn K (.ref xBadSounds) "row" = some none)
    (BadSounds_ga : PySem.W.findIn K (.ref xBadSounds) "__getattribute__" = some (some (.builtin "BaseException.__getattribute__")))
    (BadSounds_gg : PySem.W.findIn K (.ref xBadSounds) "__getattr__" = some none)
    (BadSounds_hd : PySem.W.hasDictIn K xBadSounds = true)
    (BadSounds_ex : PySem.W.subIn K (.ref xBadSounds) (.type "BaseException") = some true)
    (BadSounds_ha : PySem.W.findIn K (.ref xBadSounds) "__class__" = some (some (.builtin "object.__class__")))
    (BadSounds_hm : PySem.W.mroIn K xBadSounds (.type "object") = some true)
    (BadCount_e4 : PySem.W.subIn K (.ref xBadCount) (.ref xSayError) = some true)
    (BadCount_kBadBook : PySem.W.kitOne K (.ref xBadCount) (.ref xBadBook) = some false)
    (BadCount_kBadWord : PySem.W.kitOne K (.ref xBadCount) (.ref xBadWord) = some false)
    (BadCount_kBadSounds : PySem.W.kitOne K (.ref xBadCount) (.ref xBadSounds) = some false)
    (BadCount_kBadCount : PySem.W.kitOne K (.ref xBadCount) (.ref xBadCount) = some true)
    (BadCount_kUnsaid : PySem.W.kitOne K (.ref xBadCount) (.ref xUnsaid) = some false)
    (BadCount_kNoLetter : PySem.W.kitOne K (.ref xBadCount) (.ref xNoLetter) = some false)
    (BadCount_kNoException : PySem.W.kitOne K (.ref xBadCount) (.ref xNoException) = some false)
    (BadCount_kOtherLetters : PySem.W.kitOne K (.ref xBadCount) (.ref xOtherLetters) = some false)
    (BadCount_kBadSamples : PySem.W.kitOne K (.ref xBadCount) (.ref xBadSamples) = some false)
    (BadCount_kBadDeed : PySem.W.kitOne K (.ref xBadCount) (.ref xBadDeed) = some false)
    (BadCount_kHalted : PySem.W.kitOne K (.ref xBadCount) (.ref xHalted) = some false)
    (BadCount_kBadText : PySem.W.kitOne K (.ref xBadCount) (.ref xBadText) = some false)
    (BadCount_kV : PySem.W.kitOne K (.ref xBadCount) (.type "ValueError") = some true)
    (BadCount_noP : PySem.W.findIn K (.ref xBadCount) "place" = some none)
    (BadCount_noN : PySem.W.findIn K (.ref xBadCount) "number" = some none)
    (BadCount_noA : PySem.W.findIn K (.ref xBadCount) "part" = some none)
    (BadCount_noD : PySem.W.findIn K (.ref xBadCount) "done" = some none)
    (BadCount_noR : PySem.W.findIn K (.ref xBadCount) "row" = some none)
    (BadCount_ga : PySem.W.findIn K (.ref xBadCount) "__getattribute__" = some (some (.builtin "BaseException.__getattribute__")))
    (BadCount_gg : PySem.W.findIn K (.ref xBadCount) "__getattr__" = some none)
    (BadCount_hd : PySem.W.hasDictIn K xBadCount = true)
    (BadCount_ex : PySem.W.subIn K (.ref xBadCount) (.type "BaseException") = some true)
    (BadCount_ha : PySem.W.findIn K (.ref xBadCount) "__class__" = some (some (.builtin "object.__class__")))
    (BadCount_hm : PySem.W.mroIn K xBadCount (.type "object") = some true)
    (OtherLetters_e4 : PySem.W.subIn K (.ref xOtherLetters) (.ref xSayError) = some true)
    (OtherLetters_kBadBook : PySem.W.kitOne K (.ref xOtherLetters) (.ref xBadBook) = some false)
    (OtherLetters_kBadWord : PySem.W.kitOne K (.ref xOtherLetters) (.ref xBadWord) = some false)
    (OtherLetters_kBadSounds : PySem.W.kitOne K (.ref xOtherLetters) (.ref xBadSounds) = some false)
    (OtherLetters_kBadCount : PySem.W.kitOne K (.ref xOtherLetters) (.ref xBadCount) = some false)
    (OtherLetters_kUnsaid : PySem.W.kitOne K (.ref xOtherLetters) (.ref xUnsaid) = some false)
    (OtherLetters_kNoLetter : PySem.W.kitOne K (.ref xOtherLetters) (.ref xNoLetter) = some false)
    (OtherLetters_kNoException : PySem.W.kitOne K (.ref xOtherLetters) (.ref xNoException) = some false)
    (OtherLetters_kOtherLetters : PySem.W.kitOne K (.ref xOtherLetters) (.ref xOtherLetters) = some true)
    (OtherLetters_kBadSamples : PySem.W.kitOne K (.ref xOtherLetters) (.ref xBadSamples) = some false)
    (OtherLetters_kBadDeed : PySem.W.kitOne K (.ref xOtherLetters) (.ref xBadDeed) = some false)
    (OtherLetters_kHalted : PySem.W.kitOne K (.ref xOtherLetters) (.ref xHalted) = some false)
    (OtherLetters_kBadText : PySem.W.kitOne K (.ref xOtherLetters) (.ref xBadText) = some false)
    (OtherLetters_kV : PySem.W.kitOne K (.ref xOtherLetters) (.type "ValueError") = some true)
    (OtherLetters_noP : PySem.W.findIn K (.ref xOtherLetters) "place" = some none)
    (OtherLetters_noN : PySem.W.findIn K (.ref xOtherLetters) "number" = some none)
    (OtherLetters_noA : PySem.W.findIn K (.ref xOtherLetters) "part" = some none)
    (OtherLetters_noD : PySem.W.findIn K (.ref xOtherLetters) "done" = some none)
    (OtherLetters_noR : PySem.W.findIn K (.ref xOtherLetters) "row" = some none)
    (OtherLetters_ga : PySem.W.findIn K (.ref xOtherLetters) "__getattribute__" = some (some (.builtin "BaseException.__getattribute__")))
    (OtherLetters_gg : PySem.W.findIn K (.ref xOtherLetters) "__getattr__" = some none)
    (OtherLetters_hd : PySem.W.hasDictIn K xOtherLetters = true)
    (OtherLetters_ex : PySem.W.subIn K (.ref xOtherLetters) (.type "BaseException") = some true)
    (OtherLetters_ha : PySem.W.findIn K (.ref xOtherLetters) "__class__" = some (some (.builtin "object.__class__")))
    (OtherLetters_hm : PySem.W.mroIn K xOtherLetters (.type "object") = some true)
    (BadSamples_e4 : PySem.W.subIn K (.ref xBadSamples) (.ref xSayError) = some true)
    (BadSamples_kBadBook : PySem.W.kitOne K (.ref xBadSamples) (.ref xBadBook) = some false)
    (BadSamples_kBadWord : PySem.W.kitOne K (.ref xBadSamples) (.ref xBadWord) = some false)
    (BadSamples_kBadSounds : PySem.W.kitOne K (.ref xBadSamples) (.ref xBadSounds) = some false)
    (BadSamples_kBadCount : PySem.W.kitOne K (.ref xBadSamples) (.ref xBadCount) = some false)
    (BadSamples_kUnsaid : PySem.W.kitOne K (.ref xBadSamples) (.ref xUnsaid) = some false)
    (BadSamples_kNoLetter : PySem.W.kitOne K (.ref xBadSamples) (.ref xNoLetter) = some false)
    (BadSamples_kNoException : PySem.W.kitOne K (.ref xBadSamples) (.ref xNoException) = some false)
    (BadSamples_kOtherLetters : PySem.W.kitOne K (.ref xBadSamples) (.ref xOtherLetters) = some false)
    (BadSamples_kBadSamples : PySem.W.kitOne K (.ref xBadSamples) (.ref xBadSamples) = some true)
    (BadSamples_kBadDeed : PySem.W.kitOne K (.ref xBadSamples) (.ref xBadDeed) = some false)
    (BadSamples_kHalted : PySem.W.kitOne K (.ref xBadSamples) (.ref xHalted) = some false)
    (BadSamples_kBadText : PySem.W.kitOne K (.ref xBadSamples) (.ref xBadText) = some false)
    (BadSamples_kV : PySem.W.kitOne K (.ref xBadSamples) (.type "ValueError") = some true)
    (BadSamples_noP : PySem.W.findIn K (.ref xBadSamples) "place" = some none)
    (BadSamples_noN : PySem.W.findIn K (.ref xBadSamples) "number" = some none)
    (BadSamples_noA : PySem.W.findIn K (.ref xBadSamples) "part" = some none)
    (BadSamples_noD : PySem.W.findIn K (.ref xBadSamples) "done" = some none)
    (BadSamples_noR : PySem.W.findIn K (.ref xBadSamples) "row" = some none)
    (BadSamples_ga : PySem.W.findIn K (.ref xBadSamples) "__getattribute__" = some (some (.builtin "BaseException.__getattribute__")))
    (BadSamples_gg : PySem.W.findIn K (.ref xBadSamples) "__getattr__" = some none)
    (BadSamples_hd : PySem.W.hasDictIn K xBadSamples = true)
    (BadSamples_ex : PySem.W.subIn K (.ref xBadSamples) (.type "BaseException") = some true)
    (BadSamples_ha : PySem.W.findIn K (.ref xBadSamples) "__class__" = some (some (.builtin "object.__class__")))
    (BadSamples_hm : PySem.W.mroIn K xBadSamples (.type "object") = some true)
    (x_hn : PySem.W.specialIn K (.builtin "object.__class__") "__get__" = some (some (.builtin "getset_descriptor.__get__")))
    (x_ht : PySem.W.takesIn K (.builtin "object.__class__") = some true)
    (o0_x : K.lookup xBadBook = some (excClassObj nmo0 qo0 xBadBook N_o0 bso0 [.ref xSayError, .type "ValueError", .type "Exception", .type "BaseException", .type "object"] true sno0 subo0 abo0 colo0 ddo0 m0o0 m1o0 m2o0 m3o0 m5o0 "ValueError.__new__"))
    (o0_sa : PySem.W.findIn K (.ref xBadBook) "__setattr__" = some (some (.builtin "object.__setattr__")))
    (o0_iC : PySem.W.findIn K (.ref xBadBook) "__init__" = some (some (.ref fIo0)))
    (o0_tC : PySem.W.typeIn K (.ref fIo0) = some (.type "function"))
    (o0_kC : PySem.W.keepIn K (.ref xBadBook) = true)
    (o0_tyC : PySem.W.typeIn K (.ref xBadBook) = some (.type "type"))
    (o0_sup : PySem.W.ks_superIn K xBadBook xBadBook "__init__" = some (some (.builtin "ValueError.__init__")))
    (o0_subV : PySem.W.subIn K (.ref xBadBook) (.type "ValueError") = some true)
    (o0_subE : PySem.W.subIn K (.ref xBadBook) (.type "BaseException") = some true)
    (o0_any : PySem.W.nsIn K cStatics "thirdparty.any" = some none)
    (o0_main : (l.prog.main.scope.names.lookup ("super" : Str)).isSome = false)
    (o0_fn : K.lookup fIo0 = some ⟨oIo0, odIo0, .func (PySem.W.ksFn "__init__" "BadBook.__init__" PySem.XBadBook.iA PySem.XBadBook.iB PySem.XBadBook.iS .none .none dcIo0 pmIo0 anIo0 (.ref cdIo0) ctIo0 ccIo0), slIo0⟩)
    (o0_cd : PySem.W.codeIn K (.ref cdIo0) "BadBook.__init__" = true)
    (o0_cell : K.lookup ccIo0 = some ⟨clIo0, cldIo0, .cell (some (.ref xBadBook)), cslIo0⟩)
    (o0_code : K.lookup cdIo0 = some ⟨cclIo0, cddIo0, .fields vsIo0, ccsIo0⟩)
    (o0_vs : vsIo0[2]? = some (.str flIo0 tfIo0))
    (o0_file : ((l.prog.main.file : Str) == flIo0) = true)
    (o0_no0 : PySem.W.findIn K (.ref xBadBook) "part" = some none)
    (o0_no1 : PySem.W.findIn K (.ref xBadBook) "number" = some none)
    (o1_x : K.lookup xBadSamples = some (excClassObj nmo1 qo1 xBadSamples N_o1 bso1 [.ref xSayError, .type "ValueError", .type "Exception", .type "BaseException", .type "object"] true sno1 subo1 abo1 colo1 ddo1 m0o1 m1o1 m2o1 m3o1 m5o1 "ValueError.__new__"))
    (o1_sa : PySem.W.findIn K (.ref xBadSamples) "__setattr__" = some (some (.builtin "object.__setattr__")))
    (o1_iC : PySem.W.findIn K (.ref xBadSamples) "__init__" = some (some (.ref fIo1)))
    (o1_tC : PySem.W.typeIn K (.ref fIo1) = some (.type "function"))
    (o1_kC : PySem.W.keepIn K (.ref xBadSamples) = true)
    (o1_tyC : PySem.W.typeIn K (.ref xBadSamples) = some (.type "type"))
    (o1_sup : PySem.W.ks_superIn K xBadSamples xBadSamples "__init__" = some (some (.builtin "ValueError.__init__")))
    (o1_subV : PySem.W.subIn K (.ref xBadSamples) (.type "ValueError") = some true)
    (o1_subE : PySem.W.subIn K (.ref xBadSamples) (.type "BaseException") = some true)
    (o1_any : PySem.W.nsIn K cStatics "thirdparty.any" = some none)
    (o1_main : (l.prog.main.scope.names.lookup ("super" : Str)).isSome = false)
    (o1_fn : K.lookup fIo1 = some ⟨oIo1, odIo1, .func (PySem.W.ksFn "__init__" "BadSamples.__init__" PySem.XBadSamples.iA PySem.XBadSamples.iB PySem.XBadSamples.iS .none .none dcIo1 pmIo1 anIo1 (.ref cdIo1) ctIo1 ccIo1), slIo1⟩)
    (o1_cd : PySem.W.codeIn K (.ref cdIo1) "BadSamples.__init__" = true)
    (o1_cell : K.lookup ccIo1 = some ⟨clIo1, cldIo1, .cell (some (.ref xBadSamples)), cslIo1⟩)
    (o1_code : K.lookup cdIo1 = some ⟨cclIo1, cddIo1, .fields vsIo1, ccsIo1⟩)
    (o1_vs : vsIo1[2]? = some (.str flIo1 tfIo1))
    (o1_file : ((l.prog.main.file : Str) == flIo1) = true)
    (o1_no0 : PySem.W.findIn K (.ref xBadSamples) "number" = some none)
    (l_code : K.lookup cL = some ⟨.type "code", cddL, .fields vsL, cslL⟩)
    (l_vs : vsL[11]? = some (.ref Pt))
    (l_v11 : vsL.getD 11 .none = .ref Pt)
    (l_v18 : vsL.getD 18 .none = .str lf18 lt18)
    (l_v7 : vsL.getD 7 .none = .int li7 lt7)
    (l_v9 : vsL.getD 9 .none = .bool lb9)
    (l_v10 : vsL.getD 10 .none = .int li10 lt10)
    (l_ne : cL ≠ Pt)
    (l_no : K.lookup Pt = none)
    (h0_a : PySem.W.nsIn K mainGlobals "_law_bad_samples" = some (some (.ref f111)))
    (h0_l : K.lookup f111 = some ⟨oLh0_, odLh0_, .func (PySem.W.fnOf "_law_bad_samples" "_law_bad_samples" (defArgs (topS 111)) (defBody (topS 111)) (defScope (topS 111)) .none kVLh0_ dcLh0_ pmLh0_ anLh0_ (.ref cLh0_) ctLh0_), slLh0_⟩)
    (h0_c : PySem.W.codeIn K (.ref cLh0_) "_law_bad_samples" = true)
    (h0_k : PySem.W.keepIn K (.ref f111) = true)
    (h0_code : K.lookup cLh0_ = some ⟨.type "code", cddLh0_, .fields vsLh0_, cslLh0_⟩)
    (h0_vs : vsLh0_[11]? = some (.ref Pth0_))
    (h0_v11 : vsLh0_.getD 11 .none = .ref Pth0_)
    (h0_v18 : vsLh0_.getD 18 .none = .str lf18h0_ lt18h0_)
    (h0_v7 : vsLh0_.getD 7 .none = .int li7h0_ lt7h0_)
    (h0_v9 : vsLh0_.getD 9 .none = .bool lb9h0_)
    (h0_v10 : vsLh0_.getD 10 .none = .int li10h0_ lt10h0_)
    (h0_ne : cLh0_ ≠ Pth0_)
    (h0_no : K.lookup Pth0_ = none)
    (h0_nP : Pt ≠ Pth0_)
    (rBadCount_x : PySem.W.excIn K xBadCount [.type "ValueError", .type "Exception", .type "BaseException", .type "object"] "ValueError.__new__" = true)
    (rBadCount_k : PySem.W.keepIn K (.ref xBadCount) = true)
    (rBadCount_t : PySem.W.typeIn K (.ref xBadCount) = some (.type "type"))
    (rBadWord_x : PySem.W.excIn K xBadWord [.type "ValueError", .type "Exception", .type "BaseException", .type "object"] "ValueError.__new__" = true)
    (rBadWord_k : PySem.W.keepIn K (.ref xBadWord) = true)
    (rBadWord_t : PySem.W.typeIn K (.ref xBadWord) = some (.type "type"))
    (rBadSounds_x : PySem.W.excIn K xBadSounds [.type "ValueError", .type "Exception", .type "BaseException", .type "object"] "ValueError.__new__" = true)
    (rBadSounds_k : PySem.W.keepIn K (.ref xBadSounds) = true)
    (rBadSounds_t : PySem.W.typeIn K (.ref xBadSounds) = some (.type "type"))
    (rOtherLetters_x : PySem.W.excIn K xOtherLetters [.type "ValueError", .type "Exception", .type "BaseException", .type "object"] "ValueError.__new__" = true)
    (rOtherLetters_k : PySem.W.keepIn K (.ref xOtherLetters) = true)
    (rOtherLetters_t : PySem.W.typeIn K (.ref xOtherLetters) = some (.type "type"))
    (gSayer : PySem.W.nsIn K mainGlobals "Sayer" = some (some (.ref ySayer)))
    (C_pg : PySem.W.plainGet K ySayer Str.empty = true)
    (C_hd : PySem.W.hasDictIn K ySayer = true)
    (C_po : PySem.W.plainOver K ySayer = true)
    (C_sa : PySem.W.findIn K (.ref ySayer) "__setattr__" = some (some (.builtin "object.__setattr__")))
    (C_mk : PySem.W.makesIn K ySayer = true)
    (C_kc : PySem.W.keepIn K (.ref ySayer) = true)
    (C_n0 : PySem.W.findIn K (.ref ySayer) "_letters" = some none)
    (C_n1 : PySem.W.findIn K (.ref ySayer) "_rules" = some none)
    (C_n2 : PySem.W.findIn K (.ref ySayer) "_word" = some none)
    (C_n3 : PySem.W.findIn K (.ref ySayer) "_tail" = some none)
    (C_n4 : PySem.W.findIn K (.ref ySayer) "_past" = some none)
    (gDesk : PySem.W.nsIn K mainGlobals "Desk" = some (some (.ref yDesk)))
    (C2_pg : PySem.W.plainGet K yDesk Str.empty = true)
    (C2_hd : PySem.W.hasDictIn K yDesk = true)
    (C2_po : PySem.W.plainOver K yDesk = true)
    (C2_sa : PySem.W.findIn K (.ref yDesk) "__setattr__" = some (some (.builtin "object.__setattr__")))
    (C2_mk : PySem.W.makesIn K yDesk = true)
    (C2_kc : PySem.W.keepIn K (.ref yDesk) = true)
    (C2_n0 : PySem.W.findIn K (.ref yDesk) "_book" = some none)
    (C2_n1 : PySem.W.findIn K (.ref yDesk) "_told" = some none)
    (C2_n2 : PySem.W.findIn K (.ref yDesk) "_idle" = some none)
    : LamX.LawAtS l w K CX0 10 63 "_law_script" mg fa h := by
  have e := hfa.symm.trans (PySem.W.mg_of X G a_law)
  cases e
  have B : Bn mg := ⟨PySem.W.mg_none_of X G z_len, PySem.W.mg_none_of X G z_range, PySem.W.mg_none_of X G z_tuple, PySem.W.mg_none_of X G z_list, PySem.W.mg_none_of X G z_isinstance, PySem.W.mg_none_of X G z_str, PySem.W.mg_none_of X G z_all, PySem.W.mg_none_of X G z_enumerate, PySem.W.mg_none_of X G z_sorted, PySem.W.mg_none_of X G z_bool⟩
  have C : Cn mg := ⟨⟨_, PySem.W.mg_of X G c_small⟩, ⟨_, PySem.W.mg_of X G c_caps⟩, ⟨_, PySem.W.mg_of X G c_edge⟩, ⟨_, PySem.W.mg_of X G c_mrul⟩, ⟨_, PySem.W.mg_of X G c_lexc⟩, ⟨_, PySem.W.mg_of X G c_lrs⟩, ⟨_, PySem.W.mg_of X G c_lso⟩⟩
  have KI_MOST_EXCEPTIONS : KI mg "MOST_EXCEPTIONS" 8 := ⟨_, PySem.W.mg_of X G c_imost_exceptions⟩
  have KI_LONGEST_WORD : KI mg "LONGEST_WORD" 12 := ⟨_, PySem.W.mg_of X G c_ilongest_word⟩
  have KI_OWN : KI mg "OWN" 1 := ⟨_, PySem.W.mg_of X G c_iown⟩
  have KI_SOUNDS : KI mg "SOUNDS" 3 := ⟨_, PySem.W.mg_of X G c_isounds⟩
  have KI_SETTLING : KI mg "SETTLING" 4 := ⟨_, PySem.W.mg_of X G c_isettling⟩
  have KI_MOST_SAMPLES : KI mg "MOST_SAMPLES" 12 := ⟨_, PySem.W.mg_of X G c_imost_samples⟩
  have KI_LONG : KI mg "LONG" 5 := ⟨_, PySem.W.mg_of X G c_ilong⟩
  have KI_LONGEST_WRITING : KI mg "LONGEST_WRITING" 7 := ⟨_, PySem.W.mg_of X G c_ilongest_writing⟩
  have KI_LEADS : KI mg "LEADS" 2 := ⟨_, PySem.W.mg_of X G c_ileads⟩
  have KI_NO_BOOK : KI mg "NO_BOOK" (-1) := ⟨_, PySem.W.mg_of X G c_ino_book⟩
  have KI_LETTERS : KI mg "LETTERS" 0 := ⟨_, PySem.W.mg_of X G c_iletters⟩
  have KI_RULES : KI mg "RULES" 1 := ⟨_, PySem.W.mg_of X G c_irules⟩
  have KI_EXCEPTIONS : KI mg "EXCEPTIONS" 2 := ⟨_, PySem.W.mg_of X G c_iexceptions⟩
  have EC_BadBook : ExcC K xBadBook := ⟨BadBook_ga, BadBook_gg, BadBook_ex, BadBook_hd, BadBook_ha, x_hn, x_ht, BadBook_hm⟩
  have WC_BadBook : WordC K mg xBadBook 0 := { say := ⟨_, PySem.W.mg_of X G gSayError, PySem.W.exm_ref eS1 eS2 eS3 BadBook_e4⟩, book := ⟨_, PySem.W.mg_of X G gBadBook, BadBook_kBadBook⟩, word := ⟨_, PySem.W.mg_of X G gBadWord, BadBook_kBadWord⟩, snds := ⟨_, PySem.W.mg_of X G gBadSounds, BadBook_kBadSounds⟩, coun := ⟨_, PySem.W.mg_of X G gBadCount, BadBook_kBadCount⟩, uns := ⟨_, PySem.W.mg_of X G gUnsaid, BadBook_kUnsaid⟩, lett := ⟨_, PySem.W.mg_of X G gNoLetter, BadBook_kNoLetter⟩, exce := ⟨_, PySem.W.mg_of X G gNoException, BadBook_kNoException⟩, othe := ⟨_, PySem.W.mg_of X G gOtherLetters, BadBook_kOtherLetters⟩, samp := ⟨_, PySem.W.mg_of X G gBadSamples, BadBook_kBadSamples⟩, deed := ⟨_, PySem.W.mg_of X G gBadDeed, BadBook_kBadDeed⟩, halt := ⟨_, PySem.W.mg_of X G gHalted, BadBook_kHalted⟩, text := ⟨_, PySem.W.mg_of X G gBadText, BadBook_kBadText⟩, val := PySem.W.mg_none_of X G z_ValueError, kv := BadBook_kV, exc := EC_BadBook, xf := ⟨BadBook_ga, BadBook_gg, BadBook_ex, BadBook_hd⟩, noP := BadBook_noP, noN := BadBook_noN, noA := BadBook_noA, noD := BadBook_noD, noR := BadBook_noR }
  have EC_BadWord : ExcC K xBadWord := ⟨BadWord_ga, BadWord_gg, BadWord_ex, BadWord_hd, BadWord_ha, x_hn, x_ht, BadWord_hm⟩
  have WC_BadWord : WordC K mg xBadWord 1 := { say := ⟨_, PySem.W.mg_of X G gSayError, PySem.W.exm_ref eS1 eS2 eS3 BadWord_e4⟩, book := ⟨_, PySem.W.mg_of X G gBadBook, BadWord_kBadBook⟩, word := ⟨_, PySem.W.mg_of X G gBadWord, BadWord_kBadWord⟩, snds := ⟨_, PySem.W.mg_of X G gBadSounds, BadWord_kBadSounds⟩, coun := ⟨_, PySem.W.mg_of X G gBadCount, BadWord_kBadCount⟩, uns := ⟨_, PySem.W.mg_of X G gUnsaid, BadWord_kUnsaid⟩, lett := ⟨_, PySem.W.mg_of X G gNoLetter, BadWord_kNoLetter⟩, exce := ⟨_, PySem.W.mg_of X G gNoException, BadWord_kNoException⟩, othe := ⟨_, PySem.W.mg_of X G gOtherLetters, BadWord_kOtherLetters⟩, samp := ⟨_, PySem.W.mg_of X G gBadSamples, BadWord_kBadSamples⟩, deed := ⟨_, PySem.W.mg_of X G gBadDeed, BadWord_kBadDeed⟩, halt := ⟨_, PySem.W.mg_of X G gHalted, BadWord_kHalted⟩, text := ⟨_, PySem.W.mg_of X G gBadText, BadWord_kBadText⟩, val := PySem.W.mg_none_of X G z_ValueError, kv := BadWord_kV, exc := EC_BadWord, xf := ⟨BadWord_ga, BadWord_gg, BadWord_ex, BadWord_hd⟩, noP := BadWord_noP, noN := BadWord_noN, noA := BadWord_noA, noD := BadWord_noD, noR := BadWord_noR }
  have EC_BadSounds : ExcC K xBadSounds := ⟨BadSounds_ga, BadSounds_gg, BadSounds_ex, BadSounds_hd, BadSounds_ha, x_hn, x_ht, BadSounds_hm⟩
  have WC_BadSounds : WordC K mg xBadSounds 2 := { say := ⟨_, PySem.W.mg_of X G gSayError, PySem.W.exm_ref eS1 eS2 eS3 BadSounds_e4⟩, book := ⟨_, PySem.W.mg_of X G gBadBook, BadSounds_kBadBook⟩, word := ⟨_, PySem.W.mg_of X G gBadWord, BadSounds_kBadWord⟩, snds := ⟨_, PySem.W.mg_of X G gBadSounds, BadSounds_kBadSounds⟩, coun := ⟨_, PySem.W.mg_of X G gBadCount, BadSounds_kBadCount⟩, uns := ⟨_, PySem.W.mg_of X G gUnsaid, BadSounds_kUnsaid⟩, lett := ⟨_, PySem.W.mg_of X G gNoLetter, BadSounds_kNoLetter⟩, exce := ⟨_, PySem.W.mg_of X G gNoException, BadSounds_kNoException⟩, othe := ⟨_, PySem.W.mg_of X G gOtherLetters, BadSounds_kOtherLetters⟩, samp := ⟨_, PySem.W.mg_of X G gBadSamples, BadSounds_kBadSamples⟩, deed := ⟨_, PySem.W.mg_of X G gBadDeed, BadSounds_kBadDeed⟩, halt := ⟨_, PySem.W.mg_of X G gHalted, BadSounds_kHalted⟩, text := ⟨_, PySem.W.mg_of X G gBadText, BadSounds_kBadText⟩, val := PySem.W.mg_none_of X G z_ValueError, kv := BadSounds_kV, exc := EC_BadSounds, xf := ⟨BadSounds_ga, BadSounds_gg, BadSounds_ex, BadSounds_hd⟩, noP := BadSounds_noP, noN := BadSounds_noN, noA := BadSounds_noA, noD := BadSounds_noD, noR := BadSounds_noR }
  have EC_BadCount : ExcC K xBadCount := ⟨BadCount_ga, BadCount_gg, BadCount_ex, BadCount_hd, BadCount_ha, x_hn, x_ht, BadCount_hm⟩
  have WC_BadCount : WordC K mg xBadCount 3 := { say := ⟨_, PySem.W.mg_of X G gSayError, PySem.W.exm_ref eS1 eS2 eS3 BadCount_e4⟩, book := ⟨_, PySem.W.mg_of X G gBadBook, BadCount_kBadBook⟩, word := ⟨_, PySem.W.mg_of X G gBadWord, BadCount_kBadWord⟩, snds := ⟨_, PySem.W.mg_of X G gBadSounds, BadCount_kBadSounds⟩, coun := ⟨_, PySem.W.mg_of X G gBadCount, BadCount_kBadCount⟩, uns := ⟨_, PySem.W.mg_of X G gUnsaid, BadCount_kUnsaid⟩, lett := ⟨_, PySem.W.mg_of X G gNoLetter, BadCount_kNoLetter⟩, exce := ⟨_, PySem.W.mg_of X G gNoException, BadCount_kNoException⟩, othe := ⟨_, PySem.W.mg_of X G gOtherLetters, BadCount_kOtherLetters⟩, samp := ⟨_, PySem.W.mg_of X G gBadSamples, BadCount_kBadSamples⟩, deed := ⟨_, PySem.W.mg_of X G gBadDeed, BadCount_kBadDeed⟩, halt := ⟨_, PySem.W.mg_of X G gHalted, BadCount_kHalted⟩, text := ⟨_, PySem.W.mg_of X G gBadText, BadCount_kBadText⟩, val := PySem.W.mg_none_of X G z_ValueError, kv := BadCount_kV, exc := EC_BadCount, xf := ⟨BadCount_ga, BadCount_gg, BadCount_ex, BadCount_hd⟩, noP := BadCount_noP, noN := BadCount_noN, noA := BadCount_noA, noD := BadCount_noD, noR := BadCount_noR }
  have EC_OtherLetters : ExcC K xOtherLetters := ⟨OtherLetters_ga, OtherLetters_gg, OtherLetters_ex, OtherLetters_hd, OtherLetters_ha, x_hn, x_ht, OtherLetters_hm⟩
  have WC_OtherLetters : WordC K mg xOtherLetters 7 := { say := ⟨_, PySem.W.mg_of X G gSayError, PySem.W.exm_ref eS1 eS2 eS3 OtherLetters_e4⟩, book := ⟨_, PySem.W.mg_of X G gBadBook, OtherLetters_kBadBook⟩, word := ⟨_, PySem.W.mg_of X G gBadWord, OtherLetters_kBadWord⟩, snds := ⟨_, PySem.W.mg_of X G gBadSounds, OtherLetters_kBadSounds⟩, coun := ⟨_, PySem.W.mg_of X G gBadCount, OtherLetters_kBadCount⟩, uns := ⟨_, PySem.W.mg_of X G gUnsaid, OtherLetters_kUnsaid⟩, lett := ⟨_, PySem.W.mg_of X G gNoLetter, OtherLetters_kNoLetter⟩, exce := ⟨_, PySem.W.mg_of X G gNoException, OtherLetters_kNoException⟩, othe := ⟨_, PySem.W.mg_of X G gOtherLetters, OtherLetters_kOtherLetters⟩, samp := ⟨_, PySem.W.mg_of X G gBadSamples, OtherLetters_kBadSamples⟩, deed := ⟨_, PySem.W.mg_of X G gBadDeed, OtherLetters_kBadDeed⟩, halt := ⟨_, PySem.W.mg_of X G gHalted, OtherLetters_kHalted⟩, text := ⟨_, PySem.W.mg_of X G gBadText, OtherLetters_kBadText⟩, val := PySem.W.mg_none_of X G z_ValueError, kv := OtherLetters_kV, exc := EC_OtherLetters, xf := ⟨OtherLetters_ga, OtherLetters_gg, OtherLetters_ex, OtherLetters_hd⟩, noP := OtherLetters_noP, noN := OtherLetters_noN, noA := OtherLetters_noA, noD := OtherLetters_noD, noR := OtherLetters_noR }
  have EC_BadSamples : ExcC K xBadSamples := ⟨BadSamples_ga, BadSamples_gg, BadSamples_ex, BadSamples_hd, BadSamples_ha, x_hn, x_ht, BadSamples_hm⟩
  have WC_BadSamples : WordC K mg xBadSamples 8 := { say := ⟨_, PySem.W.mg_of X G gSayError, PySem.W.exm_ref eS1 eS2 eS3 BadSamples_e4⟩, book := ⟨_, PySem.W.mg_of X G gBadBook, BadSamples_kBadBook⟩, word := ⟨_, PySem.W.mg_of X G gBadWord, BadSamples_kBadWord⟩, snds := ⟨_, PySem.W.mg_of X G gBadSounds, BadSamples_kBadSounds⟩, coun := ⟨_, PySem.W.mg_of X G gBadCount, BadSamples_kBadCount⟩, uns := ⟨_, PySem.W.mg_of X G gUnsaid, BadSamples_kUnsaid⟩, lett := ⟨_, PySem.W.mg_of X G gNoLetter, BadSamples_kNoLetter⟩, exce := ⟨_, PySem.W.mg_of X G gNoException, BadSamples_kNoException⟩, othe := ⟨_, PySem.W.mg_of X G gOtherLetters, BadSamples_kOtherLetters⟩, samp := ⟨_, PySem.W.mg_of X G gBadSamples, BadSamples_kBadSamples⟩, deed := ⟨_, PySem.W.mg_of X G gBadDeed, BadSamples_kBadDeed⟩, halt := ⟨_, PySem.W.mg_of X G gHalted, BadSamples_kHalted⟩, text := ⟨_, PySem.W.mg_of X G gBadText, BadSamples_kBadText⟩, val := PySem.W.mg_none_of X G z_ValueError, kv := BadSamples_kV, exc := EC_BadSamples, xf := ⟨BadSamples_ga, BadSamples_gg, BadSamples_ex, BadSamples_hd⟩, noP := BadSamples_noP, noN := BadSamples_noN, noA := BadSamples_noA, noD := BadSamples_noD, noR := BadSamples_noR }
  have O_BadBook : PySem.XBadBook.ExTxt l.prog K mg xBadBook fIo0 := { gC := PySem.W.mg_of X G gBadBook, sB := PySem.W.mg_none_of X G z_super, cls := ⟨_, _, _, _, _, _, _, _, _, _, _, _, _, _, _, o0_x, rfl⟩, sa := o0_sa, noP0 := o0_no0, noP1 := o0_no1, iC := o0_iC, tC := o0_tC, kC := o0_kC, exC := o0_subE, tyC := o0_tyC, sup := o0_sup, subV := o0_subV, any := o0_any, main := o0_main, fn := ⟨_, _, _, _, _, _, _, _, _, o0_fn, o0_cd, ⟨_, _, _, o0_cell⟩, _, _, _, _, _, _, o0_code, o0_vs, o0_file⟩ }
  have O_BadSamples : PySem.XBadSamples.ExTxt l.prog K mg xBadSamples fIo1 := { gC := PySem.W.mg_of X G gBadSamples, sB := PySem.W.mg_none_of X G z_super, cls := ⟨_, _, _, _, _, _, _, _, _, _, _, _, _, _, _, o1_x, rfl⟩, sa := o1_sa, noP0 := o1_no0, iC := o1_iC, tC := o1_tC, kC := o1_kC, exC := o1_subE, tyC := o1_tyC, sup := o1_sup, subV := o1_subV, any := o1_any, main := o1_main, fn := ⟨_, _, _, _, _, _, _, _, _, o1_fn, o1_cd, ⟨_, _, _, o1_cell⟩, _, _, _, _, _, _, o1_code, o1_vs, o1_file⟩ }
  have R_BadCount : RaQ K mg "BadCount" xBadCount := ⟨rBadCount_x, PySem.W.mg_of X G gBadCount, rBadCount_k, BadCount_ex, rBadCount_t⟩
  have R_BadWord : RaQ K mg "BadWord" xBadWord := ⟨rBadWord_x, PySem.W.mg_of X G gBadWord, rBadWord_k, BadWord_ex, rBadWord_t⟩
  have R_BadSounds : RaQ K mg "BadSounds" xBadSounds := ⟨rBadSounds_x, PySem.W.mg_of X G gBadSounds, rBadSounds_k, BadSounds_ex, rBadSounds_t⟩
  have R_OtherLetters : RaQ K mg "OtherLetters" xOtherLetters := ⟨rOtherLetters_x, PySem.W.mg_of X G gOtherLetters, rOtherLetters_k, OtherLetters_ex, rOtherLetters_t⟩
  have hPt : h.get? Pt = some { cls := .none, data := .fields #[] } := OT cL Pt _ _ _ _ _ _ l_law rfl rfl l_code l_vs
  have mh0_ : mg "_law_bad_samples" = some (.ref f111) := PySem.W.mg_of X G h0_a
  have hPth0_ : h.get? Pth0_ = some { cls := .none, data := .fields #[] } := OT0 _ mh0_ cLh0_ Pth0_ _ _ _ _ _ _ h0_l rfl rfl h0_code h0_vs
  refine ⟨PySem.W.fnOf "law" "law" (defArgs sLaw) (defBody sLaw) (defScope sLaw) .none kVL dcL pmL anL (.ref cL) ctL, [(cL, Pt), (cLh0_, Pth0_)], spLawT2 K Pt Pth0_, fun p hp => ?_, fun p hp => ?_, fun p hp => ?_, fun s v => .of_eq rfl, fun H a ns hl _ hH hS => ?_, fun base _ _ TB => ?_⟩
  · skip
    rcases List.mem_cons.mp hp with rfl | hp
    · exact hPt
    rw [List.mem_singleton.mp hp]
    exact hPth0_
  · skip
    rcases List.mem_cons.mp hp with rfl | hp
    · exact l_no
    rw [List.mem_singleton.mp hp]
    exact h0_no
  · skip
    rcases List.mem_cons.mp hp with rfl | hp
    · exact ⟨_, _, _, _, _, _, _, _, _, X _ _ l_code, rfl, rfl, l_vs, l_v11, l_v18, l_v7, l_v9, l_v10, l_ne⟩
    rw [List.mem_singleton.mp hp]
    exact ⟨_, _, _, _, _, _, _, _, _, X _ _ h0_code, rfl, rfl, h0_vs, h0_v11, h0_v18, h0_v7, h0_v9, h0_v10, h0_ne⟩
  · exact ⟨a, ns, rfl, hS, hl, hH _ (List.mem_cons_self ..), hH _ (List.mem_cons_of_mem _ (List.mem_cons_self ..)), fun _ => rfl⟩
  have TBh0_ := TB _ (List.mem_cons_of_mem _ (List.mem_cons_self ..))
  have Fh0_ := fun_mk h0_l h0_c h0_k
  have bh0_ := Fh0_.binds (ps := ["_law_row_here", "_law_book_here"]) fun _ _ _ _ _ _ us hl => match us, hl with | [_, _], _ => rfl
  have TBl := TB _ (List.mem_cons_self ..)
  obtain ⟨d42, F42, _⟩ := S42.fn
  have m42 := PySem.W.mg_of X G S42.ns
  have b42 := F42.binds (ps := ["text", "signs", "least", "most"]) fun _ _ _ _ _ _ us hl => match us, hl with | [_, _, _, _], _ => rfl
  have D_is_text : Df l.prog w K mg base "is_text" ["text", "signs", "least", "most"] 1 spIsText := ⟨_, _, ok_isText F42 B, F42.kp, b42, m42⟩
  obtain ⟨d43, F43, _⟩ := S43.fn
  have m43 := PySem.W.mg_of X G S43.ns
  have b43 := F43.binds (ps := ["text"]) fun _ _ _ _ _ _ us hl => match us, hl with | [_], _ => rfl
  have D_is_rising : Df l.prog w K mg base "is_rising" ["text"] 1 spRise := ⟨_, _, ok_rise F43 B, F43.kp, b43, m43⟩
  obtain ⟨d38, F38, _⟩ := S38.fn
  have m38 := PySem.W.mg_of X G S38.ns
  have b38 := F38.binds (ps := ["letters", "signs"]) fun _ _ _ _ _ _ us hl => match us, hl with | [_, _], _ => rfl
  have D_is_beside : Df l.prog w K mg base "is_beside" ["letters", "signs"] 2 spBeside := ⟨_, _, ok_beside F38 B C D_is_text D_is_rising, F38.kp, b38, m38⟩
  obtain ⟨d37, F37, _⟩ := S37.fn
  have m37 := PySem.W.mg_of X G S37.ns
  have b37 := F37.binds (ps := ["letters", "rule"]) fun _ _ _ _ _ _ us hl => match us, hl with | [_, _], _ => rfl
  have D_is_rule : Df l.prog w K mg base "is_rule" ["letters", "rule"] 3 spIsRule := ⟨_, _, ok_isRule F37 B C D_is_text D_is_beside, F37.kp, b37, m37⟩
  obtain ⟨d40, F40, _⟩ := S40.fn
  have m40 := PySem.W.mg_of X G S40.ns
  have b40 := F40.binds (ps := ["letters", "word"]) fun _ _ _ _ _ _ us hl => match us, hl with | [_, _], _ => rfl
  have D_is_excepted : Df l.prog w K mg base "is_excepted" ["letters", "word"] 2 spExcd := ⟨_, _, ok_excd F40 C D_is_text, F40.kp, b40, m40⟩
  obtain ⟨d41, F41, _⟩ := S41.fn
  have m41 := PySem.W.mg_of X G S41.ns
  have b41 := F41.binds (ps := ["sounds"]) fun _ _ _ _ _ _ us hl => match us, hl with | [_], _ => rfl
  have D_is_sounds : Df l.prog w K mg base "is_sounds" ["sounds"] 2 spIsSo := ⟨_, _, ok_isSo F41 C D_is_text, F41.kp, b41, m41⟩
  obtain ⟨d39, F39, _⟩ := S39.fn
  have m39 := PySem.W.mg_of X G S39.ns
  have b39 := F39.binds (ps := ["letters", "pair"]) fun _ _ _ _ _ _ us hl => match us, hl with | [_, _], _ => rfl
  have D_is_exception : Df l.prog w K mg base "is_exception" ["letters", "pair"] 3 spIsExc := ⟨_, _, ok_isExc F39 B D_is_excepted D_is_sounds, F39.kp, b39, m39⟩
  obtain ⟨d31, F31, _⟩ := S31.fn
  have m31 := PySem.W.mg_of X G S31.ns
  have b31 := F31.binds (ps := ["letters"]) fun _ _ _ _ _ _ us hl => match us, hl with | [_], _ => rfl
  have D_check_letters : Df l.prog w K mg base "check_letters" ["letters"] 2 spChL := ⟨_, _, ok_chL F31 C D_is_text D_is_rising, F31.kp, b31, m31⟩
  obtain ⟨d34, F34, _⟩ := S34.fn
  have m34 := PySem.W.mg_of X G S34.ns
  have b34 := F34.binds (ps := ["letters", "word"]) fun _ _ _ _ _ _ us hl => match us, hl with | [_, _], _ => rfl
  have G_check_word := ok_cwV (P := l.prog) (w := w) (base := base) F34 KI_LONGEST_WORD R_BadWord ⟨_, _, ok_txV F42 B, F42.kp, b42, m42⟩
  obtain ⟨d32, F32, _⟩ := S32.fn
  have m32 := PySem.W.mg_of X G S32.ns
  have b32 := F32.binds (ps := ["letters", "rules"]) fun _ _ _ _ _ _ us hl => match us, hl with | [_, _], _ => rfl
  have D_check_rules : Df l.prog w K mg base "check_rules" ["letters", "rules"] 4 spChR := ⟨_, _, ok_chR F32 B C D_is_rule, F32.kp, b32, m32⟩
  obtain ⟨d33, F33, _⟩ := S33.fn
  have m33 := PySem.W.mg_of X G S33.ns
  have b33 := F33.binds (ps := ["letters", "exceptions"]) fun _ _ _ _ _ _ us hl => match us, hl with | [_, _], _ => rfl
  have D_check_exceptions : Df l.prog w K mg base "check_exceptions" ["letters", "exceptions"] 4 spChE := ⟨_, _, ok_chE F33 B KI_MOST_EXCEPTIONS D_is_exception, F33.kp, b33, m33⟩
  obtain ⟨d30, F30, _⟩ := S30.fn
  have m30 := PySem.W.mg_of X G S30.ns
  have b30 := F30.binds (ps := ["book"]) fun _ _ _ _ _ _ us hl => match us, hl with | [_], _ => rfl
  have D_checked_book : Df l.prog w K mg base "checked_book" ["book"] 5 spCh := ⟨_, _, ok_ch F30 B D_check_letters D_check_rules D_check_exceptions, F30.kp, b30, m30⟩
  obtain ⟨d36, F36, _⟩ := S36.fn
  have m36 := PySem.W.mg_of X G S36.ns
  have b36 := F36.binds (ps := ["sounds"]) fun _ _ _ _ _ _ us hl => match us, hl with | [_], _ => rfl
  have D_check_sounds : Df l.prog w K mg base "check_sounds" ["sounds"] 3 spCSo := ⟨_, _, ok_cSo F36 D_is_sounds, F36.kp, b36, m36⟩
  obtain ⟨d44, F44, _⟩ := S44.fn
  have m44 := PySem.W.mg_of X G S44.ns
  have b44 := F44.binds (ps := ["number", "most"]) fun _ _ _ _ _ _ us hl => match us, hl with | [_, _], _ => rfl
  have D_is_count : Df l.prog w K mg base "is_count" ["number", "most"] 1 spCnt := ⟨_, _, ok_cnt F44 B (PySem.W.mg_none_of X G z_int), F44.kp, b44, m44⟩
  obtain ⟨d49, F49, _⟩ := S49.fn
  have m49 := PySem.W.mg_of X G S49.ns
  have b49 := F49.binds (ps := ["rule", "signs", "at"]) fun _ _ _ _ _ _ us hl => match us, hl with | [_, _, _], _ => rfl
  have D_fits : Df l.prog w K mg base "fits" ["rule", "signs", "at"] 1 spFits := ⟨_, _, ok_fits F49 B, F49.kp, b49, m49⟩
  obtain ⟨d50, F50, _⟩ := S50.fn
  have m50 := PySem.W.mg_of X G S50.ns
  have b50 := F50.binds (ps := ["rules", "signs", "at"]) fun _ _ _ _ _ _ us hl => match us, hl with | [_, _, _], _ => rfl
  have D_first_fit : Df l.prog w K mg base "first_fit" ["rules", "signs", "at"] 2 spFF := ⟨_, _, ok_FF F50 B D_fits, F50.kp, b50, m50⟩
  obtain ⟨d51, F51, _⟩ := S51.fn
  have m51 := PySem.W.mg_of X G S51.ns
  have b51 := F51.binds (ps := ["rules", "tail"]) fun _ _ _ _ _ _ us hl => match us, hl with | [_, _], _ => rfl
  have D_steps_of : Df l.prog w K mg base "steps_of" ["rules", "tail"] 3 spSt := ⟨_, _, ok_St F51 B C KI_OWN D_first_fit, F51.kp, b51, m51⟩
  obtain ⟨d52, F52, _⟩ := S52.fn
  have m52 := PySem.W.mg_of X G S52.ns
  have b52 := F52.binds (ps := ["rules", "tail", "letter"]) fun _ _ _ _ _ _ us hl => match us, hl with | [_, _, _], _ => rfl
  have D_taken : Df l.prog w K mg base "taken" ["rules", "tail", "letter"] 3 spTk := ⟨_, _, ok_tk F52 B KI_OWN KI_SETTLING D_first_fit, F52.kp, b52, m52⟩
  obtain ⟨d56, F56, _⟩ := S56.fn
  have m56 := PySem.W.mg_of X G S56.ns
  have b56 := F56.binds (ps := ["steps"]) fun _ _ _ _ _ _ us hl => match us, hl with | [_], _ => rfl
  have D_numbers_of : Df l.prog w K mg base "numbers_of" ["steps"] 1 spNum := ⟨_, _, ok_num F56, F56.kp, b56, m56⟩
  obtain ⟨d57, F57, _⟩ := S57.fn
  have m57 := PySem.W.mg_of X G S57.ns
  have b57 := F57.binds (ps := ["rules", "numbers"]) fun _ _ _ _ _ _ us hl => match us, hl with | [_, _], _ => rfl
  have D_sounds_of : Df l.prog w K mg base "sounds_of" ["rules", "numbers"] 1 spSou := ⟨_, _, ok_sou F57 KI_SOUNDS, F57.kp, b57, m57⟩
  obtain ⟨d53, F53, _⟩ := S53.fn
  have m53 := PySem.W.mg_of X G S53.ns
  have b53 := F53.binds (ps := ["rules", "tail"]) fun _ _ _ _ _ _ us hl => match us, hl with | [_, _], _ => rfl
  have D_ending : Df l.prog w K mg base "ending" ["rules", "tail"] 4 spEnd := ⟨_, _, ok_end F53 D_steps_of D_numbers_of, F53.kp, b53, m53⟩
  obtain ⟨d54, F54, _⟩ := S54.fn
  have m54 := PySem.W.mg_of X G S54.ns
  have b54 := F54.binds (ps := ["rules", "tail"]) fun _ _ _ _ _ _ us hl => match us, hl with | [_, _], _ => rfl
  have D_ending_sounds : Df l.prog w K mg base "ending_sounds" ["rules", "tail"] 5 spEnS := ⟨_, _, ok_enS F54 D_ending D_sounds_of, F54.kp, b54, m54⟩
  obtain ⟨d55, F55, _⟩ := S55.fn
  have m55 := PySem.W.mg_of X G S55.ns
  have b55 := F55.binds (ps := ["rules", "word"]) fun _ _ _ _ _ _ us hl => match us, hl with | [_, _], _ => rfl
  have D_word_sounds : Df l.prog w K mg base "word_sounds" ["rules", "word"] 6 spWS := ⟨_, _, ok_WS F55 C D_ending_sounds, F55.kp, b55, m55⟩
  obtain ⟨d60, F60, _⟩ := S60.fn
  have m60 := PySem.W.mg_of X G S60.ns
  have b60 := F60.binds (ps := ["book", "word"]) fun _ _ _ _ _ _ us hl => match us, hl with | [_, _], _ => rfl
  have G_said := wx_said (P := l.prog) (w := w) (base := base) F60 D_checked_book G_check_word F34.kp b34 m34
  obtain ⟨d59, F59, _⟩ := S59.fn
  have m59 := PySem.W.mg_of X G S59.ns
  have b59 := F59.binds (ps := ["book", "word"]) fun _ _ _ _ _ _ us hl => match us, hl with | [_, _], _ => rfl
  have G_walk := wx_walk (P := l.prog) (w := w) (base := base) F59 D_checked_book G_check_word F34.kp b34 m34
  obtain ⟨d67, F67, _⟩ := S67.fn
  have m67 := PySem.W.mg_of X G S67.ns
  have b67 := F67.binds (ps := ["letters", "rules", "beginning", "sounds"]) fun _ _ _ _ _ _ us hl => match us, hl with | [_, _, _, _], _ => rfl
  have D_longer_beginnings : Df l.prog w K mg base "longer_beginnings" ["letters", "rules", "beginning", "sounds"] 4 spLB := ⟨_, _, ok_LB F67 D_taken D_sounds_of, F67.kp, b67, m67⟩
  obtain ⟨d66, F66, _⟩ := S66.fn
  have m66 := PySem.W.mg_of X G S66.ns
  have b66 := F66.binds (ps := ["letters", "rules", "sounds", "long"]) fun _ _ _ _ _ _ us hl => match us, hl with | [_, _, _, _], _ => rfl
  have D_ruled_writings : Df l.prog w K mg base "ruled_writings" ["letters", "rules", "sounds", "long"] 6 spRW := ⟨_, _, ok_RW F66 B C D_ending_sounds D_longer_beginnings, F66.kp, b66, m66⟩
  obtain ⟨d65, F65⟩ := S65.fn
  have m65 := PySem.W.mg_of X G S65.ns
  have G_writings := ok_wr (P := l.prog) (w := w) (base := base) F65 B (PySem.W.mg_none_of X G z_dict) KI_LONGEST_WRITING D_checked_book D_check_sounds D_is_count D_ruled_writings
  obtain ⟨d79, F79, _⟩ := S79.fn
  have m79 := PySem.W.mg_of X G S79.ns
  obtain ⟨d80, F80, _⟩ := S80.fn
  have m80 := PySem.W.mg_of X G S80.ns
  have b80 := F80.binds (ps := ["book", "number"]) fun _ _ _ _ _ _ us hl => match us, hl with | [_, _], _ => rfl
  have G_use := wx_use (P := l.prog) (w := w) (base := base) F80 B D_checked_book ⟨_, _, ok_cnV F44 B (PySem.W.mg_none_of X G z_int), F44.kp, b44, m44⟩ R_BadCount
  obtain ⟨d97, F97, _⟩ := S97.fn
  have m97 := PySem.W.mg_of X G S97.ns
  have b97 := F97.binds (ps := ["rules", "sample"]) fun _ _ _ _ _ _ us hl => match us, hl with | [_, _], _ => rfl
  have D_is_said : Df l.prog w K mg base "is_said" ["rules", "sample"] 7 spIsSaid := ⟨_, _, ok_isSaid F97 D_word_sounds, F97.kp, b97, m97⟩
  obtain ⟨d95, F95, _⟩ := S95.fn
  have m95 := PySem.W.mg_of X G S95.ns
  have b95 := F95.binds (ps := ["letters", "samples"]) fun _ _ _ _ _ _ us hl => match us, hl with | [_, _], _ => rfl
  have D_check_samples : Df l.prog w K mg base "check_samples" ["letters", "samples"] 4 spChS := ⟨_, _, ok_chS F95 B KI_MOST_SAMPLES D_is_exception, F95.kp, b95, m95⟩
  obtain ⟨d94, F94, _⟩ := S94.fn
  have m94 := PySem.W.mg_of X G S94.ns
  have b94 := F94.binds (ps := ["letters", "rules", "samples"]) fun _ _ _ _ _ _ us hl => match us, hl with | [_, _, _], _ => rfl
  have D_check_all : Df l.prog w K mg base "check_all" ["letters", "rules", "samples"] 5 spChA := ⟨_, _, ok_chA F94 D_check_letters D_check_rules D_check_samples, F94.kp, b94, m94⟩
  obtain ⟨d92, F92, _⟩ := S92.fn
  have m92 := PySem.W.mg_of X G S92.ns
  obtain ⟨d93, F93, _⟩ := S93.fn
  have m93 := PySem.W.mg_of X G S93.ns
  have b93 := F93.binds (ps := ["letters", "rules", "samples"]) fun _ _ _ _ _ _ us hl => match us, hl with | [_, _, _], _ => rfl
  have D_blamed : Df l.prog w K mg base "blamed" ["letters", "rules", "samples"] 8 spBl := ⟨_, _, ok_bl F93 B D_check_all D_is_said, F93.kp, b93, m93⟩
  obtain ⟨d101, F101, _⟩ := S101.fn
  have m101 := PySem.W.mg_of X G S101.ns
  have b101 := F101.binds (ps := ["_law_script"]) fun _ _ _ _ _ _ us hl => match us, hl with | [_], _ => rfl
  have D__law_row : Df l.prog w K mg base "_law_row" ["_law_script"] 1 (spRow K) := ⟨_, _, ok_row F101, F101.kp, b101, m101⟩
  obtain ⟨d102, F102, _⟩ := S102.fn
  have m102 := PySem.W.mg_of X G S102.ns
  have b102 := F102.binds (ps := ["_law_row_here", "_law_many"]) fun _ _ _ _ _ _ us hl => match us, hl with | [_, _], _ => rfl
  have D__law_taken : Df l.prog w K mg base "_law_taken" ["_law_row_here", "_law_many"] 1 (spTaken K) := ⟨_, _, ok_taken F102 B.len, F102.kp, b102, m102⟩
  obtain ⟨d103, F103, _⟩ := S103.fn
  have m103 := PySem.W.mg_of X G S103.ns
  have b103 := F103.binds (ps := ["_law_row_here"]) fun _ _ _ _ _ _ us hl => match us, hl with | [_], _ => rfl
  have D__law_letters : Df l.prog w K mg base "_law_letters" ["_law_row_here"] 2 (spLetters K) := ⟨_, _, ok_letters F103 D__law_taken, F103.kp, b103, m103⟩
  obtain ⟨d104, F104, _⟩ := S104.fn
  have m104 := PySem.W.mg_of X G S104.ns
  have b104 := F104.binds (ps := ["_law_row_here", "_law_letters_here"]) fun _ _ _ _ _ _ us hl => match us, hl with | [_, _], _ => rfl
  have D__law_side : Df l.prog w K mg base "_law_side" ["_law_row_here", "_law_letters_here"] 2 (spSide K) := ⟨_, _, ok_side F104 D__law_taken, F104.kp, b104, m104⟩
  obtain ⟨d105, F105, _⟩ := S105.fn
  have m105 := PySem.W.mg_of X G S105.ns
  have b105 := F105.binds (ps := ["_law_row_here", "_law_signs", "_law_fewest", "_law_many"]) fun _ _ _ _ _ _ us hl => match us, hl with | [_, _, _, _], _ => rfl
  have D__law_text : Df l.prog w K mg base "_law_text" ["_law_row_here", "_law_signs", "_law_fewest", "_law_many"] 2 (spText K) := ⟨_, _, ok_text F105 D__law_taken B.len B.rng, F105.kp, b105, m105⟩
  obtain ⟨d106, F106, _⟩ := S106.fn
  have m106 := PySem.W.mg_of X G S106.ns
  have b106 := F106.binds (ps := ["_law_row_here", "_law_letters_here"]) fun _ _ _ _ _ _ us hl => match us, hl with | [_, _], _ => rfl
  have D__law_rule : Df l.prog w K mg base "_law_rule" ["_law_row_here", "_law_letters_here"] 3 (spRule K) := ⟨_, _, ok_rule F106 D__law_taken D__law_side D__law_text, F106.kp, b106, m106⟩
  obtain ⟨d107, F107, _⟩ := S107.fn
  have m107 := PySem.W.mg_of X G S107.ns
  have b107 := F107.binds (ps := ["_law_row_here", "_law_letters_here", "_law_most"]) fun _ _ _ _ _ _ us hl => match us, hl with | [_, _, _], _ => rfl
  have D__law_rules : Df l.prog w K mg base "_law_rules" ["_law_row_here", "_law_letters_here", "_law_most"] 4 (spRules K) := ⟨_, _, ok_rules F107 D__law_taken D__law_rule B.rng B.tup, F107.kp, b107, m107⟩
  obtain ⟨d108, F108, _⟩ := S108.fn
  have m108 := PySem.W.mg_of X G S108.ns
  have b108 := F108.binds (ps := ["_law_row_here", "_law_letters_here", "_law_most"]) fun _ _ _ _ _ _ us hl => match us, hl with | [_, _, _], _ => rfl
  have D__law_exceptions : Df l.prog w K mg base "_law_exceptions" ["_law_row_here", "_law_letters_here", "_law_most"] 3 (spLEx K) := ⟨_, _, ok_LEx F108 B D__law_taken D__law_text, F108.kp, b108, m108⟩
  obtain ⟨d109, F109, _⟩ := S109.fn
  have m109 := PySem.W.mg_of X G S109.ns
  have b109 := F109.binds (ps := ["_law_row_here"]) fun _ _ _ _ _ _ us hl => match us, hl with | [_], _ => rfl
  have D__law_book : Df l.prog w K mg base "_law_book" ["_law_row_here"] 5 (spLBL K) := ⟨_, _, ok_LBL F109 D__law_letters D__law_rules D__law_exceptions, F109.kp, b109, m109⟩
  obtain ⟨d110, F110, _⟩ := S110.fn
  have m110 := PySem.W.mg_of X G S110.ns
  have S : SyC K ySayer := ⟨⟨C_pg, C_hd, C_po, C_sa⟩, C_n0, C_n1, C_n2, C_n3, C_n4⟩
  obtain ⟨dBg, FBg, _⟩ := MBg.fn
  have mBg := MBg.me
  have bBg := FBg.binds (ps := ["self"]) fun _ _ _ _ _ _ us hl => match us, hl with | [_], _ => rfl
  have GBg := ok_begin (P := l.prog) (w := w) (base := base) (k := 0) FBg S C
  obtain ⟨dFe, FFe, _⟩ := MFe.fn
  have mFe := MFe.me
  have bFe := FFe.binds (ps := ["self", "letter"]) fun _ _ _ _ _ _ us hl => match us, hl with | [_, _], _ => rfl
  have GFe := wx_feed (P := l.prog) (w := w) (base := base)  FFe S B R_BadWord ⟨_, _, ok_txV F42 B, F42.kp, b42, m42⟩ KI_LONGEST_WORD
  obtain ⟨dSyI, FSyI, _⟩ := MSyI.fn
  have mSyI := MSyI.me
  have bSyI := FSyI.binds (ps := ["self", "book"]) fun _ _ _ _ _ _ us hl => match us, hl with | [_, _], _ => rfl
  have GSyI := ok_initS FSyI S GBg mBg bBg D_checked_book
  have Mk_ : Mk K ySayer gSyI := ⟨C_mk, mSyI.at_, mSyI.fn, C_kc⟩
  have S2 : DkC K yDesk := ⟨⟨C2_pg, C2_hd, C2_po, C2_sa⟩, C2_n0, C2_n1, C2_n2⟩
  obtain ⟨dDkI, FDkI, _⟩ := MDkI.fn
  have mDkI := MDkI.me
  have bDkI := FDkI.binds (ps := ["self", "book"]) fun _ _ _ _ _ _ us hl => match us, hl with | [_, _], _ => rfl
  have GDkI := ok_dIn FDkI S2 D_checked_book
  obtain ⟨dSa, FSa, _⟩ := MSa.fn
  have mSa := MSa.me
  have bSa := FSa.binds (ps := ["self", "word"]) fun _ _ _ _ _ _ us hl => match us, hl with | [_, _], _ => rfl
  have GSa := wx_dsay (P := l.prog) (w := w) (base := base)  FSa S2 G_said F60.kp b60 m60
  have Mk2_ : Mk K yDesk gDkI := ⟨C2_mk, mDkI.at_, mDkI.fn, C2_kc⟩
  have b79 := F79.binds (ps := ["one", "other"]) fun _ _ _ _ _ _ us hl => match us, hl with | [_, _], _ => rfl
  have b92 := F92.binds (ps := ["letters", "rules", "samples"]) fun _ _ _ _ _ _ us hl => match us, hl with | [_, _, _], _ => rfl
  have GX_cs := ok_cs (P := l.prog) (w := w) (base := base) F36 R_BadSounds ⟨_, _, ok_soV F41 C ⟨_, _, ok_txV F42 B, F42.kp, b42, m42⟩, F41.kp, b41, m41⟩
  have GX_wr := wx_wr F65 KI_LONGEST_WRITING D_checked_book ⟨_, _, ok_cnV F44 B (PySem.W.mg_none_of X G z_int), F44.kp, b44, m44⟩ GX_cs F36.kp b36 m36 R_BadCount
  have G7 := ok_chLV (w := w) (base := base) F31 C KI_LETTERS O_BadBook ⟨_, _, ok_txV F42 B, F42.kp, b42, m42⟩ D_is_rising
  have G8 := ok_chRV (w := w) (base := base) F32 B C KI_RULES O_BadBook ⟨_, _, ok_isRuV F37 B C ⟨_, _, ok_txV F42 B, F42.kp, b42, m42⟩ ⟨_, _, ok_besV F38 B C ⟨_, _, ok_txV F42 B, F42.kp, b42, m42⟩ D_is_rising, F38.kp, b38, m38⟩, F37.kp, b37, m37⟩
  have G9 := ok_chEV (w := w) (base := base) F33 B KI_MOST_EXCEPTIONS KI_EXCEPTIONS O_BadBook ⟨_, _, ok_isExV F39 B ⟨_, _, ok_exdV F40 C ⟨_, _, ok_txV F42 B, F42.kp, b42, m42⟩, F40.kp, b40, m40⟩ ⟨_, _, ok_soV F41 C ⟨_, _, ok_txV F42 B, F42.kp, b42, m42⟩, F41.kp, b41, m41⟩, F39.kp, b39, m39⟩
  have G10 := ok_chV (w := w) (base := base) F30 B KI_NO_BOOK O_BadBook G7 F31.kp b31 m31 G8 F32.kp b32 m32 G9 F33.kp b33 m33
  have GX_pt := wx_parted F79 G10 F30.kp b30 m30 R_OtherLetters
  have GX_sm := wx_sm (w := w) (base := base) F95 B KI_MOST_SAMPLES O_BadSamples ⟨_, _, ok_isExV F39 B ⟨_, _, ok_exdV F40 C ⟨_, _, ok_txV F42 B, F42.kp, b42, m42⟩, F40.kp, b40, m40⟩ ⟨_, _, ok_soV F41 C ⟨_, _, ok_txV F42 B, F42.kp, b42, m42⟩, F41.kp, b41, m41⟩, F39.kp, b39, m39⟩
  have GX_all := wx_all F94 D_check_letters D_check_rules GX_sm F95.kp b95 m95
  have GX_le := wx_least F92 GX_all F94.kp b94 m94
  have GX_bl := wx_blamed F93 GX_all F94.kp b94 m94
  have GBlG := ok_bl (P := l.prog) (w := w) (base := base) F93 B D_check_all D_is_said
  have D_bs : Df l.prog w K mg base "_law_bad_samples" ["_law_row_here", "_law_book_here"] 9 (spBs K (Ts4 Pt Pth0_)) := ⟨_, _, ok_Bs h0_l h0_c TBh0_ h0_nP B WC_BadSamples F110 m110 GX_le F92.kp b92 m92 GX_bl F93.kp b93 m93 GBlG F65 G_writings m65 D__law_taken D__law_text, Fh0_.kp, bh0_, mh0_⟩
  exact ok_law l_law c_law TBl h0_nP B (PySem.W.mg_none_of X G z_int) KI_LONG WC_BadBook WC_BadWord WC_BadSounds WC_BadCount WC_OtherLetters F110 m110 G_walk F59.kp b59 m59 G_said F60.kp b60 m60 G_use F80.kp b80 m80 GX_pt F79.kp b79 m79 F65 GX_wr m65 S2 (PySem.W.mg_of X G gDesk) Mk2_ GDkI bDkI GSa mSa bSa S (PySem.W.mg_of X G gSayer) Mk_ GSyI bSyI GFe mFe bFe D_bs D__law_row D__law_taken D__law_book
end Say
open PySem PySem.W PyProof.Rows
local macro_rules
  | `(tactic| o_head $H) => `(tactic|
      refine holds_open (q := Say.qv) (loose := Say.lo) (N := 30000) (Yf := Hook.obs (kmHook Say.early.heap_39 Say.asL Say.ekL [903, 908])) (Ya := Hook.val (kmHook Say.early.heap_39 Say.asL Say.ekL [903, 908])) (YP := Hook.says (kmHook Say.early.heap_39 Say.asL Say.ekL [903, 908]))
        (Xt := Say.xt) (XP := XL Say.qv [])
        Say.leftT (Hook.of (kmHook Say.early.heap_39 Say.asL Say.ekL [903, 908])) (Hook.keeps (kmHook Say.early.heap_39 Say.asL Say.ekL [903, 908])) (fun s e => xl_of s (Bool.and_eq_true_iff.mp e).1) XL.keeps (by rfl) (by rfl) (by rfl)
        (fun s e => recFacts_of (Bool.and_eq_true_iff.mp e).2) (by rfl) (by first | assumption | decide +kernel) (by decide +kernel) ⟨rfl, rfl, rfl, rfl, rfl, by decide +kernel⟩ ?_ ?_)
set_option maxRecDepth 100000 in
set_option maxHeartbeats 0 in
theorem PySem.Challenge.cw_saylore_k04_words_counts_sounds_refused_holds : PySem.Challenge.rw_saylore_k04_words_counts_sounds_refused.Holds := by
  w_on; o_law; k_head
  · w_witness2
  k_fill
  refine LamX.walk_ofOwns (l := PySem.Challenge.rw_saylore_k04_words_counts_sounds_refused) (n := 63) (k := 10) (x := "_law_script") (CX := fun _ => L2.CX0) rfl (by decide) rfl ⟨rfl, by decide, by decide⟩ (fun w h Y => PySem.W.km_in_of Y) ?F (fun _ _ _ _ _ h => h)
  case F =>
    intro w mg fa h KY KX G hmg OT
    refine' Say.all_ok KX G hmg (OT "law" _ (by decide +kernel) hmg) (fun g hg => OT "_law_bad_samples" g (by decide +kernel) hg) (Say.std_mk ?a42 ?l42 ?c42 ?k42) (Say.std_mk ?a43 ?l43 ?c43 ?k43) (Say.std_mk ?a38 ?l38 ?c38 ?k38) (Say.std_mk ?a37 ?l37 ?c37 ?k37) (Say.std_mk ?a40 ?l40 ?c40 ?k40) (Say.std_mk ?a41 ?l41 ?c41 ?k41) (Say.std_mk ?a39 ?l39 ?c39 ?k39) (Say.std_mk ?a31 ?l31 ?c31 ?k31) (Say.std_mk ?a34 ?l34 ?c34 ?k34) (Say.std_mk ?a32 ?l32 ?c32 ?k32) (Say.std_mk ?a33 ?l33 ?c33 ?k33) (Say.std_mk ?a30 ?l30 ?c30 ?k30) (Say.std_mk ?a36 ?l36 ?c36 ?k36) (Say.std_mk ?a44 ?l44 ?c44 ?k44) (Say.std_mk ?a49 ?l49 ?c49 ?k49) (Say.std_mk ?a50 ?l50 ?c50 ?k50) (Say.std_mk ?a51 ?l51 ?c51 ?k51) (Say.std_mk ?a52 ?l52 ?c52 ?k52) (Say.std_mk ?a56 ?l56 ?c56 ?k56) (Say.std_mk ?a57 ?l57 ?c57 ?k57) (Say.std_mk ?a53 ?l53 ?c53 ?k53) (Say.std_mk ?a54 ?l54 ?c54 ?k54) (Say.std_mk ?a55 ?l55 ?c55 ?k55) (Say.std_mk ?a60 ?l60 ?c60 ?k60) (Say.std_mk ?a59 ?l59 ?c59 ?k59) (Say.std_mk ?a67 ?l67 ?c67 ?k67) (Say.std_mk ?a66 ?l66 ?c66 ?k66) (Say.stdD_mk ?a65 ?l65 ?c65 ?k65 ?d65) (Say.std_mk ?a79 ?l79 ?c79 ?k79) (Say.std_mk ?a80 ?l80 ?c80 ?k80) (Say.std_mk ?a97 ?l97 ?c97 ?k97) (Say.std_mk ?a95 ?l95 ?c95 ?k95) (Say.std_mk ?a94 ?l94 ?c94 ?k94) (Say.std_mk ?a92 ?l92 ?c92 ?k92) (Say.std_mk ?a93 ?l93 ?c93 ?k93) (Say.std_mk ?a101 ?l101 ?c101 ?k101) (Say.std_mk ?a102 ?l102 ?c102 ?k102) (Say.std_mk ?a103 ?l103 ?c103 ?k103) (Say.std_mk ?a104 ?l104 ?c104 ?k104) (Say.std_mk ?a105 ?l105 ?c105 ?k105) (Say.std_mk ?a106 ?l106 ?c106 ?k106) (Say.std_mk ?a107 ?l107 ?c107 ?k107) (Say.std_mk ?a108 ?l108 ?c108 ?k108) (Say.std_mk ?a109 ?l109 ?c109 ?k109) (Say.std_mk ?a110 ?l110 ?c110 ?k110) (Say.mstd_mk ?a_Bg ?i_Bg ?l_Bg ?c_Bg ?k_Bg) (Say.mstd_mk ?a_Fe ?i_Fe ?l_Fe ?c_Fe ?k_Fe) (Say.mstd_mk ?a_SyI ?i_SyI ?l_SyI ?c_SyI ?k_SyI) (Say.mstd_mk ?a_DkI ?i_DkI ?l_DkI ?c_DkI ?k_DkI) (Say.mstd_mk ?a_Sa ?i_Sa ?l_Sa ?c_Sa ?k_Sa) ?a_law ?l_law ?c_law ?k_law ?z_len ?z_range ?z_tuple ?z_list ?z_isinstance ?z_str ?z_all ?z_enumerate ?z_sorted ?z_bool ?z_dict ?z_int ?c_small ?c_caps ?c_edge ?c_mrul ?c_lexc ?c_lrs ?c_lso ?c_imost_exceptions ?c_ilongest_word ?c_iown ?c_isounds ?c_isettling ?c_imost_samples ?c_ilong ?c_ilongest_writing ?c_ileads ?c_ino_book ?c_iletters ?c_irules ?c_iexceptions ?z_super ?z_ValueError ?gSayError ?gBadBook ?gBadWord ?gBadSounds ?gBadCount ?gUnsaid ?gNoLetter ?gNoException ?gOtherLetters ?gBadSamples ?gBadDeed ?gHalted ?gBadText ?eS1 ?eS2 ?eS3 ?BadBook_e4 ?BadBook_kBadBook ?BadBook_kBadWord ?BadBook_kBadSounds ?BadBook_kBadCount ?BadBook_kUnsaid ?BadBook_kNoLetter ?BadBook_kNoException ?BadBook_kOtherLetters ?BadBook_kBadSamples ?BadBook_kBadDeed ?BadBook_kHalted ?BadBook_kBadText ?BadBook_kV ?BadBook_noP ?BadBook_noN ?BadBook_noA ?BadBook_noD ?BadBook_noR ?BadBook_ga ?BadBook_gg ?BadBook_hd ?BadBook_ex ?BadBook_ha ?BadBook_hm ?BadWord_e4 ?BadWord_kBadBook ?BadWord_kBadWord ?BadWord_kBadSounds ?BadWord_kBadCount ?BadWord_kUnsaid ?BadWord_kNoLetter ?BadWord_kNoException ?BadWord_kOtherLetters ?BadWord_kBadSamples ?BadWord_kBadDeed ?BadWord_kHalted ?BadWord_kBadText ?BadWord_kV ?BadWord_noP ?BadWord_noN ?BadWord_noA ?BadWord_noD ?BadWord_noR ?BadWord_ga ?BadWord_gg ?BadWord_hd ?BadWord_ex ?BadWord_ha ?BadWord_hm ?BadSounds_e4 ?BadSounds_kBadBook ?BadSounds_kBadWord ?BadSounds_kBadSounds ?BadSounds_kBadCount ?BadSounds_kUnsaid ?BadSounds_kNoLetter ?BadSounds_kNoException ?BadSounds_kOtherLetters ?BadSounds_kBadSamples ?BadSounds_kBadDeed ?BadSounds_kHalted ?BadSounds_kBadText ?BadSounds_kV ?BadSounds_noP ?BadSounds_noN ?BadSounds_noA ?BadSounds_noD ?BadSounds_noR ?BadSounds_ga ?BadSounds_gg ?BadSounds_hd ?BadSounds_ex ?BadSounds_ha ?BadSounds_hm ?BadCount_e4 ?BadCount_kBadBook ?BadCount_kBadWord ?BadCount_kBadSounds ?BadCount_kBadCount ?BadCount_kUnsaid ?BadCount_kNoLetter ?BadCount_kNoException ?BadCount_kOtherLetters ?BadCount_kBadSamples ?BadCount_kBadDeed ?BadCount_kHalted ?BadCount_kBadText ?BadCount_kV ?BadCount_noP ?BadCount_noN ?BadCount_noA ?BadCount_noD ?BadCount_noR ?BadCount_ga ?BadCount_gg ?BadCount_hd ?BadCount_ex ?BadCount_ha ?BadCount_hm ?OtherLetters_e4 ?OtherLetters_kBadBook ?OtherLetters_kBadWord ?OtherLetters_kBadSounds ?OtherLetters_kBadCount ?OtherLetters_kUnsaid ?OtherLetters_kNoLetter ?OtherLetters_kNoException ?OtherLetters_kOtherLetters ?OtherLetters_kBadSamples ?OtherLetters_kBadDeed ?OtherLetters_kHalted ?OtherLetters_kBadText ?OtherLetters_kV ?OtherLetters_noP ?OtherLetters_noN ?OtherLetters_noA ?OtherLetters_noD ?OtherLetters_noR ?OtherLetters_ga ?OtherLetters_gg ?OtherLetters_hd ?OtherLetters_ex ?OtherLetters_ha ?OtherLetters_hm ?BadSamples_e4 ?BadSamples_kBadBook ?BadSamples_kBadWord ?BadSamples_kBadSounds ?BadSamples_kBadCount ?BadSamples_kUnsaid ?BadSamples_kNoLetter ?BadSamples_kNoException ?BadSamples_kOtherLetters ?BadSamples_kBadSamples ?BadSamples_kBadDeed ?BadSamples_kHalted ?BadSamples_kBadText ?BadSamples_kV ?BadSamples_noP ?BadSamples_noN ?BadSamples_noA ?BadSamples_noD ?BadSamples_noR ?BadSamples_ga ?BadSamples_gg ?BadSamples_hd ?BadSamples_ex ?BadSamples_ha ?BadSamples_hm ?x_hn ?x_ht ?o0_x ?o0_sa ?o0_iC ?o0_tC ?o0_kC ?o0_tyC ?o0_sup ?o0_subV ?o0_subE ?o0_any ?o0_main ?o0_fn ?o0_cd ?o0_cell ?o0_code ?o0_vs ?o0_file ?o0_no0 ?o0_no1 ?o1_x ?o1_sa ?o1_iC ?o1_tC ?o1_kC ?o1_tyC ?o1_sup ?o1_subV ?o1_subE ?o1_any ?o1_main ?o1_fn ?o1_cd ?o1_cell ?o1_code ?o1_vs ?o1_file ?o1_no0 ?l_code ?l_vs ?l_v11 ?l_v18 ?l_v7 ?l_v9 ?l_v10 ?l_ne ?l_no ?h0_a ?h0_l ?h0_c ?h0_k ?h0_code ?h0_vs ?h0_v11 ?h0_v18 ?h0_v7 ?h0_v9 ?h0_v10 ?h0_ne ?h0_no ?h0_nP ?rBadCount_x ?rBadCount_k ?rBadCount_t ?rBadWord_x ?rBadWord_k ?rBadWord_t ?rBadSounds_x ?rBadSounds_k ?rBadSounds_t ?rOtherLetters_x ?rOtherLetters_k ?rOtherLetters_t ?gSayer ?C_pg ?C_hd ?C_po ?C_sa ?C_mk ?C_kc ?C_n0 ?C_n1 ?C_n2 ?C_n3 ?C_n4 ?gDesk ?C2_pg ?C2_hd ?C2_po ?C2_sa ?C2_mk ?C2_kc ?C2_n0 ?C2_n1 ?C2_n2
    (case a_law => k_is); (case z_len => k_is); (case z_range => k_is); (case z_tuple => k_is); (case z_list => k_is); (case z_isinstance => k_is)
    (case z_str => k_is); (case z_all => k_is); (case z_enumerate => k_is); (case z_sorted => k_is); (case z_bool => k_is); (case z_dict => k_is)
    (case z_int => k_is); (case c_small => k_is); (case c_caps => k_is); (case c_edge => k_is); (case c_mrul => k_is); (case c_lexc => k_is)
    (case c_lrs => k_is); (case c_lso => k_is); (case c_imost_exceptions => k_is); (case c_ilongest_word => k_is); (case c_iown => k_is); (case c_isounds => k_is)
    (case c_isettling => k_is); (case c_imost_samples => k_is); (case c_ilong => k_is); (case c_ilongest_writing => k_is); (case c_ileads => k_is); (case c_ino_book => k_is)
    (case c_iletters => k_is); (case c_irules => k_is); (case c_iexceptions => k_is); (case z_super => k_is); (case z_ValueError => k_is); (case gSayError => k_is)
    (case gBadBook => k_is); (case gBadWord => k_is); (case gBadSounds => k_is); (case gBadCount => k_is); (case gUnsaid => k_is); (case gNoLetter => k_is)
    (case gNoException => k_is); (case gOtherLetters => k_is); (case gBadSamples => k_is); (case gBadDeed => k_is); (case gHalted => k_is); (case gBadText => k_is)
    (case h0_a => k_is); (case gSayer => k_is); (case gDesk => k_is); (case a42 => k_is); (case l42 => k_is); (case c42 => k_is)
    (case k42 => k_is); (case a43 => k_is); (case l43 => k_is); (case c43 => k_is); (case k43 => k_is); (case a38 => k_is)
    (case l38 => k_is); (case c38 => k_is); (case k38 => k_is); (case a37 => k_is); (case l37 => k_is); (case c37 => k_is)
    (case k37 => k_is); (case a40 => k_is); (case l40 => k_is); (case c40 => k_is); (case k40 => k_is); (case a41 => k_is)
    (case l41 => k_is); (case c41 => k_is); (case k41 => k_is); (case a39 => k_is); (case l39 => k_is); (case c39 => k_is)
    (case k39 => k_is); (case a31 => k_is); (case l31 => k_is); (case c31 => k_is); (case k31 => k_is); (case a34 => k_is)
    (case l34 => k_is); (case c34 => k_is); (case k34 => k_is); (case a32 => k_is); (case l32 => k_is); (case c32 => k_is)
    (case k32 => k_is); (case a33 => k_is); (case l33 => k_is); (case c33 => k_is); (case k33 => k_is); (case a30 => k_is)
    (case l30 => k_is); (case c30 => k_is); (case k30 => k_is); (case a36 => k_is); (case l36 => k_is); (case c36 => k_is)
    (case k36 => k_is); (case a44 => k_is); (case l44 => k_is); (case c44 => k_is); (case k44 => k_is); (case a49 => k_is)
    (case l49 => k_is); (case c49 => k_is); (case k49 => k_is); (case a50 => k_is); (case l50 => k_is); (case c50 => k_is)
    (case k50 => k_is); (case a51 => k_is); (case l51 => k_is); (case c51 => k_is); (case k51 => k_is); (case a52 => k_is)
    (case l52 => k_is); (case c52 => k_is); (case k52 => k_is); (case a56 => k_is); (case l56 => k_is); (case c56 => k_is)
    (case k56 => k_is); (case a57 => k_is); (case l57 => k_is); (case c57 => k_is); (case k57 => k_is); (case a53 => k_is)
    (case l53 => k_is); (case c53 => k_is); (case k53 => k_is); (case a54 => k_is); (case l54 => k_is); (case c54 => k_is)
    (case k54 => k_is); (case a55 => k_is); (case l55 => k_is); (case c55 => k_is); (case k55 => k_is); (case a60 => k_is)
    (case l60 => k_is); (case c60 => k_is); (case k60 => k_is); (case a59 => k_is); (case l59 => k_is); (case c59 => k_is)
    (case k59 => k_is); (case a67 => k_is); (case l67 => k_is); (case c67 => k_is); (case k67 => k_is); (case a66 => k_is)
    (case l66 => k_is); (case c66 => k_is); (case k66 => k_is); (case a65 => k_is); (case l65 => k_is); (case c65 => k_is)
    (case k65 => k_is); (case d65 => k_is); (case a79 => k_is); (case l79 => k_is); (case c79 => k_is); (case k79 => k_is)
    (case a80 => k_is); (case l80 => k_is); (case c80 => k_is); (case k80 => k_is); (case a97 => k_is); (case l97 => k_is)
    (case c97 => k_is); (case k97 => k_is); (case a95 => k_is); (case l95 => k_is); (case c95 => k_is); (case k95 => k_is)
    (case a94 => k_is); (case l94 => k_is); (case c94 => k_is); (case k94 => k_is); (case a92 => k_is); (case l92 => k_is)
    (case c92 => k_is); (case k92 => k_is); (case a93 => k_is); (case l93 => k_is); (case c93 => k_is); (case k93 => k_is)
    (case a101 => k_is); (case l101 => k_is); (case c101 => k_is); (case k101 => k_is); (case a102 => k_is); (case l102 => k_is)
    (case c102 => k_is); (case k102 => k_is); (case a103 => k_is); (case l103 => k_is); (case c103 => k_is); (case k103 => k_is)
    (case a104 => k_is); (case l104 => k_is); (case c104 => k_is); (case k104 => k_is); (case a105 => k_is); (case l105 => k_is)
    (case c105 => k_is); (case k105 => k_is); (case a106 => k_is); (case l106 => k_is); (case c106 => k_is); (case k106 => k_is)
    (case a107 => k_is); (case l107 => k_is); (case c107 => k_is); (case k107 => k_is); (case a108 => k_is); (case l108 => k_is)
    (case c108 => k_is); (case k108 => k_is); (case a109 => k_is); (case l109 => k_is); (case c109 => k_is); (case k109 => k_is)
    (case a110 => k_is); (case l110 => k_is); (case c110 => k_is); (case k110 => k_is); (case a_Bg => k_is); (case i_Bg => k_is)
    (case l_Bg => k_is); (case c_Bg => k_is); (case k_Bg => k_is); (case a_Fe => k_is); (case i_Fe => k_is); (case l_Fe => k_is)
    (case c_Fe => k_is); (case k_Fe => k_is); (case a_SyI => k_is); (case i_SyI => k_is); (case l_SyI => k_is); (case c_SyI => k_is)
    (case k_SyI => k_is); (case a_DkI => k_is); (case i_DkI => k_is); (case l_DkI => k_is); (case c_DkI => k_is); (case k_DkI => k_is)
    (case a_Sa => k_is); (case i_Sa => k_is); (case l_Sa => k_is); (case c_Sa => k_is); (case k_Sa => k_is); (case l_law => k_is)
    (case c_law => k_is); (case k_law => k_is); (case eS1 => k_is); (case eS2 => k_is); (case eS3 => k_is); (case BadBook_e4 => k_is)
    (case BadBook_kBadBook => kit_is); (case BadBook_kBadWord => kit_is); (case BadBook_kBadSounds => kit_is); (case BadBook_kBadCount => kit_is); (case BadBook_kUnsaid => kit_is); (case BadBook_kNoLetter => kit_is)
    (case BadBook_kNoException => kit_is); (case BadBook_kOtherLetters => kit_is); (case BadBook_kBadSamples => kit_is); (case BadBook_kBadDeed => kit_is); (case BadBook_kHalted => kit_is); (case BadBook_kBadText => kit_is)
    (case BadBook_kV => kit_is); (case BadBook_noP => k_is); (case BadBook_noN => k_is); (case BadBook_noA => k_is); (case BadBook_noD => k_is); (case BadBook_noR => k_is)
    (case BadBook_ga => k_is); (case BadBook_gg => k_is); (case BadBook_hd => k_is); (case BadBook_ex => k_is); (case BadBook_ha => k_is); (case BadBook_hm => k_is)
    (case BadWord_e4 => k_is); (case BadWord_kBadBook => kit_is); (case BadWord_kBadWord => kit_is); (case BadWord_kBadSounds => kit_is); (case BadWord_kBadCount => kit_is); (case BadWord_kUnsaid => kit_is)
    (case BadWord_kNoLetter => kit_is); (case BadWord_kNoException => kit_is); (case BadWord_kOtherLetters => kit_is); (case BadWord_kBadSamples => kit_is); (case BadWord_kBadDeed => kit_is); (case BadWord_kHalted => kit_is)
    (case BadWord_kBadText => kit_is); (case BadWord_kV => kit_is); (case BadWord_noP => k_is); (case BadWord_noN => k_is); (case BadWord_noA => k_is); (case BadWord_noD => k_is)
    (case BadWord_noR => k_is); (case BadWord_ga => k_is); (case BadWord_gg => k_is); (case BadWord_hd => k_is); (case BadWord_ex => k_is); (case BadWord_ha => k_is)
    (case BadWord_hm => k_is); (case BadSounds_e4 => k_is); (case BadSounds_kBadBook => kit_is); (case BadSounds_kBadWord => kit_is); (case BadSounds_kBadSounds => kit_is); (case BadSounds_kBadCount => kit_is)
    (case BadSounds_kUnsaid => kit_is); (case BadSounds_kNoLetter => kit_is); (case BadSounds_kNoException => kit_is); (case BadSounds_kOtherLetters => kit_is); (case BadSounds_kBadSamples => kit_is); (case BadSounds_kBadDeed => kit_is)
    (case BadSounds_kHalted => kit_is); (case BadSounds_kBadText => kit_is); (case BadSounds_kV => kit_is); (case BadSounds_noP => k_is); (case BadSounds_noN => k_is); (case BadSounds_noA => k_is)
    (case BadSounds_noD => k_is); (case BadSounds_noR => k_is); (case BadSounds_ga => k_is); (case BadSounds_gg => k_is); (case BadSounds_hd => k_is); (case BadSounds_ex => k_is)
    (case BadSounds_ha => k_is); (case BadSounds_hm => k_is); (case BadCount_e4 => k_is); (case BadCount_kBadBook => kit_is); (case BadCount_kBadWord => kit_is); (case BadCount_kBadSounds => kit_is)
    (case BadCount_kBadCount => kit_is); (case BadCount_kUnsaid => kit_is); (case BadCount_kNoLetter => kit_is); (case BadCount_kNoException => kit_is); (case BadCount_kOtherLetters => kit_is); (case BadCount_kBadSamples => kit_is)
    (case BadCount_kBadDeed => kit_is); (case BadCount_kHalted => kit_is); (case BadCount_kBadText => kit_is); (case BadCount_kV => kit_is); (case BadCount_noP => k_is); (case BadCount_noN => k_is)
    (case BadCount_noA => k_is); (case BadCount_noD => k_is); (case BadCount_noR => k_is); (case BadCount_ga => k_is); (case BadCount_gg => k_is); (case BadCount_hd => k_is)
    (case BadCount_ex => k_is); (case BadCount_ha => k_is); (case BadCount_hm => k_is); (case OtherLetters_e4 => k_is); (case OtherLetters_kBadBook => kit_is); (case OtherLetters_kBadWord => kit_is)
    (case OtherLetters_kBadSounds => kit_is); (case OtherLetters_kBadCount => kit_is); (case OtherLetters_kUnsaid => kit_is); (case OtherLetters_kNoLetter => kit_is); (case OtherLetters_kNoException => kit_is); (case OtherLetters_kOtherLetters => kit_is)
    (case OtherLetters_kBadSamples => kit_is); (case OtherLetters_kBadDeed => kit_is); (case OtherLetters_kHalted => kit_is); (case OtherLetters_kBadText => kit_is); (case OtherLetters_kV => kit_is); (case OtherLetters_noP => k_is)
    (case OtherLetters_noN => k_is); (case OtherLetters_noA => k_is); (case OtherLetters_noD => k_is); (case OtherLetters_noR => k_is); (case OtherLetters_ga => k_is); (case OtherLetters_gg => k_is)
    (case OtherLetters_hd => k_is); (case OtherLetters_ex => k_is); (case OtherLetters_ha => k_is); (case OtherLetters_hm => k_is); (case BadSamples_e4 => k_is); (case BadSamples_kBadBook => kit_is)
    (case BadSamples_kBadWord => kit_is); (case BadSamples_kBadSounds => kit_is); (case BadSamples_kBadCount => kit_is); (case BadSamples_kUnsaid => kit_is); (case BadSamples_kNoLetter => kit_is); (case BadSamples_kNoException => kit_is)
    (case BadSamples_kOtherLetters => kit_is); (case BadSamples_kBadSamples => kit_is); (case BadSamples_kBadDeed => kit_is); (case BadSamples_kHalted => kit_is); (case BadSamples_kBadText => kit_is); (case BadSamples_kV => kit_is)
    (case BadSamples_noP => k_is); (case BadSamples_noN => k_is); (case BadSamples_noA => k_is); (case BadSamples_noD => k_is); (case BadSamples_noR => k_is); (case BadSamples_ga => k_is)
    (case BadSamples_gg => k_is); (case BadSamples_hd => k_is); (case BadSamples_ex => k_is); (case BadSamples_ha => k_is); (case BadSamples_hm => k_is); (case x_hn => k_is)
    (case x_ht => k_is); (case o0_x => k_is); (case o0_sa => k_is); (case o0_iC => k_is); (case o0_tC => k_is); (case o0_kC => k_is)
    (case o0_tyC => k_is); (case o0_sup => ks_is); (case o0_subV => k_is); (case o0_subE => k_is); (case o0_any => k_is); (case o0_main => decide +kernel)
    (case o0_fn => k_is); (case o0_cd => k_is); (case o0_cell => k_is); (case o0_code => k_is); (case o0_vs => rfl); (case o0_file => decide +kernel)
    (case o0_no0 => k_is); (case o0_no1 => k_is); (case o1_x => k_is); (case o1_sa => k_is); (case o1_iC => k_is); (case o1_tC => k_is)
    (case o1_kC => k_is); (case o1_tyC => k_is); (case o1_sup => ks_is); (case o1_subV => k_is); (case o1_subE => k_is); (case o1_any => k_is)
    (case o1_main => decide +kernel); (case o1_fn => k_is); (case o1_cd => k_is); (case o1_cell => k_is); (case o1_code => k_is); (case o1_vs => rfl)
    (case o1_file => decide +kernel); (case o1_no0 => k_is); (case l_code => k_is); (case l_vs => rfl); (case l_v11 => rfl); (case l_v18 => rfl)
    (case l_v7 => rfl); (case l_v9 => rfl); (case l_v10 => rfl); (case l_ne => decide +kernel); (case l_no => kernel_rfl); (case h0_l => k_is)
    (case h0_c => k_is); (case h0_k => k_is); (case h0_code => k_is); (case h0_vs => rfl); (case h0_v11 => rfl); (case h0_v18 => rfl)
    (case h0_v7 => rfl); (case h0_v9 => rfl); (case h0_v10 => rfl); (case h0_ne => decide +kernel); (case h0_no => kernel_rfl); (case h0_nP => decide +kernel)
    (case rBadCount_x => k_exc); (case rBadCount_k => k_is); (case rBadCount_t => k_is); (case rBadWord_x => k_exc); (case rBadWord_k => k_is); (case rBadWord_t => k_is)
    (case rBadSounds_x => k_exc); (case rBadSounds_k => k_is); (case rBadSounds_t => k_is); (case rOtherLetters_x => k_exc); (case rOtherLetters_k => k_is); (case rOtherLetters_t => k_is)
    (case C_pg => k_is); (case C_hd => k_is); (case C_po => k_is); (case C_sa => k_is); (case C_mk => k_is); (case C_kc => k_is)
    (case C_n0 => k_is); (case C_n1 => k_is); (case C_n2 => k_is); (case C_n3 => k_is); (case C_n4 => k_is); (case C2_pg => k_is)
    (case C2_hd => k_is); (case C2_po => k_is); (case C2_sa => k_is); (case C2_mk => k_is); (case C2_kc => k_is); (case C2_n0 => k_is)
    (case C2_n1 => k_is); (case C2_n2 => k_is)
