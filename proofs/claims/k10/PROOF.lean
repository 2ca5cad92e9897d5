import PyProof.Rows.All
import Wide.All
import OpenK.AllK
import Wide.FinOn
import HandS.ForMost
import HandS.IsInst
import HandS.Walk
import HandS.SortRule
import HandS.DictTup
import HandS.ListItems
import HandS.Conv
import HandS.More
import KE.GoesEnum
import KE.GoesMore
import PySem.Challenge.RW_saylore_k10_rules_in_use
import KE.KDictCopyH
import KE.KDictLaws
import HandS.SetKeys
import KE.KDictKeyed
import PyProof.TupleKey
import HandS.SortKw
import KE.SortData
import KE.SortKeyHeap
import KE.KSortRegAny
import KE.SortLaws
import HandS.Deep
import HandS.Steps
import KE.KDictPairs
set_option Elab.async false
set_option linter.all false
set_option maxRecDepth 100000
set_option maxHeartbeats 16000000
namespace Say
open PySem PySem.Spec PyProof.Rows L2
/-! ### the text by places -/
def topS (i : Nat) : Stmt := PySem.Challenge.pw_saylore_k10_rules_in_use.main.body.getD i (.Pass ⟨0, 0, 0, 0⟩)
/-! ### texts as lists of signs -/
abbrev T (l : List Nat) : Str := ⟨l.toArray⟩
theorem T_list (z : Str) : T z.cps.toList = z := by
  cases z; rfl
@[simp] theorem T_cps (l : List Nat) : (T l).cps.toList = l := rfl
theorem T_len (l : List Nat) : (T l).length = l.length := by
  show l.toArray.size = l.length
  simp
theorem T_inj {a b : List Nat} (h : T a = T b) : a = b := by
  have := congrArg (fun z : Str => z.cps.toList) h
  exact this
/-! ### heaps -/
/-- all that was tracked is as it was, but at r -/
def Stp (r : Addr) (H H' : Hp) : Prop := ∀ b o, H b = some o → b ≠ r → H' b = some o
theorem Stp.refl (r : Addr) (H : Hp) : Stp r H H := fun _ _ h _ => h
theorem Stp.trans {r : Addr} {H H1 H2 : Hp} (a : Stp r H H1) (b : Stp r H1 H2) : Stp r H H2 := fun c o h n => b c o (a c o h n) n
theorem Stp.of {r : Addr} {H H' : Hp} (e : Same H H') : Stp r H H' := fun b o h _ => e b o h
theorem Stp.seq {K : PySem.W.Frag} {r a : Addr} {H H' : Hp} {xs : List V} (e : Stp r H H') (n : a ≠ r) (h : SqL K H a xs) : SqL K H' a xs := by
  rcases h with (h | ⟨o, h⟩) | h
  · exact .inl (.inl (e _ _ h n))
  · exact .inl (.inr ⟨o, e _ _ h n⟩)
  · exact .inr h
theorem same_new {H : Hp} {p : Addr} (h : H p = none) (o : HO) : Same H (upd H p o) := fun b u q => by rw [upd_ne (ne_of_none q h)]; exact q
theorem stp_at {r : Addr} {H : Hp} (o : HO) : Stp r H (upd H r o) := fun b u q n => by rw [upd_ne n]; exact q
/-- tuples stay (frozen ones: as they were made) -/
def KT (H H' : Hp) : Prop := (∀ t xs, H t = some (.tup xs) → H' t = some (.tup xs)) ∧ ∀ t o xs, H t = some (.frz o (.tup xs)) → H' t = some (.frz o (.tup xs))
theorem KT.by {H H' : Hp} (f : ∀ t u, H t = some u → ((∃ xs, u = .tup xs) ∨ ∃ o xs, u = .frz o (.tup xs)) → H' t = some u) : KT H H' := ⟨fun t xs h => f t _ h (.inl ⟨xs, rfl⟩), fun t o xs h => f t _ h (.inr ⟨o, xs, rfl⟩)⟩
theorem KT.refl (H : Hp) : KT H H := ⟨fun _ _ h => h, fun _ _ _ h => h⟩
theorem KT.trans {H H1 H2 : Hp} (a : KT H H1) (b : KT H1 H2) : KT H H2 := ⟨fun t xs h => b.1 t xs (a.1 t xs h), fun t o xs h => b.2 t o xs (a.2 t o xs h)⟩
theorem KT.of {H H' : Hp} (e : Same H H') : KT H H' := ⟨fun t xs h => e t _ h, fun t o xs h => e t _ h⟩
/-- the row that is drawn from: the script at a -/
structure RowAt (K : PySem.W.Frag) (H : Hp) (r a : Addr) (ns : List Int) : Prop where
  row : ∃ i c m : Int, H r = some (.lst [.ref a, .int i, .int c, .int m]) ∧ 0 ≤ i ∧ 0 ≤ m ∧ m < 2147483647
  scr : SqL K H a (ns.map V.int)
  le : ns.length ≤ 63
theorem ints_ne {ns : List Int} {a : Addr} {l : List V} : ns.map V.int ≠ V.ref a :: l := by
  cases ns with
  | nil => intro z; cases z
  | cons x r => intro z; cases z
theorem Stp.scr {K : PySem.W.Frag} {r a : Addr} {H H' : Hp} {ns : List Int} {l : List V} (e : Stp r H H') (hr : H r = some (.lst (.ref a :: l))) (h : SqL K H a (ns.map V.int)) : SqL K H' a (ns.map V.int) := by
  rcases h with (h | ⟨o, h⟩) | h
  · refine .inl (.inl (e _ _ h fun z => ?_))
    subst z
    rw [hr] at h
    exact ints_ne (HO.lst.inj (Option.some.inj h)).symm
  · refine .inl (.inr ⟨o, e _ _ h fun z => ?_⟩)
    subst z
    rw [hr] at h
    cases h
  · exact .inr h
theorem RowAt.stp {K : PySem.W.Frag} {H H' : Hp} {r a : Addr} {ns : List Int} (R : RowAt K H r a ns) (e : Same H H') : RowAt K H' r a ns := by
  obtain ⟨⟨i, c, m, h, q⟩, s, l⟩ := R
  exact ⟨⟨i, c, m, e _ _ h, q⟩, e.seq s, l⟩
theorem RowAt.kt {K : PySem.W.Frag} {H H' : Hp} {r a : Addr} {ns : List Int} (R : RowAt K H r a ns) (e : Stp r H H') : KT H H' := KT.by fun t u h hu => by
  obtain ⟨⟨i, c, m, q, _⟩, _⟩ := R
  exact e t _ h (ne_of h q (by rcases hu with ⟨_, rfl⟩ | ⟨_, _, rfl⟩ <;> (intro z; cases z)))
theorem RowAt.put {K : PySem.W.Frag} {H : Hp} {r a : Addr} {ns : List Int} (R : RowAt K H r a ns) {i c m : Int} (h0 : 0 ≤ i) (h1 : 0 ≤ m) (h2 : m < 2147483647) : RowAt K (upd H r (.lst [.ref a, .int i, .int c, .int m])) r a ns := by
  obtain ⟨⟨i', c', m', q, _⟩, s, l⟩ := R
  exact ⟨⟨i, c, m, upd_same, h0, h1, h2⟩, (stp_at _).scr q s, l⟩
theorem small {n : Nat} (h : n ≤ 1000) : n ≤ sizeLine := Nat.le_of_lt (small1000 h)
/-- law's promise -/
def spLaw (K : PySem.W.Frag) : Sp := fun vs H Q _ => ∃ (a : Addr) (ns : List Int), vs = [.ref a] ∧ SqL K H a (ns.map V.int) ∧ ns.length ≤ 63 ∧ ∀ H', Q (.bl true) H'
/-- _law_taken -/
def spTaken (K : PySem.W.Frag) : Sp := fun vs H Q _ => ∃ (r a : Addr) (ns : List Int) (n : Int), vs = [.ref r, .int n] ∧ RowAt K H r a ns ∧ 0 < n ∧ n < 1000 ∧
  ∀ (k : Int) (H' : Hp), 0 ≤ k → k < n → Stp r H H' → RowAt K H' r a ns → Q (.int k) H'
end Say
namespace Say
open PySem PySem.Spec PyProof.Rows L2
theorem T_app (a b : List Nat) : T a ++ T b = T (a ++ b) := TL.ext_tl (by rw [TL.tl_append])
theorem hash_eq : ("#" : Str) = T [35] := by decide +kernel
theorem nil_eq : ("" : Str) = T [] := by decide +kernel
theorem joinL_nil : ∀ ls : List (List Nat), TL.joinL [] ls = ls.flatten
  | [] => rfl
  | [p] => by simp [TL.joinL]
  | p :: q :: r => by
    show p ++ ([] ++ TL.joinL [] (q :: r)) = _
    rw [joinL_nil (q :: r)]
    simp
theorem join_nil (ls : List (List Nat)) : Txt.join (T []) (ls.map T) = T ls.flatten := by
  refine TL.ext_tl ?_
  rw [TL.join_eq, TL.tl_join]
  show TL.joinL [] ((ls.map T).map TL.tl) = ls.flatten
  rw [List.map_map, ← joinL_nil]
  congr 1
  exact List.map_id' ls
theorem map_single : ∀ l : List Nat, (l.map fun c => [c]).flatten = l
  | [] => rfl
  | c :: r => by
    show [c] ++ (r.map fun c => [c]).flatten = c :: r
    rw [map_single r]; rfl
/-- the row's own list -/
def RowIn (H : Hp) (r a : Addr) : Prop := ∃ i c m : Int, H r = some (.lst [.ref a, .int i, .int c, .int m]) ∧ 0 ≤ i ∧ 0 ≤ m ∧ m < 2147483647
theorem RowAt.in {K : PySem.W.Frag} {H : Hp} {r a : Addr} {ns : List Int} (R : RowAt K H r a ns) : RowIn H r a := R.row
theorem RowAt.of {K : PySem.W.Frag} {H H' : Hp} {r a : Addr} {ns : List Int} (R : RowAt K H r a ns) (e : Stp r H H') (w : RowIn H' r a) : RowAt K H' r a ns := by
  obtain ⟨⟨i, c, m, q, _⟩, s, l⟩ := R
  exact ⟨w, e.scr q s, l⟩
theorem RowIn.upd {H : Hp} {r a D : Addr} {o : HO} (w : RowIn H r a) (n : r ≠ D) : RowIn (upd H D o) r a := by
  obtain ⟨i, c, m, q, b⟩ := w
  exact ⟨i, c, m, by rw [upd_ne n]; exact q, b⟩
theorem RowAt.nw {K : PySem.W.Frag} {H : Hp} {r a D : Addr} {ns : List Int} (R : RowAt K H r a ns) (h : H D = none) : r ≠ D := by
  obtain ⟨⟨i, c, m, q, _⟩, s, l⟩ := R
  exact ne_of_none q h
theorem Stp.put {r D : Addr} {H H' : Hp} (e : Stp r H H') (h : H D = none) (o : HO) : Stp r H (upd H' D o) := fun b u q n => by
  rw [upd_ne (ne_of_none q h)]
  exact e b u q n
theorem Stp.one {r D : Addr} {H H' : Hp} {o : HO} (e : Stp r H H') (h : H D = some o) (n : r ≠ D) : H' D = some o := e _ _ h (Ne.symm n)
/-- signs of a text, a list of one-sign texts -/
def sg (l : List Nat) : List V := l.map fun c => V.str (T [c])
theorem sg_map (l : List Nat) : sg l = ((l.map fun c => [c]).map T).map V.str := by
  unfold sg
  rw [List.map_map, List.map_map]
  rfl
theorem sg_len (l : List Nat) : (sg l).length = l.length := by unfold sg; rw [List.length_map]
theorem sum_ones : ∀ l : List Nat, (((l.map fun c => [c]).map T).map (fun z : Str => z.length)).sum = l.length
  | [] => rfl
  | c :: r => by
    show 1 + (((r.map fun c => [c]).map T).map (fun z : Str => z.length)).sum = r.length + 1
    rw [sum_ones r]; omega
end Say
namespace Say
open PySem PySem.Spec PyProof.Rows L2
/-- a def that stands at the module's name and keeps its promise -/
def Df (P : Program) (w : World) (K : PySem.W.Frag) (mg : Str → Option Value) (base : Heap) (x : Str) (ps : List Str) (k : Nat) (sp : Sp) : Prop :=
  ∃ f fd, FnOk P w K mg base CX0 k f fd ps sp ∧ PySem.W.keepIn K (.ref f) = true ∧ Binds K fd ps [] ∧ mg x = some (.ref f)
theorem hash_app (L : List Nat) : (Str.ofString "#" ++ T L) = T (35 :: L) := by
  rw [show Str.ofString "#" = T [35] from hash_eq, T_app]
  rfl
theorem app_hash (L : List Nat) : (T L ++ Str.ofString "#") = T (L ++ [35]) := by
  rw [show Str.ofString "#" = T [35] from hash_eq, T_app]
theorem T_at {l : List Nat} {i c : Nat} (h : (T l).cps[i]? = some c) : l[i]? = some c := by
  have h : l.toArray[i]? = some c := h
  rw [List.getElem?_toArray] at h
  exact h
theorem T_at' {l : List Nat} {i c : Nat} (h : l[i]? = some c) : (T l).cps[i]? = some c := by
  show l.toArray[i]? = some c
  rw [List.getElem?_toArray]
  exact h
theorem T_size (l : List Nat) : (T l).cps.size = l.length := by
  show l.toArray.size = _
  simp
theorem take_next {l : List Nat} {i c : Nat} (h : l[i]? = some c) : l.take (i + 1) = l.take i ++ [c] := by
  rw [List.take_add_one, h]; rfl
theorem sg_app (a : List Nat) (c : Nat) : sg a ++ [V.str (T [c])] = sg (a ++ [c]) := by
  unfold sg
  rw [List.map_append]
  rfl
theorem len_hash : (Str.ofString "#").length = 1 := by decide +kernel
end Say
namespace Say
open PySem PySem.Spec PyProof.Rows L2
theorem at_list {α : Type} {l : List α} {z : Int} (h : z.toNat < l.length) (h0 : 0 ≤ z) : atI l z = some l[z.toNat] := by
  have q : l[z.toNat]? = some l[z.toNat] := List.getElem?_eq_getElem h
  have := atI_nat q
  rwa [show ((z.toNat : Nat) : Int) = z by omega] at this
end Say
namespace Say
open PySem PySem.Spec PyProof.Rows L2
/-! ### the data -/
structure Rule where
  ah : List Nat
  ow : List Nat
  be : List Nat
  so : List Nat
def Rule.vs (ρ : Rule) : List V := [.str (T ρ.ah), .str (T ρ.ow), .str (T ρ.be), .str (T ρ.so)]
/-- a rule of a book of the letters L -/
structure RuleOk (L : List Nat) (ρ : Rule) : Prop where
  ah : ρ.ah.Sublist (35 :: L)
  ow : ∀ c ∈ ρ.ow, c ∈ L
  o1 : 1 ≤ ρ.ow.length
  o2 : ρ.ow.length ≤ 2
  be : ρ.be.Sublist (35 :: L)
  so : ∀ c ∈ ρ.so, 65 ≤ c ∧ c ≤ 90
  s3 : ρ.so.length ≤ 3
/-- the tuple at R holds the rules -/
def RulesAt (H : Hp) (R : Addr) (rs : List Rule) : Prop := ∃ ts : List Addr, H R = some (.tup (ts.map V.ref)) ∧ Paired (fun t ρ => H t = some (.tup (Rule.vs ρ))) ts rs
theorem paired_mono {α β : Type} {F G : α → β → Prop} (h : ∀ x y, F x y → G x y) : ∀ {xs : List α} {ys : List β}, Paired F xs ys → Paired G xs ys
  | _, _, .nil => .nil
  | _, _, .cons a b => .cons (h _ _ a) (paired_mono h b)
theorem paired_app {α β : Type} {F : α → β → Prop} : ∀ {xs : List α} {ys : List β} {xs' : List α} {ys' : List β}, Paired F xs ys → Paired F xs' ys' → Paired F (xs ++ xs') (ys ++ ys')
  | _, _, _, _, .nil, h => h
  | _, _, _, _, .cons a b, h => .cons a (paired_app b h)
theorem paired_len {α β : Type} {F : α → β → Prop} : ∀ {xs : List α} {ys : List β}, Paired F xs ys → xs.length = ys.length
  | _, _, .nil => rfl
  | _, _, .cons a b => by simp [paired_len b]
theorem paired_at {α β : Type} {F : α → β → Prop} : ∀ {xs : List α} {ys : List β}, Paired F xs ys → ∀ {i : Nat} {x : α}, xs[i]? = some x → ∃ y, ys[i]? = some y ∧ F x y
  | _, _, .nil, i, x, h => by cases h
  | _, _, .cons r t, 0, x, h => by
    have e := Option.some.inj h
    subst e
    exact ⟨_, rfl, r⟩
  | _, _, .cons r t, i + 1, x, h => paired_at t h
theorem paired_at' {α β : Type} {F : α → β → Prop} : ∀ {xs : List α} {ys : List β}, Paired F xs ys → ∀ {i : Nat} {y : β}, ys[i]? = some y → ∃ x, xs[i]? = some x ∧ F x y
  | _, _, .nil, i, x, h => by cases h
  | _, _, .cons r t, 0, x, h => by
    have e := Option.some.inj h
    subst e
    exact ⟨_, rfl, r⟩
  | _, _, .cons r t, i + 1, x, h => paired_at' t h
theorem RulesAt.kt {H H' : Hp} {R : Addr} {rs : List Rule} (h : RulesAt H R rs) (e : KT H H') : RulesAt H' R rs := by
  obtain ⟨ts, h1, h2⟩ := h
  exact ⟨ts, e.1 _ _ h1, paired_mono (fun t ρ q => e.1 _ _ q) h2⟩
theorem Stp.kt {r a : Addr} {H H' : Hp} (e : Stp r H H') (w : RowIn H r a) : KT H H' := KT.by fun t u h hu => by
  obtain ⟨i, c, m, q, _⟩ := w
  exact e t _ h (ne_of h q (by rcases hu with ⟨_, rfl⟩ | ⟨_, _, rfl⟩ <;> (intro z; cases z)))
theorem kt_new {H : Hp} {D : Addr} {o : HO} (h : H D = none) : KT H (upd H D o) := KT.of (same_new h o)
theorem kt_upd {H : Hp} {D : Addr} {l : List V} {o : HO} (h : H D = some (.lst l)) : KT H (upd H D o) := KT.by fun t u q hu => by
  rw [upd_ne (ne_of q h (by rcases hu with ⟨_, rfl⟩ | ⟨_, _, rfl⟩ <;> (intro z; cases z)))]
  exact q
end Say
namespace Say
open PySem PySem.Spec PyProof.Rows L2
/-- the built-in names that the text leaves alone -/
structure Bn (mg : Str → Option Value) : Prop where
  len : mg "len" = none
  rng : mg "range" = none
  tup : mg "tuple" = none
  lst : mg "list" = none
  isi : mg "isinstance" = none
  str : mg "str" = none
  all : mg "all" = none
  enu : mg "enumerate" = none
  srt : mg "sorted" = none
  bool : mg "bool" = none
def isText (l S : List Nat) (lo hi : Nat) : Bool := decide (lo ≤ l.length) && (decide (l.length ≤ hi) && l.all fun c => decide (c ∈ S))
theorem isText_of {l S : List Nat} {lo hi : Nat} (h1 : lo ≤ l.length) (h2 : l.length ≤ hi) (h3 : ∀ c ∈ l, c ∈ S) : isText l S lo hi = true := by
  unfold isText
  rw [decide_eq_true h1, decide_eq_true h2]
  simp only [Bool.true_and, List.all_eq_true, decide_eq_true_eq]
  exact h3
/-- each sign is more than the one ahead -/
def rises : List Nat → Bool
  | a :: b :: r => decide (a < b) && rises (b :: r)
  | _ => true
end Say
namespace Say
open PySem PySem.Spec PyProof.Rows L2
theorem atI_of {α : Type} {xs : List α} {z : Int} {j : Nat} {v : α} (h : xs[j]? = some v) (e : z = (j : Int)) : atI xs z = some v := by
  rw [e]
  exact atI_nat h
end Say
namespace Say
open PySem PySem.Spec PyProof.Rows L2
section
variable {P : Program} {w : World} {K : PySem.W.Frag} {mg : Str → Option Value} {base : Heap}
abbrev sIsText : Stmt := topS 26
theorem scIsText : FnScope ["text", "signs", "least", "most", "sign"] ["text", "signs", "least", "most"] (defScope sIsText) := ⟨rfl, rfl, rfl, by decide +kernel, rfl, by decide +kernel, by decide +kernel⟩
def spIsText : Sp := fun vs H Q _ => ∃ (l S : List Nat) (lo hi : Nat), vs = [.str (T l), .str (T S), .int lo, .int hi] ∧ l.length ≤ 100 ∧
  ∀ (H' : Hp), Same H H' → Q (.bl (isText l S lo hi)) H'
theorem ok_isText {f : Addr} {fd : FuncData} (F : Fun K "is_text" "is_text" sIsText f fd) (B : Bn mg) :
    FnOk P w K mg base CX0 1 f fd ["text", "signs", "least", "most"] spIsText := by
  refine F.ok scIsText (fun vs H Q E h => ?_) (fun cdv A outer s H vs Q E hr h => ?_)
  · obtain ⟨l, S, lo, hi, rfl, _⟩ := h
    rfl
  · obtain ⟨l, S, lo, hi, rfl, hz, q⟩ := h
    refine ⟨_, pss_cons (ps_if (PW.pt (pw_or (pt_not (pt_val (pe_callB call_isi (by rfl) B.isi (by decide +kernel) (pa_cons (pv 0) (pa_cons (pe_bltn (v := .ty "str") rfl B.str (by decide +kernel) rfl) pa_nil)))))
          (pw_or1 (pt_not (pt_chain op_le op_le (pv 2) (pe_callB call_len_str (by rfl) B.len PySem.boot_len (pa_cons (pv 0) pa_nil)) (pv 3)))))) (pss_one (ps_ret pe_bl)) pss_nil)
      (pss_one (ps_ret (pe_callB (cr_all rfl) (by rfl) B.all (by decide +kernel) (pa_cons (pe_lc (own := [("sign", 4)]) (g := gName 4) rfl scIsText.nd (pi_str (pv 0))
        (blkOk_by (N := ["text", "signs", "least", "most", "sign"]) (sc := defScope sIsText) (by decide +kernel)) (fun _ _ _ _ _ => pg_name (i := 4) scIsText.nd rfl (.inl rfl))
        (fun _ _ _ _ _ => pts_nil) (fun _ _ _ _ _ => pe_cmpR op_in_sign (pv 4) (pv 1) rfl)) pa_nil)))), ?_⟩
    refine ⟨_, rfl, _, _, .type "str", _, true, rfl, ClsV.ty _, .base (.str _), kit_ty (by decide +kernel), true, rfl, ?_⟩
    refine iteF ?_
    have hlen : (T l).length ≤ sizeLine := by rw [T_len]; exact small (by omega)
    refine ⟨_, rfl, _, rfl, _, rfl, hlen, _, _, rfl, rfl, _, rfl, ?_⟩
    have eT : (lo : Int) ≤ ((T l).length : Int) ↔ lo ≤ l.length := by rw [T_len]; omega
    have eU : ((T l).length : Int) ≤ (hi : Int) ↔ l.length ≤ hi := by rw [T_len]; omega
    refine ite2 (fun c1 => ?_) (fun c1 => ?_)
    · refine ⟨_, rfl, _, _, rfl, rfl, _, rfl, ?_⟩
      have c1' := eT.mp (of_decide_eq_true c1)
      by_cases c2 : ((T l).length : Int) ≤ (hi : Int)
      · rw [decide_eq_true c2]
        have c2' := eU.mp c2
        refine iteF ?_
        refine ⟨_, rfl, T l, rfl, fun D hD => ?_⟩
        refine lc_it (walk_str) (fun i H2 => H2 D = some (.lst (((l.take i).map fun c => decide (c ∈ S)).map V.bl)) ∧ Same H H2) ?_ (fun _ _ _ _ => trivial) ?_ ?_
        · exact ⟨upd_same, same_new hD _⟩
        · rintro i x H2 H2' hi' ⟨e1, e2⟩ ⟨rfl, c, hc, rfl⟩
          have hc := T_at hc
          refine ⟨rfl, ?_⟩
          refine ⟨_, rfl, _, rfl, c, T S, rfl, rfl, _, e1, ?_, ?_, ?_⟩
          · rw [List.length_map, List.length_map, List.length_take]
            exact small1000 (by omega)
          · rw [upd_same, take_next hc, List.map_append, List.map_append]
            rfl
          · exact fun b u q => by
              rw [upd_ne (ne_of_none q hD)]
              exact e2 b u q
        · rintro H2 ⟨e1, e2⟩
          rw [T_size, List.take_length] at e1
          refine ⟨D, _, rfl, .inl (.inl e1), ?_⟩
          have := q H2 e2
          unfold isText at this
          rw [decide_eq_true c1', decide_eq_true c2', Bool.true_and, Bool.true_and] at this
          rw [List.all_map]
          exact this
      · rw [decide_eq_false c2]
        refine iteT ?_
        have := q H (Same.refl H)
        unfold isText at this
        rw [decide_eq_false (fun z => c2 (eU.mpr z)), Bool.false_and, Bool.and_false] at this
        exact this
    · refine ⟨_, rfl, iteT ?_⟩
      have := q H (Same.refl H)
      unfold isText at this
      rw [decide_eq_false (fun z => c1 (decide_eq_true (eT.mpr z))), Bool.false_and] at this
      exact this
end
end Say
namespace Say
open PySem PySem.Spec PyProof.Rows L2
section
variable {P : Program} {w : World} {K : PySem.W.Frag} {mg : Str → Option Value} {base : Heap}
abbrev sRise : Stmt := topS 27
theorem scRise : FnScope ["text", "at"] ["text"] (defScope sRise) := ⟨rfl, rfl, rfl, by decide +kernel, rfl, by decide +kernel, by decide +kernel⟩
/-- the j-th sign against the next, for j below n -/
def risesTo (l : List Nat) (n : Nat) : List Bool := (List.range n).map fun j => decide ((l.getD j 0) < (l.getD (j + 1) 0))
theorem rises_range : ∀ l : List Nat, (risesTo l (l.length - 1)).all id = rises l
  | [] => rfl
  | [_] => rfl
  | a :: b :: r => by
    have ih := rises_range (b :: r)
    show (risesTo (a :: b :: r) (r.length + 1)).all id = (decide (a < b) && rises (b :: r))
    rw [← ih]
    unfold risesTo
    rw [List.range_succ_eq_map, List.map_cons, List.map_map, List.all_cons]
    rfl
theorem risesTo_next (l : List Nat) (n : Nat) : risesTo l (n + 1) = risesTo l n ++ [decide ((l.getD n 0) < (l.getD (n + 1) 0))] := by
  unfold risesTo
  rw [List.range_succ, List.map_append]
  rfl
theorem risesTo_len (l : List Nat) (n : Nat) : (risesTo l n).length = n := by
  unfold risesTo
  rw [List.length_map, List.length_range]
def spRise : Sp := fun vs H Q _ => ∃ (l : List Nat), vs = [.str (T l)] ∧ l.length ≤ 100 ∧ ∀ (H' : Hp), Same H H' → Q (.bl (rises l)) H'
theorem lt_one (a b : Nat) : decide (([a] : List Nat) < [b]) = decide (a < b) := by
  by_cases h : a < b
  · rw [decide_eq_true h, decide_eq_true]
    exact List.Lex.rel h
  · rw [decide_eq_false h, decide_eq_false]
    intro z
    cases z with
    | rel q => exact h q
    | cons q => cases q
theorem ok_rise {f : Addr} {fd : FuncData} (F : Fun K "is_rising" "is_rising" sRise f fd) (B : Bn mg) : FnOk P w K mg base CX0 1 f fd ["text"] spRise := by
  refine F.ok scRise (fun vs H Q E h => ?_) (fun cdv A outer s H vs Q E hr h => ?_)
  · obtain ⟨l, rfl, _⟩ := h
    rfl
  · obtain ⟨l, rfl, hz, q⟩ := h
    have hlen : (T l).length ≤ sizeLine := by rw [T_len]; exact small (by omega)
    refine ⟨_, pss_one (ps_ret (pe_callB (cr_all rfl) (by rfl) B.all (by decide +kernel) (pa_cons (pe_lc (own := [("at", 1)]) (g := gName 1) rfl scRise.nd
        (pi_range2 rfl B.rng (pa_cons pe_int (pa_cons (pe_callB call_len_str (by rfl) B.len PySem.boot_len (pa_cons (pv 0) pa_nil)) pa_nil)))
        (blkOk_by (N := ["text", "at"]) (sc := defScope sRise) (by decide +kernel)) (fun _ _ _ _ _ => pg_name (i := 1) scRise.nd rfl (.inl rfl))
        (fun _ _ _ _ _ => pts_nil) (fun _ _ _ _ _ => pe_cmpR op_lt_str (pe_ix ix_str (pv 0) (pe_op op_sub (pv 1) pe_int) (fun _ _ => rfl)) (pe_ix ix_str (pv 0) (pv 1) (fun _ _ => rfl)) (nomark _))) pa_nil))), ?_⟩
    refine ⟨_, rfl, _, rfl, hlen, 1, _, rfl, ⟨by decide, by decide, by omega, by rw [T_len]; omega⟩, fun D hD => ?_⟩
    refine lc_it (walk_range) (fun i H2 => H2 D = some (.lst ((risesTo l i).map V.bl)) ∧ Same H H2) ?_ (fun _ _ _ _ => trivial) ?_ ?_
    · exact ⟨upd_same, same_new hD _⟩
    · rintro i x H2 H2' hi' ⟨e1, e2⟩ ⟨rfl, rfl⟩
      rw [T_len] at hi'
      have g1 : i < l.length := by omega
      have g2 : i + 1 < l.length := by omega
      refine ⟨rfl, ?_⟩
      have q1 : (T l).cps.toList[i]? = some (l.getD i 0) := by rw [T_cps, List.getD_eq_getElem?_getD, List.getElem?_eq_getElem g1]; rfl
      have q2 : (T l).cps.toList[i + 1]? = some (l.getD (i + 1) 0) := by rw [T_cps, List.getD_eq_getElem?_getD, List.getElem?_eq_getElem g2]; rfl
      refine ⟨_, rfl, _, rfl, _, _, rfl, rfl, T l, 1 + (i : Int) - 1, l.getD i 0, rfl, rfl, hlen, atI_of q1 (by omega), ?_⟩
      refine ⟨_, rfl, _, rfl, T l, 1 + (i : Int), l.getD (i + 1) 0, rfl, rfl, hlen, atI_of q2 (by omega), ?_⟩
      refine ⟨_, _, rfl, rfl, _, e1, ?_, ?_, ?_⟩
      · rw [List.length_map, risesTo_len]
        exact small1000 (by omega)
      · rw [upd_same, risesTo_next, List.map_append]
        show some (HO.lst (_ ++ [V.bl (decide (([l.getD i 0] : List Nat) < [l.getD (i + 1) 0]))])) = _
        rw [lt_one]
        rfl
      · exact fun b u q => by
          rw [upd_ne (ne_of_none q hD)]
          exact e2 b u q
    · rintro H2 ⟨e1, e2⟩
      rw [show (((T l).length : Int) - 1).toNat = l.length - 1 by rw [T_len]; omega] at e1
      refine ⟨D, _, rfl, .inl (.inl e1), ?_⟩
      rw [rises_range]
      exact q H2 e2
end
end Say
namespace Say
open PySem PySem.Spec PyProof.Rows L2
/-- the letters of a book -/
structure LetOk (L : List Nat) : Prop where
  l2 : 2 ≤ L.length
  l4 : L.length ≤ 4
  up : rises L = true
  az : ∀ c ∈ L, 97 ≤ c ∧ c ≤ 122
theorem rises_iff : ∀ l : List Nat, rises l = true ↔ l.Pairwise (· < ·)
  | [] => by simp [rises]
  | [a] => by simp [rises]
  | a :: b :: r => by
    have ih := rises_iff (b :: r)
    show (decide (a < b) && rises (b :: r)) = true ↔ _
    rw [Bool.and_eq_true, ih, List.pairwise_cons (a := a)]
    constructor
    · rintro ⟨h1, h2⟩
      have h1 := of_decide_eq_true h1
      refine ⟨fun x hx => ?_, h2⟩
      rcases List.mem_cons.mp hx with rfl | hx
      · exact h1
      · exact Nat.lt_trans h1 ((List.pairwise_cons.mp h2).1 x hx)
    · rintro ⟨h1, h2⟩
      exact ⟨decide_eq_true (h1 b (List.mem_cons_self ..)), h2⟩
theorem LetOk.hash {L : List Nat} (h : LetOk L) : rises (35 :: L) = true := (rises_iff _).mpr (List.pairwise_cons.mpr ⟨fun c hc => by have := (h.az c hc).1; omega, (rises_iff _).mp h.up⟩)
theorem side_ok {L z : List Nat} (h : LetOk L) (s : z.Sublist (35 :: L)) : (isText z (35 :: L) 0 (L.length + 1) && rises z) = true := by
  rw [Bool.and_eq_true]
  exact ⟨isText_of (Nat.zero_le _) (by have := s.length_le; simpa using this) fun c hc => s.subset hc, (rises_iff _).mpr (((rises_iff _).mp h.hash).sublist s)⟩
/-- a constant that holds a number -/
abbrev KI (mg : Str → Option Value) (x : Str) (n : Int) : Prop := ∃ t, mg x = some (.int n t)
/-- what the module's constants hold -/
structure Cn (mg : Str → Option Value) : Prop where
  small : ∃ t, mg "SMALL" = some (.str "abcdefghijklmnopqrstuvwxyz" t)
  caps : ∃ t, mg "CAPITALS" = some (.str "ABCDEFGHIJKLMNOPQRSTUVWXYZ" t)
  edge : ∃ t, mg "EDGE" = some (.str "#" t)
  mrul : ∃ t, mg "MOST_RULES" = some (.int 12 t)
  lexc : ∃ t, mg "LONGEST_EXCEPTION" = some (.int 8 t)
  lrs : ∃ t, mg "LONGEST_RULE_SOUNDS" = some (.int 3 t)
  lso : ∃ t, mg "LONGEST_SOUNDS" = some (.int 36 t)
def smallL : List Nat := (List.range 26).map (· + 97)
def capsL : List Nat := (List.range 26).map (· + 65)
theorem small_eq : Str.ofString "abcdefghijklmnopqrstuvwxyz" = T smallL := by decide +kernel
theorem caps_eq : Str.ofString "ABCDEFGHIJKLMNOPQRSTUVWXYZ" = T capsL := by decide +kernel
theorem mem_small {c : Nat} (h : 97 ≤ c ∧ c ≤ 122) : c ∈ smallL := List.mem_map.mpr ⟨c - 97, List.mem_range.mpr (by omega), by omega⟩
theorem mem_caps {c : Nat} (h : 65 ≤ c ∧ c ≤ 90) : c ∈ capsL := List.mem_map.mpr ⟨c - 65, List.mem_range.mpr (by omega), by omega⟩
section
variable {P : Program} {w : World} {K : PySem.W.Frag} {mg : Str → Option Value} {base : Heap}
abbrev psIsText : List Str := ["text", "signs", "least", "most"]
abbrev sBeside : Stmt := topS 22
theorem scBeside : FnScope ["letters", "signs"] ["letters", "signs"] (defScope sBeside) := ⟨rfl, rfl, rfl, by decide +kernel, rfl, by decide +kernel, by decide +kernel⟩
def spBeside : Sp := fun vs H Q _ => ∃ (L z : List Nat), vs = [.str (T L), .str (T z)] ∧ L.length ≤ 50 ∧ z.length ≤ 100 ∧ ∀ (H' : Hp), Same H H' → Q (.bl (isText z (35 :: L) 0 (L.length + 1) && rises z)) H'
theorem ok_beside {f : Addr} {fd : FuncData} (F : Fun K "is_beside" "is_beside" sBeside f fd) (B : Bn mg) (C : Cn mg) (DT : Df P w K mg base "is_text" psIsText 1 spIsText) (DR : Df P w K mg base "is_rising" ["text"] 1 spRise) :
    FnOk P w K mg base CX0 2 f fd ["letters", "signs"] spBeside := by
  obtain ⟨fT, fdT, GT, kT, bT, mT⟩ := DT
  obtain ⟨fR, fdR, GR, kR, bR, mR⟩ := DR
  obtain ⟨tE, mE⟩ := C.edge
  refine F.ok scBeside (fun vs H Q E h => ?_) (fun cdv A outer s H vs Q E hr h => ?_)
  · obtain ⟨L, z, rfl, _⟩ := h
    rfl
  · obtain ⟨L, z, rfl, hL, hz, q⟩ := h
    refine ⟨_, pss_one (ps_ret (pe_and (pe_call GT hr (by rfl) mT kT bT .nil pass0 (pa_cons (pv 1) (pa_cons (pe_op op_add_str (pe_glob (v := .str "#") rfl mE ⟨_, rfl⟩) (pv 0)) (pa_cons pe_int (pa_cons (pe_op op_add (pe_callB call_len_str (by rfl) B.len PySem.boot_len (pa_cons (pv 0) pa_nil)) pe_int) pa_nil)))))
        (pe_one (pe_call GR hr (by rfl) mR kR bR .nil pass0 (pa_cons (pv 1) pa_nil))))), ?_⟩
    have hl : (T L).length ≤ sizeLine := by rw [T_len]; exact small (by omega)
    refine ⟨_, rfl, _, rfl, _, _, rfl, rfl, (by rw [len_hash, T_len]; exact small (by omega)), _, rfl, _, rfl, hl, _, _, rfl, rfl, z, 35 :: L, 0, L.length + 1, ?_, hz, fun H1 s1 => ?_⟩
    · rw [hash_app, T_len]
      rfl
    refine ⟨_, rfl, ite2 (fun c => ?_) (fun c => ?_)⟩
    · refine ⟨_, rfl, z, rfl, hz, fun H2 s2 => ?_⟩
      have := q H2 (s1.trans s2)
      rw [c, Bool.true_and] at this
      exact this
    · have := q H1 s1
      rw [Bool.eq_false_iff.mpr c, Bool.false_and] at this
      exact this
abbrev sIsRule : Stmt := topS 21
theorem scIsRule : FnScope ["letters", "rule", "ahead", "own", "behind", "sounds"] ["letters", "rule"] (defScope sIsRule) := ⟨rfl, rfl, rfl, by decide +kernel, rfl, by decide +kernel, by decide +kernel⟩
def spIsRule : Sp := fun vs H Q _ => ∃ (L : List Nat) (t : Addr) (ρ : Rule), vs = [.str (T L), .ref t] ∧ H t = some (.tup ρ.vs) ∧ LetOk L ∧ RuleOk L ρ ∧ ∀ (H' : Hp), Same H H' → Q (.bl true) H'
theorem ok_isRule {f : Addr} {fd : FuncData} (F : Fun K "is_rule" "is_rule" sIsRule f fd) (B : Bn mg) (C : Cn mg) (DT : Df P w K mg base "is_text" psIsText 1 spIsText) (DB : Df P w K mg base "is_beside" ["letters", "signs"] 2 spBeside) :
    FnOk P w K mg base CX0 3 f fd ["letters", "rule"] spIsRule := by
  obtain ⟨fT, fdT, GT, kT, bT, mT⟩ := DT
  obtain ⟨fB, fdB, GB, kB, bB, mB⟩ := DB
  obtain ⟨tC, mC⟩ := C.caps
  obtain ⟨tS, mS⟩ := C.lrs
  refine F.ok scIsRule (fun vs H Q E h => ?_) (fun cdv A outer s H vs Q E hr h => ?_)
  · obtain ⟨L, t, ρ, rfl, _⟩ := h
    rfl
  · obtain ⟨L, t, ρ, rfl, ht, hL, hρ, q⟩ := h
    have hr1 : Room 1 _ := hr.mono (by decide)
    refine ⟨_, pss_cons (ps_if (PW.pt (pw_or (pt_not (pt_val (pe_callB call_isi (by rfl) B.isi (by decide +kernel) (pa_cons (pv 1) (pa_cons (pe_bltn (v := .ty "tuple") rfl B.tup (by decide +kernel) rfl) pa_nil)))))
          (pw_or1 (pt_cmpR op_ne (pe_callB call_len (by rfl) B.len PySem.boot_len (pa_cons (pv 1) pa_nil)) pe_int (nomark _))))) (pss_one (ps_ret pe_bl)) pss_nil)
      (pss_cons (ps_asg (pv 1) (pg_tup (by rfl) (pgs_cons (pg_name (i := 2) scIsRule.nd rfl (.inl rfl)) (pgs_cons (pg_name (i := 3) scIsRule.nd rfl (.inl rfl)) (pgs_cons (pg_name (i := 4) scIsRule.nd rfl (.inl rfl)) (pgs_cons (pg_name (i := 5) scIsRule.nd rfl (.inl rfl)) pgs_nil))))))
      (pss_one (ps_ret (pe_and (pe_call GB hr (by rfl) mB kB bB .nil pass0 (pa_cons (pv 0) (pa_cons (pv 2) pa_nil)))
        (pe_and (pe_call GT hr1 (by rfl) mT kT bT .nil pass0 (pa_cons (pv 3) (pa_cons (pv 0) (pa_cons pe_int (pa_cons pe_int pa_nil)))))
        (pe_and (pe_call GB hr (by rfl) mB kB bB .nil pass0 (pa_cons (pv 0) (pa_cons (pv 4) pa_nil)))
        (pe_one (pe_call GT hr1 (by rfl) mT kT bT .nil pass0 (pa_cons (pv 5) (pa_cons (pe_glob (v := .str "ABCDEFGHIJKLMNOPQRSTUVWXYZ") rfl mC ⟨_, rfl⟩) (pa_cons pe_int (pa_cons (pe_glob (v := .int 3) rfl mS ⟨_, rfl⟩) pa_nil)))))))))))), ?_⟩
    have l5 := hρ.ah.length_le
    have l6 := hρ.be.length_le
    rw [List.length_cons] at l5 l6
    have l4 := hL.l4
    refine ⟨_, rfl, _, _, .type "tuple", _, true, rfl, ClsV.ty _, .base (.tup ht), kit_ty (by decide +kernel), true, rfl, iteF ?_⟩
    refine ⟨_, rfl, _, 4, rfl, .inr ⟨_, .inl (.inl ht), rfl⟩, rfl, _, rfl, iteF ?_⟩
    refine ⟨_, rfl, t, _, rfl, .inl (.inl ht), rfl, _, _, rfl, _, _, rfl, _, _, rfl, _, _, rfl, rfl, ?_⟩
    refine ⟨_, rfl, _, rfl, L, ρ.ah, rfl, by omega, by omega, fun H1 s1 => ?_⟩
    refine ⟨_, rfl, ?_⟩
    rw [side_ok hL hρ.ah]
    refine iteT ?_
    refine ⟨_, rfl, _, rfl, ρ.ow, L, 1, 2, rfl, (by have := hρ.o2; omega), fun H2 s2 => ?_⟩
    refine ⟨_, rfl, ?_⟩
    rw [isText_of hρ.o1 hρ.o2 hρ.ow]
    refine iteT ?_
    refine ⟨_, rfl, _, rfl, L, ρ.be, rfl, by omega, by omega, fun H3 s3 => ?_⟩
    refine ⟨_, rfl, ?_⟩
    rw [side_ok hL hρ.be]
    refine iteT ?_
    refine ⟨_, rfl, ρ.so, capsL, 0, 3, (by rw [caps_eq]; rfl), (by have := hρ.s3; omega), fun H4 s4 => ?_⟩
    rw [isText_of (Nat.zero_le _) hρ.s3 fun c hc => mem_caps (hρ.so c hc)]
    exact q H4 (s1.trans (s2.trans (s3.trans s4)))
end
end Say
namespace PySem
open Sem (wp)
open AutoSeq1 (wpAny_loadPart')
/-- enumerate(tuple): what the making of it meets -/
theorem say_meets_enumT (l : Addr) (o0 : Obj) (items : Array Value) (n : Nat) (clC : o0.cls = .type "tuple") (dtD : o0.data = .seq items n) :
    Meets (Builtin.«enumerate.__new__» ⟨[.type "enumerate", .ref l], []⟩) (fun _ R s => s.heap.get? l = some o0 ∧
      R (.ok (.ret (.ref (s.heap.push { cls := .type "tuple_iterator", data := .fields #[.ref l, .int 0 0] }).objs.size)))
        { s with heap := (s.heap.push { cls := .type "tuple_iterator", data := .fields #[.ref l, .int 0 0] }).push { cls := .type "enumerate", data := .fields #[.none, .bool false, .ref s.heap.objs.size, rawInt 0, .none, .none] } }) :=
  .of_wp fun prog w A R s h => by
    obtain ⟨txP, g, d, tkn, os⟩ := s; obtain ⟨lnT, h⟩ := h
    obtain ⟨oc, od, dt, osl⟩ := o0
    replace clC : oc = .type "tuple" := clC
    replace dtD : dt = .seq items n := dtD
    subst clC dtD
    have hsub := sub_enumerate
    have hL : Heap.IsTuple (Shared.heap ⟨txP, g, d, tkn, os⟩) l items := ⟨_, lnT, rfl, n, rfl⟩
    wp_walk using wpAny_loadPart' lnT
    refine wpAny_stack_any fun sta => wpAny_pure ?_
    split
    · rename_i c _ _ _ _ _
      cases (c == Value.type "enumerate")
      · wp_walk using wpAny_loadPart' lnT, wpAny_pyIter_tuple hL
        exact ⟨_, rfl, h⟩
      · wp_walk using wpAny_loadPart' lnT, wpAny_pyIter_tuple hL
        exact ⟨_, rfl, h⟩
    · wp_walk using wpAny_loadPart' lnT, wpAny_pyIter_tuple hL
      exact ⟨_, rfl, h⟩
section
variable {prog : Program} {w : World} {A : Around} {E : Value → Shared → Prop} {s : Shared}
theorem say_call_enumT {l : Addr} {items : Array Value} {Q : Value → Shared → Prop} (hL : s.heap.IsTuple l items)
    (h : ∀ h', IsEnum h' (s.heap.objs.size + 1) s.heap.objs.size 0 .none → h'.IsTupleIter s.heap.objs.size l 0 → h'.objs.size = s.heap.objs.size + 2 →
      (∀ b o, s.heap.get? b = some o → h'.get? b = some o) → Q (.ref (s.heap.objs.size + 1)) { s with heap := h' }) :
    wpAny (model prog w) A (call (.type "enumerate") [.ref l]) Q E s := by
  obtain ⟨o0, lnT, clC, n, dtD⟩ := hL
  refine callType_new F.called_enumerate (by decide) (F.typeCall_enumerate_1 _) (F.newCall_enumerate_1 _) (fun obj => F.args_object_init_2 obj _) F.entry_enumerate_new
    (say_meets_enumT l o0 items n clC dtD) ⟨lnT, ?_⟩
  have szT : (s.heap.push { cls := .type "tuple_iterator", data := .fields #[.ref l, .int 0 0] }).objs.size = s.heap.objs.size + 1 := Heap.size_push ..
  show _ ∧ _
  rw [szT]
  have hEn : IsEnum ((s.heap.push { cls := .type "tuple_iterator", data := .fields #[.ref l, .int 0 0] }).push
      { cls := .type "enumerate", data := .fields #[.none, .bool false, .ref s.heap.objs.size, rawInt 0, .none, .none] }) (s.heap.objs.size + 1) s.heap.objs.size 0 .none := by
    have := Heap.get?_push_size (s.heap.push { cls := .type "tuple_iterator", data := .fields #[.ref l, .int 0 0] })
      (o := { cls := .type "enumerate", data := .fields #[.none, .bool false, .ref s.heap.objs.size, rawInt 0, .none, .none] }) rfl
    rw [szT] at this; exact this
  refine ⟨⟨_, hEn, rfl⟩, h _ hEn ⟨_, Heap.get?_push_of_some _ (Heap.get?_push_size _ rfl), rfl, rfl⟩ (by rw [Heap.size_push, szT]) fun b o x => Heap.get?_push_of_some _ (Heap.get?_push_of_some _ x)⟩
theorem say_enumT_end {e it l : Addr} {i : Nat} {j : Int} {items : Array Value} {was : Value} {Q : Option Value → Shared → Prop} (noH : A.handled = none)
    (hEn : IsEnum s.heap e it j was) (hTi : s.heap.IsTupleIter it l i) (lnT : s.heap.IsTuple l items) (atI0 : items[i]? = none)
    (hQ : ∀ h', Heap.ExtBut it s.heap h' → Q none { s with heap := h' }) : wpAny (model prog w) A (pyNext (.ref e)) Q E s := by
  have isTup : s.TypeIs (.ref e) "enumerate" := ⟨_, hEn, rfl⟩
  unfold pyNext
  refine wpAny_bind (wpAny_attempt (wpAny_callSpecial?_slot (name := Str.ofString "__next__") isTup F.slot_enumerate_next
    (wpAny_call_entry F.slot_enumerate_next isTup F.entry_enumerate_next ?_ (F.args_enumerate_next_1 _))))
  show wpAny _ _ (field (.ref e) 2 >>= _) _ _ _
  refine wpAny_bind (wpAny_field hEn rfl (x := .ref it) rfl ?_)
  refine wpAny_bind (wpAny_nextOf_tuple_end noH hTi lnT atI0 fun h' x he' hx' => ?_)
  obtain ⟨o, obO, clC⟩ := hx'
  refine wpAny_bind (wpAny_isInstance (T := "StopIteration") (b := true) ⟨o, obO, clC⟩ isSubtype_stop ?_)
  exact wpAny_pure (hQ _ he')
end
end PySem
namespace Say
open PySem PySem.Spec PyProof.Rows L2
/-- the tuple at a adrs it stands at each turn, each item in a new pair -/
def IteT (K : PySem.W.Frag) (a : Addr) : It :=
  ⟨fun i H => ∃ (xs : List V) (x : V), SqT K H a xs ∧ xs[i]? = some x, fun i H v H' => ∃ T x, v = .ref T ∧ H T = none ∧ H' = upd H T (.tup [.int (i : Nat), x]) ∧ ∀ xs, SqT K H a xs → xs[i]? = some x, fun i H => ∃ xs : List V, SqT K H a xs ∧ xs.length ≤ i⟩
theorem enum_ne {h : Heap} {e it a : Addr} {i : Int} {was : Value} {items : Array Value} (hEn : IsEnum h e it i was) (isTup : h.IsTuple a items) : e ≠ a := fun z => by
  subst z
  obtain ⟨o, obO, clC, _⟩ := isTup
  have hEn : h.get? e = some _ := hEn
  rw [hEn] at obO
  cases obO
  exact absurd (Value.type.inj clC) (by decide)
theorem tit_ne {h : Heap} {it a : Addr} {i : Nat} {items : Array Value} (hEn : h.IsTupleIter it a i) (isTup : h.IsTuple a items) : a ≠ it := fun z => by
  subst z
  obtain ⟨o, obO, clC, _⟩ := isTup
  obtain ⟨o', ho', hc', _⟩ := hEn
  rw [obO] at ho'
  cases ho'
  rw [clC] at hc'
  exact absurd (Value.type.inj hc') (by decide)
theorem turn_enumT {P : Program} {w : World} {K : PySem.W.Frag} {els : List Expr} {k9 : Nat} {tps0 : Pos} (a e it : Addr) :
    Turn P w K (.Tuple els k9 tps0) (IteT K a) [e, it] e (fun i h => (∃ was, IsEnum h e it ((i : Nat) : Int) was) ∧ h.IsTupleIter it a i ∧ e ≠ it) where
  mem := by simp
  obj := fun i h sta b hb => by
    obtain ⟨⟨was, hEn⟩, ⟨o, obO, clC, dtD⟩, _⟩ := sta
    have e' : b = e ∨ b = it := by simpa using hb
    rcases e' with z | z
    · rw [z]; exact ⟨_, hEn, fun v q => nomatch q⟩
    · rw [z]; exact ⟨o, obO, fun v q => by rw [dtD] at q; cases q⟩
  keep := fun i h h' sta k => let ⟨⟨was, hEn⟩, hi, hAp⟩ := sta; ⟨⟨was, k e (by simp) _ hEn⟩, hi.at fun o q => k it (by simp) o q, hAp⟩
  item := by
    intro X hP hw hK clC i pn s σ H E I fresh0 sta gW
    subst hP hw hK
    obtain ⟨⟨was, hEn⟩, hTi, hAp⟩ := sta
    obtain ⟨xs, x, isT, atI0⟩ := gW
    obtain ⟨its, rel, p, szT⟩ := I.tuple isT
    have p : s.heap.IsTuple a its.toArray := p
    obtain ⟨u, getU, relU⟩ := rel.get atI0
    have ltE : e < s.heap.objs.size := Heap.lt_size hEn
    have ltI : it < s.heap.objs.size := by obtain ⟨_, q, _⟩ := hTi; exact Heap.lt_size q
    have ltN : i < its.toArray.size := by
      have := (List.getElem?_eq_some_iff.mp getU).1
      simpa using this
    refine wpAny_pyNext_enum_itemD (Draws.tuple (show X.A.in1.handled = none from I.ok.hd clC) it a (tit_ne hTi p) its.toArray) hEn ⟨hTi, p⟩ ltN hAp (by
      simp only [List.mem_cons, List.not_mem_nil, or_false, not_or]
      exact ⟨hAp, enum_ne hEn p⟩) fun u' h' tkn hu' obO hst' isTup szH kpT => ?_
    have eu : u' = u := by
      have h1 : its.toArray[i]? = some u' := hu'
      rw [List.getElem?_toArray, getU] at h1
      exact (Option.some.inj h1).symm
    subst eu
    obtain ⟨hit', p'⟩ := hst'
    refine ⟨_, rfl, wpAny_letOwnedTupleGo_enum (s := { s with heap := h', toks := tkn + 1 }) obO fun h'' he' butE => ?_⟩
    have hT2 : h''.get? s.heap.objs.size = some { cls := .type "tuple", data := .seq #[.int i tkn, u'] } := (butE.2 _ (Nat.ne_of_gt ltE)).trans isTup
    have new : ObjOk X.prog X.w (upd H s.heap.objs.size (.tup [.int (i : Nat), x])) h'' s.heap.objs.size (.tup [.int (i : Nat), x]) :=
      ⟨by show 2 ≤ sizeLine; decide, [.int i tkn, u'], .cons ⟨_, rfl⟩ (.cons relU .nil), ⟨_, hT2, rfl, _, rfl⟩⟩
    have I1 : Inv X pn σ (upd H s.heap.objs.size (.tup [.int (i : Nat), x])) { s with heap := h'', toks := tkn + 1 } :=
      I.turnedNew (ch := [e, it]) (fun b ob hb q => (butE.2 b (fun z => hb (by simp [z]))).trans (kpT b ob (fun z => hb (by simp [z])) (fun z => hb (by simp [z])) q)) fresh0 (Nat.le_refl _) new
    refine ⟨.ref s.heap.objs.size, _, I1, rfl, ⟨_, x, rfl, I.hok.fresh (Nat.le_refl _), rfl, fun ys hy => by rw [I.tuple_inj hy isT]; exact atI0⟩, ⟨⟨u', ?_⟩, hit'.at fun o q => (butE.2 it (Ne.symm hAp)).trans q, hAp⟩, fun b hb => ?_⟩
    · have q1 : ((i + 1 : Nat) : Int) = (i : Int) + 1 := by omega
      rw [q1]; exact he'
    · have hb' : b < s.heap.objs.size := by
        have e' : b = e ∨ b = it := by simpa using hb
        rcases e' with z | z
        · rw [z]; exact ltE
        · rw [z]; exact ltI
      rw [upd_ne (Nat.ne_of_lt hb')]
      exact (fresh0 b hb).1
  done := by
    intro X hP hw hK clC i pn s σ H E I fresh0 sta gW
    subst hP hw hK
    obtain ⟨⟨was, hEn⟩, hTi, hAp⟩ := sta
    obtain ⟨xs, isT, atI0⟩ := gW
    obtain ⟨its, rel, p, szT⟩ := I.tuple isT
    have p : s.heap.IsTuple a its.toArray := p
    obtain ⟨f0, f1, f2, f3, f4, f5⟩ := fresh0 it (by simp)
    have hl := rel.length
    exact say_enumT_end (I.ok.hd clC) hEn hTi p (by rw [List.getElem?_toArray]; exact List.getElem?_eq_none (by omega)) fun h' eb => ⟨rfl, I.turned (t' := s.toks) (fun b o hb q => eb b o hb q) f0 f1 f3 f4 f5⟩
  self := fun A i s Q E sta h => let ⟨⟨_, hEn⟩, _⟩ := sta; wpAny_pyIter_enum hEn h
def iEnumT (K : PySem.W.Frag) (ta : TA) : TI := fun σ H R => ta σ H fun vs H1 => ∃ a xs, vs = [.ref a] ∧ SqT K H1 a xs ∧ R (IteT K a) H1
theorem pi_enumT {X : Cx} {e : Expr} {ta : TA} {p pos tps0 : Pos} {els : List Expr} {k9 : Nat} (gW : Gl X "enumerate") (hm : X.mg "enumerate" = none) (atA : PA X [e] ta) (hs : starEach [e] X.env = [(false, eval e X.env)] := by rfl) :
    PI X (.Tuple els k9 tps0) (.Call (.Name "enumerate" p) [e] [] pos) (iEnumT X.K ta) := by
  refine ⟨fun pn s σ H R I h => ?_⟩
  refine Call_ (ld_blt I gW hm boot_enumerate (PyProof.Rows.callWith_type1 (thn (atA.run pos pn s σ H _ I h) fun args s1 ⟨vs, H1, I1, r1, q1⟩ => ?_) hs rfl))
  obtain ⟨a, xs, ex, isT, q⟩ := q1
  subst ex
  cases r1 with
  | cons r rst =>
    cases rst
    cases r
    obtain ⟨its, rel, p', szT⟩ := I1.tuple isT
    refine say_call_enumT (show s1.heap.IsTuple a its.toArray from p') fun h' hEn hTi szH kpT => wpAny_pyIter_enum hEn ?_
    have I2 : Inv X pn σ H1 { s1 with heap := h' } := I1.kept (t' := s1.toks) kpT
    refine ⟨s1.heap.objs.size + 1, [s1.heap.objs.size + 1, s1.heap.objs.size], _, _, H1, rfl, I2, turn_enumT a (s1.heap.objs.size + 1) s1.heap.objs.size, ⟨⟨.none, hEn⟩, hTi, Nat.succ_ne_self _⟩, fun b hb => ?_, q⟩
    have e' : b = s1.heap.objs.size + 1 ∨ b = s1.heap.objs.size := by simpa using hb
    have hle : s1.heap.objs.size ≤ b := by
      rcases e' with z | z
      · rw [z]; exact Nat.le_add_right _ _
      · rw [z]; exact Nat.le_refl _
    exact I1.fpOk hle (I1.hok.fresh hle)
theorem walk_enumT {K : PySem.W.Frag} {a : Addr} {xs : List V} : Walk (IteT K a) xs.length (fun H => SqT K H a xs) (YPair (fun i => some (.int (i : Nat))) (fun i => xs[i]?)) := by
  refine ⟨fun i _ hi q => ⟨xs, xs[i], q, by simp [hi]⟩, fun _ q => ⟨xs, q, Nat.le_refl _⟩, fun i H v H' _ q y => ?_⟩
  obtain ⟨T, x, h1, h2, h3, h4⟩ := y
  exact ⟨T, .int (i : Nat), x, h1, h2, h3, rfl, h4 xs q⟩
end Say
namespace Say
open PySem PySem.Spec PyProof.Rows L2
abbrev Exc := List Nat × List Nat
/-- an exception of a book of the letters L -/
structure ExcOk (L : List Nat) (e : Exc) : Prop where
  w : ∀ c ∈ e.1, c ∈ L
  w1 : 1 ≤ e.1.length
  w8 : e.1.length ≤ 8
  s : ∀ c ∈ e.2, 65 ≤ c ∧ c ≤ 90
  s36 : e.2.length ≤ 36
/-- a tuple as it was made: with no attributes of its own -/
def TupN (H : Hp) (a : Addr) (xs : List V) : Prop := ∃ o : Obj, H a = some (.frz o (.tup xs)) ∧ o.dict = none
theorem TupN.kt {H H' : Hp} {a : Addr} {xs : List V} (h : TupN H a xs) (e : KT H H') : TupN H' a xs := ⟨h.choose, e.2 _ _ _ h.choose_spec.1, h.choose_spec.2⟩
theorem TupN.rd {H : Hp} {a : Addr} {xs : List V} (h : TupN H a xs) : Rd H a (.tup xs) := .inr ⟨_, h.choose_spec.1⟩
def ExcsAt (H : Hp) (X : Addr) (es : List Exc) : Prop := ∃ ts : List Addr, TupN H X (ts.map V.ref) ∧ Paired (fun t (e : Exc) => H t = some (.tup [.str (T e.1), .str (T e.2)])) ts es
theorem ExcsAt.kt {H H' : Hp} {X : Addr} {es : List Exc} (h : ExcsAt H X es) (e : KT H H') : ExcsAt H' X es := by
  obtain ⟨ts, h1, h2⟩ := h
  exact ⟨ts, h1.kt e, paired_mono (fun t ρ q => e.1 _ _ q) h2⟩
structure BookOk (L : List Nat) (rs : List Rule) (es : List Exc) : Prop where
  lt : LetOk L
  rl : ∀ ρ ∈ rs, RuleOk L ρ
  r12 : rs.length ≤ 12
  ex : ∀ e ∈ es, ExcOk L e
  e8 : es.length ≤ 8
  up : es.Pairwise fun e f => e.1 < f.1
def BookAt (H : Hp) (b : Addr) (L : List Nat) (rs : List Rule) (es : List Exc) : Prop := ∃ R X, H b = some (.tup [.str (T L), .ref R, .ref X]) ∧ RulesAt H R rs ∧ ExcsAt H X es
theorem BookAt.kt {H H' : Hp} {b : Addr} {L : List Nat} {rs : List Rule} {es : List Exc} (h : BookAt H b L rs es) (e : KT H H') : BookAt H' b L rs es := by
  obtain ⟨R, X, h1, h2, h3⟩ := h
  exact ⟨R, X, e.1 _ _ h1, h2.kt e, h3.kt e⟩
section
variable {P : Program} {w : World} {K : PySem.W.Frag} {mg : Str → Option Value} {base : Heap}
abbrev sExcd : Stmt := topS 24
theorem scExcd : FnScope ["letters", "word"] ["letters", "word"] (defScope sExcd) := ⟨rfl, rfl, rfl, by decide +kernel, rfl, by decide +kernel, by decide +kernel⟩
def spExcd : Sp := fun vs H Q _ => ∃ (L z : List Nat), vs = [.str (T L), .str (T z)] ∧ z.length ≤ 100 ∧ ∀ (H' : Hp), Same H H' → Q (.bl (isText z L 1 8)) H'
theorem ok_excd {f : Addr} {fd : FuncData} (F : Fun K "is_excepted" "is_excepted" sExcd f fd) (C : Cn mg) (DT : Df P w K mg base "is_text" psIsText 1 spIsText) :
    FnOk P w K mg base CX0 2 f fd ["letters", "word"] spExcd := by
  obtain ⟨fT, fdT, GT, kT, bT, mT⟩ := DT
  obtain ⟨tX, mX⟩ := C.lexc
  refine F.ok scExcd (fun vs H Q E h => ?_) (fun cdv A outer s H vs Q E hr h => ?_)
  · obtain ⟨L, z, rfl, _⟩ := h
    rfl
  · obtain ⟨L, z, rfl, hl, q⟩ := h
    refine ⟨_, pss_one (ps_ret (pe_call GT hr (by rfl) mT kT bT .nil pass0 (pa_cons (pv 1) (pa_cons (pv 0) (pa_cons pe_int (pa_cons (pe_glob (v := .int 8) rfl mX ⟨_, rfl⟩) pa_nil)))))), ?_⟩
    exact ⟨_, rfl, _, rfl, z, L, 1, 8, rfl, hl, q⟩
abbrev sIsSo : Stmt := topS 25
theorem scIsSo : FnScope ["sounds"] ["sounds"] (defScope sIsSo) := ⟨rfl, rfl, rfl, by decide +kernel, rfl, by decide +kernel, by decide +kernel⟩
def spIsSo : Sp := fun vs H Q _ => ∃ (z : List Nat), vs = [.str (T z)] ∧ z.length ≤ 100 ∧ ∀ (H' : Hp), Same H H' → Q (.bl (isText z capsL 0 36)) H'
theorem ok_isSo {f : Addr} {fd : FuncData} (F : Fun K "is_sounds" "is_sounds" sIsSo f fd) (C : Cn mg) (DT : Df P w K mg base "is_text" psIsText 1 spIsText) :
    FnOk P w K mg base CX0 2 f fd ["sounds"] spIsSo := by
  obtain ⟨fT, fdT, GT, kT, bT, mT⟩ := DT
  obtain ⟨tC, mC⟩ := C.caps
  obtain ⟨tS, mS⟩ := C.lso
  refine F.ok scIsSo (fun vs H Q E h => ?_) (fun cdv A outer s H vs Q E hr h => ?_)
  · obtain ⟨z, rfl, _⟩ := h
    rfl
  · obtain ⟨z, rfl, hl, q⟩ := h
    refine ⟨_, pss_one (ps_ret (pe_call GT hr (by rfl) mT kT bT .nil pass0 (pa_cons (pv 0) (pa_cons (pe_glob (v := .str "ABCDEFGHIJKLMNOPQRSTUVWXYZ") rfl mC ⟨_, rfl⟩) (pa_cons pe_int (pa_cons (pe_glob (v := .int 36) rfl mS ⟨_, rfl⟩) pa_nil)))))), ?_⟩
    exact ⟨_, rfl, z, capsL, 0, 36, (by rw [caps_eq]; rfl), hl, q⟩
abbrev sIsExc : Stmt := topS 23
theorem scIsExc : FnScope ["letters", "pair", "word", "sounds"] ["letters", "pair"] (defScope sIsExc) := ⟨rfl, rfl, rfl, by decide +kernel, rfl, by decide +kernel, by decide +kernel⟩
def spIsExc : Sp := fun vs H Q _ => ∃ (L : List Nat) (t : Addr) (e : Exc), vs = [.str (T L), .ref t] ∧ H t = some (.tup [.str (T e.1), .str (T e.2)]) ∧ ExcOk L e ∧ ∀ (H' : Hp), Same H H' → Q (.bl true) H'
theorem ok_isExc {f : Addr} {fd : FuncData} (F : Fun K "is_exception" "is_exception" sIsExc f fd) (B : Bn mg) (DX : Df P w K mg base "is_excepted" ["letters", "word"] 2 spExcd) (DS : Df P w K mg base "is_sounds" ["sounds"] 2 spIsSo) :
    FnOk P w K mg base CX0 3 f fd ["letters", "pair"] spIsExc := by
  obtain ⟨fX, fdX, GX, kX, bX, mX⟩ := DX
  obtain ⟨fS, fdS, GS, kS, bS, mS⟩ := DS
  refine F.ok scIsExc (fun vs H Q E h => ?_) (fun cdv A outer s H vs Q E hr h => ?_)
  · obtain ⟨L, t, e, rfl, _⟩ := h
    rfl
  · obtain ⟨L, t, e, rfl, ht, ho, q⟩ := h
    refine ⟨_, pss_cons (ps_if (PW.pt (pw_or (pt_not (pt_val (pe_callB call_isi (by rfl) B.isi (by decide +kernel) (pa_cons (pv 1) (pa_cons (pe_bltn (v := .ty "tuple") rfl B.tup (by decide +kernel) rfl) pa_nil)))))
          (pw_or1 (pt_cmpR op_ne (pe_callB call_len (by rfl) B.len PySem.boot_len (pa_cons (pv 1) pa_nil)) pe_int (nomark _))))) (pss_one (ps_ret pe_bl)) pss_nil)
      (pss_cons (ps_asg (pv 1) (pg_tup (by rfl) (pgs_cons (pg_name (i := 2) scIsExc.nd rfl (.inl rfl)) (pgs_cons (pg_name (i := 3) scIsExc.nd rfl (.inl rfl)) pgs_nil))))
      (pss_one (ps_ret (pe_and (pe_call GX hr (by rfl) mX kX bX .nil pass0 (pa_cons (pv 0) (pa_cons (pv 2) pa_nil)))
        (pe_one (pe_call GS hr (by rfl) mS kS bS .nil pass0 (pa_cons (pv 3) pa_nil))))))), ?_⟩
    refine ⟨_, rfl, _, _, .type "tuple", _, true, rfl, ClsV.ty _, .base (.tup ht), kit_ty (by decide +kernel), true, rfl, iteF ?_⟩
    refine ⟨_, rfl, _, 2, rfl, .inr ⟨_, .inl (.inl ht), rfl⟩, rfl, _, rfl, iteF ?_⟩
    refine ⟨_, rfl, t, _, rfl, .inl (.inl ht), rfl, _, _, rfl, _, _, rfl, rfl, ?_⟩
    refine ⟨_, rfl, _, rfl, L, e.1, rfl, (by have := ho.w8; omega), fun H1 s1 => ?_⟩
    refine ⟨_, rfl, ?_⟩
    rw [isText_of ho.w1 ho.w8 ho.w]
    refine iteT ?_
    refine ⟨_, rfl, e.2, rfl, (by have := ho.s36; omega), fun H4 s4 => ?_⟩
    rw [isText_of (Nat.zero_le _) ho.s36 fun c hc => mem_caps (ho.s c hc)]
    exact q H4 (s1.trans s4)
abbrev sChL : Stmt := topS 18
theorem scChL : FnScope ["letters"] ["letters"] (defScope sChL) := ⟨rfl, rfl, rfl, by decide +kernel, rfl, by decide +kernel, by decide +kernel⟩
def spChL : Sp := fun vs H Q _ => ∃ (L : List Nat), vs = [.str (T L)] ∧ LetOk L ∧ ∀ (H' : Hp), Same H H' → Q .non H'
theorem ok_chL {f : Addr} {fd : FuncData} (F : Fun K "check_letters" "check_letters" sChL f fd) (C : Cn mg) (DT : Df P w K mg base "is_text" psIsText 1 spIsText) (DR : Df P w K mg base "is_rising" ["text"] 1 spRise) :
    FnOk P w K mg base CX0 2 f fd ["letters"] spChL := by
  obtain ⟨fT, fdT, GT, kT, bT, mT⟩ := DT
  obtain ⟨fR, fdR, GR, kR, bR, mR⟩ := DR
  obtain ⟨tS, mS⟩ := C.small
  refine F.ok scChL (fun vs H Q E h => ?_) (fun cdv A outer s H vs Q E hr h => ?_)
  · obtain ⟨L, rfl, _⟩ := h
    rfl
  · obtain ⟨L, rfl, hL, q⟩ := h
    refine ⟨_, pss_one (ps_if (PW.pt (pw_or (pt_not (pt_val (pe_call GT hr (by rfl) mT kT bT .nil pass0 (pa_cons (pv 0) (pa_cons (pe_glob (v := .str "abcdefghijklmnopqrstuvwxyz") rfl mS ⟨_, rfl⟩) (pa_cons pe_int (pa_cons pe_int pa_nil)))))))
        (pw_or1 (pt_not (pt_val (pe_call GR hr (by rfl) mR kR bR .nil pass0 (pa_cons (pv 0) pa_nil))))))) (pss_one ps_never) pss_nil), ?_⟩
    have l4 := hL.l4
    refine ⟨_, rfl, L, smallL, 2, 4, (by rw [small_eq]; rfl), by omega, fun H1 s1 => ?_⟩
    rw [isText_of hL.l2 hL.l4 fun c hc => mem_small (hL.az c hc)]
    refine ⟨true, rfl, iteF ?_⟩
    refine ⟨_, rfl, L, rfl, by omega, fun H2 s2 => ?_⟩
    rw [hL.up]
    refine ⟨true, rfl, iteF ?_⟩
    exact q H2 (s1.trans s2)
abbrev sChR : Stmt := topS 19
theorem scChR : FnScope ["letters", "rules", "number", "rule"] ["letters", "rules"] (defScope sChR) := ⟨rfl, rfl, rfl, by decide +kernel, rfl, by decide +kernel, by decide +kernel⟩
def spChR : Sp := fun vs H Q _ => ∃ (L : List Nat) (R : Addr) (rs : List Rule), vs = [.str (T L), .ref R] ∧ LetOk L ∧ RulesAt H R rs ∧ (∀ ρ ∈ rs, RuleOk L ρ) ∧ rs.length ≤ 12 ∧ ∀ (H' : Hp), Same H H' → Q .non H'
theorem ok_chR {f : Addr} {fd : FuncData} (F : Fun K "check_rules" "check_rules" sChR f fd) (B : Bn mg) (C : Cn mg) (DI : Df P w K mg base "is_rule" ["letters", "rule"] 3 spIsRule) :
    FnOk P w K mg base CX0 4 f fd ["letters", "rules"] spChR := by
  obtain ⟨fI, fdI, GI, kI, bI, mI⟩ := DI
  obtain ⟨tS, mS⟩ := C.mrul
  refine F.ok scChR (fun vs H Q E h => ?_) (fun cdv A outer s H vs Q E hr h => ?_)
  · obtain ⟨L, R, rs, rfl, _⟩ := h
    rfl
  · obtain ⟨L, R, rs, rfl, hL, ⟨ts, hR, hp⟩, ho, h12, q⟩ := h
    refine ⟨_, pss_cons (ps_if (pt_not (pt_val (pe_callB call_isi (by rfl) B.isi (by decide +kernel) (pa_cons (pv 1) (pa_cons (pe_bltn (v := .ty "tuple") rfl B.tup (by decide +kernel) rfl) pa_nil))))) (pss_one ps_never) pss_nil)
      (pss_one (ps_for PassesOwn.never rfl (pi_enumT (by rfl) B.enu (pa_cons (pv 1) pa_nil)) (pg_tup (by rfl) (pgs_cons (pg_name (i := 2) scChR.nd rfl (.inl rfl)) (pgs_cons (pg_name (i := 3) scChR.nd rfl (.inl rfl)) pgs_nil)))
        (pss_one (ps_if (PW.pt (pw_or (pt_cmpR op_eq (pv 2) (pe_glob (v := .int 12) rfl mS ⟨_, rfl⟩) (nomark _)) (pw_or1 (pt_not (pt_val (pe_call GI hr (by rfl) mI kI bI .nil pass0 (pa_cons (pv 0) (pa_cons (pv 3) pa_nil)))))))) (pss_one ps_never) pss_nil)))), ?_⟩
    refine ⟨_, rfl, _, _, .type "tuple", _, true, rfl, ClsV.ty _, .base (.tup hR), kit_ty (by decide +kernel), true, rfl, iteF ?_⟩
    refine ⟨_, rfl, R, _, rfl, .inl (.inl hR), for_it (walk_enumT (xs := ts.map V.ref)) (fun i σ H2 => Same H H2 ∧ ∃ v2 v3, σ = [some (.str (T L)), some (.ref R), v2, v3]) ⟨Same.refl H, _, _, rfl⟩ (fun i σ H2 _ h => .inl (.inl (h.1 _ _ hR))) ?_ ?_⟩
    · rintro i x σ H2 H3 hi ⟨s2, v2, v3, rfl⟩ ⟨t, x1, x2, rfl, ht, rfl, g1, g2⟩
      cases g1
      have g2 : (ts.map V.ref)[i]? = some x2 := g2
      rw [List.getElem?_map] at g2
      obtain ⟨a, ha, e⟩ := Option.map_eq_some_iff.mp g2
      subst e
      obtain ⟨ρ, hρ, hat⟩ := paired_at hp ha
      have sm := same_new ht (.tup [.int (i : Nat), .ref a])
      have hi2 : i < rs.length := (List.getElem?_eq_some_iff.mp hρ).1
      refine ⟨t, _, rfl, .inl (.inl upd_same), rfl, _, _, rfl, _, _, rfl, rfl, ?_⟩
      refine ⟨_, rfl, rfl, _, rfl, ?_⟩
      have nq : ¬ V.int ((i : Nat) : Int) = V.int 12 := fun z => by
        have := V.int.inj z
        omega
      rw [decide_eq_false nq]
      refine iteF ?_
      refine ⟨_, rfl, _, rfl, L, a, ρ, rfl, sm _ _ (s2 _ _ hat), hL, ho ρ (List.mem_of_getElem? hρ), fun H4 s4 => ?_⟩
      exact ⟨true, rfl, iteF ⟨s2.trans (sm.trans s4), _, _, rfl⟩⟩
    · rintro σ H2 ⟨s2, v2, v3, rfl⟩
      exact q H2 s2
end
end Say
namespace Say
open PySem PySem.Spec PyProof.Rows L2
/-- does the rule fit at the place of the signs -/
def fitsL (ρ : Rule) (z : List Nat) (i : Nat) : Bool :=
  if (z.drop i).take ρ.ow.length = ρ.ow then (decide (ρ.ah = []) || decide (z.getD (i - 1) 0 ∈ ρ.ah)) && (decide (ρ.be = []) || decide (z.getD (i + ρ.ow.length) 0 ∈ ρ.be)) else false
/-- a word between its edges -/
def sgn (wd : List Nat) : List Nat := 35 :: (wd ++ [35])
theorem sgn_len (wd : List Nat) : (sgn wd).length = wd.length + 2 := by simp [sgn]
theorem sgn_last (wd : List Nat) : (sgn wd)[wd.length + 1]? = some 35 := by
  unfold sgn
  rw [List.getElem?_cons_succ, List.getElem?_append_right (Nat.le_refl _), Nat.sub_self]
  rfl
theorem cut_at {z : List Nat} {i n : Nat} (h : i ≤ z.length) : cutS (T z) (some (i : Int)) (some ((i + n : Nat) : Int)) = T ((z.drop i).take n) := by
  unfold cutS
  rw [T_len, HT.sIx_nat, HT.sIx_nat, Nat.min_eq_left h]
  show T ((z.drop i).take (min (i + n) z.length - i)) = _
  congr 1
  by_cases c : i + n ≤ z.length
  · rw [Nat.min_eq_left c, Nat.add_sub_cancel_left]
  · rw [Nat.min_eq_right (by omega), List.take_of_length_le (by rw [List.length_drop]; omega), List.take_of_length_le (by rw [List.length_drop]; omega)]
theorem fit_room {wd ow : List Nat} {i : Nat} (h : ((sgn wd).drop i).take ow.length = ow) (h1 : 1 ≤ ow.length) (h35 : 35 ∉ ow) : i + ow.length ≤ wd.length + 1 := by
  have hl := congrArg List.length h
  rw [List.length_take, List.length_drop, sgn_len] at hl
  refine Decidable.byContradiction fun n => h35 ?_
  have e : i + ow.length = wd.length + 2 := by omega
  have g : ow[ow.length - 1]? = some 35 := by
    rw [← h, List.getElem?_take_of_lt (by rw [h]; omega), List.getElem?_drop]
    rw [show i + ((((sgn wd).drop i).take ow.length).length - 1) = wd.length + 1 by rw [h]; omega]
    exact sgn_last wd
  exact List.mem_of_getElem? g
theorem dec_nil (l : List Nat) : decide (V.str (T l) = V.str (Str.ofString "")) = decide (l = []) := by
  rw [show Str.ofString "" = T [] from nil_eq]
  refine decide_eq_decide.mpr ⟨fun z => T_inj (V.str.inj z), fun z => by rw [z]⟩
section
variable {P : Program} {w : World} {K : PySem.W.Frag} {mg : Str → Option Value} {base : Heap}
abbrev sFits : Stmt := topS 32
theorem scFits : FnScope ["rule", "signs", "at", "ahead", "own", "behind", "_", "past"] ["rule", "signs", "at"] (defScope sFits) := ⟨rfl, rfl, rfl, by decide +kernel, rfl, by decide +kernel, by decide +kernel⟩
/-- where its letters stand, the sign behind them stands, too -/
def RoomAt (ρ : Rule) (z : List Nat) (i : Nat) : Prop := (z.drop i).take ρ.ow.length = ρ.ow → i + ρ.ow.length < z.length
def spFits : Sp := fun vs H Q _ => ∃ (t : Addr) (ρ : Rule) (z : List Nat) (i : Nat), vs = [.ref t, .str (T z), .int i] ∧ H t = some (.tup ρ.vs) ∧ ρ.ow.length ≤ 2 ∧ 1 ≤ i ∧ i ≤ z.length ∧ z.length ≤ 100 ∧ RoomAt ρ z i ∧
  Q (.bl (fitsL ρ z i)) H
theorem ok_fits {f : Addr} {fd : FuncData} (F : Fun K "fits" "fits" sFits f fd) (B : Bn mg) : FnOk P w K mg base CX0 1 f fd ["rule", "signs", "at"] spFits := by
  refine F.ok scFits (fun vs H Q E h => ?_) (fun cdv A outer s H vs Q E hr h => ?_)
  · obtain ⟨t, ρ, z, i, rfl, _⟩ := h
    rfl
  · obtain ⟨t, ρ, z, i, rfl, ht, h2, hi1, hi, hw, hroom, q⟩ := h
    refine ⟨_, pss_cons (ps_asg (pv 0) (pg_tup (by rfl) (pgs_cons (pg_name (i := 3) scFits.nd rfl (.inl rfl)) (pgs_cons (pg_name (i := 4) scFits.nd rfl (.inl rfl)) (pgs_cons (pg_name (i := 5) scFits.nd rfl (.inl rfl)) (pgs_cons (pg_name (i := 6) scFits.nd rfl (.inl rfl)) pgs_nil))))))
      (pss_cons (ps_set (i := 7) scFits.nd rfl (.inl rfl) (pe_op op_add (pv 2) (pe_callB call_len_str (by rfl) B.len PySem.boot_len (pa_cons (pv 4) pa_nil))))
      (pss_cons (ps_if (pt_cmpR op_ne (pe_slice sl_str (pv 1) (po_some (pv 2)) (po_some (pv 7))) (pv 4) (nomark _)) (pss_one (ps_ret pe_bl)) pss_nil)
      (pss_one (ps_ret (pe_and (pe_or (pe_cmpR op_eq (pv 3) pe_str (nomark _)) (pe_one (pe_cmpR op_in_sign (pe_ix ix_str (pv 1) (pe_op op_sub (pv 2) pe_int) (fun _ _ => rfl)) (pv 3) rfl)))
        (pe_one (pe_or (pe_cmpR op_eq (pv 5) pe_str (nomark _)) (pe_one (pe_cmpR op_in_sign (pe_ix ix_str (pv 1) (pv 7) (fun _ _ => rfl)) (pv 5) rfl))))))))), ?_⟩
    have hzl : (T z).length ≤ sizeLine := by rw [T_len]; exact small (by omega)
    have hol : (T ρ.ow).length ≤ sizeLine := by rw [T_len]; exact small (by omega)
    refine ⟨_, rfl, t, _, rfl, .inl (.inl ht), rfl, _, _, rfl, _, _, rfl, _, _, rfl, _, _, rfl, rfl, ?_⟩
    refine ⟨_, rfl, _, rfl, _, rfl, hol, _, _, rfl, rfl, ?_⟩
    refine ⟨_, rfl, _, rfl, _, rfl, _, rfl, _, rfl, T z, rfl, hzl, _, rfl, ?_⟩
    rw [show ((i : Nat) : Int) + ((T ρ.ow).length : Int) = ((i + ρ.ow.length : Nat) : Int) by rw [T_len]; omega, cut_at (by omega)]
    refine ⟨rfl, _, rfl, ?_⟩
    have eow : (V.str (T ((z.drop i).take ρ.ow.length)) = V.str (T ρ.ow)) ↔ (z.drop i).take ρ.ow.length = ρ.ow :=
      ⟨fun z => T_inj (V.str.inj z), fun z => by rw [z]⟩
    by_cases c : (z.drop i).take ρ.ow.length = ρ.ow
    · rw [decide_eq_true (eow.mpr c)]
      refine iteF ?_
      have room := hroom c
      unfold fitsL at q
      rw [if_pos c] at q
      -- ahead
      refine ⟨_, rfl, rfl, _, rfl, ?_⟩
      rw [dec_nil]
      have g1 : (T z).cps.toList[i - 1]? = some (z.getD (i - 1) 0) := by rw [T_cps, List.getD_eq_getElem?_getD, List.getElem?_eq_getElem (by omega)]; rfl
      have g2 : (T z).cps.toList[i + ρ.ow.length]? = some (z.getD (i + ρ.ow.length) 0) := by rw [T_cps, List.getD_eq_getElem?_getD, List.getElem?_eq_getElem (by omega)]; rfl
      refine ite2 (fun c1 => ?_) (fun c1 => ?_)
      · refine ⟨true, rfl, iteT ?_⟩
        have q2 : Q (.bl (decide (ρ.be = []) || decide (z.getD (i + ρ.ow.length) 0 ∈ ρ.be))) H := by
          rw [c1, Bool.true_or, Bool.true_and] at q; exact q
        refine ⟨_, rfl, rfl, _, rfl, ?_⟩
        rw [dec_nil]
        refine ite2 (fun d1 => ?_) (fun d1 => ?_)
        · rw [d1, Bool.true_or] at q2
          exact q2
        · rw [Bool.eq_false_iff.mpr d1, Bool.false_or] at q2
          exact ⟨_, rfl, _, rfl, T z, _, _, rfl, rfl, hzl, atI_of g2 (by rw [T_len]; omega), _, rfl, _, T ρ.be, rfl, rfl, q2⟩
      · rw [Bool.eq_false_iff.mpr c1, Bool.false_or] at q
        refine ⟨_, rfl, _, rfl, _, _, rfl, rfl, T z, _, _, rfl, rfl, hzl, atI_of g1 (by omega), _, rfl, _, T ρ.ah, rfl, rfl, _, rfl, ?_⟩
        refine ite2 (fun c2 => ?_) (fun c2 => ?_)
        · have q2 : Q (.bl (decide (ρ.be = []) || decide (z.getD (i + ρ.ow.length) 0 ∈ ρ.be))) H := by
            rw [show decide (z.getD (i - 1) 0 ∈ ρ.ah) = true from c2, Bool.true_and] at q; exact q
          refine ⟨_, rfl, rfl, _, rfl, ?_⟩
          rw [dec_nil]
          refine ite2 (fun d1 => ?_) (fun d1 => ?_)
          · rw [d1, Bool.true_or] at q2
            exact q2
          · rw [Bool.eq_false_iff.mpr d1, Bool.false_or] at q2
            exact ⟨_, rfl, _, rfl, T z, _, _, rfl, rfl, hzl, atI_of g2 (by rw [T_len]; omega), _, rfl, _, T ρ.be, rfl, rfl, q2⟩
        · rw [show decide (z.getD (i - 1) 0 ∈ ρ.ah) = false from Bool.eq_false_iff.mpr c2, Bool.false_and] at q
          exact q
    · rw [decide_eq_false fun z => c (eow.mp z)]
      refine iteT ?_
      unfold fitsL at q
      rw [if_neg c] at q
      exact q
end
end Say
namespace Say
open PySem PySem.Spec PyProof.Rows L2
/-- the number of the first rule that fits -/
def ff (rs : List Rule) (z : List Nat) (i : Nat) : Option Nat := rs.findIdx? fun ρ => fitsL ρ z i
def ruleAt (rs : List Rule) (k : Nat) : Rule := rs.getD k ⟨[], [], [], []⟩
/-- the steps from a place on, and where it is stuck -/
def wk (rs : List Rule) (z : List Nat) : Nat → Nat → List (Nat × Nat) × Option Nat
  | 0, _ => ([], none)
  | m + 1, i => if i < z.length - 1 then
      match ff rs z i with
      | none => ([], some (i - 1))
      | some k => ((i - 1, k) :: (wk rs z m (i + (ruleAt rs k).ow.length)).1, (wk rs z m (i + (ruleAt rs k).ow.length)).2)
    else ([], none)
def W (rs : List Rule) (wd : List Nat) : List (Nat × Nat) × Option Nat := wk rs (sgn wd) (wd.length + 1) 1
theorem wk_end (rs : List Rule) (z : List Nat) (m i : Nat) (h : ¬ i < z.length - 1) : wk rs z m i = ([], none) := by
  cases m with
  | zero => rfl
  | succ m =>
    unfold wk
    rw [if_neg h]
theorem wk_none {rs : List Rule} {z : List Nat} {m i : Nat} (h : i < z.length - 1) (e : ff rs z i = none) : wk rs z (m + 1) i = ([], some (i - 1)) := by
  rw [wk, if_pos h, e]
theorem wk_some {rs : List Rule} {z : List Nat} {m i k : Nat} (h : i < z.length - 1) (e : ff rs z i = some k) : wk rs z (m + 1) i = ((i - 1, k) :: (wk rs z m (i + (ruleAt rs k).ow.length)).1, (wk rs z m (i + (ruleAt rs k).ow.length)).2) := by
  rw [wk, if_pos h, e]
theorem wk_len (rs : List Rule) (z : List Nat) : ∀ m i : Nat, (wk rs z m i).1.length ≤ m
  | 0, _ => Nat.le_refl 0
  | m + 1, i => by
    by_cases h : i < z.length - 1
    · cases e : ff rs z i with
      | none => rw [wk_none h e]; exact Nat.zero_le _
      | some k =>
        rw [wk_some h e]
        exact Nat.succ_le_succ (wk_len rs z m _)
    · rw [wk_end rs z _ i h]
      exact Nat.zero_le _
theorem ff_lt {rs : List Rule} {z : List Nat} {i k : Nat} (e : ff rs z i = some k) : k < rs.length := by
  obtain ⟨h, _⟩ := List.findIdx?_eq_some_iff_getElem.mp e
  exact h
theorem ruleAt_eq {rs : List Rule} {k : Nat} {ρ : Rule} (h : rs[k]? = some ρ) : ruleAt rs k = ρ := by
  unfold ruleAt
  rw [List.getD_eq_getElem?_getD, h]
  rfl
/-- what rules ask for the walk -/
structure RlOk (ρ : Rule) : Prop where
  o1 : 1 ≤ ρ.ow.length
  o2 : ρ.ow.length ≤ 2
  h35 : 35 ∉ ρ.ow
  s3 : ρ.so.length ≤ 3
theorem RuleOk.rl {L : List Nat} {ρ : Rule} (hL : LetOk L) (h : RuleOk L ρ) : RlOk ρ := ⟨h.o1, h.o2, fun z => by have := (hL.az _ (h.ow _ z)).1; omega, h.s3⟩
theorem BookOk.rls {L : List Nat} {rs : List Rule} {es : List Exc} (h : BookOk L rs es) : ∀ ρ ∈ rs, RlOk ρ := fun ρ hρ => (h.rl ρ hρ).rl h.lt
theorem eqT {a b : List Nat} : decide (V.str (T a) = V.str (T b)) = decide (a = b) := decide_eq_decide.mpr ⟨fun z => T_inj (V.str.inj z), fun z => by rw [z]⟩
theorem wk_stuck (rs : List Rule) (z : List Nat) : ∀ m i p : Nat, 1 ≤ i → (wk rs z m i).2 = some p → p + 2 ≤ z.length
  | 0, i, p, _, h => by cases h
  | m + 1, i, p, hi, h => by
    by_cases c : i < z.length - 1
    · cases e : ff rs z i with
      | none =>
        rw [wk_none c e] at h
        cases h
        omega
      | some k =>
        rw [wk_some c e] at h
        exact wk_stuck rs z m _ p (by omega) h
    · rw [wk_end rs z _ i c] at h
      cases h
theorem W_stuck {rs : List Rule} {wd : List Nat} {p : Nat} (h : (W rs wd).2 = some p) : p ≤ wd.length := by
  have := wk_stuck rs (sgn wd) _ 1 p (Nat.le_refl 1) h
  rw [sgn_len] at this
  omega
section
variable {P : Program} {w : World} {K : PySem.W.Frag} {mg : Str → Option Value} {base : Heap}
abbrev sFF : Stmt := topS 33
theorem scFF : FnScope ["rules", "signs", "at", "number", "rule"] ["rules", "signs", "at"] (defScope sFF) := ⟨rfl, rfl, rfl, by decide +kernel, rfl, by decide +kernel, by decide +kernel⟩
def optI : Option Nat → V
  | none => .non
  | some k => .int k
def spFF : Sp := fun vs H Q _ => ∃ (R : Addr) (rs : List Rule) (z : List Nat) (i : Nat), vs = [.ref R, .str (T z), .int i] ∧ RulesAt H R rs ∧ (∀ ρ ∈ rs, RlOk ρ) ∧ 1 ≤ i ∧ i ≤ z.length ∧ z.length ≤ 100 ∧ (∀ ρ ∈ rs, RoomAt ρ z i) ∧
  ∀ H', Same H H' → Q (optI (ff rs z i)) H'
theorem room_sgn {rs : List Rule} (h : ∀ ρ ∈ rs, RlOk ρ) (wd : List Nat) (i : Nat) : ∀ ρ ∈ rs, RoomAt ρ (sgn wd) i := fun ρ hρ c => by
  have := fit_room c (h ρ hρ).o1 (h ρ hρ).h35
  rw [sgn_len]
  omega
theorem ok_FF {f : Addr} {fd : FuncData} (F : Fun K "first_fit" "first_fit" sFF f fd) (B : Bn mg) (DF : Df P w K mg base "fits" ["rule", "signs", "at"] 1 spFits) : FnOk P w K mg base CX0 2 f fd ["rules", "signs", "at"] spFF := by
  obtain ⟨fF, fdF, GF, kF, bF, mF⟩ := DF
  refine F.ok scFF (fun vs H Q E h => ?_) (fun cdv A outer s H vs Q E hr h => ?_)
  · obtain ⟨R, rs, z, i, rfl, _⟩ := h
    rfl
  · obtain ⟨R, rs, z, i, rfl, ⟨ts, hR, hp⟩, ho, hi1, hi, hw, hrm, q⟩ := h
    refine ⟨_, pss_cons (ps_for PassesOwn.never rfl (pi_enumT (by rfl) B.enu (pa_cons (pv 0) pa_nil)) (pg_tup (by rfl) (pgs_cons (pg_name (i := 3) scFF.nd rfl (.inl rfl)) (pgs_cons (pg_name (i := 4) scFF.nd rfl (.inl rfl)) pgs_nil)))
        (pss_one (ps_if (pt_val (pe_call GF hr (by rfl) mF kF bF .nil pass0 (pa_cons (pv 4) (pa_cons (pv 1) (pa_cons (pv 2) pa_nil))))) (pss_one (ps_ret (pv 3))) pss_nil)))
      (pss_one (ps_ret pe_non)), ?_⟩
    refine ⟨_, rfl, R, _, rfl, .inl (.inl hR), for_it (walk_enumT (xs := ts.map V.ref)) (fun j σ H2 => Same H H2 ∧ (∃ v3 v4, σ = [some (.ref R), some (.str (T z)), some (.int i), v3, v4]) ∧ ∀ k ρ, k < j → rs[k]? = some ρ → fitsL ρ z i = false)
      ⟨Same.refl H, ⟨_, _, rfl⟩, fun k ρ h => absurd h (Nat.not_lt_zero k)⟩ (fun j σ H2 _ h => .inl (.inl (h.1 _ _ hR))) ?_ ?_⟩
    · rintro j x σ H2 H3 hj ⟨s2, ⟨v3, v4, rfl⟩, hn⟩ ⟨t, x1, x2, rfl, ht, rfl, g1, g2⟩
      cases g1
      have g2 : (ts.map V.ref)[j]? = some x2 := g2
      rw [List.getElem?_map] at g2
      obtain ⟨a, ha, e⟩ := Option.map_eq_some_iff.mp g2
      subst e
      obtain ⟨ρ, hρ, hat⟩ := paired_at hp ha
      have hm := ho ρ (List.mem_of_getElem? hρ)
      have sm := same_new ht (.tup [.int (j : Nat), .ref a])
      refine ⟨t, _, rfl, .inl (.inl upd_same), rfl, _, _, rfl, _, _, rfl, rfl, ?_⟩
      refine ⟨_, rfl, _, rfl, _, rfl, a, ρ, z, i, rfl, sm _ _ (s2 _ _ hat), hm.o2, hi1, hi, hw, hrm ρ (List.mem_of_getElem? hρ), _, rfl, ite2 (fun c => ?_) (fun c => ?_)⟩
      · refine ⟨_, rfl, ?_⟩
        have := q _ (s2.trans sm)
        have e : ff rs z i = some j := by
          refine List.findIdx?_eq_some_iff_getElem.mpr ⟨(List.getElem?_eq_some_iff.mp hρ).1, ?_, fun k hk => ?_⟩
          · rw [(List.getElem?_eq_some_iff.mp hρ).2]
            exact c
          · rw [hn k _ hk (List.getElem?_eq_getElem (by have := (List.getElem?_eq_some_iff.mp hρ).1; omega))]
            exact Bool.false_ne_true
        rw [e] at this
        exact this
      · refine ⟨s2.trans sm, ⟨_, _, rfl⟩, fun k ρ' hk hk' => ?_⟩
        by_cases e : k = j
        · subst e
          rw [hρ] at hk'
          cases hk'
          exact Bool.eq_false_iff.mpr c
        · exact hn k ρ' (by omega) hk'
    · rintro σ H2 ⟨s2, ⟨v3, v4, rfl⟩, hn⟩
      have := q _ s2
      have e : ff rs z i = none := by
        refine List.findIdx?_eq_none_iff.mpr fun ρ hρ => ?_
        obtain ⟨k, hk⟩ := List.mem_iff_getElem?.mp hρ
        have hl := (List.getElem?_eq_some_iff.mp hk).1
        exact hn k ρ (by rw [List.length_map, paired_len hp]; exact hl) hk
      rw [e] at this
      exact this
abbrev sSt : Stmt := topS 34
theorem scSt : FnScope ["rules", "tail", "signs", "steps", "at", "number"] ["rules", "tail"] (defScope sSt) := ⟨rfl, rfl, rfl, by decide +kernel, rfl, by decide +kernel, by decide +kernel⟩
/-- the list at D holds steps -/
def StepsAt (H : Hp) (D : Addr) (ss : List (Nat × Nat)) : Prop := ∃ ts : List Addr, H D = some (.lst (ts.map V.ref)) ∧ Paired (fun t (s : Nat × Nat) => H t = some (.tup [.int (s.1 : Nat), .int (s.2 : Nat)])) ts ss
theorem StepsAt.same {H H' : Hp} {D : Addr} {ss : List (Nat × Nat)} (h : StepsAt H D ss) (e : Same H H') : StepsAt H' D ss := by
  obtain ⟨ts, h1, h2⟩ := h
  exact ⟨ts, e _ _ h1, paired_mono (fun t ρ q => e _ _ q) h2⟩
theorem len1 (tl : List Nat) : (tl ++ [35]).length = tl.length + 1 := by simp
/-- a tail's steps, and where it is stuck -/
def Wt (rs : List Rule) (tl : List Nat) : List (Nat × Nat) × Option Nat := wk rs (tl ++ [35]) tl.length 1
theorem W_Wt (rs : List Rule) (wd : List Nat) : W rs wd = Wt rs (35 :: wd) := rfl
theorem fit_roomT {tl ow : List Nat} {i : Nat} (h : ((tl ++ [35]).drop i).take ow.length = ow) (h1 : 1 ≤ ow.length) (h35 : 35 ∉ ow) : i + ow.length ≤ tl.length := by
  have hl := congrArg List.length h
  rw [List.length_take, List.length_drop, List.length_append, List.length_singleton] at hl
  refine Decidable.byContradiction fun n => h35 ?_
  have e : i + ow.length = tl.length + 1 := by omega
  have g : ow[ow.length - 1]? = some 35 := by
    rw [← h, List.getElem?_take_of_lt (by rw [h]; omega), List.getElem?_drop]
    rw [show i + ((((tl ++ [35] : List Nat).drop i).take ow.length).length - 1) = tl.length by rw [h]; omega]
    rw [List.getElem?_append_right (Nat.le_refl _), Nat.sub_self]
    rfl
  exact List.mem_of_getElem? g
theorem room_tl {rs : List Rule} (h : ∀ ρ ∈ rs, RlOk ρ) (tl : List Nat) (i : Nat) : ∀ ρ ∈ rs, RoomAt ρ (tl ++ [35]) i := fun ρ hρ c => by
  have := fit_roomT c (h ρ hρ).o1 (h ρ hρ).h35
  rw [List.length_append, List.length_singleton]
  omega
def spSt : Sp := fun vs H Q _ => ∃ (R : Addr) (rs : List Rule) (tl : List Nat), vs = [.ref R, .str (T tl)] ∧ RulesAt H R rs ∧ (∀ ρ ∈ rs, RlOk ρ) ∧ 1 ≤ tl.length ∧ tl.length ≤ 81 ∧
  ∀ (t D : Addr) (H' : Hp), Same H H' → H D = none → H' t = some (.tup [.ref D, optI (Wt rs tl).2]) → StepsAt H' D (Wt rs tl).1 → Q (.ref t) H'
theorem ok_St {f : Addr} {fd : FuncData} (F : Fun K "steps_of" "steps_of" sSt f fd) (B : Bn mg) (C : Cn mg) (cO : KI mg "OWN" 1) (DF : Df P w K mg base "first_fit" ["rules", "signs", "at"] 2 spFF) : FnOk P w K mg base CX0 3 f fd ["rules", "tail"] spSt := by
  obtain ⟨fF, fdF, GF, kF, bF, mF⟩ := DF
  obtain ⟨tE, mE⟩ := C.edge
  obtain ⟨tO, mO⟩ := cO
  refine F.ok scSt (fun vs H Q E h => ?_) (fun cdv A outer s H vs Q E hr h => ?_)
  · obtain ⟨R, rs, tl, rfl, _⟩ := h
    rfl
  · obtain ⟨R, rs, tl, rfl, hR, ho, hl1, hw, q⟩ := h
    refine ⟨_, pss_cons (ps_set (i := 2) scSt.nd rfl (.inl rfl) (pe_op op_add_str (pv 1) (pe_glob (v := .str "#") rfl mE ⟨_, rfl⟩)))
      (pss_cons (ps_set (i := 3) scSt.nd rfl (.inl rfl) (pe_lst pa_nil))
      (pss_cons (ps_set (i := 4) scSt.nd rfl (.inl rfl) pe_int)
      (pss_cons (ps_while PassesOwn.never (pt_cmpR op_lt (pv 4) (pe_op op_sub (pe_callB call_len_str (by rfl) B.len PySem.boot_len (pa_cons (pv 2) pa_nil)) pe_int) (nomark _))
        (pss_cons (ps_set (i := 5) scSt.nd rfl (.inl rfl) (pe_call GF hr (by rfl) mF kF bF .nil pass0 (pa_cons (pv 0) (pa_cons (pv 2) (pa_cons (pv 4) pa_nil)))))
        (pss_cons (ps_if (pt_cmpR op_isN (pv 5) pe_non (nomark _)) (pss_one (ps_ret (pe_tup (pa_cons (pv 3) (pa_cons (pe_op op_sub (pv 4) pe_int) pa_nil))))) pss_nil)
        (pss_cons (ps_expr (pe_bm PySem.F.plainAttrs_list PySem.F.slot_list_append PySem.F.type_list_append mt_append (pv 3) (pa_cons (pe_tup (pa_cons (pe_op op_sub (pv 4) pe_int) (pa_cons (pv 5) pa_nil))) pa_nil)))
        (pss_one (ps_aug (i := 4) scSt.nd rfl (.inl rfl) (pe_callB call_len_str (by rfl) B.len PySem.boot_len (pa_cons (pe_ix ix_tup (pe_ix ix_tup (pv 0) (pv 5) (fun _ _ => rfl)) (pe_glob (v := .int 1) rfl mO ⟨_, rfl⟩) (fun _ _ => rfl)) pa_nil)) ip_add))))))
      (pss_one (ps_ret (pe_tup (pa_cons (pv 3) (pa_cons pe_non pa_nil)))))))), ?_⟩
    refine ⟨_, rfl, _, _, rfl, rfl, (by rw [len_hash, T_len]; exact small (by omega)), ?_⟩
    rw [app_hash]
    show tSeq _ _ _ _ _
    refine ⟨(by show 0 ≤ sizeLine; decide), fun D hD => ?_⟩
    obtain ⟨rts, hRt, hRp⟩ := id hR
    have zl : (T (tl ++ [35])).length = tl.length + 1 := by rw [T_len, len1]
    have hz0 : (T (tl ++ [35])).length ≤ sizeLine := by rw [zl]; exact small (by omega)
    refine ⟨fun m σ H2 => ∃ (i : Nat) (acc : List (Nat × Nat)) (v5 : Option V), σ = [some (.ref R), some (.str (T tl)), some (.str (T (tl ++ [35]))), some (.ref D), some (.int i), v5] ∧ 1 ≤ i ∧ tl.length + 1 ≤ i + m ∧ Same H H2 ∧ StepsAt H2 D acc ∧
      Wt rs tl = (acc ++ (wk rs (tl ++ [35]) m i).1, (wk rs (tl ++ [35]) m i).2), ⟨tl.length, 1, [], _, rfl, Nat.le_refl _, by omega, same_new hD _, ⟨[], upd_same, .nil⟩, rfl⟩, fun m σ H2 hW => ?_⟩
    obtain ⟨i, acc, v5, rfl, hi1, hm, s2, hS, hW⟩ := hW
    refine ⟨_, rfl, _, rfl, _, rfl, hz0, _, _, rfl, rfl, _, _, rfl, rfl, _, rfl, ite2 (fun c => ?_) (fun c => ?_)⟩
    · have c' : (i : Int) < ((T (tl ++ [35])).length : Int) - 1 := of_decide_eq_true c
      rw [zl] at c'
      have hi : i < tl.length := by omega
      have hlt : i < (tl ++ [35]).length - 1 := by rw [len1]; omega
      obtain ⟨m', rfl⟩ : ∃ m', m = m' + 1 := ⟨m - 1, by omega⟩
      refine ⟨fun σ' H' => ∃ (i : Nat) (acc : List (Nat × Nat)) (v5 : Option V), σ' = [some (.ref R), some (.str (T tl)), some (.str (T (tl ++ [35]))), some (.ref D), some (.int i), v5] ∧ 1 ≤ i ∧ tl.length + 1 ≤ i + m' ∧ Same H H' ∧ StepsAt H' D acc ∧
        Wt rs tl = (acc ++ (wk rs (tl ++ [35]) m' i).1, (wk rs (tl ++ [35]) m' i).2), fun σ' H' h => ⟨m', Nat.lt_succ_self _, h⟩, ?_⟩
      refine ⟨_, rfl, _, rfl, _, rfl, R, rs, tl ++ [35], i, rfl, hR.kt (.of s2), ho, hi1, by rw [len1]; omega, by rw [len1]; omega, room_tl ho tl i, fun H3 s3 => ?_⟩
      have s23 := s2.trans s3
      obtain ⟨ts, hDl, hDp⟩ := hS.same s3
      cases e : ff rs (tl ++ [35]) i with
      | none =>
        rw [wk_none hlt e] at hW
        refine ⟨_, rfl, rfl, _, rfl, iteT ?_⟩
        refine ⟨_, rfl, _, rfl, _, _, rfl, rfl, (by show 2 ≤ sizeLine; decide), fun t ht => ?_⟩
        have sm := same_new ht (.tup [.ref D, .int ((i : Int) - 1)])
        refine q t D _ (s23.trans sm) hD ?_ ?_
        · rw [upd_same, hW]
          show some (HO.tup [V.ref D, V.int ((i : Int) - 1)]) = some (HO.tup [V.ref D, V.int ((i - 1 : Nat) : Int)])
          rw [show ((i - 1 : Nat) : Int) = (i : Int) - 1 by omega]
        · rw [hW, List.append_nil]
          exact StepsAt.same ⟨ts, hDl, hDp⟩ sm
      | some k =>
        rw [wk_some hlt e] at hW
        have hk := ff_lt e
        obtain ⟨a, ha, hat⟩ := paired_at' hRp (List.getElem?_eq_getElem hk)
        have hm2 := ho _ (List.getElem_mem hk)
        have er : ruleAt rs k = rs[k] := ruleAt_eq (List.getElem?_eq_getElem hk)
        refine ⟨_, rfl, rfl, _, rfl, ?_⟩
        rw [show decide (optI (some k) = V.non) = false from decide_eq_false (fun z => by cases z)]
        refine iteF ?_
        refine ⟨_, rfl, .inl ⟨rfl, _, .inl (.inl hDl)⟩, _, rfl, _, _, rfl, rfl, _, rfl, (by show 2 ≤ sizeLine; decide), fun t ht => ?_⟩
        have sm := same_new ht (.tup [.int ((i : Int) - 1), .int (k : Nat)])
        have hDl' := sm _ _ hDl
        have sall : Same H (upd (upd H3 t (.tup [.int ((i : Int) - 1), .int (k : Nat)])) D (.lst (ts.map V.ref ++ [.ref t]))) := fun b u e => by
          rw [upd_ne (ne_of_none e hD)]
          exact sm _ _ (s23 _ _ e)
        refine ⟨D, _, _, rfl, rfl, hDl', ?_, ?_⟩
        · rw [List.length_map, paired_len hDp]
          have l1 : (Wt rs tl).1.length ≤ tl.length := wk_len rs (tl ++ [35]) tl.length 1
          rw [hW] at l1
          simp at l1
          exact small1000 (by omega)
        · have kR : Same H3 (upd (upd H3 t (.tup [.int ((i : Int) - 1), .int (k : Nat)])) D (.lst (ts.map V.ref ++ [.ref t]))) → True := fun _ => trivial
          have atR := sall _ _ hRt
          have ata := sall _ _ hat
          refine ⟨_, rfl, _, rfl, _, rfl, R, _, (k : Int), .ref a, rfl, rfl, .inl (.inl atR), atI_nat (by rw [List.getElem?_map, ha]; rfl), a, _, 1, .str (T rs[k].ow), rfl, rfl, .inl (.inl ata), atI_nat (j := 1) rfl, _, rfl, (by rw [T_len]; have := hm2.o2; exact small (by omega)), _, _, rfl, rfl, ?_⟩
          refine ⟨i + rs[k].ow.length, acc ++ [(i - 1, k)], some (.int (k : Nat)), ?_, by omega, by have := hm2.o1; omega, sall, ?_, ?_⟩
          · have ee : ((i + rs[k].ow.length : Nat) : Int) = (i : Int) + ((T rs[k].ow).length : Int) := by rw [T_len]; omega
            rw [ee]
            rfl
          · refine ⟨ts ++ [t], by rw [upd_same, List.map_append]; rfl, paired_app (paired_mono (fun t' s h => ?_) hDp) (.cons ?_ .nil)⟩
            · rw [upd_ne (ne_of h hDl (by intro z; cases z))]
              exact sm _ _ h
            · rw [upd_ne (ne_of_none hDl ht).symm, upd_same]
              show some (HO.tup [V.int ((i : Int) - 1), V.int (k : Nat)]) = some (HO.tup [V.int ((i - 1 : Nat) : Int), V.int (k : Nat)])
              rw [show ((i - 1 : Nat) : Int) = (i : Int) - 1 by omega]
          · rw [hW, er, List.append_assoc]
            rfl
    · have c' : ¬ (i : Int) < ((T (tl ++ [35])).length : Int) - 1 := of_decide_eq_false (Bool.eq_false_iff.mpr c)
      rw [zl] at c'
      rw [wk_end rs (tl ++ [35]) m i (by rw [len1]; omega)] at hW
      refine ⟨_, rfl, (by show 2 ≤ sizeLine; decide), fun t ht => ?_⟩
      have sm := same_new ht (.tup [.ref D, .non])
      refine q t D _ (s2.trans sm) hD ?_ ?_
      · rw [upd_same, hW]
        rfl
      · rw [hW, List.append_nil]
        exact hS.same sm
def LWAt (H : Hp) (t : Addr) (q : List (Nat × Nat) × Option Nat) : Prop := match q.2 with
  | some p => H t = some (.tup [.str (Str.ofString "unsaid"), .int (p : Nat)])
  | none => ∃ D, H t = some (.tup [.str (T []), .ref D]) ∧ StepsAt H D q.1
theorem LWAt.same {H H' : Hp} {t : Addr} {q : List (Nat × Nat) × Option Nat} (h : LWAt H t q) (e : Same H H') : LWAt H' t q := by
  obtain ⟨l, o⟩ := q
  cases o with
  | some p => exact e _ _ h
  | none =>
    obtain ⟨D', h1, h2⟩ := h
    exact ⟨D', e _ _ h1, h2.same e⟩
end
end Say
namespace Say
open PySem PySem.Spec PyProof.Rows L2
section
variable {P : Program} {w : World} {K : PySem.W.Frag} {mg : Str → Option Value} {base : Heap}
abbrev sLF : Stmt := topS 56
theorem scLF : FnScope ["_law_rule_here", "_law_word", "_law_place", "_law_far", "_law_at", "_law_end"] ["_law_rule_here", "_law_word", "_law_place"] (defScope sLF) := ⟨rfl, rfl, rfl, by decide +kernel, rfl, by decide +kernel, by decide +kernel⟩
def spLF : Sp := fun vs H Q _ => ∃ (t : Addr) (ρ : Rule) (wd : List Nat) (p : Nat), vs = [.ref t, .str (T wd), .int p] ∧ H t = some (.tup ρ.vs) ∧ RlOk ρ ∧ p < wd.length ∧ wd.length ≤ 200 ∧
  Q (.bl (fitsL ρ (sgn wd) (p + 1))) H
theorem ok_LF {f : Addr} {fd : FuncData} {k : Nat} (F : Fun K "_law_fits" "_law_fits" sLF f fd) (B : Bn mg) : FnOk P w K mg base CX0 (k + 1) f fd ["_law_rule_here", "_law_word", "_law_place"] spLF := by
  refine F.ok scLF (fun vs H Q E h => ?_) (fun cdv A outer s H vs Q E hr h => ?_)
  · obtain ⟨t, ρ, wd, p, rfl, _⟩ := h
    rfl
  · obtain ⟨t, ρ, wd, p, rfl, ht, ho, hp, hw, q⟩ := h
    refine ⟨_, pss_cons (ps_set (i := 3) scLF.nd rfl (.inl rfl) (pe_op op_add_str (pe_op op_add_str pe_str (pv 1)) pe_str))
      (pss_cons (ps_par (i := 4) (j := 5) (by rfl) scLF.nd rfl rfl (by decide) rfl rfl (pa_cons (pe_op op_add (pv 2) pe_int) (pa_cons (pe_op op_add (pe_op op_add (pv 2) pe_int) (pe_callB call_len_str (by rfl) B.len PySem.boot_len (pa_cons (pe_ix ix_tup (pv 0) pe_int (fun _ _ => rfl)) pa_nil))) pa_nil)) (by rfl))
      (pss_cons (ps_if (pt_cmpR op_ne (pe_slice sl_str (pv 3) (po_some (pv 4)) (po_some (pv 5))) (pe_ix ix_tup (pv 0) pe_int (fun _ _ => rfl)) (nomark _)) (pss_one (ps_ret pe_bl)) pss_nil)
      (pss_one (ps_ret (pe_and (pe_or (pe_cmpR op_eq (pe_ix ix_tup (pv 0) pe_int (fun _ _ => rfl)) pe_str (nomark _)) (pe_one (pe_cmpR op_in_sign (pe_ix ix_str (pv 3) (pe_op op_sub (pv 4) pe_int) (fun _ _ => rfl)) (pe_ix ix_tup (pv 0) pe_int (fun _ _ => rfl)) rfl)))
        (pe_one (pe_or (pe_cmpR op_eq (pe_ix ix_tup (pv 0) pe_int (fun _ _ => rfl)) pe_str (nomark _)) (pe_one (pe_cmpR op_in_sign (pe_ix ix_str (pv 3) (pv 5) (fun _ _ => rfl)) (pe_ix ix_tup (pv 0) pe_int (fun _ _ => rfl)) rfl))))))))), ?_⟩
    have hT : SqT K H t ρ.vs := .inl (.inl ht)
    have l2 := ho.o2
    have hzl : (T (sgn wd)).length ≤ sizeLine := by rw [T_len, sgn_len]; exact small (by omega)
    have hol : (T ρ.ow).length ≤ sizeLine := by rw [T_len]; exact small (by omega)
    refine ⟨_, rfl, _, _, rfl, rfl, (by rw [len_hash, T_len]; exact small (by omega)), _, _, rfl, rfl, ?_, ?_⟩
    · rw [hash_app, T_len, len_hash, List.length_cons]
      exact small (by omega)
    rw [hash_app, app_hash]
    show tSeq _ _ _ _ _
    refine ⟨_, rfl, _, _, rfl, rfl, _, rfl, _, _, rfl, rfl, _, rfl, t, _, 1, .str (T ρ.ow), rfl, rfl, hT, atI_nat (j := 1) rfl, _, rfl, hol, _, _, rfl, rfl, _, _, rfl, ?_⟩
    refine ⟨_, rfl, _, rfl, _, rfl, _, rfl, _, rfl, T (sgn wd), rfl, hzl, ?_⟩
    have e1 : ((p : Nat) : Int) + 1 = ((p + 1 : Nat) : Int) := by omega
    have e2 : ((p + 1 : Nat) : Int) + ((T ρ.ow).length : Int) = ((p + 1 + ρ.ow.length : Nat) : Int) := by rw [T_len]; omega
    rw [e1, e2, cut_at (by rw [sgn_len]; omega)]
    refine ⟨_, rfl, t, _, 1, .str (T ρ.ow), rfl, rfl, hT, atI_nat (j := 1) rfl, ?_⟩
    refine ⟨rfl, _, rfl, ?_⟩
    have eow : (V.str (T (((sgn wd).drop (p + 1)).take ρ.ow.length)) = V.str (T ρ.ow)) ↔ ((sgn wd).drop (p + 1)).take ρ.ow.length = ρ.ow :=
      ⟨fun z => T_inj (V.str.inj z), fun z => by rw [z]⟩
    by_cases c : ((sgn wd).drop (p + 1)).take ρ.ow.length = ρ.ow
    · rw [decide_eq_true (eow.mpr c)]
      refine iteF ?_
      have room := fit_room c ho.o1 ho.h35
      unfold fitsL at q
      rw [if_pos c] at q
      have hzl' : (sgn wd).length = wd.length + 2 := sgn_len wd
      refine ⟨_, rfl, t, _, 0, .str (T ρ.ah), rfl, rfl, hT, atI_nat (j := 0) rfl, rfl, _, rfl, ?_⟩
      rw [dec_nil]
      have g1 : (T (sgn wd)).cps.toList[p]? = some ((sgn wd).getD (p + 1 - 1) 0) := by rw [Nat.add_sub_cancel, T_cps, List.getD_eq_getElem?_getD, List.getElem?_eq_getElem (by omega)]; rfl
      have g2 : (T (sgn wd)).cps.toList[p + 1 + ρ.ow.length]? = some ((sgn wd).getD (p + 1 + ρ.ow.length) 0) := by rw [T_cps, List.getD_eq_getElem?_getD, List.getElem?_eq_getElem (by omega)]; rfl
      refine ite2 (fun c1 => ?_) (fun c1 => ?_)
      · refine ⟨true, rfl, iteT ?_⟩
        have q2 : Q (.bl (decide (ρ.be = []) || decide ((sgn wd).getD (p + 1 + ρ.ow.length) 0 ∈ ρ.be))) H := by
          rw [c1, Bool.true_or, Bool.true_and] at q; exact q
        refine ⟨_, rfl, t, _, 2, .str (T ρ.be), rfl, rfl, hT, atI_nat (j := 2) rfl, rfl, _, rfl, ?_⟩
        rw [dec_nil]
        refine ite2 (fun d1 => ?_) (fun d1 => ?_)
        · rw [d1, Bool.true_or] at q2
          exact q2
        · rw [Bool.eq_false_iff.mpr d1, Bool.false_or] at q2
          exact ⟨_, rfl, _, rfl, T (sgn wd), _, _, rfl, rfl, hzl, atI_nat g2, _, rfl, t, _, 2, .str (T ρ.be), rfl, rfl, hT, atI_nat (j := 2) rfl, _, T ρ.be, rfl, rfl, q2⟩
      · rw [Bool.eq_false_iff.mpr c1, Bool.false_or] at q
        refine ⟨_, rfl, _, rfl, _, _, rfl, rfl, T (sgn wd), _, _, rfl, rfl, hzl, atI_of g1 (by omega), _, rfl, t, _, 0, .str (T ρ.ah), rfl, rfl, hT, atI_nat (j := 0) rfl, _, T ρ.ah, rfl, rfl, _, rfl, ?_⟩
        refine ite2 (fun c2 => ?_) (fun c2 => ?_)
        · have q2 : Q (.bl (decide (ρ.be = []) || decide ((sgn wd).getD (p + 1 + ρ.ow.length) 0 ∈ ρ.be))) H := by
            rw [show decide ((sgn wd).getD (p + 1 - 1) 0 ∈ ρ.ah) = true from c2, Bool.true_and] at q; exact q
          refine ⟨_, rfl, t, _, 2, .str (T ρ.be), rfl, rfl, hT, atI_nat (j := 2) rfl, rfl, _, rfl, ?_⟩
          rw [dec_nil]
          refine ite2 (fun d1 => ?_) (fun d1 => ?_)
          · rw [d1, Bool.true_or] at q2
            exact q2
          · rw [Bool.eq_false_iff.mpr d1, Bool.false_or] at q2
            exact ⟨_, rfl, _, rfl, T (sgn wd), _, _, rfl, rfl, hzl, atI_nat g2, _, rfl, t, _, 2, .str (T ρ.be), rfl, rfl, hT, atI_nat (j := 2) rfl, _, T ρ.be, rfl, rfl, q2⟩
        · rw [show decide ((sgn wd).getD (p + 1 - 1) 0 ∈ ρ.ah) = false from Bool.eq_false_iff.mpr c2, Bool.false_and] at q
          exact q
    · rw [decide_eq_false fun z => c (eow.mp z)]
      refine iteT ?_
      unfold fitsL at q
      rw [if_neg c] at q
      exact q
end
end Say
namespace Say
open PySem PySem.Spec PyProof.Rows L2
/-- the numbers of all rules that fit -/
def allFit (rs : List Rule) (z : List Nat) (i n : Nat) : List Nat := (List.range n).filter fun k => fitsL (ruleAt rs k) z i
theorem ff_all (rs : List Rule) (z : List Nat) (i : Nat) : ff rs z i = (allFit rs z i rs.length).head? := by
  unfold allFit
  rw [List.head?_filter]
  cases e : ff rs z i with
  | none =>
    symm
    refine List.find?_eq_none.mpr fun k hk => ?_
    have hk := List.mem_range.mp hk
    have := List.findIdx?_eq_none_iff.mp e rs[k] (List.getElem_mem hk)
    rw [ruleAt_eq (List.getElem?_eq_getElem hk), this]
    exact Bool.false_ne_true
  | some k =>
    symm
    obtain ⟨h1, h2, h3⟩ := List.findIdx?_eq_some_iff_getElem.mp e
    refine List.find?_range_eq_some.mpr ⟨?_, List.mem_range.mpr h1, fun j hj => ?_⟩
    · rw [ruleAt_eq (List.getElem?_eq_getElem h1)]
      exact h2
    · have := h3 j hj
      rw [ruleAt_eq (List.getElem?_eq_getElem (show j < rs.length by omega))]
      simpa using this
theorem allFit_next (rs : List Rule) (z : List Nat) (i n : Nat) : allFit rs z i (n + 1) = allFit rs z i n ++ (if fitsL (ruleAt rs n) z i = true then [n] else []) := by
  unfold allFit
  rw [List.range_succ, List.filter_append]
  congr 1
  by_cases c : fitsL (ruleAt rs n) z i = true
  · rw [if_pos c]
    exact List.filter_cons_of_pos (p := fun k => fitsL (ruleAt rs k) z i) c
  · rw [if_neg c]
    exact List.filter_cons_of_neg (p := fun k => fitsL (ruleAt rs k) z i) c
theorem allFit_len (rs : List Rule) (z : List Nat) (i n : Nat) : (allFit rs z i n).length ≤ n := by
  unfold allFit
  have := List.length_filter_le (fun k => fitsL (ruleAt rs k) z i) (List.range n)
  rwa [List.length_range] at this
section
variable {P : Program} {w : World} {K : PySem.W.Frag} {mg : Str → Option Value} {base : Heap}
theorem dp_ints {H : Hp} : ∀ ks : List Nat, DpAll K H (ks.map fun k => V.int (k : Nat)) (ks.map fun k => PyData.int (k : Nat))
  | [] => .nil
  | k :: r => .cons (.int _) (dp_ints r)
theorem eqv_nil (ds : List PyData) : PyData.eqv (.list ds) (.list []) = ds.isEmpty := by
  cases ds <;> rfl
theorem shaped_ints (ks : List Nat) : SeqAt.shaped (.list (ks.map fun k => PyData.int (k : Nat))) = true := by
  have := PySem.W.ke_shaped_ints (ks.map fun k => ((k : Nat) : Int))
  rw [List.map_map] at this
  exact this
abbrev sLW : Stmt := topS 57
theorem scLW : FnScope ["_law_rules_here", "_law_word", "_law_place", "_law_found", "_law_some", "_law_k"] ["_law_rules_here", "_law_word"] (defScope sLW) := ⟨rfl, rfl, rfl, by decide +kernel, rfl, by decide +kernel, by decide +kernel⟩
def spLW : Sp := fun vs H Q _ => ∃ (R : Addr) (rs : List Rule) (wd : List Nat), vs = [.ref R, .str (T wd)] ∧ RulesAt H R rs ∧ (∀ ρ ∈ rs, RlOk ρ) ∧ wd.length ≤ 120 ∧ rs.length ≤ 500 ∧
  ∀ (t : Addr) (H' : Hp), Same H H' → LWAt H' t (W rs wd) → Q (.ref t) H'
theorem ok_LW {f : Addr} {fd : FuncData} (F : Fun K "_law_walk" "_law_walk" sLW f fd) (B : Bn mg) (DF : Df P w K mg base "_law_fits" ["_law_rule_here", "_law_word", "_law_place"] 1 spLF) : FnOk P w K mg base CX0 2 f fd ["_law_rules_here", "_law_word"] spLW := by
  obtain ⟨fF, fdF, GF, kF, bF, mF⟩ := DF
  refine F.ok scLW (fun vs H Q E h => ?_) (fun cdv A outer s H vs Q E hr h => ?_)
  · obtain ⟨R, rs, wd, rfl, _⟩ := h
    rfl
  · obtain ⟨R, rs, wd, rfl, hR, ho, hw, hrs, q⟩ := h
    refine ⟨_, pss_cons (ps_asg (pe_tup (pa_cons pe_int (pa_cons (pe_lst pa_nil) pa_nil))) (pg_tup (by rfl) (pgs_cons (pg_name (i := 2) scLW.nd rfl (.inr rfl)) (pgs_cons (pg_name (i := 3) scLW.nd rfl (.inl rfl)) pgs_nil))))
      (pss_cons (ps_while PassesOwn.never (pt_cmpR op_lt (pv 2) (pe_callB call_len_str (by rfl) B.len PySem.boot_len (pa_cons (pv 1) pa_nil)) (nomark _))
        (pss_cons (ps_setLc (i := 4) (own := [("_law_k", 5)]) (g := gName 5) (te := tVar 5) (tt := tB (tCall spLF [] E0 (tCons (tOp (rIxT K) (tVar 0) (tVar 5)) (tCons (tVar 1) (tCons (tVar 2) tNil))))) rfl scLW.nd rfl rfl (sw_true rfl rfl rfl (by decide +kernel))
            (pi_range1 rfl B.rng (pa_cons (pe_callB call_len (by rfl) B.len PySem.boot_len (pa_cons (pv 0) pa_nil)) pa_nil))
            (blkOk_by (N := ["_law_rules_here", "_law_word", "_law_place", "_law_found", "_law_some", "_law_k"]) (sc := defScope sLW) (by decide +kernel)) (fun _ _ _ _ _ => pg_name (i := 5) scLW.nd rfl (.inl rfl))
            (fun _ _ _ _ _ => pts_one (pt_val (pe_call GF hr (by rfl) mF kF bF .nil pass0 (pa_cons (pe_ix ix_tup (pv 0) (pv 5) (fun _ _ => rfl)) (pa_cons (pv 1) (pa_cons (pv 2) pa_nil)))))) (fun _ _ _ _ _ => pv 5))
        (pss_cons (ps_if (pt_cmpR (op_eqD hr.units) (pv 4) (pe_lst pa_nil) (nomark _)) (pss_one (ps_ret (pe_tup (pa_cons pe_str (pa_cons (pv 2) pa_nil))))) pss_nil)
        (pss_cons (ps_expr (pe_bm PySem.F.plainAttrs_list PySem.F.slot_list_append PySem.F.type_list_append mt_append (pv 3) (pa_cons (pe_tup (pa_cons (pv 2) (pa_cons (pe_ix ix_list (pv 4) pe_int (fun _ _ => rfl)) pa_nil))) pa_nil)))
        (pss_one (ps_set (i := 2) scLW.nd rfl (.inr rfl) (pe_op op_add (pv 2) (pe_callB call_len_str (by rfl) B.len PySem.boot_len (pa_cons (pe_ix ix_tup (pe_ix ix_tup (pv 0) (pe_ix ix_list (pv 4) pe_int (fun _ _ => rfl)) (fun _ _ => rfl)) pe_int (fun _ _ => rfl)) pa_nil)))))))))
      (pss_one (ps_ret (pe_tup (pa_cons pe_str (pa_cons (pv 3) pa_nil)))))), ?_⟩
    refine ⟨(by show 0 ≤ sizeLine; decide), fun D hD => ?_⟩
    refine ⟨(by show 2 ≤ sizeLine; decide), fun u hu => ?_⟩
    refine ⟨u, _, rfl, .inl (.inl upd_same), rfl, _, _, rfl, _, _, rfl, rfl, ?_⟩
    obtain ⟨rts, hRt, hRp⟩ := id hR
    have hz0 : (T wd).length ≤ sizeLine := by rw [T_len]; exact small (by omega)
    have s0 : Same H (upd H D (.lst [])) := same_new hD _
    have s1 : Same H (upd (upd H D (.lst [])) u (.tup [.int 0, .ref D])) := s0.trans (same_new hu _)
    have hD1 : (upd (upd H D (.lst [])) u (.tup [.int 0, .ref D])) D = some (.lst []) := same_new hu _ _ _ upd_same
    refine ⟨fun m σ H2 => ∃ (p : Nat) (acc : List (Nat × Nat)) (v4 : Option V), σ = [some (.ref R), some (.str (T wd)), some (.int p), some (.ref D), v4, none] ∧ wd.length + 1 ≤ p + m ∧ Same H H2 ∧ StepsAt H2 D acc ∧
      W rs wd = (acc ++ (wk rs (sgn wd) m (p + 1)).1, (wk rs (sgn wd) m (p + 1)).2), ⟨wd.length + 1, 0, [], _, rfl, by omega, s1, ⟨[], hD1, .nil⟩, rfl⟩, fun m σ H2 hW => ?_⟩
    obtain ⟨p, acc, v4, rfl, hm, s2, hS, hW⟩ := hW
    refine ⟨_, rfl, _, rfl, _, rfl, hz0, _, _, rfl, rfl, _, rfl, ite2 (fun c => ?_) (fun c => ?_)⟩
    · have c' : (p : Int) < ((T wd).length : Int) := of_decide_eq_true c
      rw [T_len] at c'
      have hp : p < wd.length := by omega
      have hlt : p + 1 < (sgn wd).length - 1 := by rw [sgn_len]; omega
      obtain ⟨m', rfl⟩ : ∃ m', m = m' + 1 := ⟨m - 1, by omega⟩
      refine ⟨fun σ' H' => ∃ (p : Nat) (acc : List (Nat × Nat)) (v4 : Option V), σ' = [some (.ref R), some (.str (T wd)), some (.int p), some (.ref D), v4, none] ∧ wd.length + 1 ≤ p + m' ∧ Same H H' ∧ StepsAt H' D acc ∧
        W rs wd = (acc ++ (wk rs (sgn wd) m' (p + 1)).1, (wk rs (sgn wd) m' (p + 1)).2), fun σ' H' h => ⟨m', Nat.lt_succ_self _, h⟩, ?_⟩
      have rl : (rts.map V.ref).length = rs.length := by rw [List.length_map, paired_len hRp]
      refine ⟨_, rfl, _, _, rfl, .inr ⟨_, .inl (.inl (s2 _ _ hRt)), rfl⟩, _, rfl, by omega, by rw [rl]; omega, fun S hSn => ?_⟩
      have hSnD : D ≠ S := by
        obtain ⟨ts, h1, _⟩ := hS
        exact ne_of_none h1 hSn
      refine lc_it (walk_range) (fun j H3 => H3 S = some (.lst ((allFit rs (sgn wd) (p + 1) j).map fun k => V.int (k : Nat))) ∧ Same H2 H3) ?_ (fun _ _ _ _ => trivial) ?_ ?_
      · exact ⟨upd_same, same_new hSn _⟩
      · rintro j x H3 H3' hj ⟨e1, e2⟩ ⟨rfl, rfl⟩
        rw [rl] at hj
        have hj : j < rs.length := by omega
        obtain ⟨a, ha, hat⟩ := paired_at' hRp (List.getElem?_eq_getElem hj)
        have er : ruleAt rs j = rs[j] := ruleAt_eq (List.getElem?_eq_getElem hj)
        have sR := s2.trans e2
        have en := allFit_next rs (sgn wd) (p + 1) j
        rw [er] at en
        refine ⟨rfl, ?_⟩
        refine ⟨_, rfl, _, rfl, R, _, 0 + (j : Int), .ref a, rfl, rfl, .inl (.inl (sR _ _ hRt)), atI_of (by rw [List.getElem?_map, ha]; rfl) (by omega), _, rfl, _, rfl, a, rs[j], wd, p, rfl, sR _ _ hat, ho _ (List.getElem_mem hj), hp, by omega, _, rfl, ite2 (fun c => ?_) (fun c => ?_)⟩
        · rw [if_pos c] at en
          refine ⟨_, rfl, _, e1, ?_, ?_, ?_⟩
          · rw [List.length_map]
            have := allFit_len rs (sgn wd) (p + 1) j
            exact small1000 (by omega)
          · rw [upd_same, en, List.map_append]
            show some (HO.lst (_ ++ [V.int (0 + (j : Int))])) = _
            rw [Int.zero_add]
            rfl
          · exact fun b u q => by
              rw [upd_ne (ne_of_none q hSn)]
              exact e2 b u q
        · rw [if_neg c, List.append_nil] at en
          exact ⟨by rw [en]; exact e1, e2⟩
      · rintro H3 ⟨e1, e2⟩
        rw [show ((((rts.map V.ref).length : Nat) : Int)).toNat = rs.length by rw [rl]; omega] at e1
        have s3 := s2.trans e2
        obtain ⟨ts, hDl, hDp⟩ := hS.same e2
        have eff := ff_all rs (sgn wd) (p + 1)
        refine ⟨_, rfl, (by show 0 ≤ sizeLine; decide), fun N hN => ?_⟩
        have sN := same_new hN (.lst [])
        have e1N := sN _ _ e1
        refine ⟨_, .list [], .lst (.inl (.inl e1N)) (dp_ints _), .lst (.inl (.inl upd_same)) .nil, shaped_ints _, by decide +kernel, _, rfl, ?_⟩
        rw [eqv_nil]
        have s3N := s3.trans sN
        cases ea : allFit rs (sgn wd) (p + 1) rs.length with
        | nil =>
          rw [ea] at eff
          rw [wk_none hlt eff] at hW
          refine iteT ?_
          refine ⟨_, rfl, (by show 2 ≤ sizeLine; decide), fun t ht => ?_⟩
          refine q t _ (s3N.trans (same_new ht _)) ?_
          unfold LWAt
          rw [hW]
          show upd _ t _ t = _
          rw [upd_same]
          rfl
        | cons k r =>
          rw [ea] at eff
          have eff : ff rs (sgn wd) (p + 1) = some k := eff
          rw [wk_some hlt eff] at hW
          have hk := ff_lt eff
          obtain ⟨a, ha, hat⟩ := paired_at' hRp (List.getElem?_eq_getElem hk)
          have hm2 := ho _ (List.getElem_mem hk)
          have er : ruleAt rs k = rs[k] := ruleAt_eq (List.getElem?_eq_getElem hk)
          refine iteF ?_
          rw [ea] at e1N
          have hDlN := sN _ _ hDl
          refine ⟨_, rfl, .inl ⟨rfl, _, .inl (.inl hDlN)⟩, _, rfl, _, rfl, S, _, 0, .int (k : Nat), rfl, rfl, .inl (.inl e1N), atI_nat (j := 0) rfl, (by show 2 ≤ sizeLine; decide), fun t ht => ?_⟩
          have sm := same_new ht (.tup [.int (p : Nat), .int (k : Nat)])
          have hDl' := sm _ _ hDlN
          have sall : Same H (upd (upd (upd H3 N (.lst [])) t (.tup [.int (p : Nat), .int (k : Nat)])) D (.lst (ts.map V.ref ++ [.ref t]))) := fun b u e => by
            rw [upd_ne (ne_of_none e hD)]
            exact sm _ _ (s3N _ _ e)
          refine ⟨D, _, _, rfl, rfl, hDl', ?_, ?_⟩
          · rw [List.length_map, paired_len hDp]
            have l1 : (W rs wd).1.length ≤ wd.length + 1 := wk_len rs (sgn wd) (wd.length + 1) 1
            rw [hW] at l1
            simp at l1
            exact small1000 (by omega)
          · have e1M : (upd (upd (upd H3 N (.lst [])) t (.tup [.int (p : Nat), .int (k : Nat)])) D (.lst (ts.map V.ref ++ [.ref t]))) S = some (.lst ((k :: r).map fun k => V.int (k : Nat))) := by
              rw [upd_ne hSnD.symm]
              exact sm _ _ e1N
            refine ⟨_, rfl, _, rfl, _, rfl, S, _, 0, .int (k : Nat), rfl, rfl, .inl (.inl e1M), atI_nat (j := 0) rfl, R, _, (k : Int), .ref a, rfl, rfl, .inl (.inl (sall _ _ hRt)), atI_nat (by rw [List.getElem?_map, ha]; rfl), a, _, 1, .str (T rs[k].ow), rfl, rfl, .inl (.inl (sall _ _ hat)), atI_nat (j := 1) rfl, _, rfl, (by rw [T_len]; have := hm2.o2; exact small (by omega)), _, _, rfl, rfl, ?_⟩
            refine ⟨p + rs[k].ow.length, acc ++ [(p, k)], some (.ref S), ?_, by have := hm2.o1; omega, sall, ?_, ?_⟩
            · have ee : ((p + rs[k].ow.length : Nat) : Int) = (p : Int) + ((T rs[k].ow).length : Int) := by rw [T_len]; omega
              rw [ee]
              rfl
            · refine ⟨ts ++ [t], by rw [upd_same, List.map_append]; rfl, paired_app (paired_mono (fun t' s h => ?_) hDp) (.cons ?_ .nil)⟩
              · rw [upd_ne (ne_of h hDl (by intro z; cases z))]
                exact sm _ _ (sN _ _ h)
              · rw [upd_ne (ne_of_none hDlN ht).symm, upd_same]
            · rw [hW, er, List.append_assoc, Nat.add_right_comm p rs[k].ow.length 1, Nat.add_sub_cancel]
              rfl
    · have c' : ¬ (p : Int) < ((T wd).length : Int) := of_decide_eq_false (Bool.eq_false_iff.mpr c)
      rw [T_len] at c'
      rw [wk_end rs (sgn wd) m (p + 1) (by rw [sgn_len]; omega)] at hW
      refine ⟨_, rfl, (by show 2 ≤ sizeLine; decide), fun t ht => ?_⟩
      have sm := same_new ht (.tup [.str (Str.ofString ""), .ref D])
      refine q t _ (s2.trans sm) ?_
      unfold LWAt
      rw [hW]
      refine ⟨D, ?_, ?_⟩
      · rw [upd_same, show Str.ofString "" = T [] from nil_eq]
      · rw [List.append_nil]
        exact hS.same sm
end
end Say
/-! dicts whose keys are None, whole numbers and texts together, and whose values are objects -/
namespace Say
open PySem PySem.Spec PyProof.Rows L2
def leafV : Leaf → V
  | .none => .non
  | .num i => .int i
  | .text x => .str x
theorem leafV_is : ∀ {k : Leaf} {u : Value}, RelV (leafV k) u → Leaf.isOf k u = true
  | .none, u, h => by cases h; rfl
  | .num i, u, h => by
    obtain ⟨t, rfl⟩ := h
    show Leaf.isOf (.num i) (.int i t) = true
    simp [Leaf.isOf]
  | .text x, u, h => by
    obtain ⟨t, rfl⟩ := h
    show Leaf.isOf (.text x) (.str x t) = true
    simp [Leaf.isOf, Value.isStrOf]
def lkv (kvs : List (Leaf × Addr)) : List (Leaf × Value) := kvs.map fun p => (p.1, .ref p.2)
/-- the dict at a: keys and objects -/
def LD (P : Program) (w : World) (a : Addr) (kvs : List (Leaf × Addr)) : HO := .ext fun h => (a == sysModules) = false ∧ h.DictOf (leafKind P w) a (lkv kvs)
def lfind (kvs : List (Leaf × Addr)) (k : Leaf) : Option Addr := (kvs.find? fun p => decide (p.1 = k)).map (·.2)
theorem valueAt_lkv : ∀ (kvs : List (Leaf × Addr)) (k : Leaf), valueAt (lkv kvs) k = (lfind kvs k).map Value.ref
  | [], k => rfl
  | p :: r, k => by
    have ih := valueAt_lkv r k
    unfold lkv lfind valueAt at *
    rw [List.map_cons, List.find?_cons, List.find?_cons]
    by_cases e : p.1 = k
    · simp [e]
    · simp only [e, decide_false]
      exact ih
theorem stored_lkv {kvs : List (Leaf × Addr)} {k : Leaf} {D : Addr} (h : lfind kvs k = none) : stored (lkv kvs) k (.ref D) = lkv (kvs ++ [(k, D)]) := by
  have hn : ∀ p ∈ kvs, ¬ p.1 = k := by
    intro p hp z
    unfold lfind at h
    rw [Option.map_eq_none_iff, List.find?_eq_none] at h
    exact h p hp (decide_eq_true z)
  unfold stored lkv
  rw [if_neg, List.map_append]
  · rfl
  · intro z
    rw [List.any_map, List.any_eq_true] at z
    obtain ⟨p, hp, hz⟩ := z
    exact hn p hp (by simpa using hz)
section
variable {X : Cx} {pins : List (Addr × Obj)} {σ : L2.St} {H : Hp} {s : Shared} {a : Addr}
theorem ld_at {P : Program} {w : World} {h : Heap} (kvs : List (Leaf × Addr)) (hm : (a == sysModules) = false) (dd : h.DictOf (leafKind P w) a (lkv kvs)) : ObjOk P w H h a (LD P w a kvs) := by
  refine ⟨⟨hm, dd⟩, ?_, fun h1 h2 ⟨x, y⟩ k => ⟨x, y.at k⟩⟩
  obtain ⟨o, _, _, ho, _⟩ := dd
  exact ⟨o, ho⟩
def tDNewL (P : Program) (w : World) : TE := fun _ H Q => ∀ p : Addr, H p = none → Q (.ref p) (upd H p (LD P w p []))
theorem pe_dnewL {pos : Pos} : PE X (.Dict [] [] pos) (tDNewL X.prog X.w) := ⟨fun pins s σ H Q I h =>
  wpAny_Dict_empty ⟨.ref s.heap.objs.size, _, I.laid (a := s.heap.objs.size) (o := LD X.prog X.w s.heap.objs.size []) (t' := s.toks) (fun _ _ q => Heap.get?_push_of_some _ q) (Nat.le_refl _)
    (ld_at [] (beq_eq_false_iff_ne.mpr (Nat.ne_of_gt I.big)) (Heap.DictOf.new s.heap)), rfl, h _ (I.hok.fresh (Nat.le_refl _))⟩⟩
/-- d.setdefault(k, [..]) -/
def tDSetdL (P : Program) (w : World) (td ty tx : TE) : TE := fun σ H Q => td σ H fun x H1 => ∃ (a : Addr) (kv1 : List (Leaf × Addr)), x = .ref a ∧ H1 a = some (LD P w a kv1) ∧ ty σ H1 fun y H2 => tx σ H2 fun z H3 => ∃ (kvs : List (Leaf × Addr)) (k : Leaf) (D : Addr), H3 a = some (LD P w a kvs) ∧
  y = leafV k ∧ z = .ref D ∧ kvs.length < sizeLine ∧ (∀ D', lfind kvs k = some D' → Q (.ref D') H3) ∧ (lfind kvs k = none → Q (.ref D) (upd H3 a (LD P w a (kvs ++ [(k, D)]))))
variable {o e f : Expr} {td ty tx : TE} {apos cpos : Pos}
theorem pe_dsetdL (ho : PE X o td) (he : PE X e ty) (hf : PE X f tx) (m : M2 X o "setdefault" apos e f cpos) : PE X (.Call (.Attribute o "setdefault" apos) [e, f] [] cpos) (tDSetdL X.prog X.w td ty tx) := by
  refine ⟨fun pins s σ H Q I h => ?_⟩
  refine wpAny_Call_method m.base m.few m.line PySem.F.plainAttrs_dict PySem.F.slot_dict_setdefault PySem.F.type_dict_setdefault (thn (ho.run pins s σ H _ I h) fun u s1 ⟨x, H1, I1, rx, a, kv1, ex, d, q1⟩ => ?_)
  subst ex
  obtain rfl : u = Value.ref a := rx
  have ok1 : ObjOk X.prog X.w H1 s1.heap a (LD X.prog X.w a kv1) := I1.hok _ _ d
  obtain ⟨⟨hd1, dd1⟩, _, _⟩ := ok1
  refine ⟨dd1.typeIs, fun b q => by cases q; obtain ⟨ob, _, _, h1, h2, _⟩ := dd1; exact ⟨ob, h1, h2.2.1⟩, ?_⟩
  rw [m.trees]
  refine Calls.callWith_builtin rfl (Calls.evalArgs_plain (Calls.spliced_cons (thn (he.run pins s1 σ H1 _ I1 q1) fun iv s2 ⟨y, H2, I2, ry, q2⟩ =>
    Calls.spliced_cons (thn (hf.run pins s2 σ H2 _ I2 q2) fun fv s3 ⟨z, H3, I3, rz, kvs, k, D, ea, ey, ez, hl, q3, q4⟩ => Calls.spliced_nil ?_))))
  subst ey ez
  obtain rfl : fv = Value.ref D := rz
  have ok3 : ObjOk X.prog X.w H3 s3.heap a (LD X.prog X.w a kvs) := I3.hok _ _ ea
  obtain ⟨⟨hd, dd⟩, _, _⟩ := ok3
  have hz : (lkv kvs).length ≤ sizeLine := by unfold lkv; rw [List.length_map]; omega
  refine call_meetsIn PySem.F.slot_dict_setdefault dd.typeIs PySem.F.entry_dict_setdefault (PySem.F.args_dict_setdefault_3 _ _ _) (kt_meets_setdefault (leafKind X.prog X.w) a (leafV_is ry) hd (.ref D)) ⟨_, dd, hz, fun v hv => ?_, fun hn h' dd' hs => ?_⟩
  · rw [valueAt_lkv] at hv
    obtain ⟨D', e1, e2⟩ := Option.map_eq_some_iff.mp hv
    subst e2
    exact ⟨.ref D', H3, I3.tok _, rfl, q3 D' e1⟩
  · rw [valueAt_lkv, Option.map_eq_none_iff] at hn
    rw [stored_lkv hn] at dd'
    have he : ∃ q, h'.get? a = some q := let ⟨q, _, _, hq, _⟩ := dd'; ⟨q, hq⟩
    exact ⟨.ref D, _, d_write (t' := s3.toks + 1) I3 (by rw [ea]; exact True.intro) hs he (ld_at (kvs ++ [(k, D)]) hd dd'), rfl, q4 hn⟩
end
end Say
/-! dicts whose keys are tuples of None, whole numbers and texts, and whose values are objects -/
namespace Say
open PySem PySem.Spec PyProof.Rows L2
abbrev LK (P : Program) (w : World) := tupleKind (leafKind P w)
/-- key, the tuple that stands for it, the value's address -/
abbrev LT3 := List Leaf × Addr × Addr
def lkt (xs : List LT3) : List (List Leaf × Addr × Value) := xs.map fun p => (p.1, p.2.1, .ref p.2.2)
def LT (P : Program) (w : World) (a : Addr) (xs : List LT3) : HO := .ext fun h => (a == sysModules) = false ∧ ∃ (o : Obj) (es : Array DictEntry) (ep : Nat), h.get? a = some o ∧ o.ExactDict ∧ o.data = .dict es ep ∧ es.toList = (lkt xs).map (entryOfKey (LK P w)) ∧ ((lkt xs).map (·.1)).Nodup
/-- a value that is the key: True and False are 1 and 0 -/
inductive LeafR : Leaf → V → Prop
  | val (k : Leaf) : LeafR k (leafV k)
  | bl (u : Bool) : LeafR (.num (if u = true then 1 else 0)) (.bl u)
theorem LeafR.is {k : Leaf} {v : V} (h : LeafR k v) {u : Value} (r : RelV v u) : Leaf.isOf k u = true := by
  cases h with
  | val k => exact leafV_is r
  | bl b =>
    obtain rfl : u = .bool b := r
    cases b <;> rfl
def KeyAt (H : Hp) (b : Addr) (k : List Leaf) : Prop := ∃ vs, H b = some (.tup vs) ∧ Paired LeafR k vs
def KeyT (H : Hp) (xs : List LT3) : Prop := ∀ p ∈ xs, KeyAt H p.2.1 p.1
def tfind (xs : List LT3) (k : List Leaf) : Option (Addr × Addr) := (xs.find? fun p => decide (p.1 = k)).map (·.2)
theorem atKey_lkt : ∀ (xs : List LT3) (k : List Leaf), atKey (lkt xs) k = (tfind xs k).map fun p => (p.1, Value.ref p.2)
  | [], k => rfl
  | p :: r, k => by
    have ih := atKey_lkt r k
    unfold lkt tfind atKey at *
    rw [List.map_cons, List.find?_cons, List.find?_cons]
    by_cases e : p.1 = k
    · simp [e]
    · simp only [e, decide_false]
      exact ih
theorem items_leaf {P : Program} {w : World} : ∀ {ks : List Leaf} {xs : List V} {vs : List Value}, Paired LeafR ks xs → Vals xs vs → ItemsAre (leafKind P w) ks vs
  | _, _, _, .nil, r => by cases r; exact .nil
  | _, _, _, .cons g t, r => by
    cases r with
    | cons h t' => exact .cons (g.is h) (items_leaf t t')
section
variable {X : Cx} {pins : List (Addr × Obj)} {σ : L2.St} {H : Hp} {s : Shared} {a : Addr}
theorem key_leaf {P : Program} {w : World} {h : Heap} (ok : HOk P w H h) {b : Addr} {k : List Leaf} (e : KeyAt H b k) : IsTupleKey (leafKind P w) h k b := by
  obtain ⟨xs, e, g⟩ := e
  obtain ⟨_, its, r, o, ho, hc, n, hd⟩ := ok _ _ e
  exact ⟨o, its.toArray, n, ho, hc, hd, by simpa using items_leaf g r⟩
theorem lt_of {P : Program} {w : World} {h : Heap} {xs : List LT3} (ok : HOk P w H h) (e : H a = some (LT P w a xs)) (hk : KeyT H xs) : (a == sysModules) = false ∧ h.DictOfH (LK P w) a (lkt xs) := by
  obtain ⟨⟨hm, o, es, ep, ho, h2, h3, h4, h5⟩, _, _⟩ := ok _ _ e
  refine ⟨hm, o, es, ep, ho, h2, h3, h4, fun x hx => ?_, h5⟩
  obtain ⟨p, hp, rfl⟩ := List.mem_map.mp hx
  exact key_leaf ok (hk p hp)
theorem lt_at {P : Program} {w : World} {h : Heap} (xs : List LT3) (hm : (a == sysModules) = false) (dd : h.DictOfH (LK P w) a (lkt xs)) : ObjOk P w H h a (LT P w a xs) := by
  obtain ⟨o, es, ep, ho, h2, h3, h4, _, h5⟩ := dd
  exact ⟨⟨hm, o, es, ep, ho, h2, h3, h4, h5⟩, ⟨o, ho⟩, fun h1 h2' ⟨x, o1, es1, ep1, y, r⟩ k => ⟨x, o1, es1, ep1, k _ y, r⟩⟩
def tDNewT' (P : Program) (w : World) : TE := fun _ H Q => ∀ p : Addr, H p = none → Q (.ref p) (upd H p (LT P w p []))
theorem pe_dnewT' {pos : Pos} : PE X (.Dict [] [] pos) (tDNewT' X.prog X.w) := ⟨fun pins s σ H Q I h =>
  wpAny_Dict_empty ⟨.ref s.heap.objs.size, _, I.laid (a := s.heap.objs.size) (o := LT X.prog X.w s.heap.objs.size []) (t' := s.toks) (fun _ _ q => Heap.get?_push_of_some _ q) (Nat.le_refl _)
    (lt_at [] (beq_eq_false_iff_ne.mpr (Nat.ne_of_gt I.big)) (Heap.DictOfH.new s.heap)), rfl, h _ (I.hok.fresh (Nat.le_refl _))⟩⟩
/-- d.setdefault(k, [..]) -/
def tDSetdT (P : Program) (w : World) (td ty tx : TE) : TE := fun σ H Q => td σ H fun x H1 => ∃ (a : Addr) (xs1 : List LT3), x = .ref a ∧ H1 a = some (LT P w a xs1) ∧ KeyT H1 xs1 ∧ ty σ H1 fun y H2 => tx σ H2 fun z H3 => ∃ (xs : List LT3) (k : List Leaf) (b D : Addr), H3 a = some (LT P w a xs) ∧ KeyT H3 xs ∧
  y = .ref b ∧ KeyAt H3 b k ∧ z = .ref D ∧ xs.length < sizeLine ∧ (∀ p, tfind xs k = some p → Q (.ref p.2) H3) ∧ (tfind xs k = none → Q (.ref D) (upd H3 a (LT P w a (xs ++ [(k, b, D)]))))
variable {o e f : Expr} {td ty tx : TE} {apos cpos : Pos}
theorem pe_dsetdT (hu : X.A.units + 1 < cLine) (ho : PE X o td) (he : PE X e ty) (hf : PE X f tx) (m : M2 X o "setdefault" apos e f cpos) : PE X (.Call (.Attribute o "setdefault" apos) [e, f] [] cpos) (tDSetdT X.prog X.w td ty tx) := by
  refine ⟨fun pins s σ H Q I h => ?_⟩
  refine wpAny_Call_method m.base m.few m.line PySem.F.plainAttrs_dict PySem.F.slot_dict_setdefault PySem.F.type_dict_setdefault (thn (ho.run pins s σ H _ I h) fun u s1 ⟨x, H1, I1, rx, a, xs1, ex, d, dk, q1⟩ => ?_)
  subst ex
  obtain rfl : u = Value.ref a := rx
  obtain ⟨hd1, dd1⟩ := lt_of I1.hok d dk
  refine ⟨dd1.typeIs, fun b q => by cases q; obtain ⟨ob, _, _, h1, h2, _⟩ := dd1; exact ⟨ob, h1, h2.2.1⟩, ?_⟩
  rw [m.trees]
  refine Calls.callWith_builtin rfl (Calls.evalArgs_plain (Calls.spliced_cons (thn (he.run pins s1 σ H1 _ I1 q1) fun iv s2 ⟨y, H2, I2, ry, q2⟩ =>
    Calls.spliced_cons (thn (hf.run pins s2 σ H2 _ I2 q2) fun fv s3 ⟨z, H3, I3, rz, xs, k, b, D, ea, ek, ey, eb, ez, hl, q3, q4⟩ => Calls.spliced_nil ?_))))
  subst ey ez
  obtain rfl : fv = Value.ref D := rz
  obtain rfl : iv = Value.ref b := ry
  obtain ⟨hd, dd⟩ := lt_of I3.hok ea ek
  have hz : (lkt xs).length ≤ sizeLine := by unfold lkt; rw [List.length_map]; omega
  refine call_setdefault_heap (hsz := hz) (tupleKind_room_in1 hu) (key_leaf I3.hok eb) hd dd (fun p hp => ?_) fun hn h' dd' hs => ?_
  · rw [atKey_lkt] at hp
    obtain ⟨p', e1, e2⟩ := Option.map_eq_some_iff.mp hp
    subst e2
    exact ⟨.ref p'.2, H3, I3.tok _, rfl, q3 p' e1⟩
  · have hn' := hn
    rw [atKey_lkt, Option.map_eq_none_iff] at hn'
    rw [storedH_new hn] at dd'
    have e1 : lkt xs ++ [(k, b, Value.ref D)] = lkt (xs ++ [(k, b, D)]) := by unfold lkt; rw [List.map_append]; rfl
    rw [e1] at dd'
    have he : ∃ q, h'.get? a = some q := let ⟨q, _, _, hq, _⟩ := dd'; ⟨q, hq⟩
    exact ⟨.ref D, _, d_write I3 (by rw [ea]; exact True.intro) hs he (lt_at (xs ++ [(k, b, D)]) hd dd'), rfl, q4 hn'⟩
end
end Say
namespace Say
open PySem PySem.Spec PyProof.Rows L2
/-- the sounds of the rules of these numbers -/
def soL (rs : List Rule) (ks : List Nat) : List Nat := (ks.map fun k => (ruleAt rs k).so).flatten
/-- how rules say a word -/
def sayW (rs : List Rule) (wd : List Nat) : Option (List Nat) := if (W rs wd).2 = none then some (soL rs ((W rs wd).1.map (·.2))) else none
def optT : Option (List Nat) → V
  | none => .non
  | some s => .str (T s)
/-- how a book says a word -/
def saidM (rs : List Rule) (es : List Exc) (wd : List Nat) : Option (List Nat) := match es.find? fun e => decide (e.1 = wd) with
  | some e => some e.2
  | none => sayW rs wd
theorem sum_T : ∀ ls : List (List Nat), ((ls.map T).map fun z : Str => z.length).sum = ls.flatten.length
  | [] => rfl
  | l :: r => by
    show (T l).length + ((r.map T).map fun z : Str => z.length).sum = (l ++ r.flatten).length
    rw [sum_T r, T_len, List.length_append]
theorem flat_len {rs : List Rule} (h : ∀ ρ ∈ rs, RlOk ρ) : ∀ ks : List Nat, (∀ k ∈ ks, k < rs.length) → (soL rs ks).length ≤ 3 * ks.length
  | [], _ => Nat.zero_le _
  | k :: r, hk => by
    have ih := flat_len h r fun j hj => hk j (List.mem_cons_of_mem _ hj)
    have hl := hk k (List.mem_cons_self ..)
    have e : ruleAt rs k = rs[k] := ruleAt_eq (List.getElem?_eq_getElem hl)
    have h3 := (h _ (List.getElem_mem hl)).s3
    show ((ruleAt rs k).so ++ soL rs r).length ≤ 3 * (r.length + 1)
    rw [List.length_append, e]
    omega
theorem wk_lt {rs : List Rule} {z : List Nat} : ∀ (m i : Nat), ∀ s ∈ (wk rs z m i).1, s.2 < rs.length
  | 0, _, s, h => by cases h
  | m + 1, i, s, h => by
    by_cases c : i < z.length - 1
    · cases e : ff rs z i with
      | none => rw [wk_none c e] at h; cases h
      | some k =>
        rw [wk_some c e] at h
        rcases List.mem_cons.mp h with rfl | h
        · exact ff_lt e
        · exact wk_lt m _ s h
    · rw [wk_end rs z _ i c] at h
      cases h
section
variable {P : Program} {w : World} {K : PySem.W.Frag} {mg : Str → Option Value} {base : Heap}
abbrev sNum : Stmt := topS 37
theorem scNum : FnScope ["steps", "_", "number"] ["steps"] (defScope sNum) := ⟨rfl, rfl, rfl, by decide +kernel, rfl, by decide +kernel, by decide +kernel⟩
def spNum : Sp := fun vs H Q _ => ∃ (D : Addr) (ss : List (Nat × Nat)), vs = [.ref D] ∧ StepsAt H D ss ∧ ss.length ≤ 200 ∧ ∀ (D' : Addr) (H' : Hp), Same H H' → H D' = none → H' D' = some (.lst (ss.map fun s => V.int (s.2 : Nat))) → Q (.ref D') H'
theorem ok_num {f : Addr} {fd : FuncData} {k : Nat} (F : Fun K "numbers_of" "numbers_of" sNum f fd) : FnOk P w K mg base CX0 (k + 1) f fd ["steps"] spNum := by
  refine F.ok scNum (fun vs H Q E h => ?_) (fun cdv A outer s H vs Q E hr h => ?_)
  · obtain ⟨D, ss, rfl, _⟩ := h
    rfl
  · obtain ⟨D, ss, rfl, ⟨ts, hD, hp⟩, hl, q⟩ := h
    refine ⟨_, pss_one (ps_ret (pe_lc (own := [("_", 1), ("number", 2)]) (g := gTup K 2 (gCons (gName 1) (gCons (gName 2) gNil))) rfl scNum.nd (pi_list (pv 0))
        (blkOk_by (N := ["steps", "_", "number"]) (sc := defScope sNum) (by decide +kernel)) (fun _ _ _ _ _ => pg_tup (by rfl) (pgs_cons (pg_name (i := 1) scNum.nd rfl (.inl rfl)) (pgs_cons (pg_name (i := 2) scNum.nd rfl (.inl rfl)) pgs_nil)))
        (fun _ _ _ _ _ => pts_nil) (fun _ _ _ _ _ => pv 2))), ?_⟩
    refine ⟨_, rfl, D, rfl, ⟨_, .inl (.inl hD)⟩, fun D' hD' => ?_⟩
    refine lc_it (walk_list (xs := ts.map V.ref)) (fun i H2 => H2 D' = some (.lst ((ss.take i).map fun s => V.int (s.2 : Nat))) ∧ Same H H2) ?_ (fun i H2 _ h => .inl (.inl (h.2 _ _ hD))) ?_ ?_
    · exact ⟨upd_same, same_new hD' _⟩
    · rintro i x H2 H2' hi ⟨e1, e2⟩ ⟨rfl, hx⟩
      rw [List.getElem?_map] at hx
      obtain ⟨a, ha, e⟩ := Option.map_eq_some_iff.mp hx
      subst e
      obtain ⟨st, hst, hat⟩ := paired_at hp ha
      have hi2 : i < ss.length := (List.getElem?_eq_some_iff.mp hst).1
      refine ⟨a, _, rfl, .inl (.inl (e2 _ _ hat)), rfl, _, _, rfl, _, _, rfl, rfl, ?_⟩
      refine ⟨rfl, _, rfl, _, e1, ?_, ?_, ?_⟩
      · rw [List.length_map, List.length_take]
        exact small1000 (by omega)
      · rw [upd_same, List.take_add_one, hst, List.map_append]
        rfl
      · exact fun b u q => by
          rw [upd_ne (ne_of_none q hD')]
          exact e2 b u q
    · rintro H2 ⟨e1, e2⟩
      rw [List.length_map, paired_len hp, List.take_length] at e1
      exact q D' H2 e2 hD' e1
end
end Say
namespace Say
open PySem PySem.Spec PyProof.Rows L2
section
variable {P : Program} {w : World} {K : PySem.W.Frag} {mg : Str → Option Value} {base : Heap}
abbrev sEnd : Stmt := topS 36
theorem scEnd : FnScope ["rules", "tail", "steps", "stuck"] ["rules", "tail"] (defScope sEnd) := ⟨rfl, rfl, rfl, by decide +kernel, rfl, by decide +kernel, by decide +kernel⟩
/-- the numbers by which a tail is said -/
def endM (rs : List Rule) : Option (List Nat) → Option (List Nat)
  | none => none
  | some t => if (Wt rs t).2 = none then some ((Wt rs t).1.map (·.2)) else none
def ensM (rs : List Rule) (tl : Option (List Nat)) : Option (List Nat) := (endM rs tl).map (soL rs)
theorem sayW_ens (rs : List Rule) (wd : List Nat) : sayW rs wd = ensM rs (some (35 :: wd)) := by
  unfold sayW ensM endM
  rw [W_Wt]
  by_cases c : (Wt rs (35 :: wd)).2 = none
  · rw [if_pos c]
    simp only [c, if_true, Option.map_some]
  · rw [if_neg c]
    simp only [c, if_false, Option.map_none]
def EndV (H : Hp) (v : V) : Option (List Nat) → Prop
  | none => v = .non
  | some ks => ∃ D, v = .ref D ∧ H D = some (.lst (ks.map fun k => V.int (k : Nat)))
/-- a tail, not long -/
def TlOk (tl : Option (List Nat)) : Prop := ∀ t, tl = some t → 1 ≤ t.length ∧ t.length ≤ 81
def spEnd : Sp := fun vs H Q _ => ∃ (R : Addr) (rs : List Rule) (tl : Option (List Nat)), vs = [.ref R, optT tl] ∧ RulesAt H R rs ∧ (∀ ρ ∈ rs, RlOk ρ) ∧ TlOk tl ∧
  ∀ (v : V) (H' : Hp), Same H H' → EndV H' v (endM rs tl) → Q v H'
theorem ok_end {f : Addr} {fd : FuncData} (F : Fun K "ending" "ending" sEnd f fd) (DS : Df P w K mg base "steps_of" ["rules", "tail"] 3 spSt) (DN : Df P w K mg base "numbers_of" ["steps"] 1 spNum) : FnOk P w K mg base CX0 4 f fd ["rules", "tail"] spEnd := by
  obtain ⟨fS, fdS, GS, kS, bS, mS⟩ := DS
  obtain ⟨fN, fdN, GN, kN, bN, mN⟩ := DN
  refine F.ok scEnd (fun vs H Q E h => ?_) (fun cdv A outer s H vs Q E hr h => ?_)
  · obtain ⟨R, rs, tl, rfl, _⟩ := h
    rfl
  · obtain ⟨R, rs, tl, rfl, hR, ho, hw, q⟩ := h
    have hr1 : Room 1 _ := hr.mono (by decide)
    refine ⟨_, pss_cons (ps_if (pt_cmpR op_isN (pv 1) pe_non (nomark _)) (pss_one (ps_ret pe_non)) pss_nil)
      (pss_cons (ps_asg (pe_call GS hr (by rfl) mS kS bS .nil pass0 (pa_cons (pv 0) (pa_cons (pv 1) pa_nil))) (pg_tup (by rfl) (pgs_cons (pg_name (i := 2) scEnd.nd rfl (.inl rfl)) (pgs_cons (pg_name (i := 3) scEnd.nd rfl (.inl rfl)) pgs_nil))))
      (pss_cons (ps_if (pt_cmpR op_notN (pv 3) pe_non (nomark _)) (pss_one (ps_ret pe_non)) pss_nil)
      (pss_one (ps_ret (pe_call GN hr1 (by rfl) mN kN bN .nil pass0 (pa_cons (pv 2) pa_nil)))))), ?_⟩
    cases tl with
    | none =>
      refine ⟨_, rfl, rfl, _, rfl, iteT ?_⟩
      exact q _ H (Same.refl H) rfl
    | some tl =>
    obtain ⟨h1, h81⟩ := hw tl rfl
    refine ⟨_, rfl, rfl, _, rfl, ?_⟩
    rw [show decide (optT (some tl) = V.non) = false from decide_eq_false (fun z => by cases z)]
    refine iteF ?_
    refine ⟨_, rfl, _, rfl, R, rs, tl, rfl, hR, ho, h1, h81, fun t D H1 s1 hD ht hS => ?_⟩
    refine ⟨t, _, rfl, .inl (.inl ht), rfl, _, _, rfl, _, _, rfl, rfl, ?_⟩
    refine ⟨_, rfl, rfl, _, rfl, ?_⟩
    simp only [endM] at q
    cases e : (Wt rs tl).2 with
    | some p =>
      rw [e, if_neg (fun z => by cases z)] at q
      rw [show decide (optI (some p) = V.non) = false from decide_eq_false (fun z => by cases z)]
      refine iteT ?_
      exact q _ H1 s1 rfl
    | none =>
      rw [e, if_pos rfl] at q
      refine iteF ?_
      have hl : (Wt rs tl).1.length ≤ tl.length := wk_len rs (tl ++ [35]) tl.length 1
      refine ⟨_, rfl, D, _, rfl, hS, by omega, fun D' H2 s2 _ h2 => ?_⟩
      refine q _ H2 (s1.trans s2) ⟨D', rfl, ?_⟩
      rw [h2, List.map_map]
      rfl
end
end Say
namespace Say
open PySem PySem.Spec PyProof.Rows L2
/-- the tail with a sign more, and the numbers of what is settled by it -/
def tkM (rs : List Rule) (tl : Option (List Nat)) (c : Nat) : Option (List Nat) × List Nat := match tl with
  | none => (none, [])
  | some t => if (t ++ [c]).length < 4 then (some (t ++ [c]), []) else
    match ff rs (t ++ [c]) 1 with
    | none => (none, [])
    | some k => (some ((t ++ [c]).drop (ruleAt rs k).ow.length), [k])
theorem cut_from {z : List Nat} {n : Nat} (h : n ≤ z.length) : cutS (T z) (some (n : Int)) none = T (z.drop n) := by
  unfold cutS
  rw [HT.sIx_nat]
  show T ((z.drop (min n (T z).length)).take ((T z).length - min n (T z).length)) = _
  rw [T_len, Nat.min_eq_left h, List.take_of_length_le (by rw [List.length_drop]; omega)]
section
variable {P : Program} {w : World} {K : PySem.W.Frag} {mg : Str → Option Value} {base : Heap}
abbrev sTk : Stmt := topS 35
theorem scTk : FnScope ["rules", "tail", "letter", "signs", "number"] ["rules", "tail", "letter"] (defScope sTk) := ⟨rfl, rfl, rfl, by decide +kernel, rfl, by decide +kernel, by decide +kernel⟩
def spTk : Sp := fun vs H Q _ => ∃ (R : Addr) (rs : List Rule) (tl : Option (List Nat)) (c : Nat), vs = [.ref R, optT tl, .str (T [c])] ∧ RulesAt H R rs ∧ (∀ ρ ∈ rs, RlOk ρ) ∧ (∀ t, tl = some t → 1 ≤ t.length ∧ t.length ≤ 3) ∧
  ∀ (u D : Addr) (H' : Hp), Same H H' → H D = none → H' u = some (.tup [optT (tkM rs tl c).1, .ref D]) → H' D = some (.lst ((tkM rs tl c).2.map fun k => V.int (k : Nat))) → Q (.ref u) H'
theorem ok_tk {f : Addr} {fd : FuncData} (F : Fun K "taken" "taken" sTk f fd) (B : Bn mg) (cO : KI mg "OWN" 1) (hS : KI mg "SETTLING" 4) (DF : Df P w K mg base "first_fit" ["rules", "signs", "at"] 2 spFF) : FnOk P w K mg base CX0 3 f fd ["rules", "tail", "letter"] spTk := by
  obtain ⟨fF, fdF, GF, kF, bF, mF⟩ := DF
  obtain ⟨tO, mO⟩ := cO
  obtain ⟨tS, mS⟩ := hS
  refine F.ok scTk (fun vs H Q E h => ?_) (fun cdv A outer s H vs Q E hr h => ?_)
  · obtain ⟨R, rs, tl, c, rfl, _⟩ := h
    rfl
  · obtain ⟨R, rs, tl, c, rfl, hR, ho, ht, q⟩ := h
    refine ⟨_, pss_cons (ps_if (pt_cmpR op_isN (pv 1) pe_non (nomark _)) (pss_one (ps_ret (pe_tup (pa_cons pe_non (pa_cons (pe_lst pa_nil) pa_nil))))) pss_nil)
      (pss_cons (ps_set (i := 3) scTk.nd rfl (.inl rfl) (pe_op op_add_str (pv 1) (pv 2)))
      (pss_cons (ps_if (pt_cmpR op_lt (pe_callB call_len_str (by rfl) B.len PySem.boot_len (pa_cons (pv 3) pa_nil)) (pe_glob (v := .int 4) rfl mS ⟨_, rfl⟩) (nomark _)) (pss_one (ps_ret (pe_tup (pa_cons (pv 3) (pa_cons (pe_lst pa_nil) pa_nil))))) pss_nil)
      (pss_cons (ps_set (i := 4) scTk.nd rfl (.inl rfl) (pe_call GF hr (by rfl) mF kF bF .nil pass0 (pa_cons (pv 0) (pa_cons (pv 3) (pa_cons pe_int pa_nil)))))
      (pss_cons (ps_if (pt_cmpR op_isN (pv 4) pe_non (nomark _)) (pss_one (ps_ret (pe_tup (pa_cons pe_non (pa_cons (pe_lst pa_nil) pa_nil))))) pss_nil)
      (pss_one (ps_ret (pe_tup (pa_cons (pe_slice sl_str (pv 3) (po_some (pe_callB call_len_str (by rfl) B.len PySem.boot_len (pa_cons (pe_ix ix_tup (pe_ix ix_tup (pv 0) (pv 4) (fun _ _ => rfl)) (pe_glob (v := .int 1) rfl mO ⟨_, rfl⟩) (fun _ _ => rfl)) pa_nil))) po_none)
        (pa_cons (pe_lst (pa_cons (pv 4) pa_nil)) pa_nil))))))))), ?_⟩
    -- an answer with no number
    have none_ : ∀ (v : V) (H1 : Hp), Same H H1 → (tkM rs tl c).2 = [] → v = optT (tkM rs tl c).1 → (0 ≤ sizeLine ∧ ∀ D, H1 D = none → (2 ≤ sizeLine ∧ ∀ u, (upd H1 D (.lst [])) u = none → Q (.ref u) (upd (upd H1 D (.lst [])) u (.tup [v, .ref D])))) := fun v H1 s1 e1 e2 => by
      refine ⟨by decide, fun D hD => ⟨by decide, fun u hu => ?_⟩⟩
      have sD := same_new hD (.lst [])
      have su := same_new hu (.tup [v, .ref D])
      refine q u D _ (s1.trans (sD.trans su)) (s1.free hD) (by rw [upd_same, e2]) ?_
      rw [e1]
      exact su _ _ upd_same
    cases tl with
    | none =>
      refine ⟨_, rfl, rfl, _, rfl, iteT ?_⟩
      exact none_ _ H (Same.refl H) rfl rfl
    | some t =>
      obtain ⟨t1, t3⟩ := ht t rfl
      have hz : (t ++ [c]).length = t.length + 1 := by simp
      refine ⟨_, rfl, rfl, _, rfl, iteF ?_⟩
      refine ⟨_, rfl, _, rfl, _, _, rfl, rfl, (by rw [T_len, T_len]; exact small (by simp; omega)), ?_⟩
      rw [T_app]
      refine ⟨_, rfl, _, rfl, (by rw [T_len]; exact small (by omega)), _, _, rfl, rfl, _, rfl, ?_⟩
      rw [T_len]
      refine ite2 (fun c0 => ?_) (fun c0 => ?_)
      · have c1 : (t ++ [c]).length < 4 := by have := of_decide_eq_true c0; omega
        refine ⟨_, rfl, none_ _ H (Same.refl H) ?_ ?_⟩
        · unfold tkM; simp only; rw [if_pos c1]
        · unfold tkM; simp only; rw [if_pos c1]; rfl
      · have c1 : ¬ (t ++ [c]).length < 4 := by
          have := of_decide_eq_false (Bool.eq_false_iff.mpr c0)
          omega
        have h4 : (t ++ [c]).length = 4 := by omega
        refine ⟨_, rfl, _, rfl, R, rs, t ++ [c], 1, rfl, hR, ho, Nat.le_refl 1, by omega, by omega, fun ρ hρ _ => by have := (ho ρ hρ).o2; omega, fun H1 s1 => ?_⟩
        cases hf : ff rs (t ++ [c]) 1 with
        | none =>
          refine ⟨_, rfl, rfl, _, rfl, iteT ?_⟩
          refine none_ _ H1 s1 ?_ ?_
          · unfold tkM; simp only; rw [if_neg c1, hf]
          · unfold tkM; simp only; rw [if_neg c1, hf]; rfl
        | some k =>
          have hk := ff_lt hf
          have er : ruleAt rs k = rs[k] := ruleAt_eq (List.getElem?_eq_getElem hk)
          have o2 := (ho _ (List.getElem_mem hk)).o2
          obtain ⟨rts, hRt, hRp⟩ := hR.kt (.of s1)
          obtain ⟨ra, hra, hrat⟩ := paired_at' hRp (List.getElem?_eq_getElem hk)
          refine ⟨_, rfl, rfl, _, rfl, iteF ?_⟩
          have hol : (T rs[k].ow).length ≤ sizeLine := by rw [T_len]; exact small (by omega)
          have hzl : (T (t ++ [c])).length ≤ sizeLine := by rw [T_len]; exact small (by omega)
          have e1 : tkM rs (some t) c = (some ((t ++ [c]).drop rs[k].ow.length), [k]) := by
            unfold tkM
            simp only
            rw [if_neg c1, hf]
            simp only
            rw [er]
          rw [e1] at q
          refine ⟨_, rfl, _, rfl, _, rfl, R, _, (k : Int), .ref ra, rfl, rfl, .inl (.inl hRt), atI_nat (by rw [List.getElem?_map, hra]; rfl), ra, _, 1, .str (T rs[k].ow), rfl, rfl, .inl (.inl hrat), atI_nat (j := 1) rfl, _, rfl, hol, _, rfl, T (t ++ [c]), rfl, hzl, ?_⟩
          rw [T_len, cut_from (by omega)]
          refine ⟨_, rfl, (by show 1 ≤ sizeLine; decide), fun D hD => ⟨(by show 2 ≤ sizeLine; decide), fun u hu => ?_⟩⟩
          have sD := same_new hD (.lst [V.int (k : Nat)])
          have su := same_new hu (.tup [.str (T ((t ++ [c]).drop rs[k].ow.length)), .ref D])
          exact q u D _ (s1.trans (sD.trans su)) (s1.free hD) upd_same (su _ _ upd_same)
end
end Say
namespace Say
open PySem PySem.Spec PyProof.Rows L2
/-! ### walks with fuel enough are alike -/
theorem wk_fuel {rs : List Rule} (h : ∀ ρ ∈ rs, RlOk ρ) {z : List Nat} : ∀ m m' i : Nat, z.length ≤ m + i + 1 → z.length ≤ m' + i + 1 → wk rs z m i = wk rs z m' i
  | 0, m', i, a, b => by
    have n : ¬ i < z.length - 1 := by omega
    rw [wk_end rs z 0 i n, wk_end rs z m' i n]
  | m + 1, m', i, a, b => by
    by_cases n : i < z.length - 1
    · obtain ⟨m'', rfl⟩ : ∃ m'', m' = m'' + 1 := ⟨m' - 1, by omega⟩
      cases e : ff rs z i with
      | none => rw [wk_none n e, wk_none n e]
      | some k =>
        have o1 : 1 ≤ (ruleAt rs k).ow.length := by
          rw [ruleAt_eq (List.getElem?_eq_getElem (ff_lt e))]
          exact (h _ (List.getElem_mem (ff_lt e))).o1
        rw [wk_some n e, wk_some n e, wk_fuel h m m'' _ (by omega) (by omega)]
    · rw [wk_end rs z _ i n, wk_end rs z m' i n]
/-- the walk from a place on -/
def wc (rs : List Rule) (z : List Nat) (i : Nat) : List (Nat × Nat) × Option Nat := wk rs z z.length i
theorem wc_end {rs : List Rule} {z : List Nat} {i : Nat} (n : ¬ i < z.length - 1) : wc rs z i = ([], none) := wk_end rs z _ i n
theorem wc_none {rs : List Rule} {z : List Nat} {i : Nat} (n : i < z.length - 1) (e : ff rs z i = none) : wc rs z i = ([], some (i - 1)) := by
  unfold wc
  obtain ⟨m, hm⟩ : ∃ m, z.length = m + 1 := ⟨z.length - 1, by omega⟩
  rw [hm, wk_none n e]
theorem wc_some {rs : List Rule} (h : ∀ ρ ∈ rs, RlOk ρ) {z : List Nat} {i k : Nat} (n : i < z.length - 1) (e : ff rs z i = some k) : wc rs z i = ((i - 1, k) :: (wc rs z (i + (ruleAt rs k).ow.length)).1, (wc rs z (i + (ruleAt rs k).ow.length)).2) := by
  unfold wc
  obtain ⟨m, hm⟩ : ∃ m, z.length = m + 1 := ⟨z.length - 1, by omega⟩
  have o1 : 1 ≤ (ruleAt rs k).ow.length := by
    rw [ruleAt_eq (List.getElem?_eq_getElem (ff_lt e))]
    exact (h _ (List.getElem_mem (ff_lt e))).o1
  rw [wk_fuel h z.length (m + 1) i (by omega) (by omega), wk_some n e, wk_fuel h m z.length _ (by omega) (by omega)]
theorem W_wc {rs : List Rule} (h : ∀ ρ ∈ rs, RlOk ρ) (wd : List Nat) : W rs wd = wc rs (sgn wd) 1 := wk_fuel h _ _ 1 (by rw [sgn_len]; omega) (by omega)
theorem Wt_wc {rs : List Rule} (h : ∀ ρ ∈ rs, RlOk ρ) (tl : List Nat) : Wt rs tl = wc rs (tl ++ [35]) 1 := wk_fuel h _ _ 1 (by rw [len1]; omega) (by omega)
/-! ### what rules look at -/
theorem fits_drop (ρ : Rule) (z : List Nat) (p i : Nat) : fitsL ρ (z.drop p) (i + 1) = fitsL ρ z (p + i + 1) := by
  unfold fitsL
  rw [List.drop_drop, ← Nat.add_assoc]
  simp only [List.getD_eq_getElem?_getD, List.getElem?_drop]
  rw [show p + (i + 1 - 1) = p + i + 1 - 1 by omega, show p + (i + 1 + ρ.ow.length) = p + i + 1 + ρ.ow.length by omega]
theorem fits_pre (ρ : Rule) (u v : List Nat) (i : Nat) (h1 : 1 ≤ i) (h : i + ρ.ow.length < u.length) : fitsL ρ (u ++ v) i = fitsL ρ u i := by
  unfold fitsL
  rw [List.drop_append_of_le_length (by omega), List.take_append_of_le_length (by rw [List.length_drop]; omega)]
  simp only [List.getD_eq_getElem?_getD]
  rw [List.getElem?_append_left (by omega), List.getElem?_append_left (by omega)]
theorem ff_congr {rs : List Rule} {z z' : List Nat} {i i' : Nat} (h : ∀ ρ ∈ rs, fitsL ρ z i = fitsL ρ z' i') : ff rs z i = ff rs z' i' := by
  unfold ff
  induction rs with
  | nil => rfl
  | cons a r ih =>
    rw [List.findIdx?_cons, List.findIdx?_cons, h a (List.mem_cons_self ..), ih fun ρ hρ => h ρ (List.mem_cons_of_mem _ hρ)]
theorem ff_drop (rs : List Rule) (z : List Nat) (p i : Nat) : ff rs (z.drop p) (i + 1) = ff rs z (p + i + 1) := ff_congr fun ρ _ => fits_drop ρ z p i
theorem ff_at (rs : List Rule) (z : List Nat) (p : Nat) : ff rs z (p + 1) = ff rs (z.drop p) 1 := (ff_drop rs z p 0).symm
theorem ff_pre {rs : List Rule} (h : ∀ ρ ∈ rs, RlOk ρ) (u v : List Nat) (h4 : 4 ≤ u.length) : ff rs (u ++ v) 1 = ff rs u 1 := ff_congr fun ρ hρ => fits_pre ρ u v 1 (Nat.le_refl 1) (by have := (h ρ hρ).o2; omega)
/-- a walk moved on -/
def shiftW (p : Nat) (q : List (Nat × Nat) × Option Nat) : List (Nat × Nat) × Option Nat := (q.1.map fun s => (s.1 + p, s.2), q.2.map (· + p))
theorem wk_shift (rs : List Rule) (z : List Nat) (p : Nat) (hp : p ≤ z.length) : ∀ m i : Nat, wk rs z m (p + i + 1) = shiftW p (wk rs (z.drop p) m (i + 1))
  | 0, i => rfl
  | m + 1, i => by
    have hl : (z.drop p).length = z.length - p := List.length_drop
    by_cases n : p + i + 1 < z.length - 1
    · have n' : i + 1 < (z.drop p).length - 1 := by omega
      have ef := ff_drop rs z p i
      cases e : ff rs z (p + i + 1) with
      | none =>
        rw [wk_none n e, wk_none n' (by rw [ef]; exact e)]
        unfold shiftW
        simp only [List.map_nil, Option.map_some]
        rw [show p + i + 1 - 1 = i + 1 - 1 + p by omega]
      | some k =>
        rw [wk_some n e, wk_some n' (by rw [ef]; exact e)]
        have ih := wk_shift rs z p hp m (i + (ruleAt rs k).ow.length)
        rw [show p + (i + (ruleAt rs k).ow.length) + 1 = p + i + 1 + (ruleAt rs k).ow.length by omega, show i + (ruleAt rs k).ow.length + 1 = i + 1 + (ruleAt rs k).ow.length by omega] at ih
        rw [ih]
        unfold shiftW
        simp only [List.map_cons]
        rw [show p + i + 1 - 1 = i + 1 - 1 + p by omega]
    · rw [wk_end rs z _ _ n, wk_end rs (z.drop p) _ _ (by omega)]
      rfl
theorem wc_shift {rs : List Rule} (h : ∀ ρ ∈ rs, RlOk ρ) (z : List Nat) (p : Nat) (hp : p ≤ z.length) : wc rs z (p + 1) = shiftW p (wc rs (z.drop p) 1) := by
  unfold wc
  rw [show p + 1 = p + 0 + 1 by omega, wk_shift rs z p hp z.length 0]
  congr 1
  exact wk_fuel h _ _ 1 (by rw [List.length_drop]; omega) (by omega)
/-! ### letters fed -/
/-- wd was fed: the tail, the numbers that are settled -/
def Fed (rs : List Rule) (wd tl ks : List Nat) : Prop := ∃ (p : Nat) (st : List (Nat × Nat)), p ≤ wd.length ∧ wd.length ≤ p + 2 ∧ tl = (35 :: wd).drop p ∧ st.map (·.2) = ks ∧
  ∀ v, wc rs (sgn (wd ++ v)) 1 = (st ++ (wc rs (sgn (wd ++ v)) (p + 1)).1, (wc rs (sgn (wd ++ v)) (p + 1)).2)
theorem fed_nil (rs : List Rule) : Fed rs [] [35] [] := ⟨0, [], Nat.le_refl _, Nat.zero_le _, rfl, rfl, fun v => rfl⟩
theorem Fed.len {rs : List Rule} {wd tl ks : List Nat} (h : Fed rs wd tl ks) : 1 ≤ tl.length ∧ tl.length ≤ 3 ∧ tl.length ≤ wd.length + 1 := by
  obtain ⟨p, st, h1, h2, rfl, _⟩ := h
  rw [List.length_drop, List.length_cons]
  omega
theorem sgn_drop (wd v : List Nat) (p : Nat) (h : p ≤ wd.length + 1) : (sgn (wd ++ v)).drop p = (35 :: wd).drop p ++ (v ++ [35]) := by
  have e : sgn (wd ++ v) = (35 :: wd) ++ (v ++ [35]) := by unfold sgn; simp
  rw [e, List.drop_append_of_le_length (by rw [List.length_cons]; exact h)]
theorem Fed.step {rs : List Rule} (h : ∀ ρ ∈ rs, RlOk ρ) {wd tl ks tl' : List Nat} {c : Nat} (F : Fed rs wd tl ks) (e : (tkM rs (some tl) c).1 = some tl') : Fed rs (wd ++ [c]) tl' (ks ++ (tkM rs (some tl) c).2) := by
  obtain ⟨p, st, h1, h2, rfl, rfl, hv⟩ := F
  have et : (35 :: wd).drop p ++ [c] = (35 :: (wd ++ [c])).drop p := by
    rw [← List.cons_append, List.drop_append_of_le_length (by rw [List.length_cons]; omega)]
  have hl : ((35 :: (wd ++ [c])).drop p).length = wd.length + 2 - p := by
    rw [List.length_drop, List.length_cons, List.length_append, List.length_singleton]
  unfold tkM at e ⊢
  simp only at e ⊢
  rw [et] at e ⊢
  by_cases c4 : ((35 :: (wd ++ [c])).drop p).length < 4
  · rw [if_pos c4] at e ⊢
    cases e
    refine ⟨p, st, by rw [List.length_append]; omega, by rw [List.length_append, List.length_singleton]; omega, rfl, by simp, fun v => ?_⟩
    have := hv ([c] ++ v)
    rw [← List.append_assoc] at this
    exact this
  · rw [if_neg c4] at e ⊢
    cases hf : ff rs ((35 :: (wd ++ [c])).drop p) 1 with
    | none => rw [hf] at e; cases e
    | some k =>
      rw [hf] at e
      cases e
      have hk := ff_lt hf
      have er : ruleAt rs k = rs[k] := ruleAt_eq (List.getElem?_eq_getElem hk)
      have o1 := (h _ (List.getElem_mem hk)).o1
      have o2 := (h _ (List.getElem_mem hk)).o2
      refine ⟨p + (ruleAt rs k).ow.length, st ++ [(p, k)], by rw [er, List.length_append, List.length_singleton]; omega, by rw [er, List.length_append, List.length_singleton]; omega, by rw [List.drop_drop], by simp, fun v => ?_⟩
      have := hv ([c] ++ v)
      rw [← List.append_assoc] at this
      rw [this]
      have fz : ff rs (sgn (wd ++ [c] ++ v)) (p + 1) = some k := by
        rw [← hf, ff_at, sgn_drop _ _ _ (by rw [List.length_append]; omega)]
        exact ff_pre h _ _ (by omega)
      have nz : p + 1 < (sgn (wd ++ [c] ++ v)).length - 1 := by
        rw [sgn_len, List.length_append, List.length_append, List.length_singleton]; omega
      rw [wc_some h nz fz, show p + 1 + (ruleAt rs k).ow.length = p + (ruleAt rs k).ow.length + 1 by omega]
      rw [List.append_assoc st [(p, k)]]
      rfl
/-- where a letter isn't taken no word that begins so is said -/
theorem Fed.stuck {rs : List Rule} (h : ∀ ρ ∈ rs, RlOk ρ) {wd tl ks : List Nat} {c : Nat} (F : Fed rs wd tl ks) (e : (tkM rs (some tl) c).1 = none) (v : List Nat) : (W rs (wd ++ [c] ++ v)).2 = some (wd.length + 1 - tl.length) := by
  obtain ⟨p, st, h1, h2, rfl, rfl, hv⟩ := F
  have et : (35 :: wd).drop p ++ [c] = (35 :: (wd ++ [c])).drop p := by
    rw [← List.cons_append, List.drop_append_of_le_length (by rw [List.length_cons]; omega)]
  have hl : ((35 :: (wd ++ [c])).drop p).length = wd.length + 2 - p := by
    rw [List.length_drop, List.length_cons, List.length_append, List.length_singleton]
  unfold tkM at e
  simp only at e
  rw [et] at e
  by_cases c4 : ((35 :: (wd ++ [c])).drop p).length < 4
  · rw [if_pos c4] at e
    cases e
  · rw [if_neg c4] at e
    cases hf : ff rs ((35 :: (wd ++ [c])).drop p) 1 with
    | some k => rw [hf] at e; cases e
    | none =>
      have := hv ([c] ++ v)
      rw [← List.append_assoc] at this
      have fz : ff rs (sgn (wd ++ [c] ++ v)) (p + 1) = none := by
        rw [← hf, ff_at, sgn_drop _ _ _ (by rw [List.length_append]; omega)]
        exact ff_pre h _ _ (by omega)
      have nz : p + 1 < (sgn (wd ++ [c] ++ v)).length - 1 := by
        rw [sgn_len, List.length_append, List.length_append, List.length_singleton]; omega
      rw [W_wc h, this, wc_none nz fz]
      show some (p + 1 - 1) = _
      rw [List.length_drop, List.length_cons, show p + 1 - 1 = wd.length + 1 - (wd.length + 1 - p) by omega]
/-- the whole word, by its tail's end -/
theorem Fed.whole {rs : List Rule} (h : ∀ ρ ∈ rs, RlOk ρ) {wd tl ks : List Nat} (F : Fed rs wd tl ks) : (W rs wd).1.map (·.2) = ks ++ (Wt rs tl).1.map (·.2) ∧ (W rs wd).2 = (Wt rs tl).2.map (· + (wd.length + 1 - tl.length)) := by
  obtain ⟨p, st, h1, h2, rfl, rfl, hv⟩ := F
  have := hv []
  rw [List.append_nil] at this
  have e := wc_shift h (sgn wd) p (by rw [sgn_len]; omega)
  have ed : (sgn wd).drop p = (35 :: wd).drop p ++ [35] := by
    have := sgn_drop wd [] p (by omega)
    rw [List.append_nil] at this
    exact this
  rw [ed, ← Wt_wc h] at e
  rw [e] at this
  rw [W_wc h, this]
  unfold shiftW
  simp only [List.map_append, List.map_map]
  refine ⟨rfl, ?_⟩
  rw [List.length_drop, List.length_cons, show wd.length + 1 - (wd.length + 1 - p) = p by omega]
theorem Fed.kb {rs : List Rule} {wd tl ks : List Nat} (F : Fed rs wd tl ks) : (∀ k ∈ ks, k < rs.length) ∧ ks.length ≤ wd.length + 2 := by
  obtain ⟨p, st, h1, h2, rfl, rfl, hv⟩ := F
  have e := hv []
  rw [List.append_nil] at e
  have l : (wc rs (sgn wd) 1).1.length ≤ (sgn wd).length := wk_len rs (sgn wd) (sgn wd).length 1
  rw [e, List.length_append, sgn_len] at l
  refine ⟨fun k hk => ?_, by rw [List.length_map]; omega⟩
  obtain ⟨s, hs, rfl⟩ := List.mem_map.mp hk
  refine wk_lt (rs := rs) (z := sgn wd) (sgn wd).length 1 s ?_
  show s ∈ (wc rs (sgn wd) 1).1
  rw [e]
  exact List.mem_append_left _ hs
theorem soL_app (rs : List Rule) (a b : List Nat) : soL rs (a ++ b) = soL rs a ++ soL rs b := by
  unfold soL
  rw [List.map_append, List.flatten_append]
end Say
namespace Say
open PySem PySem.Spec PyProof.Rows L2
def wv (ws : List (List Nat)) : List V := ws.map fun x => V.str (T x)
def leW (a b : List Nat) : Bool := decide (a ≤ b)
def leL (a b : List Nat) : Bool := decide ((a.length : Int) ≤ (b.length : Int))
/-- a value that is the text -/
def TxIs (v : Value) (x : List Nat) : Prop := ∃ t, v = .str (T x) t
theorem txs_each : ∀ {ws : List (List Nat)} {its : List Value}, Vals (wv ws) its → PySem.W.EachIs TxIs its ws
  | [], _, .nil => .nil
  | x :: r, _, .cons a b => .cons a (txs_each b)
theorem each_txs : ∀ {ws : List (List Nat)} {its : List Value}, PySem.W.EachIs TxIs its ws → Vals (wv ws) its
  | _, _, .nil => .nil
  | _, _, .cons a b => .cons a (each_txs b)
section
variable {X : Cx}
/-- sorted(xs), texts, any number of them -/
def rSortTA (K : PySem.W.Frag) : List V → Hp → VK → Prop := fun vs H Q => ∃ (a : Addr) (ws : List (List Nat)), vs = [V.ref a] ∧ SqL K H a (wv ws) ∧
  ∀ p : Addr, H p = none → Q (.ref p) (upd H p (.lst (wv (ws.mergeSort leW))))
theorem cr_sortTA (hu : X.A.units + 64 < cLine) : CallR X (.builtin "sorted") (rSortTA X.K) := by
  intro pins s σ H vs us Q I r h
  obtain ⟨a, ws, rfl, hs, q⟩ := h
  obtain ⟨its, rv, hl, hz⟩ := I.list hs
  rw [Vals.ref1 r]
  have ev := txs_each rv
  have hlen : ws.length ≤ sizeLine := by
    have : (wv ws).length = ws.length := by unfold wv; rw [List.length_map]
    rw [← this]
    exact hz
  refine PySem.W.sorted_data (enc := fun x : List Nat => PyData.str (T x)) hl.isList ev (ev.mono fun v x ⟨t, e⟩ => ⟨[], by rw [e]; exact .str _ _⟩) (PySem.W.AllAlike.of fun _ _ => rfl) (.inr fun d hd => ?_) hlen (fun b _ => ?_) fun out _ eo => ?_
  · obtain ⟨x, _, rfl⟩ := List.mem_map.mp hd
    exact ⟨fun z => (by cases z), fun xs z => (by cases z)⟩
  · show X.A.units + 2 + 0 < cLine
    omega
  · rw [PySem.W.dataLe_str] at eo
    obtain ⟨ep, he'⟩ := PyProof.Rows.sortedAll_at s.heap its out.toArray
    have eo : PySem.W.EachIs TxIs out (ws.mergeSort leW) := eo
    have l2 : (wv (ws.mergeSort leW)).length ≤ sizeLine := by
      unfold wv
      rw [List.length_map, List.length_mergeSort]
      exact hlen
    exact ⟨.ref _, upd H (s.heap.objs.size + 1) (.lst (wv (ws.mergeSort leW))), I.laid (t' := s.toks) (fun _ _ => PyProof.Rows.sortedAll_old) (Nat.le_succ _) ⟨l2, out, ep, each_txs eo, he'⟩, rfl, q _ (I.hok.fresh (Nat.le_succ _))⟩
/-- sorted(xs, key=len), texts -/
def tSortLen (K : PySem.W.Frag) (t : TA) : TE := fun σ H Q => t σ H fun vs H1 => ∃ (a : Addr) (ws : List (List Nat)), vs = [V.ref a] ∧ SqL K H1 a (wv ws) ∧ (∀ x ∈ ws, x.length ≤ 1000) ∧
  ∀ p : Addr, H1 p = none → Q (.ref p) (upd H1 p (.lst (wv (ws.mergeSort leL))))
theorem pe_sortLen {e : Expr} {p p2 p3 pos : Pos} {t : TA} (hu : X.A.units + 64 < cLine) (hg : Gl X "sorted") (hm : X.mg "sorted" = none) (hg2 : Gl X "len") (hm2 : X.mg "len" = none) (ha : PA X [e] t)
    (he : backTo pos (starEach [e] X.env) = (false, eval e X.env) :: backTo pos (starEach [] X.env) := by rfl) (hpl : (backTo pos (starEach [e] X.env)).any (·.1) = false := by rfl) :
    PE X (.Call (.Name "sorted" p) [e] [⟨some "key", .Name "len" p2, p3⟩] pos) (tSortLen X.K t) := by
  refine ⟨fun pins s σ H Q I h => ?_⟩
  refine wpAny_Call_Name_kw (ld_blt I hg hm (show bootBuiltins (Str.ofString "sorted") = some (.builtin "sorted") by decide +kernel) ?_)
  refine PyProof.Rows.callWith_kw (id := "sorted") (thn (ha.run pos pins s σ H _ I h) fun us s1 ⟨vs, H1, I1, r1, a, ws, ev, hs, h9, q⟩ => ?_) he hpl rfl rfl
  subst ev
  show wpAny _ _ (evalAll [(do let v ← eval (.Name "len" p2) X.env; standAt pos; pure v)]) _ _ s1
  refine wpAny_evalAll_cons (wpAny_bind (ld_blt I1 hg2 hm2 PySem.boot_len (wpAny_bind (wpAny_standAt (wpAny_pure (wpAny_evalAll_nil ?_))))))
  show wpAny _ _ (call (.builtin "sorted") us [(Str.ofString "key", .builtin "len")]) _ _ s1
  obtain ⟨its, rv, hl, hz⟩ := I1.list hs
  rw [Vals.ref1 r1]
  have evs := txs_each rv
  have hlen : ws.length ≤ sizeLine := by
    have : (wv ws).length = ws.length := by unfold wv; rw [List.length_map]
    rw [← this]
    exact hz
  refine PySem.W.sorted_key_data (b := false) (fun x : List Nat => PyData.int (x.length : Int)) hl.isList evs (PySem.W.AllAlike.of fun _ _ => rfl) (.inr fun d hd => ?_) hlen (fun b _ => ?_) (PyProof.Rows.ksk_s1 _ _) (fun _ => PyProof.Rows.ksk_l1 _ _) (fun _ => PyProof.Rows.ksk_t4 _ _)
    (fun v x ⟨tt, ex⟩ hx h' tk kp => ?_) fun out c h' tk kp fr hD _ eo => ?_
  · obtain ⟨x, _, rfl⟩ := List.mem_map.mp hd
    exact ⟨fun z => (by cases z), fun xs z => (by cases z)⟩
  · show X.A.units + 2 + 0 < cLine
    omega
  · subst ex
    have h1000 := h9 x hx
    have hn := line63
    have hsz := small h1000
    refine PyProof.Rows.len_str (by rw [T_len]; omega) ?_
    rw [T_len]
    exact ⟨h', _, rfl, fun _ _ e => e, .int _ _⟩
  · rw [PySem.W.dataLe_int] at eo
    have eo : PySem.W.EachIs TxIs out (ws.mergeSort leL) := eo
    have l2 : (wv (ws.mergeSort leL)).length ≤ sizeLine := by
      unfold wv
      rw [List.length_map, List.length_mergeSort]
      exact hlen
    exact ⟨.ref _, upd H1 (s1.heap.objs.size + 1) (.lst (wv (ws.mergeSort leL))), I1.laid (t' := tk) kp (Nat.le_succ _) ⟨l2, out, c, each_txs eo, hD⟩, rfl, q _ (I1.hok.fresh (Nat.le_succ _))⟩
end
end Say
namespace Say
open PySem PySem.Spec PyProof.Rows L2
/-! ### all words, level by level -/
def lv (L : List Nat) : Nat → List (List Nat)
  | 0 => [[]]
  | n + 1 => (lv L n).flatMap fun w => L.map fun c => w ++ [c]
/-- all words of up to n letters, the shorter ones first -/
def upto (L : List Nat) (n : Nat) : List (List Nat) := (List.range (n + 1)).flatMap (lv L)
theorem mem_lv {L : List Nat} : ∀ {n : Nat} {w : List Nat}, w ∈ lv L n ↔ w.length = n ∧ ∀ c ∈ w, c ∈ L
  | 0, w => by
    unfold lv
    rw [List.mem_singleton]
    constructor
    · rintro rfl; exact ⟨rfl, by simp⟩
    · rintro ⟨h, _⟩; exact List.eq_nil_of_length_eq_zero h
  | n + 1, w => by
    unfold lv
    rw [List.mem_flatMap]
    constructor
    · rintro ⟨u, hu, hw⟩
      obtain ⟨c, hc, rfl⟩ := List.mem_map.mp hw
      obtain ⟨h1, h2⟩ := mem_lv.mp hu
      refine ⟨by simp [h1], fun d hd => ?_⟩
      rcases List.mem_append.mp hd with hd | hd
      · exact h2 d hd
      · rw [List.mem_singleton.mp hd]; exact hc
    · rintro ⟨h1, h2⟩
      rcases List.eq_nil_or_concat w with rfl | ⟨u, c, rfl⟩
      · cases h1
      · refine ⟨u, mem_lv.mpr ⟨by simpa using h1, fun d hd => h2 d (by simp [hd])⟩, List.mem_map.mpr ⟨c, h2 c (by simp), by simp⟩⟩
theorem mem_upto {L : List Nat} {n : Nat} {w : List Nat} : w ∈ upto L n ↔ w.length ≤ n ∧ ∀ c ∈ w, c ∈ L := by
  unfold upto
  rw [List.mem_flatMap]
  constructor
  · rintro ⟨k, hk, hw⟩
    obtain ⟨h1, h2⟩ := mem_lv.mp hw
    have := List.mem_range.mp hk
    exact ⟨by omega, h2⟩
  · rintro ⟨h1, h2⟩
    exact ⟨w.length, List.mem_range.mpr (by omega), mem_lv.mpr ⟨rfl, h2⟩⟩
theorem lex_app : ∀ {w w' a b : List Nat}, w.length = w'.length → w < w' → w ++ a < w' ++ b
  | [], [], _, _, _, h => absurd h (List.lt_irrefl _)
  | x :: w, y :: w', a, b, hl, h => by
    rw [List.cons_lt_cons_iff] at h
    rw [List.cons_append, List.cons_append, List.cons_lt_cons_iff]
    rcases h with h | ⟨h, h'⟩
    · exact .inl h
    · exact .inr ⟨h, lex_app (by simpa using hl) h'⟩
theorem lex_end : ∀ (w : List Nat) {c d : Nat}, c < d → w ++ [c] < w ++ [d]
  | [], c, d, h => by
    show [c] < [d]
    rw [List.cons_lt_cons_iff]
    exact .inl h
  | x :: w, c, d, h => by
    rw [List.cons_append, List.cons_append, List.cons_lt_cons_iff]
    exact .inr ⟨rfl, lex_end w h⟩
theorem lv_up {L : List Nat} (hL : L.Pairwise (· < ·)) : ∀ n, (lv L n).Pairwise (· < ·)
  | 0 => List.pairwise_singleton _ _
  | n + 1 => by
    unfold lv
    rw [List.pairwise_flatMap]
    refine ⟨fun w _ => List.pairwise_map.mpr (hL.imp fun h => lex_end w h), ?_⟩
    refine (lv_up hL n).imp_of_mem fun {u v} hu hv h x hx y hy => ?_
    obtain ⟨c, _, rfl⟩ := List.mem_map.mp hx
    obtain ⟨d, _, rfl⟩ := List.mem_map.mp hy
    exact lex_app (by rw [(mem_lv.mp hu).1, (mem_lv.mp hv).1]) h
/-! ### the beginnings that may still come to the sounds -/
abbrev Bg := List Nat × List Nat × List Nat
def lng (rs : List Rule) (so : List Nat) (x : Bg) (c : Nat) : Option Bg := match (tkM rs (some x.2.1) c).1 with
  | none => none
  | some t' => if (x.2.2 ++ soL rs (tkM rs (some x.2.1) c).2).isPrefixOf so = true then some (x.1 ++ [c], t', x.2.2 ++ soL rs (tkM rs (some x.2.1) c).2) else none
def root : Bg := ([], [35], [])
def kids (rs : List Rule) (so L : List Nat) (long : Nat) (x : Bg) : List Bg := if x.1.length < long then L.filterMap (lng rs so x) else []
def kl (rs : List Rule) (so L : List Nat) (long : Nat) : Nat → List Bg
  | 0 => [root]
  | n + 1 => (kl rs so L long n).flatMap (kids rs so L long)
def allB (rs : List Rule) (so L : List Nat) (long : Nat) : List Bg := (List.range (long + 1)).flatMap (kl rs so L long)
section
variable {rs : List Rule} {so L : List Nat} {long : Nat}
theorem lng_w {x y : Bg} {c : Nat} (h : lng rs so x c = some y) : y.1 = x.1 ++ [c] := by
  unfold lng at h
  cases e : (tkM rs (some x.2.1) c).1 with
  | none => rw [e] at h; cases h
  | some t' =>
    rw [e] at h
    simp only at h
    split at h
    · cases h; rfl
    · cases h
theorem kids_len {x y : Bg} (h : y ∈ kids rs so L long x) : y.1.length = x.1.length + 1 ∧ x.1.length < long := by
  unfold kids at h
  by_cases c : x.1.length < long
  · rw [if_pos c] at h
    obtain ⟨d, _, hd⟩ := List.mem_filterMap.mp h
    exact ⟨by rw [lng_w hd]; simp, c⟩
  · rw [if_neg c] at h
    cases h
theorem kl_len : ∀ {n : Nat} {x : Bg}, x ∈ kl rs so L long n → x.1.length = n
  | 0, x, h => by
    have h : x ∈ [root] := h
    rw [List.mem_singleton.mp h]; rfl
  | n + 1, x, h => by
    have h : x ∈ (kl rs so L long n).flatMap (kids rs so L long) := h
    obtain ⟨y, hy, hx⟩ := List.mem_flatMap.mp h
    rw [(kids_len hx).1, kl_len hy]
theorem kl_over : kl rs so L long (long + 1) = [] := by
  refine List.eq_nil_iff_forall_not_mem.mpr fun x hx => ?_
  have hx : x ∈ (kl rs so L long long).flatMap (kids rs so L long) := hx
  obtain ⟨y, hy, h⟩ := List.mem_flatMap.mp hx
  have := (kids_len h).2
  rw [kl_len hy] at this
  exact absurd this (Nat.lt_irrefl _)
theorem all_eq : allB rs so L long = root :: (allB rs so L long).flatMap (kids rs so L long) := by
  have e1 : (allB rs so L long).flatMap (kids rs so L long) = (List.range (long + 1)).flatMap fun n => kl rs so L long (n + 1) := by
    unfold allB
    rw [List.flatMap_assoc]
    rfl
  have e2 : (List.range (long + 1 + 1)).flatMap (kl rs so L long) = allB rs so L long := by
    rw [List.range_succ, List.flatMap_append]
    show allB rs so L long ++ (kl rs so L long (long + 1) ++ []) = _
    rw [kl_over, List.append_nil, List.append_nil]
  rw [e1]
  conv => lhs; rw [← e2]
  rw [List.range_succ_eq_map, List.flatMap_cons, List.flatMap_map]
  rfl
/-- the queue, i beginnings taken -/
def que (rs : List Rule) (so L : List Nat) (long i : Nat) : List Bg := root :: ((allB rs so L long).take i).flatMap (kids rs so L long)
theorem que_pre (i : Nat) : allB rs so L long = que rs so L long i ++ ((allB rs so L long).drop i).flatMap (kids rs so L long) := by
  unfold que
  rw [List.cons_append, ← List.flatMap_append, List.take_append_drop]
  exact all_eq
theorem que_at {i : Nat} (h : i < (que rs so L long i).length) : ∃ x, (allB rs so L long)[i]? = some x ∧ (que rs so L long i)[i]? = some x := by
  refine ⟨(que rs so L long i)[i], ?_, List.getElem?_eq_getElem h⟩
  have e := que_pre (rs := rs) (so := so) (L := L) (long := long) i
  rw [e, List.getElem?_append_left h]
  exact List.getElem?_eq_getElem h
theorem que_next {i : Nat} {x : Bg} (h : (allB rs so L long)[i]? = some x) : que rs so L long (i + 1) = que rs so L long i ++ kids rs so L long x := by
  unfold que
  rw [List.take_add_one, h, List.flatMap_append]
  simp
theorem que_end {i : Nat} (h : (que rs so L long i).length ≤ i) : (allB rs so L long).take i = allB rs so L long := by
  have e := que_pre (rs := rs) (so := so) (L := L) (long := long) i
  have hd : ∀ x ∈ (allB rs so L long).drop i, x ∈ ((allB rs so L long).drop i).flatMap (kids rs so L long) := fun x hx => by
    have hx' := hx
    rw [e, List.drop_append, List.drop_eq_nil_of_le h, List.nil_append] at hx'
    exact List.mem_of_mem_drop hx'
  have no : ∀ n, ∀ x ∈ (allB rs so L long).drop i, x.1.length ≠ n := by
    intro n
    induction n with
    | zero =>
      intro x hx z
      obtain ⟨y, _, hy⟩ := List.mem_flatMap.mp (hd x hx)
      have := (kids_len hy).1
      omega
    | succ n ih =>
      intro x hx z
      obtain ⟨y, hy1, hy⟩ := List.mem_flatMap.mp (hd x hx)
      have := (kids_len hy).1
      exact ih y hy1 (by omega)
  have en : (allB rs so L long).drop i = [] := List.eq_nil_iff_forall_not_mem.mpr fun x hx => no _ x hx rfl
  exact List.take_of_length_le (List.drop_eq_nil_iff.mp en)
/-! ### by letters -/
def bg (rs : List Rule) (so : List Nat) (w : List Nat) : Option Bg := w.foldl (fun o c => o.bind fun x => lng rs so x c) (some root)
theorem bg_snoc (w : List Nat) (c : Nat) : bg rs so (w ++ [c]) = (bg rs so w).bind fun x => lng rs so x c := by
  unfold bg
  rw [List.foldl_append]
  rfl
theorem bind_flat {α β γ : Type} (f : α → Option β) (g : β → List γ) : ∀ l : List α, (l.filterMap f).flatMap g = l.flatMap fun a => match f a with | none => [] | some b => g b
  | [] => rfl
  | a :: r => by
    rw [List.filterMap_cons, List.flatMap_cons, ← bind_flat f g r]
    cases f a with
    | none => rfl
    | some b => rw [List.flatMap_cons]
theorem flat_bind {α β γ : Type} (g : α → List β) (f : β → Option γ) : ∀ l : List α, (l.flatMap g).filterMap f = l.flatMap fun a => (g a).filterMap f
  | [] => rfl
  | a :: r => by rw [List.flatMap_cons, List.flatMap_cons, List.filterMap_append, flat_bind g f r]
theorem flat_congr {α β : Type} {f g : α → List β} : ∀ {l : List α}, (∀ a ∈ l, f a = g a) → l.flatMap f = l.flatMap g
  | [], _ => rfl
  | a :: r, h => by rw [List.flatMap_cons, List.flatMap_cons, h a (List.mem_cons_self ..), flat_congr fun b hb => h b (List.mem_cons_of_mem _ hb)]
theorem bg_w : ∀ (n : Nat) {w : List Nat} {x : Bg}, w.length = n → bg rs so w = some x → x.1 = w
  | 0, w, x, hn, h => by
    have := List.eq_nil_of_length_eq_zero hn
    subst this
    have h : some root = some x := h
    cases h; rfl
  | n + 1, w, x, hn, h => by
    rcases List.eq_nil_or_concat w with rfl | ⟨u, c, rfl⟩
    · cases hn
    · rw [List.concat_eq_append] at h hn ⊢
      rw [bg_snoc] at h
      cases e : bg rs so u with
      | none => rw [e] at h; cases h
      | some y =>
        rw [e] at h
        have h : lng rs so y c = some x := h
        rw [lng_w h, bg_w n (by simpa using hn) e]
theorem kl_bg : ∀ n, n ≤ long → kl rs so L long n = (lv L n).filterMap (bg rs so)
  | 0, _ => rfl
  | n + 1, hn => by
    show (kl rs so L long n).flatMap (kids rs so L long) = ((lv L n).flatMap fun w => L.map fun c => w ++ [c]).filterMap (bg rs so)
    rw [kl_bg n (by omega), bind_flat, flat_bind]
    refine flat_congr fun w hw => ?_
    have hl := (mem_lv.mp hw).1
    have e2 : (L.map fun c => w ++ [c]).filterMap (bg rs so) = L.filterMap fun c => (bg rs so w).bind fun x => lng rs so x c := by
      rw [List.filterMap_map]
      congr 1
      funext c
      exact bg_snoc w c
    rw [e2]
    cases e : bg rs so w with
    | none =>
      simp only [Option.bind_none]
      symm
      exact List.filterMap_eq_nil_iff.mpr fun _ _ => rfl
    | some x =>
      simp only [Option.bind_some]
      have := bg_w _ hl e
      unfold kids
      rw [if_pos (by rw [this]; omega)]
/-! ### what is said so -/
def okB (rs : List Rule) (so : List Nat) (x : Bg) : Bool := match ensM rs (some x.2.1) with
  | none => false
  | some r => decide (x.2.2 ++ r = so)
theorem Fed.say (ho : ∀ ρ ∈ rs, RlOk ρ) {wd tl ks : List Nat} (F : Fed rs wd tl ks) : sayW rs wd = (ensM rs (some tl)).map (soL rs ks ++ ·) := by
  obtain ⟨w1, w2⟩ := F.whole ho
  unfold sayW ensM endM
  rw [w2, w1]
  simp only
  cases e : (Wt rs tl).2 with
  | none => simp [soL_app]
  | some p => simp
theorem Fed.sayV (ho : ∀ ρ ∈ rs, RlOk ρ) {wd tl ks v s : List Nat} (F : Fed rs wd tl ks) (h : sayW rs (wd ++ v) = some s) : (soL rs ks).isPrefixOf s = true := by
  obtain ⟨p, st, h1, h2, rfl, rfl, hv⟩ := F
  have e := hv v
  rw [← W_wc ho] at e
  unfold sayW at h
  split at h
  · have h := Option.some.inj h
    rw [e] at h
    simp only [List.map_append, soL_app] at h
    rw [← h, List.isPrefixOf_iff_prefix]
    exact List.prefix_append _ _
  · cases h
theorem bg_fed (ho : ∀ ρ ∈ rs, RlOk ρ) : ∀ (n : Nat) {w : List Nat} {x : Bg}, w.length = n → bg rs so w = some x → ∃ ks, Fed rs w x.2.1 ks ∧ x.2.2 = soL rs ks
  | 0, w, x, hn, h => by
    have := List.eq_nil_of_length_eq_zero hn
    subst this
    have h : some root = some x := h
    cases h
    exact ⟨[], fed_nil rs, rfl⟩
  | n + 1, w, x, hn, h => by
    rcases List.eq_nil_or_concat w with rfl | ⟨u, c, rfl⟩
    · cases hn
    · rw [List.concat_eq_append] at h hn ⊢
      rw [bg_snoc] at h
      cases e : bg rs so u with
      | none => rw [e] at h; cases h
      | some y =>
        rw [e] at h
        have h : lng rs so y c = some x := h
        obtain ⟨ks, hF, es⟩ := bg_fed ho n (by simpa using hn) e
        unfold lng at h
        cases et : (tkM rs (some y.2.1) c).1 with
        | none => rw [et] at h; cases h
        | some t' =>
          rw [et] at h
          simp only at h
          split at h
          · cases h
            exact ⟨_, hF.step ho et, by rw [soL_app, es]⟩
          · cases h
theorem bg_none (ho : ∀ ρ ∈ rs, RlOk ρ) : ∀ (n : Nat) {w : List Nat}, w.length = n → bg rs so w = none → ∀ v, sayW rs (w ++ v) ≠ some so
  | 0, w, hn, h, v => by
    have := List.eq_nil_of_length_eq_zero hn
    subst this
    cases h
  | n + 1, w, hn, h, v => by
    rcases List.eq_nil_or_concat w with rfl | ⟨u, c, rfl⟩
    · cases hn
    · rw [List.concat_eq_append] at h hn ⊢
      rw [bg_snoc] at h
      cases e : bg rs so u with
      | none =>
        rw [List.append_assoc]
        exact bg_none ho n (by simpa using hn) e _
      | some y =>
        rw [e] at h
        have h : lng rs so y c = none := h
        obtain ⟨ks, hF, es⟩ := bg_fed ho n (by simpa using hn) e
        unfold lng at h
        cases et : (tkM rs (some y.2.1) c).1 with
        | none =>
          have := hF.stuck ho et v
          unfold sayW
          rw [this, if_neg (fun z => by cases z)]
          exact fun z => by cases z
        | some t' =>
          rw [et] at h
          simp only at h
          split at h
          · cases h
          · rename_i np
            intro z
            have := (hF.step ho et).sayV ho z
            rw [soL_app, ← es] at this
            exact np this
theorem bind_filter {α β γ : Type} {f : α → Option β} {g : β → γ} {okb : β → Bool} {P : γ → Bool} {i : α → γ} : ∀ {l : List α}, (∀ a ∈ l, match f a with | none => P (i a) = false | some b => g b = i a ∧ okb b = P (i a)) → ((l.filterMap f).filter okb).map g = (l.map i).filter P
  | [], _ => rfl
  | a :: r, h => by
    have ih := bind_filter (l := r) fun b hb => h b (List.mem_cons_of_mem _ hb)
    have ha := h a (List.mem_cons_self ..)
    rw [List.filterMap_cons, List.map_cons]
    cases e : f a with
    | none =>
      rw [e] at ha
      rw [List.filter_cons_of_neg (by rw [ha]; exact Bool.false_ne_true)]
      exact ih
    | some b =>
      rw [e] at ha
      obtain ⟨h1, h2⟩ := ha
      simp only
      cases c : okb b with
      | true =>
        rw [List.filter_cons_of_pos c, List.map_cons, ih, h1, List.filter_cons_of_pos (by rw [← h2]; exact c)]
      | false =>
        rw [List.filter_cons_of_neg (by rw [c]; exact Bool.false_ne_true), ih, List.filter_cons_of_neg (by rw [← h2, c]; exact Bool.false_ne_true)]
/-- the words that rules say so, in the queue's turn -/
theorem all_ruled (ho : ∀ ρ ∈ rs, RlOk ρ) : ((allB rs so L long).filter (okB rs so)).map (·.1) = (upto L long).filter fun w => decide (sayW rs w = some so) := by
  have e : allB rs so L long = (upto L long).filterMap (bg rs so) := by
    unfold allB upto
    rw [flat_bind]
    exact flat_congr fun n hn => kl_bg n (by have := List.mem_range.mp hn; omega)
  rw [e]
  have := bind_filter (f := bg rs so) (g := fun x : Bg => x.1) (okb := okB rs so) (P := fun w => decide (sayW rs w = some so)) (i := id) (l := upto L long) fun w hw => by
    cases eb : bg rs so w with
    | none =>
      refine decide_eq_false ?_
      have := bg_none ho _ rfl eb []
      rw [List.append_nil] at this
      exact this
    | some x =>
      obtain ⟨ks, hF, es⟩ := bg_fed ho _ rfl eb
      refine ⟨bg_w _ rfl eb, ?_⟩
      unfold okB
      rw [show sayW rs (id w) = (ensM rs (some x.2.1)).map (soL rs ks ++ ·) from hF.say ho]
      cases er : ensM rs (some x.2.1) with
      | none => rfl
      | some r =>
        simp only [Option.map_some, Option.some.injEq]
        rw [es]
  rw [List.map_id] at this
  exact this
end
theorem flat_le {α β : Type} {f : α → List β} {k : Nat} : ∀ {l : List α}, (∀ a ∈ l, (f a).length ≤ k) → (l.flatMap f).length ≤ l.length * k
  | [], _ => Nat.zero_le _
  | a :: r, h => by
    have ih := flat_le fun b hb => h b (List.mem_cons_of_mem _ hb)
    have := h a (List.mem_cons_self ..)
    rw [List.flatMap_cons, List.length_append, List.length_cons, Nat.succ_mul]
    omega
end Say
namespace Say
open PySem PySem.Spec PyProof.Rows L2
theorem strict_ext {α : Type} {lt : α → α → Prop} (irr : ∀ a, ¬ lt a a) (tr : ∀ a b c, lt a b → lt b c → lt a c) : ∀ {l m : List α}, l.Pairwise lt → m.Pairwise lt → (∀ x, x ∈ l ↔ x ∈ m) → l = m
  | [], m, _, _, h => (List.eq_nil_iff_forall_not_mem.mpr fun x hx => nomatch (h x).mpr hx).symm
  | a :: l, [], _, _, h => nomatch (h a).mp (List.mem_cons_self ..)
  | a :: l, b :: m, h1, h2, h => by
    obtain ⟨a1, a2⟩ := List.pairwise_cons.mp h1
    obtain ⟨b1, b2⟩ := List.pairwise_cons.mp h2
    have e : a = b := by
      rcases List.mem_cons.mp ((h a).mp (List.mem_cons_self ..)) with e | e
      · exact e
      · rcases List.mem_cons.mp ((h b).mpr (List.mem_cons_self ..)) with e' | e'
        · exact e'.symm
        · exact absurd (tr _ _ _ (b1 _ e) (a1 _ e')) (irr _)
    subst e
    congr 1
    refine strict_ext irr tr a2 b2 fun x => ⟨fun hx => ?_, fun hx => ?_⟩
    · rcases List.mem_cons.mp ((h x).mp (List.mem_cons_of_mem _ hx)) with e | e
      · rw [e] at hx; exact absurd (a1 _ hx) (irr _)
      · exact e
    · rcases List.mem_cons.mp ((h x).mpr (List.mem_cons_of_mem _ hx)) with e | e
      · rw [e] at hx; exact absurd (b1 _ hx) (irr _)
      · exact e
theorem lexIrr (a : List Nat) : ¬ a < a := List.lt_irrefl a
theorem lexTr (a b c : List Nat) (h : a < b) (h' : b < c) : a < c := List.lt_trans h h'
theorem leW_tot : PySem.W.TotalLe leW where
  trans a b c h1 h2 := decide_eq_true (List.le_trans (of_decide_eq_true h1) (of_decide_eq_true h2))
  total a b := by
    rcases List.le_total a b with h | h
    · exact .inl (decide_eq_true h)
    · exact .inr (decide_eq_true h)
theorem leL_tot : PySem.W.TotalLe leL where
  trans a b c h1 h2 := decide_eq_true (Int.le_trans (of_decide_eq_true h1) (of_decide_eq_true h2))
  total a b := by
    rcases Int.le_total (a.length : Int) (b.length : Int) with h | h
    · exact .inl (decide_eq_true h)
    · exact .inr (decide_eq_true h)
theorem upto_up {L : List Nat} (hL : L.Pairwise (· < ·)) (n : Nat) : (upto L n).Pairwise fun a b => a.length < b.length ∨ (a.length = b.length ∧ a < b) := by
  unfold upto
  rw [List.pairwise_flatMap]
  refine ⟨fun k _ => (lv_up hL k).imp_of_mem fun {a b} ha hb h => .inr ⟨by rw [(mem_lv.mp ha).1, (mem_lv.mp hb).1], h⟩, ?_⟩
  refine List.pairwise_lt_range.imp fun {i j} h x hx y hy => .inl ?_
  rw [(mem_lv.mp hx).1, (mem_lv.mp hy).1]
  exact h
def ruledW (rs : List Rule) (so L : List Nat) (long : Nat) : List (List Nat) := (upto L long).filter fun w => decide (sayW rs w = some so)
def exW (es : List Exc) (so : List Nat) (long : Nat) : List (List Nat) := (es.filter fun e => decide (e.2 = so) && decide (e.1.length ≤ long)).map (·.1)
def isExc (es : List Exc) (w : List Nat) : Bool := es.any fun e => decide (e.1 = w)
def foundW (rs : List Rule) (es : List Exc) (so L : List Nat) (long : Nat) : List (List Nat) := ((ruledW rs so L long).filter fun w => !isExc es w) ++ exW es so long
/-- all words that are said so -/
def writM (rs : List Rule) (es : List Exc) (so L : List Nat) (long : Nat) : List (List Nat) := (upto L long).filter fun w => decide (saidM rs es w = some so)
section
variable {rs : List Rule} {es : List Exc} {so L : List Nat} {long : Nat}
theorem exc_said (up : es.Pairwise fun e f => e.1 < f.1) {e : Exc} (h : e ∈ es) : saidM rs es e.1 = some e.2 := by
  unfold saidM
  have : es.find? (fun f => decide (f.1 = e.1)) = some e := by
    induction es with
    | nil => cases h
    | cons a r ih =>
      obtain ⟨p1, p2⟩ := List.pairwise_cons.mp up
      rcases List.mem_cons.mp h with rfl | h
      · exact List.find?_cons_of_pos (decide_eq_true rfl)
      · rw [List.find?_cons_of_neg (by
          intro z
          have z := of_decide_eq_true z
          have := p1 e h
          rw [z] at this
          exact lexIrr _ this)]
        exact ih p2 h
  rw [this]
theorem noexc_said {w : List Nat} (h : isExc es w = false) : saidM rs es w = sayW rs w := by
  unfold saidM
  have : es.find? (fun f => decide (f.1 = w)) = none := by
    refine List.find?_eq_none.mpr fun e he z => ?_
    unfold isExc at h
    rw [List.any_eq_false] at h
    exact h e he z
  rw [this]
theorem mem_found (ex : ∀ e ∈ es, ∀ c ∈ e.1, c ∈ L) (up : es.Pairwise fun e f => e.1 < f.1) (w : List Nat) : w ∈ foundW rs es so L long ↔ w ∈ writM rs es so L long := by
  unfold foundW writM ruledW exW
  rw [List.mem_append, List.mem_filter, List.mem_filter, List.mem_filter]
  constructor
  · rintro (⟨⟨h1, h2⟩, h3⟩ | h)
    · have h3 : isExc es w = false := by simpa using h3
      exact ⟨h1, by rw [noexc_said h3]; exact h2⟩
    · obtain ⟨e, he, rfl⟩ := List.mem_map.mp h
      obtain ⟨he1, he2⟩ := List.mem_filter.mp he
      rw [Bool.and_eq_true] at he2
      have e2 := of_decide_eq_true he2.1
      exact ⟨mem_upto.mpr ⟨of_decide_eq_true he2.2, ex e he1⟩, decide_eq_true (by rw [exc_said up he1, e2])⟩
  · rintro ⟨h1, h2⟩
    have h2 := of_decide_eq_true h2
    cases h : isExc es w with
    | false =>
      rw [noexc_said h] at h2
      exact .inl ⟨⟨h1, decide_eq_true h2⟩, rfl⟩
    | true =>
      refine .inr ?_
      unfold isExc at h
      obtain ⟨e, he, hw⟩ := List.any_eq_true.mp h
      have hw := of_decide_eq_true hw
      subst hw
      rw [exc_said up he] at h2
      refine List.mem_map.mpr ⟨e, List.mem_filter.mpr ⟨he, ?_⟩, rfl⟩
      rw [Bool.and_eq_true]
      exact ⟨decide_eq_true (Option.some.inj h2), decide_eq_true (mem_upto.mp h1).1⟩
theorem found_nd (hL : L.Pairwise (· < ·)) (up : es.Pairwise fun e f => e.1 < f.1) : (foundW rs es so L long).Nodup := by
  unfold foundW
  refine List.nodup_append.mpr ⟨?_, ?_, fun a ha b hb z => ?_⟩
  · refine List.Nodup.sublist (List.filter_sublist.trans List.filter_sublist) ?_
    exact (upto_up hL long).imp fun {a b} h z => by
      subst z
      rcases h with h | ⟨_, h⟩
      · exact Nat.lt_irrefl _ h
      · exact lexIrr _ h
  · unfold exW
    refine (List.pairwise_map.mpr ((up.sublist List.filter_sublist).imp fun {e f} h => ?_))
    intro z
    rw [z] at h
    exact lexIrr _ h
  · subst z
    obtain ⟨_, h⟩ := List.mem_filter.mp ha
    unfold exW at hb
    obtain ⟨e, he, rfl⟩ := List.mem_map.mp hb
    have : isExc es e.1 = true := List.any_eq_true.mpr ⟨e, (List.mem_filter.mp he).1, decide_eq_true rfl⟩
    rw [this] at h
    cases h
/-- sorted, then by lengths: that is all words in their turn -/
theorem writ_sort (hL : L.Pairwise (· < ·)) (ex : ∀ e ∈ es, ∀ c ∈ e.1, c ∈ L) (up : es.Pairwise fun e f => e.1 < f.1) : ((foundW rs es so L long).mergeSort leW).mergeSort leL = writM rs es so L long := by
  symm
  have uu : (writM rs es so L long).Pairwise fun a b => a.length < b.length ∨ (a.length = b.length ∧ a < b) := (upto_up hL long).sublist List.filter_sublist
  refine PySem.W.sort_unique leL_tot (uu.imp fun {a b} h => decide_eq_true (by omega)) fun c => ?_
  refine strict_ext (lt := fun a b : List Nat => a < b) lexIrr lexTr ?_ ?_ fun x => ?_
  · refine (uu.sublist List.filter_sublist).imp_of_mem fun {a b} ha hb h => ?_
    have ra := (List.mem_filter.mp ha).2
    have rb := (List.mem_filter.mp hb).2
    unfold PySem.W.sameRank at ra rb
    rw [Bool.and_eq_true] at ra rb
    have a1 := of_decide_eq_true ra.1
    have a2 := of_decide_eq_true ra.2
    have b1 := of_decide_eq_true rb.1
    have b2 := of_decide_eq_true rb.2
    rcases h with h | ⟨_, h⟩
    · omega
    · exact h
  · have h1 := PySem.W.sort_pairwise leW_tot (foundW rs es so L long)
    have h2 : ((foundW rs es so L long).mergeSort leW).Nodup := (List.mergeSort_perm _ _).nodup_iff.mpr (found_nd hL up)
    refine List.Pairwise.sublist List.filter_sublist ((List.pairwise_and_iff.mpr ⟨h1, h2⟩).imp fun {a b} h => ?_)
    have le := of_decide_eq_true h.1
    exact Decidable.byContradiction fun n => h.2 (List.le_antisymm le (List.not_lt.mp n))
  · rw [List.mem_filter, List.mem_filter, List.mem_mergeSort, mem_found ex up]
end
end Say
namespace Say
open PySem PySem.Spec PyProof.Rows L2
/-! ### the shorter word first, then as texts -/
def sl (a b : List Nat) : Prop := a.length < b.length ∨ (a.length = b.length ∧ a < b)
theorem sl_irr (a : List Nat) : ¬ sl a a := by
  rintro (h | ⟨_, h⟩)
  · exact Nat.lt_irrefl _ h
  · exact lexIrr _ h
theorem sl_tr {a b c : List Nat} (h : sl a b) (h' : sl b c) : sl a c := by
  rcases h with h | ⟨h, g⟩ <;> rcases h' with h' | ⟨h', g'⟩
  · exact .inl (by omega)
  · exact .inl (by omega)
  · exact .inl (by omega)
  · exact .inr ⟨by omega, lexTr _ _ _ g g'⟩
theorem sl_tot (a b : List Nat) : sl a b ∨ a = b ∨ sl b a := by
  rcases Nat.lt_trichotomy a.length b.length with h | h | h
  · exact .inl (.inl h)
  · by_cases e : a = b
    · exact .inr (.inl e)
    · by_cases l : a < b
      · exact .inl (.inr ⟨h, l⟩)
      · refine .inr (.inr (.inr ⟨h.symm, ?_⟩))
        exact Decidable.byContradiction fun n => e (List.le_antisymm (List.not_lt.mp n) (List.not_lt.mp l))
  · exact .inr (.inr (.inl h))
/-- no later than -/
def sle (a b : List Nat) : Prop := a = b ∨ sl a b
theorem sle_tr {a b c : List Nat} (h : sle a b) (h' : sle b c) : sle a c := by
  rcases h with rfl | h
  · exact h'
  · rcases h' with rfl | h'
    · exact .inr h
    · exact .inr (sl_tr h h')
theorem sle_anti {a b : List Nat} (h : sle a b) (h' : sle b a) : a = b := by
  rcases h with h | h
  · exact h
  · rcases h' with h' | h'
    · exact h'.symm
    · exact absurd (sl_tr h h') (sl_irr _)
theorem sl_app {a b : List Nat} (h : sl a b) (c d : Nat) : sl (a ++ [c]) (b ++ [d]) := by
  rcases h with h | ⟨h, g⟩
  · exact .inl (by simp; omega)
  · exact .inr ⟨by simp [h], lex_app h g⟩
theorem sl_end (a : List Nat) {c d : Nat} (h : c < d) : sl (a ++ [c]) (a ++ [d]) := .inr ⟨by simp, lex_end a h⟩
theorem sl_more (a : List Nat) (c : Nat) : sl a (a ++ [c]) := .inl (by simp)
theorem sle_app {a b : List Nat} (h : sle a b) (c : Nat) : sle (a ++ [c]) (b ++ [c]) := by
  rcases h with rfl | h
  · exact .inl rfl
  · exact .inr (sl_app h c c)
/-! ### a hunt: words enter a queue from the least on, each state once -/
section
variable {S : Type} [DecidableEq S] (s0 : S) (st : S → Nat → S) (fd : S → Bool) (L : List Nat)
/-- the state behind a word -/
def rn (w : List Nat) : S := w.foldl st s0
theorem rn_snoc (w : List Nat) (c : Nat) : rn s0 st (w ++ [c]) = st (rn s0 st w) c := by
  unfold rn
  rw [List.foldl_append]
  rfl
/-- i words of the queue are read, of the next one j letters; the states that were kept are those behind the first place -/
structure Hu (q : List (List Nat × S)) (i j : Nat) : Prop where
  root : q[0]? = some ([], s0)
  ok : ∀ x ∈ q, x.2 = rn s0 st x.1 ∧ ∀ c ∈ x.1, c ∈ L
  up : q.Pairwise fun x y => sl x.1 y.1
  nd : (q.drop 1).Pairwise fun x y => ¬ x.2 = y.2
  kid : ∀ k, 1 ≤ k → ∀ y, q[k]? = some y → ∃ m x c l, q[m]? = some x ∧ L[l]? = some c ∧ y.1 = x.1 ++ [c] ∧ m < k ∧ (m < i ∨ (m = i ∧ l < j))
  cov : ∀ m x l c, q[m]? = some x → L[l]? = some c → (m < i ∨ (m = i ∧ l < j)) → ∃ y ∈ q.drop 1, y.2 = st x.2 c ∧ sle y.1 (x.1 ++ [c])
  no : ∀ m x, m < i → q[m]? = some x → fd x.2 = false
variable {s0 st fd L}
theorem Hu.first : Hu s0 st fd L [([], s0)] 0 0 where
  root := rfl
  ok := fun x hx => by rw [List.mem_singleton.mp hx]; exact ⟨rfl, fun c hc => nomatch hc⟩
  up := List.pairwise_singleton _ _
  nd := .nil
  kid := fun k hk y h => by
    obtain ⟨k, rfl⟩ : ∃ k', k = k' + 1 := ⟨k - 1, by omega⟩
    cases h
  cov := fun m x l c _ _ h => by omega
  no := fun m x h => by omega
theorem Hu.pos {q : List (List Nat × S)} {i j : Nat} (h : Hu s0 st fd L q i j) : q ≠ [] := fun e => by
  have := h.root
  rw [e] at this
  cases this
theorem pw_at {α : Type} {R : α → α → Prop} {l : List α} (h : l.Pairwise R) {i j : Nat} {x y : α} (hi : l[i]? = some x) (hj : l[j]? = some y) (hij : i < j) : R x y := by
  obtain ⟨a, rfl⟩ := List.getElem?_eq_some_iff.mp hi
  obtain ⟨b, rfl⟩ := List.getElem?_eq_some_iff.mp hj
  exact List.pairwise_iff_getElem.mp h i j a b hij
/-- all in the queue come ahead of the next one -/
theorem Hu.ahead (hL : L.Pairwise (· < ·)) {q : List (List Nat × S)} {i j : Nat} (h : Hu s0 st fd L q i j) {x : List Nat × S} {c : Nat} (hx : q[i]? = some x) (hc : L[j]? = some c) : ∀ y ∈ q, sl y.1 (x.1 ++ [c]) := by
  intro y hy
  obtain ⟨k, hk⟩ := List.mem_iff_getElem?.mp hy
  by_cases k0 : k = 0
  · subst k0
    rw [h.root] at hk
    cases hk
    exact .inl (by simp)
  · obtain ⟨m, z, d, l, h1, h2, h3, h4, h5⟩ := h.kid k (by omega) y hk
    rw [h3]
    rcases h5 with h5 | ⟨rfl, h5⟩
    · exact sl_app (pw_at h.up h1 hx h5) d c
    · rw [hx] at h1
      cases h1
      exact sl_end _ (pw_at hL h2 hc h5)
/-- a state that was kept: nothing enters -/
theorem Hu.skip (hL : L.Pairwise (· < ·)) {q : List (List Nat × S)} {i j : Nat} (h : Hu s0 st fd L q i j) {x : List Nat × S} {c : Nat} (hx : q[i]? = some x) (hc : L[j]? = some c) (hs : ∃ y ∈ q.drop 1, y.2 = st x.2 c) : Hu s0 st fd L q i (j + 1) where
  root := h.root
  ok := h.ok
  up := h.up
  nd := h.nd
  kid := fun k hk y hy => by
    obtain ⟨m, z, d, l, h1, h2, h3, h4, h5⟩ := h.kid k hk y hy
    exact ⟨m, z, d, l, h1, h2, h3, h4, by omega⟩
  cov := fun m z l d h1 h2 h3 => by
    by_cases e : m < i ∨ (m = i ∧ l < j)
    · exact h.cov m z l d h1 h2 e
    · have : m = i ∧ l = j := by omega
      obtain ⟨rfl, rfl⟩ := this
      rw [hx] at h1
      cases h1
      rw [hc] at h2
      cases h2
      obtain ⟨y, hy, e2⟩ := hs
      exact ⟨y, hy, e2, .inr (h.ahead hL hx hc y (List.mem_of_mem_drop hy))⟩
  no := h.no
/-- a new state: the word enters -/
theorem Hu.push (hL : L.Pairwise (· < ·)) {q : List (List Nat × S)} {i j : Nat} (h : Hu s0 st fd L q i j) {x : List Nat × S} {c : Nat} (hx : q[i]? = some x) (hc : L[j]? = some c) (hs : ∀ y ∈ q.drop 1, ¬ y.2 = st x.2 c) : Hu s0 st fd L (q ++ [(x.1 ++ [c], st x.2 c)]) i (j + 1) := by
  have hq : 1 ≤ q.length := List.length_pos_iff.mpr h.pos
  have ed : (q ++ [(x.1 ++ [c], st x.2 c)]).drop 1 = q.drop 1 ++ [(x.1 ++ [c], st x.2 c)] := List.drop_append_of_le_length hq
  have hi := (List.getElem?_eq_some_iff.mp hx).1
  have old : ∀ {m z}, m < q.length → (q ++ [(x.1 ++ [c], st x.2 c)])[m]? = some z → q[m]? = some z := fun hm hz => by rwa [List.getElem?_append_left hm] at hz
  have new : ∀ {m z}, q[m]? = some z → (q ++ [(x.1 ++ [c], st x.2 c)])[m]? = some z := fun hz => by
    rw [List.getElem?_append_left (List.getElem?_eq_some_iff.mp hz).1]
    exact hz
  refine ⟨new h.root, fun y hy => ?_, ?_, ?_, fun k hk y hy => ?_, fun m z l d h1 h2 h3 => ?_, fun m z hm hz => h.no m z hm (old (by omega) hz)⟩
  · rcases List.mem_append.mp hy with hy | hy
    · exact h.ok y hy
    · rw [List.mem_singleton.mp hy]
      obtain ⟨a, b⟩ := h.ok x (List.mem_of_getElem? hx)
      refine ⟨by show st x.2 c = rn s0 st (x.1 ++ [c]); rw [rn_snoc, a], fun d hd => ?_⟩
      rcases List.mem_append.mp hd with hd | hd
      · exact b d hd
      · rw [List.mem_singleton.mp hd]
        exact List.mem_of_getElem? hc
  · refine List.pairwise_append.mpr ⟨h.up, List.pairwise_singleton _ _, fun y hy z hz => ?_⟩
    rw [List.mem_singleton.mp hz]
    exact h.ahead hL hx hc y hy
  · rw [ed]
    refine List.pairwise_append.mpr ⟨h.nd, List.pairwise_singleton _ _, fun y hy z hz => ?_⟩
    rw [List.mem_singleton.mp hz]
    exact hs y hy
  · by_cases hkq : k < q.length
    · obtain ⟨m, z, d, l, h1, h2, h3, h4, h5⟩ := h.kid k hk y (old hkq hy)
      exact ⟨m, z, d, l, new h1, h2, h3, h4, by omega⟩
    · have hkl := (List.getElem?_eq_some_iff.mp hy).1
      rw [List.length_append, List.length_singleton] at hkl
      have : k = q.length := by omega
      subst this
      rw [List.getElem?_append_right (Nat.le_refl _), Nat.sub_self] at hy
      cases hy
      exact ⟨i, x, c, j, new hx, hc, rfl, hi, .inr ⟨rfl, Nat.lt_succ_self _⟩⟩
  · rw [ed]
    by_cases e : m < i ∨ (m = i ∧ l < j)
    · obtain ⟨y, hy, g1, g2⟩ := h.cov m z l d (old (by omega) h1) h2 e
      exact ⟨y, List.mem_append_left _ hy, g1, g2⟩
    · have : m = i ∧ l = j := by omega
      obtain ⟨rfl, rfl⟩ := this
      have h1 := old hi h1
      rw [hx] at h1
      cases h1
      rw [hc] at h2
      cases h2
      exact ⟨_, List.mem_append_right _ (List.mem_singleton.mpr rfl), rfl, .inl rfl⟩
/-- all letters of a word are read -/
theorem Hu.turn {q : List (List Nat × S)} {i : Nat} (h : Hu s0 st fd L q i L.length) {x : List Nat × S} (hx : q[i]? = some x) (hf : fd x.2 = false) : Hu s0 st fd L q (i + 1) 0 where
  root := h.root
  ok := h.ok
  up := h.up
  nd := h.nd
  kid := fun k hk y hy => by
    obtain ⟨m, z, d, l, h1, h2, h3, h4, h5⟩ := h.kid k hk y hy
    exact ⟨m, z, d, l, h1, h2, h3, h4, by omega⟩
  cov := fun m z l d h1 h2 h3 => by
    have := (List.getElem?_eq_some_iff.mp h2).1
    exact h.cov m z l d h1 h2 (by omega)
  no := fun m z hm hz => by
    by_cases e : m < i
    · exact h.no m z e hz
    · have : m = i := by omega
      subst this
      rw [hx] at hz
      cases hz
      exact hf
/-- each word's state was read by a word no later, or a word no later still waits -/
theorem Hu.all {q : List (List Nat × S)} {i : Nat} (h : Hu s0 st fd L q i 0) : ∀ (n : Nat) (v : List Nat), v.length = n → (∀ c ∈ v, c ∈ L) → ∃ (k : Nat) (y : List Nat × S), q[k]? = some y ∧ sle y.1 v ∧ (i ≤ k ∨ y.2 = rn s0 st v)
  | 0, v, hn, _ => by
    have := List.eq_nil_of_length_eq_zero hn
    subst this
    exact ⟨0, _, h.root, .inl rfl, .inr rfl⟩
  | n + 1, v, hn, hv => by
    rcases List.eq_nil_or_concat v with rfl | ⟨u, c, rfl⟩
    · cases hn
    · rw [List.concat_eq_append] at hn hv ⊢
      obtain ⟨k, y, h1, h2, h3⟩ := h.all n u (by simpa using hn) fun d hd => hv d (List.mem_append_left _ hd)
      by_cases e : i ≤ k
      · exact ⟨k, y, h1, sle_tr h2 (.inr (sl_more u c)), .inl e⟩
      · have e2 : y.2 = rn s0 st u := h3.resolve_left e
        obtain ⟨l, hl⟩ := List.mem_iff_getElem?.mp (hv c (by simp))
        obtain ⟨z, hz, g1, g2⟩ := h.cov k y l c h1 hl (.inl (by omega))
        obtain ⟨m, hm⟩ := List.mem_iff_getElem?.mp (List.mem_of_mem_drop hz)
        exact ⟨m, z, hm, sle_tr g2 (sle_app h2 c), .inr (by rw [g1, e2, rn_snoc])⟩
/-- the first that is found is the least -/
theorem Hu.least {q : List (List Nat × S)} {i : Nat} (h : Hu s0 st fd L q i 0) {x : List Nat × S} (hx : q[i]? = some x) {v : List Nat} (hv : ∀ c ∈ v, c ∈ L) (hf : fd (rn s0 st v) = true) : sle x.1 v := by
  obtain ⟨k, y, h1, h2, h3⟩ := h.all _ v rfl hv
  have e : i ≤ k := by
    refine Decidable.byContradiction fun n => ?_
    have e2 := h3.resolve_left n
    have := h.no k y (by omega) h1
    rw [e2, hf] at this
    cases this
  by_cases e3 : i = k
  · subst e3
    rw [hx] at h1
    cases h1
    exact h2
  · exact sle_tr (.inr (pw_at h.up hx h1 (by omega))) h2
/-- all read, none found: there is none -/
theorem Hu.none {q : List (List Nat × S)} {i : Nat} (h : Hu s0 st fd L q i 0) (hi : q.length ≤ i) {v : List Nat} (hv : ∀ c ∈ v, c ∈ L) : fd (rn s0 st v) = false := by
  obtain ⟨k, y, h1, h2, h3⟩ := h.all _ v rfl hv
  have hk := (List.getElem?_eq_some_iff.mp h1).1
  have e2 := h3.resolve_left (by omega)
  rw [← e2]
  exact h.no k y (by omega) h1
/-- words are no longer than their places -/
theorem Hu.len {q : List (List Nat × S)} {i j : Nat} (h : Hu s0 st fd L q i j) : ∀ (k n : Nat), n ≤ k → ∀ y, q[n]? = some y → y.1.length ≤ n
  | 0, n, hn, y, hy => by
    have : n = 0 := by omega
    subst this
    rw [h.root] at hy
    cases hy
    exact Nat.le_refl _
  | k + 1, n, hn, y, hy => by
    by_cases n0 : n = 0
    · subst n0
      rw [h.root] at hy
      cases hy
      exact Nat.le_refl _
    · obtain ⟨m, z, d, l, h1, h2, h3, h4, h5⟩ := h.kid n (by omega) y hy
      have := h.len k m (by omega) z h1
      rw [h3, List.length_append, List.length_singleton]
      omega
theorem nd_len {α : Type} [DecidableEq α] : ∀ {l u : List α}, l.Pairwise (fun x y => ¬ x = y) → (∀ x ∈ l, x ∈ u) → l.length ≤ u.length
  | [], u, _, _ => Nat.zero_le _
  | a :: r, u, hn, hu => by
    obtain ⟨h1, h2⟩ := List.pairwise_cons.mp hn
    have ih := nd_len (l := r) (u := u.erase a) h2 fun x hx => (List.mem_erase_of_ne (fun e => h1 x hx e.symm)).mpr (hu x (List.mem_cons_of_mem _ hx))
    have hm := hu a (List.mem_cons_self ..)
    rw [List.length_erase_of_mem hm] at ih
    have := List.length_pos_of_mem hm
    rw [List.length_cons]
    omega
/-- the queue is no longer than all states, and one more -/
theorem Hu.size {q : List (List Nat × S)} {i j : Nat} (h : Hu s0 st fd L q i j) {u : List S} (hu : ∀ w : List Nat, (∀ c ∈ w, c ∈ L) → rn s0 st w ∈ u) : q.length ≤ u.length + 1 := by
  have := nd_len (l := (q.drop 1).map (·.2)) (u := u) (List.pairwise_map.mpr h.nd) fun s hs => by
    obtain ⟨x, hx, rfl⟩ := List.mem_map.mp hs
    obtain ⟨a, b⟩ := h.ok x (List.mem_of_mem_drop hx)
    rw [a]
    exact hu _ b
  rw [List.length_map, List.length_drop] at this
  omega
end
end Say
namespace Say
open PySem PySem.Spec PyProof.Rows L2
theorem Same.seqT {K : PySem.W.Frag} {H H' : Hp} {a : Addr} {xs : List V} (e : Same H H') (h : SqT K H a xs) : SqT K H' a xs := by
  rcases h with (h | ⟨o, h⟩) | h
  · exact .inl (.inl (e _ _ h))
  · exact .inl (.inr ⟨o, e _ _ h⟩)
  · exact .inr h
mutual
theorem dp_same {K : PySem.W.Frag} {H H' : Hp} (e : Same H H') : ∀ {v : V} {d : PyData}, Dp K H v d → Dp K H' v d
  | _, _, .non => .non
  | _, _, .bl b => .bl b
  | _, _, .int i => .int i
  | _, _, .str x => .str x
  | _, _, .lst h a => .lst (Same.seq e h) (dpa_same e a)
  | _, _, .tup h a => .tup (Same.seqT e h) (dpa_same e a)
theorem dpa_same {K : PySem.W.Frag} {H H' : Hp} (e : Same H H') : ∀ {vs : List V} {ds : List PyData}, DpAll K H vs ds → DpAll K H' vs ds
  | _, _, .nil => .nil
  | _, _, .cons h t => .cons (dp_same e h) (dpa_same e t)
end
theorem dpa_len {K : PySem.W.Frag} {H : Hp} : ∀ {vs : List V} {ds : List PyData}, DpAll K H vs ds → vs.length = ds.length
  | _, _, .nil => rfl
  | _, _, .cons _ t => by simp [dpa_len t]
theorem dpa_at {K : PySem.W.Frag} {H : Hp} : ∀ {vs : List V} {ds : List PyData}, DpAll K H vs ds → ∀ {i : Nat} {d : PyData}, ds[i]? = some d → ∃ v, vs[i]? = some v ∧ Dp K H v d
  | _, _, .nil, i, d, h => by cases h
  | _, _, .cons a t, 0, d, h => by
    cases h
    exact ⟨_, rfl, a⟩
  | _, _, .cons a t, i + 1, d, h => dpa_at t h
/-- data with no dicts, its lists not long -/
inductive Few : PyData → Prop
  | non : Few .none
  | bl (b : Bool) : Few (.bool b)
  | int (i : Int) : Few (.int i)
  | str (x : Str) : Few (.str x)
  | lst {ds : List PyData} : ds.length ≤ 1000 → (∀ d ∈ ds, Few d) → Few (.list ds)
  | tup {ds : List PyData} : ds.length ≤ 1000 → (∀ d ∈ ds, Few d) → Few (.tuple ds)
theorem depth_mem : ∀ {ds : List PyData} {d : PyData}, d ∈ ds → d.depth ≤ PyData.depthAll ds
  | x :: r, d, h => by
    unfold PyData.depthAll
    rcases List.mem_cons.mp h with rfl | h
    · exact Nat.le_max_left _ _
    · exact Nat.le_trans (depth_mem h) (Nat.le_max_right _ _)
end Say
namespace Say
open PySem PySem.Spec PyProof.Rows L2
/-- the leads' pair, as the top has left it -/
def EvenC (K : PySem.W.Frag) (aE : Addr) : Prop := ∃ (o : Obj) (its : Array Value) (n : Nat), K.lookup aE = some o ∧ o.cls = .type "tuple" ∧ o.data = .seq its n ∧ its.size ≤ sizeLine ∧ Vals [V.str "", V.str ""] its.toList
theorem EvenC.sq {K : PySem.W.Frag} {aE : Addr} (h : EvenC K aE) (H : Hp) : SqT K H aE [V.str "", V.str ""] := .inr h
theorem EvenC.dp {K : PySem.W.Frag} {aE : Addr} (h : EvenC K aE) (H : Hp) : Dp K H (.ref aE) (.tuple [.str "", .str ""]) := .tup (h.sq H) (.cons (.str _) (.cons (.str _) .nil))
end Say
namespace Say
open PySem PySem.Spec PyProof.Rows L2
def LeadsT (P : Program) (w : World) (H : Hp) (a aE : Addr) (kvs : List LT3) : Prop := H a = some (LT P w a kvs) ∧ KeyT H kvs ∧ ∀ p ∈ kvs, H p.2.2 = some (.lst [.ref aE])
section
variable {P : Program} {w : World} {K : PySem.W.Frag} {mg : Str → Option Value} {base : Heap}
abbrev sKp : Stmt := topS 42
theorem scKp : FnScope ["leads", "state", "where", "lead", "there"] ["leads", "state"] (defScope sKp) := ⟨rfl, rfl, rfl, by decide +kernel, rfl, by decide +kernel, by decide +kernel⟩
def spKp (P : Program) (w : World) (aE : Addr) : Sp := fun vs H Q _ => ∃ (a t b : Addr) (kvs : List LT3) (k : List Leaf), vs = [.ref a, .ref t] ∧ LeadsT P w H a aE kvs ∧ kvs.length ≤ 1000 ∧ H t = some (.tup [.ref b, .ref aE]) ∧ KeyAt H b k ∧
  ((∃ p, tfind kvs k = some p) → ∀ H', Same H H' → Q (.bl false) H') ∧ (tfind kvs k = none → ∀ (D : Addr) (H' : Hp), H D = none → Stp a H H' → LeadsT P w H' a aE (kvs ++ [(k, b, D)]) → Q (.bl true) H')
theorem tfind_mem {kvs : List LT3} {k : List Leaf} {p : Addr × Addr} (h : tfind kvs k = some p) : (k, p.1, p.2) ∈ kvs := by
  unfold tfind at h
  obtain ⟨q, h1, h2⟩ := Option.map_eq_some_iff.mp h
  have e0 := List.find?_some h1
  have e : q.1 = k := of_decide_eq_true e0
  have m := List.mem_of_find?_eq_some h1
  rw [← e, ← h2]
  exact m
theorem KeyAt.kt {H H' : Hp} {b : Addr} {k : List Leaf} (h : KeyAt H b k) (e : KT H H') : KeyAt H' b k := by
  obtain ⟨vs, h1, h2⟩ := h
  exact ⟨vs, e.1 _ _ h1, h2⟩
theorem KeyT.kt {H H' : Hp} {xs : List LT3} (h : KeyT H xs) (e : KT H H') : KeyT H' xs := fun p hp => (h p hp).kt e
theorem kt_ext {H : Hp} {a : Addr} {P : Program} {w : World} {xs ys : List LT3} (h : H a = some (LT P w a xs)) : KT H (upd H a (LT P w a ys)) := KT.by fun t u q hu => by
  rw [upd_ne (ne_of q h (by rcases hu with ⟨_, rfl⟩ | ⟨_, _, rfl⟩ <;> (unfold LT; intro z; cases z)))]
  exact q
theorem ok_Kp {f aE : Addr} {fd : FuncData} {k : Nat} (F : Fun K "keep" "keep" sKp f fd) (B : Bn mg) (cL : KI mg "LEADS" 2) (hE : EvenC K aE) : FnOk P w K mg base CX0 (k + 1) f fd ["leads", "state"] (spKp P w aE) := by
  obtain ⟨tL, mL⟩ := cL
  refine F.ok scKp (fun vs H Q E h => ?_) (fun cdv A outer s H vs Q E hr h => ?_)
  · obtain ⟨a, t, b, kvs, kk, rfl, _⟩ := h
    rfl
  · obtain ⟨a, t, b, kvs, kk, rfl, ⟨hA, hK, hV⟩, h1000, hT, hb0, q1, q2⟩ := h
    have hu := hu_of hr
    have hu65 : (A.deeper (envOfC "keep" (defScope sKp) s.heap.objs.size f cdv)).units + 65 < cLine := by have := hr.un; omega
    refine ⟨_, pss_cons (ps_asg (pv 1) (pg_tup (by rfl) (pgs_cons (pg_name (i := 2) scKp.nd rfl (.inl rfl)) (pgs_cons (pg_name (i := 3) scKp.nd rfl (.inl rfl)) pgs_nil))))
      (pss_cons (ps_set (i := 4) scKp.nd rfl (.inl rfl) (pe_dsetdT hu (pv 0) (pv 2) (pe_lst pa_nil) ⟨rfl, rfl, rfl, rfl⟩))
      (pss_cons (ps_if (PW.pt (pw_or (pt_cmpR (op_inD hu65) (pv 3) (pv 4) rfl) (pw_or1 (pt_cmpR op_eq (pe_callB call_len (by rfl) B.len PySem.boot_len (pa_cons (pv 4) pa_nil)) (pe_glob (v := .int 2) rfl mL ⟨_, rfl⟩) (nomark _))))) (pss_one (ps_ret pe_bl)) pss_nil)
      (pss_cons (ps_expr (pe_bm PySem.F.plainAttrs_list PySem.F.slot_list_append PySem.F.type_list_append mt_append (pv 4) (pa_cons (pv 3) pa_nil)))
      (pss_one (ps_ret pe_bl))))), ?_⟩
    refine ⟨_, rfl, t, _, rfl, .inl (.inl hT), rfl, _, _, rfl, _, _, rfl, rfl, ?_⟩
    refine ⟨_, rfl, a, kvs, rfl, hA, hK, _, rfl, (by show 0 ≤ sizeLine; decide), fun D hD => ?_⟩
    have sD := same_new hD (.lst [])
    refine ⟨kvs, kk, b, D, sD _ _ hA, hK.kt (.of sD), rfl, hb0.kt (.of sD), rfl, small1000 (by omega), fun p hf => ?_, fun hf => ?_⟩
    · have hD' := sD _ _ (hV _ (tfind_mem hf))
      refine ⟨_, rfl, _, rfl, .tuple [.str "", .str ""], [.tuple [.str "", .str ""]], hE.dp _, .lst (.inl (.inl hD')) (.cons (hE.dp _) .nil), by decide +kernel, by decide +kernel, _, rfl, ?_⟩
      exact iteT (iteT (q1 ⟨p, hf⟩ _ sD))
    · have nDa : D ≠ a := (ne_of_none hA hD).symm
      have eD : (upd (upd H D (.lst [])) a (LT P w a (kvs ++ [(kk, b, D)]))) D = some (.lst []) := by rw [upd_ne nDa, upd_same]
      refine ⟨_, rfl, _, rfl, .tuple [.str "", .str ""], [], hE.dp _, .lst (.inl (.inl eD)) .nil, by decide +kernel, by decide +kernel, _, rfl, iteF ?_⟩
      refine ⟨_, rfl, _, _, rfl, .inl ⟨_, .inl (.inl eD), rfl⟩, rfl, _, rfl, iteF ?_⟩
      refine ⟨_, rfl, .inl ⟨rfl, _, .inl (.inl eD)⟩, _, rfl, D, _, _, rfl, rfl, eD, (by decide), ?_⟩
      have k1 : KT H (upd (upd H D (.lst [])) a (LT P w a (kvs ++ [(kk, b, D)]))) := (KT.of sD).trans (kt_ext (sD _ _ hA))
      have k2 := k1.trans (kt_upd eD (o := .lst [.ref aE]))
      refine q2 hf D _ hD (fun b u hb n => ?_) ⟨?_, fun p hp => ?_, fun p hp => ?_⟩
      · rw [upd_ne (ne_of_none hb hD), upd_ne n, upd_ne (ne_of_none hb hD)]
        exact hb
      · rw [upd_ne nDa.symm, upd_same]
        rfl
      · rcases List.mem_append.mp hp with hp | hp
        · exact (hK p hp).kt k2
        · rw [List.mem_singleton.mp hp]
          exact hb0.kt k2
      · rcases List.mem_append.mp hp with hp | hp
        · have e := hV p hp
          rw [upd_ne (ne_of_none e hD), upd_ne (ne_of e hA (by unfold LT; intro z; cases z)), upd_ne (ne_of_none e hD)]
          exact e
        · rw [List.mem_singleton.mp hp]
          show (upd _ D _) D = _
          rw [upd_same]
          rfl
end
end Say
namespace Say
open PySem PySem.Spec PyProof.Rows L2
def tkS (rs : List Rule) (s : Option (List Nat)) (c : Nat) : Option (List Nat) := (tkM rs s c).1
abbrev rnT (rs : List Rule) (w : List Nat) : Option (List Nat) := rn (some [35]) (tkS rs) w
def fdU (rs : List Rule) (s : Option (List Nat)) : Bool := (endM rs s).isNone
theorem rnT_some {rs : List Rule} (ho : ∀ ρ ∈ rs, RlOk ρ) : ∀ (n : Nat) {w tl : List Nat}, w.length = n → rnT rs w = some tl → ∃ ks, Fed rs w tl ks
  | 0, w, tl, hn, h => by
    have := List.eq_nil_of_length_eq_zero hn
    subst this
    have h : some [35] = some tl := h
    cases h
    exact ⟨[], fed_nil rs⟩
  | n + 1, w, tl, hn, h => by
    rcases List.eq_nil_or_concat w with rfl | ⟨u, c, rfl⟩
    · cases hn
    · rw [List.concat_eq_append] at h hn ⊢
      have h : rn (some [35]) (tkS rs) (u ++ [c]) = some tl := h
      rw [rn_snoc] at h
      cases e : rn (some [35]) (tkS rs) u with
      | none => rw [e] at h; cases h
      | some t =>
        rw [e] at h
        obtain ⟨ks, F⟩ := rnT_some ho n (by simpa using hn) e
        exact ⟨_, F.step ho h⟩
theorem rnT_none {rs : List Rule} (ho : ∀ ρ ∈ rs, RlOk ρ) : ∀ (n : Nat) {w : List Nat}, w.length = n → rnT rs w = none → ∀ v, (W rs (w ++ v)).2 ≠ none
  | 0, w, hn, h, v => by
    have := List.eq_nil_of_length_eq_zero hn
    subst this
    cases h
  | n + 1, w, hn, h, v => by
    rcases List.eq_nil_or_concat w with rfl | ⟨u, c, rfl⟩
    · cases hn
    · rw [List.concat_eq_append] at h hn ⊢
      have h : rn (some [35]) (tkS rs) (u ++ [c]) = none := h
      rw [rn_snoc] at h
      cases e : rn (some [35]) (tkS rs) u with
      | none =>
        rw [List.append_assoc]
        exact rnT_none ho n (by simpa using hn) e _
      | some t =>
        rw [e] at h
        obtain ⟨ks, F⟩ := rnT_some ho _ rfl e
        rw [F.stuck ho h v]
        exact fun z => by cases z
/-- what the hunt finds are the words that rules don't say -/
theorem fdU_iff {rs : List Rule} (ho : ∀ ρ ∈ rs, RlOk ρ) (w : List Nat) : fdU rs (rnT rs w) = true ↔ (W rs w).2 ≠ none := by
  cases e : rnT rs w with
  | none =>
    have := rnT_none ho _ rfl e []
    rw [List.append_nil] at this
    exact ⟨fun _ => this, fun _ => rfl⟩
  | some tl =>
    obtain ⟨ks, F⟩ := rnT_some ho _ rfl e
    rw [(F.whole ho).2]
    unfold fdU endM
    cases ew : (Wt rs tl).2 with
    | none => simp [ew]
    | some p => simp [ew]
/-- all tails there are -/
def tails (L : List Nat) : List (Option (List Nat)) := none :: ((((upto L 2).map fun z => 35 :: z) ++ upto L 3).map some)
theorem rnT_mem {rs : List Rule} (ho : ∀ ρ ∈ rs, RlOk ρ) {L w : List Nat} (hw : ∀ c ∈ w, c ∈ L) : rnT rs w ∈ tails L := by
  cases e : rnT rs w with
  | none => exact List.mem_cons_self ..
  | some tl =>
    refine List.mem_cons_of_mem _ (List.mem_map.mpr ⟨tl, ?_, rfl⟩)
    obtain ⟨ks, F⟩ := rnT_some ho _ rfl e
    obtain ⟨l1, l2, l3⟩ := F.len
    obtain ⟨p, st, h1, h2, rfl, _⟩ := F
    rw [List.length_drop, List.length_cons] at l1 l2
    cases p with
    | zero =>
      refine List.mem_append_left _ (List.mem_map.mpr ⟨w, mem_upto.mpr ⟨by omega, hw⟩, rfl⟩)
    | succ p =>
      refine List.mem_append_right _ (mem_upto.mpr ⟨by rw [List.length_drop, List.length_cons]; omega, fun c hc => hw c ?_⟩)
      rw [List.drop_succ_cons] at hc
      exact List.mem_of_mem_drop hc
theorem rnT_len {rs : List Rule} (ho : ∀ ρ ∈ rs, RlOk ρ) {w tl : List Nat} (e : rnT rs w = some tl) : 1 ≤ tl.length ∧ tl.length ≤ 3 := by
  obtain ⟨ks, F⟩ := rnT_some ho _ rfl e
  exact ⟨F.len.1, F.len.2.1⟩
end Say
namespace Say
open PySem PySem.Spec PyProof.Rows L2
abbrev US := Option (List Nat) × Bool
def usS (rs : List Rule) (k : Nat) (s : US) (c : Nat) : US := ((tkM rs s.1 c).1, s.2 || decide (k ∈ (tkM rs s.1 c).2))
abbrev rnU (rs : List Rule) (k : Nat) (w : List Nat) : US := rn (some [35], false) (usS rs k) w
def fdK (rs : List Rule) (k : Nat) (s : US) : Bool := match endM rs s.1 with
  | none => false
  | some ks => s.2 || decide (k ∈ ks)
theorem rnU_fst (rs : List Rule) (k : Nat) : ∀ (n : Nat) (w : List Nat), w.length = n → (rnU rs k w).1 = rnT rs w
  | 0, w, hn => by
    have := List.eq_nil_of_length_eq_zero hn
    subst this
    rfl
  | n + 1, w, hn => by
    rcases List.eq_nil_or_concat w with rfl | ⟨u, c, rfl⟩
    · cases hn
    · rw [List.concat_eq_append] at hn ⊢
      have ih := rnU_fst rs k n u (by simpa using hn)
      show (rn (some [35], false) (usS rs k) (u ++ [c])).1 = rn (some [35]) (tkS rs) (u ++ [c])
      rw [rn_snoc, rn_snoc]
      show (tkM rs (rn (some [35], false) (usS rs k) u).1 c).1 = (tkM rs (rn (some [35]) (tkS rs) u) c).1
      rw [show (rn (some [35], false) (usS rs k) u).1 = rn (some [35]) (tkS rs) u from ih]
theorem rnU_some {rs : List Rule} (ho : ∀ ρ ∈ rs, RlOk ρ) (k : Nat) : ∀ (n : Nat) {w tl : List Nat}, w.length = n → rnT rs w = some tl → ∃ ks, Fed rs w tl ks ∧ (rnU rs k w).2 = decide (k ∈ ks)
  | 0, w, tl, hn, h => by
    have := List.eq_nil_of_length_eq_zero hn
    subst this
    have h : some [35] = some tl := h
    cases h
    exact ⟨[], fed_nil rs, (decide_eq_false (fun z => nomatch z)).symm⟩
  | n + 1, w, tl, hn, h => by
    rcases List.eq_nil_or_concat w with rfl | ⟨u, c, rfl⟩
    · cases hn
    · rw [List.concat_eq_append] at h hn ⊢
      have h : rn (some [35]) (tkS rs) (u ++ [c]) = some tl := h
      rw [rn_snoc] at h
      cases e : rn (some [35]) (tkS rs) u with
      | none => rw [e] at h; cases h
      | some t =>
        rw [e] at h
        obtain ⟨ks, F, e2⟩ := rnU_some ho k n (by simpa using hn) e
        refine ⟨_, F.step ho h, ?_⟩
        show (rn (some [35], false) (usS rs k) (u ++ [c])).2 = _
        rw [rn_snoc]
        show ((rnU rs k u).2 || decide (k ∈ (tkM rs (rnU rs k u).1 c).2)) = _
        rw [e2, rnU_fst rs k _ u rfl, show rnT rs u = some t from e, Bool.eq_iff_iff, Bool.or_eq_true, decide_eq_true_eq, decide_eq_true_eq, decide_eq_true_eq, List.mem_append]
/-- what the hunt finds are the words that rules say, and by the rule k -/
theorem fdK_iff {rs : List Rule} (ho : ∀ ρ ∈ rs, RlOk ρ) (k : Nat) (w : List Nat) : fdK rs k (rnU rs k w) = true ↔ (W rs w).2 = none ∧ k ∈ (W rs w).1.map (·.2) := by
  unfold fdK
  rw [rnU_fst rs k _ w rfl]
  cases e : rnT rs w with
  | none =>
    have := rnT_none ho _ rfl e []
    rw [List.append_nil] at this
    exact ⟨fun z => (by cases z), fun z => absurd z.1 this⟩
  | some tl =>
    obtain ⟨ks, F, e2⟩ := rnU_some ho k _ rfl e
    obtain ⟨w1, w2⟩ := F.whole ho
    rw [w1, w2, e2]
    cases ew : (Wt rs tl).2 with
    | none =>
      have ee : endM rs (some tl) = some ((Wt rs tl).1.map (·.2)) := by unfold endM; simp only [ew, if_true]
      rw [ee]
      simp only [Option.map_none, true_and, Bool.or_eq_true, decide_eq_true_eq]
      exact List.mem_append.symm
    | some p =>
      have ee : endM rs (some tl) = none := by unfold endM; simp [ew]
      rw [ee]
      simp
def states (L : List Nat) : List US := (tails L).flatMap fun t => [(t, false), (t, true)]
theorem rnU_mem {rs : List Rule} (ho : ∀ ρ ∈ rs, RlOk ρ) (k : Nat) {L w : List Nat} (hw : ∀ c ∈ w, c ∈ L) : rnU rs k w ∈ states L := by
  refine List.mem_flatMap.mpr ⟨_, rnT_mem ho hw, ?_⟩
  have e := rnU_fst rs k _ w rfl
  generalize rnU rs k w = s at e ⊢
  obtain ⟨a, b⟩ := s
  have e : a = rnT rs w := e
  subst e
  cases b <;> simp
theorem rnU_len {rs : List Rule} (ho : ∀ ρ ∈ rs, RlOk ρ) (k : Nat) {w tl : List Nat} (e : (rnU rs k w).1 = some tl) : 1 ≤ tl.length ∧ tl.length ≤ 3 := by
  rw [rnU_fst rs k _ w rfl] at e
  exact rnT_len ho e
theorem states_len (L : List Nat) : (states L).length = 2 * (tails L).length := by
  unfold states
  generalize tails L = l
  induction l with
  | nil => rfl
  | cons a r ih =>
    rw [List.flatMap_cons, List.length_append, ih, List.length_cons]
    show 2 + 2 * r.length = 2 * (r.length + 1)
    omega
end Say
namespace Say
open PySem PySem.Spec PyProof.Rows L2
section
variable {P : Program} {w : World} {K : PySem.W.Frag} {mg : Str → Option Value} {base : Heap}
abbrev sChE : Stmt := topS 20
theorem scChE : FnScope ["letters", "exceptions", "last", "number", "pair"] ["letters", "exceptions"] (defScope sChE) := ⟨rfl, rfl, rfl, by decide +kernel, rfl, by decide +kernel, by decide +kernel⟩
def spChE : Sp := fun vs H Q _ => ∃ (L : List Nat) (X : Addr) (es : List Exc), vs = [.str (T L), .ref X] ∧ ExcsAt H X es ∧ (∀ e ∈ es, ExcOk L e) ∧ es.length ≤ 8 ∧ (es.Pairwise fun e f => e.1 < f.1) ∧ ∀ (H' : Hp), Same H H' → Q .non H'
theorem ok_chE {f : Addr} {fd : FuncData} (F : Fun K "check_exceptions" "check_exceptions" sChE f fd) (B : Bn mg) (cM : KI mg "MOST_EXCEPTIONS" 8) (DI : Df P w K mg base "is_exception" ["letters", "pair"] 3 spIsExc) :
    FnOk P w K mg base CX0 4 f fd ["letters", "exceptions"] spChE := by
  obtain ⟨fI, fdI, GI, kI, bI, mI⟩ := DI
  obtain ⟨tS, mS⟩ := cM
  refine F.ok scChE (fun vs H Q E h => ?_) (fun cdv A outer s H vs Q E hr h => ?_)
  · obtain ⟨L, X, es, rfl, _⟩ := h
    rfl
  · obtain ⟨L, X, es, rfl, ⟨ts, hX, hp⟩, ho, h8, up, q⟩ := h
    refine ⟨_, pss_cons (ps_if (pt_not (pt_val (pe_callB call_isi (by rfl) B.isi (by decide +kernel) (pa_cons (pv 1) (pa_cons (pe_bltn (v := .ty "tuple") rfl B.tup (by decide +kernel) rfl) pa_nil))))) (pss_one ps_never) pss_nil)
      (pss_cons (ps_set (i := 2) scChE.nd rfl (.inl rfl) pe_str)
      (pss_one (ps_for PassesOwn.never rfl (pi_enumT (by rfl) B.enu (pa_cons (pv 1) pa_nil)) (pg_tup (by rfl) (pgs_cons (pg_name (i := 3) scChE.nd rfl (.inl rfl)) (pgs_cons (pg_name (i := 4) scChE.nd rfl (.inl rfl)) pgs_nil)))
        (pss_cons (ps_if (PW.pt (pw_or (pt_cmpR op_eq (pv 3) (pe_glob (v := .int 8) rfl mS ⟨_, rfl⟩) (nomark _)) (pw_or (pt_not (pt_val (pe_call GI hr (by rfl) mI kI bI .nil pass0 (pa_cons (pv 0) (pa_cons (pv 4) pa_nil)))))
            (pw_or1 (pt_cmpR op_le_str (pe_ix ix_tup (pv 4) pe_int (fun _ _ => rfl)) (pv 2) (nomark _)))))) (pss_one ps_never) pss_nil)
        (pss_one (ps_set (i := 2) scChE.nd rfl (.inl rfl) (pe_ix ix_tup (pv 4) pe_int (fun _ _ => rfl)))))))), ?_⟩
    refine ⟨_, rfl, _, _, .type "tuple", _, true, rfl, ClsV.ty _, .fTuple hX.choose_spec.1, kit_ty (by decide +kernel), true, rfl, iteF ?_⟩
    refine ⟨_, rfl, X, _, rfl, .inl hX.rd, for_it (walk_enumT (xs := ts.map V.ref)) (fun i σ H2 => Same H H2 ∧ ∃ l v3 v4, σ = [some (.str (T L)), some (.ref X), some (.str (T l)), v3, v4] ∧ ∀ e, es[i]? = some e → l < e.1) ⟨Same.refl H, [], _, _, by rw [← show Str.ofString "" = T [] from nil_eq]; rfl, fun e he => ?_⟩ (fun i σ H2 _ h => .inl (hX.kt (.of h.1)).rd) ?_ ?_⟩
    · have := (ho e (List.mem_of_getElem? he)).w1
      cases h : e.1 with
      | nil => rw [h] at this; exact absurd this (by decide)
      | cons a r => exact List.Lex.nil
    · rintro i x σ H2 H3 hi ⟨s2, l, v3, v4, rfl, hlt⟩ ⟨t, x1, x2, rfl, ht, rfl, g1, g2⟩
      cases g1
      have g2 : (ts.map V.ref)[i]? = some x2 := g2
      rw [List.getElem?_map] at g2
      obtain ⟨a, ha, e⟩ := Option.map_eq_some_iff.mp g2
      subst e
      obtain ⟨e, he, hat⟩ := paired_at hp ha
      have sm := same_new ht (.tup [.int (i : Nat), .ref a])
      have hi2 : i < es.length := (List.getElem?_eq_some_iff.mp he).1
      refine ⟨t, _, rfl, .inl (.inl upd_same), rfl, _, _, rfl, _, _, rfl, rfl, ?_⟩
      refine ⟨_, rfl, rfl, _, rfl, ?_⟩
      have nq : ¬ V.int ((i : Nat) : Int) = V.int 8 := fun z => by
        have := V.int.inj z
        omega
      rw [decide_eq_false nq]
      refine iteF ?_
      refine ⟨_, rfl, _, rfl, L, a, e, rfl, sm _ _ (s2 _ _ hat), ho e (List.mem_of_getElem? he), fun H4 s4 => ?_⟩
      have hat4 := s4 _ _ (sm _ _ (s2 _ _ hat))
      refine ⟨true, rfl, iteF ?_⟩
      refine ⟨_, rfl, a, _, 0, .str (T e.1), rfl, rfl, .inl (.inl hat4), atI_nat (j := 0) rfl, _, rfl, _, _, rfl, rfl, _, rfl, ?_⟩
      have lt := hlt e he
      rw [show decide ((T l).cps.toList < (T e.1).cps.toList) = true from decide_eq_true lt]
      refine iteF ?_
      refine ⟨_, rfl, a, _, 0, .str (T e.1), rfl, rfl, .inl (.inl hat4), atI_nat (j := 0) rfl, ?_⟩
      refine ⟨s2.trans (sm.trans s4), e.1, _, _, rfl, fun e' he' => ?_⟩
      exact (List.pairwise_iff_getElem.mp up) i (i + 1) hi2 (List.getElem?_eq_some_iff.mp he').1 (Nat.lt_succ_self _) |> fun h => by
        rw [(List.getElem?_eq_some_iff.mp he).2, (List.getElem?_eq_some_iff.mp he').2] at h
        exact h
    · rintro σ H2 ⟨s2, l, v3, v4, rfl, _⟩
      exact q H2 s2
abbrev sCh : Stmt := topS 17
theorem scCh : FnScope ["book", "letters", "rules", "exceptions"] ["book"] (defScope sCh) := ⟨rfl, rfl, rfl, by decide +kernel, rfl, by decide +kernel, by decide +kernel⟩
def spCh : Sp := fun vs H Q _ => ∃ (b : Addr) (L : List Nat) (rs : List Rule) (es : List Exc), vs = [.ref b] ∧ BookAt H b L rs es ∧ BookOk L rs es ∧ ∀ (H' : Hp), Same H H' → Q (.ref b) H'
theorem ok_ch {f : Addr} {fd : FuncData} (F : Fun K "checked_book" "checked_book" sCh f fd) (B : Bn mg) (DL : Df P w K mg base "check_letters" ["letters"] 2 spChL) (DR : Df P w K mg base "check_rules" ["letters", "rules"] 4 spChR)
    (DE : Df P w K mg base "check_exceptions" ["letters", "exceptions"] 4 spChE) : FnOk P w K mg base CX0 5 f fd ["book"] spCh := by
  obtain ⟨fL, fdL, GL, kL, bL, mL⟩ := DL
  obtain ⟨fR, fdR, GR, kR, bR, mR⟩ := DR
  obtain ⟨fE, fdE, GE, kE, bE, mE⟩ := DE
  refine F.ok scCh (fun vs H Q E h => ?_) (fun cdv A outer s H vs Q E hr h => ?_)
  · obtain ⟨b, L, rs, es, rfl, _⟩ := h
    rfl
  · obtain ⟨b, L, rs, es, rfl, ⟨R, X, hb, hR, hX⟩, ho, q⟩ := h
    refine ⟨_, pss_cons (ps_if (PW.pt (pw_or (pt_not (pt_val (pe_callB call_isi (by rfl) B.isi (by decide +kernel) (pa_cons (pv 0) (pa_cons (pe_bltn (v := .ty "tuple") rfl B.tup (by decide +kernel) rfl) pa_nil)))))
          (pw_or1 (pt_cmpR op_ne (pe_callB call_len (by rfl) B.len PySem.boot_len (pa_cons (pv 0) pa_nil)) pe_int (nomark _))))) (pss_one ps_never) pss_nil)
      (pss_cons (ps_asg (pv 0) (pg_tup (by rfl) (pgs_cons (pg_name (i := 1) scCh.nd rfl (.inl rfl)) (pgs_cons (pg_name (i := 2) scCh.nd rfl (.inl rfl)) (pgs_cons (pg_name (i := 3) scCh.nd rfl (.inl rfl)) pgs_nil)))))
      (pss_cons (ps_expr (pe_call GL (hr.mono (by decide)) (by rfl) mL kL bL .nil pass0 (pa_cons (pv 1) pa_nil)))
      (pss_cons (ps_expr (pe_call GR hr (by rfl) mR kR bR .nil pass0 (pa_cons (pv 1) (pa_cons (pv 2) pa_nil))))
      (pss_cons (ps_expr (pe_call GE hr (by rfl) mE kE bE .nil pass0 (pa_cons (pv 1) (pa_cons (pv 3) pa_nil))))
      (pss_one (ps_ret (pv 0))))))), ?_⟩
    refine ⟨_, rfl, _, _, .type "tuple", _, true, rfl, ClsV.ty _, .base (.tup hb), kit_ty (by decide +kernel), true, rfl, iteF ?_⟩
    refine ⟨_, rfl, _, 3, rfl, .inr ⟨_, .inl (.inl hb), rfl⟩, rfl, _, rfl, iteF ?_⟩
    refine ⟨_, rfl, b, _, rfl, .inl (.inl hb), rfl, _, _, rfl, _, _, rfl, _, _, rfl, rfl, ?_⟩
    refine ⟨_, rfl, L, rfl, ho.lt, fun H1 s1 => ?_⟩
    refine ⟨_, rfl, _, rfl, L, R, rs, rfl, ho.lt, hR.kt (.of s1), ho.rl, ho.r12, fun H2 s2 => ?_⟩
    refine ⟨_, rfl, _, rfl, L, X, es, rfl, hX.kt (.of (s1.trans s2)), ho.ex, ho.e8, ho.up, fun H3 s3 => ?_⟩
    exact ⟨_, rfl, q H3 (s1.trans (s2.trans s3))⟩
end
end Say
namespace L2
open PySem PySem.Spec PyProof.Rows
section
variable {X : Cx}
/-- o.f as one of several targets -/
def gAttr (K : PySem.W.Frag) (f : Str) (to : TE) : TG := fun v σ H Q => to σ H fun x H1 => ∃ a C dx fs, x = .ref a ∧ H1 a = some (.ins C dx fs) ∧ Cls K C ∧ NoAttr K C f ∧ fs.length < 1000 ∧ Q σ (upd H1 a (.ins C dx (putF f v fs)))
theorem pg_attr {o : Expr} {to : TE} {f : Str} {pos : Pos} (ho : PE X o to) : PG X (.Attribute o f pos) (gAttr X.K f to) := by
  refine ⟨fun pins s σ H v u Q I r h => ?_⟩
  rw [show assign (.Attribute o f pos) X.env u = (do
    let ov ← holding [u] (eval o X.env)
    standAt pos.atName
    holding [u, ov] (setAttr ov f u)
    release [u, ov] []) from assign_Attribute ..]
  refine wpAny_bind (wpAny_holding (thn (ho.run pins s σ H _ I h) fun ov s1 ⟨x, H1, I1, r1, a, C, dx, fs, ex, ea, c, n, l, q⟩ => ?_))
  subst ex
  obtain rfl : ov = Value.ref a := r1
  exact wpAny_bind (wpAny_standAt (wpAny_bind (wpAny_holding (setattr_ok I1 ea c n l r fun s2 I2 => wpAny_release ⟨σ, _, I2, q⟩))))
end
end L2
namespace Say
open PySem PySem.Spec PyProof.Rows L2
abbrev sUH (j : Nat) : Stmt := inClass (topS 43) j
structure USC (K : PySem.W.Frag) (C : Addr) : Prop where
  cl : Cls K C
  nR : NoAttr K C "_rules"
  nN : NoAttr K C "_number"
def fldU (R : Addr) (k : Nat) : List (Str × V) := [("_rules", .ref R), ("_number", .int (k : Nat))]
/-- a hunt for the rule k at y -/
def HuntU (C : Addr) (H : Hp) (y R : Addr) (rs : List Rule) (k : Nat) : Prop := (∃ dx, H y = some (.ins C dx (fldU R k))) ∧ RulesAt H R rs
theorem HuntU.same {C : Addr} {H H' : Hp} {y R : Addr} {rs : List Rule} {k : Nat} (h : HuntU C H y R rs k) (e : Same H H') : HuntU C H' y R rs k := by
  obtain ⟨⟨dx, h1⟩, h2⟩ := h
  exact ⟨⟨dx, e _ _ h1⟩, h2.kt (.of e)⟩
def TlS (s : Option (List Nat)) : Prop := ∀ t, s = some t → 1 ≤ t.length ∧ t.length ≤ 3
def leafT : Option (List Nat) → Leaf
  | none => .none
  | some t => .text (T t)
theorem leafT_V (s : Option (List Nat)) : leafV (leafT s) = optT s := by cases s <;> rfl
theorem leafT_inj {s s' : Option (List Nat)} (h : leafT s = leafT s') : s = s' := by
  cases s with
  | none => cases s' with
    | none => rfl
    | some t => cases h
  | some t => cases s' with
    | none => cases h
    | some t' => rw [T_inj (Leaf.text.inj h)]
def leafU (s : US) : List Leaf := [leafT s.1, .num (if s.2 = true then 1 else 0)]
theorem leafU_inj {s s' : US} (h : leafU s = leafU s') : s = s' := by
  obtain ⟨a, u⟩ := s
  obtain ⟨a', u'⟩ := s'
  have h1 := (List.cons.inj h).1
  have h2 := (List.cons.inj (List.cons.inj h).2).1
  have e := leafT_inj h1
  have e : a = a' := e
  subst e
  have h2 : Leaf.num (if u = true then 1 else 0) = Leaf.num (if u' = true then 1 else 0) := h2
  cases u <;> cases u' <;> first | rfl | (exfalso; simp at h2)
theorem keyU {H : Hp} {b : Addr} {s : US} (h : H b = some (.tup [optT s.1, .bl s.2])) : KeyAt H b (leafU s) := ⟨_, h, .cons (by rw [← leafT_V]; exact .val _) (.cons (.bl _) .nil)⟩
theorem inV_nat (k : Nat) : ∀ ks : List Nat, inV (.int (k : Nat)) (ks.map fun j => V.int (j : Nat)) = decide (k ∈ ks)
  | [] => rfl
  | a :: r => by
    have ih := inV_nat k r
    show (eqV (.int (a : Nat)) (.int (k : Nat)) || inV (.int (k : Nat)) (r.map fun j => V.int (j : Nat))) = _
    rw [ih, show eqV (.int (a : Nat)) (.int (k : Nat)) = decide ((a : Int) = (k : Int)) from rfl, Bool.eq_iff_iff, Bool.or_eq_true, decide_eq_true_eq, decide_eq_true_eq, decide_eq_true_eq, List.mem_cons]
    exact or_congr ⟨fun h => by omega, fun h => by omega⟩ Iff.rfl
theorem flat_ints : ∀ ks : List Nat, (ks.map fun j => V.int (j : Nat)).all flatV = true
  | [] => rfl
  | a :: r => by
    show (true && (r.map fun j => V.int (j : Nat)).all flatV) = true
    rw [flat_ints r]
    rfl
/-- a state's pair: where and lead -/
def StU (H : Hp) (t aE : Addr) (s : US) : Prop := ∃ b : Addr, H t = some (.tup [.ref b, .ref aE]) ∧ H b = some (.tup [optT s.1, .bl s.2])
theorem StU.kt {H H' : Hp} {t aE : Addr} {s : US} (h : StU H t aE s) (e : KT H H') : StU H' t aE s := by
  obtain ⟨b, h1, h2⟩ := h
  exact ⟨b, e.1 _ _ h1, e.1 _ _ h2⟩
section
variable {P : Program} {w : World} {K : PySem.W.Frag} {mg : Str → Option Value} {base : Heap}
theorem scHI : FnScope ["self", "rules", "number"] ["self", "rules", "number"] (defScope (sUH 0)) := ⟨rfl, rfl, rfl, by decide +kernel, rfl, by decide +kernel, by decide +kernel⟩
def spHI (C : Addr) : Sp := fun vs H Q _ => ∃ (y dx R : Addr) (k : Nat), vs = [.ref y, .ref R, .int k] ∧ H y = some (.ins C dx []) ∧ ∀ H' : Hp, H' y = some (.ins C dx (fldU R k)) → (∀ b, b ≠ y → H' b = H b) → Q .non H'
theorem ok_HI {f C : Addr} {fd : FuncData} {k : Nat} (F : Fun K "__init__" "UseHunt.__init__" (sUH 0) f fd) (S : USC K C) : FnOk P w K mg base CX0 (k + 1) f fd ["self", "rules", "number"] (spHI C) := by
  refine F.ok scHI (fun vs H Q E h => ?_) (fun cdv A outer s H vs Q E hr h => ?_)
  · obtain ⟨y, dx, R, n, rfl, _⟩ := h
    rfl
  · obtain ⟨y, dx, R, n, rfl, hy, q⟩ := h
    refine ⟨_, pss_cons (ps_fld (pv 0) (pv 1) rfl) (pss_one (ps_fld (pv 0) (pv 2) rfl)), ?_⟩
    refine ⟨_, rfl, _, rfl, y, C, dx, _, rfl, hy, S.cl, S.nR, (by show 0 < 1000; decide), ?_⟩
    refine ⟨_, rfl, _, rfl, y, C, dx, _, rfl, upd_same, S.cl, S.nN, (by show 1 < 1000; decide), ?_⟩
    exact q _ upd_same fun b hb => by rw [upd_ne hb, upd_ne hb]
theorem scHS : FnScope ["self"] ["self"] (defScope (sUH 1)) := ⟨rfl, rfl, rfl, by decide +kernel, rfl, by decide +kernel, by decide +kernel⟩
def spHS (aE : Addr) : Sp := fun vs H Q _ => ∃ y : Addr, vs = [.ref y] ∧ ∀ (u : Addr) (H' : Hp), H u = none → Same H H' → StU H' u aE (some [35], false) → Q (.ref u) H'
theorem ok_HS {f aE : Addr} {fd : FuncData} {k : Nat} (F : Fun K "start" "UseHunt.start" (sUH 1) f fd) (C : Cn mg) (mE : mg "EVEN" = some (.ref aE)) : FnOk P w K mg base CX0 (k + 1) f fd ["self"] (spHS aE) := by
  obtain ⟨tE, mG⟩ := C.edge
  refine F.ok scHS (fun vs H Q E h => ?_) (fun cdv A outer s H vs Q E hr h => ?_)
  · obtain ⟨y, rfl, _⟩ := h
    rfl
  · obtain ⟨y, rfl, q⟩ := h
    refine ⟨_, pss_one (ps_ret (pe_tup (pa_cons (pe_tup (pa_cons (pe_glob (v := .str "#") rfl mG ⟨_, rfl⟩) (pa_cons pe_bl pa_nil))) (pa_cons (pe_glob (v := .ref aE) rfl mE rfl) pa_nil)))), ?_⟩
    refine ⟨(by show 2 ≤ sizeLine; decide), fun b hb => ⟨(by show 2 ≤ sizeLine; decide), fun u hu => ?_⟩⟩
    have sb := same_new hb (.tup [optT (some [35]), .bl false])
    have su := same_new hu (.tup [.ref b, .ref aE])
    exact q u _ (sb.free hu) (sb.trans su) ⟨b, upd_same, su _ _ upd_same⟩
theorem scHA : FnScope ["self", "state", "letter", "tail", "is_used", "numbers"] ["self", "state", "letter"] (defScope (sUH 2)) := ⟨rfl, rfl, rfl, by decide +kernel, rfl, by decide +kernel, by decide +kernel⟩
def spHA (C aE : Addr) : Sp := fun vs H Q _ => ∃ (y R t : Addr) (rs : List Rule) (k : Nat) (s : US) (c : Nat), vs = [.ref y, .ref t, .str (T [c])] ∧ HuntU C H y R rs k ∧ (∀ ρ ∈ rs, RlOk ρ) ∧ StU H t aE s ∧ TlS s.1 ∧
  ∀ (u : Addr) (H' : Hp), Same H H' → H u = none → StU H' u aE (usS rs k s c) → Q (.ref u) H'
theorem ok_HA {f C aE : Addr} {fd : FuncData} (F : Fun K "after" "UseHunt.after" (sUH 2) f fd) (S : USC K C) (mE : mg "EVEN" = some (.ref aE)) (DTk : Df P w K mg base "taken" ["rules", "tail", "letter"] 3 spTk) : FnOk P w K mg base CX0 4 f fd ["self", "state", "letter"] (spHA C aE) := by
  obtain ⟨fTk, fdTk, GTk, kTk, bTk, mTk⟩ := DTk
  refine F.ok scHA (fun vs H Q E h => ?_) (fun cdv A outer s H vs Q E hr h => ?_)
  · obtain ⟨y, R, t, rs, k, s, c, rfl, _⟩ := h
    rfl
  · obtain ⟨y, R, t, rs, k, ⟨tl, u0⟩, c, rfl, ⟨⟨dx, hy⟩, hR⟩, ho, ⟨b, ht, hb⟩, hs, q⟩ := h
    refine ⟨_, pss_cons (ps_asg (pe_ix ix_tup (pv 1) pe_int (fun _ _ => rfl)) (pg_tup (by rfl) (pgs_cons (pg_name (i := 3) scHA.nd rfl (.inl rfl)) (pgs_cons (pg_name (i := 4) scHA.nd rfl (.inl rfl)) pgs_nil))))
      (pss_cons (ps_asg (pe_call GTk hr (by rfl) mTk kTk bTk .nil pass0 (pa_cons (pe_fld (pv 0) rfl) (pa_cons (pv 3) (pa_cons (pv 2) pa_nil)))) (pg_tup (by rfl) (pgs_cons (pg_name (i := 3) scHA.nd rfl (.inl rfl)) (pgs_cons (pg_name (i := 5) scHA.nd rfl (.inl rfl)) pgs_nil))))
      (pss_one (ps_ret (pe_tup (pa_cons (pe_tup (pa_cons (pv 3) (pa_cons (pe_or (pv 4) (pe_one (pe_cmpR op_in_seq (pe_fld (pv 0) rfl) (pv 5) rfl))) pa_nil))) (pa_cons (pe_glob (v := .ref aE) rfl mE rfl) pa_nil)))))), ?_⟩
    refine ⟨_, rfl, t, _, 0, .ref b, rfl, rfl, .inl (.inl ht), atI_nat (j := 0) rfl, ?_⟩
    refine ⟨b, _, rfl, .inl (.inl hb), rfl, _, _, rfl, _, _, rfl, rfl, ?_⟩
    refine ⟨_, rfl, y, C, dx, _, _, rfl, hy, S.cl, S.nR, rfl, ?_⟩
    refine ⟨_, rfl, _, rfl, R, rs, tl, c, rfl, hR, ho, hs, fun u D H1 s1 hD h1 h2 => ?_⟩
    refine ⟨u, _, rfl, .inl (.inl h1), rfl, _, _, rfl, _, _, rfl, rfl, ?_⟩
    have hy1 := s1 _ _ hy
    have fin : ∀ v : Bool, v = (u0 || decide (k ∈ (tkM rs tl c).2)) → (2 ≤ sizeLine ∧ ∀ b1, H1 b1 = none → (2 ≤ sizeLine ∧ ∀ u1, (upd H1 b1 (.tup [optT (tkM rs tl c).1, .bl v])) u1 = none → Q (.ref u1) (upd (upd H1 b1 (.tup [optT (tkM rs tl c).1, .bl v])) u1 (.tup [.ref b1, .ref aE])))) := fun v hv => by
      refine ⟨by decide, fun b1 hb1 => ⟨by decide, fun u1 hu1 => ?_⟩⟩
      have sb := same_new hb1 (.tup [optT (tkM rs tl c).1, .bl v])
      have su := same_new hu1 (.tup [.ref b1, .ref aE])
      refine q u1 _ (s1.trans (sb.trans su)) (s1.free (sb.free hu1)) ⟨b1, upd_same, ?_⟩
      rw [su _ _ upd_same, hv]
      rfl
    refine ⟨_, rfl, _, rfl, u0, rfl, ite2 (fun cu => ?_) (fun cu => ?_)⟩
    · exact fin true (by rw [cu]; rfl)
    · refine ⟨_, rfl, y, C, dx, _, _, rfl, hy1, S.cl, S.nN, rfl, _, rfl, D, _, rfl, .inl (.inl (.inl h2)), rfl, flat_ints _, ?_⟩
      have e : (if false = true then !inV (.int (k : Nat)) ((tkM rs tl c).2.map fun j => V.int (j : Nat)) else inV (.int (k : Nat)) ((tkM rs tl c).2.map fun j => V.int (j : Nat))) = (u0 || decide (k ∈ (tkM rs tl c).2)) := by
        rw [if_neg (by decide), inV_nat, Bool.eq_false_iff.mpr cu, Bool.false_or]
      exact fin _ e
theorem scHF : FnScope ["self", "state", "tail", "is_used", "numbers"] ["self", "state"] (defScope (sUH 3)) := ⟨rfl, rfl, rfl, by decide +kernel, rfl, by decide +kernel, by decide +kernel⟩
def spHF (C aE : Addr) : Sp := fun vs H Q _ => ∃ (y R t : Addr) (rs : List Rule) (k : Nat) (s : US), vs = [.ref y, .ref t] ∧ HuntU C H y R rs k ∧ (∀ ρ ∈ rs, RlOk ρ) ∧ StU H t aE s ∧ TlS s.1 ∧
  ∀ (H' : Hp), Same H H' → Q (.bl (fdK rs k s)) H'
theorem ok_HF {f C aE : Addr} {fd : FuncData} (F : Fun K "is_found" "UseHunt.is_found" (sUH 3) f fd) (S : USC K C) (DEn : Df P w K mg base "ending" ["rules", "tail"] 4 spEnd) : FnOk P w K mg base CX0 5 f fd ["self", "state"] (spHF C aE) := by
  obtain ⟨fEn, fdEn, GEn, kEn, bEn, mEn⟩ := DEn
  refine F.ok scHF (fun vs H Q E h => ?_) (fun cdv A outer s H vs Q E hr h => ?_)
  · obtain ⟨y, R, t, rs, k, s, rfl, _⟩ := h
    rfl
  · obtain ⟨y, R, t, rs, k, ⟨tl, u0⟩, rfl, ⟨⟨dx, hy⟩, hR⟩, ho, ⟨b, ht, hb⟩, hs, q⟩ := h
    refine ⟨_, pss_cons (ps_asg (pe_ix ix_tup (pv 1) pe_int (fun _ _ => rfl)) (pg_tup (by rfl) (pgs_cons (pg_name (i := 2) scHF.nd rfl (.inl rfl)) (pgs_cons (pg_name (i := 3) scHF.nd rfl (.inl rfl)) pgs_nil))))
      (pss_cons (ps_set (i := 4) scHF.nd rfl (.inl rfl) (pe_call GEn hr (by rfl) mEn kEn bEn .nil pass0 (pa_cons (pe_fld (pv 0) rfl) (pa_cons (pv 2) pa_nil))))
      (pss_one (ps_ret (pe_and (pe_cmpR op_notN (pv 4) pe_non (nomark _)) (pe_one (pe_or (pv 3) (pe_one (pe_cmpR op_in_seq (pe_fld (pv 0) rfl) (pv 4) rfl)))))))), ?_⟩
    refine ⟨_, rfl, t, _, 0, .ref b, rfl, rfl, .inl (.inl ht), atI_nat (j := 0) rfl, ?_⟩
    refine ⟨b, _, rfl, .inl (.inl hb), rfl, _, _, rfl, _, _, rfl, rfl, ?_⟩
    refine ⟨_, rfl, y, C, dx, _, _, rfl, hy, S.cl, S.nR, rfl, ?_⟩
    refine ⟨_, rfl, R, rs, tl, rfl, hR, ho, (fun t e => ⟨(hs t e).1, by have := (hs t e).2; omega⟩), fun v1 H1 s1 hv => ?_⟩
    have q1 := q H1 s1
    unfold fdK at q1
    cases ee : endM rs tl with
    | none =>
      rw [ee] at hv q1
      cases hv
      exact ⟨_, rfl, rfl, _, rfl, iteF q1⟩
    | some ks =>
      rw [ee] at hv q1
      obtain ⟨D, rfl, hD⟩ := hv
      refine ⟨_, rfl, rfl, _, rfl, iteT ?_⟩
      refine ⟨_, rfl, u0, rfl, ite2 (fun cu => ?_) (fun cu => ?_)⟩
      · subst cu
        exact q1
      · refine ⟨_, rfl, y, C, dx, _, _, rfl, s1 _ _ hy, S.cl, S.nN, rfl, _, rfl, D, _, rfl, .inl (.inl (.inl hD)), rfl, flat_ints _, ?_⟩
        have e : (if false = true then !inV (.int (k : Nat)) (ks.map fun j => V.int (j : Nat)) else inV (.int (k : Nat)) (ks.map fun j => V.int (j : Nat))) = (u0 || decide (k ∈ ks)) := by
          rw [if_neg (by decide), inV_nat, Bool.eq_false_iff.mpr cu, Bool.false_or]
        rw [e]
        exact q1
end
end Say
namespace Say
open PySem PySem.Spec PyProof.Rows L2
/-- the queue of words and states -/
def QAt (H : Hp) (Qa aE : Addr) (q : List (List Nat × US)) : Prop := ∃ ts : List Addr, H Qa = some (.lst (ts.map V.ref)) ∧ Paired (fun t (x : List Nat × US) => ∃ s : Addr, H t = some (.tup [.str (T x.1), .ref s]) ∧ StU H s aE x.2) ts q
def UsedBy (rs : List Rule) (k : Nat) (w : List Nat) : Prop := (W rs w).2 = none ∧ k ∈ (W rs w).1.map (·.2)
/-- the least word that rules say, by the rule k -/
def LeastIs (rs : List Rule) (k : Nat) (L : List Nat) (v : V) : Prop := (v = .non ∧ ∀ w : List Nat, (∀ c ∈ w, c ∈ L) → ¬ UsedBy rs k w) ∨
  ∃ w : List Nat, v = .str (T w) ∧ (∀ c ∈ w, c ∈ L) ∧ w.length ≤ (states L).length ∧ UsedBy rs k w ∧ ∀ w' : List Nat, (∀ c ∈ w', c ∈ L) → UsedBy rs k w' → sle w w'
abbrev HuT (rs : List Rule) (k : Nat) (L : List Nat) (q : List (List Nat × US)) (i j : Nat) : Prop := Hu (some [35], false) (usS rs k) (fdK rs k) L q i j
theorem tfind_none {kvs : List LT3} {k : List Leaf} : tfind kvs k = none ↔ ∀ p ∈ kvs, ¬ p.1 = k := by
  unfold tfind
  rw [Option.map_eq_none_iff, List.find?_eq_none]
  exact ⟨fun h p hp e => h p hp (decide_eq_true e), fun h p hp e => h p hp (of_decide_eq_true e)⟩
def Keys (kvs : List LT3) (q : List (List Nat × US)) : Prop := kvs.map (·.1) = (q.drop 1).map fun x => leafU x.2
theorem Keys.none {kvs : List LT3} {q : List (List Nat × US)} (h : Keys kvs q) {s : US} : tfind kvs (leafU s) = none ↔ ∀ y ∈ q.drop 1, ¬ y.2 = s := by
  rw [tfind_none]
  constructor
  · intro g y hy e
    have : leafU y.2 ∈ kvs.map (·.1) := by rw [h]; exact List.mem_map.mpr ⟨y, hy, rfl⟩
    obtain ⟨p, hp, e2⟩ := List.mem_map.mp this
    exact g p hp (by rw [e2, e])
  · intro g p hp e
    have : p.1 ∈ (q.drop 1).map fun x => leafU x.2 := by rw [← h]; exact List.mem_map.mpr ⟨p, hp, rfl⟩
    obtain ⟨y, hy, e2⟩ := List.mem_map.mp this
    exact g y hy (leafU_inj (e2.trans e))
theorem HuT.tl {rs : List Rule} (ho : ∀ ρ ∈ rs, RlOk ρ) {L : List Nat} {q : List (List Nat × US)} {i j : Nat} {k : Nat} (h : HuT rs k L q i j) {x : List Nat × US} (hx : x ∈ q) : TlS x.2.1 := fun t e => by
  rw [(h.ok x hx).1] at e
  exact rnU_len ho k e
theorem QAt.same {H H' : Hp} {Qa aE : Addr} {z : List (List Nat × US)} (h : QAt H Qa aE z) (e : Same H H') : QAt H' Qa aE z := by
  obtain ⟨ts, h1, h2⟩ := h
  exact ⟨ts, e _ _ h1, paired_mono (fun t x g => by obtain ⟨s, a, b⟩ := g; exact ⟨s, e _ _ a, b.kt (.of e)⟩) h2⟩
theorem LeadsT.same {P : Program} {w : World} {H H' : Hp} {a aE : Addr} {kvs : List LT3} (h : LeadsT P w H a aE kvs) (e : Same H H') : LeadsT P w H' a aE kvs := ⟨e _ _ h.1, h.2.1.kt (.of e), fun p hp => e _ _ (h.2.2 p hp)⟩
section
variable {P : Program} {w : World} {K : PySem.W.Frag} {mg : Str → Option Value} {base : Heap}
abbrev sLt : Stmt := topS 41
abbrev nLt : List Str := ["letters", "hunt", "queue", "leads", "at", "word", "state", "letter", "reached"]
theorem scLt : FnScope nLt ["letters", "hunt"] (defScope sLt) := ⟨rfl, rfl, rfl, by decide +kernel, rfl, by decide +kernel, by decide +kernel⟩
def spLt (C : Addr) : Sp := fun vs H Q _ => ∃ (L : List Nat) (y R : Addr) (rs : List Rule) (k : Nat), vs = [.str (T L), .ref y] ∧ HuntU C H y R rs k ∧ (∀ ρ ∈ rs, RlOk ρ) ∧ L.Pairwise (· < ·) ∧ L.length ≤ 4 ∧ (states L).length ≤ 900 ∧
  ∀ (v : V) (H' : Hp), Same H H' → LeastIs rs k L v → Q v H'
theorem ok_Lt {f C aE fHS fHA fHF : Addr} {fd dHS dHA dHF : FuncData} (F : Fun K "least_word" "least_word" sLt f fd) (B : Bn mg) (S : USC K C) (DKp : Df P w K mg base "keep" ["leads", "state"] 1 (spKp P w aE))
    (GHS : FnOk P w K mg base CX0 1 fHS dHS ["self"] (spHS aE)) (mHS : Meth K C "start" fHS) (bHS : Binds K dHS ["self"] [])
    (GHA : FnOk P w K mg base CX0 4 fHA dHA ["self", "state", "letter"] (spHA C aE)) (mHA : Meth K C "after" fHA) (bHA : Binds K dHA ["self", "state", "letter"] [])
    (GHF : FnOk P w K mg base CX0 5 fHF dHF ["self", "state"] (spHF C aE)) (mHF : Meth K C "is_found" fHF) (bHF : Binds K dHF ["self", "state"] []) :
    FnOk P w K mg base CX0 7 f fd ["letters", "hunt"] (spLt C) := by
  obtain ⟨fKp, fdKp, GKp, kKp, bKp, mKp⟩ := DKp
  refine F.ok scLt (fun vs H Q E h => ?_) (fun cdv A outer s H vs Q E hr h => ?_)
  · obtain ⟨L, y, R, rs, k, rfl, _⟩ := h
    rfl
  · obtain ⟨L, y, R, rs, k, rfl, hH, ho, hL, h4, ht9, q⟩ := h
    have hr1 : Room 1 _ := hr.mono (by decide)
    have hr4 : Room 4 _ := hr.mono (by decide)
    have hr5 : Room 5 _ := hr.mono (by decide)
    refine ⟨_, pss_cons (ps_set (i := 2) scLt.nd rfl (.inl rfl) (pe_lst (pa_cons (pe_tup (pa_cons pe_str (pa_cons (pe_meth0 (pv 1) S.cl mHS GHS hr1 bHS .nil pass0) pa_nil))) pa_nil)))
      (pss_cons (ps_set (i := 3) scLt.nd rfl (.inl rfl) pe_dnewT')
      (pss_cons (ps_set (i := 4) scLt.nd rfl (.inl rfl) pe_int)
      (pss_cons (ps_while PassesOwn.never (pt_cmpR op_lt (pv 4) (pe_callB call_len (by rfl) B.len PySem.boot_len (pa_cons (pv 2) pa_nil)) (nomark _)) (pss_cons (ps_asg (pe_ix ix_list (pv 2) (pv 4) (fun _ _ => rfl)) (pg_tup (by rfl) (pgs_cons (pg_name (i := 5) scLt.nd rfl (.inl rfl)) (pgs_cons (pg_name (i := 6) scLt.nd rfl (.inl rfl)) pgs_nil))))
        (pss_cons (ps_aug (i := 4) scLt.nd rfl (.inl rfl) pe_int ip_add)
        (pss_cons (ps_if (pt_val (pe_meth (pv 1) S.cl mHF GHF hr5 bHF .nil pass0 (pa_cons (pv 6) pa_nil))) (pss_one (ps_ret (pv 5))) pss_nil)
        (pss_one (ps_for PassesOwn.never rfl (pi_str (pv 0)) (pg_name (i := 7) scLt.nd rfl (.inl rfl)) (pss_cons (ps_set (i := 8) scLt.nd rfl (.inl rfl) (pe_meth (pv 1) S.cl mHA GHA hr4 bHA .nil pass0 (pa_cons (pv 6) (pa_cons (pv 7) pa_nil))))
          (pss_one (ps_if (pt_val (pe_call GKp hr1 (by rfl) mKp kKp bKp .nil pass0 (pa_cons (pv 3) (pa_cons (pv 8) pa_nil)))) (pss_one (ps_expr (pe_bm PySem.F.plainAttrs_list PySem.F.slot_list_append PySem.F.type_list_append mt_append (pv 2) (pa_cons (pe_tup (pa_cons (pe_op op_add_str (pv 5) (pv 7)) (pa_cons (pv 8) pa_nil))) pa_nil)))) pss_nil)))))))))
      (pss_one (ps_ret pe_non))))), ?_⟩
    obtain ⟨⟨dx, hy⟩, hR⟩ := id hH
    refine ⟨_, rfl, y, dx, _, rfl, hy, rfl, y, rfl, fun u0 Hs hu0 su hSt => ?_⟩
    refine ⟨(by show 2 ≤ sizeLine; decide), fun t0 ht0 => ⟨(by show 1 ≤ sizeLine; decide), fun Qa hQa' => ?_⟩⟩
    intro A' hA'
    have st := same_new ht0 (.tup [.str (T []), .ref u0])
    have sq := same_new hQa' (.lst [V.ref t0])
    have sA := same_new hA' (LT P w A' [])
    have hQ0 : H Qa = none := (su.trans st).free hQa'
    have hA0 : H A' = none := ((su.trans st).trans sq).free hA'
    have sH := ((su.trans st).trans sq).trans sA
    have eQ := sA _ _ (upd_same (H := upd Hs t0 (.tup [.str (T []), .ref u0])) (a := Qa) (o := HO.lst [V.ref t0]))
    have eT := (sq.trans sA) _ _ (upd_same (H := Hs) (a := t0) (o := HO.tup [.str (T []), .ref u0]))
    have eU := hSt.kt (.of ((st.trans sq).trans sA))
    have eA : (upd (upd (upd Hs t0 (.tup [.str (T []), .ref u0])) Qa (.lst [V.ref t0])) A' (LT P w A' [])) A' = some (LT P w A' []) := upd_same
    refine ⟨fun m σ H2 => ∃ (i : Nat) (z : List (List Nat × US)) (kvs : List LT3) (v5 v6 v7 v8 : Option L2.V), σ = [some (.str (T L)), some (.ref y), some (.ref Qa), some (.ref A'), some (.int i), v5, v6, v7, v8] ∧ HuT rs k L z i 0 ∧ (states L).length + 2 ≤ i + m ∧ Same H H2 ∧ QAt H2 Qa aE z ∧ LeadsT P w H2 A' aE kvs ∧ Keys kvs z ∧ ∀ p ∈ kvs, p.2.2 ≠ Qa, ⟨(states L).length + 2, 0, [([], (some [35], false))], [], _, _, _, _, rfl, Hu.first, by omega, sH, ⟨[t0], eQ, .cons ⟨u0, eT, eU⟩ .nil⟩, ⟨eA, (fun p hp => nomatch hp), fun p hp => nomatch hp⟩, rfl, fun p hp => nomatch hp⟩, fun m σ H2 hW => ?_⟩
    obtain ⟨i, z, kvs, v5, v6, v7, v8, rfl, hu, hm, s2, hQ, hLd, hK, hn⟩ := hW
    have hsz := hu.size (u := states L) fun w' hw' => rnU_mem ho k hw'
    obtain ⟨ts, hq, hp⟩ := id hQ
    have lts := paired_len hp
    refine ⟨_, rfl, _, rfl, _, _, rfl, .inl ⟨_, .inl (.inl hq), rfl⟩, _, _, rfl, rfl, _, rfl, ite2 (fun c => ?_) (fun c => ?_)⟩
    · have c' : (i : Int) < (((ts.map V.ref).length : Nat) : Int) := of_decide_eq_true c
      rw [List.length_map, lts] at c'
      have hi : i < z.length := by omega
      have hx := List.getElem?_eq_getElem hi
      generalize z[i] = x at hx
      obtain ⟨t, ht, s, hat, hs⟩ := paired_at' hp hx
      have hxm := List.mem_of_getElem? hx
      have hxl := hu.len i i (Nat.le_refl _) x hx
      obtain ⟨m', rfl⟩ : ∃ m', m = m' + 1 := ⟨m - 1, by omega⟩
      refine ⟨fun σ' H' => ∃ (i : Nat) (z : List (List Nat × US)) (kvs : List LT3) (v5 v6 v7 v8 : Option L2.V), σ' = [some (.str (T L)), some (.ref y), some (.ref Qa), some (.ref A'), some (.int i), v5, v6, v7, v8] ∧ HuT rs k L z i 0 ∧ (states L).length + 2 ≤ i + m' ∧ Same H H' ∧ QAt H' Qa aE z ∧ LeadsT P w H' A' aE kvs ∧ Keys kvs z ∧ ∀ p ∈ kvs, p.2.2 ≠ Qa, fun σ' H' h => ⟨m', Nat.lt_succ_self _, h⟩, ?_⟩
      refine ⟨_, rfl, _, rfl, Qa, _, (i : Int), .ref t, rfl, rfl, .inl (.inl hq), atI_nat (by rw [List.getElem?_map, ht]; rfl), ?_⟩
      refine ⟨t, _, rfl, .inl (.inl hat), rfl, _, _, rfl, _, _, rfl, rfl, ?_⟩
      refine ⟨_, rfl, _, _, rfl, rfl, ?_⟩
      refine ⟨_, rfl, y, dx, _, rfl, s2 _ _ hy, rfl, _, rfl, y, R, s, rs, k, x.2, rfl, hH.same s2, ho, hs, hu.tl ho hxm, fun H3 s3 => ⟨_, rfl, ite2 (fun cf => ?_) (fun cf => ?_)⟩⟩
      · refine ⟨_, rfl, q _ H3 (s2.trans s3) (.inr ⟨x.1, rfl, (hu.ok x hxm).2, by omega, ?_, fun w' hw' hn' => ?_⟩)⟩
        · have := (hu.ok x hxm).1
          rw [this] at cf
          exact (fdK_iff ho k x.1).mp cf
        · exact hu.least hx hw' ((fdK_iff ho k w').mpr hn')
      · have cf' : fdK rs k x.2 = false := Bool.eq_false_iff.mpr cf
        refine ⟨_, rfl, T L, rfl, for_it (walk_str) (fun j σ H4 => ∃ (z : List (List Nat × US)) (kvs : List LT3) (v7 v8 : Option L2.V), σ = [some (.str (T L)), some (.ref y), some (.ref Qa), some (.ref A'), some (.int ((i : Int) + 1)), some (.str (T x.1)), some (.ref s), v7, v8] ∧ HuT rs k L z i j ∧ z[i]? = some x ∧ Same H H4 ∧ QAt H4 Qa aE z ∧ LeadsT P w H4 A' aE kvs ∧ Keys kvs z ∧ (∀ p ∈ kvs, p.2.2 ≠ Qa) ∧ StU H4 s aE x.2)
          ⟨z, kvs, _, _, rfl, hu, hx, s2.trans s3, hQ.same s3, hLd.same s3, hK, hn, hs.kt (.of s3)⟩ (fun _ _ _ _ _ => trivial) ?_ ?_⟩
        · clear hQ hLd hK hn hp hq lts hsz ht hat hs s2 s3 hi hxl hm hxm
          rintro j z0 σ H0 H4 hj ⟨z, kvs, v7, v8, rfl, hu, hx, s4, hQ, hLd, hK, hn, hs⟩ ⟨rfl, c, hc, rfl⟩
          have hc := T_at hc
          have hxm := List.mem_of_getElem? hx
          have hsz := hu.size (u := states L) fun w' hw' => rnU_mem ho k hw'
          have hxl := hu.len i i (Nat.le_refl _) x hx
          have hil := (List.getElem?_eq_some_iff.mp hx).1
          have lK : kvs.length = (z.drop 1).length := by
            have := congrArg List.length hK
            rwa [List.length_map, List.length_map] at this
          rw [List.length_drop] at lK
          refine ⟨_, rfl, y, dx, _, rfl, s4 _ _ hy, rfl, _, rfl, _, rfl, y, R, s, rs, k, x.2, c, rfl, hH.same s4, ho, hs, hu.tl ho hxm, fun u H5 s5 hu5 h5 => ?_⟩
          have hQ5 := hQ.same s5
          have hL5 := hLd.same s5
          obtain ⟨b5, h5a, h5b⟩ := id h5
          refine ⟨_, rfl, _, rfl, A', u, b5, kvs, leafU (usS rs k x.2 c), rfl, hL5, by omega, h5a, keyU h5b, fun hf H6 s6 => ?_, fun hf D H6 hD st6 hL6 => ?_⟩
          · refine ⟨false, rfl, iteF ?_⟩
            have ex : ∃ y ∈ z.drop 1, y.2 = usS rs k x.2 c := by
              refine Classical.byContradiction fun n => ?_
              have := hK.none.mpr fun y hy e => n ⟨y, hy, e⟩
              obtain ⟨p, hf⟩ := hf
              rw [hf] at this
              cases this
            have s46 := s5.trans s6
            exact ⟨z, kvs, _, _, rfl, hu.skip hL hx hc ex, hx, s4.trans s46, hQ.same s46, hLd.same s46, hK, hn, hs.kt (.of s46)⟩
          · refine ⟨true, rfl, iteT ?_⟩
            have new := hK.none.mp hf
            obtain ⟨ts5, hq5, hp5⟩ := hQ5
            have lz := paired_len hp5
            have nQA : Qa ≠ A' := ne_of hq5 hL5.1 (by unfold LT; intro e; cases e)
            have nDQ : D ≠ Qa := (ne_of_none hq5 hD).symm
            have hq6 := st6 _ _ hq5 nQA
            have keep6 : ∀ b xs, H5 b = some (.tup xs) → H6 b = some (.tup xs) := fun b xs hb => st6 _ _ hb (ne_of hb hL5.1 (by unfold LT; intro e; cases e))
            refine ⟨_, rfl, .inl ⟨rfl, _, .inl (.inl hq6)⟩, _, rfl, _, rfl, _, _, rfl, rfl, (by rw [T_len]; exact small (by show x.1.length + 1 ≤ 1000; omega)), _, rfl, (by show 2 ≤ sizeLine; decide), fun t ht => ?_⟩
            rw [show T x.1 ++ (⟨#[c]⟩ : Str) = T (x.1 ++ [c]) from T_app _ _]
            have sT := same_new ht (.tup [.str (T (x.1 ++ [c])), .ref u])
            have hq7 := sT _ _ hq6
            have k67 := (KT.of sT).trans (kt_upd hq7 (o := .lst (ts5.map V.ref ++ [.ref t])))
            have k56 : KT H5 H6 := KT.by fun b o hb ho' => st6 _ _ hb (ne_of hb hL5.1 (by rcases ho' with ⟨_, rfl⟩ | ⟨_, _, rfl⟩ <;> (unfold LT; intro e; cases e)))
            refine ⟨Qa, _, _, rfl, rfl, hq7, ?_, z ++ [(x.1 ++ [c], usS rs k x.2 c)], kvs ++ [(leafU (usS rs k x.2 c), b5, D)], _, _, rfl, hu.push hL hx hc new, ?_, fun b o hb => ?_, ⟨ts5 ++ [t], ?_, ?_⟩, ⟨?_, hL6.2.1.kt k67, fun p hp => ?_⟩, ?_, fun p hp => ?_, ?_⟩
            · rw [List.length_map, lz]
              exact small1000 (by omega)
            · rw [List.getElem?_append_left hil]
              exact hx
            · rw [upd_ne (ne_of_none hb hQ0)]
              exact sT _ _ (st6 _ _ (s5 _ _ (s4 _ _ hb)) (ne_of_none hb hA0))
            · rw [upd_same, List.map_append]
              rfl
            · refine paired_app (paired_mono (fun t' y' g => ?_) hp5) (.cons ⟨u, ?_, ?_⟩ .nil)
              · obtain ⟨s', g1, g2⟩ := g
                have g1 := sT _ _ (keep6 _ _ g1)
                exact ⟨s', by rw [upd_ne (ne_of g1 hq7 (by intro e; cases e))]; exact g1, g2.kt (k56.trans k67)⟩
              · rw [upd_ne (ne_of_none hq6 ht).symm]
                exact upd_same
              · exact h5.kt (k56.trans k67)
            · rw [upd_ne nQA.symm]
              exact sT _ _ hL6.1
            · have g := sT _ _ (hL6.2.2 p hp)
              have n : p.2.2 ≠ Qa := by
                rcases List.mem_append.mp hp with hp | hp
                · exact hn p hp
                · rw [List.mem_singleton.mp hp]
                  exact nDQ
              rw [upd_ne n]
              exact g
            · unfold Keys at hK ⊢
              rw [List.map_append, hK, List.drop_append_of_le_length (by omega), List.map_append]
              rfl
            · rcases List.mem_append.mp hp with hp | hp
              · exact hn p hp
              · rw [List.mem_singleton.mp hp]
                exact nDQ
            · exact hs.kt ((KT.of s5).trans (k56.trans k67))
        · rintro σ H4 ⟨z, kvs, v7, v8, rfl, hu, hx, s4, hQ, hLd, hK, hn, hs⟩
          rw [T_size] at hu
          exact ⟨i + 1, z, kvs, _, _, _, _, rfl, hu.turn hx cf', by omega, s4, hQ, hLd, hK, hn⟩
    · have c' := of_decide_eq_false (Bool.eq_false_iff.mpr c)
      rw [List.length_map, lts] at c'
      refine q _ H2 s2 (.inl ⟨rfl, fun w' hw' n => ?_⟩)
      have := hu.none (by omega) hw'
      rw [(fdK_iff ho k w').mpr n] at this
      cases this
end
end Say
namespace Say
open PySem PySem.Spec PyProof.Rows L2
theorem tails_le {L : List Nat} (h4 : L.length ≤ 4) : (tails L).length ≤ 449 := by
  have lvl : ∀ n, (lv L n).length ≤ 4 ^ n := fun n => by
    induction n with
    | zero => exact Nat.le_refl _
    | succ n ih =>
      have := flat_le (f := fun w => L.map fun c => w ++ [c]) (k := 4) (l := lv L n) fun a _ => by rw [List.length_map]; exact h4
      show ((lv L n).flatMap fun w => L.map fun c => w ++ [c]).length ≤ 4 ^ n * 4
      exact Nat.le_trans this (Nat.mul_le_mul_right 4 ih)
  have up : ∀ n, n ≤ 3 → (upto L n).length ≤ (n + 1) * 64 := fun n hn => by
    have := flat_le (f := lv L) (k := 64) (l := List.range (n + 1)) fun j hj => by
      have := List.mem_range.mp hj
      have h2 : 4 ^ j ≤ 4 ^ 3 := Nat.pow_le_pow_right (by decide) (by omega)
      exact Nat.le_trans (lvl j) (Nat.le_trans h2 (by decide))
    rw [List.length_range] at this
    exact this
  have u2 := up 2 (by decide)
  have u3 := up 3 (by decide)
  unfold tails
  rw [List.length_cons, List.length_map, List.length_append, List.length_map]
  omega
end Say
namespace Say
open PySem PySem.Spec PyProof.Rows L2
section
variable {P : Program} {w : World} {K : PySem.W.Frag} {mg : Str → Option Value} {base : Heap}
abbrev sCnt : Stmt := topS 28
theorem scCnt : FnScope ["number", "most"] ["number", "most"] (defScope sCnt) := ⟨rfl, rfl, rfl, by decide +kernel, rfl, by decide +kernel, by decide +kernel⟩
/-- a number within the bounds -/
def spCnt : Sp := fun vs H Q _ => ∃ (n m : Nat), vs = [.int n, .int m] ∧ n ≤ m ∧ Q (.bl true) H
theorem ok_cnt {f : Addr} {fd : FuncData} {k : Nat} (F : Fun K "is_count" "is_count" sCnt f fd) (B : Bn mg) (hi : mg "int" = none) : FnOk P w K mg base CX0 (k + 1) f fd ["number", "most"] spCnt := by
  refine F.ok scCnt (fun vs H Q E h => ?_) (fun cdv A outer s H vs Q E hr h => ?_)
  · obtain ⟨n, m, rfl, _⟩ := h
    rfl
  · obtain ⟨n, m, rfl, hnm, q⟩ := h
    refine ⟨_, pss_cons (ps_if (PW.pt (pw_or (pt_not (pt_val (pe_callB call_isi (by rfl) B.isi (by decide +kernel) (pa_cons (pv 0) (pa_cons (pe_bltn (v := .ty "int") rfl hi (by decide +kernel) rfl) pa_nil)))))
        (pw_or1 (pt_val (pe_callB call_isi (by rfl) B.isi (by decide +kernel) (pa_cons (pv 0) (pa_cons (pe_bltn (v := .ty "bool") rfl B.bool (by decide +kernel) rfl) pa_nil)))))))
        (pss_one (ps_ret pe_bl)) pss_nil)
      (pss_one (ps_ret (pe_chain op_le op_le pe_int (pv 0) (pv 1)))), ?_⟩
    refine ⟨_, rfl, _, _, .type "int", _, true, rfl, ClsV.ty _, .base (.int _), kit_ty (by decide +kernel), true, rfl, iteF ?_⟩
    refine ⟨_, rfl, _, _, .type "int", _, false, rfl, ClsV.ty _, .base (.int _), kit_ty (by decide +kernel), false, rfl, iteF ?_⟩
    refine ⟨_, rfl, _, _, rfl, rfl, true, (by show V.bl (decide ((0 : Int) ≤ (n : Int))) = _; rw [decide_eq_true (by omega : (0 : Int) ≤ (n : Int))]), iteT ?_⟩
    refine ⟨_, rfl, _, _, rfl, rfl, ?_⟩
    show Q (V.bl (decide ((n : Int) ≤ (m : Int)))) H
    rw [decide_eq_true (by omega : (n : Int) ≤ (m : Int))]
    exact q
end
end Say
namespace Say
open PySem PySem.Spec PyProof.Rows L2
theorem states_le {L : List Nat} (h4 : L.length ≤ 4) : (states L).length ≤ 900 := by
  rw [states_len]
  have := tails_le h4
  omega
section
variable {P : Program} {w : World} {K : PySem.W.Frag} {mg : Str → Option Value} {base : Heap}
abbrev sUse : Stmt := topS 45
theorem scUse : FnScope ["book", "number", "letters", "rules", "_"] ["book", "number"] (defScope sUse) := ⟨rfl, rfl, rfl, by decide +kernel, rfl, by decide +kernel, by decide +kernel⟩
def spUse : Sp := fun vs H Q _ => ∃ (b : Addr) (L : List Nat) (rs : List Rule) (es : List Exc) (k : Nat), vs = [.ref b, .int k] ∧ BookAt H b L rs es ∧ BookOk L rs es ∧ k < rs.length ∧ ∀ (v : V) (H' : Hp), Same H H' → LeastIs rs k L v → Q v H'
theorem make_u {C : Addr} {H H' : Hp} {y dx R : Addr} {rs : List Rule} {k : Nat} (hR : RulesAt H R rs) (hy : H y = none) (hdx : H dx = none) (n : dx ≠ y) (h1 : H' y = some (.ins C dx (fldU R k))) (h2 : ∀ b, b ≠ y → H' b = (upd (upd H dx (.own y)) y (.ins C dx [])) b) : Same H H' ∧ HuntU C H' y R rs k := by
  have s1 : Same H H' := fun b o hb => by
    rw [h2 b (ne_of_none hb hy), upd_ne (ne_of_none hb hy), upd_ne (ne_of_none hb hdx)]
    exact hb
  exact ⟨s1, ⟨dx, h1⟩, hR.kt (.of s1)⟩
theorem ok_Use {f C fHI : Addr} {fd dHI : FuncData} (F : Fun K "use" "use" sUse f fd) (B : Bn mg) (DCh : Df P w K mg base "checked_book" ["book"] 5 spCh) (DCn : Df P w K mg base "is_count" ["number", "most"] 1 spCnt) (DLt : Df P w K mg base "least_word" ["letters", "hunt"] 7 (spLt C))
    (mgC : mg "UseHunt" = some (.ref C)) (Mk_ : Mk K C fHI) (GHI : FnOk P w K mg base CX0 1 fHI dHI ["self", "rules", "number"] (spHI C)) (bHI : Binds K dHI ["self", "rules", "number"] []) : FnOk P w K mg base CX0 8 f fd ["book", "number"] spUse := by
  obtain ⟨fCh, fdCh, GCh, kCh, bCh, mCh⟩ := DCh
  obtain ⟨fCn, fdCn, GCn, kCn, bCn, mCn⟩ := DCn
  obtain ⟨fLt, fdLt, GLt, kLt, bLt, mLt⟩ := DLt
  refine F.ok scUse (fun vs H Q E h => ?_) (fun cdv A outer s H vs Q E hr h => ?_)
  · obtain ⟨b, L, rs, es, k, rfl, _⟩ := h
    rfl
  · obtain ⟨b, L, rs, es, k, rfl, hB, ho, hk, q⟩ := h
    have hr2 : Room 2 _ := hr.mono (by decide)
    refine ⟨_, pss_cons (ps_asg (pe_call GCh (hr.mono (by decide)) (by rfl) mCh kCh bCh .nil pass0 (pa_cons (pv 0) pa_nil)) (pg_tup (by rfl) (pgs_cons (pg_name (i := 2) scUse.nd rfl (.inl rfl)) (pgs_cons (pg_name (i := 3) scUse.nd rfl (.inl rfl)) (pgs_cons (pg_name (i := 4) scUse.nd rfl (.inl rfl)) pgs_nil)))))
      (pss_cons (ps_if (pt_not (pt_val (pe_call GCn (hr.mono (by decide)) (by rfl) mCn kCn bCn .nil pass0 (pa_cons (pv 1) (pa_cons (pe_op op_sub (pe_callB call_len (by rfl) B.len PySem.boot_len (pa_cons (pv 3) pa_nil)) pe_int) pa_nil))))) (pss_one ps_never) pss_nil)
      (pss_one (ps_ret (pe_call GLt hr (by rfl) mLt kLt bLt .nil pass0 (pa_cons (pv 2) (pa_cons (pe_make Mk_ GHI hr2 (by rfl) mgC bHI .nil pass0 (pa_cons (pv 3) (pa_cons (pv 1) pa_nil))) pa_nil)))))), ?_⟩
    refine ⟨_, rfl, b, L, rs, es, rfl, hB, ho, fun H1 s1 => ?_⟩
    obtain ⟨R, X, hb, hR, hX⟩ := hB.kt (.of s1)
    obtain ⟨rts, hRl, hRp⟩ := id hR
    have lr : (rts.map V.ref).length = rs.length := by rw [List.length_map, paired_len hRp]
    refine ⟨b, _, rfl, .inl (.inl hb), rfl, _, _, rfl, _, _, rfl, _, _, rfl, rfl, ?_⟩
    refine ⟨_, rfl, _, rfl, _, _, rfl, .inr ⟨_, .inl (.inl hRl), rfl⟩, _, _, rfl, rfl, k, rs.length - 1, (by show [V.int (k : Nat), V.int (((rts.map V.ref).length : Int) - 1)] = _; rw [lr, show ((rs.length : Nat) : Int) - 1 = ((rs.length - 1 : Nat) : Int) by omega]), by omega, true, rfl, iteF ?_⟩
    refine ⟨_, rfl, _, rfl, _, rfl, fun y dx hy hdx nyd => ?_⟩
    refine ⟨y, dx, R, k, rfl, upd_same, fun H2 h1 h2 => ⟨rfl, ?_⟩⟩
    obtain ⟨s2, hH⟩ := make_u hR hy hdx nyd h1 h2
    exact ⟨L, y, R, rs, k, rfl, hH, ho.rls, (rises_iff L).mp ho.lt.up, ho.lt.l4, states_le ho.lt.l4, fun v H3 s3 hv => q v H3 (s1.trans (s2.trans s3)) hv⟩
end
end Say
namespace Say
open PySem PySem.Spec PyProof.Rows L2
section
variable {P : Program} {w : World} {K : PySem.W.Frag} {mg : Str → Option Value} {base : Heap}
abbrev sLU : Stmt := topS 58
abbrev nLU : List Str := ["_law_rules_here", "_law_word", "_law_number", "_law_letters", "_law_walked", "_law_sign", "_law_place", "_law_one"]
abbrev psLU : List Str := ["_law_rules_here", "_law_word", "_law_number", "_law_letters"]
theorem scLU : FnScope nLU psLU (defScope sLU) := ⟨rfl, rfl, rfl, by decide +kernel, rfl, by decide +kernel, by decide +kernel⟩
def spLU : Sp := fun vs H Q _ => ∃ (R : Addr) (rs : List Rule) (wd : List Nat) (k : Nat) (L : List Nat), vs = [.ref R, .str (T wd), .int k, .str (T L)] ∧ RulesAt H R rs ∧ (∀ ρ ∈ rs, RlOk ρ) ∧ rs.length ≤ 500 ∧ wd.length ≤ 120 ∧ (∀ c ∈ wd, c ∈ L) ∧ UsedBy rs k wd ∧
  ∀ H' : Hp, Same H H' → Q (.bl true) H'
theorem ok_LU {f : Addr} {fd : FuncData} (F : Fun K "_law_uses" "_law_uses" sLU f fd) (DW : Df P w K mg base "_law_walk" ["_law_rules_here", "_law_word"] 2 spLW) : FnOk P w K mg base CX0 3 f fd psLU spLU := by
  obtain ⟨fW, fdW, GW, kW, bW, mW⟩ := DW
  refine F.ok scLU (fun vs H Q E h => ?_) (fun cdv A outer s H vs Q E hr h => ?_)
  · obtain ⟨R, rs, wd, k, L, rfl, _⟩ := h
    rfl
  · obtain ⟨R, rs, wd, k, L, rfl, hR, ho, hl, hw, hc, ⟨u1, u2⟩, q⟩ := h
    refine ⟨_, pss_cons (ps_set (i := 4) scLU.nd rfl (.inl rfl) (pe_call GW hr (by rfl) mW kW bW .nil pass0 (pa_cons (pv 0) (pa_cons (pv 1) pa_nil))))
      (pss_cons (ps_if (PW.pt (pw_or (pt_cmpR op_ne (pe_ix ix_tup (pv 4) pe_int (fun _ _ => rfl)) pe_str (nomark _)) (pw_or1 (pt_cmpR (op_neD hr.units) (pe_lc (own := [("_law_sign", 5)]) (g := gName 5) (te := tVar 5) rfl scLU.nd (pi_str (pv 1))
          (blkOk_by (N := nLU) (sc := defScope sLU) (by decide +kernel)) (fun _ _ _ _ _ => pg_name (i := 5) scLU.nd rfl (.inl rfl)) (fun _ _ _ _ _ => pts_one (pt_cmpR op_notIn_sign (pv 5) (pv 3) rfl)) (fun _ _ _ _ _ => pv 5)) (pe_lst pa_nil) (nomark _))))) (pss_one (ps_ret pe_bl)) pss_nil)
      (pss_one (ps_ret (pe_cmpR op_in_seq (pv 2) (pe_lc (own := [("_law_place", 6), ("_law_one", 7)]) (g := gTup K 2 (gCons (gName 6) (gCons (gName 7) gNil))) (te := tVar 7) rfl scLU.nd (pi_list (pe_ix ix_tup (pv 4) pe_int (fun _ _ => rfl)))
          (blkOk_by (N := nLU) (sc := defScope sLU) (by decide +kernel)) (fun _ _ _ _ _ => pg_tup (by rfl) (pgs_cons (pg_name (i := 6) scLU.nd rfl (.inl rfl)) (pgs_cons (pg_name (i := 7) scLU.nd rfl (.inl rfl)) pgs_nil))) (fun _ _ _ _ _ => pts_nil) (fun _ _ _ _ _ => pv 7)) rfl)))), ?_⟩
    refine ⟨_, rfl, _, rfl, R, rs, wd, rfl, hR, ho, hw, hl, fun t H1 s1 ht => ?_⟩
    unfold LWAt at ht
    rw [u1] at ht
    simp only at ht
    obtain ⟨D, ht, ts, hD, hp⟩ := ht
    refine ⟨_, rfl, t, _, 0, .str (T []), rfl, rfl, .inl (.inl ht), atI_nat (j := 0) rfl, rfl, _, rfl, ?_⟩
    rw [dec_nil, decide_eq_true rfl]
    refine iteF ?_
    refine ⟨_, rfl, T wd, rfl, fun D2 hD2 => ?_⟩
    refine lc_it (walk_str) (fun j H2 => H2 D2 = some (.lst []) ∧ Same H1 H2) ?_ (fun _ _ _ _ => trivial) ?_ ?_
    · exact ⟨upd_same, same_new hD2 _⟩
    · rintro j x H0 H2 hj ⟨e1, e2⟩ ⟨rfl, c, hcj, rfl⟩
      have hcj := T_at hcj
      refine ⟨rfl, _, rfl, _, rfl, c, T L, rfl, rfl, _, rfl, ?_⟩
      rw [decide_eq_true (show c ∈ (T L).cps.toList from hc c (List.mem_of_getElem? hcj))]
      exact iteF ⟨e1, e2⟩
    · rintro H2 ⟨e1, e2⟩
      refine ⟨(by show 0 ≤ sizeLine; decide), fun N hN => ?_⟩
      have sN := same_new hN (.lst [])
      refine ⟨.list [], .list [], .lst (.inl (.inl (sN _ _ e1))) .nil, .lst (.inl (.inl upd_same)) .nil, by decide +kernel, by decide +kernel, _, rfl, iteF ?_⟩
      have s13 := e2.trans sN
      have ht3 := s13 _ _ ht
      have hD3 := s13 _ _ hD
      have lts := paired_len hp
      have hk : (W rs wd).1.length ≤ wd.length + 1 := wk_len rs (sgn wd) (wd.length + 1) 1
      refine ⟨_, rfl, _, rfl, t, _, 1, .ref D, rfl, rfl, .inl (.inl ht3), atI_nat (j := 1) rfl, D, rfl, ⟨_, .inl (.inl hD3)⟩, fun D4 hD4 => ?_⟩
      refine lc_it (walk_list (xs := ts.map V.ref)) (fun i H4 => H4 D4 = some (.lst (((W rs wd).1.take i).map fun s => V.int (s.2 : Nat))) ∧ Same (upd H2 N (.lst [])) H4) ?_ (fun i H4 _ h => .inl (.inl (h.2 _ _ hD3))) ?_ ?_
      · exact ⟨upd_same, same_new hD4 _⟩
      · rintro i x H0 H4 hi ⟨g1, g2⟩ ⟨rfl, hx⟩
        rw [List.getElem?_map] at hx
        obtain ⟨a, ha, e⟩ := Option.map_eq_some_iff.mp hx
        subst e
        obtain ⟨st, hst, hat⟩ := paired_at hp ha
        have hi2 : i < (W rs wd).1.length := (List.getElem?_eq_some_iff.mp hst).1
        refine ⟨a, _, rfl, .inl (.inl (g2 _ _ (s13 _ _ hat))), rfl, _, _, rfl, _, _, rfl, rfl, ?_⟩
        refine ⟨rfl, _, rfl, _, g1, ?_, ?_, ?_⟩
        · rw [List.length_map, List.length_take]
          exact small1000 (by omega)
        · rw [upd_same, List.take_add_one, hst, List.map_append]
          rfl
        · exact fun b u q => by
            rw [upd_ne (ne_of_none q hD4)]
            exact g2 b u q
      · rintro H4 ⟨g1, g2⟩
        rw [List.length_map, lts, List.take_length] at g1
        have em : ((W rs wd).1.map fun s => V.int (s.2 : Nat)) = ((W rs wd).1.map (·.2)).map fun j => V.int (j : Nat) := by rw [List.map_map]; rfl
        rw [em] at g1
        refine ⟨D4, _, rfl, .inl (.inl (.inl g1)), rfl, flat_ints _, ?_⟩
        have e : (if false = true then !inV (.int (k : Nat)) (((W rs wd).1.map (·.2)).map fun j => V.int (j : Nat)) else inV (.int (k : Nat)) (((W rs wd).1.map (·.2)).map fun j => V.int (j : Nat))) = true := by
          rw [if_neg (by decide), inV_nat]
          exact decide_eq_true u2
        rw [e]
        exact q H4 (s1.trans (s13.trans g2))
end
end Say
namespace Say
open PySem PySem.Spec PyProof.Rows L2
def NoUse (rs : List Rule) (L : List Nat) (k : Nat) : Prop := ∀ w : List Nat, (∀ c ∈ w, c ∈ L) → ¬ UsedBy rs k w
open Classical in
/-- the rules, below n, by which no word is said -/
noncomputable def idleL (rs : List Rule) (L : List Nat) (n : Nat) : List Nat := (List.range n).filter fun k => decide (NoUse rs L k)
theorem idle_next {rs : List Rule} {L : List Nat} {n : Nat} : idleL rs L (n + 1) = idleL rs L n ++ (@ite _ (NoUse rs L n) (Classical.propDecidable _) [n] []) := by
  unfold idleL
  rw [List.range_succ, List.filter_append]
  congr 1
  by_cases c : NoUse rs L n
  · rw [if_pos c]
    exact List.filter_cons_of_pos (by simp [c])
  · rw [if_neg c]
    exact List.filter_cons_of_neg (by simp [c])
theorem idle_len (rs : List Rule) (L : List Nat) (n : Nat) : (idleL rs L n).length ≤ n := by
  unfold idleL
  refine Nat.le_trans (List.length_filter_le _ _) ?_
  rw [List.length_range]
  exact Nat.le_refl _
theorem LeastIs.non {rs : List Rule} {k : Nat} {L : List Nat} {v : V} (h : LeastIs rs k L v) : v = .non ↔ NoUse rs L k := by
  rcases h with ⟨rfl, h⟩ | ⟨w, rfl, h1, h2, h3, h4⟩
  · exact ⟨fun _ => h, fun _ => rfl⟩
  · exact ⟨fun z => (by cases z), fun z => absurd h3 (z w h1)⟩
section
variable {P : Program} {w : World} {K : PySem.W.Frag} {mg : Str → Option Value} {base : Heap}
abbrev sIdl : Stmt := topS 46
abbrev nIdl : List Str := ["book", "letters", "rules", "_", "number"]
theorem scIdl : FnScope nIdl ["book"] (defScope sIdl) := ⟨rfl, rfl, rfl, by decide +kernel, rfl, by decide +kernel, by decide +kernel⟩
def spIdl : Sp := fun vs H Q _ => ∃ (b : Addr) (L : List Nat) (rs : List Rule) (es : List Exc), vs = [.ref b] ∧ BookAt H b L rs es ∧ BookOk L rs es ∧
  ∀ (D : Addr) (H' : Hp), Same H H' → H D = none → H' D = some (.lst ((idleL rs L rs.length).map fun k => V.int (k : Nat))) → Q (.ref D) H'
theorem ok_Idl {f C fHI : Addr} {fd dHI : FuncData} (F : Fun K "idle" "idle" sIdl f fd) (B : Bn mg) (DCh : Df P w K mg base "checked_book" ["book"] 5 spCh) (DLt : Df P w K mg base "least_word" ["letters", "hunt"] 7 (spLt C))
    (mgC : mg "UseHunt" = some (.ref C)) (Mk_ : Mk K C fHI) (GHI : FnOk P w K mg base CX0 1 fHI dHI ["self", "rules", "number"] (spHI C)) (bHI : Binds K dHI ["self", "rules", "number"] []) : FnOk P w K mg base CX0 8 f fd ["book"] spIdl := by
  obtain ⟨fCh, fdCh, GCh, kCh, bCh, mCh⟩ := DCh
  obtain ⟨fLt, fdLt, GLt, kLt, bLt, mLt⟩ := DLt
  refine F.ok scIdl (fun vs H Q E h => ?_) (fun cdv A outer s H vs Q E hr h => ?_)
  · obtain ⟨b, L, rs, es, rfl, _⟩ := h
    rfl
  · obtain ⟨b, L, rs, es, rfl, hB, ho, q⟩ := h
    have hr2 : Room 2 _ := hr.mono (by decide)
    refine ⟨_, pss_cons (ps_asg (pe_call GCh (hr.mono (by decide)) (by rfl) mCh kCh bCh .nil pass0 (pa_cons (pv 0) pa_nil)) (pg_tup (by rfl) (pgs_cons (pg_name (i := 1) scIdl.nd rfl (.inr rfl)) (pgs_cons (pg_name (i := 2) scIdl.nd rfl (.inr rfl)) (pgs_cons (pg_name (i := 3) scIdl.nd rfl (.inl rfl)) pgs_nil)))))
      (pss_one (ps_ret (pe_lc (own := [("number", 4)]) (g := gName 4) (te := tVar 4) rfl scIdl.nd (pi_range1 (by rfl) B.rng (pa_cons (pe_callB call_len (by rfl) B.len PySem.boot_len (pa_cons (pv 2) pa_nil)) pa_nil))
        (blkOk_by (N := nIdl) (sc := defScope sIdl) (by decide +kernel)) (fun _ _ _ _ _ => pg_name (i := 4) scIdl.nd rfl (.inl rfl))
        (fun _ _ _ _ _ => pts_one (pt_cmpR op_isN (pe_call GLt hr (by rfl) mLt kLt bLt .nil pass0 (pa_cons (pv 1) (pa_cons (pe_make Mk_ GHI hr2 (by rfl) mgC bHI .nil pass0 (pa_cons (pv 2) (pa_cons (pv 4) pa_nil))) pa_nil))) pe_non (nomark _))) (fun _ _ _ _ _ => pv 4)))), ?_⟩
    refine ⟨_, rfl, b, L, rs, es, rfl, hB, ho, fun H1 s1 => ?_⟩
    obtain ⟨R, X, hb, hR, hX⟩ := hB.kt (.of s1)
    obtain ⟨rts, hRl, hRp⟩ := id hR
    have lr : (rts.map V.ref).length = rs.length := by rw [List.length_map, paired_len hRp]
    have r12 := ho.r12
    refine ⟨b, _, rfl, .inl (.inl hb), rfl, _, _, rfl, _, _, rfl, _, _, rfl, rfl, ?_⟩
    refine ⟨_, rfl, _, _, rfl, .inr ⟨_, .inl (.inl hRl), rfl⟩, _, rfl, by omega, by rw [lr]; omega, fun D hD => ?_⟩
    rw [lr]
    refine lc_it (walk_range) (fun j H3 => H3 D = some (.lst ((idleL rs L j).map fun k => V.int (k : Nat))) ∧ Same H1 H3) ?_ (fun _ _ _ _ => trivial) ?_ ?_
    · exact ⟨upd_same, same_new hD _⟩
    · rintro j x H0 H3 hj ⟨e1, e2⟩ ⟨rfl, rfl⟩
      have hj : j < rs.length := by omega
      have nx := idle_next (rs := rs) (L := L) (n := j)
      refine ⟨rfl, ?_⟩
      have hR3 := hR.kt (.of e2)
      refine ⟨_, rfl, _, rfl, _, rfl, fun y dx hy hdx nyd => ?_⟩
      refine ⟨y, dx, R, j, (by show [V.ref y, V.ref R, V.int (0 + (j : Int))] = _; rw [Int.zero_add]), upd_same, fun H4 h1 h2 => ⟨rfl, ?_⟩⟩
      obtain ⟨s4, hH⟩ := make_u hR3 hy hdx nyd h1 h2
      refine ⟨L, y, R, rs, j, rfl, hH, ho.rls, (rises_iff L).mp ho.lt.up, ho.lt.l4, states_le ho.lt.l4, fun v H5 s5 hv => ?_⟩
      have s35 := s4.trans s5
      have e1' := s35 _ _ e1
      have e2' := e2.trans s35
      refine ⟨rfl, _, rfl, ite2 (fun c => ?_) (fun c => ?_)⟩
      · have c := hv.non.mp (of_decide_eq_true c)
        rw [if_pos c] at nx
        refine ⟨_, rfl, _, e1', ?_, ?_, ?_⟩
        · rw [List.length_map]
          have := idle_len rs L j
          exact small1000 (by omega)
        · rw [upd_same, nx, List.map_append]
          show some (HO.lst (_ ++ [V.int (0 + (j : Int))])) = _
          rw [Int.zero_add]
          rfl
        · exact fun b' u q' => by
            rw [upd_ne (ne_of_none q' hD)]
            exact e2' b' u q'
      · have c : ¬ NoUse rs L j := fun z => c (decide_eq_true (hv.non.mpr z))
        rw [if_neg c, List.append_nil] at nx
        exact ⟨by rw [nx]; exact e1', e2'⟩
    · rintro H3 ⟨e1, e2⟩
      rw [Int.toNat_natCast] at e1
      exact q D H3 (s1.trans e2) (s1.free hD) e1
end
end Say
namespace Say
open PySem PySem.Spec PyProof.Rows L2
section
variable {P : Program} {w : World} {K : PySem.W.Frag} {mg : Str → Option Value} {base : Heap}
abbrev sTaken : Stmt := topS 49
theorem scTaken : FnScope ["_law_row_here", "_law_many", "_law_found", "_law_cell"] ["_law_row_here", "_law_many"] (defScope sTaken) := ⟨rfl, rfl, rfl, by decide +kernel, rfl, by decide +kernel, by decide +kernel⟩
theorem fmod_in {x n : Int} (h : 0 < n) : 0 ≤ x.fmod n ∧ x.fmod n < n := ⟨Int.fmod_nonneg_of_pos _ h, Int.fmod_lt_of_pos _ h⟩
theorem ok_taken {f : Addr} {fd : FuncData} {k : Nat} (F : Fun K "_law_taken" "_law_taken" sTaken f fd) (ml : mg "len" = none) : FnOk P w K mg base CX0 (k + 1) f fd ["_law_row_here", "_law_many"] (spTaken K) := by
  refine F.ok scTaken (fun vs H Q E h => ?_) (fun cdv A outer s H vs Q E hr h => ?_)
  · obtain ⟨r, a, ns, n, rfl, _⟩ := h
    rfl
  · obtain ⟨r, a, ns, n, rfl, R, h0, h1, q⟩ := h
    obtain ⟨⟨i, c, m, hR, hi, hm0, hm1⟩, hS, hle⟩ := id R
    refine ⟨_, pss_cons (ps_if (pt_cmpR op_gt (pe_ix ix_list (pv 0) pe_int (fun _ _ => rfl)) pe_int (nomark _))
        (pss_cons (ps_set (i := 2) scTaken.nd rfl (.inl rfl) (pe_op op_modN (pe_ix ix_list (pv 0) pe_int (fun _ _ => rfl)) (pv 1)))
        (pss_cons (ps_asg (pe_op op_fdivN (pe_ix ix_list (pv 0) pe_int (fun _ _ => rfl)) (pv 1)) (pg_sub (pv 0) pe_int set_list))
        (pss_one (ps_ret (pv 2))))) pss_nil)
      (pss_cons (ps_if (pt_cmpR op_lt (pe_ix ix_list (pv 0) pe_int (fun _ _ => rfl)) (pe_callB call_len_seq (by rfl) ml PySem.boot_len (pa_cons (pe_ix ix_list (pv 0) pe_int (fun _ _ => rfl)) pa_nil)) (nomark _))
        (pss_cons (ps_set (i := 3) scTaken.nd rfl (.inl rfl) (pe_ix ix_list (pe_ix ix_list (pv 0) pe_int (fun _ _ => rfl)) (pe_ix ix_list (pv 0) pe_int (fun _ _ => rfl)) (fun _ _ => rfl)))
        (pss_cons (ps_asg (pe_op op_add (pe_ix ix_list (pv 0) pe_int (fun _ _ => rfl)) pe_int) (pg_sub (pv 0) pe_int set_list))
        (pss_cons (ps_if (pt_cmpR op_ge (pv 3) (pe_op op_pow pe_int pe_int) (nomark _))
          (pss_one (ps_asg (pe_op op_fdivN (pv 3) (pv 1)) (pg_sub (pv 0) pe_int set_list))) pss_nil)
        (pss_one (ps_ret (pe_op op_modN (pv 3) (pv 1))))))) pss_nil)
      (pss_cons (ps_asg (pe_op op_modN (pe_op op_add (pe_op op_mul (pe_ix ix_list (pv 0) pe_int (fun _ _ => rfl)) pe_int) pe_int) pe_int) (pg_sub (pv 0) pe_int set_list))
      (pss_one (ps_ret (pe_op op_modN (pe_op op_fdivN (pe_ix ix_list (pv 0) pe_int (fun _ _ => rfl)) pe_int) (pv 1)))))), ?_⟩
    have hL : SqL K H r [.ref a, .int i, .int c, .int m] := .inl (.inl hR)
    have gn : n ≠ 0 ∧ n.natAbs < 1073741824 := ⟨by omega, by omega⟩
    -- row[2] > 0
    refine ⟨_, rfl, r, _, 2, .int c, rfl, rfl, hL, atI_nat (j := 2) rfl, _, _, rfl, rfl, _, rfl, ite2 (fun e => ?_) (fun e => ?_)⟩
    · refine ⟨_, rfl, r, _, 2, .int c, rfl, rfl, hL, atI_nat (j := 2) rfl, _, rfl, _, _, rfl, rfl, gn.1, ?_⟩
      refine ⟨_, rfl, r, _, 2, .int c, rfl, rfl, hL, atI_nat (j := 2) rfl, _, rfl, _, _, rfl, rfl, gn, ?_⟩
      refine ⟨_, rfl, r, _, 2, 2, rfl, rfl, hR, rfl, ?_⟩
      refine ⟨_, rfl, ?_⟩
      exact q _ _ (fmod_in h0).1 (fmod_in h0).2 (stp_at _) (R.put hi hm0 hm1)
    -- row[1] < len(row[0])
    refine ⟨_, rfl, r, _, 1, .int i, rfl, rfl, hL, atI_nat (j := 1) rfl, _, rfl, r, _, 0, .ref a, rfl, rfl, hL, atI_nat (j := 0) rfl, a, _, rfl, .inl hS, _, _, rfl, rfl, _, rfl, ite2 (fun e1 => ?_) (fun e1 => ?_)⟩
    · have e2 : i < ((ns.map V.int).length : Int) := of_decide_eq_true e1
      rw [List.length_map] at e2
      have hj : i.toNat < ns.length := by omega
      have gx : (ns.map V.int)[i.toNat]? = some (.int ns[i.toNat]) := by
        rw [List.getElem?_map, List.getElem?_eq_getElem hj]
        rfl
      refine ⟨_, rfl, r, _, 0, .ref a, rfl, rfl, hL, atI_nat (j := 0) rfl, _, rfl, r, _, 1, .int i, rfl, rfl, hL, atI_nat (j := 1) rfl, a, _, i, .int ns[i.toNat], rfl, rfl, hS, at_of (j := i.toNat) (by omega) gx, ?_⟩
      refine ⟨_, rfl, r, _, 1, .int i, rfl, rfl, hL, atI_nat (j := 1) rfl, _, _, rfl, rfl, ?_⟩
      refine ⟨_, rfl, r, _, 1, 1, rfl, rfl, hR, rfl, ?_⟩
      have R1 : RowAt K (upd H r (.lst [.ref a, .int (i + 1), .int c, .int m])) r a ns := R.put (by omega) hm0 hm1
      refine ⟨_, rfl, _, _, rfl, rfl, ⟨by decide, by decide, by decide⟩, _, _, rfl, rfl, _, rfl, ite2 (fun e3 => ?_) (fun e3 => ?_)⟩
      · refine ⟨_, rfl, _, rfl, _, _, rfl, rfl, gn, ?_⟩
        refine ⟨_, rfl, r, _, 2, 2, rfl, rfl, upd_same, rfl, ?_⟩
        refine ⟨_, rfl, _, rfl, _, _, rfl, rfl, gn.1, ?_⟩
        exact q _ _ (fmod_in h0).1 (fmod_in h0).2 ((stp_at _).trans (stp_at _)) (R1.put (by omega) hm0 hm1)
      · refine ⟨_, rfl, _, rfl, _, _, rfl, rfl, gn.1, ?_⟩
        exact q _ _ (fmod_in h0).1 (fmod_in h0).2 (stp_at _) R1
    · refine ⟨_, rfl, r, _, 3, .int m, rfl, rfl, hL, atI_nat (j := 3) rfl, _, _, rfl, rfl, .inl ⟨by omega, by omega⟩, _, _, rfl, rfl, _, _, rfl, rfl, (by show (2147483647 : Int) ≠ 0; decide), ?_⟩
      refine ⟨_, rfl, r, _, 3, 3, rfl, rfl, hR, rfl, ?_⟩
      have b := fmod_in (x := m * 48271 + 12345) (n := 2147483647) (by decide)
      have R1 : RowAt K (upd H r (.lst [.ref a, .int i, .int c, .int ((m * 48271 + 12345).fmod 2147483647)])) r a ns := R.put hi b.1 b.2
      refine ⟨_, rfl, r, _, 3, .int ((m * 48271 + 12345).fmod 2147483647), rfl, rfl, .inl (.inl upd_same), atI_nat (j := 3) rfl, _, _, rfl, rfl, ⟨by decide, by decide⟩, _, rfl, _, _, rfl, rfl, gn.1, ?_⟩
      exact q _ _ (fmod_in h0).1 (fmod_in h0).2 (stp_at _) R1
end
end Say
namespace Say
open PySem PySem.Spec PyProof.Rows L2
theorem lv_le {L : List Nat} (h4 : L.length ≤ 4) : ∀ n, (lv L n).length ≤ 4 ^ n
  | 0 => Nat.le_refl _
  | n + 1 => by
    have ih := lv_le h4 n
    have := flat_le (f := fun w => L.map fun c => w ++ [c]) (k := 4) (l := lv L n) fun a _ => by rw [List.length_map]; exact h4
    show ((lv L n).flatMap fun w => L.map fun c => w ++ [c]).length ≤ 4 ^ n * 4
    exact Nat.le_trans this (Nat.mul_le_mul_right 4 ih)
theorem upto_le {L : List Nat} (h4 : L.length ≤ 4) {n : Nat} (hn : n ≤ 7) : (upto L n).length ≤ 131072 := by
  have := flat_le (f := lv L) (k := 16384) (l := List.range (n + 1)) fun j hj => by
    have := List.mem_range.mp hj
    have h2 : 4 ^ j ≤ 4 ^ 7 := Nat.pow_le_pow_right (by decide) (by omega)
    exact Nat.le_trans (lv_le h4 j) (Nat.le_trans h2 (by decide))
  rw [List.length_range] at this
  unfold upto
  have h3 : (n + 1) * 16384 ≤ 8 * 16384 := Nat.mul_le_mul_right _ (by omega)
  omega
theorem upto_next {L : List Nat} {n : Nat} : upto L (n + 1) = upto L n ++ lv L (n + 1) := by
  unfold upto
  rw [List.range_succ, List.flatMap_append]
  simp
/-- the words a letter longer, of the first j words of a level -/
def furth (L : List Nat) (l : List (List Nat)) (j : Nat) : List (List Nat) := (l.take j).flatMap fun w => L.map fun c => w ++ [c]
theorem furth_next {L : List Nat} {l : List (List Nat)} {j : Nat} {w : List Nat} (h : l[j]? = some w) : furth L l (j + 1) = furth L l j ++ L.map fun c => w ++ [c] := by
  unfold furth
  rw [List.take_add_one, h, List.flatMap_append]
  simp
theorem furth_le {L : List Nat} (h4 : L.length ≤ 4) (n j : Nat) : (furth L (lv L n) j).length ≤ 4 ^ (n + 1) := by
  have := flat_le (f := fun w => L.map fun c => w ++ [c]) (k := 4) (l := (lv L n).take j) fun a _ => by rw [List.length_map]; exact h4
  have h1 := lv_le h4 n
  rw [List.length_take] at this
  have : (furth L (lv L n) j).length ≤ min j (lv L n).length * 4 := this
  have h2 : min j (lv L n).length * 4 ≤ (lv L n).length * 4 := Nat.mul_le_mul_right _ (Nat.min_le_right _ _)
  have h3 : (lv L n).length * 4 ≤ 4 ^ n * 4 := Nat.mul_le_mul_right _ h1
  rw [Nat.pow_succ]
  omega
theorem wv_one : wv [[]] = [V.str (Str.ofString "")] := by
  unfold wv
  rw [show Str.ofString "" = T [] from nil_eq]
  rfl
theorem wv_len (a : List (List Nat)) : (wv a).length = a.length := by unfold wv; rw [List.length_map]
theorem wv_appd (a b : List (List Nat)) : wv a ++ wv b = wv (a ++ b) := by unfold wv; rw [List.map_append]
section
variable {P : Program} {w : World} {K : PySem.W.Frag} {mg : Str → Option Value} {base : Heap}
abbrev sLWs : Stmt := topS 55
abbrev nLWs : List Str := ["_law_letters", "_law_far", "_law_found", "_law_level", "_law_k", "_law_further", "_law_word", "_law_letter"]
theorem scLWs : FnScope nLWs ["_law_letters", "_law_far"] (defScope sLWs) := ⟨rfl, rfl, rfl, by decide +kernel, rfl, by decide +kernel, by decide +kernel⟩
def spLWs : Sp := fun vs H Q _ => ∃ (L : List Nat) (n : Nat), vs = [.str (T L), .int n] ∧ L.length ≤ 4 ∧ n ≤ 7 ∧ ∀ (D : Addr) (H' : Hp), Same H H' → H D = none → H' D = some (.lst (wv (upto L n))) → Q (.ref D) H'
theorem ok_LWs {f : Addr} {fd : FuncData} {k : Nat} (F : Fun K "_law_words" "_law_words" sLWs f fd) (B : Bn mg) : FnOk P w K mg base CX0 (k + 1) f fd ["_law_letters", "_law_far"] spLWs := by
  refine F.ok scLWs (fun vs H Q E h => ?_) (fun cdv A outer s H vs Q E hr h => ?_)
  · obtain ⟨L, n, rfl, _⟩ := h
    rfl
  · obtain ⟨L, n, rfl, h4, hn, q⟩ := h
    refine ⟨_, pss_cons (ps_par (i := 2) (j := 3) (by rfl) scLWs.nd rfl rfl (by decide) rfl rfl (pa_cons (pe_lst (pa_cons pe_str pa_nil)) (pa_cons (pe_lst (pa_cons pe_str pa_nil)) pa_nil)) (by rfl))
      (pss_cons (ps_for PassesOwn.never rfl (pi_range1 (by rfl) B.rng (pa_cons (pv 1) pa_nil)) (pg_name (i := 4) scLWs.nd rfl (.inl rfl)) (pss_cons (ps_set (i := 5) scLWs.nd rfl (.inl rfl) (pe_lst pa_nil))
        (pss_cons (ps_for PassesOwn.never rfl (pi_list (pv 3)) (pg_name (i := 6) scLWs.nd rfl (.inr rfl)) (pss_one (ps_set (i := 5) scLWs.nd rfl (.inl rfl) (pe_op op_cat (pv 5) (pe_lc (own := [("_law_letter", 7)]) (g := gName 7) rfl scLWs.nd (pi_str (pv 0)) (blkOk_by (N := nLWs) (sc := defScope sLWs) (by decide +kernel)) (fun _ _ _ _ _ => pg_name (i := 7) scLWs.nd rfl (.inl rfl)) (fun _ _ _ _ _ => pts_nil) (fun _ _ _ _ _ => pe_op op_add_str (pv 6) (pv 7)))))))
        (pss_cons (ps_set (i := 3) scLWs.nd rfl (.inl rfl) (pv 5))
        (pss_one (ps_set (i := 2) scLWs.nd rfl (.inl rfl) (pe_op op_cat (pv 2) (pv 3))))))))
      (pss_one (ps_ret (pv 2)))), ?_⟩
    refine ⟨(by show 1 ≤ sizeLine; decide), fun F0 hF0 => ⟨(by show 1 ≤ sizeLine; decide), fun V0 hV0 => ?_⟩⟩
    refine ⟨_, _, rfl, ?_⟩
    have sa := same_new hF0 (.lst [V.str (Str.ofString "")])
    have sb := same_new hV0 (.lst [V.str (Str.ofString "")])
    have eF := sb _ _ (upd_same (H := H) (a := F0) (o := .lst [V.str (Str.ofString "")]))
    have eV : (upd (upd H F0 (.lst [V.str (Str.ofString "")])) V0 (.lst [V.str (Str.ofString "")])) V0 = some (.lst [V.str (Str.ofString "")]) := upd_same
    have hV := sa.free hV0
    generalize (upd (upd H F0 (.lst [V.str (Str.ofString "")])) V0 (.lst [V.str (Str.ofString "")])) = H1 at *
    rw [← wv_one] at eF eV
    refine ⟨_, rfl, n, rfl, by omega, by omega, for_it (walk_range) (fun i σ H2 => ∃ (F V : Addr) (v4 v5 v6 : Option L2.V), σ = [some (.str (T L)), some (.int n), some (.ref F), some (.ref V), v4, v5, v6, none] ∧ Same H H2 ∧ H F = none ∧ H2 F = some (.lst (wv (upto L i))) ∧ H2 V = some (.lst (wv (lv L i))))
      ⟨F0, V0, _, _, _, rfl, sa.trans sb, hF0, eF, eV⟩ (fun _ _ _ _ _ => trivial) ?_ ?_⟩
    · rintro i x σ H0 H2 hi ⟨F, Vl, v4, v5, v6, rfl, s2, hF, eF, eV⟩ ⟨rfl, rfl⟩
      have hi5 : i < 7 := by omega
      refine ⟨(by show 0 ≤ sizeLine; decide), fun U0 hU0 => ?_⟩
      have sU := same_new hU0 (.lst [])
      refine ⟨_, rfl, Vl, rfl, ⟨_, .inl (.inl (sU _ _ eV))⟩, for_it (walk_list (xs := wv (lv L i))) (fun j σ H3 => ∃ (U : Addr) (v6 : Option L2.V), σ = [some (.str (T L)), some (.int n), some (.ref F), some (.ref Vl), some (.int (0 + (i : Int))), some (.ref U), v6, none] ∧ Same H2 H3 ∧ H3 U = some (.lst (wv (furth L (lv L i) j))))
        ⟨U0, _, rfl, sU, upd_same⟩ (fun j σ H3 _ h => by obtain ⟨U, v6, _, s3, _⟩ := h; exact .inl (.inl (s3 _ _ eV))) ?_ ?_⟩
      · rintro j x σ H0' H3 hj ⟨U, v6, rfl, s3, eU⟩ ⟨rfl, hx⟩
        unfold wv at hx
        rw [List.getElem?_map] at hx
        obtain ⟨wd, hw, e⟩ := Option.map_eq_some_iff.mp hx
        subst e
        have hwl := (mem_lv.mp (List.mem_of_getElem? hw)).1
        have nx := furth_next (L := L) hw
        refine ⟨_, rfl, _, rfl, T L, rfl, fun D hD => ?_⟩
        refine lc_it (walk_str) (fun m H4 => H4 D = some (.lst (wv ((L.take m).map fun c => wd ++ [c]))) ∧ Same H3 H4) ?_ (fun _ _ _ _ => trivial) ?_ ?_
        · exact ⟨upd_same, same_new hD _⟩
        · rintro m y H0'' H4 hm ⟨e1, e2⟩ ⟨rfl, c, hc, rfl⟩
          have hc := T_at hc
          refine ⟨rfl, _, rfl, _, rfl, _, _, rfl, rfl, (by rw [T_len]; exact small (by show wd.length + 1 ≤ 1000; omega)), _, e1, ?_, ?_, ?_⟩
          · rw [wv_len, List.length_map, List.length_take]
            exact small1000 (by omega)
          · rw [upd_same, List.take_add_one, hc, List.map_append, ← wv_appd]
            have : T wd ++ (⟨#[c]⟩ : Str) = T (wd ++ [c]) := T_app _ _
            rw [this]
            rfl
          · exact fun b u q => by
              rw [upd_ne (ne_of_none q hD)]
              exact e2 b u q
        · rintro H4 ⟨e1, e2⟩
          have eL : L.take ((T L).cps.size) = L := by rw [T_size]; exact List.take_length
          rw [eL] at e1
          have f1 := furth_le h4 i j
          have f2 : 4 ^ (i + 1) ≤ 4 ^ 7 := Nat.pow_le_pow_right (by decide) (by omega)
          refine ⟨U, D, _, _, rfl, rfl, e2 _ _ eU, e1, ?_, fun p hp => ?_⟩
          · rw [wv_len, wv_len, List.length_map]
            have : 4 ^ 7 + 4 ≤ sizeLine := by decide
            omega
          · refine ⟨p, _, rfl, s3.trans (e2.trans (same_new hp _)), ?_⟩
            rw [upd_same, nx, wv_appd]
      · rintro σ H3 ⟨U, v6, rfl, s3, eU⟩
        have et : furth L (lv L i) (wv (lv L i)).length = lv L (i + 1) := by
          unfold furth
          rw [wv_len, List.take_length]
          rfl
        rw [et] at eU
        have l1 := upto_le (L := L) h4 (n := i) (by omega)
        have l2 := lv_le (L := L) h4 (i + 1)
        have f2 : 4 ^ (i + 1) ≤ 4 ^ 7 := Nat.pow_le_pow_right (by decide) (by omega)
        refine ⟨_, rfl, _, rfl, _, rfl, F, U, _, _, rfl, rfl, s3 _ _ eF, eU, ?_, fun p hp => ?_⟩
        · rw [wv_len, wv_len]
          have : 131072 + 4 ^ 7 ≤ sizeLine := by decide
          omega
        · have st := (s2.trans s3).trans (same_new hp (.lst (wv (upto L i) ++ wv (lv L (i + 1)))))
          refine ⟨p, U, _, _, _, rfl, st, (s2.trans s3).free hp, ?_, same_new hp _ _ _ eU⟩
          rw [upd_same, upto_next, wv_appd]
    · rintro σ H2 ⟨F, Vl, v4, v5, v6, rfl, s2, hF, eF, eV⟩
      refine ⟨_, rfl, q F H2 s2 hF ?_⟩
      rw [eF, Int.toNat_natCast]
end
end Say
namespace Say
open PySem PySem.Spec PyProof.Rows L2
section
variable {P : Program} {w : World} {K : PySem.W.Frag} {mg : Str → Option Value} {base : Heap}
theorem ty_list {H : Hp} {a : Addr} {xs : List V} (h : SqL K H a xs) : TyX K H (.ref a) (.type "list") := by
  rcases h with (h | ⟨o, h⟩) | ⟨o, its, n, h, hc, _⟩
  · exact .base (.lst h)
  · exact .base (.frz h)
  · exact .kList h hc
theorem ty_tup {H : Hp} {a : Addr} {xs : List V} (h : SqT K H a xs) : TyX K H (.ref a) (.type "tuple") := by
  rcases h with (h | ⟨o, h⟩) | ⟨o, its, n, h, hc, _⟩
  · exact .base (.tup h)
  · exact .fTuple h
  · exact .kTuple h hc
abbrev sAl : Stmt := topS 59
abbrev psAl : List Str := ["_law_found", "_law_due"]
theorem scAl : FnScope ["_law_found", "_law_due", "_law_same_kind", "_law_k"] ["_law_found", "_law_due"] (defScope sAl) := ⟨rfl, rfl, rfl, by decide +kernel, rfl, by decide +kernel, by decide +kernel⟩
/-- two values of the same data, not too deep -/
def spAl (K : PySem.W.Frag) (n : Nat) : Sp := fun vs H Q _ => ∃ (x y : V) (d : PyData), vs = [x, y] ∧ Dp K H x d ∧ Dp K H y d ∧ Few d ∧ d.depth < n ∧ ∀ H', Same H H' → Q (.bl true) H'
theorem kit2 {t a b : String} {r : Bool} (h : (match kitB t a, kitB t b with | some true, _ => some true | some false, some x => some x | _, _ => none) = some r) (h2 : kitB t b ≠ none) : PySem.W.kitAny K (.type t) [.type a, .type b] = some r := by
  cases ha : kitB t a with
  | none => rw [ha] at h; cases h
  | some x =>
    rw [ha] at h
    cases x with
    | true =>
      have h : some true = some r := h
      cases h
      exact kitAny_cons (kit_ty ha) (fun z => by cases z) fun _ => rfl
    | false =>
      cases hb : kitB t b with
      | none => exact absurd hb h2
      | some y =>
        rw [hb] at h
        have h : some y = some r := h
        cases h
        refine kitAny_cons (kit_ty ha) (fun _ => ?_) fun z => by cases z
        refine kitAny_cons (kit_ty hb) (fun z => ?_) fun z => z
        rw [z]
        exact kitAny_nil
def tTL : TE := tTup (tCons (tC (.ty "tuple")) (tCons (tC (.ty "list")) tNil))
theorem ok_al {f : Addr} {fd : FuncData} {n : Nat} (F : Fun K "_law_alike" "_law_alike" sAl f fd) (G : FnOk P w K mg base CX0 n f fd psAl (spAl K n)) (bG : Binds K fd psAl []) (mG : mg "_law_alike" = some (.ref f)) (B : Bn mg) :
    FnOk P w K mg base CX0 (n + 1) f fd psAl (spAl K (n + 1)) := by
  refine F.ok scAl (fun vs H Q E h => ?_) (fun cdv A outer s H vs Q E hr h => ?_)
  · obtain ⟨x, y, d, rfl, _⟩ := h
    rfl
  · obtain ⟨x, y, d, rfl, hx, hy, hF, hd, q⟩ := h
    refine ⟨_, pss_cons (ps_if (pt_val (pe_callB call_isiT (by rfl) B.isi (by decide +kernel) (pa_cons (pv 1) (pa_cons (pe_tup (pa_cons (pe_bltn (v := .ty "tuple") rfl B.tup (by decide +kernel) rfl) (pa_cons (pe_bltn (v := .ty "list") rfl B.lst (by decide +kernel) rfl) pa_nil))) pa_nil))))
        (pss_cons (ps_if (PW.pt (pw_or (pt_cmpR op_ne (pe_callB call_isi (by rfl) B.isi (by decide +kernel) (pa_cons (pv 0) (pa_cons (pe_bltn (v := .ty "tuple") rfl B.tup (by decide +kernel) rfl) pa_nil))) (pe_callB call_isi (by rfl) B.isi (by decide +kernel) (pa_cons (pv 1) (pa_cons (pe_bltn (v := .ty "tuple") rfl B.tup (by decide +kernel) rfl) pa_nil))) (nomark _))
            (pw_or1 (pt_not (pt_val (pe_callB call_isiT (by rfl) B.isi (by decide +kernel) (pa_cons (pv 0) (pa_cons (pe_tup (pa_cons (pe_bltn (v := .ty "tuple") rfl B.tup (by decide +kernel) rfl) (pa_cons (pe_bltn (v := .ty "list") rfl B.lst (by decide +kernel) rfl) pa_nil))) pa_nil)))))))) (pss_one (ps_ret pe_bl)) pss_nil)
        (pss_cons (ps_if (pt_cmpR op_ne (pe_callB call_len (by rfl) B.len PySem.boot_len (pa_cons (pv 0) pa_nil)) (pe_callB call_len (by rfl) B.len PySem.boot_len (pa_cons (pv 1) pa_nil)) (nomark _)) (pss_one (ps_ret pe_bl)) pss_nil)
        (pss_one (ps_ret (pe_cmpR (op_eqD hr.units) (pe_lc (own := [("_law_k", 3)]) (g := gName 3) (te := tVar 3) (tt := tNot (tB (tCall (spAl K n) [] E0 (tCons (tOp (rIx K) (tVar 0) (tVar 3)) (tCons (tOp (rIx K) (tVar 1) (tVar 3)) tNil))))) rfl scAl.nd
            (pi_range1 rfl B.rng (pa_cons (pe_callB call_len (by rfl) B.len PySem.boot_len (pa_cons (pv 1) pa_nil)) pa_nil))
            (blkOk_by (N := ["_law_found", "_law_due", "_law_same_kind", "_law_k"]) (sc := defScope sAl) (by decide +kernel)) (fun _ _ _ _ _ => pg_name (i := 3) scAl.nd rfl (.inl rfl))
            (fun _ _ _ _ _ => pts_one (pt_not (pt_val (pe_call G hr (by rfl) mG F.kp bG .nil pass0 (pa_cons (pe_ix ix_seq (pv 0) (pv 3) (fun _ _ => rfl)) (pa_cons (pe_ix ix_seq (pv 1) (pv 3) (fun _ _ => rfl)) pa_nil)))))) (fun _ _ _ _ _ => pv 3)) (pe_lst pa_nil) (nomark _)))))) pss_nil)
      (pss_cons (ps_if (PW.pt (pw_or (pt_cmpR op_isN (pv 1) pe_non (nomark _)) (pw_or1 (pt_cmpR op_isN (pv 0) pe_non (nomark _))))) (pss_one (ps_ret (pe_and (pe_cmpR op_isN (pv 1) pe_non (nomark _)) (pe_one (pe_cmpR op_isN (pv 0) pe_non (nomark _)))))) pss_nil)
      (pss_cons (ps_set (i := 2) scAl.nd rfl (.inl rfl) (pe_cmpR op_eq (pe_callB call_isi (by rfl) B.isi (by decide +kernel) (pa_cons (pv 1) (pa_cons (pe_bltn (v := .ty "str") rfl B.str (by decide +kernel) rfl) pa_nil))) (pe_callB call_isi (by rfl) B.isi (by decide +kernel) (pa_cons (pv 0) (pa_cons (pe_bltn (v := .ty "str") rfl B.str (by decide +kernel) rfl) pa_nil))) (nomark _)))
      (pss_one (ps_ret (pe_and (pv 2) (pe_and (pe_cmpR op_eq (pe_callB call_isi (by rfl) B.isi (by decide +kernel) (pa_cons (pv 1) (pa_cons (pe_bltn (v := .ty "bool") rfl B.bool (by decide +kernel) rfl) pa_nil))) (pe_callB call_isi (by rfl) B.isi (by decide +kernel) (pa_cons (pv 0) (pa_cons (pe_bltn (v := .ty "bool") rfl B.bool (by decide +kernel) rfl) pa_nil))) (nomark _))
        (pe_one (pe_cmpR op_eq (pv 0) (pv 1) (nomark _))))))))), ?_⟩
    have clsTL : Paired ClsV [.ty "tuple", .ty "list"] [.type "tuple", .type "list"] := .cons (.ty _) (.cons (.ty _) .nil)
    cases d with
    | none =>
      cases hx
      cases hy
      refine ⟨_, rfl, (by show 2 ≤ sizeLine; decide), fun N hN => ?_⟩
      have sN := same_new hN (.tup [.ty "tuple", .ty "list"])
      refine ⟨_, N, _, .type "NoneType", _, false, rfl, upd_same, clsTL, .base (.non), kit2 (by decide +kernel) (by decide +kernel), false, rfl, iteF ?_⟩
      refine ⟨_, rfl, rfl, _, rfl, iteT ?_⟩
      refine ⟨_, rfl, rfl, _, rfl, iteT ?_⟩
      exact ⟨_, rfl, rfl, q _ sN⟩
    | bool v =>
      cases hx
      cases hy
      refine ⟨_, rfl, (by show 2 ≤ sizeLine; decide), fun N hN => ?_⟩
      have sN := same_new hN (.tup [.ty "tuple", .ty "list"])
      refine ⟨_, N, _, .type "bool", _, false, rfl, upd_same, clsTL, .base (.bl _), kit2 (by decide +kernel) (by decide +kernel), false, rfl, iteF ?_⟩
      have nn : decide (V.bl v = V.non) = false := decide_eq_false (fun z => by cases z)
      refine ⟨_, rfl, rfl, _, rfl, ?_⟩
      rw [nn]
      refine iteF ?_
      refine ⟨_, rfl, rfl, _, rfl, ?_⟩
      rw [nn]
      refine iteF ?_
      refine ⟨_, rfl, _, _, .type "bool", _, false, rfl, ClsV.ty _, .base (.bl _), kit_ty (by decide +kernel), _, rfl, _, _, .type "bool", _, false, rfl, ClsV.ty _, .base (.bl _), kit_ty (by decide +kernel), rfl, ?_⟩
      refine ⟨_, rfl, true, rfl, iteT ?_⟩
      refine ⟨_, rfl, _, _, .type "bool", _, true, rfl, ClsV.ty _, .base (.bl _), kit_ty (by decide +kernel), _, rfl, _, _, .type "bool", _, true, rfl, ClsV.ty _, .base (.bl _), kit_ty (by decide +kernel), rfl, true, rfl, iteT ?_⟩
      refine ⟨_, rfl, _, rfl, rfl, ?_⟩
      rw [decide_eq_true rfl]
      exact q _ sN
    | int v =>
      cases hx
      cases hy
      refine ⟨_, rfl, (by show 2 ≤ sizeLine; decide), fun N hN => ?_⟩
      have sN := same_new hN (.tup [.ty "tuple", .ty "list"])
      refine ⟨_, N, _, .type "int", _, false, rfl, upd_same, clsTL, .base (.int _), kit2 (by decide +kernel) (by decide +kernel), false, rfl, iteF ?_⟩
      have nn : decide (V.int v = V.non) = false := decide_eq_false (fun z => by cases z)
      refine ⟨_, rfl, rfl, _, rfl, ?_⟩
      rw [nn]
      refine iteF ?_
      refine ⟨_, rfl, rfl, _, rfl, ?_⟩
      rw [nn]
      refine iteF ?_
      refine ⟨_, rfl, _, _, .type "int", _, false, rfl, ClsV.ty _, .base (.int _), kit_ty (by decide +kernel), _, rfl, _, _, .type "int", _, false, rfl, ClsV.ty _, .base (.int _), kit_ty (by decide +kernel), rfl, ?_⟩
      refine ⟨_, rfl, true, rfl, iteT ?_⟩
      refine ⟨_, rfl, _, _, .type "int", _, false, rfl, ClsV.ty _, .base (.int _), kit_ty (by decide +kernel), _, rfl, _, _, .type "int", _, false, rfl, ClsV.ty _, .base (.int _), kit_ty (by decide +kernel), rfl, true, rfl, iteT ?_⟩
      refine ⟨_, rfl, _, rfl, rfl, ?_⟩
      rw [decide_eq_true rfl]
      exact q _ sN
    | str v =>
      cases hx
      cases hy
      refine ⟨_, rfl, (by show 2 ≤ sizeLine; decide), fun N hN => ?_⟩
      have sN := same_new hN (.tup [.ty "tuple", .ty "list"])
      refine ⟨_, N, _, .type "str", _, false, rfl, upd_same, clsTL, .base (.str _), kit2 (by decide +kernel) (by decide +kernel), false, rfl, iteF ?_⟩
      have nn : decide (V.str v = V.non) = false := decide_eq_false (fun z => by cases z)
      refine ⟨_, rfl, rfl, _, rfl, ?_⟩
      rw [nn]
      refine iteF ?_
      refine ⟨_, rfl, rfl, _, rfl, ?_⟩
      rw [nn]
      refine iteF ?_
      refine ⟨_, rfl, _, _, .type "str", _, true, rfl, ClsV.ty _, .base (.str _), kit_ty (by decide +kernel), _, rfl, _, _, .type "str", _, true, rfl, ClsV.ty _, .base (.str _), kit_ty (by decide +kernel), rfl, ?_⟩
      refine ⟨_, rfl, true, rfl, iteT ?_⟩
      refine ⟨_, rfl, _, _, .type "str", _, false, rfl, ClsV.ty _, .base (.str _), kit_ty (by decide +kernel), _, rfl, _, _, .type "str", _, false, rfl, ClsV.ty _, .base (.str _), kit_ty (by decide +kernel), rfl, true, rfl, iteT ?_⟩
      refine ⟨_, rfl, _, rfl, rfl, ?_⟩
      rw [decide_eq_true rfl]
      exact q _ sN
    | list ds =>
      cases hx with
      | @lst xa xs _ hxs dx =>
      cases hy with
      | @lst ya ys _ hys dy =>
      cases hF with
      | lst hlen hFs =>
      have lx := dpa_len dx
      have ly := dpa_len dy
      have hd' : PyData.depthAll ds + 1 < n + 1 := hd
      refine ⟨_, rfl, (by show 2 ≤ sizeLine; decide), fun N hN => ?_⟩
      have sN := same_new hN (.tup [.ty "tuple", .ty "list"])
      refine ⟨_, N, _, .type "list", _, true, rfl, upd_same, clsTL, ty_list (Same.seq sN hys), kit2 (by decide +kernel) (by decide +kernel), true, rfl, iteT ?_⟩
      refine ⟨_, rfl, _, _, .type "list", _, false, rfl, ClsV.ty _, ty_list (Same.seq sN hxs), kit_ty (by decide +kernel), _, rfl, _, _, .type "list", _, false, rfl, ClsV.ty _, ty_list (Same.seq sN hys), kit_ty (by decide +kernel), rfl, _, rfl, iteF ?_⟩
      refine ⟨_, rfl, (by show 2 ≤ sizeLine; decide), fun M hM => ?_⟩
      have sM := sN.trans (same_new hM (.tup [.ty "tuple", .ty "list"]))
      refine ⟨_, M, _, .type "list", _, true, rfl, upd_same, clsTL, ty_list (Same.seq sM hxs), kit2 (by decide +kernel) (by decide +kernel), true, rfl, iteF ?_⟩
      refine ⟨_, rfl, _, _, rfl, .inl ⟨_, Same.seq sM hxs, rfl⟩, _, rfl, _, _, rfl, .inl ⟨_, Same.seq sM hys, rfl⟩, rfl, _, rfl, ?_⟩
      rw [lx, ly, decide_eq_true rfl]
      refine iteF ?_
      refine ⟨_, rfl, _, _, rfl, .inl ⟨_, Same.seq sM hys, rfl⟩, _, rfl, by omega, by rw [ly]; omega, fun D hD => ?_⟩
      refine lc_it (walk_range) (fun i H2 => H2 D = some (.lst []) ∧ Same H H2) ?_ (fun _ _ _ _ => trivial) ?_ ?_
      · exact ⟨upd_same, sM.trans (same_new hD _)⟩
      · rintro i v H2 H2' hi ⟨e1, e2⟩ ⟨rfl, rfl⟩
        have hi2 : i < ds.length := by rw [ly] at hi; omega
        obtain ⟨vx, gx, px⟩ := dpa_at dx (List.getElem?_eq_getElem hi2)
        obtain ⟨vy, gy, py⟩ := dpa_at dy (List.getElem?_eq_getElem hi2)
        have hm : ds[i] ∈ ds := List.getElem_mem hi2
        refine ⟨rfl, ?_⟩
        refine ⟨_, rfl, _, rfl, .inl ⟨xa, _, _, _, rfl, rfl, Same.seq e2 hxs, atI_of gx (by omega), ?_⟩⟩
        refine ⟨_, rfl, _, rfl, .inl ⟨ya, _, _, _, rfl, rfl, Same.seq e2 hys, atI_of gy (by omega), ?_⟩⟩
        refine ⟨vx, vy, ds[i], rfl, dp_same e2 px, dp_same e2 py, hFs _ hm, by have := depth_mem hm; omega, fun H3 s3 => ?_⟩
        exact ⟨true, rfl, iteF ⟨s3 _ _ e1, e2.trans s3⟩⟩
      · rintro H2 ⟨e1, e2⟩
        refine ⟨(by show 0 ≤ sizeLine; decide), fun E' hE => ?_⟩
        have sE := same_new hE (.lst [])
        refine ⟨.list [], .list [], .lst (.inl (.inl (sE _ _ e1))) .nil, .lst (.inl (.inl upd_same)) .nil, by decide +kernel, by decide +kernel, ?_⟩
        exact q _ (e2.trans sE)
    | tuple ds =>
      cases hx with
      | @tup xa xs _ hxs dx =>
      cases hy with
      | @tup ya ys _ hys dy =>
      cases hF with
      | tup hlen hFs =>
      have lx := dpa_len dx
      have ly := dpa_len dy
      have hd' : PyData.depthAll ds + 1 < n + 1 := hd
      refine ⟨_, rfl, (by show 2 ≤ sizeLine; decide), fun N hN => ?_⟩
      have sN := same_new hN (.tup [.ty "tuple", .ty "list"])
      refine ⟨_, N, _, .type "tuple", _, true, rfl, upd_same, clsTL, ty_tup (Same.seqT sN hys), kit2 (by decide +kernel) (by decide +kernel), true, rfl, iteT ?_⟩
      refine ⟨_, rfl, _, _, .type "tuple", _, true, rfl, ClsV.ty _, ty_tup (Same.seqT sN hxs), kit_ty (by decide +kernel), _, rfl, _, _, .type "tuple", _, true, rfl, ClsV.ty _, ty_tup (Same.seqT sN hys), kit_ty (by decide +kernel), rfl, _, rfl, iteF ?_⟩
      refine ⟨_, rfl, (by show 2 ≤ sizeLine; decide), fun M hM => ?_⟩
      have sM := sN.trans (same_new hM (.tup [.ty "tuple", .ty "list"]))
      refine ⟨_, M, _, .type "tuple", _, true, rfl, upd_same, clsTL, ty_tup (Same.seqT sM hxs), kit2 (by decide +kernel) (by decide +kernel), true, rfl, iteF ?_⟩
      refine ⟨_, rfl, _, _, rfl, .inr ⟨_, Same.seqT sM hxs, rfl⟩, _, rfl, _, _, rfl, .inr ⟨_, Same.seqT sM hys, rfl⟩, rfl, _, rfl, ?_⟩
      rw [lx, ly, decide_eq_true rfl]
      refine iteF ?_
      refine ⟨_, rfl, _, _, rfl, .inr ⟨_, Same.seqT sM hys, rfl⟩, _, rfl, by omega, by rw [ly]; omega, fun D hD => ?_⟩
      refine lc_it (walk_range) (fun i H2 => H2 D = some (.lst []) ∧ Same H H2) ?_ (fun _ _ _ _ => trivial) ?_ ?_
      · exact ⟨upd_same, sM.trans (same_new hD _)⟩
      · rintro i v H2 H2' hi ⟨e1, e2⟩ ⟨rfl, rfl⟩
        have hi2 : i < ds.length := by rw [ly] at hi; omega
        obtain ⟨vx, gx, px⟩ := dpa_at dx (List.getElem?_eq_getElem hi2)
        obtain ⟨vy, gy, py⟩ := dpa_at dy (List.getElem?_eq_getElem hi2)
        have hm : ds[i] ∈ ds := List.getElem_mem hi2
        refine ⟨rfl, ?_⟩
        refine ⟨_, rfl, _, rfl, .inr (.inl ⟨xa, _, _, _, rfl, rfl, Same.seqT e2 hxs, atI_of gx (by omega), ?_⟩)⟩
        refine ⟨_, rfl, _, rfl, .inr (.inl ⟨ya, _, _, _, rfl, rfl, Same.seqT e2 hys, atI_of gy (by omega), ?_⟩)⟩
        refine ⟨vx, vy, ds[i], rfl, dp_same e2 px, dp_same e2 py, hFs _ hm, by have := depth_mem hm; omega, fun H3 s3 => ?_⟩
        exact ⟨true, rfl, iteF ⟨s3 _ _ e1, e2.trans s3⟩⟩
      · rintro H2 ⟨e1, e2⟩
        refine ⟨(by show 0 ≤ sizeLine; decide), fun E' hE => ?_⟩
        have sE := same_new hE (.lst [])
        refine ⟨.list [], .list [], .lst (.inl (.inl (sE _ _ e1))) .nil, .lst (.inl (.inl upd_same)) .nil, by decide +kernel, by decide +kernel, ?_⟩
        exact q _ (e2.trans sE)
    | dict kvs => cases hF
theorem al_all {f : Addr} {fd : FuncData} (F : Fun K "_law_alike" "_law_alike" sAl f fd) (bG : Binds K fd psAl []) (mG : mg "_law_alike" = some (.ref f)) (B : Bn mg) : ∀ n : Nat, FnOk P w K mg base CX0 n f fd psAl (spAl K n)
  | 0 => by
    have no : ∀ vs H Q E, ¬ spAl K 0 vs H Q E := fun vs H Q E h => by
      obtain ⟨x, y, d, _, _, _, _, hd, _⟩ := h
      exact Nat.not_lt_zero _ hd
    exact ⟨fun vs H Q E h => absurd h (no vs H Q E), fun A outer s H args us vs Q E _ _ _ _ h => absurd h (no vs H Q E)⟩
  | n + 1 => ok_al F (al_all F bG mG B n) bG mG B
end
end Say
namespace Say
open PySem PySem.Spec PyProof.Rows L2
/-- a list of numbers as data -/
theorem dp_nats {K : PySem.W.Frag} {H : Hp} {D : Addr} {ks : List Nat} (h : H D = some (.lst (ks.map fun k => V.int (k : Nat)))) : Dp K H (.ref D) (.list (ks.map fun k => PyData.int (k : Nat))) := .lst (.inl (.inl h)) (dp_ints ks)
theorem few_nats {ks : List Nat} (h : ks.length ≤ 1000) : Few (.list (ks.map fun k => PyData.int (k : Nat))) := by
  refine .lst (by rw [List.length_map]; exact h) fun d hd => ?_
  obtain ⟨k, _, rfl⟩ := List.mem_map.mp hd
  exact .int _
theorem depth_nats : ∀ ks : List Nat, PyData.depthAll (ks.map fun k => PyData.int (k : Nat)) = 0
  | [] => rfl
  | k :: r => by
    show max 0 (PyData.depthAll (r.map fun k => PyData.int (k : Nat))) = 0
    rw [depth_nats r]
    rfl
end Say
namespace Say
open PySem PySem.Spec PyProof.Rows L2
section
variable {P : Program} {w : World} {K : PySem.W.Frag} {mg : Str → Option Value} {base : Heap}
abbrev sRow : Stmt := topS 48
theorem scRow : FnScope ["_law_script", "_law_mixed", "_law_cell"] ["_law_script"] (defScope sRow) := ⟨rfl, rfl, rfl, by decide +kernel, rfl, by decide +kernel, by decide +kernel⟩
def spRow (K : PySem.W.Frag) : Sp := fun vs H Q _ => ∃ (a : Addr) (ns : List Int), vs = [.ref a] ∧ SqL K H a (ns.map V.int) ∧ ns.length ≤ 63 ∧
  ∀ (r : Addr) (H' : Hp), H r = none → Same H H' → RowAt K H' r a ns → Q (.ref r) H'
theorem map_int_get {ns : List Int} {i : Nat} {x : V} (h : (ns.map V.int)[i]? = some x) : ∃ z, x = V.int z := by
  rw [List.getElem?_map] at h
  cases e : ns[i]? with
  | none => rw [e] at h; cases h
  | some z => rw [e] at h; exact ⟨z, (Option.some.inj h).symm⟩
theorem ok_row {f : Addr} {fd : FuncData} {k : Nat} (F : Fun K "_law_row" "_law_row" sRow f fd) : FnOk P w K mg base CX0 (k + 1) f fd ["_law_script"] (spRow K) := by
  refine F.ok scRow (fun vs H Q E h => ?_) (fun cdv A outer s H vs Q E hr h => ?_)
  · obtain ⟨a, ns, rfl, _⟩ := h
    rfl
  · obtain ⟨a, ns, rfl, hS, hle, q⟩ := h
    refine ⟨_, pss_cons (ps_set (i := 1) scRow.nd rfl (.inl rfl) pe_int)
      (pss_cons (ps_for PassesOwn.never rfl (pi_list (pv 0)) (pg_name (i := 2) scRow.nd rfl (.inl rfl))
        (pss_one (ps_set (i := 1) scRow.nd rfl (.inl rfl) (pe_op op_modN (pe_op op_add (pe_op op_add (pe_op op_mul (pv 1) pe_int) (pv 2)) pe_int) pe_int))))
      (pss_one (ps_ret (pe_lst (pa_cons (pv 0) (pa_cons pe_int (pa_cons pe_int (pa_cons (pv 1) pa_nil)))))))), ?_⟩
    refine ⟨_, rfl, a, rfl, ⟨_, hS⟩, for_list (K := K) (a := a) (xs := ns.map V.int) (fun i σ H2 => H2 = H ∧ ∃ (m : Int) (v : Option V), σ = [some (.ref a), some (.int m), v] ∧ 0 ≤ m ∧ m < 2147483647)
      ⟨rfl, 7, none, rfl, by decide, by decide⟩ (fun i σ H2 _ h => by obtain ⟨rfl, _⟩ := h; exact hS) ?_ ?_⟩
    · rintro i x σ H2 hx ⟨rfl, m, v, rfl, h0, h1⟩
      obtain ⟨z, rfl⟩ := map_int_get hx
      refine ⟨_, rfl, _, _, rfl, rfl, .inl ⟨by omega, by omega⟩, _, rfl, _, _, rfl, rfl, _, _, rfl, rfl, _, _, rfl, rfl, (by show (2147483647 : Int) ≠ 0; decide), ?_⟩
      exact ⟨rfl, _, _, rfl, Int.fmod_nonneg_of_pos _ (by decide), Int.fmod_lt_of_pos _ (by decide)⟩
    · rintro σ H2 ⟨rfl, m, v, rfl, h0, h1⟩
      refine ⟨_, rfl, _, rfl, (by show 4 ≤ sizeLine; decide), fun p hp => ?_⟩
      have sm := same_new hp (.lst [.ref a, .int 0, .int 0, .int m])
      exact q p _ hp sm ⟨⟨0, 0, m, upd_same, by decide, h0, h1⟩, sm.seq hS, hle⟩
end
end Say
namespace SrtT
open PySem PySem.Spec PyProof.Rows L2 SrtO
/-- by the first text, then by the second -/
def lexT (p q : Str × Str) : Bool := if p.1 = q.1 then decide (p.2.cps.toList < q.2.cps.toList) else decide (p.1.cps.toList < q.1.cps.toList)
theorem str_of {x y : Str} (h : x.cps.toList = y.cps.toList) : x = y := TL.ext_tl h
theorem lexT_no {p q : Str × Str} : lexT p q = false ↔ (q.1.cps.toList < p.1.cps.toList ∨ (p.1 = q.1 ∧ q.2.cps.toList ≤ p.2.cps.toList)) := by
  unfold lexT
  by_cases h : p.1 = q.1
  · rw [if_pos h]
    constructor
    · intro z
      exact .inr ⟨h, List.not_lt.mp (of_decide_eq_false z)⟩
    · rintro (z | ⟨_, z⟩)
      · rw [h] at z
        exact absurd z (List.lt_irrefl _)
      · exact decide_eq_false (List.not_lt.mpr z)
  · rw [if_neg h]
    constructor
    · intro z
      have le := List.not_lt.mp (of_decide_eq_false z)
      refine .inl ?_
      refine Decidable.byContradiction fun n => h (str_of (List.le_antisymm (List.not_lt.mp n) le))
    · rintro (z | ⟨e, _⟩)
      · exact decide_eq_false (List.not_lt.mpr (List.le_of_lt z))
      · exact absurd e h
theorem lexT_yes {p q : Str × Str} (h : lexT p q = true) : p.1.cps.toList < q.1.cps.toList ∨ (p.1 = q.1 ∧ p.2.cps.toList < q.2.cps.toList) := by
  unfold lexT at h
  by_cases e : p.1 = q.1
  · rw [if_pos e] at h
    exact .inr ⟨e, of_decide_eq_true h⟩
  · rw [if_neg e] at h
    exact .inl (of_decide_eq_true h)
theorem swoT {α : Type} (k : α → Str × Str) : Swo fun v u => lexT (k v) (k u) := by
  refine ⟨fun x y h => ?_, fun x y z h1 h2 => ?_⟩
  · refine lexT_no.mpr ?_
    rcases lexT_yes h with q | ⟨e, q⟩
    · exact .inl q
    · exact .inr ⟨e.symm, List.le_of_lt q⟩
  · refine lexT_no.mpr ?_
    rcases lexT_no.mp h1 with a | ⟨e, a⟩
    · rcases lexT_no.mp h2 with b | ⟨e', b⟩
      · exact .inl (List.lt_trans a b)
      · exact .inl (by rw [e']; exact a)
    · rcases lexT_no.mp h2 with b | ⟨e', b⟩
      · exact .inl (by rw [← e]; exact b)
      · exact .inr ⟨e'.trans e, List.le_trans a b⟩
/-- v is a tuple of the two texts -/
def IsTx (h : Heap) (v : Value) (x y : Str) : Prop := ∃ a o t u n, v = .ref a ∧ h.get? a = some o ∧ o.cls = .type "tuple" ∧ o.data = .seq #[.str x t, .str y u] n
theorem IsTx.keeps {h h' : Heap} {v : Value} {x y : Str} (p : IsTx h v x y) (k : ∀ b o, h.get? b = some o → o.cls = .type "tuple" → h'.get? b = some o) : IsTx h' v x y := by
  obtain ⟨a, o, t, u, n, e, obO, clC, dtD⟩ := p
  exact ⟨a, o, t, u, n, e, k _ _ obO clC, clC, dtD⟩
section
variable {prog : Program} {w : World} {A : Around} {E : Value → Shared → Prop} {s : Shared}
theorem tx_cmp {vs : List Value} {k : Value → Str × Str} (txP : ∀ v ∈ vs, IsTx s.heap v (k v).1 (k v).2) : Cmp prog w A s (tuples' true) (fun p => p.1 ∈ vs) (lt2 fun v u => lexT (k v) (k u)) := by
  intro p q hm hm'
  have h1 := txP _ hm
  have h2 := txP _ hm'
  show wpAny (model prog w) A (keyLt' (tuples' true) p.1 q.1) (fun r s' => s' = s ∧ r = lexT (k p.1) (k q.1)) (fun _ _ => False) s
  unfold lexT
  generalize (k p.1).1 = x at h1 ⊢
  generalize (k p.1).2 = y at h1 ⊢
  generalize (k q.1).1 = x' at h2 ⊢
  generalize (k q.1).2 = y' at h2 ⊢
  obtain ⟨a, o, t, u, n, e, obO, clC, dtD⟩ := h1
  obtain ⟨a', o', t', u', n', e', ho', hc', hd'⟩ := h2
  rw [e, e']
  refine PySem.W.kat_lt obO dtD ho' hd' ?_
  show PySem.W.KatLex prog w A true (decide (2 < 2)) _ [(.str x t, .str x' t'), (.str y u, .str y' u')] 0 s
  refine PySem.W.kat_cons (SeqAt.EqAt.str_str x t x' t' prog w _ _ ?_)
  refine PySem.W.kat_go (fun q1 => ?_) (fun q1 => ?_)
  · have ex : x = x' := by simpa using q1
    refine PySem.W.kat_yes (PySem.W.kat_cons (SeqAt.EqAt.str_str y u y' u' prog w _ _ ?_))
    refine PySem.W.kat_go (fun q2 => ?_) (fun q2 => ?_)
    · have ey : y = y' := by simpa using q2
      have q3 : (if x = x' then decide (y.cps.toList < y'.cps.toList) else decide (x.cps.toList < x'.cps.toList)) = false := by
        rw [if_pos ex, ey]
        exact decide_eq_false (List.lt_irrefl _)
      exact PySem.W.kat_yes (PySem.W.kat_nil ⟨rfl, q3.symm⟩)
    · have q3 : (if x = x' then decide (y.cps.toList < y'.cps.toList) else decide (x.cps.toList < x'.cps.toList)) = decide (y.cps.toList < y'.cps.toList) := if_pos ex
      refine PySem.W.kat_no (PySem.W.kat_one _ _ (PyProof.Rows.lt_str ?_))
      exact (show s = s ∧ decide (y.cps.toList < y'.cps.toList) = (if x = x' then decide (y.cps.toList < y'.cps.toList) else decide (x.cps.toList < x'.cps.toList)) from ⟨rfl, q3.symm⟩)
  · have ex : ¬ x = x' := by simpa using q1
    have q3 : (if x = x' then decide (y.cps.toList < y'.cps.toList) else decide (x.cps.toList < x'.cps.toList)) = decide (x.cps.toList < x'.cps.toList) := if_neg ex
    exact PySem.W.kat_no (oneLt_str ⟨rfl, q3.symm⟩)
theorem firsts_tx {h : Heap} : ∀ {vs : List Value}, (∀ v ∈ vs, ∃ x y, IsTx h v x y) → ∃ fs, PySem.W.KatTups h vs fs ∧ fs.length = vs.length ∧ ∀ f ∈ fs, ∃ x t, f = Value.str x t
  | [], _ => ⟨[], trivial, rfl, fun _ h => nomatch h⟩
  | v :: vs, txP => by
    obtain ⟨x, y, a, o, t, u, n, rfl, obO, clC, dtD⟩ := txP v (List.mem_cons_self ..)
    obtain ⟨fs, h1, h2, h3⟩ := firsts_tx (vs := vs) fun v inV => txP v (List.mem_cons_of_mem _ inV)
    refine ⟨.str x t :: fs, .cons obO clC dtD rfl h1, by simp [h2], fun f fresh0 => ?_⟩
    rcases List.mem_cons.mp fresh0 with rfl | fresh0
    · exact ⟨_, _, rfl⟩
    · exact h3 f fresh0
theorem tx_sortable {a : Addr} {vs : List Value} {k : Value → Str × Str} (h0 : 0 < vs.length) (txP : ∀ v ∈ vs, IsTx s.heap v (k v).1 (k v).2) (atA : ∀ o, s.heap.get? a = some o → o.cls ≠ .type "tuple") : SortableO prog w A s a vs fun v u => lexT (k v) (k u) := by
  intro h' keep
  have hp' : ∀ v ∈ vs, IsTx h' v (k v).1 (k v).2 := fun v hm => (txP v hm).keeps fun b o e c => keep b o (fun z => by subst z; exact atA o e c) e
  obtain ⟨fs, h1, h2, h3⟩ := firsts_tx fun v hm => ⟨_, _, hp' v hm⟩
  refine ⟨tuples' true, fun Q E isT => ?_, tx_cmp hp'⟩
  refine PySem.W.kat_kind (T := .type "str") h1 (by omega) (fun f hm => ?_) (by rfl) ?_
  · obtain ⟨x, t, rfl⟩ := h3 f hm
    exact PySem.W.Looks.now
  · have e : (Value.type "str" != Value.type "tuple") = true := by first | decide +kernel | rfl | decide
    rw [e]
    exact isT
end
/-- the texts of a tuple of two -/
def txOf (h : Heap) (v : Value) : Str × Str := match v with
  | .ref a => match h.get? a with
    | some o => match o.data with
      | .seq its _ => match its.toList with
        | [.str x _, .str y _] => (x, y)
        | _ => (Str.empty, Str.empty)
      | _ => (Str.empty, Str.empty)
    | none => (Str.empty, Str.empty)
  | _ => (Str.empty, Str.empty)
theorem IsTx.tx {h : Heap} {v : Value} {x y : Str} (p : IsTx h v x y) : txOf h v = (x, y) := by
  obtain ⟨a, o, t, u, n, rfl, obO, clC, dtD⟩ := p
  unfold txOf
  simp only [obO, dtD]
end SrtT
namespace Say
open PySem PySem.Spec PyProof.Rows L2 L2.DX
section
variable {X : Cx}
/-- d.items() of a dict with int and text keys -/
def rItemsK : V → List V → Hp → VK → Prop := fun x xs H Q => ∃ (a : Addr) (kvs : List (Key × V)), x = .ref a ∧ xs = [] ∧ H a = some (.dK kvs) ∧ ∀ p, H p = none → Q (.ref p) (upd H p (itemsO p a))
theorem mt_itemsK : MtR X "dict.items" rItemsK := by
  intro pn s σ H x xs v args Q I rx rxs h
  obtain ⟨a, kvs, rfl, rfl, atA, q⟩ := h
  cases rx
  cases rxs
  obtain ⟨szT, dtD, vs, kv, o, es, ep, obO, atI0, hdat, _⟩ := (show ObjOk X.prog X.w H s.heap a (.dK kvs) from I.hok a _ atA)
  refine DT.callItems (es := es) (ep := ep) dtD ⟨o, obO, atI0, hdat⟩ ?_
  have fresh0 : H s.heap.objs.size = none := I.hok.fresh (Nat.le_refl _)
  exact ⟨.ref s.heap.objs.size, upd H s.heap.objs.size (itemsO s.heap.objs.size a), I.laid (t' := s.toks) (fun b u e => Heap.get?_push_of_some _ e) (Nat.le_refl _) (itemsO_ok (Heap.get?_push_size _ rfl)), rfl, q _ fresh0⟩
abbrev entS (e : Str × Str) : Key × V := (Sum.inr e.1, V.str e.2)
/-- sorted(d.items()), keys and values texts -/
def rSortTx : List V → Hp → VK → Prop := fun vs H Q => ∃ (p a : Addr) (es : List (Str × Str)), vs = [.ref p] ∧ H p = some (itemsO p a) ∧ H a = some (.dK (es.map entS)) ∧ es.length ≤ 1000 ∧
  ∀ (H' : Hp) (l : Addr) (ps : List (Addr × Str × Str)), (∀ b o, H b = some o → H' b = some o) → (ps.map (·.2)).Perm es → (ps.map (·.2)).Pairwise (fun e f => SrtT.lexT f e = false) → H l = none → H' l = some (.lst (ps.map fun z => V.ref z.1)) →
    (∀ z ∈ ps, H' z.1 = some (.tup [.str z.2.1, .str z.2.2])) → Q (.ref l) H'
theorem key_txt {x : Str} {v : Value} (h : keyIs (Sum.inr x : Key) v = true) : ∃ t, v = .str x t := by
  rcases keyIs_shape h with ⟨i, t, e, rfl⟩ | ⟨y, t, e, rfl⟩
  · cases e
  · cases e
    exact ⟨t, rfl⟩
theorem ent_at {P : Program} {w : World} : ∀ {l : List DictEntry} {vs : List (Key × Value)} {ks : List (Str × Str)}, Pairs (mixKind P w) l vs → KV (ks.map entS) vs → Paired (fun (e : DictEntry) (k : Str × Str) => (∃ t, e.key = .str k.1 t) ∧ ∃ u, e.val = .str k.2 u) l ks
  | [], _, ks, .nil, kv => by
    cases ks with
    | nil => exact .nil
    | cons k r => cases kv
  | e :: l, _, ks, .cons h1 h2 h3, kv => by
    cases ks with
    | nil => cases kv
    | cons k r =>
      cases kv with
      | cons g1 g2 =>
        refine .cons ⟨?_, ?_⟩ (ent_at h3 g2)
        · obtain ⟨g3, g4⟩ := g1
          rw [← g3] at h1
          exact key_txt h1
        · rw [h2]
          exact g1.2
def adr : Value → Addr
  | .ref a => a
  | _ => 0
theorem cr_sortedTx (clC : X.calm = true) : CallR X (.builtin "sorted") rSortTx := by
  intro pn s σ H xs args Q I r h
  obtain ⟨p, a, ks, rfl, txP, atA, h64, q⟩ := h
  obtain rfl := Vals.ref1 r
  have vw : s.heap.IsItemsView p a := (show ObjOk X.prog X.w H s.heap p (itemsO p a) from I.hok p _ txP).1
  obtain ⟨szT, dtD, vs, kv, o, es, ep, obO, atI0, hdat, hKo, hPs, hn⟩ := (show ObjOk X.prog X.w H s.heap a (.dK (ks.map entS)) from I.hok a _ atA)
  have ents := ent_at hPs kv
  have l0 : es.size = ks.length := by rw [← Array.length_toList]; exact paired_len ents
  have noH : X.A.handled = none := I.ok.hd clC
  refine DT.sortedI (es := es) (ep := ep) noH vw ⟨o, obO, atI0, hdat⟩ (by rw [sizeLine_eq]; omega) fun h' tkn adrs kpT ltN lnT mdG => ?_
  have lenA : adrs.length = ks.length := by omega
  have nodupA : adrs.Nodup := List.Pairwise.imp (fun h => Nat.ne_of_lt h) mdG.rise
  have prs : ∀ (j : Nat) (b : Addr), adrs[j]? = some b → ∃ (e : Str × Str) (t u : Tok), ks[j]? = some e ∧ h'.get? b = some { cls := .type "tuple", data := .seq #[Value.str e.1 t, Value.str e.2 u] } := by
    intro j b atJ
    obtain ⟨en', hEn, gW⟩ := mdG.pairs j b atJ
    rw [← Array.getElem?_toList] at hEn
    obtain ⟨e, q1, ⟨t, q2⟩, ⟨u, q3⟩⟩ := paired_at ents hEn
    exact ⟨e, t, u, q1, by rw [gW, q2, q3]⟩
  have atL : (h'.push { cls := .type "list", data := .seq (adrs.map Value.ref).toArray }).get? h'.objs.size = some (seqObj "list" (adrs.map Value.ref).toArray 0) := Heap.get?_push_size _ rfl
  have kpS : ∀ b o, s.heap.get? b = some o → (h'.push { cls := .type "list", data := .seq (adrs.map Value.ref).toArray }).get? b = some o := fun b o e => Heap.get?_push_of_some _ (kpT b o e)
  have neL : ∀ b o, h'.get? b = some o → b ≠ h'.objs.size := fun b o e => Nat.ne_of_lt (Heap.lt_size e)
  generalize hh2 : h'.push { cls := .type "list", data := .seq (adrs.map Value.ref).toArray } = h2 at atL kpS ⊢
  have kpM : ∀ b o, h'.get? b = some o → h2.get? b = some o := fun b o e => by rw [← hh2]; exact Heap.get?_push_of_some _ e
  have pin : ∀ (j : Nat) (b : Addr) (e : Str × Str), adrs[j]? = some b → ks[j]? = some e → SrtT.IsTx h2 (.ref b) e.1 e.2 := by
    intro j b e atJ hEn
    obtain ⟨e', t, u, he', gW⟩ := prs j b atJ
    cases he'.symm.trans hEn
    exact ⟨b, _, t, u, 0, rfl, kpM _ _ gW, rfl, rfl⟩
  have allTx : ∀ v ∈ adrs.map Value.ref, SrtT.IsTx h2 v (SrtT.txOf h2 v).1 (SrtT.txOf h2 v).2 := by
    intro v hv'
    obtain ⟨b, hb, rfl⟩ := List.mem_map.mp hv'
    obtain ⟨j, atJ⟩ := List.mem_iff_getElem?.mp hb
    obtain ⟨e, t, u, hEn, _⟩ := prs j b atJ
    have := pin j b e atJ hEn
    rw [this.tx]
    exact this
  have mapTx : (adrs.map Value.ref).map (SrtT.txOf h2) = ks := by
    refine List.ext_getElem? fun j => ?_
    rw [List.getElem?_map, List.getElem?_map]
    cases atJ : adrs[j]? with
    | none =>
      have := List.getElem?_eq_none_iff.mp atJ
      rw [List.getElem?_eq_none (by omega)]
      rfl
    | some b =>
      obtain ⟨e, t, u, hEn, _⟩ := prs j b atJ
      rw [hEn]
      show some (SrtT.txOf h2 (.ref b)) = some e
      rw [(pin j b e atJ hEn).tx]
  refine wpAny_call_entry PyProof.Rows.slot_list_sort ⟨_, atL, rfl⟩ PyProof.Rows.entry_list_sort
    (SrtO.list_sort_ord (s := { s with heap := h2, toks := tkn }) (SrtT.swoT (SrtT.txOf h2)) atL (by rw [List.length_map, sizeLine_eq]; omega) (fun h2' => SrtT.tx_sortable (by omega) allTx fun o e => ?_) fun out o1 o2 => ⟨.none, rfl, ?_⟩) (PyProof.Rows.args_list_sort _)
  · have e : h2.get? h'.objs.size = some o := e
    rw [atL] at e
    cases e
    intro c
    exact absurd (Value.type.inj c) (by decide)
  · show EP X pn σ Q (.ref h'.objs.size) { s with heap := sortedHeap h2 h'.objs.size (adrs.map Value.ref) out.toArray, toks := tkn }
    have hrf : ∀ v ∈ out, v = .ref (adr v) := fun v inV => by
      obtain ⟨b, _, rfl⟩ := List.mem_map.mp (o2.perm.mem_iff.mp inV)
      rfl
    have kpF : ∀ b o, b ≠ h'.objs.size → h2.get? b = some o → (sortedHeap h2 h'.objs.size (adrs.map Value.ref) out.toArray).get? b = some o := fun b o hb e => (PyProof.Rows.sortedHeap_old hb (Heap.lt_size e)).trans e
    have kpAll : ∀ b o, s.heap.get? b = some o → (sortedHeap h2 h'.objs.size (adrs.map Value.ref) out.toArray).get? b = some o := fun b o e => kpF b o (neL _ _ (kpT b o e)) (kpS b o e)
    obtain ⟨sdF, atF⟩ := PyProof.Rows.sortedHeap_at (vs := adrs.map Value.ref) (out := out.toArray) atL
    have I1 : Inv X pn σ H { s with heap := sortedHeap h2 h'.objs.size (adrs.map Value.ref) out.toArray, toks := tkn } := I.kept (t' := tkn) kpAll
    have noL : H h'.objs.size = none := I.hok.fresh (Nat.le_of_lt ltN)
    have prm : ((out.map fun v => (adr v, SrtT.txOf h2 v)).map (·.2)).Perm ks := by
      have e := o2.perm.map (SrtT.txOf h2)
      rw [mapTx] at e
      rw [List.map_map]
      exact e
    have srtd0 : ((out.map fun v => (adr v, SrtT.txOf h2 v)).map (·.2)).Pairwise (fun e f => SrtT.lexT f e = false) := by
      rw [List.map_map, List.pairwise_map]
      exact o1
    have len0 : ((out.map fun v => (adr v, SrtT.txOf h2 v)).map fun z => V.ref z.1).length ≤ sizeLine := by
      have e := prm.length_eq
      rw [List.length_map] at e
      rw [List.length_map, sizeLine_eq]
      omega
    have rel : ∀ l : List Value, (∀ v ∈ l, v = .ref (adr v)) → Vals ((l.map fun v => (adr v, SrtT.txOf h2 v)).map fun z => V.ref z.1) l := by
      intro l
      induction l with
      | nil => intro _; exact .nil
      | cons v l ih =>
        intro inV
        refine .cons ?_ (ih fun u getU => inV u (List.mem_cons_of_mem _ getU))
        have := inV v (List.mem_cons_self ..)
        exact this
    have I2 : Inv X pn σ (upd H h'.objs.size (.lst ((out.map fun v => (adr v, SrtT.txOf h2 v)).map fun z => V.ref z.1))) { s with heap := sortedHeap h2 h'.objs.size (adrs.map Value.ref) out.toArray, toks := tkn } :=
      I1.take (h' := sortedHeap h2 h'.objs.size (adrs.map Value.ref) out.toArray) (t' := tkn) (fun b ob _ e => e) (I.fpOk (Nat.le_of_lt ltN) noL) ⟨len0, out, sdF, rel out hrf, atF⟩
    obtain ⟨H2, I3, g, tps⟩ := takeT (P := fun b vs => ∃ (j : Nat) (e : Str × Str), adrs[j]? = some b ∧ ks[j]? = some e ∧ vs = [.str e.1, .str e.2]) I adrs _ I2 nodupA fun b hb => by
      obtain ⟨j, atJ⟩ := List.mem_iff_getElem?.mp hb
      obtain ⟨e, t, u, hEn, gW⟩ := prs j b atJ
      have geB : s.heap.objs.size ≤ b := Nat.le_of_lt (mdG.above b hb)
      refine ⟨geB, ?_, [.str e.1, .str e.2], ⟨j, e, atJ, hEn, rfl⟩, fun H3 => ⟨(by rw [sizeLine_eq]; show 2 ≤ 16777216; omega), [Value.str e.1 t, Value.str e.2 u], .cons ⟨t, rfl⟩ (.cons ⟨u, rfl⟩ .nil), ⟨_, kpF _ _ (neL _ _ gW) (kpM _ _ gW), rfl, 0, rfl⟩⟩⟩
      rw [upd_ne (neL _ _ gW)]
      exact I.hok.fresh geB
    have grow : ∀ b o, H b = some o → H2 b = some o := fun b o e => g b o (by rw [upd_ne (ne_of_none e noL)]; exact e)
    refine ⟨.ref h'.objs.size, H2, I3, rfl, q H2 h'.objs.size _ grow prm srtd0 noL (g _ _ upd_same) fun z' hz' => ?_⟩
    obtain ⟨v, inV, rfl⟩ := List.mem_map.mp hz'
    obtain ⟨b, hb, e⟩ := List.mem_map.mp (o2.perm.mem_iff.mp inV)
    subst e
    obtain ⟨vs', ⟨j, e, j1, j2, ev⟩, hH⟩ := tps b hb
    show H2 b = some (.tup [.str (SrtT.txOf h2 (.ref b)).1, .str (SrtT.txOf h2 (.ref b)).2])
    rw [(pin j b e j1 j2).tx, hH, ev]
end
end Say
namespace Say
open PySem PySem.Spec PyProof.Rows L2
/-! ### the exceptions of a dict -/
def ent (e : Exc) : Key × V := (Sum.inr (T e.1), V.str (T e.2))
def putE (es : List Exc) (wd so : List Nat) : List Exc := if (es.any fun e => decide (e.1 = wd)) = true then es.map (fun e => if e.1 = wd then (e.1, so) else e) else es ++ [(wd, so)]
theorem key_eq {a b : List Nat} : ((Sum.inr (T a) : Key) = Sum.inr (T b)) ↔ a = b := ⟨fun h => T_inj (Sum.inr.inj h), fun h => by rw [h]⟩
theorem any_ent (wd : List Nat) : ∀ es : List Exc, ((es.map ent).any fun kv => decide (kv.1 = (Sum.inr (T wd) : Key))) = es.any fun e => decide (e.1 = wd)
  | [] => rfl
  | e :: r => by
    rw [List.map_cons, List.any_cons, List.any_cons, any_ent wd r]
    congr 1
    exact decide_eq_decide.mpr key_eq
theorem put_ent (es : List Exc) (wd so : List Nat) : putK (es.map ent) (Sum.inr (T wd) : Key) (V.str (T so)) = (putE es wd so).map ent := by
  unfold putK putE
  rw [any_ent]
  by_cases c : (es.any fun e => decide (e.1 = wd)) = true
  · rw [if_pos c, if_pos c, List.map_map, List.map_map]
    refine List.map_congr_left fun e _ => ?_
    show (if (ent e).1 = (Sum.inr (T wd) : Key) then ((ent e).1, V.str (T so)) else ent e) = ent (if e.1 = wd then (e.1, so) else e)
    by_cases h : e.1 = wd
    · rw [if_pos h, if_pos (show (ent e).1 = (Sum.inr (T wd) : Key) from key_eq.mpr h)]
      rfl
    · rw [if_neg h, if_neg (show ¬ (ent e).1 = (Sum.inr (T wd) : Key) from fun z => h (key_eq.mp z))]
  · rw [if_neg c, if_neg c, List.map_append]
    rfl
theorem putE_len (es : List Exc) (wd so : List Nat) : (putE es wd so).length ≤ es.length + 1 := by
  unfold putE
  split
  · rw [List.length_map]; omega
  · rw [List.length_append]; exact Nat.le_refl _
theorem putE_ok {L : List Nat} {es : List Exc} {wd so : List Nat} (h : ∀ e ∈ es, ExcOk L e) (h1 : ExcOk L (wd, so)) : ∀ e ∈ putE es wd so, ExcOk L e := by
  intro e he
  unfold putE at he
  split at he
  · obtain ⟨e', he', rfl⟩ := List.mem_map.mp he
    by_cases c : e'.1 = wd
    · rw [if_pos c, c]
      exact h1
    · rw [if_neg c]
      exact h e' he'
  · rcases List.mem_append.mp he with he | he
    · exact h e he
    · rw [List.mem_singleton.mp he]
      exact h1
theorem putE_nd {es : List Exc} {wd so : List Nat} (h : (es.map (·.1)).Nodup) : ((putE es wd so).map (·.1)).Nodup := by
  unfold putE
  split
  · rename_i c
    rw [List.map_map]
    have : es.map ((·.1) ∘ fun e : Exc => if e.1 = wd then (e.1, so) else e) = es.map (·.1) := List.map_congr_left fun e _ => by
      show (if e.1 = wd then (e.1, so) else e).1 = e.1
      split <;> rfl
    rw [this]
    exact h
  · rename_i c
    rw [List.map_append]
    refine List.nodup_append.mpr ⟨h, by simp, fun a ha b hb => ?_⟩
    intro z
    refine c (List.any_eq_true.mpr ?_)
    obtain ⟨e, he, rfl⟩ := List.mem_map.mp ha
    have hb : b = wd := by simpa using hb
    exact ⟨e, he, decide_eq_true (by rw [← hb]; exact z)⟩
/-- by its word there is one exception at most -/
theorem one_of {es : List Exc} (h : (es.map (·.1)).Nodup) {e f : Exc} (he : e ∈ es) (hf : f ∈ es) (hw : e.1 = f.1) : e = f := by
  obtain ⟨i, hi⟩ := List.mem_iff_getElem?.mp he
  obtain ⟨j, hj⟩ := List.mem_iff_getElem?.mp hf
  have e1 : (es.map (·.1))[i]? = some e.1 := by rw [List.getElem?_map, hi]; rfl
  have e2 : (es.map (·.1))[j]? = some e.1 := by rw [List.getElem?_map, hj, hw]; rfl
  have := nd_ix h e1 e2
  subst this
  exact Option.some.inj (hi.symm.trans hj)
theorem valV_ent {es : List Exc} (h : (es.map (·.1)).Nodup) {e : Exc} (he : e ∈ es) : valV (es.map ent) (Sum.inr (T e.1) : Key) = some (V.str (T e.2)) := by
  unfold valV
  cases hf : (es.map ent).find? fun kv => decide (kv.1 = (Sum.inr (T e.1) : Key)) with
  | none =>
    have := List.find?_eq_none.mp hf (ent e) (List.mem_map.mpr ⟨e, he, rfl⟩)
    exact absurd (decide_eq_true rfl) this
  | some kv =>
    have h1 := List.find?_some hf
    obtain ⟨f, hfm, rfl⟩ := List.mem_map.mp (List.mem_of_find?_eq_some hf)
    have h2 : f.1 = e.1 := key_eq.mp (of_decide_eq_true h1)
    rw [one_of h hfm he h2]
    rfl
theorem find_ent {es : List Exc} (h : (es.map (·.1)).Nodup) {e : Exc} (he : e ∈ es) : es.find? (fun f => decide (f.1 = e.1)) = some e := by
  cases hf : es.find? fun f => decide (f.1 = e.1) with
  | none => exact absurd (decide_eq_true rfl) (List.find?_eq_none.mp hf e he)
  | some f => rw [one_of h (List.mem_of_find?_eq_some hf) he (of_decide_eq_true (List.find?_some (p := fun f : Exc => decide (f.1 = e.1)) hf))]
/-! ### sorted -/
theorem uniq_sorted {α : Type} {r : α → α → Prop} (as : ∀ a b, r a b → ¬ r b a) : ∀ {l m : List α}, l.Perm m → l.Pairwise r → m.Pairwise r → l = m
  | [], m, p, _, _ => (List.Perm.eq_nil p.symm).symm
  | a :: l, [], p, _, _ => absurd p.length_eq (by simp)
  | a :: l, b :: m, p, h1, h2 => by
    have ha := p.mem_iff.mp (List.mem_cons_self (a := a) (l := l))
    have hb := p.mem_iff.mpr (List.mem_cons_self (a := b) (l := m))
    have e : a = b := by
      rcases List.mem_cons.mp ha with e | ha
      · exact e
      · rcases List.mem_cons.mp hb with e | hb
        · exact e.symm
        · exact absurd ((List.pairwise_cons.mp h1).1 b hb) (as _ _ ((List.pairwise_cons.mp h2).1 a ha))
    subst e
    rw [uniq_sorted as p.cons_inv (List.pairwise_cons.mp h1).2 (List.pairwise_cons.mp h2).2]
theorem lt_asym (a b : List Nat) (h : a < b) : ¬ b < a := List.lt_asymm h
theorem le_of_ltCps {a b : List Nat} (h : ltCps b a = false) : a ≤ b := by
  rw [ltCps_eq] at h
  exact List.not_lt.mp (of_decide_eq_false h)
theorem rising_pw : ∀ (l : List Str) (p : Str), risingS p l = true → (p :: l).Pairwise fun a b => a.cps.toList ≤ b.cps.toList
  | [], p, _ => List.pairwise_singleton _ _
  | x :: r, p, h => by
    have h : (!ltCps x.cps.toList p.cps.toList && risingS x r) = true := h
    rw [Bool.and_eq_true] at h
    have ih := rising_pw r x h.2
    have px : p.cps.toList ≤ x.cps.toList := le_of_ltCps (by simpa using h.1)
    refine List.pairwise_cons.mpr ⟨fun y hy => ?_, ih⟩
    rcases List.mem_cons.mp hy with rfl | hy
    · exact px
    · exact List.le_trans px ((List.pairwise_cons.mp ih).1 y hy)
theorem sortedS_pw : ∀ {l : List Str}, sortedS l = true → l.Pairwise fun a b => a.cps.toList ≤ b.cps.toList
  | [], _ => .nil
  | x :: r, h => rising_pw r x h
def wordsS (es : List Exc) : List Str := es.map fun e => T e.1
theorem strict_words {es : List Exc} (up : es.Pairwise fun e f => e.1 < f.1) : (wordsS es).Pairwise fun a b => a.cps.toList < b.cps.toList := by
  unfold wordsS
  rw [List.pairwise_map]
  exact up
theorem strict_of {l : List Str} (h : l.Pairwise fun a b => a.cps.toList ≤ b.cps.toList) (nd : l.Nodup) : l.Pairwise fun a b => a.cps.toList < b.cps.toList := by
  refine List.Pairwise.imp_of_mem (fun {a b} _ _ h => ?_) (List.Pairwise.and h nd)
  obtain ⟨h1, h2⟩ := h
  refine Decidable.byContradiction fun n => h2 (TL.ext_tl (List.le_antisymm h1 (List.not_lt.mp n)))
theorem nd_strict {l : List Str} (h : l.Pairwise fun a b => a.cps.toList < b.cps.toList) : l.Nodup := by
  refine List.Pairwise.imp (fun {a b} h => ?_) h
  intro z
  rw [z] at h
  exact List.lt_irrefl _ h
theorem sorted_keys {es es' : List Exc} {ys : List Str} (hp : es'.Perm es) (up : es'.Pairwise fun e f => e.1 < f.1) (hy : ys.Perm (wordsS es)) (hs : sortedS ys = true) : ys = wordsS es' := by
  have s' := strict_words up
  have p2 : ys.Perm (wordsS es') := hy.trans (hp.symm.map fun e : Exc => T e.1)
  exact uniq_sorted (r := fun a b : Str => a.cps.toList < b.cps.toList) (fun a b h => lt_asym _ _ h) p2 (strict_of (sortedS_pw hs) (p2.nodup_iff.mpr (nd_strict s'))) s'
def tt (e : Exc) : Str × Str := (T e.1, T e.2)
def bk (z : Str × Str) : Exc := (z.1.cps.toList, z.2.cps.toList)
theorem tt_bk (z : Str × Str) : tt (bk z) = z := by
  show (T z.1.cps.toList, T z.2.cps.toList) = z
  rw [T_list, T_list]
theorem bk_tt (e : Exc) : bk (tt e) = e := rfl
theorem sort_exc {es : List Exc} (nd : (es.map (·.1)).Nodup) {qs : List (Str × Str)} (hp : qs.Perm (es.map tt)) (hs : qs.Pairwise fun e f => SrtT.lexT f e = false) :
    qs = (qs.map bk).map tt ∧ (qs.map bk).Perm es ∧ (qs.map bk).Pairwise fun e f => e.1 < f.1 := by
  have e1 : qs = (qs.map bk).map tt := by
    rw [List.map_map]
    conv => lhs; rw [← List.map_id qs]
    exact List.map_congr_left fun z _ => (tt_bk z).symm
  have e2 : (qs.map bk).Perm es := by
    have := hp.map bk
    rw [List.map_map] at this
    have e3 : es.map (bk ∘ tt) = es := by
      conv => rhs; rw [← List.map_id es]
      exact List.map_congr_left fun e _ => rfl
    rwa [e3] at this
  refine ⟨e1, e2, ?_⟩
  have nd2 : ((qs.map bk).map (·.1)).Nodup := (e2.map (·.1)).nodup_iff.mpr nd
  rw [List.pairwise_map]
  have nd3 : qs.Pairwise fun a b => ¬ (bk a).1 = (bk b).1 := by
    have : ((qs.map bk).map (·.1)).Pairwise (· ≠ ·) := nd2
    rw [List.pairwise_map, List.pairwise_map] at this
    exact this
  refine List.Pairwise.imp_of_mem (fun {a b} _ _ h => ?_) (List.Pairwise.and hs nd3)
  obtain ⟨h1, h2⟩ := h
  rcases SrtT.lexT_no.mp h1 with q | ⟨q, _⟩
  · exact q
  · exact absurd (congrArg (fun z : Str => z.cps.toList) q.symm) h2
end Say
namespace Say
open PySem PySem.Spec PyProof.Rows L2
theorem paired_map {α β γ : Type} {F : α → β → Prop} {f : γ → α} {g : γ → β} : ∀ {l : List γ}, (∀ z ∈ l, F (f z) (g z)) → Paired F (l.map f) (l.map g)
  | [], _ => .nil
  | z :: l, h => .cons (h z (List.mem_cons_self ..)) (paired_map fun y hy => h y (List.mem_cons_of_mem _ hy))
theorem strOk_T {l : List Nat} (h : ∀ c ∈ l, c < 1114112) : PyData.strOk (T l) = true := by
  show l.toArray.all (· < 0x110000) = true
  rw [List.all_toArray, List.all_eq_true]
  intro c hc
  exact decide_eq_true (h c hc)
theorem shaped_two {x y : PyData} (hx : x.canLay0 = true) (hy : y.canLay0 = true) (dx : x.depth = 0) (dy : y.depth = 0) : SeqAt.shaped (.tuple [x, y]) = true := by
  unfold SeqAt.shaped
  rw [Bool.and_eq_true]
  refine ⟨?_, ?_⟩
  · show PyData.canLayAll0 [x, y] = true
    simp [PyData.canLayAll0, hx, hy]
  · refine decide_eq_true ?_
    show PyData.depthAll [x, y] + 1 ≤ 64
    simp [PyData.depthAll, dx, dy]
/-- the row stays where all but a dict does -/
theorem RowAt.stpD {K : PySem.W.Frag} {H H' : Hp} {r a F : Addr} {ns : List Int} {kvs : List (Key × V)} (R : RowAt K H r a ns) (hF : H F = some (.dK kvs)) (e : Stp F H H') : RowAt K H' r a ns := by
  obtain ⟨⟨i', c', m', q', b'⟩, sc, le⟩ := R
  refine ⟨⟨i', c', m', e _ _ q' (ne_of q' hF (by intro z; cases z)), b'⟩, ?_, le⟩
  rcases sc with (sc | ⟨o, sc⟩) | sc
  · exact .inl (.inl (e _ _ sc (ne_of sc hF (by intro z; cases z))))
  · exact .inl (.inr ⟨o, e _ _ sc (ne_of sc hF (by intro z; cases z))⟩)
  · exact .inr sc
end Say
namespace Say
open PySem PySem.Spec PyProof.Rows L2
section
variable {X : Cx}
/-- tuple(xs) of a list: a tuple as it is made -/
theorem call_tupN : CallR X (.type "tuple") (fun xs H Q => ∃ p ys, xs = [.ref p] ∧ SqL X.K H p ys ∧ ∀ (l : Addr) (o : Obj), o.dict = none → H l = none → Q (.ref l) (upd H l (.frz o (.tup ys)))) := by
  intro pins s σ H xs us Q I r h
  obtain ⟨p, ys, rfl, hq, q⟩ := h
  obtain ⟨u, rfl, rx⟩ := vals1 r
  cases rx
  obtain ⟨its, r', pl, hz⟩ := I.list hq
  have hlen := r'.length
  refine call_tuple_list pl.isList (fun h' kp => ?_) (by simp only [List.size_toArray] <;> omega)
  have I1 : Inv X pins σ H { s with heap := h' } := I.kept (t' := s.toks) kp
  have I2 : Inv X pins σ (upd H h'.objs.size (.frz { cls := .type "tuple", data := .seq its.toArray } (.tup ys))) { s with heap := h'.push { cls := .type "tuple", data := .seq its.toArray } } :=
    I1.laid (t' := s.toks) (fun b o e => Heap.get?_push_of_some _ e) (Nat.le_refl _) (show ObjOk X.prog X.w _ _ _ (.frz _ (.tup ys)) from ⟨Heap.get?_push_size _ rfl, hz, its, r', IsTup.new _ _⟩)
  exact ⟨.ref h'.objs.size, _, I2, rfl, q _ _ rfl (I1.hok.fresh (Nat.le_refl _))⟩
theorem pairs_ofT {pins : List (Addr × Obj)} {σ : L2.St} {H : Hp} {s : Shared} (I : L2.Inv X pins σ H s) : ∀ {ps : List Addr} {kvs : List (Key × V)}, Paired (fun p kv => SqT X.K H p [kV kv.1, kv.2]) ps kvs →
    ∃ (prs : List (Key × Value)) (vs : List (Value × Value)), KV kvs prs ∧ prs.length = ps.length ∧ vs.length = ps.length ∧
      ∀ (j : Nat) (k v : Value), vs[j]? = some (k, v) → ∃ (b : Addr) (q : Key), ps[j]? = some b ∧ prs[j]? = some (q, v) ∧ IsTup s.heap b #[k, v] ∧ keyIs q k = true
  | _, _, .nil => ⟨[], [], .nil, rfl, rfl, fun j k v e => by simp at e⟩
  | _, _, .cons (a := p) (b := kv) h t => by
    obtain ⟨prs, vs, r, hl, hl2, hp⟩ := pairs_ofT I t
    obtain ⟨its, rv, ht, _⟩ := I.tuple h
    obtain ⟨u, y, ei, ru, ry⟩ := vals2 rv
    subst ei
    refine ⟨(kv.1, y) :: prs, (u, y) :: vs, .cons ⟨rfl, ry⟩ r, by rw [List.length_cons, List.length_cons, hl], by rw [List.length_cons, List.length_cons, hl2], fun j k v e => ?_⟩
    cases j with
    | zero =>
      have e' : (u, y) = (k, v) := Option.some.inj e
      cases e'
      exact ⟨p, kv.1, rfl, rfl, ht, kV_is (P := X.prog) (w := X.w) ru⟩
    | succ j =>
      obtain ⟨b, q, e1, e2, e3⟩ := hp j k v (by simpa using e)
      exact ⟨b, q, by simpa using e1, by simpa using e2, e3⟩
/-- a display, as it is made -/
def tTupN (t : TA) : TE := fun σ H Q => t σ H fun xs H1 => xs.length ≤ sizeLine ∧ ∀ (p : Addr) (o : Obj), o.dict = none → H1 p = none → Q (.ref p) (upd H1 p (.frz o (.tup xs)))
theorem pe_tupN {es : List Expr} {t : TA} {pos : Pos} {x1} (h : PA X es t) : PE X (.Tuple es x1 pos) (tTupN t) := by
  refine ⟨fun pins s σ H Q I hq => ?_⟩
  refine wpAny_Tuple_spliced (thn (h.run pos pins s σ H _ I hq) fun us s1 ⟨xs, H1, I1, r, z, q⟩ => ⟨by rw [← r.length]; exact z, ?_⟩)
  have hf : H1 s1.heap.objs.size = none := I1.hok.fresh (Nat.le_refl _)
  exact ⟨.ref s1.heap.objs.size, upd H1 s1.heap.objs.size (.frz _ (.tup xs)), I1.laid (t' := s1.toks) (fun b u e => Heap.get?_push_of_some _ e) (Nat.le_refl _) ⟨Heap.get?_push_size _ rfl, z, us, r, ⟨_, Heap.get?_push_size _ rfl, rfl, _, rfl⟩⟩, rfl, q _ _ rfl hf⟩
/-- dict(ps) of such a tuple of pairs -/
theorem call_dictT (hcalm : X.calm = true) : CallR X (.type "dict") (fun xs H Q => ∃ (a : Addr) (ps : List Addr) (kvs : List (Key × V)), xs = [.ref a] ∧ TupN H a (ps.map V.ref) ∧ Paired (fun p kv => SqT X.K H p [kV kv.1, kv.2]) ps kvs ∧
    ∀ p, H p = none → Q (.ref p) (upd H p (.dK (mergeK [] kvs)))) := by
  intro pins s σ H xs us Q I r q
  obtain ⟨a, ps, kvs, ex, hq, hp, q⟩ := q
  subst ex
  obtain ⟨u, eu, rx⟩ := vals1 r
  subst eu
  cases rx
  obtain ⟨o, hH, hd⟩ := hq
  obtain ⟨ho, hz, its, rv, ⟨o', ho', hc, n, hdat⟩⟩ : s.heap.get? a = some o ∧ (ps.map V.ref).length ≤ sizeLine ∧ ∃ its : List Value, Vals (ps.map V.ref) its ∧ IsTup s.heap a its.toArray := I.hok _ _ hH
  have eo : o' = o := Option.some.inj (ho'.symm.trans ho)
  subst eo
  have ei := refs_at rv
  subst ei
  rw [List.length_map] at hz
  obtain ⟨prs, vs, rel, hl, hl2, hpr⟩ := pairs_ofT I hp
  refine PySem.call_dict_pairs (knd := mixKind X.prog X.w) (kvs := prs) (PySem.PairArg.tuple a (ps.map Value.ref).toArray (fun j => (ps[j]?).getD 0) vs) (I.ok.hd hcalm) ⟨⟨o', n, ho, hc, hd, hdat⟩, by simp [hl2], fun j k v e => ?_⟩ ⟨by rw [hl, hl2], fun j k v e => ?_⟩ (by rw [hl2]; exact hz) fun h' tk hd' k => ?_
  · obtain ⟨b, q', e1, _, e3, _⟩ := hpr j k v e
    refine ⟨by simp [e1], .inl ?_⟩
    show s.heap.IsTuple ((ps[j]?).getD 0) _
    rw [e1]
    exact e3
  · obtain ⟨b, q', e1, e2, _, e4⟩ := hpr j k v e
    exact ⟨q', e2, e4⟩
  · have hm : (s.heap.objs.size == sysModules) = false := beq_eq_false_iff_ne.mpr (Nat.ne_of_gt I.big)
    have hlen : (mergeK [] kvs).length ≤ sizeLine := by
      refine Nat.le_trans (length_mergeK kvs []) ?_
      rw [List.length_nil, Nat.zero_add, rel.length, hl]
      exact hz
    have k' : ∀ b o, s.heap.get? b = some o → h'.get? b = some o := fun b o e => k b o (by simp) e
    exact ⟨.ref s.heap.objs.size, upd H s.heap.objs.size (.dK (mergeK [] kvs)), I.laid (t' := tk) k' (Nat.le_refl _) (show ObjOk X.prog X.w _ _ _ (.dK (mergeK [] kvs)) from ⟨hlen, hm, merged [] prs, KV.merge rel .nil, hd'⟩), rfl, q _ (I.hok.fresh (Nat.le_refl _))⟩
end
end Say
namespace Say
open PySem PySem.Spec PyProof.Rows L2
def lets : List (List Nat) := [[97, 98], [97, 98, 99], [97, 99], [97, 98, 99, 100]]
section
variable {P : Program} {w : World} {K : PySem.W.Frag} {mg : Str → Option Value} {base : Heap}
abbrev sSide : Stmt := topS 50
theorem scSide : FnScope ["_law_row_here", "_law_letters", "_law_sign"] ["_law_row_here", "_law_letters"] (defScope sSide) := ⟨rfl, rfl, rfl, by decide +kernel, rfl, by decide +kernel, by decide +kernel⟩
def spSide (K : PySem.W.Frag) : Sp := fun vs H Q _ => ∃ (r a : Addr) (ns : List Int) (L : List Nat), vs = [.ref r, .str (T L)] ∧ RowAt K H r a ns ∧ L.length ≤ 4 ∧
  ∀ (z : List Nat) (H' : Hp), z.Sublist (35 :: L) → Stp r H H' → RowAt K H' r a ns → Q (.str (T z)) H'
theorem ok_side {f : Addr} {fd : FuncData} (F : Fun K "_law_side" "_law_side" sSide f fd) (DT : Df P w K mg base "_law_taken" ["_law_row_here", "_law_many"] 1 (spTaken K)) :
    FnOk P w K mg base CX0 2 f fd ["_law_row_here", "_law_letters"] (spSide K) := by
  obtain ⟨fT, fdT, GT, kT, bT, mT⟩ := DT
  refine F.ok scSide (fun vs H Q E h => ?_) (fun cdv A outer s H vs Q E hr h => ?_)
  · obtain ⟨r, a, ns, L, rfl, _⟩ := h
    rfl
  · obtain ⟨r, a, ns, L, rfl, R, hl, q⟩ := h
    refine ⟨_, pss_cons (ps_if (pt_cmpR op_eq (pe_call GT hr (by rfl) mT kT bT .nil pass0 (pa_cons (pv 0) (pa_cons pe_int pa_nil))) pe_int (nomark _)) (pss_one (ps_ret pe_str)) pss_nil)
      (pss_one (ps_ret (pe_join pe_str (pe_lc (own := [("_law_sign", 2)]) (g := gName 2) rfl scSide.nd (pi_str (pe_op op_add_str pe_str (pv 1)))
        (blkOk_by (N := ["_law_row_here", "_law_letters", "_law_sign"]) (sc := defScope sSide) (by decide +kernel)) (fun _ _ _ _ _ => pg_name (i := 2) scSide.nd rfl (.inl rfl))
        (fun _ _ _ _ _ => pts_one (pt_cmpR op_eq (pe_call GT hr (by rfl) mT kT bT .nil pass0 (pa_cons (pv 0) (pa_cons pe_int pa_nil))) pe_int (nomark _))) (fun _ _ _ _ _ => pv 2))))), ?_⟩
    refine ⟨_, rfl, r, a, ns, 2, rfl, R, by decide, by decide, fun k1 H1 h0 h1 s1 R1 => ?_⟩
    refine ⟨rfl, _, rfl, ite2 (fun _ => ?_) (fun _ => ?_)⟩
    · have e := q [] H1 (List.nil_sublist _) s1 R1
      exact e
    refine ⟨⟨_, rfl⟩, _, rfl, _, _, rfl, rfl, (by rw [len_hash, T_len]; exact small (by omega)), ?_⟩
    refine ⟨T (35 :: L), congrArg V.str (hash_app L), fun D hD => ?_⟩
    refine lc_it (walk_str) (fun i H2 => ∃ acc : List Nat, H2 D = some (.lst (sg acc)) ∧ acc.Sublist ((35 :: L).take i) ∧ Stp r H1 H2 ∧ RowIn H2 r a) ?_ (fun _ _ _ _ => trivial) ?_ ?_
    · exact ⟨[], upd_same, List.nil_sublist _, Stp.of (same_new hD _), R1.in.upd (R1.nw hD)⟩
    · rintro i x H2 H2' hi ⟨acc, e1, e2, e3, e4⟩ ⟨rfl, c, hc, rfl⟩
      have hc := T_at hc
      have tk := take_next hc
      refine ⟨rfl, _, rfl, r, a, ns, 2, rfl, R1.of e3 e4, by decide, by decide, fun k2 H3 h0 h1 s2 R2 => ?_⟩
      have e1' := s2.one e1 (R1.nw hD)
      refine ⟨rfl, _, rfl, ite2 (fun _ => ?_) (fun _ => ?_)⟩
      · refine ⟨_, rfl, _, e1', ?_, acc ++ [c], ?_, ?_, (e3.trans s2).put hD _, R2.in.upd (R1.nw hD)⟩
        · have := e2.length_le
          rw [sg_len]
          rw [List.length_take, List.length_cons] at this
          exact small1000 (by omega)
        · rw [upd_same]
          exact congrArg (fun l => some (HO.lst l)) (sg_app acc c)
        · rw [tk]
          exact e2.append (List.Sublist.refl [c])
      · refine ⟨acc, e1', ?_, e3.trans s2, R2.in⟩
        rw [tk]
        exact e2.trans (List.sublist_append_left _ _)
    · rintro H2 ⟨acc, e1, e2, e3, e4⟩
      rw [T_size, List.take_length] at e2
      refine ⟨Str.ofString "", D, (acc.map fun c => [c]).map T, rfl, rfl, .inl (.inl (.inl ?_)), ?_, ?_⟩
      · rw [e1, sg_map]
      · rw [sum_ones]
        have := e2.length_le
        rw [List.length_cons] at this
        show acc.length + _ * 0 ≤ _
        omega
      · rw [show Str.ofString "" = T [] from nil_eq, join_nil, map_single]
        exact q acc H2 e2 (s1.trans e3) (R1.of e3 e4)
end
end Say
namespace Say
open PySem PySem.Spec PyProof.Rows L2
section
variable {P : Program} {w : World} {K : PySem.W.Frag} {mg : Str → Option Value} {base : Heap}
abbrev sText : Stmt := topS 51
theorem scText : FnScope ["_law_row_here", "_law_signs", "_law_fewest", "_law_many", "_law_k"] ["_law_row_here", "_law_signs", "_law_fewest", "_law_many"] (defScope sText) := ⟨rfl, rfl, rfl, by decide +kernel, rfl, by decide +kernel, by decide +kernel⟩
def spText (K : PySem.W.Frag) : Sp := fun vs H Q _ => ∃ (r a : Addr) (ns : List Int) (S : List Nat) (lo hi : Nat), vs = [.ref r, .str (T S), .int lo, .int hi] ∧ RowAt K H r a ns ∧ 0 < S.length ∧ S.length ≤ 100 ∧ lo ≤ hi ∧ hi ≤ 100 ∧
  ∀ (z : List Nat) (H' : Hp), (∀ c ∈ z, c ∈ S) → lo ≤ z.length → z.length ≤ hi → Stp r H H' → RowAt K H' r a ns → Q (.str (T z)) H'
theorem ok_text {f : Addr} {fd : FuncData} (F : Fun K "_law_text" "_law_text" sText f fd) (DT : Df P w K mg base "_law_taken" ["_law_row_here", "_law_many"] 1 (spTaken K)) (ml : mg "len" = none) (mr : mg "range" = none) :
    FnOk P w K mg base CX0 2 f fd ["_law_row_here", "_law_signs", "_law_fewest", "_law_many"] (spText K) := by
  obtain ⟨fT, fdT, GT, kT, bT, mT⟩ := DT
  refine F.ok scText (fun vs H Q E h => ?_) (fun cdv A outer s H vs Q E hr h => ?_)
  · obtain ⟨r, a, ns, S, lo, hi, rfl, _⟩ := h
    rfl
  · obtain ⟨r, a, ns, S, lo, hi, rfl, R, hS0, hS1, hlh, hh, q⟩ := h
    refine ⟨_, pss_one (ps_ret (pe_join pe_str (pe_lc (own := [("_law_k", 4)]) (g := gName 4) rfl scText.nd
        (pi_range1 rfl mr (pa_cons (pe_op op_add (pv 2) (pe_call GT hr (by rfl) mT kT bT .nil pass0 (pa_cons (pv 0) (pa_cons (pe_op op_add (pe_op op_sub (pv 3) (pv 2)) pe_int) pa_nil)))) pa_nil))
        (blkOk_by (N := ["_law_row_here", "_law_signs", "_law_fewest", "_law_many", "_law_k"]) (sc := defScope sText) (by decide +kernel)) (fun _ _ _ _ _ => pg_name (i := 4) scText.nd rfl (.inl rfl))
        (fun _ _ _ _ _ => pts_nil) (fun _ _ _ _ _ => pe_ix ix_str (pv 1) (pe_call GT hr (by rfl) mT kT bT .nil pass0 (pa_cons (pv 0) (pa_cons (pe_callB call_len_str (by rfl) ml PySem.boot_len (pa_cons (pv 1) pa_nil)) pa_nil))) (fun _ _ => rfl))))), ?_⟩
    refine ⟨⟨_, rfl⟩, _, rfl, _, rfl, _, rfl, _, rfl, _, _, rfl, rfl, _, _, rfl, rfl, r, a, ns, _, rfl, R, by omega, by omega, fun k1 H1 h0 h1 s1 R1 => ?_⟩
    refine ⟨_, _, rfl, rfl, (lo : Int) + k1, rfl, by omega, by omega, fun D hD => ?_⟩
    refine lc_it (walk_range) (fun i H2 => ∃ acc : List Nat, H2 D = some (.lst (sg acc)) ∧ acc.length = i ∧ (∀ c ∈ acc, c ∈ S) ∧ Stp r H1 H2 ∧ RowIn H2 r a) ?_ (fun _ _ _ _ => trivial) ?_ ?_
    · exact ⟨[], upd_same, rfl, by simp, Stp.of (same_new hD _), R1.in.upd (R1.nw hD)⟩
    · rintro i x H2 H2' hi' ⟨acc, e1, e2, e3, e4, e5⟩ ⟨rfl, rfl⟩
      refine ⟨rfl, ?_⟩
      refine ⟨_, rfl, _, rfl, _, rfl, _, rfl, (by rw [T_len]; exact small (by omega)), r, a, ns, _, rfl, R1.of e4 e5, (by rw [T_len]; omega), (by rw [T_len]; omega), fun k2 H3 h2 h3 s2 R2 => ?_⟩
      have e1' := s2.one e1 (R1.nw hD)
      rw [T_len] at h3
      have hj : k2.toNat < S.length := by omega
      refine ⟨T S, k2, S[k2.toNat], rfl, rfl, (by rw [T_len]; exact small (by omega)), at_list hj (by omega), ?_⟩
      refine ⟨_, e1', ?_, acc ++ [S[k2.toNat]], ?_, by simp [e2], ?_, (e4.trans s2).put hD _, R2.in.upd (R1.nw hD)⟩
      · rw [sg_len]
        exact small1000 (by omega)
      · rw [upd_same]
        exact congrArg (fun l => some (HO.lst l)) (sg_app acc _)
      · intro c hc
        rcases List.mem_append.mp hc with h | h
        · exact e3 c h
        · rw [List.mem_singleton.mp h]
          exact List.getElem_mem hj
    · rintro H2 ⟨acc, e1, e2, e3, e4, e5⟩
      refine ⟨Str.ofString "", D, (acc.map fun c => [c]).map T, rfl, rfl, .inl (.inl (.inl ?_)), ?_, ?_⟩
      · rw [e1, sg_map]
      · rw [sum_ones]
        show acc.length + _ * 0 ≤ _
        omega
      · rw [show Str.ofString "" = T [] from nil_eq, join_nil, map_single]
        exact q acc H2 e3 (by omega) (by omega) (s1.trans e4) (R1.of e4 e5)
end
end Say
namespace Say
open PySem PySem.Spec PyProof.Rows L2
section
variable {P : Program} {w : World} {K : PySem.W.Frag} {mg : Str → Option Value} {base : Heap}
abbrev sRule : Stmt := topS 52
theorem scRule : FnScope ["_law_row_here", "_law_letters", "_law_ahead", "_law_own"] ["_law_row_here", "_law_letters"] (defScope sRule) := ⟨rfl, rfl, rfl, by decide +kernel, rfl, by decide +kernel, by decide +kernel⟩
def spRule (K : PySem.W.Frag) : Sp := fun vs H Q _ => ∃ (r a : Addr) (ns : List Int) (L : List Nat), vs = [.ref r, .str (T L)] ∧ RowAt K H r a ns ∧ 0 < L.length ∧ L.length ≤ 4 ∧
  ∀ (ρ : Rule) (t : Addr) (H' : Hp), RuleOk L ρ → H' t = some (.tup ρ.vs) → Stp r H H' → RowAt K H' r a ns → Q (.ref t) H'
theorem AB_eq : Str.ofString "AB" = T [65, 66] := by decide +kernel
theorem AB_ok {z : List Nat} (h : ∀ c ∈ z, c ∈ [65, 66]) : ∀ c ∈ z, 65 ≤ c ∧ c ≤ 90 := fun c hc => by
  have := h c hc
  simp at this
  omega
theorem ok_rule {f : Addr} {fd : FuncData} (F : Fun K "_law_rule" "_law_rule" sRule f fd) (DT : Df P w K mg base "_law_taken" ["_law_row_here", "_law_many"] 1 (spTaken K))
    (DS : Df P w K mg base "_law_side" ["_law_row_here", "_law_letters"] 2 (spSide K)) (DX : Df P w K mg base "_law_text" ["_law_row_here", "_law_signs", "_law_fewest", "_law_many"] 2 (spText K)) :
    FnOk P w K mg base CX0 3 f fd ["_law_row_here", "_law_letters"] (spRule K) := by
  obtain ⟨fT, fdT, GT, kT, bT, mT⟩ := DT
  obtain ⟨fS, fdS, GS, kS, bS, mS⟩ := DS
  obtain ⟨fX, fdX, GX, kX, bX, mX⟩ := DX
  refine F.ok scRule (fun vs H Q E h => ?_) (fun cdv A outer s H vs Q E hr h => ?_)
  · obtain ⟨r, a, ns, L, rfl, _⟩ := h
    rfl
  · obtain ⟨r, a, ns, L, rfl, R, hl0, hl, q⟩ := h
    have hr1 : Room 1 _ := hr.mono (by decide)
    refine ⟨_, pss_cons (ps_par (i := 2) (j := 3) (by rfl) scRule.nd rfl rfl (by decide) rfl rfl (pa_cons (pe_call GS hr (by rfl) mS kS bS .nil pass0 (pa_cons (pv 0) (pa_cons (pv 1) pa_nil)))
          (pa_cons (pe_call GX hr (by rfl) mX kX bX .nil pass0 (pa_cons (pv 0) (pa_cons (pv 1) (pa_cons pe_int (pa_cons pe_int pa_nil))))) pa_nil)) (by rfl))
      (pss_one (ps_ret (pe_tup (pa_cons (pv 2) (pa_cons (pv 3) (pa_cons (pe_call GS hr (by rfl) mS kS bS .nil pass0 (pa_cons (pv 0) (pa_cons (pv 1) pa_nil)))
        (pa_cons (pe_call GX hr (by rfl) mX kX bX .nil pass0 (pa_cons (pv 0) (pa_cons pe_str (pa_cons pe_int (pa_cons (pe_ix ix_list (pe_lst (pa_cons pe_int (pa_cons pe_int (pa_cons pe_int pa_nil)))) (pe_call GT hr1 (by rfl) mT kT bT .nil pass0 (pa_cons (pv 0) (pa_cons pe_int pa_nil))) (fun _ _ => rfl)) pa_nil))))) pa_nil))))))), ?_⟩
    refine ⟨_, rfl, _, rfl, r, a, ns, L, rfl, R, hl, fun ah H1 o1 s1 R1 => ?_⟩
    refine ⟨_, rfl, _, rfl, r, a, ns, L, 1, 2, rfl, R1, hl0, by omega, by decide, by decide, fun ow H2 o2 o3 o4 s2 R2 => ?_⟩
    refine ⟨_, _, rfl, ?_⟩
    refine ⟨_, rfl, _, rfl, _, rfl, _, rfl, r, a, ns, L, rfl, R2, hl, fun be H3 o5 s3 R3 => ?_⟩
    refine ⟨_, rfl, (by show 3 ≤ sizeLine; decide), fun p hp => ?_⟩
    have sm := same_new hp (.lst [V.int 1, .int 1, .int 3])
    refine ⟨_, rfl, r, a, ns, 3, rfl, R3.stp sm, by decide, by decide, fun k1 H4 h0 h1 s4 R4 => ?_⟩
    have hL : SqL K H4 p [V.int 1, .int 1, .int 3] := .inl (.inl (s4 _ _ upd_same (R3.nw hp).symm))
    have s34 := (Stp.of sm).trans s4
    have fin : ∀ m : Nat, m ≤ 3 → ∀ (so : List Nat) (H5 : Hp), (∀ c ∈ so, c ∈ [65, 66]) → 0 ≤ so.length → so.length ≤ m → Stp r H4 H5 → RowAt K H5 r a ns → 
        (4 ≤ sizeLine ∧ ∀ t, H5 t = none → Q (.ref t) (upd H5 t (.tup [.str (T ah), .str (T ow), .str (T be), .str (T so)]))) := fun m hm so H5 o6 _ o7 s5 R5 =>
      ⟨by decide, fun t ht => q ⟨ah, ow, be, so⟩ t _ ⟨o1, o2, o3, o4, o5, AB_ok o6, by show so.length ≤ 3; omega⟩ upd_same (s1.trans (s2.trans (s3.trans (s34.trans (s5.trans (Stp.of (same_new ht _))))))) (R5.stp (same_new ht _))⟩
    have hk : k1 = 0 ∨ k1 = 1 ∨ k1 = 2 := by omega
    rcases hk with e | e | e
    · exact ⟨p, _, k1, V.int 1, rfl, rfl, hL, at_of (j := 0) e rfl, r, a, ns, [65, 66], 0, 1, by rw [AB_eq]; rfl, R4, by decide, by decide, by decide, by decide, fin 1 (by decide)⟩
    · exact ⟨p, _, k1, V.int 1, rfl, rfl, hL, at_of (j := 1) e rfl, r, a, ns, [65, 66], 0, 1, by rw [AB_eq]; rfl, R4, by decide, by decide, by decide, by decide, fin 1 (by decide)⟩
    · exact ⟨p, _, k1, V.int 3, rfl, rfl, hL, at_of (j := 2) e rfl, r, a, ns, [65, 66], 0, 3, by rw [AB_eq]; rfl, R4, by decide, by decide, by decide, by decide, fin 3 (by decide)⟩
abbrev sRules : Stmt := topS 53
theorem scRules : FnScope ["_law_row_here", "_law_letters", "_law_most", "_law_found", "_law_letter", "_law_k"] ["_law_row_here", "_law_letters", "_law_most"] (defScope sRules) := ⟨rfl, rfl, rfl, by decide +kernel, rfl, by decide +kernel, by decide +kernel⟩
def spRules (K : PySem.W.Frag) : Sp := fun vs H Q _ => ∃ (r a : Addr) (ns : List Int) (L : List Nat) (n : Nat), vs = [.ref r, .str (T L), .int n] ∧ RowAt K H r a ns ∧ 0 < L.length ∧ L.length ≤ 4 ∧ n ≤ 20 ∧
  ∀ (rs : List Rule) (R : Addr) (H' : Hp), (∀ ρ ∈ rs, RuleOk L ρ) → rs.length ≤ n + L.length → RulesAt H' R rs → Stp r H H' → RowAt K H' r a ns → Q (.ref R) H'
theorem ok_rules {f : Addr} {fd : FuncData} (F : Fun K "_law_rules" "_law_rules" sRules f fd) (DT : Df P w K mg base "_law_taken" ["_law_row_here", "_law_many"] 1 (spTaken K))
    (DR : Df P w K mg base "_law_rule" ["_law_row_here", "_law_letters"] 3 (spRule K)) (mr : mg "range" = none) (mt : mg "tuple" = none) :
    FnOk P w K mg base CX0 4 f fd ["_law_row_here", "_law_letters", "_law_most"] (spRules K) := by
  obtain ⟨fT, fdT, GT, kT, bT, mT⟩ := DT
  obtain ⟨fR, fdR, GR, kR, bR, mR⟩ := DR
  refine F.ok scRules (fun vs H Q E h => ?_) (fun cdv A outer s H vs Q E hr h => ?_)
  · obtain ⟨r, a, ns, L, n, rfl, _⟩ := h
    rfl
  · obtain ⟨r, a, ns, L, n, rfl, R, hl0, hl, hn, q⟩ := h
    have hr1 : Room 1 _ := hr.mono (by decide)
    refine ⟨_, pss_cons (ps_setLc (i := 3) (own := [("_law_k", 5)]) (g := gName 5) rfl scRules.nd rfl rfl (sw_true rfl rfl rfl (by decide +kernel))
        (pi_range1 rfl mr (pa_cons (pe_call GT hr1 (by rfl) mT kT bT .nil pass0 (pa_cons (pv 0) (pa_cons (pe_op op_add (pv 2) pe_int) pa_nil))) pa_nil))
        (blkOk_by (N := ["_law_row_here", "_law_letters", "_law_most", "_law_found", "_law_letter", "_law_k"]) (sc := defScope sRules) (by decide +kernel)) (fun _ _ _ _ _ => pg_name (i := 5) scRules.nd rfl (.inl rfl))
        (fun _ _ _ _ _ => pts_nil) (fun _ _ _ _ _ => pe_call GR hr (by rfl) mR kR bR .nil pass0 (pa_cons (pv 0) (pa_cons (pv 1) pa_nil))))
      (pss_cons (ps_if (pt_cmpR op_gt (pe_call GT hr1 (by rfl) mT kT bT .nil pass0 (pa_cons (pv 0) (pa_cons pe_int pa_nil))) pe_int (nomark _))
        (pss_one (ps_for PassesOwn.never rfl (pi_str (pv 1)) (pg_name (i := 4) scRules.nd rfl (.inl rfl))
          (pss_one (ps_expr (pe_bm PySem.F.plainAttrs_list PySem.F.slot_list_append PySem.F.type_list_append mt_append (pv 3)
            (pa_cons (pe_tup (pa_cons pe_str (pa_cons (pv 4) (pa_cons pe_str (pa_cons (pe_ix ix_list (pe_lst (pa_cons pe_str (pa_cons pe_str (pa_cons pe_str (pa_cons pe_str pa_nil))))) (pe_call GT hr1 (by rfl) mT kT bT .nil pass0 (pa_cons (pv 0) (pa_cons pe_int pa_nil))) (fun _ _ => rfl)) pa_nil))))) pa_nil)))))) pss_nil)
      (pss_one (ps_ret (pe_callTy call_tuple_of (by rfl) mt (by decide +kernel) (pa_cons (pv 3) pa_nil))))), ?_⟩
    refine ⟨_, rfl, _, rfl, _, _, rfl, rfl, r, a, ns, _, rfl, R, by omega, by omega, fun k1 H1 h0 h1 s1 R1 => ?_⟩
    refine ⟨k1, rfl, by omega, by omega, fun D hD => ?_⟩
    have nD := R1.nw hD
    refine lc_it (walk_range) (fun i H2 => ∃ (ts : List Addr) (rs : List Rule), H2 D = some (.lst (ts.map V.ref)) ∧ Paired (fun t ρ => H2 t = some (.tup (Rule.vs ρ))) ts rs ∧ rs.length = i ∧ (∀ ρ ∈ rs, RuleOk L ρ) ∧ Stp r H1 H2 ∧ RowIn H2 r a) ?_ (fun _ _ _ _ => trivial) ?_ ?_
    · exact ⟨[], [], upd_same, .nil, rfl, by simp, Stp.of (same_new hD _), R1.in.upd nD⟩
    · rintro i x H2 H2' hi' ⟨ts, rs, e1, e2, e3, e4, e5, e6⟩ ⟨rfl, rfl⟩
      refine ⟨rfl, ?_⟩
      refine ⟨_, rfl, _, rfl, r, a, ns, L, rfl, R1.of e5 e6, hl0, hl, fun ρ t H3 o1 o2 s2 R2 => ?_⟩
      have e1' := s2.one e1 nD
      have kt := (s2.kt e6).trans (kt_upd e1' (o := .lst (ts.map V.ref ++ [.ref t])))
      refine ⟨_, e1', ?_, ts ++ [t], rs ++ [ρ], ?_, ?_, by simp [e3], ?_, (e5.trans s2).put hD _, R2.in.upd nD⟩
      · rw [List.length_map, paired_len e2]
        exact small1000 (by omega)
      · rw [upd_same, List.map_append]
        rfl
      · exact paired_app (paired_mono (fun t ρ h => kt.1 _ _ h) e2) (.cons ((kt_upd e1').1 _ _ o2) .nil)
      · intro c hc
        rcases List.mem_append.mp hc with h | h
        · exact e4 c h
        · rw [List.mem_singleton.mp h]
          exact o1
    · rintro H2 ⟨ts, rs, e1, e2, e3, e4, e5, e6⟩
      have e3' : rs.length ≤ n := by omega
      refine ⟨_, rfl, r, a, ns, 4, rfl, R1.of e5 e6, by decide, by decide, fun k2 H3 h2 h3 s2 R2 => ?_⟩
      have e1' := s2.one e1 nD
      have e2' := paired_mono (fun t ρ h => (s2.kt e6).1 _ _ h) e2
      have e5' := e5.trans s2
      -- the end: tuple(found)
      have fin : ∀ (H4 : Hp) (ts : List Addr) (rs : List Rule), H4 D = some (.lst (ts.map V.ref)) → Paired (fun t ρ => H4 t = some (.tup (Rule.vs ρ))) ts rs → rs.length ≤ n + L.length → (∀ ρ ∈ rs, RuleOk L ρ) → Stp r H1 H4 → RowIn H4 r a → ∀ t, H4 t = none → Q (.ref t) (upd H4 t (.tup (ts.map V.ref))) := fun H4 ts rs f1 f2 f3 f4 f5 f6 t ht =>
        q rs t _ f4 f3 ⟨ts, upd_same, paired_mono (fun t ρ h => (kt_new ht).1 _ _ h) f2⟩ (s1.trans (f5.trans (Stp.of (same_new ht _)))) ((R1.of f5 f6).stp (same_new ht _))
      refine ⟨_, _, rfl, rfl, _, rfl, ite2 (fun _ => ?_) (fun _ => ?_)⟩
      · refine ⟨_, rfl, T L, rfl, for_it (walk_str) (fun i σ H4 => ∃ (ts : List Addr) (rs : List Rule) (v : Option V), σ = [some (.ref r), some (.str (T L)), some (.int n), some (.ref D), v, none] ∧ H4 D = some (.lst (ts.map V.ref)) ∧ Paired (fun t ρ => H4 t = some (.tup (Rule.vs ρ))) ts rs ∧ rs.length ≤ n + i ∧ (∀ ρ ∈ rs, RuleOk L ρ) ∧ Stp r H1 H4 ∧ RowIn H4 r a)
          ⟨ts, rs, _, rfl, e1', e2', by omega, e4, e5', R2.in⟩ (fun _ _ _ _ _ => trivial) ?_ ?_⟩
        · rintro i x σ H4 H4' hi' ⟨ts, rs, v, rfl, e1, e2, e3, e4, e5, e6⟩ ⟨rfl, c, hc, rfl⟩
          have hc := T_at hc
          have hi2 : i < L.length := by rw [T_size] at hi'; exact hi'
          have RA := R1.of e5 e6
          refine ⟨_, rfl, .inl ⟨rfl, _, .inl (.inl e1)⟩, _, rfl, (by show 4 ≤ sizeLine; decide), fun p hp => ?_⟩
          have sm := same_new hp (.lst [V.str "A", .str "B", .str "", .str "AB"])
          refine ⟨_, rfl, r, a, ns, 4, rfl, RA.stp sm, by decide, by decide, fun k3 H5 h4 h5 s3 R3 => ?_⟩
          have s3' := (Stp.of sm).trans s3
          have hL : SqL K H5 p [V.str "A", .str "B", .str "", .str "AB"] := .inl (.inl (s3 _ _ upd_same (RA.nw hp).symm))
          have f1 := s3'.one e1 nD
          have kt3 := s3'.kt e6
          have ec : c ∈ L := List.mem_of_getElem? hc
          have ok : ∀ so : List Nat, (∀ c ∈ so, 65 ≤ c ∧ c ≤ 90) → so.length ≤ 3 → RuleOk L ⟨[], [c], [], so⟩ := fun so g1 g2 =>
            ⟨List.nil_sublist _, fun d hd => by rw [List.mem_singleton.mp hd]; exact ec, Nat.le_refl _, by show 1 ≤ 2; decide, List.nil_sublist _, g1, g2⟩
          obtain ⟨so, g1, g2, g3⟩ : ∃ so : List Nat, (∀ c ∈ so, 65 ≤ c ∧ c ≤ 90) ∧ so.length ≤ 3 ∧ atI [V.str "A", .str "B", .str "", .str "AB"] k3 = some (V.str (T so)) := by
            have hk : k3 = 0 ∨ k3 = 1 ∨ k3 = 2 ∨ k3 = 3 := by omega
            rcases hk with e | e | e | e
            · exact ⟨[65], by decide, by decide, at_of (j := 0) e (by decide +kernel)⟩
            · exact ⟨[66], by decide, by decide, at_of (j := 1) e (by decide +kernel)⟩
            · exact ⟨[], by decide, by decide, at_of (j := 2) e (by decide +kernel)⟩
            · exact ⟨[65, 66], by decide, by decide, at_of (j := 3) e (by decide +kernel)⟩
          refine ⟨p, _, k3, V.str (T so), rfl, rfl, hL, g3, (by show 4 ≤ sizeLine; decide), fun t ht => ?_⟩
          have f2 := same_new ht (.tup [.str (Str.ofString ""), .str ⟨#[c]⟩, .str (Str.ofString ""), .str (T so)])
          have f3 := f2 _ _ f1
          have kt4 := (kt3.trans (KT.of f2)).trans (kt_upd f3 (o := .lst (ts.map V.ref ++ [.ref t])))
          refine ⟨D, _, _, rfl, rfl, f3, ?_, ts ++ [t], rs ++ [⟨[], [c], [], so⟩], _, rfl, ?_, ?_, ?_, ?_, ((e5.trans s3').trans (Stp.of f2)).put hD _, ?_⟩
          · rw [List.length_map, paired_len e2]
            exact small1000 (by omega)
          · rw [upd_same, List.map_append]
            rfl
          · refine paired_app (paired_mono (fun t ρ h => kt4.1 _ _ h) e2) (.cons ((kt_upd f3).1 _ _ ?_) .nil)
            rw [upd_same, show Str.ofString "" = T [] from nil_eq]
            rfl
          · rw [List.length_append]
            show rs.length + 1 ≤ n + (i + 1)
            omega
          · intro d hd
            rcases List.mem_append.mp hd with h | h
            · exact e4 d h
            · rw [List.mem_singleton.mp h]
              exact ok so g1 g2
          · exact (R3.stp f2).in.upd nD
        · rintro σ H4 ⟨ts, rs, v, rfl, e1, e2, e3, e4, e5, e6⟩
          rw [T_size] at e3
          exact ⟨_, rfl, D, _, rfl, .inl ⟨.inl (.inl e1), fin H4 ts rs e1 e2 e3 e4 e5 e6⟩⟩
      · exact ⟨_, rfl, D, _, rfl, .inl ⟨.inl (.inl e1'), fin H3 ts rs e1' e2' (by omega) e4 e5' R2.in⟩⟩
end
end Say
namespace Say
open PySem PySem.Spec PyProof.Rows L2 L2.DX
theorem ABD_eq : Str.ofString "ABD" = T [65, 66, 68] := by decide +kernel
theorem ABD_ok {z : List Nat} (h : ∀ c ∈ z, c ∈ [65, 66, 68]) : ∀ c ∈ z, 65 ≤ c ∧ c ≤ 90 := fun c hc => by
  have := h c hc
  simp at this
  omega
theorem RowAt.dput {K : PySem.W.Frag} {H : Hp} {r a F : Addr} {ns : List Int} {kvs : List (Key × V)} (R : RowAt K H r a ns) (hF : H F = some (.dK kvs)) (o : HO) : RowAt K (upd H F o) r a ns :=
  R.stpD hF (stp_at _)
section
variable {P : Program} {w : World} {K : PySem.W.Frag} {mg : Str → Option Value} {base : Heap}
abbrev sLEx : Stmt := topS 54
abbrev nLEx : List Str := ["_law_row_here", "_law_letters", "_law_most", "_law_found", "_law_k"]
theorem scLEx : FnScope nLEx ["_law_row_here", "_law_letters", "_law_most"] (defScope sLEx) := ⟨rfl, rfl, rfl, by decide +kernel, rfl, by decide +kernel, by decide +kernel⟩
def spLEx (K : PySem.W.Frag) : Sp := fun vs H Q _ => ∃ (r a : Addr) (ns : List Int) (L : List Nat) (n : Nat), vs = [.ref r, .str (T L), .int n] ∧ RowAt K H r a ns ∧ LetOk L ∧ n ≤ 8 ∧
  ∀ (es : List Exc) (X : Addr) (H' : Hp), (∀ e ∈ es, ExcOk L e) → es.length ≤ n → (es.Pairwise fun e f => e.1 < f.1) → ExcsAt H' X es → Stp r H H' → RowAt K H' r a ns → Q (.ref X) H'
theorem ok_LEx {f : Addr} {fd : FuncData} (F : Fun K "_law_exceptions" "_law_exceptions" sLEx f fd) (B : Bn mg) (DT : Df P w K mg base "_law_taken" ["_law_row_here", "_law_many"] 1 (spTaken K))
    (DX : Df P w K mg base "_law_text" ["_law_row_here", "_law_signs", "_law_fewest", "_law_many"] 2 (spText K)) : FnOk P w K mg base CX0 3 f fd ["_law_row_here", "_law_letters", "_law_most"] (spLEx K) := by
  obtain ⟨fT, fdT, GT, kT, bT, mT⟩ := DT
  obtain ⟨fX, fdX, GX, kX, bX, mX⟩ := DX
  refine F.ok scLEx (fun vs H Q E h => ?_) (fun cdv A outer s H vs Q E hr h => ?_)
  · obtain ⟨r, a, ns, L, n, rfl, _⟩ := h
    rfl
  · obtain ⟨r, a, ns, L, n, rfl, R, oL, hn, q⟩ := h
    have l2 := oL.l2
    have l4 := oL.l4
    have hu := hu_of hr
    have hr1 : Room 1 _ := hr.mono (by decide)
    refine ⟨_, pss_cons (ps_set (i := 3) scLEx.nd rfl (.inl rfl) pe_dnewK)
      (pss_cons (ps_for PassesOwn.never rfl (pi_range1 rfl B.rng (pa_cons (pe_call GT hr1 (by rfl) mT kT bT .nil pass0 (pa_cons (pv 0) (pa_cons (pe_op op_add (pv 2) pe_int) pa_nil))) pa_nil)) (pg_name (i := 4) scLEx.nd rfl (.inl rfl))
        (pss_one (ps_dput hu (pv 3) (pe_call GX hr (by rfl) mX kX bX .nil pass0 (pa_cons (pv 0) (pa_cons (pv 1) (pa_cons pe_int (pa_cons pe_int pa_nil)))))
          (pe_call GX hr (by rfl) mX kX bX .nil pass0 (pa_cons (pv 0) (pa_cons pe_str (pa_cons pe_int (pa_cons pe_int pa_nil))))) rfl)))
      (pss_one (ps_ret (pe_callTy call_tupN (by rfl) B.tup (by decide +kernel) (pa_cons (pe_callB (cr_sortedTx rfl) (by rfl) B.srt (by decide +kernel)
            (pa_cons (pe_bm0 PySem.F.plainAttrs_dict PySem.F.slot_dict_items PySem.F.type_dict_items mt_itemsK (pv 3)) pa_nil)) pa_nil))))), ?_⟩
    intro D hD
    have nD : D ≠ r := (R.nw hD).symm
    have R1 := R.stp (same_new hD (.dK []))
    have hD1 : (upd H D (.dK [])) D = some (.dK (([] : List Exc).map ent)) := upd_same
    have s1 : Stp r H (upd H D (.dK [])) := .of (same_new hD _)
    generalize upd H D (.dK []) = H1 at R1 hD1 s1 ⊢
    refine ⟨_, rfl, _, rfl, _, _, rfl, rfl, r, a, ns, _, rfl, R1, by omega, by omega, fun k1 H2 h0 h1 s2 R2 => ?_⟩
    refine ⟨k1, rfl, by omega, by omega, for_it (walk_range) (fun i σ H3 => ∃ (es : List Exc) (v4 : Option V), σ = [some (.ref r), some (.str (T L)), some (.int n), some (.ref D), v4] ∧ H3 D = some (.dK (es.map ent)) ∧ (∀ e ∈ es, ExcOk L e) ∧ (es.map (·.1)).Nodup ∧ es.length ≤ i ∧ Stp r H H3 ∧ RowAt K H3 r a ns)
      ⟨[], _, rfl, s2 _ _ hD1 nD, by simp, by simp, Nat.le_refl _, s1.trans s2, R2⟩ (fun _ _ _ _ _ => trivial) ?_ ?_⟩
    · rintro i x σ H3 H3' hi ⟨es, v4, rfl, hD3, hes, hnd, hel, s3, R3⟩ ⟨rfl, rfl⟩
      have hi8 : i < 8 := by omega
      refine ⟨_, rfl, r, a, ns, [65, 66, 68], 0, 5, by rw [ABD_eq]; rfl, R3, by decide, by decide, by decide, by decide, fun so H4 g1 g2 g3 s4 R4 => ?_⟩
      refine ⟨_, rfl, _, rfl, _, rfl, r, a, ns, L, 1, 4, rfl, R4, by omega, by omega, by decide, by decide, fun wd H5 w1 w2 w3 s5 R5 => ?_⟩
      have hD5 := (s4.trans s5) _ _ hD3 nD
      refine ⟨D, _, rfl, DPut.k (k := Sum.inr (T wd)) hD5 (by rw [List.length_map]; exact small1000 (by omega)), ?_⟩
      refine ⟨putE es wd so, _, rfl, by rw [upd_same, put_ent], putE_ok hes ⟨w1, w2, by show wd.length ≤ 8; omega, ABD_ok g1, by show so.length ≤ 36; omega⟩, putE_nd hnd, Nat.le_trans (putE_len _ _ _) (by omega), ?_, R5.dput hD5 _⟩
      exact (s3.trans (s4.trans s5)).put hD _
    · rintro σ H3 ⟨es, v4, rfl, hD3, hes, hnd, hel, s3, R3⟩
      have hln : es.length ≤ n := by omega
      refine ⟨_, rfl, .inr (.inr (.inl ⟨rfl, .inl ⟨_, hD3⟩⟩)), D, _, rfl, rfl, hD3, fun p hp => ?_⟩
      have sp := same_new hp (itemsO p D)
      refine ⟨p, D, es.map tt, rfl, upd_same, by rw [sp _ _ hD3, List.map_map]; rfl, by rw [List.length_map]; omega, fun H4 l ps s4 hperm hpw hln' hll hps => ?_⟩
      have s34 : Same H3 H4 := sp.trans s4
      obtain ⟨pe1, pe2, pe3⟩ := sort_exc hnd hperm hpw
      refine ⟨l, _, rfl, .inl (.inl hll), fun X oX hoX hX => ?_⟩
      have sX := same_new hX (.frz oX (.tup (ps.map fun z => V.ref z.1)))
      refine q ((ps.map (·.2)).map bk) X _ (fun e he => hes e (pe2.mem_iff.mp he)) (by rw [pe2.length_eq]; exact hln) pe3 ⟨ps.map (·.1), ⟨oX, by rw [upd_same, List.map_map]; rfl, hoX⟩, ?_⟩ (s3.trans (.of (s34.trans sX))) (R3.stp (s34.trans sX))
      rw [List.map_map]
      refine paired_map fun z hz => ?_
      have := sX _ _ (hps z hz)
      rw [this]
      show some (HO.tup [V.str z.2.1, V.str z.2.2]) = some (HO.tup [V.str (T z.2.1.cps.toList), V.str (T z.2.2.cps.toList)])
      rw [T_list, T_list]
end
end Say
namespace Say
open PySem PySem.Spec PyProof.Rows L2 L2.DX
instance (rs : List Rule) (k : Nat) (w : List Nat) : Decidable (UsedBy rs k w) := by unfold UsedBy; exact instDecidableAnd
def useF (rs : List Rule) (k : Nat) (l : List (List Nat)) : Option (List Nat) := l.find? fun w => decide (UsedBy rs k w)
/-- the dict of first words -/
def Firsts (rs : List Rule) (kvs : List (Key × V)) (l : List (List Nat)) : Prop := ∀ k : Nat, valV kvs (.inl (k : Int)) = (useF rs k l).map fun w => V.str (T w)
theorem find_next {α : Type} {l : List α} {j : Nat} {x : α} (h : l[j]? = some x) (p : α → Bool) : (l.take (j + 1)).find? p = match (l.take j).find? p with
  | some y => some y
  | none => if p x = true then some x else none := by
  rw [List.take_add_one, h, List.find?_append]
  cases (l.take j).find? p with
  | some y => rfl
  | none =>
    show List.find? p [x] = _
    by_cases c : p x = true
    · simp [c]
    · simp [c]
theorem find_least {L : List Nat} (oL : LetOk L) {n : Nat} {p : List Nat → Bool} {w0 : List Nat} (h : (upto L n).find? p = some w0) : w0 ∈ upto L n ∧ p w0 = true ∧ ∀ w' ∈ upto L n, p w' = true → sle w0 w' := by
  obtain ⟨hp, as, bs, e, ha⟩ := List.find?_eq_some_iff_append.mp h
  have up := upto_up ((rises_iff L).mp oL.up) n
  refine ⟨List.mem_of_find?_eq_some h, hp, fun w' hw' hp' => ?_⟩
  rw [e] at hw' up
  rcases List.mem_append.mp hw' with hw | hw
  · have := ha w' hw
    rw [hp'] at this
    cases this
  · rcases List.mem_cons.mp hw with rfl | hw
    · exact .inl rfl
    · have := (List.pairwise_append.mp up).2.1
      exact .inr ((List.pairwise_cons.mp this).1 w' hw)
/-- what the hunt told, against the first word that was seen -/
theorem first_is {L : List Nat} (oL : LetOk L) {rs : List Rule} {k n : Nat} {w0 : List Nat} {v : V} (h : useF rs k (upto L n) = some w0) (hv : LeastIs rs k L v) : v = .str (T w0) := by
  obtain ⟨f1, f2, f3⟩ := find_least oL h
  have f2 : UsedBy rs k w0 := of_decide_eq_true f2
  rcases hv with ⟨_, g⟩ | ⟨wf, rfl, w1, w2, w3, w4⟩
  · exact absurd f2 (g w0 (mem_upto.mp f1).2)
  · have g1 := w4 w0 (mem_upto.mp f1).2 f2
    have gl : wf.length ≤ n := by
      have := (mem_upto.mp f1).1
      rcases g1 with e | e | ⟨e, _⟩
      · rw [e]; exact this
      · omega
      · omega
    have g2 := f3 wf (mem_upto.mpr ⟨gl, w1⟩) (decide_eq_true w3)
    rw [sle_anti g1 g2]
theorem used_lt {rs : List Rule} {k : Nat} {w : List Nat} (h : UsedBy rs k w) : k < rs.length := by
  obtain ⟨_, h⟩ := h
  obtain ⟨st, hst, rfl⟩ := List.mem_map.mp h
  exact wk_lt _ _ st hst
theorem tails_le3 {L : List Nat} (h3 : L.length ≤ 3) : (tails L).length ≤ 54 := by
  have lv3 : ∀ n, (lv L n).length ≤ 3 ^ n := fun n => by
    induction n with
    | zero => exact Nat.le_refl _
    | succ n ih =>
      have := flat_le (f := fun w => L.map fun c => w ++ [c]) (k := 3) (l := lv L n) fun a _ => by rw [List.length_map]; exact h3
      show ((lv L n).flatMap fun w => L.map fun c => w ++ [c]).length ≤ 3 ^ n * 3
      exact Nat.le_trans this (Nat.mul_le_mul_right 3 ih)
  have u0 : (upto L 0).length = 1 := rfl
  have u1 : (upto L 1).length ≤ (upto L 0).length + 3 := by rw [upto_next (n := 0), List.length_append]; exact Nat.add_le_add_left (lv3 1) _
  have u2 : (upto L 2).length ≤ (upto L 1).length + 9 := by rw [upto_next (n := 1), List.length_append]; exact Nat.add_le_add_left (lv3 2) _
  have u3 : (upto L 3).length ≤ (upto L 2).length + 27 := by rw [upto_next (n := 2), List.length_append]; exact Nat.add_le_add_left (lv3 3) _
  unfold tails
  rw [List.length_cons, List.length_map, List.length_append, List.length_map]
  omega
section
variable {P : Program} {w : World} {K : PySem.W.Frag} {mg : Str → Option Value} {base : Heap}
/-- one word's steps, noted -/
theorem steps_note {rs : List Rule} {kvs kv' : List (Key × V)} {l : List (List Nat)} {j : Nat} {wd : List Nat} (hw : l[j]? = some wd) (h : Firsts rs kvs (l.take j)) (h' : ∀ k : Nat, valV kv' (.inl (k : Int)) = match valV kvs (.inl (k : Int)) with
    | some v => some v
    | none => if UsedBy rs k wd then some (V.str (T wd)) else none) : Firsts rs kv' (l.take (j + 1)) := fun k => by
  rw [h' k, h k]
  unfold useF
  rw [find_next hw]
  cases (l.take j).find? fun w => decide (UsedBy rs k w) with
  | some w0 => rfl
  | none =>
    simp only [Option.map_none, decide_eq_true_eq]
    by_cases c : UsedBy rs k wd
    · rw [if_pos c, if_pos c]; rfl
    · rw [if_neg c, if_neg c]; rfl
end
end Say
namespace Say
open PySem PySem.Spec PyProof.Rows L2 L2.DX
section
variable {P : Program} {w : World} {K : PySem.W.Frag} {mg : Str → Option Value} {base : Heap}
abbrev sLaw : Stmt := topS 60
abbrev nLaw : List Str := ["_law_script", "_law_row_here", "_law_letters", "_law_rules_here", "_law_book", "_law_firsts", "_law_word", "_law_walked", "_law_place", "_law_number", "_law_none", "_law_found", "_law_again"]
theorem scLaw : FnScope nLaw ["_law_script"] (defScope sLaw) := ⟨rfl, rfl, rfl, by decide +kernel, rfl, by decide +kernel, by decide +kernel⟩
theorem ok_law {f : Addr} {fd : FuncData} (F : Fun K "law" "law" sLaw f fd) (B : Bn mg) (DRo : Df P w K mg base "_law_row" ["_law_script"] 1 (spRow K)) (DT : Df P w K mg base "_law_taken" ["_law_row_here", "_law_many"] 1 (spTaken K))
    (DRu : Df P w K mg base "_law_rules" ["_law_row_here", "_law_letters", "_law_most"] 4 (spRules K)) (DEx : Df P w K mg base "_law_exceptions" ["_law_row_here", "_law_letters", "_law_most"] 3 (spLEx K))
    (DWs : Df P w K mg base "_law_words" ["_law_letters", "_law_far"] 1 spLWs) (DLW : Df P w K mg base "_law_walk" ["_law_rules_here", "_law_word"] 2 spLW) (DLU : Df P w K mg base "_law_uses" psLU 3 spLU) (DAl : Df P w K mg base "_law_alike" psAl 2 (spAl K 2))
    (DUs : Df P w K mg base "use" ["book", "number"] 8 spUse) (DId : Df P w K mg base "idle" ["book"] 8 spIdl) :
    FnOk P w K mg base CX0 9 f fd ["_law_script"] (spLaw K) := by
  obtain ⟨fRo, fdRo, GRo, kRo, bRo, mRo⟩ := DRo
  obtain ⟨fT, fdT, GT, kT, bT, mT⟩ := DT
  obtain ⟨fRu, fdRu, GRu, kRu, bRu, mRu⟩ := DRu
  obtain ⟨fLE, fdLE, GLE, kLE, bLE, mLE⟩ := DEx
  obtain ⟨fWs, fdWs, GWs, kWs, bWs, mWs⟩ := DWs
  obtain ⟨fLW, fdLW, GLW, kLW, bLW, mLW⟩ := DLW
  obtain ⟨fLU, fdLU, GLU, kLU, bLU, mLU⟩ := DLU
  obtain ⟨fAl, fdAl, GAl, kAl, bAl, mAl⟩ := DAl
  obtain ⟨fUs, fdUs, GUs, kUs, bUs, mUs⟩ := DUs
  obtain ⟨fId, fdId, GId, kId, bId, mId⟩ := DId
  refine F.ok scLaw (fun vs H Q E h => ?_) (fun cdv A outer s H vs Q E hr h => ?_)
  · obtain ⟨a, ns, rfl, _⟩ := h
    rfl
  · obtain ⟨a, ns, rfl, hS, hle, q⟩ := h
    have hr1 : Room 1 _ := hr.mono (by decide)
    have hr2 : Room 2 _ := hr.mono (by decide)
    have hr3 : Room 3 _ := hr.mono (by decide)
    have hr4 : Room 4 _ := hr.mono (by decide)
    have hr8 : Room 8 _ := hr
    have hu := hu_of hr
    refine ⟨_, pss_cons (ps_set (i := 1) scLaw.nd rfl (.inl rfl) (pe_call GRo hr1 (by rfl) mRo kRo bRo .nil pass0 (pa_cons (pv 0) pa_nil)))
      (pss_cons (ps_set (i := 2) scLaw.nd rfl (.inl rfl) (pe_ix ix_list (pe_lst (pa_cons pe_str (pa_cons pe_str (pa_cons pe_str pa_nil)))) (pe_call GT hr1 (by rfl) mT kT bT .nil pass0 (pa_cons (pv 1) (pa_cons pe_int pa_nil))) (fun _ _ => rfl)))
      (pss_cons (ps_set (i := 3) scLaw.nd rfl (.inl rfl) (pe_call GRu hr4 (by rfl) mRu kRu bRu .nil pass0 (pa_cons (pv 1) (pa_cons (pv 2) (pa_cons pe_int pa_nil)))))
      (pss_cons (ps_set (i := 4) scLaw.nd rfl (.inl rfl) (pe_tup (pa_cons (pv 2) (pa_cons (pv 3) (pa_cons (pe_call GLE hr3 (by rfl) mLE kLE bLE .nil pass0 (pa_cons (pv 1) (pa_cons (pv 2) (pa_cons pe_int pa_nil)))) pa_nil)))))
      (pss_cons (ps_set (i := 5) scLaw.nd rfl (.inl rfl) pe_dnewK)
      (pss_cons (ps_for PassesOwn.never rfl (pi_list (pe_call GWs hr1 (by rfl) mWs kWs bWs .nil pass0 (pa_cons (pv 2) (pa_cons (pe_op op_sub pe_int (pe_op op_fdiv (pe_callB call_len_str (by rfl) B.len PySem.boot_len (pa_cons (pv 2) pa_nil)) pe_int)) pa_nil)))) (pg_name (i := 6) scLaw.nd rfl (.inl rfl)) (pss_cons (ps_set (i := 7) scLaw.nd rfl (.inl rfl) (pe_call GLW hr2 (by rfl) mLW kLW bLW .nil pass0 (pa_cons (pv 3) (pa_cons (pv 6) pa_nil))))
        (pss_one (ps_for PassesOwn.never rfl (pi_list (pe_ifExp (pt_cmpR op_eq (pe_ix ix_tup (pv 7) pe_int (fun _ _ => rfl)) pe_str (nomark _)) (pe_ix ix_tup (pv 7) pe_int (fun _ _ => rfl)) (pe_lst pa_nil))) (pg_tup (by rfl) (pgs_cons (pg_name (i := 8) scLaw.nd rfl (.inl rfl)) (pgs_cons (pg_name (i := 9) scLaw.nd rfl (.inl rfl)) pgs_nil))) (pss_one (ps_expr (pe_dsetd (pv 5) (pv 9) (pv 6) ⟨rfl, rfl, rfl, rfl⟩)))))))
      (pss_cons (ps_set (i := 10) scLaw.nd rfl (.inl rfl) (pe_lst pa_nil))
      (pss_cons (ps_for PassesOwn.never rfl (pi_range1 (by rfl) B.rng (pa_cons (pe_callB call_len (by rfl) B.len PySem.boot_len (pa_cons (pv 3) pa_nil)) pa_nil)) (pg_name (i := 9) scLaw.nd rfl (.inl rfl)) (pss_cons (ps_set (i := 11) scLaw.nd rfl (.inl rfl) (pe_call GUs hr8 (by rfl) mUs kUs bUs .nil pass0 (pa_cons (pv 4) (pa_cons (pv 9) pa_nil))))
        (pss_cons (ps_if (pt_cmpR op_isN (pv 11) pe_non (nomark _)) (pss_one (ps_expr (pe_bm PySem.F.plainAttrs_list PySem.F.slot_list_append PySem.F.type_list_append mt_append (pv 10) (pa_cons (pv 9) pa_nil)))) pss_nil)
        (pss_cons (ps_if (PW.pt (pw_and (pt_cmp (pc_din hu (pv 9) (pv 5))) (pw_and1 (pt_cmpR op_ne (pv 11) (pe_dget hu (pv 5) (pv 9) (fun _ _ => rfl)) (nomark _))))) (pss_one (ps_ret pe_bl)) pss_nil)
        (pss_one (ps_if (PW.pt (pw_and (pt_cmp (pc_dnotin hu (pv 9) (pv 5))) (pw_and (pt_cmpR op_notN (pv 11) pe_non (nomark _)) (pw_and1 (pt_not (pt_val (pe_call GLU hr3 (by rfl) mLU kLU bLU .nil pass0 (pa_cons (pv 3) (pa_cons (pv 11) (pa_cons (pv 9) (pa_cons (pv 2) pa_nil))))))))))) (pss_one (ps_ret pe_bl)) pss_nil))))))
      (pss_cons (ps_for PassesOwn.never rfl (pi_range1 (by rfl) B.rng (pa_cons pe_int pa_nil)) (pg_name (i := 12) scLaw.nd rfl (.inl rfl)) (pss_cons (ps_set (i := 11) scLaw.nd rfl (.inl rfl) (pe_call GId hr8 (by rfl) mId kId bId .nil pass0 (pa_cons (pv 4) pa_nil)))
        (pss_cons (ps_if (pt_not (pt_val (pe_call GAl hr2 (by rfl) mAl kAl bAl .nil pass0 (pa_cons (pv 11) (pa_cons (pv 10) pa_nil))))) (pss_one (ps_ret pe_bl)) pss_nil)
        (pss_one (ps_expr (pe_bm PySem.F.plainAttrs_list PySem.F.slot_list_append PySem.F.type_list_append mt_append (pv 11) (pa_cons pe_int pa_nil)))))))
      (pss_one (ps_ret pe_bl)))))))))), ?_⟩
    refine ⟨_, rfl, a, ns, rfl, hS, hle, fun r H1 hr0 s1 R1 => ?_⟩
    refine ⟨(by show 3 ≤ sizeLine; decide), fun p hp => ?_⟩
    have sm := same_new hp (.lst [V.str "ab", .str "ac", .str "abc"])
    refine ⟨_, rfl, r, a, ns, 3, rfl, R1.stp sm, by decide, by decide, fun k1 H3 h0 h1 s3 R3 => ?_⟩
    have hL : SqL K H3 p [V.str "ab", .str "ac", .str "abc"] := .inl (.inl (s3 _ _ upd_same (R1.nw hp).symm))
    obtain ⟨L, oL, l3, hat⟩ : ∃ L : List Nat, LetOk L ∧ L.length ≤ 3 ∧ atI [V.str "ab", .str "ac", .str "abc"] k1 = some (V.str (T L)) := by
      have hk : k1 = 0 ∨ k1 = 1 ∨ k1 = 2 := by omega
      rcases hk with e | e | e
      · exact ⟨[97, 98], ⟨by decide, by decide, by decide, by decide⟩, by decide, at_of (j := 0) e (by decide +kernel)⟩
      · exact ⟨[97, 99], ⟨by decide, by decide, by decide, by decide⟩, by decide, at_of (j := 1) e (by decide +kernel)⟩
      · exact ⟨[97, 98, 99], ⟨by decide, by decide, by decide, by decide⟩, by decide, at_of (j := 2) e (by decide +kernel)⟩
    refine ⟨p, _, k1, V.str (T L), rfl, rfl, hL, hat, ?_⟩
    have l2 := oL.l2
    refine ⟨_, rfl, _, rfl, r, a, ns, L, 5, rfl, R3, by omega, by omega, by decide, fun rs Ra H4 ho hlen hR s4 R4 => ?_⟩
    refine ⟨_, rfl, _, rfl, _, rfl, _, rfl, r, a, ns, L, 2, rfl, R4, oL, by decide, fun es X H5 hes hel hup hX s5 R5 => ?_⟩
    refine ⟨(by show 3 ≤ sizeLine; decide), fun b hb => ?_⟩
    have sb := same_new hb (.tup [.str (T L), .ref Ra, .ref X])
    have hbo : BookOk L rs es := ⟨oL, ho, by omega, hes, by omega, hup⟩
    have hB6 : BookAt (upd H5 b (.tup [.str (T L), .ref Ra, .ref X])) b L rs es := ⟨Ra, X, upd_same, hR.kt ((R4.kt s5).trans (.of sb)), hX.kt (.of sb)⟩
    have hR6 : RulesAt (upd H5 b (.tup [.str (T L), .ref Ra, .ref X])) Ra rs := hR.kt ((R4.kt s5).trans (.of sb))
    generalize upd H5 b (.tup [.str (T L), .ref Ra, .ref X]) = H6 at hB6 hR6 ⊢
    have hrl : ∀ ρ ∈ rs, RlOk ρ := hbo.rls
    have r9 : rs.length ≤ 8 := by omega
    intro D hD
    have sD := same_new hD (.dK [])
    have hD7 : (upd H6 D (.dK [])) D = some (.dK []) := upd_same
    have hB7 := hB6.kt (.of sD)
    have hR7 := hR6.kt (.of sD)
    generalize upd H6 D (.dK []) = H7 at hD7 hB7 hR7 ⊢
    have e6 : (6 : Int) - ((T L).length : Int) / 3 = ((6 - L.length / 3 : Nat) : Int) := by rw [T_len]; omega
    refine ⟨_, rfl, _, rfl, _, rfl, (by rw [T_len]; exact small (by omega)), _, _, rfl, rfl, ⟨by decide, by decide⟩, _, _, rfl, rfl, L, 6 - L.length / 3, (by show [V.str (T L), V.int ((6 : Int) - ((T L).length : Int) / 3)] = _; rw [e6]), by omega, by omega, fun Wl H8 s8 hW eW => ?_⟩
    have hD8 := s8 _ _ hD7
    have hB8 := hB7.kt (.of s8)
    have hR8 := hR7.kt (.of s8)
    have nWD : Wl ≠ D := (ne_of_none hD7 hW).symm
    have ktS : ∀ {H9 : Hp}, Stp D H8 H9 → KT H8 H9 := fun st => KT.by fun t u h hu => st _ _ h (ne_of h hD8 (by rcases hu with ⟨_, rfl⟩ | ⟨_, _, rfl⟩ <;> (intro z; cases z)))
    have ul : (upto L (6 - L.length / 3)).length ≤ 131072 := upto_le (by omega) (by omega)
    refine ⟨Wl, rfl, ⟨_, .inl (.inl eW)⟩, for_it (walk_list (xs := wv (upto L (6 - L.length / 3)))) (fun j σ H9 => ∃ (kvs : List (Key × V)) (v6 v7 v8 v9 : Option L2.V), σ = [some (.ref a), some (.ref r), some (.str (T L)), some (.ref Ra), some (.ref b), some (.ref D), v6, v7, v8, v9, none, none, none] ∧ H9 D = some (.dK kvs) ∧ kvs.length ≤ 8 * j ∧ Firsts rs kvs ((upto L (6 - L.length / 3)).take j) ∧ Stp D H8 H9)
      ⟨[], _, _, _, _, rfl, hD8, Nat.le_refl _, fun k => rfl, Stp.refl _ _⟩ (fun j σ H9 _ h => by obtain ⟨kvs, v6, v7, v8, v9, _, _, _, _, st⟩ := h; exact .inl (.inl (st _ _ eW nWD))) ?_ ?_⟩
    · rintro j x σ H0 H9 hj ⟨kvs, v6, v7, v8, v9, rfl, hD9, hkl, hF, st9⟩ ⟨rfl, hx⟩
      rw [wv_len] at hj
      unfold wv at hx
      rw [List.getElem?_map] at hx
      obtain ⟨wd, hw, e⟩ := Option.map_eq_some_iff.mp hx
      subst e
      have hwl := (mem_upto.mp (List.mem_of_getElem? hw)).1
      refine ⟨_, rfl, _, rfl, Ra, rs, wd, rfl, hR8.kt (ktS st9), hrl, by omega, by omega, fun t H10 s10 ht => ?_⟩
      have hD10 := s10 _ _ hD9
      have st10 := st9.trans (.of s10)
      unfold LWAt at ht
      cases eW2 : (Say.W rs wd).2 with
      | some p =>
        rw [eW2] at ht
        simp only at ht
        refine ⟨_, rfl, t, _, 0, .str (Str.ofString "unsaid"), rfl, rfl, .inl (.inl ht), atI_nat (j := 0) rfl, rfl, _, rfl, ?_⟩
        rw [show decide (V.str (Str.ofString "unsaid") = V.str (Str.ofString "")) = false from by decide +kernel]
        refine iteF ?_
        refine ⟨(by show 0 ≤ sizeLine; decide), fun N hN => ?_⟩
        have sN := same_new hN (.lst [])
        refine ⟨N, rfl, ⟨_, .inl (.inl upd_same)⟩, for_it (walk_list (xs := [])) (fun m σ H11 => ∃ v8 v9 : Option L2.V, σ = [some (.ref a), some (.ref r), some (.str (T L)), some (.ref Ra), some (.ref b), some (.ref D), some (.str (T wd)), some (.ref t), v8, v9, none, none, none] ∧ Same (upd H10 N (.lst [])) H11)
          ⟨_, _, rfl, Same.refl _⟩ (fun m σ H11 _ h => by obtain ⟨_, _, _, g⟩ := h; exact .inl (.inl (g _ _ upd_same))) (fun m x σ H11 H12 hm => absurd hm (Nat.not_lt_zero _)) ?_⟩
        rintro σ H11 ⟨v8, v9, rfl, s11⟩
        have s1011 := sN.trans s11
        refine ⟨kvs, _, _, _, _, rfl, s1011 _ _ hD10, by omega, steps_note hw hF fun k => ?_, st10.trans (.of s1011)⟩
        have nu : ¬ UsedBy rs k wd := fun u => by rw [u.1] at eW2; cases eW2
        cases valV kvs (.inl (k : Int)) with
        | some v => rfl
        | none => simp only; rw [if_neg nu]
      | none =>
        rw [eW2] at ht
        simp only at ht
        obtain ⟨DS, ht, ts, hDS, hp⟩ := ht
        refine ⟨_, rfl, t, _, 0, .str (T []), rfl, rfl, .inl (.inl ht), atI_nat (j := 0) rfl, rfl, _, rfl, ?_⟩
        rw [dec_nil, decide_eq_true rfl]
        refine iteT ?_
        have nDS : DS ≠ D := ne_of hDS hD10 (by intro z; cases z)
        have hk : (Say.W rs wd).1.length ≤ wd.length + 1 := wk_len rs (sgn wd) (wd.length + 1) 1
        have lts := paired_len hp
        refine ⟨_, rfl, t, _, 1, .ref DS, rfl, rfl, .inl (.inl ht), atI_nat (j := 1) rfl, DS, rfl, ⟨_, .inl (.inl hDS)⟩, for_it (walk_list (xs := ts.map V.ref)) (fun m σ H11 => ∃ (kv' : List (Key × V)) (v8 v9 : Option L2.V), σ = [some (.ref a), some (.ref r), some (.str (T L)), some (.ref Ra), some (.ref b), some (.ref D), some (.str (T wd)), some (.ref t), v8, v9, none, none, none] ∧ H11 D = some (.dK kv') ∧ kv'.length ≤ 8 * j + m ∧ Stp D H10 H11 ∧
            ∀ k : Nat, valV kv' (.inl (k : Int)) = match valV kvs (.inl (k : Int)) with
              | some v => some v
              | none => if k ∈ ((Say.W rs wd).1.take m).map (·.2) then some (V.str (T wd)) else none)
          ⟨kvs, _, _, rfl, hD10, by omega, Stp.refl _ _, fun k => ?_⟩ (fun m σ H11 _ h => by obtain ⟨_, _, _, _, _, _, g, _⟩ := h; exact .inl (.inl (g _ _ hDS nDS))) ?_ ?_⟩
        · cases valV kvs (.inl (k : Int)) with
          | some v => rfl
          | none => rfl
        · rintro m x σ H0 H11 hm ⟨kv', v8, v9, rfl, hD11, hl', st11, hV⟩ ⟨rfl, hx⟩
          rw [List.getElem?_map] at hx
          obtain ⟨ad, had, e⟩ := Option.map_eq_some_iff.mp hx
          subst e
          obtain ⟨stp, hst, hat⟩ := paired_at hp had
          have hm2 : m < (Say.W rs wd).1.length := (List.getElem?_eq_some_iff.mp hst).1
          have hat11 := st11 _ _ hat (ne_of hat hD10 (by intro z; cases z))
          refine ⟨ad, _, rfl, .inl (.inl hat11), rfl, _, _, rfl, _, _, rfl, rfl, ?_⟩
          have nx : ∀ k : Nat, (k ∈ ((Say.W rs wd).1.take (m + 1)).map (·.2)) ↔ (k ∈ ((Say.W rs wd).1.take m).map (·.2) ∨ k = stp.2) := fun k => by
            rw [List.take_add_one, hst, List.map_append, List.mem_append]
            simp
          refine ⟨_, rfl, D, rfl, .inl ⟨_, .inl hD11⟩, _, rfl, _, rfl, kv', .inl ((stp.2 : Nat) : Int), hD11, rfl, (Nat.lt_of_le_of_lt hl' (Nat.lt_of_lt_of_le (show 8 * j + m < 8 * 131072 + 200 by omega) (by decide))), fun v hv => ?_, fun hv => ?_⟩
          · refine ⟨kv', _, _, rfl, hD11, by omega, st11, fun k => ?_⟩
            rw [hV k]
            by_cases ek : k = stp.2
            · subst ek
              rw [hV] at hv
              cases ev : valV kvs (.inl ((stp.2 : Nat) : Int)) with
              | some v0 => rfl
              | none =>
                rw [ev] at hv
                simp only at hv ⊢
                by_cases c : stp.2 ∈ ((Say.W rs wd).1.take m).map (·.2)
                · rw [if_pos c, if_pos ((nx _).mpr (.inl c))]
                · rw [if_neg c] at hv; cases hv
            · cases valV kvs (.inl (k : Int)) with
              | some v0 => rfl
              | none =>
                simp only
                by_cases c : k ∈ ((Say.W rs wd).1.take m).map (·.2)
                · rw [if_pos c, if_pos ((nx _).mpr (.inl c))]
                · rw [if_neg c, if_neg (fun z => ((nx _).mp z).elim c ek)]
          · have hln := length_putK kv' (.inl ((stp.2 : Nat) : Int)) (V.str (T wd))
            refine ⟨putK kv' (.inl ((stp.2 : Nat) : Int)) (.str (T wd)), _, _, rfl, upd_same, by omega, fun b' o hb' n => by rw [upd_ne n]; exact st11 _ _ hb' n, fun k => ?_⟩
            rw [valV_put]
            by_cases ek : k = stp.2
            · subst ek
              rw [if_pos rfl]
              rw [hV] at hv
              cases ev : valV kvs (.inl ((stp.2 : Nat) : Int)) with
              | some v0 => rw [ev] at hv; cases hv
              | none => simp only; rw [if_pos ((nx _).mpr (.inr rfl))]
            · rw [if_neg (fun z => ek (by have := Sum.inl.inj z; omega)), hV k]
              cases valV kvs (.inl (k : Int)) with
              | some v0 => rfl
              | none =>
                simp only
                by_cases c : k ∈ ((Say.W rs wd).1.take m).map (·.2)
                · rw [if_pos c, if_pos ((nx _).mpr (.inl c))]
                · rw [if_neg c, if_neg (fun z => ((nx _).mp z).elim c ek)]
        · rintro σ H11 ⟨kv', v8, v9, rfl, hD11, hl', st11, hV⟩
          rw [List.length_map, lts] at hl'
          rw [List.length_map, lts, List.take_length] at hV
          refine ⟨kv', _, _, _, _, rfl, hD11, by omega, steps_note hw hF fun k => ?_, st10.trans st11⟩
          rw [hV k]
          cases valV kvs (.inl (k : Int)) with
          | some v => rfl
          | none =>
            simp only
            by_cases c : k ∈ (Say.W rs wd).1.map (·.2)
            · rw [if_pos c, if_pos ⟨eW2, c⟩]
            · rw [if_neg c, if_neg (fun u => c u.2)]
    · rintro σ H9 ⟨kvs, v6, v7, v8, v9, rfl, hD9, hkl, hF, st9⟩
      rw [wv_len, List.take_length] at hF
      have hR9 := hR8.kt (ktS st9)
      have hB9 := hB8.kt (ktS st9)
      refine ⟨(by show 0 ≤ sizeLine; decide), fun N0 hN0 => ?_⟩
      have sN := same_new hN0 (.lst [])
      have hN10 : (upd H9 N0 (.lst [])) N0 = some (.lst []) := upd_same
      have hD10 := sN _ _ hD9
      have hR10 := hR9.kt (.of sN)
      have hB10 := hB9.kt (.of sN)
      have nDN : D ≠ N0 := ne_of_none hD9 hN0
      generalize upd H9 N0 (.lst []) = H10 at hN10 hD10 hR10 hB10 ⊢
      have ktN : ∀ {H11 : Hp}, Stp N0 H10 H11 → KT H10 H11 := fun st => KT.by fun t u h hu => st _ _ h (ne_of h hN10 (by rcases hu with ⟨_, rfl⟩ | ⟨_, _, rfl⟩ <;> (intro z; cases z)))
      obtain ⟨rts, hRl, hRp⟩ := id hR10
      have lr : (rts.map V.ref).length = rs.length := by rw [List.length_map, paired_len hRp]
      refine ⟨_, rfl, _, _, rfl, .inr ⟨_, .inl (.inl hRl), rfl⟩, _, rfl, by omega, by rw [lr]; omega, ?_⟩
      rw [lr]
      refine for_it (walk_range) (fun i σ H11 => ∃ (v9 v11 : Option L2.V), σ = [some (.ref a), some (.ref r), some (.str (T L)), some (.ref Ra), some (.ref b), some (.ref D), v6, v7, v8, v9, some (.ref N0), v11, none] ∧ H11 N0 = some (.lst ((idleL rs L i).map fun k => V.int (k : Nat))) ∧ Stp N0 H10 H11)
        ⟨_, _, rfl, hN10, Stp.refl _ _⟩ (fun _ _ _ _ _ => trivial) ?_ ?_
      · rintro i x σ H0 H11 hi ⟨v9, v11, rfl, hN11, st11⟩ ⟨rfl, rfl⟩
        have hi : i < rs.length := by omega
        have nx := idle_next (rs := rs) (L := L) (n := i)
        refine ⟨_, rfl, _, rfl, b, L, rs, es, i, (by show [V.ref b, V.int (0 + (i : Int))] = _; rw [Int.zero_add]), hB10.kt (ktN st11), hbo, hi, fun v H12 s12 hv => ?_⟩
        have hN12 := s12 _ _ hN11
        have st12 := st11.trans (.of s12)
        refine ⟨_, rfl, rfl, _, rfl, ite2 (fun c => ?_) (fun c => ?_)⟩
        · have c := hv.non.mp (of_decide_eq_true c)
          rw [if_pos c] at nx
          refine ⟨_, rfl, .inl ⟨rfl, _, .inl (.inl hN12)⟩, _, rfl, N0, _, _, rfl, rfl, hN12, ?_, ?_⟩
          · rw [List.length_map]
            have := idle_len rs L i
            exact small1000 (by omega)
          obtain ⟨H13, e13, hN13, st13⟩ : ∃ H13, H13 = upd H12 N0 (.lst (((idleL rs L i).map fun k => V.int (k : Nat)) ++ [V.int (0 + (i : Int))])) ∧ H13 N0 = some (.lst ((idleL rs L (i + 1)).map fun k => V.int (k : Nat))) ∧ Stp N0 H10 H13 := by
            refine ⟨_, rfl, ?_, fun b' o hb' n => by rw [upd_ne n]; exact st12 _ _ hb' n⟩
            rw [upd_same, nx, List.map_append, Int.zero_add]
            rfl
          rw [← e13]
          have hD13 := st13 _ _ hD10 nDN
          have hR13 := hR10.kt (ktN st13)
          refine ⟨_, rfl, _, rfl, D, valV kvs (.inl ((i : Nat) : Int)), rfl, (by show DGet _ _ (V.int (0 + (i : Int))) _; rw [Int.zero_add]; exact DGet.k (k := Sum.inl ((i : Nat) : Int)) hD13), _, rfl, ?_⟩
          cases ef : useF rs i (upto L (6 - L.length / 3)) with
          | some w0 =>
            have eV : valV kvs (.inl ((i : Nat) : Int)) = some (V.str (T w0)) := by rw [hF i, ef]; rfl
            rw [eV]
            have ev := first_is oL ef hv
            subst ev
            refine iteT ?_
            refine ⟨_, rfl, _, rfl, _, rfl, D, V.str (T w0), rfl, (by show DGet _ _ (V.int (0 + (i : Int))) _; rw [Int.zero_add, ← eV]; exact DGet.k (k := Sum.inl ((i : Nat) : Int)) hD13), rfl, _, rfl, ?_⟩
            rw [decide_eq_true rfl]
            refine iteF ?_
            refine ⟨_, rfl, _, rfl, D, valV kvs (.inl ((i : Nat) : Int)), rfl, (by show DGet _ _ (V.int (0 + (i : Int))) _; rw [Int.zero_add]; exact DGet.k (k := Sum.inl ((i : Nat) : Int)) hD13), _, rfl, ?_⟩
            rw [eV]
            exact iteF (iteF ⟨_, _, rfl, hN13, st13⟩)
          | none =>
            have eV : valV kvs (.inl ((i : Nat) : Int)) = none := by rw [hF i, ef]; rfl
            rw [eV]
            refine iteF (iteF ?_)
            refine ⟨_, rfl, _, rfl, D, valV kvs (.inl ((i : Nat) : Int)), rfl, (by show DGet _ _ (V.int (0 + (i : Int))) _; rw [Int.zero_add]; exact DGet.k (k := Sum.inl ((i : Nat) : Int)) hD13), _, rfl, ?_⟩
            rw [eV]
            refine iteT ?_
            rcases hv with ⟨rfl, _⟩ | ⟨wf, rfl, w1, w2, w3, w4⟩
            · exact ⟨_, rfl, rfl, _, rfl, iteF (iteF ⟨_, _, rfl, hN13, st13⟩)⟩
            · refine ⟨_, rfl, rfl, _, rfl, iteT ?_⟩
              have w5 : wf.length ≤ 120 := by
                have := tails_le3 l3
                rw [states_len] at w2
                omega
              refine ⟨_, rfl, _, rfl, _, rfl, _, rfl, Ra, rs, wf, i, L, (by show [V.ref Ra, V.str (T wf), V.int (0 + (i : Int)), V.str (T L)] = _; rw [Int.zero_add]), hR13, hrl, by omega, w5, w1, w3, fun H14 s14 => ⟨true, rfl, iteF ?_⟩⟩
              exact ⟨_, _, rfl, s14 _ _ hN13, st13.trans (.of s14)⟩
        · have c : ¬ NoUse rs L i := fun z => c (decide_eq_true (hv.non.mpr z))
          rw [if_neg c, List.append_nil] at nx
          obtain ⟨hN13, st13⟩ : H12 N0 = some (.lst ((idleL rs L (i + 1)).map fun k => V.int (k : Nat))) ∧ Stp N0 H10 H12 := ⟨by rw [nx]; exact hN12, st12⟩
          have hD13 := st13 _ _ hD10 nDN
          have hR13 := hR10.kt (ktN st13)
          refine ⟨_, rfl, _, rfl, D, valV kvs (.inl ((i : Nat) : Int)), rfl, (by show DGet _ _ (V.int (0 + (i : Int))) _; rw [Int.zero_add]; exact DGet.k (k := Sum.inl ((i : Nat) : Int)) hD13), _, rfl, ?_⟩
          cases ef : useF rs i (upto L (6 - L.length / 3)) with
          | some w0 =>
            have eV : valV kvs (.inl ((i : Nat) : Int)) = some (V.str (T w0)) := by rw [hF i, ef]; rfl
            rw [eV]
            have ev := first_is oL ef hv
            subst ev
            refine iteT ?_
            refine ⟨_, rfl, _, rfl, _, rfl, D, V.str (T w0), rfl, (by show DGet _ _ (V.int (0 + (i : Int))) _; rw [Int.zero_add, ← eV]; exact DGet.k (k := Sum.inl ((i : Nat) : Int)) hD13), rfl, _, rfl, ?_⟩
            rw [decide_eq_true rfl]
            refine iteF ?_
            refine ⟨_, rfl, _, rfl, D, valV kvs (.inl ((i : Nat) : Int)), rfl, (by show DGet _ _ (V.int (0 + (i : Int))) _; rw [Int.zero_add]; exact DGet.k (k := Sum.inl ((i : Nat) : Int)) hD13), _, rfl, ?_⟩
            rw [eV]
            exact iteF (iteF ⟨_, _, rfl, hN13, st13⟩)
          | none =>
            have eV : valV kvs (.inl ((i : Nat) : Int)) = none := by rw [hF i, ef]; rfl
            rw [eV]
            refine iteF (iteF ?_)
            refine ⟨_, rfl, _, rfl, D, valV kvs (.inl ((i : Nat) : Int)), rfl, (by show DGet _ _ (V.int (0 + (i : Int))) _; rw [Int.zero_add]; exact DGet.k (k := Sum.inl ((i : Nat) : Int)) hD13), _, rfl, ?_⟩
            rw [eV]
            refine iteT ?_
            rcases hv with ⟨rfl, _⟩ | ⟨wf, rfl, w1, w2, w3, w4⟩
            · exact ⟨_, rfl, rfl, _, rfl, iteF (iteF ⟨_, _, rfl, hN13, st13⟩)⟩
            · refine ⟨_, rfl, rfl, _, rfl, iteT ?_⟩
              have w5 : wf.length ≤ 120 := by
                have := tails_le3 l3
                rw [states_len] at w2
                omega
              refine ⟨_, rfl, _, rfl, _, rfl, _, rfl, Ra, rs, wf, i, L, (by show [V.ref Ra, V.str (T wf), V.int (0 + (i : Int)), V.str (T L)] = _; rw [Int.zero_add]), hR13, hrl, by omega, w5, w1, w3, fun H14 s14 => ⟨true, rfl, iteF ?_⟩⟩
              exact ⟨_, _, rfl, s14 _ _ hN13, st13.trans (.of s14)⟩
      · rintro σ H11 ⟨v9, v11, rfl, hN11, st11⟩
        rw [Int.toNat_natCast] at hN11
        have hB11 := hB10.kt (ktN st11)
        have il := idle_len rs L rs.length
        refine ⟨2, rfl, by decide, by decide, for_it (walk_range) (fun j σ H12 => ∃ (v11 v12 : Option L2.V), σ = [some (.ref a), some (.ref r), some (.str (T L)), some (.ref Ra), some (.ref b), some (.ref D), v6, v7, v8, v9, some (.ref N0), v11, v12] ∧ H12 N0 = some (.lst ((idleL rs L rs.length).map fun k => V.int (k : Nat))) ∧ BookAt H12 b L rs es)
          ⟨_, _, rfl, hN11, hB11⟩ (fun _ _ _ _ _ => trivial) ?_ ?_⟩
        · rintro j x σ H0 H12 hj ⟨v11, v12, rfl, hN12, hB12⟩ ⟨rfl, rfl⟩
          refine ⟨_, rfl, b, L, rs, es, rfl, hB12, hbo, fun D2 H13 s13 hD2 h2 => ?_⟩
          have hN13 := s13 _ _ hN12
          refine ⟨_, rfl, _, rfl, _, _, _, rfl, dp_nats h2, dp_nats hN13, few_nats (by omega), (by show PyData.depthAll _ + 1 < 2; rw [depth_nats]; decide), fun H14 s14 => ⟨true, rfl, iteF ?_⟩⟩
          have h2' := s14 _ _ h2
          have n2 : N0 ≠ D2 := ne_of_none hN12 hD2
          refine ⟨_, rfl, .inl ⟨rfl, _, .inl (.inl h2')⟩, D2, _, _, rfl, rfl, h2', ?_, ?_⟩
          · rw [List.length_map]
            exact small1000 (by omega)
          · exact ⟨_, _, rfl, by rw [upd_ne n2]; exact s14 _ _ hN13, (hB12.kt (.of (s13.trans s14))).kt (kt_upd h2')⟩
        · rintro σ H12 ⟨v11, v12, rfl, _⟩
          exact q _
end
end Say
namespace Say
open PySem PySem.Spec PyProof.Rows L2
/-- a def as the top has left it -/
structure Std (K : PySem.W.Frag) (x : Str) (st : Stmt) (f : Addr) : Prop where
  ns : PySem.W.nsIn K mainGlobals x = some (some (.ref f))
  fn : ∃ fd, Fun K x x st f fd ∧ ∃ kV dc pm an cd ct, fd = PySem.W.fnOf x x (defArgs st) (defBody st) (defScope st) .none kV dc pm an cd ct
theorem std_mk {K : PySem.W.Frag} {x : Str} {st : Stmt} {f : Addr} {oc : Value} {od an : Option Addr} {osl : Array (Option Value)} {kV dc pm cd ct : Value} (a : PySem.W.nsIn K mainGlobals x = some (some (.ref f))) (l : K.lookup f = some ⟨oc, od, .func (PySem.W.fnOf x x (defArgs st) (defBody st) (defScope st) .none kV dc pm an cd ct), osl⟩) (c : PySem.W.codeIn K cd x = true) (k : PySem.W.keepIn K (.ref f) = true) : Std K x st f :=
  ⟨a, _, fun_mk l c k, kV, dc, pm, an, cd, ct, rfl⟩
/-- a method as the top has left it -/
structure MStd (K : PySem.W.Frag) (C : Addr) (x q : Str) (st : Stmt) (f : Addr) : Prop where
  me : Meth K C x f
  fn : ∃ fd, Fun K x q st f fd ∧ ∃ kV dc pm an cd ct, fd = PySem.W.fnOf x q (defArgs st) (defBody st) (defScope st) .none kV dc pm an cd ct
theorem mstd_mk {K : PySem.W.Frag} {C : Addr} {x q : Str} {st : Stmt} {f : Addr} {oc : Value} {od an : Option Addr} {osl : Array (Option Value)} {kV dc pm cd ct : Value} (a : PySem.W.findIn K (.ref C) x = some (some (.ref f))) (i : PySem.W.isFn K (.ref f) = true) (l : K.lookup f = some ⟨oc, od, .func (PySem.W.fnOf x q (defArgs st) (defBody st) (defScope st) .none kV dc pm an cd ct), osl⟩) (c : PySem.W.codeIn K cd q = true) (k : PySem.W.keepIn K (.ref f) = true) : MStd K C x q st f :=
  ⟨⟨a, i, k⟩, _, fun_mk l c k, kV, dc, pm, an, cd, ct, rfl⟩
theorem all_ok {l : PySem.W.OpenLaw} {w : World} {K : PySem.W.Frag} {h : Heap} {mg : Str → Option Value} {fa f26 f27 f22 f21 f24 f25 f23 f18 f19 f20 f17 f28 f32 f33 f34 f35 f37 f36 f42 f41 f45 f46 f48 f49 f50 f51 f52 f53 f54 f55 f56 f57 f58 f59 f60 yUseHunt gIn gHS gHA gHF aEv : Addr} {t_small t_caps t_edge t_mrul t_lexc t_lrs t_lso t_imost_exceptions t_iown t_isettling t_ileads : Tok} {evd : Option Addr} {evi : Array Value} {evn : Nat} {evs : Array (Option Value)}
    (X : K.In h) (G : h.Ns mainGlobals mg) (hfa : mg "law" = some (.ref fa))
    (S26 : Std K "is_text" (topS 26) f26)
    (S27 : Std K "is_rising" (topS 27) f27)
    (S22 : Std K "is_beside" (topS 22) f22)
    (S21 : Std K "is_rule" (topS 21) f21)
    (S24 : Std K "is_excepted" (topS 24) f24)
    (S25 : Std K "is_sounds" (topS 25) f25)
    (S23 : Std K "is_exception" (topS 23) f23)
    (S18 : Std K "check_letters" (topS 18) f18)
    (S19 : Std K "check_rules" (topS 19) f19)
    (S20 : Std K "check_exceptions" (topS 20) f20)
    (S17 : Std K "checked_book" (topS 17) f17)
    (S28 : Std K "is_count" (topS 28) f28)
    (S32 : Std K "fits" (topS 32) f32)
    (S33 : Std K "first_fit" (topS 33) f33)
    (S34 : Std K "steps_of" (topS 34) f34)
    (S35 : Std K "taken" (topS 35) f35)
    (S37 : Std K "numbers_of" (topS 37) f37)
    (S36 : Std K "ending" (topS 36) f36)
    (S42 : Std K "keep" (topS 42) f42)
    (S41 : Std K "least_word" (topS 41) f41)
    (S45 : Std K "use" (topS 45) f45)
    (S46 : Std K "idle" (topS 46) f46)
    (S48 : Std K "_law_row" (topS 48) f48)
    (S49 : Std K "_law_taken" (topS 49) f49)
    (S50 : Std K "_law_side" (topS 50) f50)
    (S51 : Std K "_law_text" (topS 51) f51)
    (S52 : Std K "_law_rule" (topS 52) f52)
    (S53 : Std K "_law_rules" (topS 53) f53)
    (S54 : Std K "_law_exceptions" (topS 54) f54)
    (S55 : Std K "_law_words" (topS 55) f55)
    (S56 : Std K "_law_fits" (topS 56) f56)
    (S57 : Std K "_law_walk" (topS 57) f57)
    (S58 : Std K "_law_uses" (topS 58) f58)
    (S59 : Std K "_law_alike" (topS 59) f59)
    (MIn : MStd K yUseHunt "__init__" "UseHunt.__init__" (sUH 0) gIn)
    (MHS : MStd K yUseHunt "start" "UseHunt.start" (sUH 1) gHS)
    (MHA : MStd K yUseHunt "after" "UseHunt.after" (sUH 2) gHA)
    (MHF : MStd K yUseHunt "is_found" "UseHunt.is_found" (sUH 3) gHF)
    (S60 : Std K "law" (topS 60) f60)
    (z_len : PySem.W.nsIn K mainGlobals "len" = some none)
    (z_range : PySem.W.nsIn K mainGlobals "range" = some none)
    (z_tuple : PySem.W.nsIn K mainGlobals "tuple" = some none)
    (z_list : PySem.W.nsIn K mainGlobals "list" = some none)
    (z_isinstance : PySem.W.nsIn K mainGlobals "isinstance" = some none)
    (z_str : PySem.W.nsIn K mainGlobals "str" = some none)
    (z_all : PySem.W.nsIn K mainGlobals "all" = some none)
    (z_enumerate : PySem.W.nsIn K mainGlobals "enumerate" = some none)
    (z_sorted : PySem.W.nsIn K mainGlobals "sorted" = some none)
    (z_bool : PySem.W.nsIn K mainGlobals "bool" = some none)
    (z_int : PySem.W.nsIn K mainGlobals "int" = some none)
    (c_small : PySem.W.nsIn K mainGlobals "SMALL" = some (some (.str "abcdefghijklmnopqrstuvwxyz" t_small)))
    (c_caps : PySem.W.nsIn K mainGlobals "CAPITALS" = some (some (.str "ABCDEFGHIJKLMNOPQRSTUVWXYZ" t_caps)))
    (c_edge : PySem.W.nsIn K mainGlobals "EDGE" = some (some (.str "#" t_edge)))
    (c_mrul : PySem.W.nsIn K mainGlobals "MOST_RULES" = some (some (.int 12 t_mrul)))
    (c_lexc : PySem.W.nsIn K mainGlobals "LONGEST_EXCEPTION" = some (some (.int 8 t_lexc)))
    (c_lrs : PySem.W.nsIn K mainGlobals "LONGEST_RULE_SOUNDS" = some (some (.int 3 t_lrs)))
    (c_lso : PySem.W.nsIn K mainGlobals "LONGEST_SOUNDS" = some (some (.int 36 t_lso)))
    (c_imost_exceptions : PySem.W.nsIn K mainGlobals "MOST_EXCEPTIONS" = some (some (.int 8 t_imost_exceptions)))
    (c_iown : PySem.W.nsIn K mainGlobals "OWN" = some (some (.int 1 t_iown)))
    (c_isettling : PySem.W.nsIn K mainGlobals "SETTLING" = some (some (.int 4 t_isettling)))
    (c_ileads : PySem.W.nsIn K mainGlobals "LEADS" = some (some (.int 2 t_ileads)))
    (gUseHunt : PySem.W.nsIn K mainGlobals "UseHunt" = some (some (.ref yUseHunt)))
    (C_pg : PySem.W.plainGet K yUseHunt Str.empty = true)
    (C_hd : PySem.W.hasDictIn K yUseHunt = true)
    (C_po : PySem.W.plainOver K yUseHunt = true)
    (C_sa : PySem.W.findIn K (.ref yUseHunt) "__setattr__" = some (some (.builtin "object.__setattr__")))
    (C_mk : PySem.W.makesIn K yUseHunt = true)
    (C_kc : PySem.W.keepIn K (.ref yUseHunt) = true)
    (C_n0 : PySem.W.findIn K (.ref yUseHunt) "_rules" = some none)
    (C_n1 : PySem.W.findIn K (.ref yUseHunt) "_number" = some none)
    (gEVEN : PySem.W.nsIn K mainGlobals "EVEN" = some (some (.ref aEv)))
    (ev_l : K.lookup aEv = some ⟨.type "tuple", evd, .seq evi evn, evs⟩)
    (ev_z : evi.size ≤ sizeLine)
    (ev_r : Vals [V.str "", V.str ""] evi.toList)
    : ∃ fd : FuncData, (∀ (s : Shared) (v : Value), BindsTo s fd ⟨[v], []⟩ [("_law_script", v)]) ∧ ∀ base : Heap, K.In base → base.Ns mainGlobals mg → FnOk l.prog w K mg base CX0 9 fa fd ["_law_script"] (spLaw K) := by
  have e := hfa.symm.trans (PySem.W.mg_of X G S60.ns)
  cases e
  have B : Bn mg := ⟨PySem.W.mg_none_of X G z_len, PySem.W.mg_none_of X G z_range, PySem.W.mg_none_of X G z_tuple, PySem.W.mg_none_of X G z_list, PySem.W.mg_none_of X G z_isinstance, PySem.W.mg_none_of X G z_str, PySem.W.mg_none_of X G z_all, PySem.W.mg_none_of X G z_enumerate, PySem.W.mg_none_of X G z_sorted, PySem.W.mg_none_of X G z_bool⟩
  have C : Cn mg := ⟨⟨_, PySem.W.mg_of X G c_small⟩, ⟨_, PySem.W.mg_of X G c_caps⟩, ⟨_, PySem.W.mg_of X G c_edge⟩, ⟨_, PySem.W.mg_of X G c_mrul⟩, ⟨_, PySem.W.mg_of X G c_lexc⟩, ⟨_, PySem.W.mg_of X G c_lrs⟩, ⟨_, PySem.W.mg_of X G c_lso⟩⟩
  have KI_MOST_EXCEPTIONS : KI mg "MOST_EXCEPTIONS" 8 := ⟨_, PySem.W.mg_of X G c_imost_exceptions⟩
  have KI_OWN : KI mg "OWN" 1 := ⟨_, PySem.W.mg_of X G c_iown⟩
  have KI_SETTLING : KI mg "SETTLING" 4 := ⟨_, PySem.W.mg_of X G c_isettling⟩
  have KI_LEADS : KI mg "LEADS" 2 := ⟨_, PySem.W.mg_of X G c_ileads⟩
  have hE : EvenC K aEv := ⟨_, _, _, ev_l, rfl, rfl, ev_z, ev_r⟩
  obtain ⟨fdL, FL, kV, dc, pm, an, cd, ct, eL⟩ := S60.fn
  refine ⟨fdL, fun s v => ?_, fun base _ _ => ?_⟩
  · subst eL
    exact .of_eq rfl
  obtain ⟨d26, F26, _⟩ := S26.fn
  have m26 := PySem.W.mg_of X G S26.ns
  have b26 := F26.binds (ps := ["text", "signs", "least", "most"]) fun _ _ _ _ _ _ us hl => match us, hl with | [_, _, _, _], _ => rfl
  have D_is_text : Df l.prog w K mg base "is_text" ["text", "signs", "least", "most"] 1 spIsText := ⟨_, _, ok_isText F26 B, F26.kp, b26, m26⟩
  obtain ⟨d27, F27, _⟩ := S27.fn
  have m27 := PySem.W.mg_of X G S27.ns
  have b27 := F27.binds (ps := ["text"]) fun _ _ _ _ _ _ us hl => match us, hl with | [_], _ => rfl
  have D_is_rising : Df l.prog w K mg base "is_rising" ["text"] 1 spRise := ⟨_, _, ok_rise F27 B, F27.kp, b27, m27⟩
  obtain ⟨d22, F22, _⟩ := S22.fn
  have m22 := PySem.W.mg_of X G S22.ns
  have b22 := F22.binds (ps := ["letters", "signs"]) fun _ _ _ _ _ _ us hl => match us, hl with | [_, _], _ => rfl
  have D_is_beside : Df l.prog w K mg base "is_beside" ["letters", "signs"] 2 spBeside := ⟨_, _, ok_beside F22 B C D_is_text D_is_rising, F22.kp, b22, m22⟩
  obtain ⟨d21, F21, _⟩ := S21.fn
  have m21 := PySem.W.mg_of X G S21.ns
  have b21 := F21.binds (ps := ["letters", "rule"]) fun _ _ _ _ _ _ us hl => match us, hl with | [_, _], _ => rfl
  have D_is_rule : Df l.prog w K mg base "is_rule" ["letters", "rule"] 3 spIsRule := ⟨_, _, ok_isRule F21 B C D_is_text D_is_beside, F21.kp, b21, m21⟩
  obtain ⟨d24, F24, _⟩ := S24.fn
  have m24 := PySem.W.mg_of X G S24.ns
  have b24 := F24.binds (ps := ["letters", "word"]) fun _ _ _ _ _ _ us hl => match us, hl with | [_, _], _ => rfl
  have D_is_excepted : Df l.prog w K mg base "is_excepted" ["letters", "word"] 2 spExcd := ⟨_, _, ok_excd F24 C D_is_text, F24.kp, b24, m24⟩
  obtain ⟨d25, F25, _⟩ := S25.fn
  have m25 := PySem.W.mg_of X G S25.ns
  have b25 := F25.binds (ps := ["sounds"]) fun _ _ _ _ _ _ us hl => match us, hl with | [_], _ => rfl
  have D_is_sounds : Df l.prog w K mg base "is_sounds" ["sounds"] 2 spIsSo := ⟨_, _, ok_isSo F25 C D_is_text, F25.kp, b25, m25⟩
  obtain ⟨d23, F23, _⟩ := S23.fn
  have m23 := PySem.W.mg_of X G S23.ns
  have b23 := F23.binds (ps := ["letters", "pair"]) fun _ _ _ _ _ _ us hl => match us, hl with | [_, _], _ => rfl
  have D_is_exception : Df l.prog w K mg base "is_exception" ["letters", "pair"] 3 spIsExc := ⟨_, _, ok_isExc F23 B D_is_excepted D_is_sounds, F23.kp, b23, m23⟩
  obtain ⟨d18, F18, _⟩ := S18.fn
  have m18 := PySem.W.mg_of X G S18.ns
  have b18 := F18.binds (ps := ["letters"]) fun _ _ _ _ _ _ us hl => match us, hl with | [_], _ => rfl
  have D_check_letters : Df l.prog w K mg base "check_letters" ["letters"] 2 spChL := ⟨_, _, ok_chL F18 C D_is_text D_is_rising, F18.kp, b18, m18⟩
  obtain ⟨d19, F19, _⟩ := S19.fn
  have m19 := PySem.W.mg_of X G S19.ns
  have b19 := F19.binds (ps := ["letters", "rules"]) fun _ _ _ _ _ _ us hl => match us, hl with | [_, _], _ => rfl
  have D_check_rules : Df l.prog w K mg base "check_rules" ["letters", "rules"] 4 spChR := ⟨_, _, ok_chR F19 B C D_is_rule, F19.kp, b19, m19⟩
  obtain ⟨d20, F20, _⟩ := S20.fn
  have m20 := PySem.W.mg_of X G S20.ns
  have b20 := F20.binds (ps := ["letters", "exceptions"]) fun _ _ _ _ _ _ us hl => match us, hl with | [_, _], _ => rfl
  have D_check_exceptions : Df l.prog w K mg base "check_exceptions" ["letters", "exceptions"] 4 spChE := ⟨_, _, ok_chE F20 B KI_MOST_EXCEPTIONS D_is_exception, F20.kp, b20, m20⟩
  obtain ⟨d17, F17, _⟩ := S17.fn
  have m17 := PySem.W.mg_of X G S17.ns
  have b17 := F17.binds (ps := ["book"]) fun _ _ _ _ _ _ us hl => match us, hl with | [_], _ => rfl
  have D_checked_book : Df l.prog w K mg base "checked_book" ["book"] 5 spCh := ⟨_, _, ok_ch F17 B D_check_letters D_check_rules D_check_exceptions, F17.kp, b17, m17⟩
  obtain ⟨d28, F28, _⟩ := S28.fn
  have m28 := PySem.W.mg_of X G S28.ns
  have b28 := F28.binds (ps := ["number", "most"]) fun _ _ _ _ _ _ us hl => match us, hl with | [_, _], _ => rfl
  have D_is_count : Df l.prog w K mg base "is_count" ["number", "most"] 1 spCnt := ⟨_, _, ok_cnt F28 B (PySem.W.mg_none_of X G z_int), F28.kp, b28, m28⟩
  obtain ⟨d32, F32, _⟩ := S32.fn
  have m32 := PySem.W.mg_of X G S32.ns
  have b32 := F32.binds (ps := ["rule", "signs", "at"]) fun _ _ _ _ _ _ us hl => match us, hl with | [_, _, _], _ => rfl
  have D_fits : Df l.prog w K mg base "fits" ["rule", "signs", "at"] 1 spFits := ⟨_, _, ok_fits F32 B, F32.kp, b32, m32⟩
  obtain ⟨d33, F33, _⟩ := S33.fn
  have m33 := PySem.W.mg_of X G S33.ns
  have b33 := F33.binds (ps := ["rules", "signs", "at"]) fun _ _ _ _ _ _ us hl => match us, hl with | [_, _, _], _ => rfl
  have D_first_fit : Df l.prog w K mg base "first_fit" ["rules", "signs", "at"] 2 spFF := ⟨_, _, ok_FF F33 B D_fits, F33.kp, b33, m33⟩
  obtain ⟨d34, F34, _⟩ := S34.fn
  have m34 := PySem.W.mg_of X G S34.ns
  have b34 := F34.binds (ps := ["rules", "tail"]) fun _ _ _ _ _ _ us hl => match us, hl with | [_, _], _ => rfl
  have D_steps_of : Df l.prog w K mg base "steps_of" ["rules", "tail"] 3 spSt := ⟨_, _, ok_St F34 B C KI_OWN D_first_fit, F34.kp, b34, m34⟩
  obtain ⟨d35, F35, _⟩ := S35.fn
  have m35 := PySem.W.mg_of X G S35.ns
  have b35 := F35.binds (ps := ["rules", "tail", "letter"]) fun _ _ _ _ _ _ us hl => match us, hl with | [_, _, _], _ => rfl
  have D_taken : Df l.prog w K mg base "taken" ["rules", "tail", "letter"] 3 spTk := ⟨_, _, ok_tk F35 B KI_OWN KI_SETTLING D_first_fit, F35.kp, b35, m35⟩
  obtain ⟨d37, F37, _⟩ := S37.fn
  have m37 := PySem.W.mg_of X G S37.ns
  have b37 := F37.binds (ps := ["steps"]) fun _ _ _ _ _ _ us hl => match us, hl with | [_], _ => rfl
  have D_numbers_of : Df l.prog w K mg base "numbers_of" ["steps"] 1 spNum := ⟨_, _, ok_num F37, F37.kp, b37, m37⟩
  obtain ⟨d36, F36, _⟩ := S36.fn
  have m36 := PySem.W.mg_of X G S36.ns
  have b36 := F36.binds (ps := ["rules", "tail"]) fun _ _ _ _ _ _ us hl => match us, hl with | [_, _], _ => rfl
  have D_ending : Df l.prog w K mg base "ending" ["rules", "tail"] 4 spEnd := ⟨_, _, ok_end F36 D_steps_of D_numbers_of, F36.kp, b36, m36⟩
  obtain ⟨d42, F42, _⟩ := S42.fn
  have m42 := PySem.W.mg_of X G S42.ns
  have b42 := F42.binds (ps := ["leads", "state"]) fun _ _ _ _ _ _ us hl => match us, hl with | [_, _], _ => rfl
  have D_keep : Df l.prog w K mg base "keep" ["leads", "state"] 1 (spKp l.prog w aEv) := ⟨_, _, ok_Kp F42 B KI_LEADS hE, F42.kp, b42, m42⟩
  obtain ⟨d41, F41, _⟩ := S41.fn
  have m41 := PySem.W.mg_of X G S41.ns
  obtain ⟨d45, F45, _⟩ := S45.fn
  have m45 := PySem.W.mg_of X G S45.ns
  obtain ⟨d46, F46, _⟩ := S46.fn
  have m46 := PySem.W.mg_of X G S46.ns
  obtain ⟨d48, F48, _⟩ := S48.fn
  have m48 := PySem.W.mg_of X G S48.ns
  have b48 := F48.binds (ps := ["_law_script"]) fun _ _ _ _ _ _ us hl => match us, hl with | [_], _ => rfl
  have D__law_row : Df l.prog w K mg base "_law_row" ["_law_script"] 1 (spRow K) := ⟨_, _, ok_row F48, F48.kp, b48, m48⟩
  obtain ⟨d49, F49, _⟩ := S49.fn
  have m49 := PySem.W.mg_of X G S49.ns
  have b49 := F49.binds (ps := ["_law_row_here", "_law_many"]) fun _ _ _ _ _ _ us hl => match us, hl with | [_, _], _ => rfl
  have D__law_taken : Df l.prog w K mg base "_law_taken" ["_law_row_here", "_law_many"] 1 (spTaken K) := ⟨_, _, ok_taken F49 B.len, F49.kp, b49, m49⟩
  obtain ⟨d50, F50, _⟩ := S50.fn
  have m50 := PySem.W.mg_of X G S50.ns
  have b50 := F50.binds (ps := ["_law_row_here", "_law_letters"]) fun _ _ _ _ _ _ us hl => match us, hl with | [_, _], _ => rfl
  have D__law_side : Df l.prog w K mg base "_law_side" ["_law_row_here", "_law_letters"] 2 (spSide K) := ⟨_, _, ok_side F50 D__law_taken, F50.kp, b50, m50⟩
  obtain ⟨d51, F51, _⟩ := S51.fn
  have m51 := PySem.W.mg_of X G S51.ns
  have b51 := F51.binds (ps := ["_law_row_here", "_law_signs", "_law_fewest", "_law_many"]) fun _ _ _ _ _ _ us hl => match us, hl with | [_, _, _, _], _ => rfl
  have D__law_text : Df l.prog w K mg base "_law_text" ["_law_row_here", "_law_signs", "_law_fewest", "_law_many"] 2 (spText K) := ⟨_, _, ok_text F51 D__law_taken B.len B.rng, F51.kp, b51, m51⟩
  obtain ⟨d52, F52, _⟩ := S52.fn
  have m52 := PySem.W.mg_of X G S52.ns
  have b52 := F52.binds (ps := ["_law_row_here", "_law_letters"]) fun _ _ _ _ _ _ us hl => match us, hl with | [_, _], _ => rfl
  have D__law_rule : Df l.prog w K mg base "_law_rule" ["_law_row_here", "_law_letters"] 3 (spRule K) := ⟨_, _, ok_rule F52 D__law_taken D__law_side D__law_text, F52.kp, b52, m52⟩
  obtain ⟨d53, F53, _⟩ := S53.fn
  have m53 := PySem.W.mg_of X G S53.ns
  have b53 := F53.binds (ps := ["_law_row_here", "_law_letters", "_law_most"]) fun _ _ _ _ _ _ us hl => match us, hl with | [_, _, _], _ => rfl
  have D__law_rules : Df l.prog w K mg base "_law_rules" ["_law_row_here", "_law_letters", "_law_most"] 4 (spRules K) := ⟨_, _, ok_rules F53 D__law_taken D__law_rule B.rng B.tup, F53.kp, b53, m53⟩
  obtain ⟨d54, F54, _⟩ := S54.fn
  have m54 := PySem.W.mg_of X G S54.ns
  have b54 := F54.binds (ps := ["_law_row_here", "_law_letters", "_law_most"]) fun _ _ _ _ _ _ us hl => match us, hl with | [_, _, _], _ => rfl
  have D__law_exceptions : Df l.prog w K mg base "_law_exceptions" ["_law_row_here", "_law_letters", "_law_most"] 3 (spLEx K) := ⟨_, _, ok_LEx F54 B D__law_taken D__law_text, F54.kp, b54, m54⟩
  obtain ⟨d55, F55, _⟩ := S55.fn
  have m55 := PySem.W.mg_of X G S55.ns
  have b55 := F55.binds (ps := ["_law_letters", "_law_far"]) fun _ _ _ _ _ _ us hl => match us, hl with | [_, _], _ => rfl
  have D__law_words : Df l.prog w K mg base "_law_words" ["_law_letters", "_law_far"] 1 spLWs := ⟨_, _, ok_LWs F55 B, F55.kp, b55, m55⟩
  obtain ⟨d56, F56, _⟩ := S56.fn
  have m56 := PySem.W.mg_of X G S56.ns
  have b56 := F56.binds (ps := ["_law_rule_here", "_law_word", "_law_place"]) fun _ _ _ _ _ _ us hl => match us, hl with | [_, _, _], _ => rfl
  have D__law_fits : Df l.prog w K mg base "_law_fits" ["_law_rule_here", "_law_word", "_law_place"] 1 spLF := ⟨_, _, ok_LF F56 B, F56.kp, b56, m56⟩
  obtain ⟨d57, F57, _⟩ := S57.fn
  have m57 := PySem.W.mg_of X G S57.ns
  have b57 := F57.binds (ps := ["_law_rules_here", "_law_word"]) fun _ _ _ _ _ _ us hl => match us, hl with | [_, _], _ => rfl
  have D__law_walk : Df l.prog w K mg base "_law_walk" ["_law_rules_here", "_law_word"] 2 spLW := ⟨_, _, ok_LW F57 B D__law_fits, F57.kp, b57, m57⟩
  obtain ⟨d58, F58, _⟩ := S58.fn
  have m58 := PySem.W.mg_of X G S58.ns
  have b58 := F58.binds (ps := ["_law_rules_here", "_law_word", "_law_number", "_law_letters"]) fun _ _ _ _ _ _ us hl => match us, hl with | [_, _, _, _], _ => rfl
  have D__law_uses : Df l.prog w K mg base "_law_uses" ["_law_rules_here", "_law_word", "_law_number", "_law_letters"] 3 spLU := ⟨_, _, ok_LU F58 D__law_walk, F58.kp, b58, m58⟩
  obtain ⟨d59, F59, _⟩ := S59.fn
  have m59 := PySem.W.mg_of X G S59.ns
  have b59 := F59.binds (ps := ["_law_found", "_law_due"]) fun _ _ _ _ _ _ us hl => match us, hl with | [_, _], _ => rfl
  have D__law_alike : Df l.prog w K mg base "_law_alike" ["_law_found", "_law_due"] 2 (spAl K 2) := ⟨_, _, al_all F59 b59 m59 B 2, F59.kp, b59, m59⟩
  have S : USC K yUseHunt := ⟨⟨C_pg, C_hd, C_po, C_sa⟩, C_n0, C_n1⟩
  obtain ⟨dIn, FIn, _⟩ := MIn.fn
  have mIn := MIn.me
  have bIn := FIn.binds (ps := ["self", "rules", "number"]) fun _ _ _ _ _ _ us hl => match us, hl with | [_, _, _], _ => rfl
  have GIn := ok_HI (P := l.prog) (w := w) (mg := mg) (base := base) (k := 0) FIn S
  obtain ⟨dHS, FHS, _⟩ := MHS.fn
  have mHS := MHS.me
  have bHS := FHS.binds (ps := ["self"]) fun _ _ _ _ _ _ us hl => match us, hl with | [_], _ => rfl
  have GHS := ok_HS (P := l.prog) (w := w) (base := base) (k := 0) FHS C (PySem.W.mg_of X G gEVEN)
  obtain ⟨dHA, FHA, _⟩ := MHA.fn
  have mHA := MHA.me
  have bHA := FHA.binds (ps := ["self", "state", "letter"]) fun _ _ _ _ _ _ us hl => match us, hl with | [_, _, _], _ => rfl
  have GHA := ok_HA FHA S (PySem.W.mg_of X G gEVEN) D_taken
  obtain ⟨dHF, FHF, _⟩ := MHF.fn
  have mHF := MHF.me
  have bHF := FHF.binds (ps := ["self", "state"]) fun _ _ _ _ _ _ us hl => match us, hl with | [_, _], _ => rfl
  have GHF := ok_HF (aE := aEv) FHF S D_ending
  have Mk_ : Mk K yUseHunt gIn := ⟨C_mk, mIn.at_, mIn.fn, C_kc⟩
  have b41 := F41.binds (ps := ["letters", "hunt"]) fun _ _ _ _ _ _ us hl => match us, hl with | [_, _], _ => rfl
  have D_lw : Df l.prog w K mg base "least_word" ["letters", "hunt"] 7 (spLt yUseHunt) := ⟨_, _, ok_Lt F41 B S D_keep GHS mHS bHS GHA mHA bHA GHF mHF bHF, F41.kp, b41, m41⟩
  have b45 := F45.binds (ps := ["book", "number"]) fun _ _ _ _ _ _ us hl => match us, hl with | [_, _], _ => rfl
  have D_us : Df l.prog w K mg base "use" ["book", "number"] 8 spUse := ⟨_, _, ok_Use F45 B D_checked_book D_is_count D_lw (PySem.W.mg_of X G gUseHunt) Mk_ GIn bIn, F45.kp, b45, m45⟩
  have b46 := F46.binds (ps := ["book"]) fun _ _ _ _ _ _ us hl => match us, hl with | [_], _ => rfl
  have D_id : Df l.prog w K mg base "idle" ["book"] 8 spIdl := ⟨_, _, ok_Idl F46 B D_checked_book D_lw (PySem.W.mg_of X G gUseHunt) Mk_ GIn bIn, F46.kp, b46, m46⟩
  exact ok_law FL B D__law_row D__law_taken D__law_rules D__law_exceptions D__law_words D__law_walk D__law_uses D__law_alike D_us D_id
end Say
open PySem PySem.W PyProof.Rows
set_option maxRecDepth 100000 in
set_option maxHeartbeats 0 in
theorem PySem.Challenge.cw_saylore_k10_rules_in_use_holds : PySem.Challenge.rw_saylore_k10_rules_in_use.Holds := by
  w_on; o_law; k_head; (case hw => w_witness2)
  k_fill
  refine L2.walk_of (l := PySem.Challenge.rw_saylore_k10_rules_in_use) (n := 63) (k := 9) (x := "_law_script") (CX := fun _ => L2.CX0) (sp := fun w => Say.spLaw _) rfl (by decide) rfl ⟨rfl, by decide, by decide⟩ (fun w h Y => PySem.W.kIn_of Y) ?F (fun _ _ a ns hl _ hS => ⟨a, ns, rfl, hS, hl, fun _ => rfl⟩) (fun _ _ _ _ _ h => h)
  case F =>
    intro w mg fa h KX G hmg
    refine' Say.all_ok KX G hmg (Say.std_mk ?a26 ?l26 ?c26 ?k26) (Say.std_mk ?a27 ?l27 ?c27 ?k27) (Say.std_mk ?a22 ?l22 ?c22 ?k22) (Say.std_mk ?a21 ?l21 ?c21 ?k21) (Say.std_mk ?a24 ?l24 ?c24 ?k24) (Say.std_mk ?a25 ?l25 ?c25 ?k25) (Say.std_mk ?a23 ?l23 ?c23 ?k23) (Say.std_mk ?a18 ?l18 ?c18 ?k18) (Say.std_mk ?a19 ?l19 ?c19 ?k19) (Say.std_mk ?a20 ?l20 ?c20 ?k20) (Say.std_mk ?a17 ?l17 ?c17 ?k17) (Say.std_mk ?a28 ?l28 ?c28 ?k28) (Say.std_mk ?a32 ?l32 ?c32 ?k32) (Say.std_mk ?a33 ?l33 ?c33 ?k33) (Say.std_mk ?a34 ?l34 ?c34 ?k34) (Say.std_mk ?a35 ?l35 ?c35 ?k35) (Say.std_mk ?a37 ?l37 ?c37 ?k37) (Say.std_mk ?a36 ?l36 ?c36 ?k36) (Say.std_mk ?a42 ?l42 ?c42 ?k42) (Say.std_mk ?a41 ?l41 ?c41 ?k41) (Say.std_mk ?a45 ?l45 ?c45 ?k45) (Say.std_mk ?a46 ?l46 ?c46 ?k46) (Say.std_mk ?a48 ?l48 ?c48 ?k48) (Say.std_mk ?a49 ?l49 ?c49 ?k49) (Say.std_mk ?a50 ?l50 ?c50 ?k50) (Say.std_mk ?a51 ?l51 ?c51 ?k51) (Say.std_mk ?a52 ?l52 ?c52 ?k52) (Say.std_mk ?a53 ?l53 ?c53 ?k53) (Say.std_mk ?a54 ?l54 ?c54 ?k54) (Say.std_mk ?a55 ?l55 ?c55 ?k55) (Say.std_mk ?a56 ?l56 ?c56 ?k56) (Say.std_mk ?a57 ?l57 ?c57 ?k57) (Say.std_mk ?a58 ?l58 ?c58 ?k58) (Say.std_mk ?a59 ?l59 ?c59 ?k59) (Say.mstd_mk ?a_In ?i_In ?l_In ?c_In ?k_In) (Say.mstd_mk ?a_HS ?i_HS ?l_HS ?c_HS ?k_HS) (Say.mstd_mk ?a_HA ?i_HA ?l_HA ?c_HA ?k_HA) (Say.mstd_mk ?a_HF ?i_HF ?l_HF ?c_HF ?k_HF) (Say.std_mk ?a60 ?l60 ?c60 ?k60) ?z_len ?z_range ?z_tuple ?z_list ?z_isinstance ?z_str ?z_all ?z_enumerate ?z_sorted ?z_bool ?z_int ?c_small ?c_caps ?c_edge ?c_mrul ?c_lexc ?c_lrs ?c_lso ?c_imost_exceptions ?c_iown ?c_isettling ?c_ileads ?gUseHunt ?C_pg ?C_hd ?C_po ?C_sa ?C_mk ?C_kc ?C_n0 ?C_n1 ?gEVEN ?ev_l ?ev_z ?ev_r
    (case z_len => k_is); (case z_range => k_is); (case z_tuple => k_is); (case z_list => k_is); (case z_isinstance => k_is); (case z_str => k_is)
    (case z_all => k_is); (case z_enumerate => k_is); (case z_sorted => k_is); (case z_bool => k_is); (case z_int => k_is); (case c_small => k_is)
    (case c_caps => k_is); (case c_edge => k_is); (case c_mrul => k_is); (case c_lexc => k_is); (case c_lrs => k_is); (case c_lso => k_is)
    (case c_imost_exceptions => k_is); (case c_iown => k_is); (case c_isettling => k_is); (case c_ileads => k_is); (case gUseHunt => k_is); (case gEVEN => k_is)
    (case a26 => k_is); (case l26 => k_is); (case c26 => k_is); (case k26 => k_is); (case a27 => k_is); (case l27 => k_is)
    (case c27 => k_is); (case k27 => k_is); (case a22 => k_is); (case l22 => k_is); (case c22 => k_is); (case k22 => k_is)
    (case a21 => k_is); (case l21 => k_is); (case c21 => k_is); (case k21 => k_is); (case a24 => k_is); (case l24 => k_is)
    (case c24 => k_is); (case k24 => k_is); (case a25 => k_is); (case l25 => k_is); (case c25 => k_is); (case k25 => k_is)
    (case a23 => k_is); (case l23 => k_is); (case c23 => k_is); (case k23 => k_is); (case a18 => k_is); (case l18 => k_is)
    (case c18 => k_is); (case k18 => k_is); (case a19 => k_is); (case l19 => k_is); (case c19 => k_is); (case k19 => k_is)
    (case a20 => k_is); (case l20 => k_is); (case c20 => k_is); (case k20 => k_is); (case a17 => k_is); (case l17 => k_is)
    (case c17 => k_is); (case k17 => k_is); (case a28 => k_is); (case l28 => k_is); (case c28 => k_is); (case k28 => k_is)
    (case a32 => k_is); (case l32 => k_is); (case c32 => k_is); (case k32 => k_is); (case a33 => k_is); (case l33 => k_is)
    (case c33 => k_is); (case k33 => k_is); (case a34 => k_is); (case l34 => k_is); (case c34 => k_is); (case k34 => k_is)
    (case a35 => k_is); (case l35 => k_is); (case c35 => k_is); (case k35 => k_is); (case a37 => k_is); (case l37 => k_is)
    (case c37 => k_is); (case k37 => k_is); (case a36 => k_is); (case l36 => k_is); (case c36 => k_is); (case k36 => k_is)
    (case a42 => k_is); (case l42 => k_is); (case c42 => k_is); (case k42 => k_is); (case a41 => k_is); (case l41 => k_is)
    (case c41 => k_is); (case k41 => k_is); (case a45 => k_is); (case l45 => k_is); (case c45 => k_is); (case k45 => k_is)
    (case a46 => k_is); (case l46 => k_is); (case c46 => k_is); (case k46 => k_is); (case a48 => k_is); (case l48 => k_is)
    (case c48 => k_is); (case k48 => k_is); (case a49 => k_is); (case l49 => k_is); (case c49 => k_is); (case k49 => k_is)
    (case a50 => k_is); (case l50 => k_is); (case c50 => k_is); (case k50 => k_is); (case a51 => k_is); (case l51 => k_is)
    (case c51 => k_is); (case k51 => k_is); (case a52 => k_is); (case l52 => k_is); (case c52 => k_is); (case k52 => k_is)
    (case a53 => k_is); (case l53 => k_is); (case c53 => k_is); (case k53 => k_is); (case a54 => k_is); (case l54 => k_is)
    (case c54 => k_is); (case k54 => k_is); (case a55 => k_is); (case l55 => k_is); (case c55 => k_is); (case k55 => k_is)
    (case a56 => k_is); (case l56 => k_is); (case c56 => k_is); (case k56 => k_is); (case a57 => k_is); (case l57 => k_is)
    (case c57 => k_is); (case k57 => k_is); (case a58 => k_is); (case l58 => k_is); (case c58 => k_is); (case k58 => k_is)
    (case a59 => k_is); (case l59 => k_is); (case c59 => k_is); (case k59 => k_is); (case a60 => k_is); (case l60 => k_is)
    (case c60 => k_is); (case k60 => k_is); (case a_In => k_is); (case i_In => k_is); (case l_In => k_is); (case c_In => k_is)
    (case k_In => k_is); (case a_HS => k_is); (case i_HS => k_is); (case l_HS => k_is); (case c_HS => k_is); (case k_HS => k_is)
    (case a_HA => k_is); (case i_HA => k_is); (case l_HA => k_is); (case c_HA => k_is); (case k_HA => k_is); (case a_HF => k_is)
    (case i_HF => k_is); (case l_HF => k_is); (case c_HF => k_is); (case k_HF => k_is); (case C_pg => k_is); (case C_hd => k_is)
    (case C_po => k_is); (case C_sa => k_is); (case C_mk => k_is); (case C_kc => k_is); (case C_n0 => k_is); (case C_n1 => k_is)
    (case ev_l => k_is); (case ev_z => decide +kernel); (case ev_r => exact .cons ⟨_, rfl⟩ (.cons ⟨_, rfl⟩ .nil))
