import PyProof.Rows.All
import Wide.All
import OpenK.AllK
import Wide.FinOn
import HandS.ForMost
import HandS.IsInst
import HandS.Walk
import HandS.SortRule
import HandS.DictTup
import HandS.ListItems
import HandS.Conv
import HandS.More
import KE.GoesEnum
import KE.GoesMore
import PySem.Challenge.RW_saylore_k25_whole_by_other_letters_and_s
import KE.KDictCopyH
import KE.KDictLaws
import HandS.SetKeys
import HandS.SortKw
import KE.SortData
import KE.SortKeyHeap
import KE.KSortRegAny
import KE.SortLaws
import HandS.Deep
import HandS.Steps
import KE.KDictKeyed
import PyProof.TupleKey
import HandS.StrMore
import HandS.DictComp
import HandS.NoneIn
import KE.KDictPairs
import HandS.TupAny
import HandS.Defaults
import HandS.MakeKwOnly
import HandS.Dict
import HandS.ForExc
import HandS.FStr
import HandS.ExcInit
import KE.KExcSuper
import HandS.SetFor
import HandS.ExcIs
import HandS.ExcField
import KE.KExcIs
import HandS.Lambda
import HandS.EndOwn
import KE.KNestM
import KE.RegKSuper
import KE.KDflt
import KE.DatumOrd
set_option Elab.async false
set_option linter.all false
set_option maxRecDepth 100000
set_option maxHeartbeats 16000000
namespace Say
open PySem PySem.Spec PyProof.Rows L2
/-! ### the text by places -/
def topS (i : Nat) : Stmt := PySem.Challenge.pw_saylore_k25_whole_by_other_letters_and_s.main.body.getD i (.Pass ⟨0, 0, 0, 0⟩)
/-! ### texts as lists of signs -/
abbrev T (l : List Nat) : Str := ⟨l.toArray⟩
theorem T_list (z : Str) : T z.cps.toList = z := by
  cases z; rfl
@[simp] theorem T_cps (l : List Nat) : (T l).cps.toList = l := rfl
theorem T_len (l : List Nat) : (T l).length = l.length := by
  show l.toArray.size = l.length
  simp
theorem T_inj {a b : List Nat} (h : T a = T b) : a = b := by
  have := congrArg (fun z : Str => z.cps.toList) h
  exact this
/-! ### heaps -/
/-- all that was tracked is as it was, but at r -/
def Stp (r : Addr) (H H' : Hp) : Prop := ∀ b o, H b = some o → b ≠ r → H' b = some o
theorem Stp.refl (r : Addr) (H : Hp) : Stp r H H := fun _ _ h _ => h
theorem Stp.trans {r : Addr} {H H1 H2 : Hp} (a : Stp r H H1) (b : Stp r H1 H2) : Stp r H H2 := fun c o h n => b c o (a c o h n) n
theorem Stp.of {r : Addr} {H H' : Hp} (e : Same H H') : Stp r H H' := fun b o h _ => e b o h
theorem Stp.seq {K : PySem.W.Frag} {r a : Addr} {H H' : Hp} {xs : List V} (e : Stp r H H') (n : a ≠ r) (h : SqL K H a xs) : SqL K H' a xs := by
  rcases h with (h | ⟨o, h⟩) | h
  · exact .inl (.inl (e _ _ h n))
  · exact .inl (.inr ⟨o, e _ _ h n⟩)
  · exact .inr h
theorem same_new {H : Hp} {p : Addr} (h : H p = none) (o : HO) : Same H (upd H p o) := fun b u q => by rw [upd_ne (ne_of_none q h)]; exact q
theorem stp_at {r : Addr} {H : Hp} (o : HO) : Stp r H (upd H r o) := fun b u q n => by rw [upd_ne n]; exact q
/-- tuples stay (frozen ones: as they were made) -/
def KT (H H' : Hp) : Prop := (∀ t xs, H t = some (.tup xs) → H' t = some (.tup xs)) ∧ ∀ t o xs, H t = some (.frz o (.tup xs)) → H' t = some (.frz o (.tup xs))
theorem KT.by {H H' : Hp} (f : ∀ t u, H t = some u → ((∃ xs, u = .tup xs) ∨ ∃ o xs, u = .frz o (.tup xs)) → H' t = some u) : KT H H' := ⟨fun t xs h => f t _ h (.inl ⟨xs, rfl⟩), fun t o xs h => f t _ h (.inr ⟨o, xs, rfl⟩)⟩
theorem KT.refl (H : Hp) : KT H H := ⟨fun _ _ h => h, fun _ _ _ h => h⟩
theorem KT.trans {H H1 H2 : Hp} (a : KT H H1) (b : KT H1 H2) : KT H H2 := ⟨fun t xs h => b.1 t xs (a.1 t xs h), fun t o xs h => b.2 t o xs (a.2 t o xs h)⟩
theorem KT.of {H H' : Hp} (e : Same H H') : KT H H' := ⟨fun t xs h => e t _ h, fun t o xs h => e t _ h⟩
/-- the row that is drawn from: the script at a -/
structure RowAt (K : PySem.W.Frag) (H : Hp) (r a : Addr) (ns : List Int) : Prop where
  row : ∃ i c m : Int, H r = some (.lst [.ref a, .int i, .int c, .int m]) ∧ 0 ≤ i ∧ 0 ≤ m ∧ m < 2147483647
  scr : SqL K H a (ns.map V.int)
  le : ns.length ≤ 63
theorem ints_ne {ns : List Int} {a : Addr} {l : List V} : ns.map V.int ≠ V.ref a :: l := by
  cases ns with
  | nil => intro z; cases z
  | cons x r => intro z; cases z
theorem Stp.scr {K : PySem.W.Frag} {r a : Addr} {H H' : Hp} {ns : List Int} {l : List V} (e : Stp r H H') (hr : H r = some (.lst (.ref a :: l))) (h : SqL K H a (ns.map V.int)) : SqL K H' a (ns.map V.int) := by
  rcases h with (h | ⟨o, h⟩) | h
  · refine .inl (.inl (e _ _ h fun z => ?_))
    subst z
    rw [hr] at h
    exact ints_ne (HO.lst.inj (Option.some.inj h)).symm
  · refine .inl (.inr ⟨o, e _ _ h fun z => ?_⟩)
    subst z
    rw [hr] at h
    cases h
  · exact .inr h
theorem RowAt.stp {K : PySem.W.Frag} {H H' : Hp} {r a : Addr} {ns : List Int} (R : RowAt K H r a ns) (e : Same H H') : RowAt K H' r a ns := by
  obtain ⟨⟨i, c, m, h, q⟩, s, l⟩ := R
  exact ⟨⟨i, c, m, e _ _ h, q⟩, e.seq s, l⟩
theorem RowAt.kt {K : PySem.W.Frag} {H H' : Hp} {r a : Addr} {ns : List Int} (R : RowAt K H r a ns) (e : Stp r H H') : KT H H' := KT.by fun t u h hu => by
  obtain ⟨⟨i, c, m, q, _⟩, _⟩ := R
  exact e t _ h (ne_of h q (by rcases hu with ⟨_, rfl⟩ | ⟨_, _, rfl⟩ <;> (intro z; cases z)))
theorem RowAt.put {K : PySem.W.Frag} {H : Hp} {r a : Addr} {ns : List Int} (R : RowAt K H r a ns) {i c m : Int} (h0 : 0 ≤ i) (h1 : 0 ≤ m) (h2 : m < 2147483647) : RowAt K (upd H r (.lst [.ref a, .int i, .int c, .int m])) r a ns := by
  obtain ⟨⟨i', c', m', q, _⟩, s, l⟩ := R
  exact ⟨⟨i, c, m, upd_same, h0, h1, h2⟩, (stp_at _).scr q s, l⟩
theorem small {n : Nat} (h : n ≤ 16000000) : n ≤ sizeLine := Nat.le_trans h (by decide)
theorem smallM {n : Nat} (h : n ≤ 16000000) : n < sizeLine := Nat.lt_of_le_of_lt h (by decide)
/-- law's promise -/
def spLaw (K : PySem.W.Frag) : Sp := fun vs H Q _ => ∃ (a : Addr) (ns : List Int), vs = [.ref a] ∧ SqL K H a (ns.map V.int) ∧ ns.length ≤ 63 ∧ ∀ H', Q (.bl true) H'
/-- _law_taken -/
def spTaken (K : PySem.W.Frag) : Sp := fun vs H Q _ => ∃ (r a : Addr) (ns : List Int) (n : Int), vs = [.ref r, .int n] ∧ RowAt K H r a ns ∧ 0 < n ∧ n < 100000 ∧
  ∀ (k : Int) (H' : Hp), 0 ≤ k → k < n → Stp r H H' → RowAt K H' r a ns → Q (.int k) H'
end Say
namespace Say
open PySem PySem.Spec PyProof.Rows L2
theorem T_app (a b : List Nat) : T a ++ T b = T (a ++ b) := TL.ext_tl (by rw [TL.tl_append])
theorem hash_eq : ("#" : Str) = T [35] := by decide +kernel
theorem nil_eq : ("" : Str) = T [] := by decide +kernel
theorem joinL_nil : ∀ ls : List (List Nat), TL.joinL [] ls = ls.flatten
  | [] => rfl
  | [p] => by simp [TL.joinL]
  | p :: q :: r => by
    show p ++ ([] ++ TL.joinL [] (q :: r)) = _
    rw [joinL_nil (q :: r)]
    simp
theorem join_nil (ls : List (List Nat)) : Txt.join (T []) (ls.map T) = T ls.flatten := by
  refine TL.ext_tl ?_
  rw [TL.join_eq, TL.tl_join]
  show TL.joinL [] ((ls.map T).map TL.tl) = ls.flatten
  rw [List.map_map, ← joinL_nil]
  congr 1
  exact List.map_id' ls
theorem map_single : ∀ l : List Nat, (l.map fun c => [c]).flatten = l
  | [] => rfl
  | c :: r => by
    show [c] ++ (r.map fun c => [c]).flatten = c :: r
    rw [map_single r]; rfl
/-- the row's own list -/
def RowIn (H : Hp) (r a : Addr) : Prop := ∃ i c m : Int, H r = some (.lst [.ref a, .int i, .int c, .int m]) ∧ 0 ≤ i ∧ 0 ≤ m ∧ m < 2147483647
theorem RowAt.in {K : PySem.W.Frag} {H : Hp} {r a : Addr} {ns : List Int} (R : RowAt K H r a ns) : RowIn H r a := R.row
theorem RowAt.of {K : PySem.W.Frag} {H H' : Hp} {r a : Addr} {ns : List Int} (R : RowAt K H r a ns) (e : Stp r H H') (w : RowIn H' r a) : RowAt K H' r a ns := by
  obtain ⟨⟨i, c, m, q, _⟩, s, l⟩ := R
  exact ⟨w, e.scr q s, l⟩
theorem RowIn.upd {H : Hp} {r a D : Addr} {o : HO} (w : RowIn H r a) (n : r ≠ D) : RowIn (upd H D o) r a := by
  obtain ⟨i, c, m, q, b⟩ := w
  exact ⟨i, c, m, by rw [upd_ne n]; exact q, b⟩
theorem RowAt.nw {K : PySem.W.Frag} {H : Hp} {r a D : Addr} {ns : List Int} (R : RowAt K H r a ns) (h : H D = none) : r ≠ D := by
  obtain ⟨⟨i, c, m, q, _⟩, s, l⟩ := R
  exact ne_of_none q h
theorem Stp.put {r D : Addr} {H H' : Hp} (e : Stp r H H') (h : H D = none) (o : HO) : Stp r H (upd H' D o) := fun b u q n => by
  rw [upd_ne (ne_of_none q h)]
  exact e b u q n
theorem Stp.one {r D : Addr} {H H' : Hp} {o : HO} (e : Stp r H H') (h : H D = some o) (n : r ≠ D) : H' D = some o := e _ _ h (Ne.symm n)
/-- signs of a text, a list of one-sign texts -/
def sg (l : List Nat) : List V := l.map fun c => V.str (T [c])
theorem sg_map (l : List Nat) : sg l = ((l.map fun c => [c]).map T).map V.str := by
  unfold sg
  rw [List.map_map, List.map_map]
  rfl
theorem sg_len (l : List Nat) : (sg l).length = l.length := by unfold sg; rw [List.length_map]
theorem sum_ones : ∀ l : List Nat, (((l.map fun c => [c]).map T).map (fun z : Str => z.length)).sum = l.length
  | [] => rfl
  | c :: r => by
    show 1 + (((r.map fun c => [c]).map T).map (fun z : Str => z.length)).sum = r.length + 1
    rw [sum_ones r]; omega
end Say
namespace Say
open PySem PySem.Spec PyProof.Rows L2
/-- a def that stands at the module's name and keeps its promise -/
def Df (P : Program) (w : World) (K : PySem.W.Frag) (mg : Str → Option Value) (base : Heap) (x : Str) (ps : List Str) (k : Nat) (sp : Sp) : Prop :=
  ∃ f fd, FnOk P w K mg base CX0 k f fd ps sp ∧ PySem.W.keepIn K (.ref f) = true ∧ Binds K fd ps [] ∧ mg x = some (.ref f)
theorem hash_app (L : List Nat) : (Str.ofString "#" ++ T L) = T (35 :: L) := by
  rw [show Str.ofString "#" = T [35] from hash_eq, T_app]
  rfl
theorem app_hash (L : List Nat) : (T L ++ Str.ofString "#") = T (L ++ [35]) := by
  rw [show Str.ofString "#" = T [35] from hash_eq, T_app]
theorem T_at {l : List Nat} {i c : Nat} (h : (T l).cps[i]? = some c) : l[i]? = some c := by
  have h : l.toArray[i]? = some c := h
  rw [List.getElem?_toArray] at h
  exact h
theorem T_at' {l : List Nat} {i c : Nat} (h : l[i]? = some c) : (T l).cps[i]? = some c := by
  show l.toArray[i]? = some c
  rw [List.getElem?_toArray]
  exact h
theorem T_size (l : List Nat) : (T l).cps.size = l.length := by
  show l.toArray.size = _
  simp
theorem take_next {l : List Nat} {i c : Nat} (h : l[i]? = some c) : l.take (i + 1) = l.take i ++ [c] := by
  rw [List.take_add_one, h]; rfl
theorem sg_app (a : List Nat) (c : Nat) : sg a ++ [V.str (T [c])] = sg (a ++ [c]) := by
  unfold sg
  rw [List.map_append]
  rfl
theorem len_hash : (Str.ofString "#").length = 1 := by decide +kernel
end Say
namespace Say
open PySem PySem.Spec PyProof.Rows L2
theorem at_list {α : Type} {l : List α} {z : Int} (h : z.toNat < l.length) (h0 : 0 ≤ z) : atI l z = some l[z.toNat] := by
  have q : l[z.toNat]? = some l[z.toNat] := List.getElem?_eq_getElem h
  have := atI_nat q
  rwa [show ((z.toNat : Nat) : Int) = z by omega] at this
end Say
namespace Say
open PySem PySem.Spec PyProof.Rows L2
/-! ### the data -/
structure Rule where
  ah : List Nat
  ow : List Nat
  be : List Nat
  so : List Nat
def Rule.vs (ρ : Rule) : List V := [.str (T ρ.ah), .str (T ρ.ow), .str (T ρ.be), .str (T ρ.so)]
/-- a rule of a book of the letters L -/
structure RuleOk (L : List Nat) (ρ : Rule) : Prop where
  ah : ρ.ah.Sublist (35 :: L)
  ow : ∀ c ∈ ρ.ow, c ∈ L
  o1 : 1 ≤ ρ.ow.length
  o2 : ρ.ow.length ≤ 2
  be : ρ.be.Sublist (35 :: L)
  so : ∀ c ∈ ρ.so, 65 ≤ c ∧ c ≤ 90
  s3 : ρ.so.length ≤ 3
/-- the tuple at R holds the rules -/
def RulesAt (H : Hp) (R : Addr) (rs : List Rule) : Prop := ∃ ts : List Addr, H R = some (.tup (ts.map V.ref)) ∧ Paired (fun t ρ => H t = some (.tup (Rule.vs ρ))) ts rs
theorem paired_mono {α β : Type} {F G : α → β → Prop} (h : ∀ x y, F x y → G x y) : ∀ {xs : List α} {ys : List β}, Paired F xs ys → Paired G xs ys
  | _, _, .nil => .nil
  | _, _, .cons a b => .cons (h _ _ a) (paired_mono h b)
theorem paired_app {α β : Type} {F : α → β → Prop} : ∀ {xs : List α} {ys : List β} {xs' : List α} {ys' : List β}, Paired F xs ys → Paired F xs' ys' → Paired F (xs ++ xs') (ys ++ ys')
  | _, _, _, _, .nil, h => h
  | _, _, _, _, .cons a b, h => .cons a (paired_app b h)
theorem paired_len {α β : Type} {F : α → β → Prop} : ∀ {xs : List α} {ys : List β}, Paired F xs ys → xs.length = ys.length
  | _, _, .nil => rfl
  | _, _, .cons a b => by simp [paired_len b]
theorem paired_at {α β : Type} {F : α → β → Prop} : ∀ {xs : List α} {ys : List β}, Paired F xs ys → ∀ {i : Nat} {x : α}, xs[i]? = some x → ∃ y, ys[i]? = some y ∧ F x y
  | _, _, .nil, i, x, h => by cases h
  | _, _, .cons r t, 0, x, h => by
    have e := Option.some.inj h
    subst e
    exact ⟨_, rfl, r⟩
  | _, _, .cons r t, i + 1, x, h => paired_at t h
theorem paired_at' {α β : Type} {F : α → β → Prop} : ∀ {xs : List α} {ys : List β}, Paired F xs ys → ∀ {i : Nat} {y : β}, ys[i]? = some y → ∃ x, xs[i]? = some x ∧ F x y
  | _, _, .nil, i, x, h => by cases h
  | _, _, .cons r t, 0, x, h => by
    have e := Option.some.inj h
    subst e
    exact ⟨_, rfl, r⟩
  | _, _, .cons r t, i + 1, x, h => paired_at' t h
theorem RulesAt.kt {H H' : Hp} {R : Addr} {rs : List Rule} (h : RulesAt H R rs) (e : KT H H') : RulesAt H' R rs := by
  obtain ⟨ts, h1, h2⟩ := h
  exact ⟨ts, e.1 _ _ h1, paired_mono (fun t ρ q => e.1 _ _ q) h2⟩
theorem Stp.kt {r a : Addr} {H H' : Hp} (e : Stp r H H') (w : RowIn H r a) : KT H H' := KT.by fun t u h hu => by
  obtain ⟨i, c, m, q, _⟩ := w
  exact e t _ h (ne_of h q (by rcases hu with ⟨_, rfl⟩ | ⟨_, _, rfl⟩ <;> (intro z; cases z)))
theorem kt_new {H : Hp} {D : Addr} {o : HO} (h : H D = none) : KT H (upd H D o) := KT.of (same_new h o)
theorem kt_upd {H : Hp} {D : Addr} {l : List V} {o : HO} (h : H D = some (.lst l)) : KT H (upd H D o) := KT.by fun t u q hu => by
  rw [upd_ne (ne_of q h (by rcases hu with ⟨_, rfl⟩ | ⟨_, _, rfl⟩ <;> (intro z; cases z)))]
  exact q
end Say
namespace Say
open PySem PySem.Spec PyProof.Rows L2
/-- the built-in names that the text leaves alone -/
structure Bn (mg : Str → Option Value) : Prop where
  len : mg "len" = none
  rng : mg "range" = none
  tup : mg "tuple" = none
  lst : mg "list" = none
  isi : mg "isinstance" = none
  str : mg "str" = none
  all : mg "all" = none
  enu : mg "enumerate" = none
  srt : mg "sorted" = none
  bool : mg "bool" = none
def isText (l S : List Nat) (lo hi : Nat) : Bool := decide (lo ≤ l.length) && (decide (l.length ≤ hi) && l.all fun c => decide (c ∈ S))
theorem isText_of {l S : List Nat} {lo hi : Nat} (h1 : lo ≤ l.length) (h2 : l.length ≤ hi) (h3 : ∀ c ∈ l, c ∈ S) : isText l S lo hi = true := by
  unfold isText
  rw [decide_eq_true h1, decide_eq_true h2]
  simp only [Bool.true_and, List.all_eq_true, decide_eq_true_eq]
  exact h3
/-- each sign is more than the one ahead -/
def rises : List Nat → Bool
  | a :: b :: r => decide (a < b) && rises (b :: r)
  | _ => true
end Say
namespace Say
open PySem PySem.Spec PyProof.Rows L2
theorem atI_of {α : Type} {xs : List α} {z : Int} {j : Nat} {v : α} (h : xs[j]? = some v) (e : z = (j : Int)) : atI xs z = some v := by
  rw [e]
  exact atI_nat h
end Say
namespace Say
open PySem PySem.Spec PyProof.Rows L2
section
variable {P : Program} {w : World} {K : PySem.W.Frag} {mg : Str → Option Value} {base : Heap}
abbrev sIsText : Stmt := topS 39
theorem scIsText : FnScope ["text", "signs", "least", "most", "sign"] ["text", "signs", "least", "most"] (defScope sIsText) := ⟨rfl, rfl, rfl, by decide +kernel, rfl, by decide +kernel, by decide +kernel⟩
def spIsText : Sp := fun vs H Q _ => ∃ (l S : List Nat) (lo hi : Nat), vs = [.str (T l), .str (T S), .int lo, .int hi] ∧ l.length ≤ 100 ∧
  ∀ (H' : Hp), Same H H' → Q (.bl (isText l S lo hi)) H'
theorem ok_isText {f : Addr} {fd : FuncData} (F : Fun K "is_text" "is_text" sIsText f fd) (B : Bn mg) :
    FnOk P w K mg base CX0 1 f fd ["text", "signs", "least", "most"] spIsText := by
  refine F.ok scIsText (fun vs H Q E h => ?_) (fun cdv A outer s H vs Q E hr h => ?_)
  · obtain ⟨l, S, lo, hi, rfl, _⟩ := h
    rfl
  · obtain ⟨l, S, lo, hi, rfl, hz, q⟩ := h
    refine ⟨_, pss_cons (ps_if (PW.pt (pw_or (pt_not (pt_val (pe_callB call_isi (by rfl) B.isi (by decide +kernel) (pa_cons (pv 0) (pa_cons (pe_bltn (v := .ty "str") rfl B.str (by decide +kernel) rfl) pa_nil)))))
          (pw_or1 (pt_not (pt_chain op_le op_le (pv 2) (pe_callB call_len_str (by rfl) B.len PySem.boot_len (pa_cons (pv 0) pa_nil)) (pv 3)))))) (pss_one (ps_ret pe_bl)) pss_nil)
      (pss_one (ps_ret (pe_callB (cr_all rfl) (by rfl) B.all (by decide +kernel) (pa_cons (pe_lc (own := [("sign", 4)]) (g := gName 4) rfl scIsText.nd (pi_str (pv 0))
        (blkOk_by (N := ["text", "signs", "least", "most", "sign"]) (sc := defScope sIsText) (by decide +kernel)) (fun _ _ _ _ _ => pg_name (i := 4) scIsText.nd rfl (.inl rfl))
        (fun _ _ _ _ _ => pts_nil) (fun _ _ _ _ _ => pe_cmpR op_in_sign (pv 4) (pv 1) rfl)) pa_nil)))), ?_⟩
    refine ⟨_, rfl, _, _, .type "str", _, true, rfl, ClsV.ty _, .base (.str _), kit_ty (by decide +kernel), true, rfl, ?_⟩
    refine iteF ?_
    have hlen : (T l).length ≤ sizeLine := by rw [T_len]; exact small (by omega)
    refine ⟨_, rfl, _, rfl, _, rfl, hlen, _, _, rfl, rfl, _, rfl, ?_⟩
    have eT : (lo : Int) ≤ ((T l).length : Int) ↔ lo ≤ l.length := by rw [T_len]; omega
    have eU : ((T l).length : Int) ≤ (hi : Int) ↔ l.length ≤ hi := by rw [T_len]; omega
    refine ite2 (fun c1 => ?_) (fun c1 => ?_)
    · refine ⟨_, rfl, _, _, rfl, rfl, _, rfl, ?_⟩
      have c1' := eT.mp (of_decide_eq_true c1)
      by_cases c2 : ((T l).length : Int) ≤ (hi : Int)
      · rw [decide_eq_true c2]
        have c2' := eU.mp c2
        refine iteF ?_
        refine ⟨_, rfl, T l, rfl, fun D hD => ?_⟩
        refine lc_it (walk_str) (fun i H2 => H2 D = some (.lst (((l.take i).map fun c => decide (c ∈ S)).map V.bl)) ∧ Same H H2) ?_ (fun _ _ _ _ => trivial) ?_ ?_
        · exact ⟨upd_same, same_new hD _⟩
        · rintro i x H2 H2' hi' ⟨e1, e2⟩ ⟨rfl, c, hc, rfl⟩
          have hc := T_at hc
          refine ⟨rfl, ?_⟩
          refine ⟨_, rfl, _, rfl, c, T S, rfl, rfl, _, e1, ?_, ?_, ?_⟩
          · rw [List.length_map, List.length_map, List.length_take]
            exact small1000 (by omega)
          · rw [upd_same, take_next hc, List.map_append, List.map_append]
            rfl
          · exact fun b u q => by
              rw [upd_ne (ne_of_none q hD)]
              exact e2 b u q
        · rintro H2 ⟨e1, e2⟩
          rw [T_size, List.take_length] at e1
          refine ⟨D, _, rfl, .inl (.inl e1), ?_⟩
          have := q H2 e2
          unfold isText at this
          rw [decide_eq_true c1', decide_eq_true c2', Bool.true_and, Bool.true_and] at this
          rw [List.all_map]
          exact this
      · rw [decide_eq_false c2]
        refine iteT ?_
        have := q H (Same.refl H)
        unfold isText at this
        rw [decide_eq_false (fun z => c2 (eU.mpr z)), Bool.false_and, Bool.and_false] at this
        exact this
    · refine ⟨_, rfl, iteT ?_⟩
      have := q H (Same.refl H)
      unfold isText at this
      rw [decide_eq_false (fun z => c1 (decide_eq_true (eT.mpr z))), Bool.false_and] at this
      exact this
end
end Say
namespace Say
open PySem PySem.Spec PyProof.Rows L2
section
variable {P : Program} {w : World} {K : PySem.W.Frag} {mg : Str → Option Value} {base : Heap}
abbrev sRise : Stmt := topS 40
theorem scRise : FnScope ["text", "at"] ["text"] (defScope sRise) := ⟨rfl, rfl, rfl, by decide +kernel, rfl, by decide +kernel, by decide +kernel⟩
/-- the j-th sign against the next, for j below n -/
def risesTo (l : List Nat) (n : Nat) : List Bool := (List.range n).map fun j => decide ((l.getD j 0) < (l.getD (j + 1) 0))
theorem rises_range : ∀ l : List Nat, (risesTo l (l.length - 1)).all id = rises l
  | [] => rfl
  | [_] => rfl
  | a :: b :: r => by
    have ih := rises_range (b :: r)
    show (risesTo (a :: b :: r) (r.length + 1)).all id = (decide (a < b) && rises (b :: r))
    rw [← ih]
    unfold risesTo
    rw [List.range_succ_eq_map, List.map_cons, List.map_map, List.all_cons]
    rfl
theorem risesTo_next (l : List Nat) (n : Nat) : risesTo l (n + 1) = risesTo l n ++ [decide ((l.getD n 0) < (l.getD (n + 1) 0))] := by
  unfold risesTo
  rw [List.range_succ, List.map_append]
  rfl
theorem risesTo_len (l : List Nat) (n : Nat) : (risesTo l n).length = n := by
  unfold risesTo
  rw [List.length_map, List.length_range]
def spRise : Sp := fun vs H Q _ => ∃ (l : List Nat), vs = [.str (T l)] ∧ l.length ≤ 100 ∧ ∀ (H' : Hp), Same H H' → Q (.bl (rises l)) H'
theorem lt_one (a b : Nat) : decide (([a] : List Nat) < [b]) = decide (a < b) := by
  by_cases h : a < b
  · rw [decide_eq_true h, decide_eq_true]
    exact List.Lex.rel h
  · rw [decide_eq_false h, decide_eq_false]
    intro z
    cases z with
    | rel q => exact h q
    | cons q => cases q
theorem ok_rise {f : Addr} {fd : FuncData} (F : Fun K "is_rising" "is_rising" sRise f fd) (B : Bn mg) : FnOk P w K mg base CX0 1 f fd ["text"] spRise := by
  refine F.ok scRise (fun vs H Q E h => ?_) (fun cdv A outer s H vs Q E hr h => ?_)
  · obtain ⟨l, rfl, _⟩ := h
    rfl
  · obtain ⟨l, rfl, hz, q⟩ := h
    have hlen : (T l).length ≤ sizeLine := by rw [T_len]; exact small (by omega)
    refine ⟨_, pss_one (ps_ret (pe_callB (cr_all rfl) (by rfl) B.all (by decide +kernel) (pa_cons (pe_lc (own := [("at", 1)]) (g := gName 1) rfl scRise.nd
        (pi_range2 rfl B.rng (pa_cons pe_int (pa_cons (pe_callB call_len_str (by rfl) B.len PySem.boot_len (pa_cons (pv 0) pa_nil)) pa_nil)))
        (blkOk_by (N := ["text", "at"]) (sc := defScope sRise) (by decide +kernel)) (fun _ _ _ _ _ => pg_name (i := 1) scRise.nd rfl (.inl rfl))
        (fun _ _ _ _ _ => pts_nil) (fun _ _ _ _ _ => pe_cmpR op_lt_str (pe_ix ix_str (pv 0) (pe_op op_sub (pv 1) pe_int) (fun _ _ => rfl)) (pe_ix ix_str (pv 0) (pv 1) (fun _ _ => rfl)) (nomark _))) pa_nil))), ?_⟩
    refine ⟨_, rfl, _, rfl, hlen, 1, _, rfl, ⟨by decide, by decide, by omega, by rw [T_len]; omega⟩, fun D hD => ?_⟩
    refine lc_it (walk_range) (fun i H2 => H2 D = some (.lst ((risesTo l i).map V.bl)) ∧ Same H H2) ?_ (fun _ _ _ _ => trivial) ?_ ?_
    · exact ⟨upd_same, same_new hD _⟩
    · rintro i x H2 H2' hi' ⟨e1, e2⟩ ⟨rfl, rfl⟩
      rw [T_len] at hi'
      have g1 : i < l.length := by omega
      have g2 : i + 1 < l.length := by omega
      refine ⟨rfl, ?_⟩
      have q1 : (T l).cps.toList[i]? = some (l.getD i 0) := by rw [T_cps, List.getD_eq_getElem?_getD, List.getElem?_eq_getElem g1]; rfl
      have q2 : (T l).cps.toList[i + 1]? = some (l.getD (i + 1) 0) := by rw [T_cps, List.getD_eq_getElem?_getD, List.getElem?_eq_getElem g2]; rfl
      refine ⟨_, rfl, _, rfl, _, _, rfl, rfl, T l, 1 + (i : Int) - 1, l.getD i 0, rfl, rfl, hlen, atI_of q1 (by omega), ?_⟩
      refine ⟨_, rfl, _, rfl, T l, 1 + (i : Int), l.getD (i + 1) 0, rfl, rfl, hlen, atI_of q2 (by omega), ?_⟩
      refine ⟨_, _, rfl, rfl, _, e1, ?_, ?_, ?_⟩
      · rw [List.length_map, risesTo_len]
        exact small1000 (by omega)
      · rw [upd_same, risesTo_next, List.map_append]
        show some (HO.lst (_ ++ [V.bl (decide (([l.getD i 0] : List Nat) < [l.getD (i + 1) 0]))])) = _
        rw [lt_one]
        rfl
      · exact fun b u q => by
          rw [upd_ne (ne_of_none q hD)]
          exact e2 b u q
    · rintro H2 ⟨e1, e2⟩
      rw [show (((T l).length : Int) - 1).toNat = l.length - 1 by rw [T_len]; omega] at e1
      refine ⟨D, _, rfl, .inl (.inl e1), ?_⟩
      rw [rises_range]
      exact q H2 e2
end
end Say
namespace Say
open PySem PySem.Spec PyProof.Rows L2
/-- the letters of a book -/
structure LetOk (L : List Nat) : Prop where
  l2 : 2 ≤ L.length
  l4 : L.length ≤ 4
  up : rises L = true
  az : ∀ c ∈ L, 97 ≤ c ∧ c ≤ 122
theorem rises_iff : ∀ l : List Nat, rises l = true ↔ l.Pairwise (· < ·)
  | [] => by simp [rises]
  | [a] => by simp [rises]
  | a :: b :: r => by
    have ih := rises_iff (b :: r)
    show (decide (a < b) && rises (b :: r)) = true ↔ _
    rw [Bool.and_eq_true, ih, List.pairwise_cons (a := a)]
    constructor
    · rintro ⟨h1, h2⟩
      have h1 := of_decide_eq_true h1
      refine ⟨fun x hx => ?_, h2⟩
      rcases List.mem_cons.mp hx with rfl | hx
      · exact h1
      · exact Nat.lt_trans h1 ((List.pairwise_cons.mp h2).1 x hx)
    · rintro ⟨h1, h2⟩
      exact ⟨decide_eq_true (h1 b (List.mem_cons_self ..)), h2⟩
theorem LetOk.hash {L : List Nat} (h : LetOk L) : rises (35 :: L) = true := (rises_iff _).mpr (List.pairwise_cons.mpr ⟨fun c hc => by have := (h.az c hc).1; omega, (rises_iff _).mp h.up⟩)
theorem side_ok {L z : List Nat} (h : LetOk L) (s : z.Sublist (35 :: L)) : (isText z (35 :: L) 0 (L.length + 1) && rises z) = true := by
  rw [Bool.and_eq_true]
  exact ⟨isText_of (Nat.zero_le _) (by have := s.length_le; simpa using this) fun c hc => s.subset hc, (rises_iff _).mpr (((rises_iff _).mp h.hash).sublist s)⟩
/-- a constant that holds a number -/
abbrev KI (mg : Str → Option Value) (x : Str) (n : Int) : Prop := ∃ t, mg x = some (.int n t)
/-- what the module's constants hold -/
structure Cn (mg : Str → Option Value) : Prop where
  small : ∃ t, mg "SMALL" = some (.str "abcdefghijklmnopqrstuvwxyz" t)
  caps : ∃ t, mg "CAPITALS" = some (.str "ABCDEFGHIJKLMNOPQRSTUVWXYZ" t)
  edge : ∃ t, mg "EDGE" = some (.str "#" t)
  mrul : ∃ t, mg "MOST_RULES" = some (.int 12 t)
  lexc : ∃ t, mg "LONGEST_EXCEPTION" = some (.int 8 t)
  lrs : ∃ t, mg "LONGEST_RULE_SOUNDS" = some (.int 3 t)
  lso : ∃ t, mg "LONGEST_SOUNDS" = some (.int 36 t)
def smallL : List Nat := (List.range 26).map (· + 97)
def capsL : List Nat := (List.range 26).map (· + 65)
theorem small_eq : Str.ofString "abcdefghijklmnopqrstuvwxyz" = T smallL := by decide +kernel
theorem caps_eq : Str.ofString "ABCDEFGHIJKLMNOPQRSTUVWXYZ" = T capsL := by decide +kernel
theorem mem_small {c : Nat} (h : 97 ≤ c ∧ c ≤ 122) : c ∈ smallL := List.mem_map.mpr ⟨c - 97, List.mem_range.mpr (by omega), by omega⟩
theorem mem_caps {c : Nat} (h : 65 ≤ c ∧ c ≤ 90) : c ∈ capsL := List.mem_map.mpr ⟨c - 65, List.mem_range.mpr (by omega), by omega⟩
section
variable {P : Program} {w : World} {K : PySem.W.Frag} {mg : Str → Option Value} {base : Heap}
abbrev psIsText : List Str := ["text", "signs", "least", "most"]
abbrev sBeside : Stmt := topS 35
theorem scBeside : FnScope ["letters", "signs"] ["letters", "signs"] (defScope sBeside) := ⟨rfl, rfl, rfl, by decide +kernel, rfl, by decide +kernel, by decide +kernel⟩
def spBeside : Sp := fun vs H Q _ => ∃ (L z : List Nat), vs = [.str (T L), .str (T z)] ∧ L.length ≤ 50 ∧ z.length ≤ 100 ∧ ∀ (H' : Hp), Same H H' → Q (.bl (isText z (35 :: L) 0 (L.length + 1) && rises z)) H'
theorem ok_beside {f : Addr} {fd : FuncData} (F : Fun K "is_beside" "is_beside" sBeside f fd) (B : Bn mg) (C : Cn mg) (DT : Df P w K mg base "is_text" psIsText 1 spIsText) (DR : Df P w K mg base "is_rising" ["text"] 1 spRise) :
    FnOk P w K mg base CX0 2 f fd ["letters", "signs"] spBeside := by
  obtain ⟨fT, fdT, GT, kT, bT, mT⟩ := DT
  obtain ⟨fR, fdR, GR, kR, bR, mR⟩ := DR
  obtain ⟨tE, mE⟩ := C.edge
  refine F.ok scBeside (fun vs H Q E h => ?_) (fun cdv A outer s H vs Q E hr h => ?_)
  · obtain ⟨L, z, rfl, _⟩ := h
    rfl
  · obtain ⟨L, z, rfl, hL, hz, q⟩ := h
    refine ⟨_, pss_one (ps_ret (pe_and (pe_call GT hr (by rfl) mT kT bT .nil pass0 (pa_cons (pv 1) (pa_cons (pe_op op_add_str (pe_glob (v := .str "#") rfl mE ⟨_, rfl⟩) (pv 0)) (pa_cons pe_int (pa_cons (pe_op op_add (pe_callB call_len_str (by rfl) B.len PySem.boot_len (pa_cons (pv 0) pa_nil)) pe_int) pa_nil)))))
        (pe_one (pe_call GR hr (by rfl) mR kR bR .nil pass0 (pa_cons (pv 1) pa_nil))))), ?_⟩
    have hl : (T L).length ≤ sizeLine := by rw [T_len]; exact small (by omega)
    refine ⟨_, rfl, _, rfl, _, _, rfl, rfl, (by rw [len_hash, T_len]; exact small (by omega)), _, rfl, _, rfl, hl, _, _, rfl, rfl, z, 35 :: L, 0, L.length + 1, ?_, hz, fun H1 s1 => ?_⟩
    · rw [hash_app, T_len]
      rfl
    refine ⟨_, rfl, ite2 (fun c => ?_) (fun c => ?_)⟩
    · refine ⟨_, rfl, z, rfl, hz, fun H2 s2 => ?_⟩
      have := q H2 (s1.trans s2)
      rw [c, Bool.true_and] at this
      exact this
    · have := q H1 s1
      rw [Bool.eq_false_iff.mpr c, Bool.false_and] at this
      exact this
abbrev sIsRule : Stmt := topS 34
theorem scIsRule : FnScope ["letters", "rule", "ahead", "own", "behind", "sounds"] ["letters", "rule"] (defScope sIsRule) := ⟨rfl, rfl, rfl, by decide +kernel, rfl, by decide +kernel, by decide +kernel⟩
def spIsRule : Sp := fun vs H Q _ => ∃ (L : List Nat) (t : Addr) (ρ : Rule), vs = [.str (T L), .ref t] ∧ H t = some (.tup ρ.vs) ∧ LetOk L ∧ RuleOk L ρ ∧ ∀ (H' : Hp), Same H H' → Q (.bl true) H'
theorem ok_isRule {f : Addr} {fd : FuncData} (F : Fun K "is_rule" "is_rule" sIsRule f fd) (B : Bn mg) (C : Cn mg) (DT : Df P w K mg base "is_text" psIsText 1 spIsText) (DB : Df P w K mg base "is_beside" ["letters", "signs"] 2 spBeside) :
    FnOk P w K mg base CX0 3 f fd ["letters", "rule"] spIsRule := by
  obtain ⟨fT, fdT, GT, kT, bT, mT⟩ := DT
  obtain ⟨fB, fdB, GB, kB, bB, mB⟩ := DB
  obtain ⟨tC, mC⟩ := C.caps
  obtain ⟨tS, mS⟩ := C.lrs
  refine F.ok scIsRule (fun vs H Q E h => ?_) (fun cdv A outer s H vs Q E hr h => ?_)
  · obtain ⟨L, t, ρ, rfl, _⟩ := h
    rfl
  · obtain ⟨L, t, ρ, rfl, ht, hL, hρ, q⟩ := h
    have hr1 : Room 1 _ := hr.mono (by decide)
    refine ⟨_, pss_cons (ps_if (PW.pt (pw_or (pt_not (pt_val (pe_callB call_isi (by rfl) B.isi (by decide +kernel) (pa_cons (pv 1) (pa_cons (pe_bltn (v := .ty "tuple") rfl B.tup (by decide +kernel) rfl) pa_nil)))))
          (pw_or1 (pt_cmpR op_ne (pe_callB call_len (by rfl) B.len PySem.boot_len (pa_cons (pv 1) pa_nil)) pe_int (nomark _))))) (pss_one (ps_ret pe_bl)) pss_nil)
      (pss_cons (ps_asg (pv 1) (pg_tup (by rfl) (pgs_cons (pg_name (i := 2) scIsRule.nd rfl (.inl rfl)) (pgs_cons (pg_name (i := 3) scIsRule.nd rfl (.inl rfl)) (pgs_cons (pg_name (i := 4) scIsRule.nd rfl (.inl rfl)) (pgs_cons (pg_name (i := 5) scIsRule.nd rfl (.inl rfl)) pgs_nil))))))
      (pss_one (ps_ret (pe_and (pe_call GB hr (by rfl) mB kB bB .nil pass0 (pa_cons (pv 0) (pa_cons (pv 2) pa_nil)))
        (pe_and (pe_call GT hr1 (by rfl) mT kT bT .nil pass0 (pa_cons (pv 3) (pa_cons (pv 0) (pa_cons pe_int (pa_cons pe_int pa_nil)))))
        (pe_and (pe_call GB hr (by rfl) mB kB bB .nil pass0 (pa_cons (pv 0) (pa_cons (pv 4) pa_nil)))
        (pe_one (pe_call GT hr1 (by rfl) mT kT bT .nil pass0 (pa_cons (pv 5) (pa_cons (pe_glob (v := .str "ABCDEFGHIJKLMNOPQRSTUVWXYZ") rfl mC ⟨_, rfl⟩) (pa_cons pe_int (pa_cons (pe_glob (v := .int 3) rfl mS ⟨_, rfl⟩) pa_nil)))))))))))), ?_⟩
    have l5 := hρ.ah.length_le
    have l6 := hρ.be.length_le
    rw [List.length_cons] at l5 l6
    have l4 := hL.l4
    refine ⟨_, rfl, _, _, .type "tuple", _, true, rfl, ClsV.ty _, .base (.tup ht), kit_ty (by decide +kernel), true, rfl, iteF ?_⟩
    refine ⟨_, rfl, _, 4, rfl, .inr ⟨_, .inl (.inl ht), rfl⟩, rfl, _, rfl, iteF ?_⟩
    refine ⟨_, rfl, t, _, rfl, .inl (.inl ht), rfl, _, _, rfl, _, _, rfl, _, _, rfl, _, _, rfl, rfl, ?_⟩
    refine ⟨_, rfl, _, rfl, L, ρ.ah, rfl, by omega, by omega, fun H1 s1 => ?_⟩
    refine ⟨_, rfl, ?_⟩
    rw [side_ok hL hρ.ah]
    refine iteT ?_
    refine ⟨_, rfl, _, rfl, ρ.ow, L, 1, 2, rfl, (by have := hρ.o2; omega), fun H2 s2 => ?_⟩
    refine ⟨_, rfl, ?_⟩
    rw [isText_of hρ.o1 hρ.o2 hρ.ow]
    refine iteT ?_
    refine ⟨_, rfl, _, rfl, L, ρ.be, rfl, by omega, by omega, fun H3 s3 => ?_⟩
    refine ⟨_, rfl, ?_⟩
    rw [side_ok hL hρ.be]
    refine iteT ?_
    refine ⟨_, rfl, ρ.so, capsL, 0, 3, (by rw [caps_eq]; rfl), (by have := hρ.s3; omega), fun H4 s4 => ?_⟩
    rw [isText_of (Nat.zero_le _) hρ.s3 fun c hc => mem_caps (hρ.so c hc)]
    exact q H4 (s1.trans (s2.trans (s3.trans s4)))
end
end Say
namespace PySem
open Sem (wp)
open AutoSeq1 (wpAny_loadPart')
/-- enumerate(tuple): what the making of it meets -/
theorem say_meets_enumT (l : Addr) (o0 : Obj) (items : Array Value) (n : Nat) (clC : o0.cls = .type "tuple") (dtD : o0.data = .seq items n) :
    Meets (Builtin.«enumerate.__new__» ⟨[.type "enumerate", .ref l], []⟩) (fun _ R s => s.heap.get? l = some o0 ∧
      R (.ok (.ret (.ref (s.heap.push { cls := .type "tuple_iterator", data := .fields #[.ref l, .int 0 0] }).objs.size)))
        { s with heap := (s.heap.push { cls := .type "tuple_iterator", data := .fields #[.ref l, .int 0 0] }).push { cls := .type "enumerate", data := .fields #[.none, .bool false, .ref s.heap.objs.size, rawInt 0, .none, .none] } }) :=
  .of_wp fun prog w A R s h => by
    obtain ⟨txP, g, d, tkn, os⟩ := s; obtain ⟨lnT, h⟩ := h
    obtain ⟨oc, od, dt, osl⟩ := o0
    replace clC : oc = .type "tuple" := clC
    replace dtD : dt = .seq items n := dtD
    subst clC dtD
    have hsub := sub_enumerate
    have hL : Heap.IsTuple (Shared.heap ⟨txP, g, d, tkn, os⟩) l items := ⟨_, lnT, rfl, n, rfl⟩
    wp_walk using wpAny_loadPart' lnT
    refine wpAny_stack_any fun sta => wpAny_pure ?_
    split
    · rename_i c _ _ _ _ _
      cases (c == Value.type "enumerate")
      · wp_walk using wpAny_loadPart' lnT, wpAny_pyIter_tuple hL
        exact ⟨_, rfl, h⟩
      · wp_walk using wpAny_loadPart' lnT, wpAny_pyIter_tuple hL
        exact ⟨_, rfl, h⟩
    · wp_walk using wpAny_loadPart' lnT, wpAny_pyIter_tuple hL
      exact ⟨_, rfl, h⟩
section
variable {prog : Program} {w : World} {A : Around} {E : Value → Shared → Prop} {s : Shared}
theorem say_call_enumT {l : Addr} {items : Array Value} {Q : Value → Shared → Prop} (hL : s.heap.IsTuple l items)
    (h : ∀ h', IsEnum h' (s.heap.objs.size + 1) s.heap.objs.size 0 .none → h'.IsTupleIter s.heap.objs.size l 0 → h'.objs.size = s.heap.objs.size + 2 →
      (∀ b o, s.heap.get? b = some o → h'.get? b = some o) → Q (.ref (s.heap.objs.size + 1)) { s with heap := h' }) :
    wpAny (model prog w) A (call (.type "enumerate") [.ref l]) Q E s := by
  obtain ⟨o0, lnT, clC, n, dtD⟩ := hL
  refine callType_new F.called_enumerate (by decide) (F.typeCall_enumerate_1 _) (F.newCall_enumerate_1 _) (fun obj => F.args_object_init_2 obj _) F.entry_enumerate_new
    (say_meets_enumT l o0 items n clC dtD) ⟨lnT, ?_⟩
  have szT : (s.heap.push { cls := .type "tuple_iterator", data := .fields #[.ref l, .int 0 0] }).objs.size = s.heap.objs.size + 1 := Heap.size_push ..
  show _ ∧ _
  rw [szT]
  have hEn : IsEnum ((s.heap.push { cls := .type "tuple_iterator", data := .fields #[.ref l, .int 0 0] }).push
      { cls := .type "enumerate", data := .fields #[.none, .bool false, .ref s.heap.objs.size, rawInt 0, .none, .none] }) (s.heap.objs.size + 1) s.heap.objs.size 0 .none := by
    have := Heap.get?_push_size (s.heap.push { cls := .type "tuple_iterator", data := .fields #[.ref l, .int 0 0] })
      (o := { cls := .type "enumerate", data := .fields #[.none, .bool false, .ref s.heap.objs.size, rawInt 0, .none, .none] }) rfl
    rw [szT] at this; exact this
  refine ⟨⟨_, hEn, rfl⟩, h _ hEn ⟨_, Heap.get?_push_of_some _ (Heap.get?_push_size _ rfl), rfl, rfl⟩ (by rw [Heap.size_push, szT]) fun b o x => Heap.get?_push_of_some _ (Heap.get?_push_of_some _ x)⟩
theorem say_enumT_end {e it l : Addr} {i : Nat} {j : Int} {items : Array Value} {was : Value} {Q : Option Value → Shared → Prop} (noH : A.handled = none)
    (hEn : IsEnum s.heap e it j was) (hTi : s.heap.IsTupleIter it l i) (lnT : s.heap.IsTuple l items) (atI0 : items[i]? = none)
    (hQ : ∀ h', Heap.ExtBut it s.heap h' → Q none { s with heap := h' }) : wpAny (model prog w) A (pyNext (.ref e)) Q E s := by
  have isTup : s.TypeIs (.ref e) "enumerate" := ⟨_, hEn, rfl⟩
  unfold pyNext
  refine wpAny_bind (wpAny_attempt (wpAny_callSpecial?_slot (name := Str.ofString "__next__") isTup F.slot_enumerate_next
    (wpAny_call_entry F.slot_enumerate_next isTup F.entry_enumerate_next ?_ (F.args_enumerate_next_1 _))))
  show wpAny _ _ (field (.ref e) 2 >>= _) _ _ _
  refine wpAny_bind (wpAny_field hEn rfl (x := .ref it) rfl ?_)
  refine wpAny_bind (wpAny_nextOf_tuple_end noH hTi lnT atI0 fun h' x he' hx' => ?_)
  obtain ⟨o, obO, clC⟩ := hx'
  refine wpAny_bind (wpAny_isInstance (T := "StopIteration") (b := true) ⟨o, obO, clC⟩ isSubtype_stop ?_)
  exact wpAny_pure (hQ _ he')
end
end PySem
namespace Say
open PySem PySem.Spec PyProof.Rows L2
/-- the tuple at a adrs it stands at each turn, each item in a new pair -/
def IteT (K : PySem.W.Frag) (a : Addr) : It :=
  ⟨fun i H => ∃ (xs : List V) (x : V), SqT K H a xs ∧ xs[i]? = some x, fun i H v H' => ∃ T x, v = .ref T ∧ H T = none ∧ H' = upd H T (.tup [.int (i : Nat), x]) ∧ ∀ xs, SqT K H a xs → xs[i]? = some x, fun i H => ∃ xs : List V, SqT K H a xs ∧ xs.length ≤ i⟩
theorem enum_ne {h : Heap} {e it a : Addr} {i : Int} {was : Value} {items : Array Value} (hEn : IsEnum h e it i was) (isTup : h.IsTuple a items) : e ≠ a := fun z => by
  subst z
  obtain ⟨o, obO, clC, _⟩ := isTup
  have hEn : h.get? e = some _ := hEn
  rw [hEn] at obO
  cases obO
  exact absurd (Value.type.inj clC) (by decide)
theorem tit_ne {h : Heap} {it a : Addr} {i : Nat} {items : Array Value} (hEn : h.IsTupleIter it a i) (isTup : h.IsTuple a items) : a ≠ it := fun z => by
  subst z
  obtain ⟨o, obO, clC, _⟩ := isTup
  obtain ⟨o', ho', hc', _⟩ := hEn
  rw [obO] at ho'
  cases ho'
  rw [clC] at hc'
  exact absurd (Value.type.inj hc') (by decide)
theorem turn_enumT {P : Program} {w : World} {K : PySem.W.Frag} {els : List Expr} {k9 : Nat} {tps0 : Pos} (a e it : Addr) :
    Turn P w K (.Tuple els k9 tps0) (IteT K a) [e, it] e (fun i h => (∃ was, IsEnum h e it ((i : Nat) : Int) was) ∧ h.IsTupleIter it a i ∧ e ≠ it) where
  mem := by simp
  obj := fun i h sta b hb => by
    obtain ⟨⟨was, hEn⟩, ⟨o, obO, clC, dtD⟩, _⟩ := sta
    have e' : b = e ∨ b = it := by simpa using hb
    rcases e' with z | z
    · rw [z]; exact ⟨_, hEn, fun v q => nomatch q⟩
    · rw [z]; exact ⟨o, obO, fun v q => by rw [dtD] at q; cases q⟩
  keep := fun i h h' sta k => let ⟨⟨was, hEn⟩, hi, hAp⟩ := sta; ⟨⟨was, k e (by simp) _ hEn⟩, hi.at fun o q => k it (by simp) o q, hAp⟩
  item := by
    intro X hP hw hK clC i pn s σ H E I fresh0 sta gW
    subst hP hw hK
    obtain ⟨⟨was, hEn⟩, hTi, hAp⟩ := sta
    obtain ⟨xs, x, isT, atI0⟩ := gW
    obtain ⟨its, rel, p, szT⟩ := I.tuple isT
    have p : s.heap.IsTuple a its.toArray := p
    obtain ⟨u, getU, relU⟩ := rel.get atI0
    have ltE : e < s.heap.objs.size := Heap.lt_size hEn
    have ltI : it < s.heap.objs.size := by obtain ⟨_, q, _⟩ := hTi; exact Heap.lt_size q
    have ltN : i < its.toArray.size := by
      have := (List.getElem?_eq_some_iff.mp getU).1
      simpa using this
    refine wpAny_pyNext_enum_itemD (Draws.tuple (show X.A.in1.handled = none from I.ok.hd clC) it a (tit_ne hTi p) its.toArray) hEn ⟨hTi, p⟩ ltN hAp (by
      simp only [List.mem_cons, List.not_mem_nil, or_false, not_or]
      exact ⟨hAp, enum_ne hEn p⟩) fun u' h' tkn hu' obO hst' isTup szH kpT => ?_
    have eu : u' = u := by
      have h1 : its.toArray[i]? = some u' := hu'
      rw [List.getElem?_toArray, getU] at h1
      exact (Option.some.inj h1).symm
    subst eu
    obtain ⟨hit', p'⟩ := hst'
    refine ⟨_, rfl, wpAny_letOwnedTupleGo_enum (s := { s with heap := h', toks := tkn + 1 }) obO fun h'' he' butE => ?_⟩
    have hT2 : h''.get? s.heap.objs.size = some { cls := .type "tuple", data := .seq #[.int i tkn, u'] } := (butE.2 _ (Nat.ne_of_gt ltE)).trans isTup
    have new : ObjOk X.prog X.w (upd H s.heap.objs.size (.tup [.int (i : Nat), x])) h'' s.heap.objs.size (.tup [.int (i : Nat), x]) :=
      ⟨by show 2 ≤ sizeLine; decide, [.int i tkn, u'], .cons ⟨_, rfl⟩ (.cons relU .nil), ⟨_, hT2, rfl, _, rfl⟩⟩
    have I1 : Inv X pn σ (upd H s.heap.objs.size (.tup [.int (i : Nat), x])) { s with heap := h'', toks := tkn + 1 } :=
      I.turnedNew (ch := [e, it]) (fun b ob hb q => (butE.2 b (fun z => hb (by simp [z]))).trans (kpT b ob (fun z => hb (by simp [z])) (fun z => hb (by simp [z])) q)) fresh0 (Nat.le_refl _) new
    refine ⟨.ref s.heap.objs.size, _, I1, rfl, ⟨_, x, rfl, I.hok.fresh (Nat.le_refl _), rfl, fun ys hy => by rw [I.tuple_inj hy isT]; exact atI0⟩, ⟨⟨u', ?_⟩, hit'.at fun o q => (butE.2 it (Ne.symm hAp)).trans q, hAp⟩, fun b hb => ?_⟩
    · have q1 : ((i + 1 : Nat) : Int) = (i : Int) + 1 := by omega
      rw [q1]; exact he'
    · have hb' : b < s.heap.objs.size := by
        have e' : b = e ∨ b = it := by simpa using hb
        rcases e' with z | z
        · rw [z]; exact ltE
        · rw [z]; exact ltI
      rw [upd_ne (Nat.ne_of_lt hb')]
      exact (fresh0 b hb).1
  done := by
    intro X hP hw hK clC i pn s σ H E I fresh0 sta gW
    subst hP hw hK
    obtain ⟨⟨was, hEn⟩, hTi, hAp⟩ := sta
    obtain ⟨xs, isT, atI0⟩ := gW
    obtain ⟨its, rel, p, szT⟩ := I.tuple isT
    have p : s.heap.IsTuple a its.toArray := p
    obtain ⟨f0, f1, f2, f3, f4, f5⟩ := fresh0 it (by simp)
    have hl := rel.length
    exact say_enumT_end (I.ok.hd clC) hEn hTi p (by rw [List.getElem?_toArray]; exact List.getElem?_eq_none (by omega)) fun h' eb => ⟨rfl, I.turned (t' := s.toks) (fun b o hb q => eb b o hb q) f0 f1 f3 f4 f5⟩
  self := fun A i s Q E sta h => let ⟨⟨_, hEn⟩, _⟩ := sta; wpAny_pyIter_enum hEn h
def iEnumT (K : PySem.W.Frag) (ta : TA) : TI := fun σ H R => ta σ H fun vs H1 => ∃ a xs, vs = [.ref a] ∧ SqT K H1 a xs ∧ R (IteT K a) H1
theorem pi_enumT {X : Cx} {e : Expr} {ta : TA} {p pos tps0 : Pos} {els : List Expr} {k9 : Nat} (gW : Gl X "enumerate") (hm : X.mg "enumerate" = none) (atA : PA X [e] ta) (hs : starEach [e] X.env = [(false, eval e X.env)] := by rfl) :
    PI X (.Tuple els k9 tps0) (.Call (.Name "enumerate" p) [e] [] pos) (iEnumT X.K ta) := by
  refine ⟨fun pn s σ H R I h => ?_⟩
  refine Call_ (ld_blt I gW hm boot_enumerate (PyProof.Rows.callWith_type1 (thn (atA.run pos pn s σ H _ I h) fun args s1 ⟨vs, H1, I1, r1, q1⟩ => ?_) hs rfl))
  obtain ⟨a, xs, ex, isT, q⟩ := q1
  subst ex
  cases r1 with
  | cons r rst =>
    cases rst
    cases r
    obtain ⟨its, rel, p', szT⟩ := I1.tuple isT
    refine say_call_enumT (show s1.heap.IsTuple a its.toArray from p') fun h' hEn hTi szH kpT => wpAny_pyIter_enum hEn ?_
    have I2 : Inv X pn σ H1 { s1 with heap := h' } := I1.kept (t' := s1.toks) kpT
    refine ⟨s1.heap.objs.size + 1, [s1.heap.objs.size + 1, s1.heap.objs.size], _, _, H1, rfl, I2, turn_enumT a (s1.heap.objs.size + 1) s1.heap.objs.size, ⟨⟨.none, hEn⟩, hTi, Nat.succ_ne_self _⟩, fun b hb => ?_, q⟩
    have e' : b = s1.heap.objs.size + 1 ∨ b = s1.heap.objs.size := by simpa using hb
    have hle : s1.heap.objs.size ≤ b := by
      rcases e' with z | z
      · rw [z]; exact Nat.le_add_right _ _
      · rw [z]; exact Nat.le_refl _
    exact I1.fpOk hle (I1.hok.fresh hle)
theorem walk_enumT {K : PySem.W.Frag} {a : Addr} {xs : List V} : Walk (IteT K a) xs.length (fun H => SqT K H a xs) (YPair (fun i => some (.int (i : Nat))) (fun i => xs[i]?)) := by
  refine ⟨fun i _ hi q => ⟨xs, xs[i], q, by simp [hi]⟩, fun _ q => ⟨xs, q, Nat.le_refl _⟩, fun i H v H' _ q y => ?_⟩
  obtain ⟨T, x, h1, h2, h3, h4⟩ := y
  exact ⟨T, .int (i : Nat), x, h1, h2, h3, rfl, h4 xs q⟩
end Say
namespace Say
open PySem PySem.Spec PyProof.Rows L2
abbrev Exc := List Nat × List Nat
/-- an exception of a book of the letters L -/
structure ExcOk (L : List Nat) (e : Exc) : Prop where
  w : ∀ c ∈ e.1, c ∈ L
  w1 : 1 ≤ e.1.length
  w8 : e.1.length ≤ 8
  s : ∀ c ∈ e.2, 65 ≤ c ∧ c ≤ 90
  s36 : e.2.length ≤ 36
/-- a tuple as it was made: with no attributes of its own -/
def TupN (H : Hp) (a : Addr) (xs : List V) : Prop := ∃ o : Obj, H a = some (.frz o (.tup xs)) ∧ o.dict = none
theorem TupN.kt {H H' : Hp} {a : Addr} {xs : List V} (h : TupN H a xs) (e : KT H H') : TupN H' a xs := ⟨h.choose, e.2 _ _ _ h.choose_spec.1, h.choose_spec.2⟩
theorem TupN.rd {H : Hp} {a : Addr} {xs : List V} (h : TupN H a xs) : Rd H a (.tup xs) := .inr ⟨_, h.choose_spec.1⟩
def ExcsAt (H : Hp) (X : Addr) (es : List Exc) : Prop := ∃ ts : List Addr, TupN H X (ts.map V.ref) ∧ Paired (fun t (e : Exc) => H t = some (.tup [.str (T e.1), .str (T e.2)])) ts es
theorem ExcsAt.kt {H H' : Hp} {X : Addr} {es : List Exc} (h : ExcsAt H X es) (e : KT H H') : ExcsAt H' X es := by
  obtain ⟨ts, h1, h2⟩ := h
  exact ⟨ts, h1.kt e, paired_mono (fun t ρ q => e.1 _ _ q) h2⟩
structure BookOk (L : List Nat) (rs : List Rule) (es : List Exc) : Prop where
  lt : LetOk L
  rl : ∀ ρ ∈ rs, RuleOk L ρ
  r12 : rs.length ≤ 12
  ex : ∀ e ∈ es, ExcOk L e
  e8 : es.length ≤ 8
  up : es.Pairwise fun e f => e.1 < f.1
def BookAt (H : Hp) (b : Addr) (L : List Nat) (rs : List Rule) (es : List Exc) : Prop := ∃ R X, H b = some (.tup [.str (T L), .ref R, .ref X]) ∧ RulesAt H R rs ∧ ExcsAt H X es
theorem BookAt.kt {H H' : Hp} {b : Addr} {L : List Nat} {rs : List Rule} {es : List Exc} (h : BookAt H b L rs es) (e : KT H H') : BookAt H' b L rs es := by
  obtain ⟨R, X, h1, h2, h3⟩ := h
  exact ⟨R, X, e.1 _ _ h1, h2.kt e, h3.kt e⟩
section
variable {P : Program} {w : World} {K : PySem.W.Frag} {mg : Str → Option Value} {base : Heap}
abbrev sExcd : Stmt := topS 37
theorem scExcd : FnScope ["letters", "word"] ["letters", "word"] (defScope sExcd) := ⟨rfl, rfl, rfl, by decide +kernel, rfl, by decide +kernel, by decide +kernel⟩
def spExcd : Sp := fun vs H Q _ => ∃ (L z : List Nat), vs = [.str (T L), .str (T z)] ∧ z.length ≤ 100 ∧ ∀ (H' : Hp), Same H H' → Q (.bl (isText z L 1 8)) H'
theorem ok_excd {f : Addr} {fd : FuncData} (F : Fun K "is_excepted" "is_excepted" sExcd f fd) (C : Cn mg) (DT : Df P w K mg base "is_text" psIsText 1 spIsText) :
    FnOk P w K mg base CX0 2 f fd ["letters", "word"] spExcd := by
  obtain ⟨fT, fdT, GT, kT, bT, mT⟩ := DT
  obtain ⟨tX, mX⟩ := C.lexc
  refine F.ok scExcd (fun vs H Q E h => ?_) (fun cdv A outer s H vs Q E hr h => ?_)
  · obtain ⟨L, z, rfl, _⟩ := h
    rfl
  · obtain ⟨L, z, rfl, hl, q⟩ := h
    refine ⟨_, pss_one (ps_ret (pe_call GT hr (by rfl) mT kT bT .nil pass0 (pa_cons (pv 1) (pa_cons (pv 0) (pa_cons pe_int (pa_cons (pe_glob (v := .int 8) rfl mX ⟨_, rfl⟩) pa_nil)))))), ?_⟩
    exact ⟨_, rfl, _, rfl, z, L, 1, 8, rfl, hl, q⟩
abbrev sIsSo : Stmt := topS 38
theorem scIsSo : FnScope ["sounds"] ["sounds"] (defScope sIsSo) := ⟨rfl, rfl, rfl, by decide +kernel, rfl, by decide +kernel, by decide +kernel⟩
def spIsSo : Sp := fun vs H Q _ => ∃ (z : List Nat), vs = [.str (T z)] ∧ z.length ≤ 100 ∧ ∀ (H' : Hp), Same H H' → Q (.bl (isText z capsL 0 36)) H'
theorem ok_isSo {f : Addr} {fd : FuncData} (F : Fun K "is_sounds" "is_sounds" sIsSo f fd) (C : Cn mg) (DT : Df P w K mg base "is_text" psIsText 1 spIsText) :
    FnOk P w K mg base CX0 2 f fd ["sounds"] spIsSo := by
  obtain ⟨fT, fdT, GT, kT, bT, mT⟩ := DT
  obtain ⟨tC, mC⟩ := C.caps
  obtain ⟨tS, mS⟩ := C.lso
  refine F.ok scIsSo (fun vs H Q E h => ?_) (fun cdv A outer s H vs Q E hr h => ?_)
  · obtain ⟨z, rfl, _⟩ := h
    rfl
  · obtain ⟨z, rfl, hl, q⟩ := h
    refine ⟨_, pss_one (ps_ret (pe_call GT hr (by rfl) mT kT bT .nil pass0 (pa_cons (pv 0) (pa_cons (pe_glob (v := .str "ABCDEFGHIJKLMNOPQRSTUVWXYZ") rfl mC ⟨_, rfl⟩) (pa_cons pe_int (pa_cons (pe_glob (v := .int 36) rfl mS ⟨_, rfl⟩) pa_nil)))))), ?_⟩
    exact ⟨_, rfl, z, capsL, 0, 36, (by rw [caps_eq]; rfl), hl, q⟩
abbrev sIsExc : Stmt := topS 36
theorem scIsExc : FnScope ["letters", "pair", "word", "sounds"] ["letters", "pair"] (defScope sIsExc) := ⟨rfl, rfl, rfl, by decide +kernel, rfl, by decide +kernel, by decide +kernel⟩
def spIsExc : Sp := fun vs H Q _ => ∃ (L : List Nat) (t : Addr) (e : Exc), vs = [.str (T L), .ref t] ∧ H t = some (.tup [.str (T e.1), .str (T e.2)]) ∧ ExcOk L e ∧ ∀ (H' : Hp), Same H H' → Q (.bl true) H'
theorem ok_isExc {f : Addr} {fd : FuncData} (F : Fun K "is_exception" "is_exception" sIsExc f fd) (B : Bn mg) (DX : Df P w K mg base "is_excepted" ["letters", "word"] 2 spExcd) (DS : Df P w K mg base "is_sounds" ["sounds"] 2 spIsSo) :
    FnOk P w K mg base CX0 3 f fd ["letters", "pair"] spIsExc := by
  obtain ⟨fX, fdX, GX, kX, bX, mX⟩ := DX
  obtain ⟨fS, fdS, GS, kS, bS, mS⟩ := DS
  refine F.ok scIsExc (fun vs H Q E h => ?_) (fun cdv A outer s H vs Q E hr h => ?_)
  · obtain ⟨L, t, e, rfl, _⟩ := h
    rfl
  · obtain ⟨L, t, e, rfl, ht, ho, q⟩ := h
    refine ⟨_, pss_cons (ps_if (PW.pt (pw_or (pt_not (pt_val (pe_callB call_isi (by rfl) B.isi (by decide +kernel) (pa_cons (pv 1) (pa_cons (pe_bltn (v := .ty "tuple") rfl B.tup (by decide +kernel) rfl) pa_nil)))))
          (pw_or1 (pt_cmpR op_ne (pe_callB call_len (by rfl) B.len PySem.boot_len (pa_cons (pv 1) pa_nil)) pe_int (nomark _))))) (pss_one (ps_ret pe_bl)) pss_nil)
      (pss_cons (ps_asg (pv 1) (pg_tup (by rfl) (pgs_cons (pg_name (i := 2) scIsExc.nd rfl (.inl rfl)) (pgs_cons (pg_name (i := 3) scIsExc.nd rfl (.inl rfl)) pgs_nil))))
      (pss_one (ps_ret (pe_and (pe_call GX hr (by rfl) mX kX bX .nil pass0 (pa_cons (pv 0) (pa_cons (pv 2) pa_nil)))
        (pe_one (pe_call GS hr (by rfl) mS kS bS .nil pass0 (pa_cons (pv 3) pa_nil))))))), ?_⟩
    refine ⟨_, rfl, _, _, .type "tuple", _, true, rfl, ClsV.ty _, .base (.tup ht), kit_ty (by decide +kernel), true, rfl, iteF ?_⟩
    refine ⟨_, rfl, _, 2, rfl, .inr ⟨_, .inl (.inl ht), rfl⟩, rfl, _, rfl, iteF ?_⟩
    refine ⟨_, rfl, t, _, rfl, .inl (.inl ht), rfl, _, _, rfl, _, _, rfl, rfl, ?_⟩
    refine ⟨_, rfl, _, rfl, L, e.1, rfl, (by have := ho.w8; omega), fun H1 s1 => ?_⟩
    refine ⟨_, rfl, ?_⟩
    rw [isText_of ho.w1 ho.w8 ho.w]
    refine iteT ?_
    refine ⟨_, rfl, e.2, rfl, (by have := ho.s36; omega), fun H4 s4 => ?_⟩
    rw [isText_of (Nat.zero_le _) ho.s36 fun c hc => mem_caps (ho.s c hc)]
    exact q H4 (s1.trans s4)
abbrev sChL : Stmt := topS 29
theorem scChL : FnScope ["letters"] ["letters"] (defScope sChL) := ⟨rfl, rfl, rfl, by decide +kernel, rfl, by decide +kernel, by decide +kernel⟩
def spChL : Sp := fun vs H Q _ => ∃ (L : List Nat), vs = [.str (T L)] ∧ LetOk L ∧ ∀ (H' : Hp), Same H H' → Q .non H'
theorem ok_chL {f : Addr} {fd : FuncData} (F : Fun K "check_letters" "check_letters" sChL f fd) (C : Cn mg) (DT : Df P w K mg base "is_text" psIsText 1 spIsText) (DR : Df P w K mg base "is_rising" ["text"] 1 spRise) :
    FnOk P w K mg base CX0 2 f fd ["letters"] spChL := by
  obtain ⟨fT, fdT, GT, kT, bT, mT⟩ := DT
  obtain ⟨fR, fdR, GR, kR, bR, mR⟩ := DR
  obtain ⟨tS, mS⟩ := C.small
  refine F.ok scChL (fun vs H Q E h => ?_) (fun cdv A outer s H vs Q E hr h => ?_)
  · obtain ⟨L, rfl, _⟩ := h
    rfl
  · obtain ⟨L, rfl, hL, q⟩ := h
    refine ⟨_, pss_one (ps_if (PW.pt (pw_or (pt_not (pt_val (pe_call GT hr (by rfl) mT kT bT .nil pass0 (pa_cons (pv 0) (pa_cons (pe_glob (v := .str "abcdefghijklmnopqrstuvwxyz") rfl mS ⟨_, rfl⟩) (pa_cons pe_int (pa_cons pe_int pa_nil)))))))
        (pw_or1 (pt_not (pt_val (pe_call GR hr (by rfl) mR kR bR .nil pass0 (pa_cons (pv 0) pa_nil))))))) (pss_one ps_never) pss_nil), ?_⟩
    have l4 := hL.l4
    refine ⟨_, rfl, L, smallL, 2, 4, (by rw [small_eq]; rfl), by omega, fun H1 s1 => ?_⟩
    rw [isText_of hL.l2 hL.l4 fun c hc => mem_small (hL.az c hc)]
    refine ⟨true, rfl, iteF ?_⟩
    refine ⟨_, rfl, L, rfl, by omega, fun H2 s2 => ?_⟩
    rw [hL.up]
    refine ⟨true, rfl, iteF ?_⟩
    exact q H2 (s1.trans s2)
abbrev sChR : Stmt := topS 30
theorem scChR : FnScope ["letters", "rules", "number", "rule"] ["letters", "rules"] (defScope sChR) := ⟨rfl, rfl, rfl, by decide +kernel, rfl, by decide +kernel, by decide +kernel⟩
def spChR : Sp := fun vs H Q _ => ∃ (L : List Nat) (R : Addr) (rs : List Rule), vs = [.str (T L), .ref R] ∧ LetOk L ∧ RulesAt H R rs ∧ (∀ ρ ∈ rs, RuleOk L ρ) ∧ rs.length ≤ 12 ∧ ∀ (H' : Hp), Same H H' → Q .non H'
theorem ok_chR {f : Addr} {fd : FuncData} (F : Fun K "check_rules" "check_rules" sChR f fd) (B : Bn mg) (C : Cn mg) (DI : Df P w K mg base "is_rule" ["letters", "rule"] 3 spIsRule) :
    FnOk P w K mg base CX0 4 f fd ["letters", "rules"] spChR := by
  obtain ⟨fI, fdI, GI, kI, bI, mI⟩ := DI
  obtain ⟨tS, mS⟩ := C.mrul
  refine F.ok scChR (fun vs H Q E h => ?_) (fun cdv A outer s H vs Q E hr h => ?_)
  · obtain ⟨L, R, rs, rfl, _⟩ := h
    rfl
  · obtain ⟨L, R, rs, rfl, hL, ⟨ts, hR, hp⟩, ho, h12, q⟩ := h
    refine ⟨_, pss_cons (ps_if (pt_not (pt_val (pe_callB call_isi (by rfl) B.isi (by decide +kernel) (pa_cons (pv 1) (pa_cons (pe_bltn (v := .ty "tuple") rfl B.tup (by decide +kernel) rfl) pa_nil))))) (pss_one ps_never) pss_nil)
      (pss_one (ps_for PassesOwn.never rfl (pi_enumT (by rfl) B.enu (pa_cons (pv 1) pa_nil)) (pg_tup (by rfl) (pgs_cons (pg_name (i := 2) scChR.nd rfl (.inl rfl)) (pgs_cons (pg_name (i := 3) scChR.nd rfl (.inl rfl)) pgs_nil)))
        (pss_one (ps_if (PW.pt (pw_or (pt_cmpR op_eq (pv 2) (pe_glob (v := .int 12) rfl mS ⟨_, rfl⟩) (nomark _)) (pw_or1 (pt_not (pt_val (pe_call GI hr (by rfl) mI kI bI .nil pass0 (pa_cons (pv 0) (pa_cons (pv 3) pa_nil)))))))) (pss_one ps_never) pss_nil)))), ?_⟩
    refine ⟨_, rfl, _, _, .type "tuple", _, true, rfl, ClsV.ty _, .base (.tup hR), kit_ty (by decide +kernel), true, rfl, iteF ?_⟩
    refine ⟨_, rfl, R, _, rfl, .inl (.inl hR), for_it (walk_enumT (xs := ts.map V.ref)) (fun i σ H2 => Same H H2 ∧ ∃ v2 v3, σ = [some (.str (T L)), some (.ref R), v2, v3]) ⟨Same.refl H, _, _, rfl⟩ (fun i σ H2 _ h => .inl (.inl (h.1 _ _ hR))) ?_ ?_⟩
    · rintro i x σ H2 H3 hi ⟨s2, v2, v3, rfl⟩ ⟨t, x1, x2, rfl, ht, rfl, g1, g2⟩
      cases g1
      have g2 : (ts.map V.ref)[i]? = some x2 := g2
      rw [List.getElem?_map] at g2
      obtain ⟨a, ha, e⟩ := Option.map_eq_some_iff.mp g2
      subst e
      obtain ⟨ρ, hρ, hat⟩ := paired_at hp ha
      have sm := same_new ht (.tup [.int (i : Nat), .ref a])
      have hi2 : i < rs.length := (List.getElem?_eq_some_iff.mp hρ).1
      refine ⟨t, _, rfl, .inl (.inl upd_same), rfl, _, _, rfl, _, _, rfl, rfl, ?_⟩
      refine ⟨_, rfl, rfl, _, rfl, ?_⟩
      have nq : ¬ V.int ((i : Nat) : Int) = V.int 12 := fun z => by
        have := V.int.inj z
        omega
      rw [decide_eq_false nq]
      refine iteF ?_
      refine ⟨_, rfl, _, rfl, L, a, ρ, rfl, sm _ _ (s2 _ _ hat), hL, ho ρ (List.mem_of_getElem? hρ), fun H4 s4 => ?_⟩
      exact ⟨true, rfl, iteF ⟨s2.trans (sm.trans s4), _, _, rfl⟩⟩
    · rintro σ H2 ⟨s2, v2, v3, rfl⟩
      exact q H2 s2
end
end Say
namespace Say
open PySem PySem.Spec PyProof.Rows L2
/-- does the rule fit at the place of the signs -/
def fitsL (ρ : Rule) (z : List Nat) (i : Nat) : Bool :=
  if (z.drop i).take ρ.ow.length = ρ.ow then (decide (ρ.ah = []) || decide (z.getD (i - 1) 0 ∈ ρ.ah)) && (decide (ρ.be = []) || decide (z.getD (i + ρ.ow.length) 0 ∈ ρ.be)) else false
/-- a word between its edges -/
def sgn (wd : List Nat) : List Nat := 35 :: (wd ++ [35])
theorem sgn_len (wd : List Nat) : (sgn wd).length = wd.length + 2 := by simp [sgn]
theorem sgn_last (wd : List Nat) : (sgn wd)[wd.length + 1]? = some 35 := by
  unfold sgn
  rw [List.getElem?_cons_succ, List.getElem?_append_right (Nat.le_refl _), Nat.sub_self]
  rfl
theorem cut_at {z : List Nat} {i n : Nat} (h : i ≤ z.length) : cutS (T z) (some (i : Int)) (some ((i + n : Nat) : Int)) = T ((z.drop i).take n) := by
  unfold cutS
  rw [T_len, HT.sIx_nat, HT.sIx_nat, Nat.min_eq_left h]
  show T ((z.drop i).take (min (i + n) z.length - i)) = _
  congr 1
  by_cases c : i + n ≤ z.length
  · rw [Nat.min_eq_left c, Nat.add_sub_cancel_left]
  · rw [Nat.min_eq_right (by omega), List.take_of_length_le (by rw [List.length_drop]; omega), List.take_of_length_le (by rw [List.length_drop]; omega)]
theorem fit_room {wd ow : List Nat} {i : Nat} (h : ((sgn wd).drop i).take ow.length = ow) (h1 : 1 ≤ ow.length) (h35 : 35 ∉ ow) : i + ow.length ≤ wd.length + 1 := by
  have hl := congrArg List.length h
  rw [List.length_take, List.length_drop, sgn_len] at hl
  refine Decidable.byContradiction fun n => h35 ?_
  have e : i + ow.length = wd.length + 2 := by omega
  have g : ow[ow.length - 1]? = some 35 := by
    rw [← h, List.getElem?_take_of_lt (by rw [h]; omega), List.getElem?_drop]
    rw [show i + ((((sgn wd).drop i).take ow.length).length - 1) = wd.length + 1 by rw [h]; omega]
    exact sgn_last wd
  exact List.mem_of_getElem? g
theorem dec_nil (l : List Nat) : decide (V.str (T l) = V.str (Str.ofString "")) = decide (l = []) := by
  rw [show Str.ofString "" = T [] from nil_eq]
  refine decide_eq_decide.mpr ⟨fun z => T_inj (V.str.inj z), fun z => by rw [z]⟩
section
variable {P : Program} {w : World} {K : PySem.W.Frag} {mg : Str → Option Value} {base : Heap}
abbrev sFits : Stmt := topS 46
theorem scFits : FnScope ["rule", "signs", "at", "ahead", "own", "behind", "_", "past"] ["rule", "signs", "at"] (defScope sFits) := ⟨rfl, rfl, rfl, by decide +kernel, rfl, by decide +kernel, by decide +kernel⟩
/-- where its letters stand, the sign behind them stands, too -/
def RoomAt (ρ : Rule) (z : List Nat) (i : Nat) : Prop := (z.drop i).take ρ.ow.length = ρ.ow → i + ρ.ow.length < z.length
def spFits : Sp := fun vs H Q _ => ∃ (t : Addr) (ρ : Rule) (z : List Nat) (i : Nat), vs = [.ref t, .str (T z), .int i] ∧ H t = some (.tup ρ.vs) ∧ ρ.ow.length ≤ 2 ∧ 1 ≤ i ∧ i ≤ z.length ∧ z.length ≤ 100 ∧ RoomAt ρ z i ∧
  Q (.bl (fitsL ρ z i)) H
theorem ok_fits {f : Addr} {fd : FuncData} (F : Fun K "fits" "fits" sFits f fd) (B : Bn mg) : FnOk P w K mg base CX0 1 f fd ["rule", "signs", "at"] spFits := by
  refine F.ok scFits (fun vs H Q E h => ?_) (fun cdv A outer s H vs Q E hr h => ?_)
  · obtain ⟨t, ρ, z, i, rfl, _⟩ := h
    rfl
  · obtain ⟨t, ρ, z, i, rfl, ht, h2, hi1, hi, hw, hroom, q⟩ := h
    refine ⟨_, pss_cons (ps_asg (pv 0) (pg_tup (by rfl) (pgs_cons (pg_name (i := 3) scFits.nd rfl (.inl rfl)) (pgs_cons (pg_name (i := 4) scFits.nd rfl (.inl rfl)) (pgs_cons (pg_name (i := 5) scFits.nd rfl (.inl rfl)) (pgs_cons (pg_name (i := 6) scFits.nd rfl (.inl rfl)) pgs_nil))))))
      (pss_cons (ps_set (i := 7) scFits.nd rfl (.inl rfl) (pe_op op_add (pv 2) (pe_callB call_len_str (by rfl) B.len PySem.boot_len (pa_cons (pv 4) pa_nil))))
      (pss_cons (ps_if (pt_cmpR op_ne (pe_slice sl_str (pv 1) (po_some (pv 2)) (po_some (pv 7))) (pv 4) (nomark _)) (pss_one (ps_ret pe_bl)) pss_nil)
      (pss_one (ps_ret (pe_and (pe_or (pe_cmpR op_eq (pv 3) pe_str (nomark _)) (pe_one (pe_cmpR op_in_sign (pe_ix ix_str (pv 1) (pe_op op_sub (pv 2) pe_int) (fun _ _ => rfl)) (pv 3) rfl)))
        (pe_one (pe_or (pe_cmpR op_eq (pv 5) pe_str (nomark _)) (pe_one (pe_cmpR op_in_sign (pe_ix ix_str (pv 1) (pv 7) (fun _ _ => rfl)) (pv 5) rfl))))))))), ?_⟩
    have hzl : (T z).length ≤ sizeLine := by rw [T_len]; exact small (by omega)
    have hol : (T ρ.ow).length ≤ sizeLine := by rw [T_len]; exact small (by omega)
    refine ⟨_, rfl, t, _, rfl, .inl (.inl ht), rfl, _, _, rfl, _, _, rfl, _, _, rfl, _, _, rfl, rfl, ?_⟩
    refine ⟨_, rfl, _, rfl, _, rfl, hol, _, _, rfl, rfl, ?_⟩
    refine ⟨_, rfl, _, rfl, _, rfl, _, rfl, _, rfl, T z, rfl, hzl, _, rfl, ?_⟩
    rw [show ((i : Nat) : Int) + ((T ρ.ow).length : Int) = ((i + ρ.ow.length : Nat) : Int) by rw [T_len]; omega, cut_at (by omega)]
    refine ⟨rfl, _, rfl, ?_⟩
    have eow : (V.str (T ((z.drop i).take ρ.ow.length)) = V.str (T ρ.ow)) ↔ (z.drop i).take ρ.ow.length = ρ.ow :=
      ⟨fun z => T_inj (V.str.inj z), fun z => by rw [z]⟩
    by_cases c : (z.drop i).take ρ.ow.length = ρ.ow
    · rw [decide_eq_true (eow.mpr c)]
      refine iteF ?_
      have room := hroom c
      unfold fitsL at q
      rw [if_pos c] at q
      -- ahead
      refine ⟨_, rfl, rfl, _, rfl, ?_⟩
      rw [dec_nil]
      have g1 : (T z).cps.toList[i - 1]? = some (z.getD (i - 1) 0) := by rw [T_cps, List.getD_eq_getElem?_getD, List.getElem?_eq_getElem (by omega)]; rfl
      have g2 : (T z).cps.toList[i + ρ.ow.length]? = some (z.getD (i + ρ.ow.length) 0) := by rw [T_cps, List.getD_eq_getElem?_getD, List.getElem?_eq_getElem (by omega)]; rfl
      refine ite2 (fun c1 => ?_) (fun c1 => ?_)
      · refine ⟨true, rfl, iteT ?_⟩
        have q2 : Q (.bl (decide (ρ.be = []) || decide (z.getD (i + ρ.ow.length) 0 ∈ ρ.be))) H := by
          rw [c1, Bool.true_or, Bool.true_and] at q; exact q
        refine ⟨_, rfl, rfl, _, rfl, ?_⟩
        rw [dec_nil]
        refine ite2 (fun d1 => ?_) (fun d1 => ?_)
        · rw [d1, Bool.true_or] at q2
          exact q2
        · rw [Bool.eq_false_iff.mpr d1, Bool.false_or] at q2
          exact ⟨_, rfl, _, rfl, T z, _, _, rfl, rfl, hzl, atI_of g2 (by rw [T_len]; omega), _, rfl, _, T ρ.be, rfl, rfl, q2⟩
      · rw [Bool.eq_false_iff.mpr c1, Bool.false_or] at q
        refine ⟨_, rfl, _, rfl, _, _, rfl, rfl, T z, _, _, rfl, rfl, hzl, atI_of g1 (by omega), _, rfl, _, T ρ.ah, rfl, rfl, _, rfl, ?_⟩
        refine ite2 (fun c2 => ?_) (fun c2 => ?_)
        · have q2 : Q (.bl (decide (ρ.be = []) || decide (z.getD (i + ρ.ow.length) 0 ∈ ρ.be))) H := by
            rw [show decide (z.getD (i - 1) 0 ∈ ρ.ah) = true from c2, Bool.true_and] at q; exact q
          refine ⟨_, rfl, rfl, _, rfl, ?_⟩
          rw [dec_nil]
          refine ite2 (fun d1 => ?_) (fun d1 => ?_)
          · rw [d1, Bool.true_or] at q2
            exact q2
          · rw [Bool.eq_false_iff.mpr d1, Bool.false_or] at q2
            exact ⟨_, rfl, _, rfl, T z, _, _, rfl, rfl, hzl, atI_of g2 (by rw [T_len]; omega), _, rfl, _, T ρ.be, rfl, rfl, q2⟩
        · rw [show decide (z.getD (i - 1) 0 ∈ ρ.ah) = false from Bool.eq_false_iff.mpr c2, Bool.false_and] at q
          exact q
    · rw [decide_eq_false fun z => c (eow.mp z)]
      refine iteT ?_
      unfold fitsL at q
      rw [if_neg c] at q
      exact q
end
end Say
namespace Say
open PySem PySem.Spec PyProof.Rows L2
/-- the number of the first rule that fits -/
def ff (rs : List Rule) (z : List Nat) (i : Nat) : Option Nat := rs.findIdx? fun ρ => fitsL ρ z i
def ruleAt (rs : List Rule) (k : Nat) : Rule := rs.getD k ⟨[], [], [], []⟩
/-- the steps from a place on, and where it is stuck -/
def wk (rs : List Rule) (z : List Nat) : Nat → Nat → List (Nat × Nat) × Option Nat
  | 0, _ => ([], none)
  | m + 1, i => if i < z.length - 1 then
      match ff rs z i with
      | none => ([], some (i - 1))
      | some k => ((i - 1, k) :: (wk rs z m (i + (ruleAt rs k).ow.length)).1, (wk rs z m (i + (ruleAt rs k).ow.length)).2)
    else ([], none)
def W (rs : List Rule) (wd : List Nat) : List (Nat × Nat) × Option Nat := wk rs (sgn wd) (wd.length + 1) 1
theorem wk_end (rs : List Rule) (z : List Nat) (m i : Nat) (h : ¬ i < z.length - 1) : wk rs z m i = ([], none) := by
  cases m with
  | zero => rfl
  | succ m =>
    unfold wk
    rw [if_neg h]
theorem wk_none {rs : List Rule} {z : List Nat} {m i : Nat} (h : i < z.length - 1) (e : ff rs z i = none) : wk rs z (m + 1) i = ([], some (i - 1)) := by
  rw [wk, if_pos h, e]
theorem wk_some {rs : List Rule} {z : List Nat} {m i k : Nat} (h : i < z.length - 1) (e : ff rs z i = some k) : wk rs z (m + 1) i = ((i - 1, k) :: (wk rs z m (i + (ruleAt rs k).ow.length)).1, (wk rs z m (i + (ruleAt rs k).ow.length)).2) := by
  rw [wk, if_pos h, e]
theorem wk_len (rs : List Rule) (z : List Nat) : ∀ m i : Nat, (wk rs z m i).1.length ≤ m
  | 0, _ => Nat.le_refl 0
  | m + 1, i => by
    by_cases h : i < z.length - 1
    · cases e : ff rs z i with
      | none => rw [wk_none h e]; exact Nat.zero_le _
      | some k =>
        rw [wk_some h e]
        exact Nat.succ_le_succ (wk_len rs z m _)
    · rw [wk_end rs z _ i h]
      exact Nat.zero_le _
theorem ff_lt {rs : List Rule} {z : List Nat} {i k : Nat} (e : ff rs z i = some k) : k < rs.length := by
  obtain ⟨h, _⟩ := List.findIdx?_eq_some_iff_getElem.mp e
  exact h
theorem ruleAt_eq {rs : List Rule} {k : Nat} {ρ : Rule} (h : rs[k]? = some ρ) : ruleAt rs k = ρ := by
  unfold ruleAt
  rw [List.getD_eq_getElem?_getD, h]
  rfl
/-- what rules ask for the walk -/
structure RlOk (ρ : Rule) : Prop where
  o1 : 1 ≤ ρ.ow.length
  o2 : ρ.ow.length ≤ 2
  h35 : 35 ∉ ρ.ow
  s3 : ρ.so.length ≤ 3
theorem RuleOk.rl {L : List Nat} {ρ : Rule} (hL : LetOk L) (h : RuleOk L ρ) : RlOk ρ := ⟨h.o1, h.o2, fun z => by have := (hL.az _ (h.ow _ z)).1; omega, h.s3⟩
theorem BookOk.rls {L : List Nat} {rs : List Rule} {es : List Exc} (h : BookOk L rs es) : ∀ ρ ∈ rs, RlOk ρ := fun ρ hρ => (h.rl ρ hρ).rl h.lt
theorem eqT {a b : List Nat} : decide (V.str (T a) = V.str (T b)) = decide (a = b) := decide_eq_decide.mpr ⟨fun z => T_inj (V.str.inj z), fun z => by rw [z]⟩
theorem wk_stuck (rs : List Rule) (z : List Nat) : ∀ m i p : Nat, 1 ≤ i → (wk rs z m i).2 = some p → p + 2 ≤ z.length
  | 0, i, p, _, h => by cases h
  | m + 1, i, p, hi, h => by
    by_cases c : i < z.length - 1
    · cases e : ff rs z i with
      | none =>
        rw [wk_none c e] at h
        cases h
        omega
      | some k =>
        rw [wk_some c e] at h
        exact wk_stuck rs z m _ p (by omega) h
    · rw [wk_end rs z _ i c] at h
      cases h
theorem W_stuck {rs : List Rule} {wd : List Nat} {p : Nat} (h : (W rs wd).2 = some p) : p ≤ wd.length := by
  have := wk_stuck rs (sgn wd) _ 1 p (Nat.le_refl 1) h
  rw [sgn_len] at this
  omega
section
variable {P : Program} {w : World} {K : PySem.W.Frag} {mg : Str → Option Value} {base : Heap}
abbrev sFF : Stmt := topS 47
theorem scFF : FnScope ["rules", "signs", "at", "number", "rule"] ["rules", "signs", "at"] (defScope sFF) := ⟨rfl, rfl, rfl, by decide +kernel, rfl, by decide +kernel, by decide +kernel⟩
def optI : Option Nat → V
  | none => .non
  | some k => .int k
def spFF : Sp := fun vs H Q _ => ∃ (R : Addr) (rs : List Rule) (z : List Nat) (i : Nat), vs = [.ref R, .str (T z), .int i] ∧ RulesAt H R rs ∧ (∀ ρ ∈ rs, RlOk ρ) ∧ 1 ≤ i ∧ i ≤ z.length ∧ z.length ≤ 100 ∧ (∀ ρ ∈ rs, RoomAt ρ z i) ∧
  ∀ H', Same H H' → Q (optI (ff rs z i)) H'
theorem room_sgn {rs : List Rule} (h : ∀ ρ ∈ rs, RlOk ρ) (wd : List Nat) (i : Nat) : ∀ ρ ∈ rs, RoomAt ρ (sgn wd) i := fun ρ hρ c => by
  have := fit_room c (h ρ hρ).o1 (h ρ hρ).h35
  rw [sgn_len]
  omega
theorem ok_FF {f : Addr} {fd : FuncData} (F : Fun K "first_fit" "first_fit" sFF f fd) (B : Bn mg) (DF : Df P w K mg base "fits" ["rule", "signs", "at"] 1 spFits) : FnOk P w K mg base CX0 2 f fd ["rules", "signs", "at"] spFF := by
  obtain ⟨fF, fdF, GF, kF, bF, mF⟩ := DF
  refine F.ok scFF (fun vs H Q E h => ?_) (fun cdv A outer s H vs Q E hr h => ?_)
  · obtain ⟨R, rs, z, i, rfl, _⟩ := h
    rfl
  · obtain ⟨R, rs, z, i, rfl, ⟨ts, hR, hp⟩, ho, hi1, hi, hw, hrm, q⟩ := h
    refine ⟨_, pss_cons (ps_for PassesOwn.never rfl (pi_enumT (by rfl) B.enu (pa_cons (pv 0) pa_nil)) (pg_tup (by rfl) (pgs_cons (pg_name (i := 3) scFF.nd rfl (.inl rfl)) (pgs_cons (pg_name (i := 4) scFF.nd rfl (.inl rfl)) pgs_nil)))
        (pss_one (ps_if (pt_val (pe_call GF hr (by rfl) mF kF bF .nil pass0 (pa_cons (pv 4) (pa_cons (pv 1) (pa_cons (pv 2) pa_nil))))) (pss_one (ps_ret (pv 3))) pss_nil)))
      (pss_one (ps_ret pe_non)), ?_⟩
    refine ⟨_, rfl, R, _, rfl, .inl (.inl hR), for_it (walk_enumT (xs := ts.map V.ref)) (fun j σ H2 => Same H H2 ∧ (∃ v3 v4, σ = [some (.ref R), some (.str (T z)), some (.int i), v3, v4]) ∧ ∀ k ρ, k < j → rs[k]? = some ρ → fitsL ρ z i = false)
      ⟨Same.refl H, ⟨_, _, rfl⟩, fun k ρ h => absurd h (Nat.not_lt_zero k)⟩ (fun j σ H2 _ h => .inl (.inl (h.1 _ _ hR))) ?_ ?_⟩
    · rintro j x σ H2 H3 hj ⟨s2, ⟨v3, v4, rfl⟩, hn⟩ ⟨t, x1, x2, rfl, ht, rfl, g1, g2⟩
      cases g1
      have g2 : (ts.map V.ref)[j]? = some x2 := g2
      rw [List.getElem?_map] at g2
      obtain ⟨a, ha, e⟩ := Option.map_eq_some_iff.mp g2
      subst e
      obtain ⟨ρ, hρ, hat⟩ := paired_at hp ha
      have hm := ho ρ (List.mem_of_getElem? hρ)
      have sm := same_new ht (.tup [.int (j : Nat), .ref a])
      refine ⟨t, _, rfl, .inl (.inl upd_same), rfl, _, _, rfl, _, _, rfl, rfl, ?_⟩
      refine ⟨_, rfl, _, rfl, _, rfl, a, ρ, z, i, rfl, sm _ _ (s2 _ _ hat), hm.o2, hi1, hi, hw, hrm ρ (List.mem_of_getElem? hρ), _, rfl, ite2 (fun c => ?_) (fun c => ?_)⟩
      · refine ⟨_, rfl, ?_⟩
        have := q _ (s2.trans sm)
        have e : ff rs z i = some j := by
          refine List.findIdx?_eq_some_iff_getElem.mpr ⟨(List.getElem?_eq_some_iff.mp hρ).1, ?_, fun k hk => ?_⟩
          · rw [(List.getElem?_eq_some_iff.mp hρ).2]
            exact c
          · rw [hn k _ hk (List.getElem?_eq_getElem (by have := (List.getElem?_eq_some_iff.mp hρ).1; omega))]
            exact Bool.false_ne_true
        rw [e] at this
        exact this
      · refine ⟨s2.trans sm, ⟨_, _, rfl⟩, fun k ρ' hk hk' => ?_⟩
        by_cases e : k = j
        · subst e
          rw [hρ] at hk'
          cases hk'
          exact Bool.eq_false_iff.mpr c
        · exact hn k ρ' (by omega) hk'
    · rintro σ H2 ⟨s2, ⟨v3, v4, rfl⟩, hn⟩
      have := q _ s2
      have e : ff rs z i = none := by
        refine List.findIdx?_eq_none_iff.mpr fun ρ hρ => ?_
        obtain ⟨k, hk⟩ := List.mem_iff_getElem?.mp hρ
        have hl := (List.getElem?_eq_some_iff.mp hk).1
        exact hn k ρ (by rw [List.length_map, paired_len hp]; exact hl) hk
      rw [e] at this
      exact this
abbrev sSt : Stmt := topS 48
theorem scSt : FnScope ["rules", "tail", "signs", "steps", "at", "number"] ["rules", "tail"] (defScope sSt) := ⟨rfl, rfl, rfl, by decide +kernel, rfl, by decide +kernel, by decide +kernel⟩
/-- the list at D holds steps -/
def StepsAt (H : Hp) (D : Addr) (ss : List (Nat × Nat)) : Prop := ∃ ts : List Addr, H D = some (.lst (ts.map V.ref)) ∧ Paired (fun t (s : Nat × Nat) => H t = some (.tup [.int (s.1 : Nat), .int (s.2 : Nat)])) ts ss
theorem StepsAt.same {H H' : Hp} {D : Addr} {ss : List (Nat × Nat)} (h : StepsAt H D ss) (e : Same H H') : StepsAt H' D ss := by
  obtain ⟨ts, h1, h2⟩ := h
  exact ⟨ts, e _ _ h1, paired_mono (fun t ρ q => e _ _ q) h2⟩
theorem len1 (tl : List Nat) : (tl ++ [35]).length = tl.length + 1 := by simp
/-- a tail's steps, and where it is stuck -/
def Wt (rs : List Rule) (tl : List Nat) : List (Nat × Nat) × Option Nat := wk rs (tl ++ [35]) tl.length 1
theorem W_Wt (rs : List Rule) (wd : List Nat) : W rs wd = Wt rs (35 :: wd) := rfl
theorem fit_roomT {tl ow : List Nat} {i : Nat} (h : ((tl ++ [35]).drop i).take ow.length = ow) (h1 : 1 ≤ ow.length) (h35 : 35 ∉ ow) : i + ow.length ≤ tl.length := by
  have hl := congrArg List.length h
  rw [List.length_take, List.length_drop, List.length_append, List.length_singleton] at hl
  refine Decidable.byContradiction fun n => h35 ?_
  have e : i + ow.length = tl.length + 1 := by omega
  have g : ow[ow.length - 1]? = some 35 := by
    rw [← h, List.getElem?_take_of_lt (by rw [h]; omega), List.getElem?_drop]
    rw [show i + ((((tl ++ [35] : List Nat).drop i).take ow.length).length - 1) = tl.length by rw [h]; omega]
    rw [List.getElem?_append_right (Nat.le_refl _), Nat.sub_self]
    rfl
  exact List.mem_of_getElem? g
theorem room_tl {rs : List Rule} (h : ∀ ρ ∈ rs, RlOk ρ) (tl : List Nat) (i : Nat) : ∀ ρ ∈ rs, RoomAt ρ (tl ++ [35]) i := fun ρ hρ c => by
  have := fit_roomT c (h ρ hρ).o1 (h ρ hρ).h35
  rw [List.length_append, List.length_singleton]
  omega
def spSt : Sp := fun vs H Q _ => ∃ (R : Addr) (rs : List Rule) (tl : List Nat), vs = [.ref R, .str (T tl)] ∧ RulesAt H R rs ∧ (∀ ρ ∈ rs, RlOk ρ) ∧ 1 ≤ tl.length ∧ tl.length ≤ 81 ∧
  ∀ (t D : Addr) (H' : Hp), Same H H' → H D = none → H' t = some (.tup [.ref D, optI (Wt rs tl).2]) → StepsAt H' D (Wt rs tl).1 → Q (.ref t) H'
theorem ok_St {f : Addr} {fd : FuncData} (F : Fun K "steps_of" "steps_of" sSt f fd) (B : Bn mg) (C : Cn mg) (cO : KI mg "OWN" 1) (DF : Df P w K mg base "first_fit" ["rules", "signs", "at"] 2 spFF) : FnOk P w K mg base CX0 3 f fd ["rules", "tail"] spSt := by
  obtain ⟨fF, fdF, GF, kF, bF, mF⟩ := DF
  obtain ⟨tE, mE⟩ := C.edge
  obtain ⟨tO, mO⟩ := cO
  refine F.ok scSt (fun vs H Q E h => ?_) (fun cdv A outer s H vs Q E hr h => ?_)
  · obtain ⟨R, rs, tl, rfl, _⟩ := h
    rfl
  · obtain ⟨R, rs, tl, rfl, hR, ho, hl1, hw, q⟩ := h
    refine ⟨_, pss_cons (ps_set (i := 2) scSt.nd rfl (.inl rfl) (pe_op op_add_str (pv 1) (pe_glob (v := .str "#") rfl mE ⟨_, rfl⟩)))
      (pss_cons (ps_set (i := 3) scSt.nd rfl (.inl rfl) (pe_lst pa_nil))
      (pss_cons (ps_set (i := 4) scSt.nd rfl (.inl rfl) pe_int)
      (pss_cons (ps_while PassesOwn.never (pt_cmpR op_lt (pv 4) (pe_op op_sub (pe_callB call_len_str (by rfl) B.len PySem.boot_len (pa_cons (pv 2) pa_nil)) pe_int) (nomark _))
        (pss_cons (ps_set (i := 5) scSt.nd rfl (.inl rfl) (pe_call GF hr (by rfl) mF kF bF .nil pass0 (pa_cons (pv 0) (pa_cons (pv 2) (pa_cons (pv 4) pa_nil)))))
        (pss_cons (ps_if (pt_cmpR op_isN (pv 5) pe_non (nomark _)) (pss_one (ps_ret (pe_tup (pa_cons (pv 3) (pa_cons (pe_op op_sub (pv 4) pe_int) pa_nil))))) pss_nil)
        (pss_cons (ps_expr (pe_bm PySem.F.plainAttrs_list PySem.F.slot_list_append PySem.F.type_list_append mt_append (pv 3) (pa_cons (pe_tup (pa_cons (pe_op op_sub (pv 4) pe_int) (pa_cons (pv 5) pa_nil))) pa_nil)))
        (pss_one (ps_aug (i := 4) scSt.nd rfl (.inl rfl) (pe_callB call_len_str (by rfl) B.len PySem.boot_len (pa_cons (pe_ix ix_tup (pe_ix ix_tup (pv 0) (pv 5) (fun _ _ => rfl)) (pe_glob (v := .int 1) rfl mO ⟨_, rfl⟩) (fun _ _ => rfl)) pa_nil)) ip_add))))))
      (pss_one (ps_ret (pe_tup (pa_cons (pv 3) (pa_cons pe_non pa_nil)))))))), ?_⟩
    refine ⟨_, rfl, _, _, rfl, rfl, (by rw [len_hash, T_len]; exact small (by omega)), ?_⟩
    rw [app_hash]
    show tSeq _ _ _ _ _
    refine ⟨(by show 0 ≤ sizeLine; decide), fun D hD => ?_⟩
    obtain ⟨rts, hRt, hRp⟩ := id hR
    have zl : (T (tl ++ [35])).length = tl.length + 1 := by rw [T_len, len1]
    have hz0 : (T (tl ++ [35])).length ≤ sizeLine := by rw [zl]; exact small (by omega)
    refine ⟨fun m σ H2 => ∃ (i : Nat) (acc : List (Nat × Nat)) (v5 : Option V), σ = [some (.ref R), some (.str (T tl)), some (.str (T (tl ++ [35]))), some (.ref D), some (.int i), v5] ∧ 1 ≤ i ∧ tl.length + 1 ≤ i + m ∧ Same H H2 ∧ StepsAt H2 D acc ∧
      Wt rs tl = (acc ++ (wk rs (tl ++ [35]) m i).1, (wk rs (tl ++ [35]) m i).2), ⟨tl.length, 1, [], _, rfl, Nat.le_refl _, by omega, same_new hD _, ⟨[], upd_same, .nil⟩, rfl⟩, fun m σ H2 hW => ?_⟩
    obtain ⟨i, acc, v5, rfl, hi1, hm, s2, hS, hW⟩ := hW
    refine ⟨_, rfl, _, rfl, _, rfl, hz0, _, _, rfl, rfl, _, _, rfl, rfl, _, rfl, ite2 (fun c => ?_) (fun c => ?_)⟩
    · have c' : (i : Int) < ((T (tl ++ [35])).length : Int) - 1 := of_decide_eq_true c
      rw [zl] at c'
      have hi : i < tl.length := by omega
      have hlt : i < (tl ++ [35]).length - 1 := by rw [len1]; omega
      obtain ⟨m', rfl⟩ : ∃ m', m = m' + 1 := ⟨m - 1, by omega⟩
      refine ⟨fun σ' H' => ∃ (i : Nat) (acc : List (Nat × Nat)) (v5 : Option V), σ' = [some (.ref R), some (.str (T tl)), some (.str (T (tl ++ [35]))), some (.ref D), some (.int i), v5] ∧ 1 ≤ i ∧ tl.length + 1 ≤ i + m' ∧ Same H H' ∧ StepsAt H' D acc ∧
        Wt rs tl = (acc ++ (wk rs (tl ++ [35]) m' i).1, (wk rs (tl ++ [35]) m' i).2), fun σ' H' h => ⟨m', Nat.lt_succ_self _, h⟩, ?_⟩
      refine ⟨_, rfl, _, rfl, _, rfl, R, rs, tl ++ [35], i, rfl, hR.kt (.of s2), ho, hi1, by rw [len1]; omega, by rw [len1]; omega, room_tl ho tl i, fun H3 s3 => ?_⟩
      have s23 := s2.trans s3
      obtain ⟨ts, hDl, hDp⟩ := hS.same s3
      cases e : ff rs (tl ++ [35]) i with
      | none =>
        rw [wk_none hlt e] at hW
        refine ⟨_, rfl, rfl, _, rfl, iteT ?_⟩
        refine ⟨_, rfl, _, rfl, _, _, rfl, rfl, (by show 2 ≤ sizeLine; decide), fun t ht => ?_⟩
        have sm := same_new ht (.tup [.ref D, .int ((i : Int) - 1)])
        refine q t D _ (s23.trans sm) hD ?_ ?_
        · rw [upd_same, hW]
          show some (HO.tup [V.ref D, V.int ((i : Int) - 1)]) = some (HO.tup [V.ref D, V.int ((i - 1 : Nat) : Int)])
          rw [show ((i - 1 : Nat) : Int) = (i : Int) - 1 by omega]
        · rw [hW, List.append_nil]
          exact StepsAt.same ⟨ts, hDl, hDp⟩ sm
      | some k =>
        rw [wk_some hlt e] at hW
        have hk := ff_lt e
        obtain ⟨a, ha, hat⟩ := paired_at' hRp (List.getElem?_eq_getElem hk)
        have hm2 := ho _ (List.getElem_mem hk)
        have er : ruleAt rs k = rs[k] := ruleAt_eq (List.getElem?_eq_getElem hk)
        refine ⟨_, rfl, rfl, _, rfl, ?_⟩
        rw [show decide (optI (some k) = V.non) = false from decide_eq_false (fun z => by cases z)]
        refine iteF ?_
        refine ⟨_, rfl, .inl ⟨rfl, _, .inl (.inl hDl)⟩, _, rfl, _, _, rfl, rfl, _, rfl, (by show 2 ≤ sizeLine; decide), fun t ht => ?_⟩
        have sm := same_new ht (.tup [.int ((i : Int) - 1), .int (k : Nat)])
        have hDl' := sm _ _ hDl
        have sall : Same H (upd (upd H3 t (.tup [.int ((i : Int) - 1), .int (k : Nat)])) D (.lst (ts.map V.ref ++ [.ref t]))) := fun b u e => by
          rw [upd_ne (ne_of_none e hD)]
          exact sm _ _ (s23 _ _ e)
        refine ⟨D, _, _, rfl, rfl, hDl', ?_, ?_⟩
        · rw [List.length_map, paired_len hDp]
          have l1 : (Wt rs tl).1.length ≤ tl.length := wk_len rs (tl ++ [35]) tl.length 1
          rw [hW] at l1
          simp at l1
          exact small1000 (by omega)
        · have kR : Same H3 (upd (upd H3 t (.tup [.int ((i : Int) - 1), .int (k : Nat)])) D (.lst (ts.map V.ref ++ [.ref t]))) → True := fun _ => trivial
          have atR := sall _ _ hRt
          have ata := sall _ _ hat
          refine ⟨_, rfl, _, rfl, _, rfl, R, _, (k : Int), .ref a, rfl, rfl, .inl (.inl atR), atI_nat (by rw [List.getElem?_map, ha]; rfl), a, _, 1, .str (T rs[k].ow), rfl, rfl, .inl (.inl ata), atI_nat (j := 1) rfl, _, rfl, (by rw [T_len]; have := hm2.o2; exact small (by omega)), _, _, rfl, rfl, ?_⟩
          refine ⟨i + rs[k].ow.length, acc ++ [(i - 1, k)], some (.int (k : Nat)), ?_, by omega, by have := hm2.o1; omega, sall, ?_, ?_⟩
          · have ee : ((i + rs[k].ow.length : Nat) : Int) = (i : Int) + ((T rs[k].ow).length : Int) := by rw [T_len]; omega
            rw [ee]
            rfl
          · refine ⟨ts ++ [t], by rw [upd_same, List.map_append]; rfl, paired_app (paired_mono (fun t' s h => ?_) hDp) (.cons ?_ .nil)⟩
            · rw [upd_ne (ne_of h hDl (by intro z; cases z))]
              exact sm _ _ h
            · rw [upd_ne (ne_of_none hDl ht).symm, upd_same]
              show some (HO.tup [V.int ((i : Int) - 1), V.int (k : Nat)]) = some (HO.tup [V.int ((i - 1 : Nat) : Int), V.int (k : Nat)])
              rw [show ((i - 1 : Nat) : Int) = (i : Int) - 1 by omega]
          · rw [hW, er, List.append_assoc]
            rfl
    · have c' : ¬ (i : Int) < ((T (tl ++ [35])).length : Int) - 1 := of_decide_eq_false (Bool.eq_false_iff.mpr c)
      rw [zl] at c'
      rw [wk_end rs (tl ++ [35]) m i (by rw [len1]; omega)] at hW
      refine ⟨_, rfl, (by show 2 ≤ sizeLine; decide), fun t ht => ?_⟩
      have sm := same_new ht (.tup [.ref D, .non])
      refine q t D _ (s2.trans sm) hD ?_ ?_
      · rw [upd_same, hW]
        rfl
      · rw [hW, List.append_nil]
        exact hS.same sm
def LWAt (H : Hp) (t : Addr) (q : List (Nat × Nat) × Option Nat) : Prop := match q.2 with
  | some p => H t = some (.tup [.str (Str.ofString "unsaid"), .int (p : Nat)])
  | none => ∃ D, H t = some (.tup [.str (T []), .ref D]) ∧ StepsAt H D q.1
theorem LWAt.same {H H' : Hp} {t : Addr} {q : List (Nat × Nat) × Option Nat} (h : LWAt H t q) (e : Same H H') : LWAt H' t q := by
  obtain ⟨l, o⟩ := q
  cases o with
  | some p => exact e _ _ h
  | none =>
    obtain ⟨D', h1, h2⟩ := h
    exact ⟨D', e _ _ h1, h2.same e⟩
end
end Say
namespace Say
open PySem PySem.Spec PyProof.Rows L2
/-- the sounds of the rules of these numbers -/
def soL (rs : List Rule) (ks : List Nat) : List Nat := (ks.map fun k => (ruleAt rs k).so).flatten
/-- how rules say a word -/
def sayW (rs : List Rule) (wd : List Nat) : Option (List Nat) := if (W rs wd).2 = none then some (soL rs ((W rs wd).1.map (·.2))) else none
def optT : Option (List Nat) → V
  | none => .non
  | some s => .str (T s)
/-- how a book says a word -/
def saidM (rs : List Rule) (es : List Exc) (wd : List Nat) : Option (List Nat) := match es.find? fun e => decide (e.1 = wd) with
  | some e => some e.2
  | none => sayW rs wd
theorem sum_T : ∀ ls : List (List Nat), ((ls.map T).map fun z : Str => z.length).sum = ls.flatten.length
  | [] => rfl
  | l :: r => by
    show (T l).length + ((r.map T).map fun z : Str => z.length).sum = (l ++ r.flatten).length
    rw [sum_T r, T_len, List.length_append]
theorem flat_len {rs : List Rule} (h : ∀ ρ ∈ rs, RlOk ρ) : ∀ ks : List Nat, (∀ k ∈ ks, k < rs.length) → (soL rs ks).length ≤ 3 * ks.length
  | [], _ => Nat.zero_le _
  | k :: r, hk => by
    have ih := flat_len h r fun j hj => hk j (List.mem_cons_of_mem _ hj)
    have hl := hk k (List.mem_cons_self ..)
    have e : ruleAt rs k = rs[k] := ruleAt_eq (List.getElem?_eq_getElem hl)
    have h3 := (h _ (List.getElem_mem hl)).s3
    show ((ruleAt rs k).so ++ soL rs r).length ≤ 3 * (r.length + 1)
    rw [List.length_append, e]
    omega
theorem wk_lt {rs : List Rule} {z : List Nat} : ∀ (m i : Nat), ∀ s ∈ (wk rs z m i).1, s.2 < rs.length
  | 0, _, s, h => by cases h
  | m + 1, i, s, h => by
    by_cases c : i < z.length - 1
    · cases e : ff rs z i with
      | none => rw [wk_none c e] at h; cases h
      | some k =>
        rw [wk_some c e] at h
        rcases List.mem_cons.mp h with rfl | h
        · exact ff_lt e
        · exact wk_lt m _ s h
    · rw [wk_end rs z _ i c] at h
      cases h
section
variable {P : Program} {w : World} {K : PySem.W.Frag} {mg : Str → Option Value} {base : Heap}
abbrev sNum : Stmt := topS 53
theorem scNum : FnScope ["steps", "_", "number"] ["steps"] (defScope sNum) := ⟨rfl, rfl, rfl, by decide +kernel, rfl, by decide +kernel, by decide +kernel⟩
def spNum : Sp := fun vs H Q _ => ∃ (D : Addr) (ss : List (Nat × Nat)), vs = [.ref D] ∧ StepsAt H D ss ∧ ss.length ≤ 200 ∧ ∀ (D' : Addr) (H' : Hp), Same H H' → H D' = none → H' D' = some (.lst (ss.map fun s => V.int (s.2 : Nat))) → Q (.ref D') H'
theorem ok_num {f : Addr} {fd : FuncData} {k : Nat} (F : Fun K "numbers_of" "numbers_of" sNum f fd) : FnOk P w K mg base CX0 (k + 1) f fd ["steps"] spNum := by
  refine F.ok scNum (fun vs H Q E h => ?_) (fun cdv A outer s H vs Q E hr h => ?_)
  · obtain ⟨D, ss, rfl, _⟩ := h
    rfl
  · obtain ⟨D, ss, rfl, ⟨ts, hD, hp⟩, hl, q⟩ := h
    refine ⟨_, pss_one (ps_ret (pe_lc (own := [("_", 1), ("number", 2)]) (g := gTup K 2 (gCons (gName 1) (gCons (gName 2) gNil))) rfl scNum.nd (pi_list (pv 0))
        (blkOk_by (N := ["steps", "_", "number"]) (sc := defScope sNum) (by decide +kernel)) (fun _ _ _ _ _ => pg_tup (by rfl) (pgs_cons (pg_name (i := 1) scNum.nd rfl (.inl rfl)) (pgs_cons (pg_name (i := 2) scNum.nd rfl (.inl rfl)) pgs_nil)))
        (fun _ _ _ _ _ => pts_nil) (fun _ _ _ _ _ => pv 2))), ?_⟩
    refine ⟨_, rfl, D, rfl, ⟨_, .inl (.inl hD)⟩, fun D' hD' => ?_⟩
    refine lc_it (walk_list (xs := ts.map V.ref)) (fun i H2 => H2 D' = some (.lst ((ss.take i).map fun s => V.int (s.2 : Nat))) ∧ Same H H2) ?_ (fun i H2 _ h => .inl (.inl (h.2 _ _ hD))) ?_ ?_
    · exact ⟨upd_same, same_new hD' _⟩
    · rintro i x H2 H2' hi ⟨e1, e2⟩ ⟨rfl, hx⟩
      rw [List.getElem?_map] at hx
      obtain ⟨a, ha, e⟩ := Option.map_eq_some_iff.mp hx
      subst e
      obtain ⟨st, hst, hat⟩ := paired_at hp ha
      have hi2 : i < ss.length := (List.getElem?_eq_some_iff.mp hst).1
      refine ⟨a, _, rfl, .inl (.inl (e2 _ _ hat)), rfl, _, _, rfl, _, _, rfl, rfl, ?_⟩
      refine ⟨rfl, _, rfl, _, e1, ?_, ?_, ?_⟩
      · rw [List.length_map, List.length_take]
        exact small1000 (by omega)
      · rw [upd_same, List.take_add_one, hst, List.map_append]
        rfl
      · exact fun b u q => by
          rw [upd_ne (ne_of_none q hD')]
          exact e2 b u q
    · rintro H2 ⟨e1, e2⟩
      rw [List.length_map, paired_len hp, List.take_length] at e1
      exact q D' H2 e2 hD' e1
end
end Say
namespace Say
open PySem PySem.Spec PyProof.Rows L2
section
variable {P : Program} {w : World} {K : PySem.W.Frag} {mg : Str → Option Value} {base : Heap}
abbrev sSou : Stmt := topS 54
theorem scSou : FnScope ["rules", "numbers", "number"] ["rules", "numbers"] (defScope sSou) := ⟨rfl, rfl, rfl, by decide +kernel, rfl, by decide +kernel, by decide +kernel⟩
def spSou : Sp := fun vs H Q _ => ∃ (R D : Addr) (rs : List Rule) (ks : List Nat), vs = [.ref R, .ref D] ∧ RulesAt H R rs ∧ (∀ ρ ∈ rs, RlOk ρ) ∧ H D = some (.lst (ks.map fun k => V.int (k : Nat))) ∧ (∀ k ∈ ks, k < rs.length) ∧ ks.length ≤ 200 ∧
  ∀ (H' : Hp), Same H H' → Q (.str (T (soL rs ks))) H'
theorem ok_sou {f : Addr} {fd : FuncData} {k : Nat} (F : Fun K "sounds_of" "sounds_of" sSou f fd) (cS : KI mg "SOUNDS" 3) : FnOk P w K mg base CX0 (k + 1) f fd ["rules", "numbers"] spSou := by
  obtain ⟨tS, mS⟩ := cS
  refine F.ok scSou (fun vs H Q E h => ?_) (fun cdv A outer s H vs Q E hr h => ?_)
  · obtain ⟨R, D, rs, ks, rfl, _⟩ := h
    rfl
  · obtain ⟨R, D, rs, ks, rfl, ⟨rts, hR, hRp⟩, ho, hD, hk, hl, q⟩ := h
    refine ⟨_, pss_one (ps_ret (pe_join pe_str (pe_lc (own := [("number", 2)]) (g := gName 2) (te := tOp (rIxT K) (tOp (rIxT K) (tVar 0) (tVar 2)) (tC (.int 3))) rfl scSou.nd (pi_list (pv 1))
        (blkOk_by (N := ["rules", "numbers", "number"]) (sc := defScope sSou) (by decide +kernel)) (fun _ _ _ _ _ => pg_name (i := 2) scSou.nd rfl (.inl rfl))
        (fun _ _ _ _ _ => pts_nil) (fun _ _ _ _ _ => pe_ix ix_tup (pe_ix ix_tup (pv 0) (pv 2) (fun _ _ => rfl)) (pe_glob (v := .int 3) rfl mS ⟨_, rfl⟩) (fun _ _ => rfl))))), ?_⟩
    refine ⟨⟨_, rfl⟩, _, rfl, D, rfl, ⟨_, .inl (.inl hD)⟩, fun D' hD' => ?_⟩
    refine lc_it (walk_list (xs := ks.map fun k => V.int (k : Nat))) (fun i H2 => H2 D' = some (.lst ((((ks.take i).map fun k => (ruleAt rs k).so).map T).map V.str)) ∧ Same H H2) ?_ (fun i H2 _ h => .inl (.inl (h.2 _ _ hD))) ?_ ?_
    · exact ⟨upd_same, same_new hD' _⟩
    · rintro i x H2 H2' hi ⟨e1, e2⟩ ⟨rfl, hx⟩
      rw [List.getElem?_map] at hx
      obtain ⟨j, hj, e⟩ := Option.map_eq_some_iff.mp hx
      subst e
      have hjl := hk j (List.mem_of_getElem? hj)
      have hi2 : i < ks.length := (List.getElem?_eq_some_iff.mp hj).1
      obtain ⟨a, ha, hat⟩ := paired_at' hRp (List.getElem?_eq_getElem hjl)
      have er : ruleAt rs j = rs[j] := ruleAt_eq (List.getElem?_eq_getElem hjl)
      refine ⟨rfl, ?_⟩
      refine ⟨_, rfl, _, rfl, R, _, (j : Int), .ref a, rfl, rfl, .inl (.inl (e2 _ _ hR)), atI_nat (by rw [List.getElem?_map, ha]; rfl), a, _, 3, .str (T rs[j].so), rfl, rfl, .inl (.inl (e2 _ _ hat)), atI_nat (j := 3) rfl, _, e1, ?_, ?_, ?_⟩
      · rw [List.length_map, List.length_map, List.length_map, List.length_take]
        exact small1000 (by omega)
      · rw [upd_same, List.take_add_one, hj]
        simp only [Option.toList_some, List.map_append, List.map_cons, List.map_nil, er]
      · exact fun b u q => by
          rw [upd_ne (ne_of_none q hD')]
          exact e2 b u q
    · rintro H2 ⟨e1, e2⟩
      rw [List.length_map, List.take_length] at e1
      refine ⟨Str.ofString "", D', (ks.map fun k => (ruleAt rs k).so).map T, rfl, rfl, .inl (.inl (.inl e1)), ?_, ?_⟩
      · rw [sum_T]
        have := flat_len ho ks hk
        show (soL rs ks).length + _ * 0 ≤ _
        omega
      · rw [show Str.ofString "" = T [] from nil_eq, join_nil]
        exact q H2 e2
end
end Say
namespace Say
open PySem PySem.Spec PyProof.Rows L2
section
variable {P : Program} {w : World} {K : PySem.W.Frag} {mg : Str → Option Value} {base : Heap}
abbrev sEnd : Stmt := topS 50
theorem scEnd : FnScope ["rules", "tail", "steps", "stuck"] ["rules", "tail"] (defScope sEnd) := ⟨rfl, rfl, rfl, by decide +kernel, rfl, by decide +kernel, by decide +kernel⟩
/-- the numbers by which a tail is said -/
def endM (rs : List Rule) : Option (List Nat) → Option (List Nat)
  | none => none
  | some t => if (Wt rs t).2 = none then some ((Wt rs t).1.map (·.2)) else none
def ensM (rs : List Rule) (tl : Option (List Nat)) : Option (List Nat) := (endM rs tl).map (soL rs)
theorem sayW_ens (rs : List Rule) (wd : List Nat) : sayW rs wd = ensM rs (some (35 :: wd)) := by
  unfold sayW ensM endM
  rw [W_Wt]
  by_cases c : (Wt rs (35 :: wd)).2 = none
  · rw [if_pos c]
    simp only [c, if_true, Option.map_some]
  · rw [if_neg c]
    simp only [c, if_false, Option.map_none]
def EndV (H : Hp) (v : V) : Option (List Nat) → Prop
  | none => v = .non
  | some ks => ∃ D, v = .ref D ∧ H D = some (.lst (ks.map fun k => V.int (k : Nat)))
/-- a tail, not long -/
def TlOk (tl : Option (List Nat)) : Prop := ∀ t, tl = some t → 1 ≤ t.length ∧ t.length ≤ 81
def spEnd : Sp := fun vs H Q _ => ∃ (R : Addr) (rs : List Rule) (tl : Option (List Nat)), vs = [.ref R, optT tl] ∧ RulesAt H R rs ∧ (∀ ρ ∈ rs, RlOk ρ) ∧ TlOk tl ∧
  ∀ (v : V) (H' : Hp), Same H H' → EndV H' v (endM rs tl) → Q v H'
theorem ok_end {f : Addr} {fd : FuncData} (F : Fun K "ending" "ending" sEnd f fd) (DS : Df P w K mg base "steps_of" ["rules", "tail"] 3 spSt) (DN : Df P w K mg base "numbers_of" ["steps"] 1 spNum) : FnOk P w K mg base CX0 4 f fd ["rules", "tail"] spEnd := by
  obtain ⟨fS, fdS, GS, kS, bS, mS⟩ := DS
  obtain ⟨fN, fdN, GN, kN, bN, mN⟩ := DN
  refine F.ok scEnd (fun vs H Q E h => ?_) (fun cdv A outer s H vs Q E hr h => ?_)
  · obtain ⟨R, rs, tl, rfl, _⟩ := h
    rfl
  · obtain ⟨R, rs, tl, rfl, hR, ho, hw, q⟩ := h
    have hr1 : Room 1 _ := hr.mono (by decide)
    refine ⟨_, pss_cons (ps_if (pt_cmpR op_isN (pv 1) pe_non (nomark _)) (pss_one (ps_ret pe_non)) pss_nil)
      (pss_cons (ps_asg (pe_call GS hr (by rfl) mS kS bS .nil pass0 (pa_cons (pv 0) (pa_cons (pv 1) pa_nil))) (pg_tup (by rfl) (pgs_cons (pg_name (i := 2) scEnd.nd rfl (.inl rfl)) (pgs_cons (pg_name (i := 3) scEnd.nd rfl (.inl rfl)) pgs_nil))))
      (pss_cons (ps_if (pt_cmpR op_notN (pv 3) pe_non (nomark _)) (pss_one (ps_ret pe_non)) pss_nil)
      (pss_one (ps_ret (pe_call GN hr1 (by rfl) mN kN bN .nil pass0 (pa_cons (pv 2) pa_nil)))))), ?_⟩
    cases tl with
    | none =>
      refine ⟨_, rfl, rfl, _, rfl, iteT ?_⟩
      exact q _ H (Same.refl H) rfl
    | some tl =>
    obtain ⟨h1, h81⟩ := hw tl rfl
    refine ⟨_, rfl, rfl, _, rfl, ?_⟩
    rw [show decide (optT (some tl) = V.non) = false from decide_eq_false (fun z => by cases z)]
    refine iteF ?_
    refine ⟨_, rfl, _, rfl, R, rs, tl, rfl, hR, ho, h1, h81, fun t D H1 s1 hD ht hS => ?_⟩
    refine ⟨t, _, rfl, .inl (.inl ht), rfl, _, _, rfl, _, _, rfl, rfl, ?_⟩
    refine ⟨_, rfl, rfl, _, rfl, ?_⟩
    simp only [endM] at q
    cases e : (Wt rs tl).2 with
    | some p =>
      rw [e, if_neg (fun z => by cases z)] at q
      rw [show decide (optI (some p) = V.non) = false from decide_eq_false (fun z => by cases z)]
      refine iteT ?_
      exact q _ H1 s1 rfl
    | none =>
      rw [e, if_pos rfl] at q
      refine iteF ?_
      have hl : (Wt rs tl).1.length ≤ tl.length := wk_len rs (tl ++ [35]) tl.length 1
      refine ⟨_, rfl, D, _, rfl, hS, by omega, fun D' H2 s2 _ h2 => ?_⟩
      refine q _ H2 (s1.trans s2) ⟨D', rfl, ?_⟩
      rw [h2, List.map_map]
      rfl
end
end Say
namespace Say
open PySem PySem.Spec PyProof.Rows L2
section
variable {P : Program} {w : World} {K : PySem.W.Frag} {mg : Str → Option Value} {base : Heap}
abbrev sEnS : Stmt := topS 51
theorem scEnS : FnScope ["rules", "tail", "numbers"] ["rules", "tail"] (defScope sEnS) := ⟨rfl, rfl, rfl, by decide +kernel, rfl, by decide +kernel, by decide +kernel⟩
def spEnS : Sp := fun vs H Q _ => ∃ (R : Addr) (rs : List Rule) (tl : Option (List Nat)), vs = [.ref R, optT tl] ∧ RulesAt H R rs ∧ (∀ ρ ∈ rs, RlOk ρ) ∧ TlOk tl ∧
  ∀ (H' : Hp), Same H H' → Q (optT (ensM rs tl)) H'
theorem end_ks {rs : List Rule} {tl : Option (List Nat)} {ks : List Nat} (h : endM rs tl = some ks) (hw : TlOk tl) : (∀ k ∈ ks, k < rs.length) ∧ ks.length ≤ 81 := by
  cases tl with
  | none => cases h
  | some t =>
    unfold endM at h
    by_cases c : (Wt rs t).2 = none
    · simp only [c, if_true] at h
      cases h
      refine ⟨fun k hk => ?_, ?_⟩
      · obtain ⟨st, hst, rfl⟩ := List.mem_map.mp hk
        exact wk_lt _ _ st hst
      · have hl : (Wt rs t).1.length ≤ t.length := wk_len rs (t ++ [35]) t.length 1
        have := (hw t rfl).2
        rw [List.length_map]
        omega
    · simp only [c, if_false] at h
      cases h
theorem ok_enS {f : Addr} {fd : FuncData} (F : Fun K "ending_sounds" "ending_sounds" sEnS f fd) (DE : Df P w K mg base "ending" ["rules", "tail"] 4 spEnd) (DN : Df P w K mg base "sounds_of" ["rules", "numbers"] 1 spSou) : FnOk P w K mg base CX0 5 f fd ["rules", "tail"] spEnS := by
  obtain ⟨fS, fdS, GS, kS, bS, mS⟩ := DE
  obtain ⟨fN, fdN, GN, kN, bN, mN⟩ := DN
  refine F.ok scEnS (fun vs H Q E h => ?_) (fun cdv A outer s H vs Q E hr h => ?_)
  · obtain ⟨R, rs, tl, rfl, _⟩ := h
    rfl
  · obtain ⟨R, rs, tl, rfl, hR, ho, hw, q⟩ := h
    have hr1 : Room 1 _ := hr.mono (by decide)
    refine ⟨_, pss_cons (ps_set (i := 2) scEnS.nd rfl (.inl rfl) (pe_call GS hr (by rfl) mS kS bS .nil pass0 (pa_cons (pv 0) (pa_cons (pv 1) pa_nil))))
      (pss_cons (ps_if (pt_cmpR op_isN (pv 2) pe_non (nomark _)) (pss_one (ps_ret pe_non)) pss_nil)
      (pss_one (ps_ret (pe_call GN hr1 (by rfl) mN kN bN .nil pass0 (pa_cons (pv 0) (pa_cons (pv 2) pa_nil)))))), ?_⟩
    refine ⟨_, rfl, _, rfl, R, rs, tl, rfl, hR, ho, hw, fun v H1 s1 hv => ?_⟩
    unfold ensM at q
    cases e : endM rs tl with
    | none =>
      rw [e] at hv q
      cases hv
      refine ⟨_, rfl, rfl, _, rfl, iteT ?_⟩
      exact q H1 s1
    | some ks =>
      rw [e] at hv q
      obtain ⟨D, rfl, hD⟩ := hv
      obtain ⟨hk, hl⟩ := end_ks e hw
      refine ⟨_, rfl, rfl, _, rfl, ?_⟩
      rw [show decide (V.ref D = V.non) = false from decide_eq_false (fun z => by cases z)]
      refine iteF ?_
      exact ⟨_, rfl, _, rfl, R, D, rs, ks, rfl, hR.kt (.of s1), ho, hD, hk, by omega, fun H2 s2 => q H2 (s1.trans s2)⟩
end
end Say
namespace Say
open PySem PySem.Spec PyProof.Rows L2
section
variable {P : Program} {w : World} {K : PySem.W.Frag} {mg : Str → Option Value} {base : Heap}
abbrev sWS : Stmt := topS 52
theorem scWS : FnScope ["rules", "word"] ["rules", "word"] (defScope sWS) := ⟨rfl, rfl, rfl, by decide +kernel, rfl, by decide +kernel, by decide +kernel⟩
def spWS : Sp := fun vs H Q _ => ∃ (R : Addr) (rs : List Rule) (wd : List Nat), vs = [.ref R, .str (T wd)] ∧ RulesAt H R rs ∧ (∀ ρ ∈ rs, RlOk ρ) ∧ wd.length ≤ 80 ∧
  ∀ (H' : Hp), Same H H' → Q (optT (sayW rs wd)) H'
theorem ok_WS {f : Addr} {fd : FuncData} (F : Fun K "word_sounds" "word_sounds" sWS f fd) (C : Cn mg) (DE : Df P w K mg base "ending_sounds" ["rules", "tail"] 5 spEnS) : FnOk P w K mg base CX0 6 f fd ["rules", "word"] spWS := by
  obtain ⟨fE, fdE, GE, kE, bE, mE⟩ := DE
  obtain ⟨tE, mG⟩ := C.edge
  refine F.ok scWS (fun vs H Q E h => ?_) (fun cdv A outer s H vs Q E hr h => ?_)
  · obtain ⟨R, rs, wd, rfl, _⟩ := h
    rfl
  · obtain ⟨R, rs, wd, rfl, hR, ho, hw, q⟩ := h
    refine ⟨_, pss_one (ps_ret (pe_call GE hr (by rfl) mE kE bE .nil pass0 (pa_cons (pv 0) (pa_cons (pe_op op_add_str (pe_glob (v := .str "#") rfl mG ⟨_, rfl⟩) (pv 1)) pa_nil)))), ?_⟩
    exact ⟨_, rfl, _, rfl, _, _, rfl, rfl, (by rw [len_hash, T_len]; exact small (by omega)), R, rs, some (35 :: wd), (by rw [hash_app]; rfl), hR, ho, (fun t e => by cases e; exact ⟨by simp, by simp; omega⟩), fun H1 s1 => by have := q H1 s1; rw [sayW_ens] at this; exact this⟩
end
end Say
namespace Say
open PySem PySem.Spec PyProof.Rows L2
section
variable {P : Program} {w : World} {K : PySem.W.Frag} {mg : Str → Option Value} {base : Heap}
abbrev sChE : Stmt := topS 31
theorem scChE : FnScope ["letters", "exceptions", "last", "number", "pair"] ["letters", "exceptions"] (defScope sChE) := ⟨rfl, rfl, rfl, by decide +kernel, rfl, by decide +kernel, by decide +kernel⟩
def spChE : Sp := fun vs H Q _ => ∃ (L : List Nat) (X : Addr) (es : List Exc), vs = [.str (T L), .ref X] ∧ ExcsAt H X es ∧ (∀ e ∈ es, ExcOk L e) ∧ es.length ≤ 8 ∧ (es.Pairwise fun e f => e.1 < f.1) ∧ ∀ (H' : Hp), Same H H' → Q .non H'
theorem ok_chE {f : Addr} {fd : FuncData} (F : Fun K "check_exceptions" "check_exceptions" sChE f fd) (B : Bn mg) (cM : KI mg "MOST_EXCEPTIONS" 8) (DI : Df P w K mg base "is_exception" ["letters", "pair"] 3 spIsExc) :
    FnOk P w K mg base CX0 4 f fd ["letters", "exceptions"] spChE := by
  obtain ⟨fI, fdI, GI, kI, bI, mI⟩ := DI
  obtain ⟨tS, mS⟩ := cM
  refine F.ok scChE (fun vs H Q E h => ?_) (fun cdv A outer s H vs Q E hr h => ?_)
  · obtain ⟨L, X, es, rfl, _⟩ := h
    rfl
  · obtain ⟨L, X, es, rfl, ⟨ts, hX, hp⟩, ho, h8, up, q⟩ := h
    refine ⟨_, pss_cons (ps_if (pt_not (pt_val (pe_callB call_isi (by rfl) B.isi (by decide +kernel) (pa_cons (pv 1) (pa_cons (pe_bltn (v := .ty "tuple") rfl B.tup (by decide +kernel) rfl) pa_nil))))) (pss_one ps_never) pss_nil)
      (pss_cons (ps_set (i := 2) scChE.nd rfl (.inl rfl) pe_str)
      (pss_one (ps_for PassesOwn.never rfl (pi_enumT (by rfl) B.enu (pa_cons (pv 1) pa_nil)) (pg_tup (by rfl) (pgs_cons (pg_name (i := 3) scChE.nd rfl (.inl rfl)) (pgs_cons (pg_name (i := 4) scChE.nd rfl (.inl rfl)) pgs_nil)))
        (pss_cons (ps_if (PW.pt (pw_or (pt_cmpR op_eq (pv 3) (pe_glob (v := .int 8) rfl mS ⟨_, rfl⟩) (nomark _)) (pw_or (pt_not (pt_val (pe_call GI hr (by rfl) mI kI bI .nil pass0 (pa_cons (pv 0) (pa_cons (pv 4) pa_nil)))))
            (pw_or1 (pt_cmpR op_le_str (pe_ix ix_tup (pv 4) pe_int (fun _ _ => rfl)) (pv 2) (nomark _)))))) (pss_one ps_never) pss_nil)
        (pss_one (ps_set (i := 2) scChE.nd rfl (.inl rfl) (pe_ix ix_tup (pv 4) pe_int (fun _ _ => rfl)))))))), ?_⟩
    refine ⟨_, rfl, _, _, .type "tuple", _, true, rfl, ClsV.ty _, .fTuple hX.choose_spec.1, kit_ty (by decide +kernel), true, rfl, iteF ?_⟩
    refine ⟨_, rfl, X, _, rfl, .inl hX.rd, for_it (walk_enumT (xs := ts.map V.ref)) (fun i σ H2 => Same H H2 ∧ ∃ l v3 v4, σ = [some (.str (T L)), some (.ref X), some (.str (T l)), v3, v4] ∧ ∀ e, es[i]? = some e → l < e.1) ⟨Same.refl H, [], _, _, by rw [← show Str.ofString "" = T [] from nil_eq]; rfl, fun e he => ?_⟩ (fun i σ H2 _ h => .inl (hX.kt (.of h.1)).rd) ?_ ?_⟩
    · have := (ho e (List.mem_of_getElem? he)).w1
      cases h : e.1 with
      | nil => rw [h] at this; exact absurd this (by decide)
      | cons a r => exact List.Lex.nil
    · rintro i x σ H2 H3 hi ⟨s2, l, v3, v4, rfl, hlt⟩ ⟨t, x1, x2, rfl, ht, rfl, g1, g2⟩
      cases g1
      have g2 : (ts.map V.ref)[i]? = some x2 := g2
      rw [List.getElem?_map] at g2
      obtain ⟨a, ha, e⟩ := Option.map_eq_some_iff.mp g2
      subst e
      obtain ⟨e, he, hat⟩ := paired_at hp ha
      have sm := same_new ht (.tup [.int (i : Nat), .ref a])
      have hi2 : i < es.length := (List.getElem?_eq_some_iff.mp he).1
      refine ⟨t, _, rfl, .inl (.inl upd_same), rfl, _, _, rfl, _, _, rfl, rfl, ?_⟩
      refine ⟨_, rfl, rfl, _, rfl, ?_⟩
      have nq : ¬ V.int ((i : Nat) : Int) = V.int 8 := fun z => by
        have := V.int.inj z
        omega
      rw [decide_eq_false nq]
      refine iteF ?_
      refine ⟨_, rfl, _, rfl, L, a, e, rfl, sm _ _ (s2 _ _ hat), ho e (List.mem_of_getElem? he), fun H4 s4 => ?_⟩
      have hat4 := s4 _ _ (sm _ _ (s2 _ _ hat))
      refine ⟨true, rfl, iteF ?_⟩
      refine ⟨_, rfl, a, _, 0, .str (T e.1), rfl, rfl, .inl (.inl hat4), atI_nat (j := 0) rfl, _, rfl, _, _, rfl, rfl, _, rfl, ?_⟩
      have lt := hlt e he
      rw [show decide ((T l).cps.toList < (T e.1).cps.toList) = true from decide_eq_true lt]
      refine iteF ?_
      refine ⟨_, rfl, a, _, 0, .str (T e.1), rfl, rfl, .inl (.inl hat4), atI_nat (j := 0) rfl, ?_⟩
      refine ⟨s2.trans (sm.trans s4), e.1, _, _, rfl, fun e' he' => ?_⟩
      exact (List.pairwise_iff_getElem.mp up) i (i + 1) hi2 (List.getElem?_eq_some_iff.mp he').1 (Nat.lt_succ_self _) |> fun h => by
        rw [(List.getElem?_eq_some_iff.mp he).2, (List.getElem?_eq_some_iff.mp he').2] at h
        exact h
    · rintro σ H2 ⟨s2, l, v3, v4, rfl, _⟩
      exact q H2 s2
abbrev sCh : Stmt := topS 28
theorem scCh : FnScope ["book", "letters", "rules", "exceptions"] ["book"] (defScope sCh) := ⟨rfl, rfl, rfl, by decide +kernel, rfl, by decide +kernel, by decide +kernel⟩
def spCh : Sp := fun vs H Q _ => ∃ (b : Addr) (L : List Nat) (rs : List Rule) (es : List Exc), vs = [.ref b] ∧ BookAt H b L rs es ∧ BookOk L rs es ∧ ∀ (H' : Hp), Same H H' → Q (.ref b) H'
theorem ok_ch {f : Addr} {fd : FuncData} (F : Fun K "checked_book" "checked_book" sCh f fd) (B : Bn mg) (DL : Df P w K mg base "check_letters" ["letters"] 2 spChL) (DR : Df P w K mg base "check_rules" ["letters", "rules"] 4 spChR)
    (DE : Df P w K mg base "check_exceptions" ["letters", "exceptions"] 4 spChE) : FnOk P w K mg base CX0 5 f fd ["book"] spCh := by
  obtain ⟨fL, fdL, GL, kL, bL, mL⟩ := DL
  obtain ⟨fR, fdR, GR, kR, bR, mR⟩ := DR
  obtain ⟨fE, fdE, GE, kE, bE, mE⟩ := DE
  refine F.ok scCh (fun vs H Q E h => ?_) (fun cdv A outer s H vs Q E hr h => ?_)
  · obtain ⟨b, L, rs, es, rfl, _⟩ := h
    rfl
  · obtain ⟨b, L, rs, es, rfl, ⟨R, X, hb, hR, hX⟩, ho, q⟩ := h
    refine ⟨_, pss_cons (ps_if (PW.pt (pw_or (pt_not (pt_val (pe_callB call_isi (by rfl) B.isi (by decide +kernel) (pa_cons (pv 0) (pa_cons (pe_bltn (v := .ty "tuple") rfl B.tup (by decide +kernel) rfl) pa_nil)))))
          (pw_or1 (pt_cmpR op_ne (pe_callB call_len (by rfl) B.len PySem.boot_len (pa_cons (pv 0) pa_nil)) pe_int (nomark _))))) (pss_one ps_never) pss_nil)
      (pss_cons (ps_asg (pv 0) (pg_tup (by rfl) (pgs_cons (pg_name (i := 1) scCh.nd rfl (.inl rfl)) (pgs_cons (pg_name (i := 2) scCh.nd rfl (.inl rfl)) (pgs_cons (pg_name (i := 3) scCh.nd rfl (.inl rfl)) pgs_nil)))))
      (pss_cons (ps_expr (pe_call GL (hr.mono (by decide)) (by rfl) mL kL bL .nil pass0 (pa_cons (pv 1) pa_nil)))
      (pss_cons (ps_expr (pe_call GR hr (by rfl) mR kR bR .nil pass0 (pa_cons (pv 1) (pa_cons (pv 2) pa_nil))))
      (pss_cons (ps_expr (pe_call GE hr (by rfl) mE kE bE .nil pass0 (pa_cons (pv 1) (pa_cons (pv 3) pa_nil))))
      (pss_one (ps_ret (pv 0))))))), ?_⟩
    refine ⟨_, rfl, _, _, .type "tuple", _, true, rfl, ClsV.ty _, .base (.tup hb), kit_ty (by decide +kernel), true, rfl, iteF ?_⟩
    refine ⟨_, rfl, _, 3, rfl, .inr ⟨_, .inl (.inl hb), rfl⟩, rfl, _, rfl, iteF ?_⟩
    refine ⟨_, rfl, b, _, rfl, .inl (.inl hb), rfl, _, _, rfl, _, _, rfl, _, _, rfl, rfl, ?_⟩
    refine ⟨_, rfl, L, rfl, ho.lt, fun H1 s1 => ?_⟩
    refine ⟨_, rfl, _, rfl, L, R, rs, rfl, ho.lt, hR.kt (.of s1), ho.rl, ho.r12, fun H2 s2 => ?_⟩
    refine ⟨_, rfl, _, rfl, L, X, es, rfl, hX.kt (.of (s1.trans s2)), ho.ex, ho.e8, ho.up, fun H3 s3 => ?_⟩
    exact ⟨_, rfl, q H3 (s1.trans (s2.trans s3))⟩
end
end Say
namespace Say
open PySem PySem.Spec PyProof.Rows L2
section
variable {P : Program} {w : World} {K : PySem.W.Frag} {mg : Str → Option Value} {base : Heap}
abbrev sNl : Stmt := topS 81
theorem scNl : FnScope ["book", "_", "rules", "exceptions", "word", "sounds"] ["book"] (defScope sNl) := ⟨rfl, rfl, rfl, by decide +kernel, rfl, by decide +kernel, by decide +kernel⟩
/-- the exceptions that rules say the same -/
def needM (rs : List Rule) (es : List Exc) : List Exc := es.filter fun e => decide (sayW rs e.1 = some e.2)
def wordsV (es : List Exc) : List V := es.map fun e => V.str (T e.1)
def spNl : Sp := fun vs H Q _ => ∃ (b : Addr) (L : List Nat) (rs : List Rule) (es : List Exc), vs = [.ref b] ∧ BookAt H b L rs es ∧ BookOk L rs es ∧
  ∀ (D : Addr) (H' : Hp), Same H H' → H D = none → H' D = some (.lst (wordsV (needM rs es))) → Q (.ref D) H'
theorem eqON {o : Option (List Nat)} {b : List Nat} : decide (optT o = V.str (T b)) = decide (o = some b) := by
  cases o with
  | none => rw [decide_eq_false (fun z => by cases z), decide_eq_false (fun z => by cases z)]
  | some a => exact decide_eq_decide.mpr ⟨fun z => by rw [T_inj (V.str.inj z)], fun z => by cases z; rfl⟩
theorem ok_nl {f : Addr} {fd : FuncData} (F : Fun K "needless" "needless" sNl f fd) (DC : Df P w K mg base "checked_book" ["book"] 5 spCh) (DE : Df P w K mg base "word_sounds" ["rules", "word"] 6 spWS) : FnOk P w K mg base CX0 7 f fd ["book"] spNl := by
  obtain ⟨fC, fdC, GC, kC, bC, mC⟩ := DC
  obtain ⟨fE, fdE, GE, kE, bE, mE⟩ := DE
  refine F.ok scNl (fun vs H Q E h => ?_) (fun cdv A outer s H vs Q E hr h => ?_)
  · obtain ⟨b, L, rs, es, rfl, _⟩ := h
    rfl
  · obtain ⟨b, L, rs, es, rfl, hB, ho, q⟩ := h
    refine ⟨_, pss_cons (ps_asg (pe_call GC (hr.mono (by decide)) (by rfl) mC kC bC .nil pass0 (pa_cons (pv 0) pa_nil)) (pg_tup (by rfl) (pgs_cons (pg_name (i := 1) scNl.nd rfl (.inl rfl)) (pgs_cons (pg_name (i := 2) scNl.nd rfl (.inr rfl)) (pgs_cons (pg_name (i := 3) scNl.nd rfl (.inl rfl)) pgs_nil)))))
      (pss_one (ps_ret (pe_lc (own := [("word", 4), ("sounds", 5)]) (g := gTup K 2 (gCons (gName 4) (gCons (gName 5) gNil))) rfl scNl.nd (pi_tup (pv 3))
        (blkOk_by (N := ["book", "_", "rules", "exceptions", "word", "sounds"]) (sc := defScope sNl) (by decide +kernel)) (fun _ _ _ _ _ => pg_tup (by rfl) (pgs_cons (pg_name (i := 4) scNl.nd rfl (.inl rfl)) (pgs_cons (pg_name (i := 5) scNl.nd rfl (.inl rfl)) pgs_nil)))
        (fun _ _ _ _ _ => pts_one (pt_cmpR op_eq (pe_call GE hr (by rfl) mE kE bE .nil pass0 (pa_cons (pv 2) (pa_cons (pv 4) pa_nil))) (pv 5) (nomark _))) (fun _ _ _ _ _ => pv 4)))), ?_⟩
    refine ⟨_, rfl, b, L, rs, es, rfl, hB, ho, fun H1 s1 => ?_⟩
    obtain ⟨R, X, hb, hR, hX⟩ := hB.kt (.of s1)
    obtain ⟨ts, hXl, hXp⟩ := id hX
    refine ⟨b, _, rfl, .inl (.inl hb), rfl, _, _, rfl, _, _, rfl, _, _, rfl, rfl, ?_⟩
    refine ⟨_, rfl, X, rfl, ⟨_, .inl (.inr ⟨_, hXl.choose_spec.1⟩)⟩, fun D hD => ?_⟩
    refine lc_it (walk_tup (xs := ts.map V.ref)) (fun i H2 => H2 D = some (.lst (wordsV (needM rs (es.take i)))) ∧ Same H1 H2) ?_ (fun i H2 _ h => .inl (.inr ⟨_, h.2 _ _ hXl.choose_spec.1⟩)) ?_ ?_
    · exact ⟨upd_same, same_new hD _⟩
    · rintro i x H2 H2' hi ⟨e1, e2⟩ ⟨rfl, hx⟩
      rw [List.getElem?_map] at hx
      obtain ⟨a, ha, e⟩ := Option.map_eq_some_iff.mp hx
      subst e
      obtain ⟨e, he, hat⟩ := paired_at hXp ha
      have hi2 : i < es.length := (List.getElem?_eq_some_iff.mp he).1
      have hoe := ho.ex e (List.mem_of_getElem? he)
      have h8 := hoe.w8
      have h88 := ho.e8
      have et : needM rs (es.take (i + 1)) = needM rs (es.take i) ++ (if sayW rs e.1 = some e.2 then [e] else []) := by
        unfold needM
        rw [List.take_add_one, he, List.filter_append]
        congr 1
        show List.filter _ [e] = _
        by_cases c : sayW rs e.1 = some e.2
        · rw [if_pos c]
          exact List.filter_cons_of_pos (p := fun e : Exc => decide (sayW rs e.1 = some e.2)) (by exact decide_eq_true c)
        · rw [if_neg c]
          exact List.filter_cons_of_neg (p := fun e : Exc => decide (sayW rs e.1 = some e.2)) (by simpa using c)
      refine ⟨a, _, rfl, .inl (.inl (e2 _ _ hat)), rfl, _, _, rfl, _, _, rfl, rfl, ?_⟩
      refine ⟨rfl, _, rfl, _, rfl, R, rs, e.1, rfl, hR.kt (.of e2), ho.rls, by omega, fun H3 s3 => ?_⟩
      have hsc : scal (optT (sayW rs e.1)) (V.str (T e.2)) = true := by
        cases sayW rs e.1 <;> rfl
      refine ⟨_, rfl, hsc, _, rfl, ?_⟩
      rw [eqON]
      refine ite2 (fun c => ?_) (fun c => ?_)
      · have c := of_decide_eq_true c
        rw [if_pos c] at et
        refine ⟨_, rfl, _, s3 _ _ e1, ?_, ?_, ?_⟩
        · unfold wordsV needM
          rw [List.length_map]
          have := List.length_filter_le (fun e : Exc => decide (sayW rs e.1 = some e.2)) (es.take i)
          rw [List.length_take] at this
          exact small1000 (by omega)
        · rw [upd_same, et]
          unfold wordsV
          rw [List.map_append]
          rfl
        · exact fun b u q => by
            rw [upd_ne (ne_of_none q hD)]
            exact s3 _ _ (e2 b u q)
      · have c := of_decide_eq_false (Bool.eq_false_iff.mpr c)
        rw [if_neg c, List.append_nil] at et
        refine ⟨?_, e2.trans s3⟩
        rw [et]
        exact s3 _ _ e1
    · rintro H2 ⟨e1, e2⟩
      rw [List.length_map, paired_len hXp, List.take_length] at e1
      exact q D H2 (s1.trans e2) (s1.free hD) e1
end
end Say
/-! dicts whose keys are None, whole numbers and texts together, and whose values are objects -/
namespace Say
open PySem PySem.Spec PyProof.Rows L2
def leafV : Leaf → V
  | .none => .non
  | .num i => .int i
  | .text x => .str x
theorem leafV_is : ∀ {k : Leaf} {u : Value}, RelV (leafV k) u → Leaf.isOf k u = true
  | .none, u, h => by cases h; rfl
  | .num i, u, h => by
    obtain ⟨t, rfl⟩ := h
    show Leaf.isOf (.num i) (.int i t) = true
    simp [Leaf.isOf]
  | .text x, u, h => by
    obtain ⟨t, rfl⟩ := h
    show Leaf.isOf (.text x) (.str x t) = true
    simp [Leaf.isOf, Value.isStrOf]
def lkv (kvs : List (Leaf × Addr)) : List (Leaf × Value) := kvs.map fun p => (p.1, .ref p.2)
/-- the dict at a: keys and objects -/
def LD (P : Program) (w : World) (a : Addr) (kvs : List (Leaf × Addr)) : HO := .ext fun h => (a == sysModules) = false ∧ h.DictOf (leafKind P w) a (lkv kvs)
def lfind (kvs : List (Leaf × Addr)) (k : Leaf) : Option Addr := (kvs.find? fun p => decide (p.1 = k)).map (·.2)
theorem valueAt_lkv : ∀ (kvs : List (Leaf × Addr)) (k : Leaf), valueAt (lkv kvs) k = (lfind kvs k).map Value.ref
  | [], k => rfl
  | p :: r, k => by
    have ih := valueAt_lkv r k
    unfold lkv lfind valueAt at *
    rw [List.map_cons, List.find?_cons, List.find?_cons]
    by_cases e : p.1 = k
    · simp [e]
    · simp only [e, decide_false]
      exact ih
theorem stored_lkv {kvs : List (Leaf × Addr)} {k : Leaf} {D : Addr} (h : lfind kvs k = none) : stored (lkv kvs) k (.ref D) = lkv (kvs ++ [(k, D)]) := by
  have hn : ∀ p ∈ kvs, ¬ p.1 = k := by
    intro p hp z
    unfold lfind at h
    rw [Option.map_eq_none_iff, List.find?_eq_none] at h
    exact h p hp (decide_eq_true z)
  unfold stored lkv
  rw [if_neg, List.map_append]
  · rfl
  · intro z
    rw [List.any_map, List.any_eq_true] at z
    obtain ⟨p, hp, hz⟩ := z
    exact hn p hp (by simpa using hz)
section
variable {X : Cx} {pins : List (Addr × Obj)} {σ : L2.St} {H : Hp} {s : Shared} {a : Addr}
theorem ld_at {P : Program} {w : World} {h : Heap} (kvs : List (Leaf × Addr)) (hm : (a == sysModules) = false) (dd : h.DictOf (leafKind P w) a (lkv kvs)) : ObjOk P w H h a (LD P w a kvs) := by
  refine ⟨⟨hm, dd⟩, ?_, fun h1 h2 ⟨x, y⟩ k => ⟨x, y.at k⟩⟩
  obtain ⟨o, _, _, ho, _⟩ := dd
  exact ⟨o, ho⟩
def tDNewL (P : Program) (w : World) : TE := fun _ H Q => ∀ p : Addr, H p = none → Q (.ref p) (upd H p (LD P w p []))
theorem pe_dnewL {pos : Pos} : PE X (.Dict [] [] pos) (tDNewL X.prog X.w) := ⟨fun pins s σ H Q I h =>
  wpAny_Dict_empty ⟨.ref s.heap.objs.size, _, I.laid (a := s.heap.objs.size) (o := LD X.prog X.w s.heap.objs.size []) (t' := s.toks) (fun _ _ q => Heap.get?_push_of_some _ q) (Nat.le_refl _)
    (ld_at [] (beq_eq_false_iff_ne.mpr (Nat.ne_of_gt I.big)) (Heap.DictOf.new s.heap)), rfl, h _ (I.hok.fresh (Nat.le_refl _))⟩⟩
/-- d.setdefault(k, [..]) -/
def tDSetdL (P : Program) (w : World) (td ty tx : TE) : TE := fun σ H Q => td σ H fun x H1 => ∃ (a : Addr) (kv1 : List (Leaf × Addr)), x = .ref a ∧ H1 a = some (LD P w a kv1) ∧ ty σ H1 fun y H2 => tx σ H2 fun z H3 => ∃ (kvs : List (Leaf × Addr)) (k : Leaf) (D : Addr), H3 a = some (LD P w a kvs) ∧
  y = leafV k ∧ z = .ref D ∧ kvs.length < sizeLine ∧ (∀ D', lfind kvs k = some D' → Q (.ref D') H3) ∧ (lfind kvs k = none → Q (.ref D) (upd H3 a (LD P w a (kvs ++ [(k, D)]))))
variable {o e f : Expr} {td ty tx : TE} {apos cpos : Pos}
theorem pe_dsetdL (ho : PE X o td) (he : PE X e ty) (hf : PE X f tx) (m : M2 X o "setdefault" apos e f cpos) : PE X (.Call (.Attribute o "setdefault" apos) [e, f] [] cpos) (tDSetdL X.prog X.w td ty tx) := by
  refine ⟨fun pins s σ H Q I h => ?_⟩
  refine wpAny_Call_method m.base m.few m.line PySem.F.plainAttrs_dict PySem.F.slot_dict_setdefault PySem.F.type_dict_setdefault (thn (ho.run pins s σ H _ I h) fun u s1 ⟨x, H1, I1, rx, a, kv1, ex, d, q1⟩ => ?_)
  subst ex
  obtain rfl : u = Value.ref a := rx
  have ok1 : ObjOk X.prog X.w H1 s1.heap a (LD X.prog X.w a kv1) := I1.hok _ _ d
  obtain ⟨⟨hd1, dd1⟩, _, _⟩ := ok1
  refine ⟨dd1.typeIs, fun b q => by cases q; obtain ⟨ob, _, _, h1, h2, _⟩ := dd1; exact ⟨ob, h1, h2.2.1⟩, ?_⟩
  rw [m.trees]
  refine Calls.callWith_builtin rfl (Calls.evalArgs_plain (Calls.spliced_cons (thn (he.run pins s1 σ H1 _ I1 q1) fun iv s2 ⟨y, H2, I2, ry, q2⟩ =>
    Calls.spliced_cons (thn (hf.run pins s2 σ H2 _ I2 q2) fun fv s3 ⟨z, H3, I3, rz, kvs, k, D, ea, ey, ez, hl, q3, q4⟩ => Calls.spliced_nil ?_))))
  subst ey ez
  obtain rfl : fv = Value.ref D := rz
  have ok3 : ObjOk X.prog X.w H3 s3.heap a (LD X.prog X.w a kvs) := I3.hok _ _ ea
  obtain ⟨⟨hd, dd⟩, _, _⟩ := ok3
  have hz : (lkv kvs).length ≤ sizeLine := by unfold lkv; rw [List.length_map]; omega
  refine call_meetsIn PySem.F.slot_dict_setdefault dd.typeIs PySem.F.entry_dict_setdefault (PySem.F.args_dict_setdefault_3 _ _ _) (kt_meets_setdefault (leafKind X.prog X.w) a (leafV_is ry) hd (.ref D)) ⟨_, dd, hz, fun v hv => ?_, fun hn h' dd' hs => ?_⟩
  · rw [valueAt_lkv] at hv
    obtain ⟨D', e1, e2⟩ := Option.map_eq_some_iff.mp hv
    subst e2
    exact ⟨.ref D', H3, I3.tok _, rfl, q3 D' e1⟩
  · rw [valueAt_lkv, Option.map_eq_none_iff] at hn
    rw [stored_lkv hn] at dd'
    have he : ∃ q, h'.get? a = some q := let ⟨q, _, _, hq, _⟩ := dd'; ⟨q, hq⟩
    exact ⟨.ref D, _, d_write (t' := s3.toks + 1) I3 (by rw [ea]; exact True.intro) hs he (ld_at (kvs ++ [(k, D)]) hd dd'), rfl, q4 hn⟩
end
end Say
namespace Say
open PySem PySem.Spec PyProof.Rows L2
/-- the tail with a sign more, and the numbers of what is settled by it -/
def tkM (rs : List Rule) (tl : Option (List Nat)) (c : Nat) : Option (List Nat) × List Nat := match tl with
  | none => (none, [])
  | some t => if (t ++ [c]).length < 4 then (some (t ++ [c]), []) else
    match ff rs (t ++ [c]) 1 with
    | none => (none, [])
    | some k => (some ((t ++ [c]).drop (ruleAt rs k).ow.length), [k])
theorem cut_from {z : List Nat} {n : Nat} (h : n ≤ z.length) : cutS (T z) (some (n : Int)) none = T (z.drop n) := by
  unfold cutS
  rw [HT.sIx_nat]
  show T ((z.drop (min n (T z).length)).take ((T z).length - min n (T z).length)) = _
  rw [T_len, Nat.min_eq_left h, List.take_of_length_le (by rw [List.length_drop]; omega)]
section
variable {P : Program} {w : World} {K : PySem.W.Frag} {mg : Str → Option Value} {base : Heap}
abbrev sTk : Stmt := topS 49
theorem scTk : FnScope ["rules", "tail", "letter", "signs", "number"] ["rules", "tail", "letter"] (defScope sTk) := ⟨rfl, rfl, rfl, by decide +kernel, rfl, by decide +kernel, by decide +kernel⟩
def spTk : Sp := fun vs H Q _ => ∃ (R : Addr) (rs : List Rule) (tl : Option (List Nat)) (c : Nat), vs = [.ref R, optT tl, .str (T [c])] ∧ RulesAt H R rs ∧ (∀ ρ ∈ rs, RlOk ρ) ∧ (∀ t, tl = some t → 1 ≤ t.length ∧ t.length ≤ 3) ∧
  ∀ (u D : Addr) (H' : Hp), Same H H' → H D = none → H' u = some (.tup [optT (tkM rs tl c).1, .ref D]) → H' D = some (.lst ((tkM rs tl c).2.map fun k => V.int (k : Nat))) → Q (.ref u) H'
theorem ok_tk {f : Addr} {fd : FuncData} (F : Fun K "taken" "taken" sTk f fd) (B : Bn mg) (cO : KI mg "OWN" 1) (hS : KI mg "SETTLING" 4) (DF : Df P w K mg base "first_fit" ["rules", "signs", "at"] 2 spFF) : FnOk P w K mg base CX0 3 f fd ["rules", "tail", "letter"] spTk := by
  obtain ⟨fF, fdF, GF, kF, bF, mF⟩ := DF
  obtain ⟨tO, mO⟩ := cO
  obtain ⟨tS, mS⟩ := hS
  refine F.ok scTk (fun vs H Q E h => ?_) (fun cdv A outer s H vs Q E hr h => ?_)
  · obtain ⟨R, rs, tl, c, rfl, _⟩ := h
    rfl
  · obtain ⟨R, rs, tl, c, rfl, hR, ho, ht, q⟩ := h
    refine ⟨_, pss_cons (ps_if (pt_cmpR op_isN (pv 1) pe_non (nomark _)) (pss_one (ps_ret (pe_tup (pa_cons pe_non (pa_cons (pe_lst pa_nil) pa_nil))))) pss_nil)
      (pss_cons (ps_set (i := 3) scTk.nd rfl (.inl rfl) (pe_op op_add_str (pv 1) (pv 2)))
      (pss_cons (ps_if (pt_cmpR op_lt (pe_callB call_len_str (by rfl) B.len PySem.boot_len (pa_cons (pv 3) pa_nil)) (pe_glob (v := .int 4) rfl mS ⟨_, rfl⟩) (nomark _)) (pss_one (ps_ret (pe_tup (pa_cons (pv 3) (pa_cons (pe_lst pa_nil) pa_nil))))) pss_nil)
      (pss_cons (ps_set (i := 4) scTk.nd rfl (.inl rfl) (pe_call GF hr (by rfl) mF kF bF .nil pass0 (pa_cons (pv 0) (pa_cons (pv 3) (pa_cons pe_int pa_nil)))))
      (pss_cons (ps_if (pt_cmpR op_isN (pv 4) pe_non (nomark _)) (pss_one (ps_ret (pe_tup (pa_cons pe_non (pa_cons (pe_lst pa_nil) pa_nil))))) pss_nil)
      (pss_one (ps_ret (pe_tup (pa_cons (pe_slice sl_str (pv 3) (po_some (pe_callB call_len_str (by rfl) B.len PySem.boot_len (pa_cons (pe_ix ix_tup (pe_ix ix_tup (pv 0) (pv 4) (fun _ _ => rfl)) (pe_glob (v := .int 1) rfl mO ⟨_, rfl⟩) (fun _ _ => rfl)) pa_nil))) po_none)
        (pa_cons (pe_lst (pa_cons (pv 4) pa_nil)) pa_nil))))))))), ?_⟩
    -- an answer with no number
    have none_ : ∀ (v : V) (H1 : Hp), Same H H1 → (tkM rs tl c).2 = [] → v = optT (tkM rs tl c).1 → (0 ≤ sizeLine ∧ ∀ D, H1 D = none → (2 ≤ sizeLine ∧ ∀ u, (upd H1 D (.lst [])) u = none → Q (.ref u) (upd (upd H1 D (.lst [])) u (.tup [v, .ref D])))) := fun v H1 s1 e1 e2 => by
      refine ⟨by decide, fun D hD => ⟨by decide, fun u hu => ?_⟩⟩
      have sD := same_new hD (.lst [])
      have su := same_new hu (.tup [v, .ref D])
      refine q u D _ (s1.trans (sD.trans su)) (s1.free hD) (by rw [upd_same, e2]) ?_
      rw [e1]
      exact su _ _ upd_same
    cases tl with
    | none =>
      refine ⟨_, rfl, rfl, _, rfl, iteT ?_⟩
      exact none_ _ H (Same.refl H) rfl rfl
    | some t =>
      obtain ⟨t1, t3⟩ := ht t rfl
      have hz : (t ++ [c]).length = t.length + 1 := by simp
      refine ⟨_, rfl, rfl, _, rfl, iteF ?_⟩
      refine ⟨_, rfl, _, rfl, _, _, rfl, rfl, (by rw [T_len, T_len]; exact small (by simp; omega)), ?_⟩
      rw [T_app]
      refine ⟨_, rfl, _, rfl, (by rw [T_len]; exact small (by omega)), _, _, rfl, rfl, _, rfl, ?_⟩
      rw [T_len]
      refine ite2 (fun c0 => ?_) (fun c0 => ?_)
      · have c1 : (t ++ [c]).length < 4 := by have := of_decide_eq_true c0; omega
        refine ⟨_, rfl, none_ _ H (Same.refl H) ?_ ?_⟩
        · unfold tkM; simp only; rw [if_pos c1]
        · unfold tkM; simp only; rw [if_pos c1]; rfl
      · have c1 : ¬ (t ++ [c]).length < 4 := by
          have := of_decide_eq_false (Bool.eq_false_iff.mpr c0)
          omega
        have h4 : (t ++ [c]).length = 4 := by omega
        refine ⟨_, rfl, _, rfl, R, rs, t ++ [c], 1, rfl, hR, ho, Nat.le_refl 1, by omega, by omega, fun ρ hρ _ => by have := (ho ρ hρ).o2; omega, fun H1 s1 => ?_⟩
        cases hf : ff rs (t ++ [c]) 1 with
        | none =>
          refine ⟨_, rfl, rfl, _, rfl, iteT ?_⟩
          refine none_ _ H1 s1 ?_ ?_
          · unfold tkM; simp only; rw [if_neg c1, hf]
          · unfold tkM; simp only; rw [if_neg c1, hf]; rfl
        | some k =>
          have hk := ff_lt hf
          have er : ruleAt rs k = rs[k] := ruleAt_eq (List.getElem?_eq_getElem hk)
          have o2 := (ho _ (List.getElem_mem hk)).o2
          obtain ⟨rts, hRt, hRp⟩ := hR.kt (.of s1)
          obtain ⟨ra, hra, hrat⟩ := paired_at' hRp (List.getElem?_eq_getElem hk)
          refine ⟨_, rfl, rfl, _, rfl, iteF ?_⟩
          have hol : (T rs[k].ow).length ≤ sizeLine := by rw [T_len]; exact small (by omega)
          have hzl : (T (t ++ [c])).length ≤ sizeLine := by rw [T_len]; exact small (by omega)
          have e1 : tkM rs (some t) c = (some ((t ++ [c]).drop rs[k].ow.length), [k]) := by
            unfold tkM
            simp only
            rw [if_neg c1, hf]
            simp only
            rw [er]
          rw [e1] at q
          refine ⟨_, rfl, _, rfl, _, rfl, R, _, (k : Int), .ref ra, rfl, rfl, .inl (.inl hRt), atI_nat (by rw [List.getElem?_map, hra]; rfl), ra, _, 1, .str (T rs[k].ow), rfl, rfl, .inl (.inl hrat), atI_nat (j := 1) rfl, _, rfl, hol, _, rfl, T (t ++ [c]), rfl, hzl, ?_⟩
          rw [T_len, cut_from (by omega)]
          refine ⟨_, rfl, (by show 1 ≤ sizeLine; decide), fun D hD => ⟨(by show 2 ≤ sizeLine; decide), fun u hu => ?_⟩⟩
          have sD := same_new hD (.lst [V.int (k : Nat)])
          have su := same_new hu (.tup [.str (T ((t ++ [c]).drop rs[k].ow.length)), .ref D])
          exact q u D _ (s1.trans (sD.trans su)) (s1.free hD) upd_same (su _ _ upd_same)
end
end Say
namespace Say
open PySem PySem.Spec PyProof.Rows L2
/-! ### walks with fuel enough are alike -/
theorem wk_fuel {rs : List Rule} (h : ∀ ρ ∈ rs, RlOk ρ) {z : List Nat} : ∀ m m' i : Nat, z.length ≤ m + i + 1 → z.length ≤ m' + i + 1 → wk rs z m i = wk rs z m' i
  | 0, m', i, a, b => by
    have n : ¬ i < z.length - 1 := by omega
    rw [wk_end rs z 0 i n, wk_end rs z m' i n]
  | m + 1, m', i, a, b => by
    by_cases n : i < z.length - 1
    · obtain ⟨m'', rfl⟩ : ∃ m'', m' = m'' + 1 := ⟨m' - 1, by omega⟩
      cases e : ff rs z i with
      | none => rw [wk_none n e, wk_none n e]
      | some k =>
        have o1 : 1 ≤ (ruleAt rs k).ow.length := by
          rw [ruleAt_eq (List.getElem?_eq_getElem (ff_lt e))]
          exact (h _ (List.getElem_mem (ff_lt e))).o1
        rw [wk_some n e, wk_some n e, wk_fuel h m m'' _ (by omega) (by omega)]
    · rw [wk_end rs z _ i n, wk_end rs z m' i n]
/-- the walk from a place on -/
def wc (rs : List Rule) (z : List Nat) (i : Nat) : List (Nat × Nat) × Option Nat := wk rs z z.length i
theorem wc_end {rs : List Rule} {z : List Nat} {i : Nat} (n : ¬ i < z.length - 1) : wc rs z i = ([], none) := wk_end rs z _ i n
theorem wc_none {rs : List Rule} {z : List Nat} {i : Nat} (n : i < z.length - 1) (e : ff rs z i = none) : wc rs z i = ([], some (i - 1)) := by
  unfold wc
  obtain ⟨m, hm⟩ : ∃ m, z.length = m + 1 := ⟨z.length - 1, by omega⟩
  rw [hm, wk_none n e]
theorem wc_some {rs : List Rule} (h : ∀ ρ ∈ rs, RlOk ρ) {z : List Nat} {i k : Nat} (n : i < z.length - 1) (e : ff rs z i = some k) : wc rs z i = ((i - 1, k) :: (wc rs z (i + (ruleAt rs k).ow.length)).1, (wc rs z (i + (ruleAt rs k).ow.length)).2) := by
  unfold wc
  obtain ⟨m, hm⟩ : ∃ m, z.length = m + 1 := ⟨z.length - 1, by omega⟩
  have o1 : 1 ≤ (ruleAt rs k).ow.length := by
    rw [ruleAt_eq (List.getElem?_eq_getElem (ff_lt e))]
    exact (h _ (List.getElem_mem (ff_lt e))).o1
  rw [wk_fuel h z.length (m + 1) i (by omega) (by omega), wk_some n e, wk_fuel h m z.length _ (by omega) (by omega)]
theorem W_wc {rs : List Rule} (h : ∀ ρ ∈ rs, RlOk ρ) (wd : List Nat) : W rs wd = wc rs (sgn wd) 1 := wk_fuel h _ _ 1 (by rw [sgn_len]; omega) (by omega)
theorem Wt_wc {rs : List Rule} (h : ∀ ρ ∈ rs, RlOk ρ) (tl : List Nat) : Wt rs tl = wc rs (tl ++ [35]) 1 := wk_fuel h _ _ 1 (by rw [len1]; omega) (by omega)
/-! ### what rules look at -/
theorem fits_drop (ρ : Rule) (z : List Nat) (p i : Nat) : fitsL ρ (z.drop p) (i + 1) = fitsL ρ z (p + i + 1) := by
  unfold fitsL
  rw [List.drop_drop, ← Nat.add_assoc]
  simp only [List.getD_eq_getElem?_getD, List.getElem?_drop]
  rw [show p + (i + 1 - 1) = p + i + 1 - 1 by omega, show p + (i + 1 + ρ.ow.length) = p + i + 1 + ρ.ow.length by omega]
theorem fits_pre (ρ : Rule) (u v : List Nat) (i : Nat) (h1 : 1 ≤ i) (h : i + ρ.ow.length < u.length) : fitsL ρ (u ++ v) i = fitsL ρ u i := by
  unfold fitsL
  rw [List.drop_append_of_le_length (by omega), List.take_append_of_le_length (by rw [List.length_drop]; omega)]
  simp only [List.getD_eq_getElem?_getD]
  rw [List.getElem?_append_left (by omega), List.getElem?_append_left (by omega)]
theorem ff_congr {rs : List Rule} {z z' : List Nat} {i i' : Nat} (h : ∀ ρ ∈ rs, fitsL ρ z i = fitsL ρ z' i') : ff rs z i = ff rs z' i' := by
  unfold ff
  induction rs with
  | nil => rfl
  | cons a r ih =>
    rw [List.findIdx?_cons, List.findIdx?_cons, h a (List.mem_cons_self ..), ih fun ρ hρ => h ρ (List.mem_cons_of_mem _ hρ)]
theorem ff_drop (rs : List Rule) (z : List Nat) (p i : Nat) : ff rs (z.drop p) (i + 1) = ff rs z (p + i + 1) := ff_congr fun ρ _ => fits_drop ρ z p i
theorem ff_at (rs : List Rule) (z : List Nat) (p : Nat) : ff rs z (p + 1) = ff rs (z.drop p) 1 := (ff_drop rs z p 0).symm
theorem ff_pre {rs : List Rule} (h : ∀ ρ ∈ rs, RlOk ρ) (u v : List Nat) (h4 : 4 ≤ u.length) : ff rs (u ++ v) 1 = ff rs u 1 := ff_congr fun ρ hρ => fits_pre ρ u v 1 (Nat.le_refl 1) (by have := (h ρ hρ).o2; omega)
/-- a walk moved on -/
def shiftW (p : Nat) (q : List (Nat × Nat) × Option Nat) : List (Nat × Nat) × Option Nat := (q.1.map fun s => (s.1 + p, s.2), q.2.map (· + p))
theorem wk_shift (rs : List Rule) (z : List Nat) (p : Nat) (hp : p ≤ z.length) : ∀ m i : Nat, wk rs z m (p + i + 1) = shiftW p (wk rs (z.drop p) m (i + 1))
  | 0, i => rfl
  | m + 1, i => by
    have hl : (z.drop p).length = z.length - p := List.length_drop
    by_cases n : p + i + 1 < z.length - 1
    · have n' : i + 1 < (z.drop p).length - 1 := by omega
      have ef := ff_drop rs z p i
      cases e : ff rs z (p + i + 1) with
      | none =>
        rw [wk_none n e, wk_none n' (by rw [ef]; exact e)]
        unfold shiftW
        simp only [List.map_nil, Option.map_some]
        rw [show p + i + 1 - 1 = i + 1 - 1 + p by omega]
      | some k =>
        rw [wk_some n e, wk_some n' (by rw [ef]; exact e)]
        have ih := wk_shift rs z p hp m (i + (ruleAt rs k).ow.length)
        rw [show p + (i + (ruleAt rs k).ow.length) + 1 = p + i + 1 + (ruleAt rs k).ow.length by omega, show i + (ruleAt rs k).ow.length + 1 = i + 1 + (ruleAt rs k).ow.length by omega] at ih
        rw [ih]
        unfold shiftW
        simp only [List.map_cons]
        rw [show p + i + 1 - 1 = i + 1 - 1 + p by omega]
    · rw [wk_end rs z _ _ n, wk_end rs (z.drop p) _ _ (by omega)]
      rfl
theorem wc_shift {rs : List Rule} (h : ∀ ρ ∈ rs, RlOk ρ) (z : List Nat) (p : Nat) (hp : p ≤ z.length) : wc rs z (p + 1) = shiftW p (wc rs (z.drop p) 1) := by
  unfold wc
  rw [show p + 1 = p + 0 + 1 by omega, wk_shift rs z p hp z.length 0]
  congr 1
  exact wk_fuel h _ _ 1 (by rw [List.length_drop]; omega) (by omega)
/-! ### letters fed -/
/-- wd was fed: the tail, the numbers that are settled -/
def Fed (rs : List Rule) (wd tl ks : List Nat) : Prop := ∃ (p : Nat) (st : List (Nat × Nat)), p ≤ wd.length ∧ wd.length ≤ p + 2 ∧ tl = (35 :: wd).drop p ∧ st.map (·.2) = ks ∧
  ∀ v, wc rs (sgn (wd ++ v)) 1 = (st ++ (wc rs (sgn (wd ++ v)) (p + 1)).1, (wc rs (sgn (wd ++ v)) (p + 1)).2)
theorem fed_nil (rs : List Rule) : Fed rs [] [35] [] := ⟨0, [], Nat.le_refl _, Nat.zero_le _, rfl, rfl, fun v => rfl⟩
theorem Fed.len {rs : List Rule} {wd tl ks : List Nat} (h : Fed rs wd tl ks) : 1 ≤ tl.length ∧ tl.length ≤ 3 ∧ tl.length ≤ wd.length + 1 := by
  obtain ⟨p, st, h1, h2, rfl, _⟩ := h
  rw [List.length_drop, List.length_cons]
  omega
theorem sgn_drop (wd v : List Nat) (p : Nat) (h : p ≤ wd.length + 1) : (sgn (wd ++ v)).drop p = (35 :: wd).drop p ++ (v ++ [35]) := by
  have e : sgn (wd ++ v) = (35 :: wd) ++ (v ++ [35]) := by unfold sgn; simp
  rw [e, List.drop_append_of_le_length (by rw [List.length_cons]; exact h)]
theorem Fed.step {rs : List Rule} (h : ∀ ρ ∈ rs, RlOk ρ) {wd tl ks tl' : List Nat} {c : Nat} (F : Fed rs wd tl ks) (e : (tkM rs (some tl) c).1 = some tl') : Fed rs (wd ++ [c]) tl' (ks ++ (tkM rs (some tl) c).2) := by
  obtain ⟨p, st, h1, h2, rfl, rfl, hv⟩ := F
  have et : (35 :: wd).drop p ++ [c] = (35 :: (wd ++ [c])).drop p := by
    rw [← List.cons_append, List.drop_append_of_le_length (by rw [List.length_cons]; omega)]
  have hl : ((35 :: (wd ++ [c])).drop p).length = wd.length + 2 - p := by
    rw [List.length_drop, List.length_cons, List.length_append, List.length_singleton]
  unfold tkM at e ⊢
  simp only at e ⊢
  rw [et] at e ⊢
  by_cases c4 : ((35 :: (wd ++ [c])).drop p).length < 4
  · rw [if_pos c4] at e ⊢
    cases e
    refine ⟨p, st, by rw [List.length_append]; omega, by rw [List.length_append, List.length_singleton]; omega, rfl, by simp, fun v => ?_⟩
    have := hv ([c] ++ v)
    rw [← List.append_assoc] at this
    exact this
  · rw [if_neg c4] at e ⊢
    cases hf : ff rs ((35 :: (wd ++ [c])).drop p) 1 with
    | none => rw [hf] at e; cases e
    | some k =>
      rw [hf] at e
      cases e
      have hk := ff_lt hf
      have er : ruleAt rs k = rs[k] := ruleAt_eq (List.getElem?_eq_getElem hk)
      have o1 := (h _ (List.getElem_mem hk)).o1
      have o2 := (h _ (List.getElem_mem hk)).o2
      refine ⟨p + (ruleAt rs k).ow.length, st ++ [(p, k)], by rw [er, List.length_append, List.length_singleton]; omega, by rw [er, List.length_append, List.length_singleton]; omega, by rw [List.drop_drop], by simp, fun v => ?_⟩
      have := hv ([c] ++ v)
      rw [← List.append_assoc] at this
      rw [this]
      have fz : ff rs (sgn (wd ++ [c] ++ v)) (p + 1) = some k := by
        rw [← hf, ff_at, sgn_drop _ _ _ (by rw [List.length_append]; omega)]
        exact ff_pre h _ _ (by omega)
      have nz : p + 1 < (sgn (wd ++ [c] ++ v)).length - 1 := by
        rw [sgn_len, List.length_append, List.length_append, List.length_singleton]; omega
      rw [wc_some h nz fz, show p + 1 + (ruleAt rs k).ow.length = p + (ruleAt rs k).ow.length + 1 by omega]
      rw [List.append_assoc st [(p, k)]]
      rfl
/-- where a letter isn't taken no word that begins so is said -/
theorem Fed.stuck {rs : List Rule} (h : ∀ ρ ∈ rs, RlOk ρ) {wd tl ks : List Nat} {c : Nat} (F : Fed rs wd tl ks) (e : (tkM rs (some tl) c).1 = none) (v : List Nat) : (W rs (wd ++ [c] ++ v)).2 = some (wd.length + 1 - tl.length) := by
  obtain ⟨p, st, h1, h2, rfl, rfl, hv⟩ := F
  have et : (35 :: wd).drop p ++ [c] = (35 :: (wd ++ [c])).drop p := by
    rw [← List.cons_append, List.drop_append_of_le_length (by rw [List.length_cons]; omega)]
  have hl : ((35 :: (wd ++ [c])).drop p).length = wd.length + 2 - p := by
    rw [List.length_drop, List.length_cons, List.length_append, List.length_singleton]
  unfold tkM at e
  simp only at e
  rw [et] at e
  by_cases c4 : ((35 :: (wd ++ [c])).drop p).length < 4
  · rw [if_pos c4] at e
    cases e
  · rw [if_neg c4] at e
    cases hf : ff rs ((35 :: (wd ++ [c])).drop p) 1 with
    | some k => rw [hf] at e; cases e
    | none =>
      have := hv ([c] ++ v)
      rw [← List.append_assoc] at this
      have fz : ff rs (sgn (wd ++ [c] ++ v)) (p + 1) = none := by
        rw [← hf, ff_at, sgn_drop _ _ _ (by rw [List.length_append]; omega)]
        exact ff_pre h _ _ (by omega)
      have nz : p + 1 < (sgn (wd ++ [c] ++ v)).length - 1 := by
        rw [sgn_len, List.length_append, List.length_append, List.length_singleton]; omega
      rw [W_wc h, this, wc_none nz fz]
      show some (p + 1 - 1) = _
      rw [List.length_drop, List.length_cons, show p + 1 - 1 = wd.length + 1 - (wd.length + 1 - p) by omega]
/-- the whole word, by its tail's end -/
theorem Fed.whole {rs : List Rule} (h : ∀ ρ ∈ rs, RlOk ρ) {wd tl ks : List Nat} (F : Fed rs wd tl ks) : (W rs wd).1.map (·.2) = ks ++ (Wt rs tl).1.map (·.2) ∧ (W rs wd).2 = (Wt rs tl).2.map (· + (wd.length + 1 - tl.length)) := by
  obtain ⟨p, st, h1, h2, rfl, rfl, hv⟩ := F
  have := hv []
  rw [List.append_nil] at this
  have e := wc_shift h (sgn wd) p (by rw [sgn_len]; omega)
  have ed : (sgn wd).drop p = (35 :: wd).drop p ++ [35] := by
    have := sgn_drop wd [] p (by omega)
    rw [List.append_nil] at this
    exact this
  rw [ed, ← Wt_wc h] at e
  rw [e] at this
  rw [W_wc h, this]
  unfold shiftW
  simp only [List.map_append, List.map_map]
  refine ⟨rfl, ?_⟩
  rw [List.length_drop, List.length_cons, show wd.length + 1 - (wd.length + 1 - p) = p by omega]
theorem Fed.kb {rs : List Rule} {wd tl ks : List Nat} (F : Fed rs wd tl ks) : (∀ k ∈ ks, k < rs.length) ∧ ks.length ≤ wd.length + 2 := by
  obtain ⟨p, st, h1, h2, rfl, rfl, hv⟩ := F
  have e := hv []
  rw [List.append_nil] at e
  have l : (wc rs (sgn wd) 1).1.length ≤ (sgn wd).length := wk_len rs (sgn wd) (sgn wd).length 1
  rw [e, List.length_append, sgn_len] at l
  refine ⟨fun k hk => ?_, by rw [List.length_map]; omega⟩
  obtain ⟨s, hs, rfl⟩ := List.mem_map.mp hk
  refine wk_lt (rs := rs) (z := sgn wd) (sgn wd).length 1 s ?_
  show s ∈ (wc rs (sgn wd) 1).1
  rw [e]
  exact List.mem_append_left _ hs
theorem soL_app (rs : List Rule) (a b : List Nat) : soL rs (a ++ b) = soL rs a ++ soL rs b := by
  unfold soL
  rw [List.map_append, List.flatten_append]
end Say
namespace Say
open PySem PySem.Spec PyProof.Rows L2
def wv (ws : List (List Nat)) : List V := ws.map fun x => V.str (T x)
def leW (a b : List Nat) : Bool := decide (a ≤ b)
def leL (a b : List Nat) : Bool := decide ((a.length : Int) ≤ (b.length : Int))
/-- a value that is the text -/
def TxIs (v : Value) (x : List Nat) : Prop := ∃ t, v = .str (T x) t
theorem txs_each : ∀ {ws : List (List Nat)} {its : List Value}, Vals (wv ws) its → PySem.W.EachIs TxIs its ws
  | [], _, .nil => .nil
  | x :: r, _, .cons a b => .cons a (txs_each b)
theorem each_txs : ∀ {ws : List (List Nat)} {its : List Value}, PySem.W.EachIs TxIs its ws → Vals (wv ws) its
  | _, _, .nil => .nil
  | _, _, .cons a b => .cons a (each_txs b)
section
variable {X : Cx}
/-- sorted(xs), texts, any number of them -/
def rSortTA (K : PySem.W.Frag) : List V → Hp → VK → Prop := fun vs H Q => ∃ (a : Addr) (ws : List (List Nat)), vs = [V.ref a] ∧ SqL K H a (wv ws) ∧
  ∀ p : Addr, H p = none → Q (.ref p) (upd H p (.lst (wv (ws.mergeSort leW))))
theorem cr_sortTA (hu : X.A.units + 64 < cLine) : CallR X (.builtin "sorted") (rSortTA X.K) := by
  intro pins s σ H vs us Q I r h
  obtain ⟨a, ws, rfl, hs, q⟩ := h
  obtain ⟨its, rv, hl, hz⟩ := I.list hs
  rw [Vals.ref1 r]
  have ev := txs_each rv
  have hlen : ws.length ≤ sizeLine := by
    have : (wv ws).length = ws.length := by unfold wv; rw [List.length_map]
    rw [← this]
    exact hz
  refine PySem.W.sorted_data (enc := fun x : List Nat => PyData.str (T x)) hl.isList ev (ev.mono fun v x ⟨t, e⟩ => ⟨[], by rw [e]; exact .str _ _⟩) (PySem.W.AllAlike.of fun _ _ => rfl) (.inr fun d hd => ?_) hlen (fun b _ => ?_) fun out _ eo => ?_
  · obtain ⟨x, _, rfl⟩ := List.mem_map.mp hd
    exact ⟨fun z => (by cases z), fun xs z => (by cases z)⟩
  · show X.A.units + 2 + 0 < cLine
    omega
  · rw [PySem.W.dataLe_str] at eo
    obtain ⟨ep, he'⟩ := PyProof.Rows.sortedAll_at s.heap its out.toArray
    have eo : PySem.W.EachIs TxIs out (ws.mergeSort leW) := eo
    have l2 : (wv (ws.mergeSort leW)).length ≤ sizeLine := by
      unfold wv
      rw [List.length_map, List.length_mergeSort]
      exact hlen
    exact ⟨.ref _, upd H (s.heap.objs.size + 1) (.lst (wv (ws.mergeSort leW))), I.laid (t' := s.toks) (fun _ _ => PyProof.Rows.sortedAll_old) (Nat.le_succ _) ⟨l2, out, ep, each_txs eo, he'⟩, rfl, q _ (I.hok.fresh (Nat.le_succ _))⟩
/-- sorted(xs, key=len), texts -/
def tSortLen (K : PySem.W.Frag) (t : TA) : TE := fun σ H Q => t σ H fun vs H1 => ∃ (a : Addr) (ws : List (List Nat)), vs = [V.ref a] ∧ SqL K H1 a (wv ws) ∧ (∀ x ∈ ws, x.length ≤ 1000) ∧
  ∀ p : Addr, H1 p = none → Q (.ref p) (upd H1 p (.lst (wv (ws.mergeSort leL))))
theorem pe_sortLen {e : Expr} {p p2 p3 pos : Pos} {t : TA} (hu : X.A.units + 64 < cLine) (hg : Gl X "sorted") (hm : X.mg "sorted" = none) (hg2 : Gl X "len") (hm2 : X.mg "len" = none) (ha : PA X [e] t)
    (he : backTo pos (starEach [e] X.env) = (false, eval e X.env) :: backTo pos (starEach [] X.env) := by rfl) (hpl : (backTo pos (starEach [e] X.env)).any (·.1) = false := by rfl) :
    PE X (.Call (.Name "sorted" p) [e] [⟨some "key", .Name "len" p2, p3⟩] pos) (tSortLen X.K t) := by
  refine ⟨fun pins s σ H Q I h => ?_⟩
  refine wpAny_Call_Name_kw (ld_blt I hg hm (show bootBuiltins (Str.ofString "sorted") = some (.builtin "sorted") by decide +kernel) ?_)
  refine PyProof.Rows.callWith_kw (id := "sorted") (thn (ha.run pos pins s σ H _ I h) fun us s1 ⟨vs, H1, I1, r1, a, ws, ev, hs, h9, q⟩ => ?_) he hpl rfl rfl
  subst ev
  show wpAny _ _ (evalAll [(do let v ← eval (.Name "len" p2) X.env; standAt pos; pure v)]) _ _ s1
  refine wpAny_evalAll_cons (wpAny_bind (ld_blt I1 hg2 hm2 PySem.boot_len (wpAny_bind (wpAny_standAt (wpAny_pure (wpAny_evalAll_nil ?_))))))
  show wpAny _ _ (call (.builtin "sorted") us [(Str.ofString "key", .builtin "len")]) _ _ s1
  obtain ⟨its, rv, hl, hz⟩ := I1.list hs
  rw [Vals.ref1 r1]
  have evs := txs_each rv
  have hlen : ws.length ≤ sizeLine := by
    have : (wv ws).length = ws.length := by unfold wv; rw [List.length_map]
    rw [← this]
    exact hz
  refine PySem.W.sorted_key_data (b := false) (fun x : List Nat => PyData.int (x.length : Int)) hl.isList evs (PySem.W.AllAlike.of fun _ _ => rfl) (.inr fun d hd => ?_) hlen (fun b _ => ?_) (PyProof.Rows.ksk_s1 _ _) (fun _ => PyProof.Rows.ksk_l1 _ _) (fun _ => PyProof.Rows.ksk_t4 _ _)
    (fun v x ⟨tt, ex⟩ hx h' tk kp => ?_) fun out c h' tk kp fr hD _ eo => ?_
  · obtain ⟨x, _, rfl⟩ := List.mem_map.mp hd
    exact ⟨fun z => (by cases z), fun xs z => (by cases z)⟩
  · show X.A.units + 2 + 0 < cLine
    omega
  · subst ex
    have h1000 := h9 x hx
    have hn := line63
    have hsz := small (Nat.le_trans h1000 (by decide))
    refine PyProof.Rows.len_str (by rw [T_len]; omega) ?_
    rw [T_len]
    exact ⟨h', _, rfl, fun _ _ e => e, .int _ _⟩
  · rw [PySem.W.dataLe_int] at eo
    have eo : PySem.W.EachIs TxIs out (ws.mergeSort leL) := eo
    have l2 : (wv (ws.mergeSort leL)).length ≤ sizeLine := by
      unfold wv
      rw [List.length_map, List.length_mergeSort]
      exact hlen
    exact ⟨.ref _, upd H1 (s1.heap.objs.size + 1) (.lst (wv (ws.mergeSort leL))), I1.laid (t' := tk) kp (Nat.le_succ _) ⟨l2, out, c, each_txs eo, hD⟩, rfl, q _ (I1.hok.fresh (Nat.le_succ _))⟩
end
end Say
namespace Say
open PySem PySem.Spec PyProof.Rows L2
/-! ### all words, level by level -/
def lv (L : List Nat) : Nat → List (List Nat)
  | 0 => [[]]
  | n + 1 => (lv L n).flatMap fun w => L.map fun c => w ++ [c]
/-- all words of up to n letters, the shorter ones first -/
def upto (L : List Nat) (n : Nat) : List (List Nat) := (List.range (n + 1)).flatMap (lv L)
theorem mem_lv {L : List Nat} : ∀ {n : Nat} {w : List Nat}, w ∈ lv L n ↔ w.length = n ∧ ∀ c ∈ w, c ∈ L
  | 0, w => by
    unfold lv
    rw [List.mem_singleton]
    constructor
    · rintro rfl; exact ⟨rfl, by simp⟩
    · rintro ⟨h, _⟩; exact List.eq_nil_of_length_eq_zero h
  | n + 1, w => by
    unfold lv
    rw [List.mem_flatMap]
    constructor
    · rintro ⟨u, hu, hw⟩
      obtain ⟨c, hc, rfl⟩ := List.mem_map.mp hw
      obtain ⟨h1, h2⟩ := mem_lv.mp hu
      refine ⟨by simp [h1], fun d hd => ?_⟩
      rcases List.mem_append.mp hd with hd | hd
      · exact h2 d hd
      · rw [List.mem_singleton.mp hd]; exact hc
    · rintro ⟨h1, h2⟩
      rcases List.eq_nil_or_concat w with rfl | ⟨u, c, rfl⟩
      · cases h1
      · refine ⟨u, mem_lv.mpr ⟨by simpa using h1, fun d hd => h2 d (by simp [hd])⟩, List.mem_map.mpr ⟨c, h2 c (by simp), by simp⟩⟩
theorem mem_upto {L : List Nat} {n : Nat} {w : List Nat} : w ∈ upto L n ↔ w.length ≤ n ∧ ∀ c ∈ w, c ∈ L := by
  unfold upto
  rw [List.mem_flatMap]
  constructor
  · rintro ⟨k, hk, hw⟩
    obtain ⟨h1, h2⟩ := mem_lv.mp hw
    have := List.mem_range.mp hk
    exact ⟨by omega, h2⟩
  · rintro ⟨h1, h2⟩
    exact ⟨w.length, List.mem_range.mpr (by omega), mem_lv.mpr ⟨rfl, h2⟩⟩
theorem lex_app : ∀ {w w' a b : List Nat}, w.length = w'.length → w < w' → w ++ a < w' ++ b
  | [], [], _, _, _, h => absurd h (List.lt_irrefl _)
  | x :: w, y :: w', a, b, hl, h => by
    rw [List.cons_lt_cons_iff] at h
    rw [List.cons_append, List.cons_append, List.cons_lt_cons_iff]
    rcases h with h | ⟨h, h'⟩
    · exact .inl h
    · exact .inr ⟨h, lex_app (by simpa using hl) h'⟩
theorem lex_end : ∀ (w : List Nat) {c d : Nat}, c < d → w ++ [c] < w ++ [d]
  | [], c, d, h => by
    show [c] < [d]
    rw [List.cons_lt_cons_iff]
    exact .inl h
  | x :: w, c, d, h => by
    rw [List.cons_append, List.cons_append, List.cons_lt_cons_iff]
    exact .inr ⟨rfl, lex_end w h⟩
theorem lv_up {L : List Nat} (hL : L.Pairwise (· < ·)) : ∀ n, (lv L n).Pairwise (· < ·)
  | 0 => List.pairwise_singleton _ _
  | n + 1 => by
    unfold lv
    rw [List.pairwise_flatMap]
    refine ⟨fun w _ => List.pairwise_map.mpr (hL.imp fun h => lex_end w h), ?_⟩
    refine (lv_up hL n).imp_of_mem fun {u v} hu hv h x hx y hy => ?_
    obtain ⟨c, _, rfl⟩ := List.mem_map.mp hx
    obtain ⟨d, _, rfl⟩ := List.mem_map.mp hy
    exact lex_app (by rw [(mem_lv.mp hu).1, (mem_lv.mp hv).1]) h
/-! ### the beginnings that may still come to the sounds -/
abbrev Bg := List Nat × List Nat × List Nat
def lng (rs : List Rule) (so : List Nat) (x : Bg) (c : Nat) : Option Bg := match (tkM rs (some x.2.1) c).1 with
  | none => none
  | some t' => if (x.2.2 ++ soL rs (tkM rs (some x.2.1) c).2).isPrefixOf so = true then some (x.1 ++ [c], t', x.2.2 ++ soL rs (tkM rs (some x.2.1) c).2) else none
def root : Bg := ([], [35], [])
def kids (rs : List Rule) (so L : List Nat) (long : Nat) (x : Bg) : List Bg := if x.1.length < long then L.filterMap (lng rs so x) else []
def kl (rs : List Rule) (so L : List Nat) (long : Nat) : Nat → List Bg
  | 0 => [root]
  | n + 1 => (kl rs so L long n).flatMap (kids rs so L long)
def allB (rs : List Rule) (so L : List Nat) (long : Nat) : List Bg := (List.range (long + 1)).flatMap (kl rs so L long)
section
variable {rs : List Rule} {so L : List Nat} {long : Nat}
theorem lng_w {x y : Bg} {c : Nat} (h : lng rs so x c = some y) : y.1 = x.1 ++ [c] := by
  unfold lng at h
  cases e : (tkM rs (some x.2.1) c).1 with
  | none => rw [e] at h; cases h
  | some t' =>
    rw [e] at h
    simp only at h
    split at h
    · cases h; rfl
    · cases h
theorem kids_len {x y : Bg} (h : y ∈ kids rs so L long x) : y.1.length = x.1.length + 1 ∧ x.1.length < long := by
  unfold kids at h
  by_cases c : x.1.length < long
  · rw [if_pos c] at h
    obtain ⟨d, _, hd⟩ := List.mem_filterMap.mp h
    exact ⟨by rw [lng_w hd]; simp, c⟩
  · rw [if_neg c] at h
    cases h
theorem kl_len : ∀ {n : Nat} {x : Bg}, x ∈ kl rs so L long n → x.1.length = n
  | 0, x, h => by
    have h : x ∈ [root] := h
    rw [List.mem_singleton.mp h]; rfl
  | n + 1, x, h => by
    have h : x ∈ (kl rs so L long n).flatMap (kids rs so L long) := h
    obtain ⟨y, hy, hx⟩ := List.mem_flatMap.mp h
    rw [(kids_len hx).1, kl_len hy]
theorem kl_over : kl rs so L long (long + 1) = [] := by
  refine List.eq_nil_iff_forall_not_mem.mpr fun x hx => ?_
  have hx : x ∈ (kl rs so L long long).flatMap (kids rs so L long) := hx
  obtain ⟨y, hy, h⟩ := List.mem_flatMap.mp hx
  have := (kids_len h).2
  rw [kl_len hy] at this
  exact absurd this (Nat.lt_irrefl _)
theorem all_eq : allB rs so L long = root :: (allB rs so L long).flatMap (kids rs so L long) := by
  have e1 : (allB rs so L long).flatMap (kids rs so L long) = (List.range (long + 1)).flatMap fun n => kl rs so L long (n + 1) := by
    unfold allB
    rw [List.flatMap_assoc]
    rfl
  have e2 : (List.range (long + 1 + 1)).flatMap (kl rs so L long) = allB rs so L long := by
    rw [List.range_succ, List.flatMap_append]
    show allB rs so L long ++ (kl rs so L long (long + 1) ++ []) = _
    rw [kl_over, List.append_nil, List.append_nil]
  rw [e1]
  conv => lhs; rw [← e2]
  rw [List.range_succ_eq_map, List.flatMap_cons, List.flatMap_map]
  rfl
/-- the queue, i beginnings taken -/
def que (rs : List Rule) (so L : List Nat) (long i : Nat) : List Bg := root :: ((allB rs so L long).take i).flatMap (kids rs so L long)
theorem que_pre (i : Nat) : allB rs so L long = que rs so L long i ++ ((allB rs so L long).drop i).flatMap (kids rs so L long) := by
  unfold que
  rw [List.cons_append, ← List.flatMap_append, List.take_append_drop]
  exact all_eq
theorem que_at {i : Nat} (h : i < (que rs so L long i).length) : ∃ x, (allB rs so L long)[i]? = some x ∧ (que rs so L long i)[i]? = some x := by
  refine ⟨(que rs so L long i)[i], ?_, List.getElem?_eq_getElem h⟩
  have e := que_pre (rs := rs) (so := so) (L := L) (long := long) i
  rw [e, List.getElem?_append_left h]
  exact List.getElem?_eq_getElem h
theorem que_next {i : Nat} {x : Bg} (h : (allB rs so L long)[i]? = some x) : que rs so L long (i + 1) = que rs so L long i ++ kids rs so L long x := by
  unfold que
  rw [List.take_add_one, h, List.flatMap_append]
  simp
theorem que_end {i : Nat} (h : (que rs so L long i).length ≤ i) : (allB rs so L long).take i = allB rs so L long := by
  have e := que_pre (rs := rs) (so := so) (L := L) (long := long) i
  have hd : ∀ x ∈ (allB rs so L long).drop i, x ∈ ((allB rs so L long).drop i).flatMap (kids rs so L long) := fun x hx => by
    have hx' := hx
    rw [e, List.drop_append, List.drop_eq_nil_of_le h, List.nil_append] at hx'
    exact List.mem_of_mem_drop hx'
  have no : ∀ n, ∀ x ∈ (allB rs so L long).drop i, x.1.length ≠ n := by
    intro n
    induction n with
    | zero =>
      intro x hx z
      obtain ⟨y, _, hy⟩ := List.mem_flatMap.mp (hd x hx)
      have := (kids_len hy).1
      omega
    | succ n ih =>
      intro x hx z
      obtain ⟨y, hy1, hy⟩ := List.mem_flatMap.mp (hd x hx)
      have := (kids_len hy).1
      exact ih y hy1 (by omega)
  have en : (allB rs so L long).drop i = [] := List.eq_nil_iff_forall_not_mem.mpr fun x hx => no _ x hx rfl
  exact List.take_of_length_le (List.drop_eq_nil_iff.mp en)
/-! ### by letters -/
def bg (rs : List Rule) (so : List Nat) (w : List Nat) : Option Bg := w.foldl (fun o c => o.bind fun x => lng rs so x c) (some root)
theorem bg_snoc (w : List Nat) (c : Nat) : bg rs so (w ++ [c]) = (bg rs so w).bind fun x => lng rs so x c := by
  unfold bg
  rw [List.foldl_append]
  rfl
theorem bind_flat {α β γ : Type} (f : α → Option β) (g : β → List γ) : ∀ l : List α, (l.filterMap f).flatMap g = l.flatMap fun a => match f a with | none => [] | some b => g b
  | [] => rfl
  | a :: r => by
    rw [List.filterMap_cons, List.flatMap_cons, ← bind_flat f g r]
    cases f a with
    | none => rfl
    | some b => rw [List.flatMap_cons]
theorem flat_bind {α β γ : Type} (g : α → List β) (f : β → Option γ) : ∀ l : List α, (l.flatMap g).filterMap f = l.flatMap fun a => (g a).filterMap f
  | [] => rfl
  | a :: r => by rw [List.flatMap_cons, List.flatMap_cons, List.filterMap_append, flat_bind g f r]
theorem flat_congr {α β : Type} {f g : α → List β} : ∀ {l : List α}, (∀ a ∈ l, f a = g a) → l.flatMap f = l.flatMap g
  | [], _ => rfl
  | a :: r, h => by rw [List.flatMap_cons, List.flatMap_cons, h a (List.mem_cons_self ..), flat_congr fun b hb => h b (List.mem_cons_of_mem _ hb)]
theorem bg_w : ∀ (n : Nat) {w : List Nat} {x : Bg}, w.length = n → bg rs so w = some x → x.1 = w
  | 0, w, x, hn, h => by
    have := List.eq_nil_of_length_eq_zero hn
    subst this
    have h : some root = some x := h
    cases h; rfl
  | n + 1, w, x, hn, h => by
    rcases List.eq_nil_or_concat w with rfl | ⟨u, c, rfl⟩
    · cases hn
    · rw [List.concat_eq_append] at h hn ⊢
      rw [bg_snoc] at h
      cases e : bg rs so u with
      | none => rw [e] at h; cases h
      | some y =>
        rw [e] at h
        have h : lng rs so y c = some x := h
        rw [lng_w h, bg_w n (by simpa using hn) e]
theorem kl_bg : ∀ n, n ≤ long → kl rs so L long n = (lv L n).filterMap (bg rs so)
  | 0, _ => rfl
  | n + 1, hn => by
    show (kl rs so L long n).flatMap (kids rs so L long) = ((lv L n).flatMap fun w => L.map fun c => w ++ [c]).filterMap (bg rs so)
    rw [kl_bg n (by omega), bind_flat, flat_bind]
    refine flat_congr fun w hw => ?_
    have hl := (mem_lv.mp hw).1
    have e2 : (L.map fun c => w ++ [c]).filterMap (bg rs so) = L.filterMap fun c => (bg rs so w).bind fun x => lng rs so x c := by
      rw [List.filterMap_map]
      congr 1
      funext c
      exact bg_snoc w c
    rw [e2]
    cases e : bg rs so w with
    | none =>
      simp only [Option.bind_none]
      symm
      exact List.filterMap_eq_nil_iff.mpr fun _ _ => rfl
    | some x =>
      simp only [Option.bind_some]
      have := bg_w _ hl e
      unfold kids
      rw [if_pos (by rw [this]; omega)]
/-! ### what is said so -/
def okB (rs : List Rule) (so : List Nat) (x : Bg) : Bool := match ensM rs (some x.2.1) with
  | none => false
  | some r => decide (x.2.2 ++ r = so)
theorem Fed.say (ho : ∀ ρ ∈ rs, RlOk ρ) {wd tl ks : List Nat} (F : Fed rs wd tl ks) : sayW rs wd = (ensM rs (some tl)).map (soL rs ks ++ ·) := by
  obtain ⟨w1, w2⟩ := F.whole ho
  unfold sayW ensM endM
  rw [w2, w1]
  simp only
  cases e : (Wt rs tl).2 with
  | none => simp [soL_app]
  | some p => simp
theorem Fed.sayV (ho : ∀ ρ ∈ rs, RlOk ρ) {wd tl ks v s : List Nat} (F : Fed rs wd tl ks) (h : sayW rs (wd ++ v) = some s) : (soL rs ks).isPrefixOf s = true := by
  obtain ⟨p, st, h1, h2, rfl, rfl, hv⟩ := F
  have e := hv v
  rw [← W_wc ho] at e
  unfold sayW at h
  split at h
  · have h := Option.some.inj h
    rw [e] at h
    simp only [List.map_append, soL_app] at h
    rw [← h, List.isPrefixOf_iff_prefix]
    exact List.prefix_append _ _
  · cases h
theorem bg_fed (ho : ∀ ρ ∈ rs, RlOk ρ) : ∀ (n : Nat) {w : List Nat} {x : Bg}, w.length = n → bg rs so w = some x → ∃ ks, Fed rs w x.2.1 ks ∧ x.2.2 = soL rs ks
  | 0, w, x, hn, h => by
    have := List.eq_nil_of_length_eq_zero hn
    subst this
    have h : some root = some x := h
    cases h
    exact ⟨[], fed_nil rs, rfl⟩
  | n + 1, w, x, hn, h => by
    rcases List.eq_nil_or_concat w with rfl | ⟨u, c, rfl⟩
    · cases hn
    · rw [List.concat_eq_append] at h hn ⊢
      rw [bg_snoc] at h
      cases e : bg rs so u with
      | none => rw [e] at h; cases h
      | some y =>
        rw [e] at h
        have h : lng rs so y c = some x := h
        obtain ⟨ks, hF, es⟩ := bg_fed ho n (by simpa using hn) e
        unfold lng at h
        cases et : (tkM rs (some y.2.1) c).1 with
        | none => rw [et] at h; cases h
        | some t' =>
          rw [et] at h
          simp only at h
          split at h
          · cases h
            exact ⟨_, hF.step ho et, by rw [soL_app, es]⟩
          · cases h
theorem bg_none (ho : ∀ ρ ∈ rs, RlOk ρ) : ∀ (n : Nat) {w : List Nat}, w.length = n → bg rs so w = none → ∀ v, sayW rs (w ++ v) ≠ some so
  | 0, w, hn, h, v => by
    have := List.eq_nil_of_length_eq_zero hn
    subst this
    cases h
  | n + 1, w, hn, h, v => by
    rcases List.eq_nil_or_concat w with rfl | ⟨u, c, rfl⟩
    · cases hn
    · rw [List.concat_eq_append] at h hn ⊢
      rw [bg_snoc] at h
      cases e : bg rs so u with
      | none =>
        rw [List.append_assoc]
        exact bg_none ho n (by simpa using hn) e _
      | some y =>
        rw [e] at h
        have h : lng rs so y c = none := h
        obtain ⟨ks, hF, es⟩ := bg_fed ho n (by simpa using hn) e
        unfold lng at h
        cases et : (tkM rs (some y.2.1) c).1 with
        | none =>
          have := hF.stuck ho et v
          unfold sayW
          rw [this, if_neg (fun z => by cases z)]
          exact fun z => by cases z
        | some t' =>
          rw [et] at h
          simp only at h
          split at h
          · cases h
          · rename_i np
            intro z
            have := (hF.step ho et).sayV ho z
            rw [soL_app, ← es] at this
            exact np this
theorem bind_filter {α β γ : Type} {f : α → Option β} {g : β → γ} {okb : β → Bool} {P : γ → Bool} {i : α → γ} : ∀ {l : List α}, (∀ a ∈ l, match f a with | none => P (i a) = false | some b => g b = i a ∧ okb b = P (i a)) → ((l.filterMap f).filter okb).map g = (l.map i).filter P
  | [], _ => rfl
  | a :: r, h => by
    have ih := bind_filter (l := r) fun b hb => h b (List.mem_cons_of_mem _ hb)
    have ha := h a (List.mem_cons_self ..)
    rw [List.filterMap_cons, List.map_cons]
    cases e : f a with
    | none =>
      rw [e] at ha
      rw [List.filter_cons_of_neg (by rw [ha]; exact Bool.false_ne_true)]
      exact ih
    | some b =>
      rw [e] at ha
      obtain ⟨h1, h2⟩ := ha
      simp only
      cases c : okb b with
      | true =>
        rw [List.filter_cons_of_pos c, List.map_cons, ih, h1, List.filter_cons_of_pos (by rw [← h2]; exact c)]
      | false =>
        rw [List.filter_cons_of_neg (by rw [c]; exact Bool.false_ne_true), ih, List.filter_cons_of_neg (by rw [← h2, c]; exact Bool.false_ne_true)]
/-- the words that rules say so, in the queue's turn -/
theorem all_ruled (ho : ∀ ρ ∈ rs, RlOk ρ) : ((allB rs so L long).filter (okB rs so)).map (·.1) = (upto L long).filter fun w => decide (sayW rs w = some so) := by
  have e : allB rs so L long = (upto L long).filterMap (bg rs so) := by
    unfold allB upto
    rw [flat_bind]
    exact flat_congr fun n hn => kl_bg n (by have := List.mem_range.mp hn; omega)
  rw [e]
  have := bind_filter (f := bg rs so) (g := fun x : Bg => x.1) (okb := okB rs so) (P := fun w => decide (sayW rs w = some so)) (i := id) (l := upto L long) fun w hw => by
    cases eb : bg rs so w with
    | none =>
      refine decide_eq_false ?_
      have := bg_none ho _ rfl eb []
      rw [List.append_nil] at this
      exact this
    | some x =>
      obtain ⟨ks, hF, es⟩ := bg_fed ho _ rfl eb
      refine ⟨bg_w _ rfl eb, ?_⟩
      unfold okB
      rw [show sayW rs (id w) = (ensM rs (some x.2.1)).map (soL rs ks ++ ·) from hF.say ho]
      cases er : ensM rs (some x.2.1) with
      | none => rfl
      | some r =>
        simp only [Option.map_some, Option.some.injEq]
        rw [es]
  rw [List.map_id] at this
  exact this
end
theorem flat_le {α β : Type} {f : α → List β} {k : Nat} : ∀ {l : List α}, (∀ a ∈ l, (f a).length ≤ k) → (l.flatMap f).length ≤ l.length * k
  | [], _ => Nat.zero_le _
  | a :: r, h => by
    have ih := flat_le fun b hb => h b (List.mem_cons_of_mem _ hb)
    have := h a (List.mem_cons_self ..)
    rw [List.flatMap_cons, List.length_append, List.length_cons, Nat.succ_mul]
    omega
end Say
namespace Say
open PySem PySem.Spec PyProof.Rows L2
theorem strict_ext {α : Type} {lt : α → α → Prop} (irr : ∀ a, ¬ lt a a) (tr : ∀ a b c, lt a b → lt b c → lt a c) : ∀ {l m : List α}, l.Pairwise lt → m.Pairwise lt → (∀ x, x ∈ l ↔ x ∈ m) → l = m
  | [], m, _, _, h => (List.eq_nil_iff_forall_not_mem.mpr fun x hx => nomatch (h x).mpr hx).symm
  | a :: l, [], _, _, h => nomatch (h a).mp (List.mem_cons_self ..)
  | a :: l, b :: m, h1, h2, h => by
    obtain ⟨a1, a2⟩ := List.pairwise_cons.mp h1
    obtain ⟨b1, b2⟩ := List.pairwise_cons.mp h2
    have e : a = b := by
      rcases List.mem_cons.mp ((h a).mp (List.mem_cons_self ..)) with e | e
      · exact e
      · rcases List.mem_cons.mp ((h b).mpr (List.mem_cons_self ..)) with e' | e'
        · exact e'.symm
        · exact absurd (tr _ _ _ (b1 _ e) (a1 _ e')) (irr _)
    subst e
    congr 1
    refine strict_ext irr tr a2 b2 fun x => ⟨fun hx => ?_, fun hx => ?_⟩
    · rcases List.mem_cons.mp ((h x).mp (List.mem_cons_of_mem _ hx)) with e | e
      · rw [e] at hx; exact absurd (a1 _ hx) (irr _)
      · exact e
    · rcases List.mem_cons.mp ((h x).mpr (List.mem_cons_of_mem _ hx)) with e | e
      · rw [e] at hx; exact absurd (b1 _ hx) (irr _)
      · exact e
theorem lexIrr (a : List Nat) : ¬ a < a := List.lt_irrefl a
theorem lexTr (a b c : List Nat) (h : a < b) (h' : b < c) : a < c := List.lt_trans h h'
theorem leW_tot : PySem.W.TotalLe leW where
  trans a b c h1 h2 := decide_eq_true (List.le_trans (of_decide_eq_true h1) (of_decide_eq_true h2))
  total a b := by
    rcases List.le_total a b with h | h
    · exact .inl (decide_eq_true h)
    · exact .inr (decide_eq_true h)
theorem leL_tot : PySem.W.TotalLe leL where
  trans a b c h1 h2 := decide_eq_true (Int.le_trans (of_decide_eq_true h1) (of_decide_eq_true h2))
  total a b := by
    rcases Int.le_total (a.length : Int) (b.length : Int) with h | h
    · exact .inl (decide_eq_true h)
    · exact .inr (decide_eq_true h)
theorem upto_up {L : List Nat} (hL : L.Pairwise (· < ·)) (n : Nat) : (upto L n).Pairwise fun a b => a.length < b.length ∨ (a.length = b.length ∧ a < b) := by
  unfold upto
  rw [List.pairwise_flatMap]
  refine ⟨fun k _ => (lv_up hL k).imp_of_mem fun {a b} ha hb h => .inr ⟨by rw [(mem_lv.mp ha).1, (mem_lv.mp hb).1], h⟩, ?_⟩
  refine List.pairwise_lt_range.imp fun {i j} h x hx y hy => .inl ?_
  rw [(mem_lv.mp hx).1, (mem_lv.mp hy).1]
  exact h
def ruledW (rs : List Rule) (so L : List Nat) (long : Nat) : List (List Nat) := (upto L long).filter fun w => decide (sayW rs w = some so)
def exW (es : List Exc) (so : List Nat) (long : Nat) : List (List Nat) := (es.filter fun e => decide (e.2 = so) && decide (e.1.length ≤ long)).map (·.1)
def isExc (es : List Exc) (w : List Nat) : Bool := es.any fun e => decide (e.1 = w)
def foundW (rs : List Rule) (es : List Exc) (so L : List Nat) (long : Nat) : List (List Nat) := ((ruledW rs so L long).filter fun w => !isExc es w) ++ exW es so long
/-- all words that are said so -/
def writM (rs : List Rule) (es : List Exc) (so L : List Nat) (long : Nat) : List (List Nat) := (upto L long).filter fun w => decide (saidM rs es w = some so)
section
variable {rs : List Rule} {es : List Exc} {so L : List Nat} {long : Nat}
theorem exc_said (up : es.Pairwise fun e f => e.1 < f.1) {e : Exc} (h : e ∈ es) : saidM rs es e.1 = some e.2 := by
  unfold saidM
  have : es.find? (fun f => decide (f.1 = e.1)) = some e := by
    induction es with
    | nil => cases h
    | cons a r ih =>
      obtain ⟨p1, p2⟩ := List.pairwise_cons.mp up
      rcases List.mem_cons.mp h with rfl | h
      · exact List.find?_cons_of_pos (decide_eq_true rfl)
      · rw [List.find?_cons_of_neg (by
          intro z
          have z := of_decide_eq_true z
          have := p1 e h
          rw [z] at this
          exact lexIrr _ this)]
        exact ih p2 h
  rw [this]
theorem noexc_said {w : List Nat} (h : isExc es w = false) : saidM rs es w = sayW rs w := by
  unfold saidM
  have : es.find? (fun f => decide (f.1 = w)) = none := by
    refine List.find?_eq_none.mpr fun e he z => ?_
    unfold isExc at h
    rw [List.any_eq_false] at h
    exact h e he z
  rw [this]
theorem mem_found (ex : ∀ e ∈ es, ∀ c ∈ e.1, c ∈ L) (up : es.Pairwise fun e f => e.1 < f.1) (w : List Nat) : w ∈ foundW rs es so L long ↔ w ∈ writM rs es so L long := by
  unfold foundW writM ruledW exW
  rw [List.mem_append, List.mem_filter, List.mem_filter, List.mem_filter]
  constructor
  · rintro (⟨⟨h1, h2⟩, h3⟩ | h)
    · have h3 : isExc es w = false := by simpa using h3
      exact ⟨h1, by rw [noexc_said h3]; exact h2⟩
    · obtain ⟨e, he, rfl⟩ := List.mem_map.mp h
      obtain ⟨he1, he2⟩ := List.mem_filter.mp he
      rw [Bool.and_eq_true] at he2
      have e2 := of_decide_eq_true he2.1
      exact ⟨mem_upto.mpr ⟨of_decide_eq_true he2.2, ex e he1⟩, decide_eq_true (by rw [exc_said up he1, e2])⟩
  · rintro ⟨h1, h2⟩
    have h2 := of_decide_eq_true h2
    cases h : isExc es w with
    | false =>
      rw [noexc_said h] at h2
      exact .inl ⟨⟨h1, decide_eq_true h2⟩, rfl⟩
    | true =>
      refine .inr ?_
      unfold isExc at h
      obtain ⟨e, he, hw⟩ := List.any_eq_true.mp h
      have hw := of_decide_eq_true hw
      subst hw
      rw [exc_said up he] at h2
      refine List.mem_map.mpr ⟨e, List.mem_filter.mpr ⟨he, ?_⟩, rfl⟩
      rw [Bool.and_eq_true]
      exact ⟨decide_eq_true (Option.some.inj h2), decide_eq_true (mem_upto.mp h1).1⟩
theorem found_nd (hL : L.Pairwise (· < ·)) (up : es.Pairwise fun e f => e.1 < f.1) : (foundW rs es so L long).Nodup := by
  unfold foundW
  refine List.nodup_append.mpr ⟨?_, ?_, fun a ha b hb z => ?_⟩
  · refine List.Nodup.sublist (List.filter_sublist.trans List.filter_sublist) ?_
    exact (upto_up hL long).imp fun {a b} h z => by
      subst z
      rcases h with h | ⟨_, h⟩
      · exact Nat.lt_irrefl _ h
      · exact lexIrr _ h
  · unfold exW
    refine (List.pairwise_map.mpr ((up.sublist List.filter_sublist).imp fun {e f} h => ?_))
    intro z
    rw [z] at h
    exact lexIrr _ h
  · subst z
    obtain ⟨_, h⟩ := List.mem_filter.mp ha
    unfold exW at hb
    obtain ⟨e, he, rfl⟩ := List.mem_map.mp hb
    have : isExc es e.1 = true := List.any_eq_true.mpr ⟨e, (List.mem_filter.mp he).1, decide_eq_true rfl⟩
    rw [this] at h
    cases h
/-- sorted, then by lengths: that is all words in their turn -/
theorem writ_sort (hL : L.Pairwise (· < ·)) (ex : ∀ e ∈ es, ∀ c ∈ e.1, c ∈ L) (up : es.Pairwise fun e f => e.1 < f.1) : ((foundW rs es so L long).mergeSort leW).mergeSort leL = writM rs es so L long := by
  symm
  have uu : (writM rs es so L long).Pairwise fun a b => a.length < b.length ∨ (a.length = b.length ∧ a < b) := (upto_up hL long).sublist List.filter_sublist
  refine PySem.W.sort_unique leL_tot (uu.imp fun {a b} h => decide_eq_true (by omega)) fun c => ?_
  refine strict_ext (lt := fun a b : List Nat => a < b) lexIrr lexTr ?_ ?_ fun x => ?_
  · refine (uu.sublist List.filter_sublist).imp_of_mem fun {a b} ha hb h => ?_
    have ra := (List.mem_filter.mp ha).2
    have rb := (List.mem_filter.mp hb).2
    unfold PySem.W.sameRank at ra rb
    rw [Bool.and_eq_true] at ra rb
    have a1 := of_decide_eq_true ra.1
    have a2 := of_decide_eq_true ra.2
    have b1 := of_decide_eq_true rb.1
    have b2 := of_decide_eq_true rb.2
    rcases h with h | ⟨_, h⟩
    · omega
    · exact h
  · have h1 := PySem.W.sort_pairwise leW_tot (foundW rs es so L long)
    have h2 : ((foundW rs es so L long).mergeSort leW).Nodup := (List.mergeSort_perm _ _).nodup_iff.mpr (found_nd hL up)
    refine List.Pairwise.sublist List.filter_sublist ((List.pairwise_and_iff.mpr ⟨h1, h2⟩).imp fun {a b} h => ?_)
    have le := of_decide_eq_true h.1
    exact Decidable.byContradiction fun n => h.2 (List.le_antisymm le (List.not_lt.mp n))
  · rw [List.mem_filter, List.mem_filter, List.mem_mergeSort, mem_found ex up]
end
end Say
namespace Say
open PySem PySem.Spec PyProof.Rows L2
/-! ### the shorter word first, then as texts -/
def sl (a b : List Nat) : Prop := a.length < b.length ∨ (a.length = b.length ∧ a < b)
theorem sl_irr (a : List Nat) : ¬ sl a a := by
  rintro (h | ⟨_, h⟩)
  · exact Nat.lt_irrefl _ h
  · exact lexIrr _ h
theorem sl_tr {a b c : List Nat} (h : sl a b) (h' : sl b c) : sl a c := by
  rcases h with h | ⟨h, g⟩ <;> rcases h' with h' | ⟨h', g'⟩
  · exact .inl (by omega)
  · exact .inl (by omega)
  · exact .inl (by omega)
  · exact .inr ⟨by omega, lexTr _ _ _ g g'⟩
theorem sl_tot (a b : List Nat) : sl a b ∨ a = b ∨ sl b a := by
  rcases Nat.lt_trichotomy a.length b.length with h | h | h
  · exact .inl (.inl h)
  · by_cases e : a = b
    · exact .inr (.inl e)
    · by_cases l : a < b
      · exact .inl (.inr ⟨h, l⟩)
      · refine .inr (.inr (.inr ⟨h.symm, ?_⟩))
        exact Decidable.byContradiction fun n => e (List.le_antisymm (List.not_lt.mp n) (List.not_lt.mp l))
  · exact .inr (.inr (.inl h))
/-- no later than -/
def sle (a b : List Nat) : Prop := a = b ∨ sl a b
theorem sle_tr {a b c : List Nat} (h : sle a b) (h' : sle b c) : sle a c := by
  rcases h with rfl | h
  · exact h'
  · rcases h' with rfl | h'
    · exact .inr h
    · exact .inr (sl_tr h h')
theorem sle_anti {a b : List Nat} (h : sle a b) (h' : sle b a) : a = b := by
  rcases h with h | h
  · exact h
  · rcases h' with h' | h'
    · exact h'.symm
    · exact absurd (sl_tr h h') (sl_irr _)
theorem sl_app {a b : List Nat} (h : sl a b) (c d : Nat) : sl (a ++ [c]) (b ++ [d]) := by
  rcases h with h | ⟨h, g⟩
  · exact .inl (by simp; omega)
  · exact .inr ⟨by simp [h], lex_app h g⟩
theorem sl_end (a : List Nat) {c d : Nat} (h : c < d) : sl (a ++ [c]) (a ++ [d]) := .inr ⟨by simp, lex_end a h⟩
theorem sl_more (a : List Nat) (c : Nat) : sl a (a ++ [c]) := .inl (by simp)
theorem sle_app {a b : List Nat} (h : sle a b) (c : Nat) : sle (a ++ [c]) (b ++ [c]) := by
  rcases h with rfl | h
  · exact .inl rfl
  · exact .inr (sl_app h c c)
/-! ### a hunt: words enter a queue from the least on, each state once -/
section
variable {S : Type} [DecidableEq S] (s0 : S) (st : S → Nat → S) (fd : S → Bool) (L : List Nat)
/-- the state behind a word -/
def rn (w : List Nat) : S := w.foldl st s0
theorem rn_snoc (w : List Nat) (c : Nat) : rn s0 st (w ++ [c]) = st (rn s0 st w) c := by
  unfold rn
  rw [List.foldl_append]
  rfl
/-- i words of the queue are read, of the next one j letters; the states that were kept are those behind the first place -/
structure Hu (q : List (List Nat × S)) (i j : Nat) : Prop where
  root : q[0]? = some ([], s0)
  ok : ∀ x ∈ q, x.2 = rn s0 st x.1 ∧ ∀ c ∈ x.1, c ∈ L
  up : q.Pairwise fun x y => sl x.1 y.1
  nd : (q.drop 1).Pairwise fun x y => ¬ x.2 = y.2
  kid : ∀ k, 1 ≤ k → ∀ y, q[k]? = some y → ∃ m x c l, q[m]? = some x ∧ L[l]? = some c ∧ y.1 = x.1 ++ [c] ∧ m < k ∧ (m < i ∨ (m = i ∧ l < j))
  cov : ∀ m x l c, q[m]? = some x → L[l]? = some c → (m < i ∨ (m = i ∧ l < j)) → ∃ y ∈ q.drop 1, y.2 = st x.2 c ∧ sle y.1 (x.1 ++ [c])
  no : ∀ m x, m < i → q[m]? = some x → fd x.2 = false
variable {s0 st fd L}
theorem Hu.first : Hu s0 st fd L [([], s0)] 0 0 where
  root := rfl
  ok := fun x hx => by rw [List.mem_singleton.mp hx]; exact ⟨rfl, fun c hc => nomatch hc⟩
  up := List.pairwise_singleton _ _
  nd := .nil
  kid := fun k hk y h => by
    obtain ⟨k, rfl⟩ : ∃ k', k = k' + 1 := ⟨k - 1, by omega⟩
    cases h
  cov := fun m x l c _ _ h => by omega
  no := fun m x h => by omega
theorem Hu.pos {q : List (List Nat × S)} {i j : Nat} (h : Hu s0 st fd L q i j) : q ≠ [] := fun e => by
  have := h.root
  rw [e] at this
  cases this
theorem pw_at {α : Type} {R : α → α → Prop} {l : List α} (h : l.Pairwise R) {i j : Nat} {x y : α} (hi : l[i]? = some x) (hj : l[j]? = some y) (hij : i < j) : R x y := by
  obtain ⟨a, rfl⟩ := List.getElem?_eq_some_iff.mp hi
  obtain ⟨b, rfl⟩ := List.getElem?_eq_some_iff.mp hj
  exact List.pairwise_iff_getElem.mp h i j a b hij
/-- all in the queue come ahead of the next one -/
theorem Hu.ahead (hL : L.Pairwise (· < ·)) {q : List (List Nat × S)} {i j : Nat} (h : Hu s0 st fd L q i j) {x : List Nat × S} {c : Nat} (hx : q[i]? = some x) (hc : L[j]? = some c) : ∀ y ∈ q, sl y.1 (x.1 ++ [c]) := by
  intro y hy
  obtain ⟨k, hk⟩ := List.mem_iff_getElem?.mp hy
  by_cases k0 : k = 0
  · subst k0
    rw [h.root] at hk
    cases hk
    exact .inl (by simp)
  · obtain ⟨m, z, d, l, h1, h2, h3, h4, h5⟩ := h.kid k (by omega) y hk
    rw [h3]
    rcases h5 with h5 | ⟨rfl, h5⟩
    · exact sl_app (pw_at h.up h1 hx h5) d c
    · rw [hx] at h1
      cases h1
      exact sl_end _ (pw_at hL h2 hc h5)
/-- a state that was kept: nothing enters -/
theorem Hu.skip (hL : L.Pairwise (· < ·)) {q : List (List Nat × S)} {i j : Nat} (h : Hu s0 st fd L q i j) {x : List Nat × S} {c : Nat} (hx : q[i]? = some x) (hc : L[j]? = some c) (hs : ∃ y ∈ q.drop 1, y.2 = st x.2 c) : Hu s0 st fd L q i (j + 1) where
  root := h.root
  ok := h.ok
  up := h.up
  nd := h.nd
  kid := fun k hk y hy => by
    obtain ⟨m, z, d, l, h1, h2, h3, h4, h5⟩ := h.kid k hk y hy
    exact ⟨m, z, d, l, h1, h2, h3, h4, by omega⟩
  cov := fun m z l d h1 h2 h3 => by
    by_cases e : m < i ∨ (m = i ∧ l < j)
    · exact h.cov m z l d h1 h2 e
    · have : m = i ∧ l = j := by omega
      obtain ⟨rfl, rfl⟩ := this
      rw [hx] at h1
      cases h1
      rw [hc] at h2
      cases h2
      obtain ⟨y, hy, e2⟩ := hs
      exact ⟨y, hy, e2, .inr (h.ahead hL hx hc y (List.mem_of_mem_drop hy))⟩
  no := h.no
/-- a new state: the word enters -/
theorem Hu.push (hL : L.Pairwise (· < ·)) {q : List (List Nat × S)} {i j : Nat} (h : Hu s0 st fd L q i j) {x : List Nat × S} {c : Nat} (hx : q[i]? = some x) (hc : L[j]? = some c) (hs : ∀ y ∈ q.drop 1, ¬ y.2 = st x.2 c) : Hu s0 st fd L (q ++ [(x.1 ++ [c], st x.2 c)]) i (j + 1) := by
  have hq : 1 ≤ q.length := List.length_pos_iff.mpr h.pos
  have ed : (q ++ [(x.1 ++ [c], st x.2 c)]).drop 1 = q.drop 1 ++ [(x.1 ++ [c], st x.2 c)] := List.drop_append_of_le_length hq
  have hi := (List.getElem?_eq_some_iff.mp hx).1
  have old : ∀ {m z}, m < q.length → (q ++ [(x.1 ++ [c], st x.2 c)])[m]? = some z → q[m]? = some z := fun hm hz => by rwa [List.getElem?_append_left hm] at hz
  have new : ∀ {m z}, q[m]? = some z → (q ++ [(x.1 ++ [c], st x.2 c)])[m]? = some z := fun hz => by
    rw [List.getElem?_append_left (List.getElem?_eq_some_iff.mp hz).1]
    exact hz
  refine ⟨new h.root, fun y hy => ?_, ?_, ?_, fun k hk y hy => ?_, fun m z l d h1 h2 h3 => ?_, fun m z hm hz => h.no m z hm (old (by omega) hz)⟩
  · rcases List.mem_append.mp hy with hy | hy
    · exact h.ok y hy
    · rw [List.mem_singleton.mp hy]
      obtain ⟨a, b⟩ := h.ok x (List.mem_of_getElem? hx)
      refine ⟨by show st x.2 c = rn s0 st (x.1 ++ [c]); rw [rn_snoc, a], fun d hd => ?_⟩
      rcases List.mem_append.mp hd with hd | hd
      · exact b d hd
      · rw [List.mem_singleton.mp hd]
        exact List.mem_of_getElem? hc
  · refine List.pairwise_append.mpr ⟨h.up, List.pairwise_singleton _ _, fun y hy z hz => ?_⟩
    rw [List.mem_singleton.mp hz]
    exact h.ahead hL hx hc y hy
  · rw [ed]
    refine List.pairwise_append.mpr ⟨h.nd, List.pairwise_singleton _ _, fun y hy z hz => ?_⟩
    rw [List.mem_singleton.mp hz]
    exact hs y hy
  · by_cases hkq : k < q.length
    · obtain ⟨m, z, d, l, h1, h2, h3, h4, h5⟩ := h.kid k hk y (old hkq hy)
      exact ⟨m, z, d, l, new h1, h2, h3, h4, by omega⟩
    · have hkl := (List.getElem?_eq_some_iff.mp hy).1
      rw [List.length_append, List.length_singleton] at hkl
      have : k = q.length := by omega
      subst this
      rw [List.getElem?_append_right (Nat.le_refl _), Nat.sub_self] at hy
      cases hy
      exact ⟨i, x, c, j, new hx, hc, rfl, hi, .inr ⟨rfl, Nat.lt_succ_self _⟩⟩
  · rw [ed]
    by_cases e : m < i ∨ (m = i ∧ l < j)
    · obtain ⟨y, hy, g1, g2⟩ := h.cov m z l d (old (by omega) h1) h2 e
      exact ⟨y, List.mem_append_left _ hy, g1, g2⟩
    · have : m = i ∧ l = j := by omega
      obtain ⟨rfl, rfl⟩ := this
      have h1 := old hi h1
      rw [hx] at h1
      cases h1
      rw [hc] at h2
      cases h2
      exact ⟨_, List.mem_append_right _ (List.mem_singleton.mpr rfl), rfl, .inl rfl⟩
/-- all letters of a word are read -/
theorem Hu.turn {q : List (List Nat × S)} {i : Nat} (h : Hu s0 st fd L q i L.length) {x : List Nat × S} (hx : q[i]? = some x) (hf : fd x.2 = false) : Hu s0 st fd L q (i + 1) 0 where
  root := h.root
  ok := h.ok
  up := h.up
  nd := h.nd
  kid := fun k hk y hy => by
    obtain ⟨m, z, d, l, h1, h2, h3, h4, h5⟩ := h.kid k hk y hy
    exact ⟨m, z, d, l, h1, h2, h3, h4, by omega⟩
  cov := fun m z l d h1 h2 h3 => by
    have := (List.getElem?_eq_some_iff.mp h2).1
    exact h.cov m z l d h1 h2 (by omega)
  no := fun m z hm hz => by
    by_cases e : m < i
    · exact h.no m z e hz
    · have : m = i := by omega
      subst this
      rw [hx] at hz
      cases hz
      exact hf
/-- each word's state was read by a word no later, or a word no later still waits -/
theorem Hu.all {q : List (List Nat × S)} {i : Nat} (h : Hu s0 st fd L q i 0) : ∀ (n : Nat) (v : List Nat), v.length = n → (∀ c ∈ v, c ∈ L) → ∃ (k : Nat) (y : List Nat × S), q[k]? = some y ∧ sle y.1 v ∧ (i ≤ k ∨ y.2 = rn s0 st v)
  | 0, v, hn, _ => by
    have := List.eq_nil_of_length_eq_zero hn
    subst this
    exact ⟨0, _, h.root, .inl rfl, .inr rfl⟩
  | n + 1, v, hn, hv => by
    rcases List.eq_nil_or_concat v with rfl | ⟨u, c, rfl⟩
    · cases hn
    · rw [List.concat_eq_append] at hn hv ⊢
      obtain ⟨k, y, h1, h2, h3⟩ := h.all n u (by simpa using hn) fun d hd => hv d (List.mem_append_left _ hd)
      by_cases e : i ≤ k
      · exact ⟨k, y, h1, sle_tr h2 (.inr (sl_more u c)), .inl e⟩
      · have e2 : y.2 = rn s0 st u := h3.resolve_left e
        obtain ⟨l, hl⟩ := List.mem_iff_getElem?.mp (hv c (by simp))
        obtain ⟨z, hz, g1, g2⟩ := h.cov k y l c h1 hl (.inl (by omega))
        obtain ⟨m, hm⟩ := List.mem_iff_getElem?.mp (List.mem_of_mem_drop hz)
        exact ⟨m, z, hm, sle_tr g2 (sle_app h2 c), .inr (by rw [g1, e2, rn_snoc])⟩
/-- the first that is found is the least -/
theorem Hu.least {q : List (List Nat × S)} {i : Nat} (h : Hu s0 st fd L q i 0) {x : List Nat × S} (hx : q[i]? = some x) {v : List Nat} (hv : ∀ c ∈ v, c ∈ L) (hf : fd (rn s0 st v) = true) : sle x.1 v := by
  obtain ⟨k, y, h1, h2, h3⟩ := h.all _ v rfl hv
  have e : i ≤ k := by
    refine Decidable.byContradiction fun n => ?_
    have e2 := h3.resolve_left n
    have := h.no k y (by omega) h1
    rw [e2, hf] at this
    cases this
  by_cases e3 : i = k
  · subst e3
    rw [hx] at h1
    cases h1
    exact h2
  · exact sle_tr (.inr (pw_at h.up hx h1 (by omega))) h2
/-- all read, none found: there is none -/
theorem Hu.none {q : List (List Nat × S)} {i : Nat} (h : Hu s0 st fd L q i 0) (hi : q.length ≤ i) {v : List Nat} (hv : ∀ c ∈ v, c ∈ L) : fd (rn s0 st v) = false := by
  obtain ⟨k, y, h1, h2, h3⟩ := h.all _ v rfl hv
  have hk := (List.getElem?_eq_some_iff.mp h1).1
  have e2 := h3.resolve_left (by omega)
  rw [← e2]
  exact h.no k y (by omega) h1
/-- words are no longer than their places -/
theorem Hu.len {q : List (List Nat × S)} {i j : Nat} (h : Hu s0 st fd L q i j) : ∀ (k n : Nat), n ≤ k → ∀ y, q[n]? = some y → y.1.length ≤ n
  | 0, n, hn, y, hy => by
    have : n = 0 := by omega
    subst this
    rw [h.root] at hy
    cases hy
    exact Nat.le_refl _
  | k + 1, n, hn, y, hy => by
    by_cases n0 : n = 0
    · subst n0
      rw [h.root] at hy
      cases hy
      exact Nat.le_refl _
    · obtain ⟨m, z, d, l, h1, h2, h3, h4, h5⟩ := h.kid n (by omega) y hy
      have := h.len k m (by omega) z h1
      rw [h3, List.length_append, List.length_singleton]
      omega
theorem nd_len {α : Type} [DecidableEq α] : ∀ {l u : List α}, l.Pairwise (fun x y => ¬ x = y) → (∀ x ∈ l, x ∈ u) → l.length ≤ u.length
  | [], u, _, _ => Nat.zero_le _
  | a :: r, u, hn, hu => by
    obtain ⟨h1, h2⟩ := List.pairwise_cons.mp hn
    have ih := nd_len (l := r) (u := u.erase a) h2 fun x hx => (List.mem_erase_of_ne (fun e => h1 x hx e.symm)).mpr (hu x (List.mem_cons_of_mem _ hx))
    have hm := hu a (List.mem_cons_self ..)
    rw [List.length_erase_of_mem hm] at ih
    have := List.length_pos_of_mem hm
    rw [List.length_cons]
    omega
/-- the queue is no longer than all states, and one more -/
theorem Hu.size {q : List (List Nat × S)} {i j : Nat} (h : Hu s0 st fd L q i j) {u : List S} (hu : ∀ w : List Nat, (∀ c ∈ w, c ∈ L) → rn s0 st w ∈ u) : q.length ≤ u.length + 1 := by
  have := nd_len (l := (q.drop 1).map (·.2)) (u := u) (List.pairwise_map.mpr h.nd) fun s hs => by
    obtain ⟨x, hx, rfl⟩ := List.mem_map.mp hs
    obtain ⟨a, b⟩ := h.ok x (List.mem_of_mem_drop hx)
    rw [a]
    exact hu _ b
  rw [List.length_map, List.length_drop] at this
  omega
end
end Say
namespace Say
open PySem PySem.Spec PyProof.Rows L2
def tkS (rs : List Rule) (s : Option (List Nat)) (c : Nat) : Option (List Nat) := (tkM rs s c).1
abbrev rnT (rs : List Rule) (w : List Nat) : Option (List Nat) := rn (some [35]) (tkS rs) w
def fdU (rs : List Rule) (s : Option (List Nat)) : Bool := (endM rs s).isNone
theorem rnT_some {rs : List Rule} (ho : ∀ ρ ∈ rs, RlOk ρ) : ∀ (n : Nat) {w tl : List Nat}, w.length = n → rnT rs w = some tl → ∃ ks, Fed rs w tl ks
  | 0, w, tl, hn, h => by
    have := List.eq_nil_of_length_eq_zero hn
    subst this
    have h : some [35] = some tl := h
    cases h
    exact ⟨[], fed_nil rs⟩
  | n + 1, w, tl, hn, h => by
    rcases List.eq_nil_or_concat w with rfl | ⟨u, c, rfl⟩
    · cases hn
    · rw [List.concat_eq_append] at h hn ⊢
      have h : rn (some [35]) (tkS rs) (u ++ [c]) = some tl := h
      rw [rn_snoc] at h
      cases e : rn (some [35]) (tkS rs) u with
      | none => rw [e] at h; cases h
      | some t =>
        rw [e] at h
        obtain ⟨ks, F⟩ := rnT_some ho n (by simpa using hn) e
        exact ⟨_, F.step ho h⟩
theorem rnT_none {rs : List Rule} (ho : ∀ ρ ∈ rs, RlOk ρ) : ∀ (n : Nat) {w : List Nat}, w.length = n → rnT rs w = none → ∀ v, (W rs (w ++ v)).2 ≠ none
  | 0, w, hn, h, v => by
    have := List.eq_nil_of_length_eq_zero hn
    subst this
    cases h
  | n + 1, w, hn, h, v => by
    rcases List.eq_nil_or_concat w with rfl | ⟨u, c, rfl⟩
    · cases hn
    · rw [List.concat_eq_append] at h hn ⊢
      have h : rn (some [35]) (tkS rs) (u ++ [c]) = none := h
      rw [rn_snoc] at h
      cases e : rn (some [35]) (tkS rs) u with
      | none =>
        rw [List.append_assoc]
        exact rnT_none ho n (by simpa using hn) e _
      | some t =>
        rw [e] at h
        obtain ⟨ks, F⟩ := rnT_some ho _ rfl e
        rw [F.stuck ho h v]
        exact fun z => by cases z
/-- what the hunt finds are the words that rules don't say -/
theorem fdU_iff {rs : List Rule} (ho : ∀ ρ ∈ rs, RlOk ρ) (w : List Nat) : fdU rs (rnT rs w) = true ↔ (W rs w).2 ≠ none := by
  cases e : rnT rs w with
  | none =>
    have := rnT_none ho _ rfl e []
    rw [List.append_nil] at this
    exact ⟨fun _ => this, fun _ => rfl⟩
  | some tl =>
    obtain ⟨ks, F⟩ := rnT_some ho _ rfl e
    rw [(F.whole ho).2]
    unfold fdU endM
    cases ew : (Wt rs tl).2 with
    | none => simp [ew]
    | some p => simp [ew]
/-- all tails there are -/
def tails (L : List Nat) : List (Option (List Nat)) := none :: ((((upto L 2).map fun z => 35 :: z) ++ upto L 3).map some)
theorem rnT_mem {rs : List Rule} (ho : ∀ ρ ∈ rs, RlOk ρ) {L w : List Nat} (hw : ∀ c ∈ w, c ∈ L) : rnT rs w ∈ tails L := by
  cases e : rnT rs w with
  | none => exact List.mem_cons_self ..
  | some tl =>
    refine List.mem_cons_of_mem _ (List.mem_map.mpr ⟨tl, ?_, rfl⟩)
    obtain ⟨ks, F⟩ := rnT_some ho _ rfl e
    obtain ⟨l1, l2, l3⟩ := F.len
    obtain ⟨p, st, h1, h2, rfl, _⟩ := F
    rw [List.length_drop, List.length_cons] at l1 l2
    cases p with
    | zero =>
      refine List.mem_append_left _ (List.mem_map.mpr ⟨w, mem_upto.mpr ⟨by omega, hw⟩, rfl⟩)
    | succ p =>
      refine List.mem_append_right _ (mem_upto.mpr ⟨by rw [List.length_drop, List.length_cons]; omega, fun c hc => hw c ?_⟩)
      rw [List.drop_succ_cons] at hc
      exact List.mem_of_mem_drop hc
theorem rnT_len {rs : List Rule} (ho : ∀ ρ ∈ rs, RlOk ρ) {w tl : List Nat} (e : rnT rs w = some tl) : 1 ≤ tl.length ∧ tl.length ≤ 3 := by
  obtain ⟨ks, F⟩ := rnT_some ho _ rfl e
  exact ⟨F.len.1, F.len.2.1⟩
end Say
namespace Say
open PySem PySem.Spec PyProof.Rows L2
theorem Same.seqT {K : PySem.W.Frag} {H H' : Hp} {a : Addr} {xs : List V} (e : Same H H') (h : SqT K H a xs) : SqT K H' a xs := by
  rcases h with (h | ⟨o, h⟩) | h
  · exact .inl (.inl (e _ _ h))
  · exact .inl (.inr ⟨o, e _ _ h⟩)
  · exact .inr h
mutual
theorem dp_same {K : PySem.W.Frag} {H H' : Hp} (e : Same H H') : ∀ {v : V} {d : PyData}, Dp K H v d → Dp K H' v d
  | _, _, .non => .non
  | _, _, .bl b => .bl b
  | _, _, .int i => .int i
  | _, _, .str x => .str x
  | _, _, .lst h a => .lst (Same.seq e h) (dpa_same e a)
  | _, _, .tup h a => .tup (Same.seqT e h) (dpa_same e a)
theorem dpa_same {K : PySem.W.Frag} {H H' : Hp} (e : Same H H') : ∀ {vs : List V} {ds : List PyData}, DpAll K H vs ds → DpAll K H' vs ds
  | _, _, .nil => .nil
  | _, _, .cons h t => .cons (dp_same e h) (dpa_same e t)
end
theorem dpa_len {K : PySem.W.Frag} {H : Hp} : ∀ {vs : List V} {ds : List PyData}, DpAll K H vs ds → vs.length = ds.length
  | _, _, .nil => rfl
  | _, _, .cons _ t => by simp [dpa_len t]
theorem dpa_at {K : PySem.W.Frag} {H : Hp} : ∀ {vs : List V} {ds : List PyData}, DpAll K H vs ds → ∀ {i : Nat} {d : PyData}, ds[i]? = some d → ∃ v, vs[i]? = some v ∧ Dp K H v d
  | _, _, .nil, i, d, h => by cases h
  | _, _, .cons a t, 0, d, h => by
    cases h
    exact ⟨_, rfl, a⟩
  | _, _, .cons a t, i + 1, d, h => dpa_at t h
/-- data with no dicts, its lists not long -/
inductive Few : PyData → Prop
  | non : Few .none
  | bl (b : Bool) : Few (.bool b)
  | int (i : Int) : Few (.int i)
  | str (x : Str) : Few (.str x)
  | lst {ds : List PyData} : ds.length ≤ 1000 → (∀ d ∈ ds, Few d) → Few (.list ds)
  | tup {ds : List PyData} : ds.length ≤ 1000 → (∀ d ∈ ds, Few d) → Few (.tuple ds)
theorem depth_mem : ∀ {ds : List PyData} {d : PyData}, d ∈ ds → d.depth ≤ PyData.depthAll ds
  | x :: r, d, h => by
    unfold PyData.depthAll
    rcases List.mem_cons.mp h with rfl | h
    · exact Nat.le_max_left _ _
    · exact Nat.le_trans (depth_mem h) (Nat.le_max_right _ _)
end Say
namespace Say
open PySem PySem.Spec PyProof.Rows L2
/-- the leads' pair, as the top has left it -/
def EvenC (K : PySem.W.Frag) (aE : Addr) : Prop := ∃ (o : Obj) (its : Array Value) (n : Nat), K.lookup aE = some o ∧ o.cls = .type "tuple" ∧ o.data = .seq its n ∧ its.size ≤ sizeLine ∧ Vals [V.str "", V.str ""] its.toList
theorem EvenC.sq {K : PySem.W.Frag} {aE : Addr} (h : EvenC K aE) (H : Hp) : SqT K H aE [V.str "", V.str ""] := .inr h
theorem EvenC.dp {K : PySem.W.Frag} {aE : Addr} (h : EvenC K aE) (H : Hp) : Dp K H (.ref aE) (.tuple [.str "", .str ""]) := .tup (h.sq H) (.cons (.str _) (.cons (.str _) .nil))
end Say
/-! written by k28/genuns.py from DKeep -/
namespace Say
open PySem PySem.Spec PyProof.Rows L2
def LeadsAt (P : Program) (w : World) (H : Hp) (a aE : Addr) (kvs : List (Leaf × Addr)) : Prop := H a = some (LD P w a kvs) ∧ ∀ p ∈ kvs, H p.2 = some (.lst [.ref aE])
section
variable {P : Program} {w : World} {K : PySem.W.Frag} {mg : Str → Option Value} {base : Heap}
abbrev sKpN : Stmt := topS 70
theorem scKpN : FnScope ["leads", "state", "where", "lead", "there"] ["leads", "state"] (defScope sKpN) := ⟨rfl, rfl, rfl, by decide +kernel, rfl, by decide +kernel, by decide +kernel⟩
def spKpN (P : Program) (w : World) (aE : Addr) : Sp := fun vs H Q _ => ∃ (a t : Addr) (kvs : List (Leaf × Addr)) (k : Leaf), vs = [.ref a, .ref t] ∧ LeadsAt P w H a aE kvs ∧ kvs.length ≤ 1000 ∧ H t = some (.tup [leafV k, .ref aE]) ∧
  (∀ D, lfind kvs k = some D → ∀ H', Same H H' → Q (.bl false) H') ∧ (lfind kvs k = none → ∀ (D : Addr) (H' : Hp), H D = none → Stp a H H' → LeadsAt P w H' a aE (kvs ++ [(k, D)]) → Q (.bl true) H')
theorem lfind_mem {kvs : List (Leaf × Addr)} {k : Leaf} {D : Addr} (h : lfind kvs k = some D) : (k, D) ∈ kvs := by
  unfold lfind at h
  obtain ⟨p, h1, h2⟩ := Option.map_eq_some_iff.mp h
  have e0 := List.find?_some h1
  have e : p.1 = k := of_decide_eq_true e0
  have m := List.mem_of_find?_eq_some h1
  rw [← e, ← h2]
  exact m
theorem ok_KpN {f aE : Addr} {fd : FuncData} {k : Nat} (F : Fun K "keep" "keep" sKpN f fd) (B : Bn mg) (cL : KI mg "LEADS" 2) (hE : EvenC K aE) : FnOk P w K mg base CX0 (k + 1) f fd ["leads", "state"] (spKpN P w aE) := by
  obtain ⟨tL, mL⟩ := cL
  refine F.ok scKpN (fun vs H Q E h => ?_) (fun cdv A outer s H vs Q E hr h => ?_)
  · obtain ⟨a, t, kvs, kk, rfl, _⟩ := h
    rfl
  · obtain ⟨a, t, kvs, kk, rfl, ⟨hA, hV⟩, h1000, hT, q1, q2⟩ := h
    have hu65 : (A.deeper (envOfC "keep" (defScope sKpN) s.heap.objs.size f cdv)).units + 65 < cLine := by have := hr.un; omega
    refine ⟨_, pss_cons (ps_asg (pv 1) (pg_tup (by rfl) (pgs_cons (pg_name (i := 2) scKpN.nd rfl (.inl rfl)) (pgs_cons (pg_name (i := 3) scKpN.nd rfl (.inl rfl)) pgs_nil))))
      (pss_cons (ps_set (i := 4) scKpN.nd rfl (.inl rfl) (pe_dsetdL (pv 0) (pv 2) (pe_lst pa_nil) ⟨rfl, rfl, rfl, rfl⟩))
      (pss_cons (ps_if (PW.pt (pw_or (pt_cmpR (op_inD hu65) (pv 3) (pv 4) rfl) (pw_or1 (pt_cmpR op_eq (pe_callB call_len (by rfl) B.len PySem.boot_len (pa_cons (pv 4) pa_nil)) (pe_glob (v := .int 2) rfl mL ⟨_, rfl⟩) (nomark _))))) (pss_one (ps_ret pe_bl)) pss_nil)
      (pss_cons (ps_expr (pe_bm PySem.F.plainAttrs_list PySem.F.slot_list_append PySem.F.type_list_append mt_append (pv 4) (pa_cons (pv 3) pa_nil)))
      (pss_one (ps_ret pe_bl))))), ?_⟩
    refine ⟨_, rfl, t, _, rfl, .inl (.inl hT), rfl, _, _, rfl, _, _, rfl, rfl, ?_⟩
    refine ⟨_, rfl, a, kvs, rfl, hA, _, rfl, (by show 0 ≤ sizeLine; decide), fun D hD => ?_⟩
    have sD := same_new hD (.lst [])
    refine ⟨kvs, kk, D, sD _ _ hA, rfl, rfl, small1000 (by omega), fun D' hf => ?_, fun hf => ?_⟩
    · have hD' := sD _ _ (hV _ (lfind_mem hf))
      refine ⟨_, rfl, _, rfl, .tuple [.str "", .str ""], [.tuple [.str "", .str ""]], hE.dp _, .lst (.inl (.inl hD')) (.cons (hE.dp _) .nil), by decide +kernel, by decide +kernel, _, rfl, ?_⟩
      exact iteT (iteT (q1 D' hf _ sD))
    · have nDa : D ≠ a := (ne_of_none hA hD).symm
      have eD : (upd (upd H D (.lst [])) a (LD P w a (kvs ++ [(kk, D)]))) D = some (.lst []) := by rw [upd_ne nDa, upd_same]
      refine ⟨_, rfl, _, rfl, .tuple [.str "", .str ""], [], hE.dp _, .lst (.inl (.inl eD)) .nil, by decide +kernel, by decide +kernel, _, rfl, iteF ?_⟩
      refine ⟨_, rfl, _, _, rfl, .inl ⟨_, .inl (.inl eD), rfl⟩, rfl, _, rfl, iteF ?_⟩
      refine ⟨_, rfl, .inl ⟨rfl, _, .inl (.inl eD)⟩, _, rfl, D, _, _, rfl, rfl, eD, (by decide), ?_⟩
      refine q2 hf D _ hD (fun b u hb n => ?_) ⟨?_, fun p hp => ?_⟩
      · rw [upd_ne (ne_of_none hb hD), upd_ne n, upd_ne (ne_of_none hb hD)]
        exact hb
      · rw [upd_ne nDa.symm, upd_same]
        rfl
      · rcases List.mem_append.mp hp with hp | hp
        · have e := hV p hp
          rw [upd_ne (ne_of_none e hD), upd_ne (ne_of e hA (by unfold LD; intro z; cases z)), upd_ne (ne_of_none e hD)]
          exact e
        · rw [List.mem_singleton.mp hp]
          show (upd _ D _) D = _
          rw [upd_same]
          rfl
end
end Say
namespace L2
open PySem PySem.Spec PyProof.Rows
section
variable {X : Cx}
/-- o.f as one of several targets -/
def gAttr (K : PySem.W.Frag) (f : Str) (to : TE) : TG := fun v σ H Q => to σ H fun x H1 => ∃ a C dx fs, x = .ref a ∧ H1 a = some (.ins C dx fs) ∧ Cls K C ∧ NoAttr K C f ∧ fs.length < 1000 ∧ Q σ (upd H1 a (.ins C dx (putF f v fs)))
theorem pg_attr {o : Expr} {to : TE} {f : Str} {pos : Pos} (ho : PE X o to) : PG X (.Attribute o f pos) (gAttr X.K f to) := by
  refine ⟨fun pins s σ H v u Q I r h => ?_⟩
  rw [show assign (.Attribute o f pos) X.env u = (do
    let ov ← holding [u] (eval o X.env)
    standAt pos.atName
    holding [u, ov] (setAttr ov f u)
    release [u, ov] []) from assign_Attribute ..]
  refine wpAny_bind (wpAny_holding (thn (ho.run pins s σ H _ I h) fun ov s1 ⟨x, H1, I1, r1, a, C, dx, fs, ex, ea, c, n, l, q⟩ => ?_))
  subst ex
  obtain rfl : ov = Value.ref a := r1
  exact wpAny_bind (wpAny_standAt (wpAny_bind (wpAny_holding (setattr_ok I1 ea c n l r fun s2 I2 => wpAny_release ⟨σ, _, I2, q⟩))))
end
end L2
/-! written by k28/genuns.py from DUnsC -/
namespace Say
open PySem PySem.Spec PyProof.Rows L2
abbrev sUHN (j : Nat) : Stmt := inClass (topS 73) j
structure UHC (K : PySem.W.Frag) (C : Addr) : Prop where
  cl : Cls K C
  nR : NoAttr K C "_rules"
/-- a hunt at y -/
def HuntAt (C : Addr) (H : Hp) (y R : Addr) (rs : List Rule) : Prop := (∃ dx, H y = some (.ins C dx [("_rules", .ref R)])) ∧ RulesAt H R rs
theorem HuntAt.same {C : Addr} {H H' : Hp} {y R : Addr} {rs : List Rule} (h : HuntAt C H y R rs) (e : Same H H') : HuntAt C H' y R rs := by
  obtain ⟨⟨dx, h1⟩, h2⟩ := h
  exact ⟨⟨dx, e _ _ h1⟩, h2.kt (.of e)⟩
def TlSN (s : Option (List Nat)) : Prop := ∀ t, s = some t → 1 ≤ t.length ∧ t.length ≤ 3
def leafTN : Option (List Nat) → Leaf
  | none => .none
  | some t => .text (T t)
theorem leafT_VN (s : Option (List Nat)) : leafV (leafTN s) = optT s := by cases s <;> rfl
theorem leafT_injN {s s' : Option (List Nat)} (h : leafTN s = leafTN s') : s = s' := by
  cases s with
  | none => cases s' with
    | none => rfl
    | some t => cases h
  | some t => cases s' with
    | none => cases h
    | some t' => rw [T_inj (Leaf.text.inj h)]
section
variable {P : Program} {w : World} {K : PySem.W.Frag} {mg : Str → Option Value} {base : Heap}
theorem scHIN : FnScope ["self", "rules"] ["self", "rules"] (defScope (sUHN 0)) := ⟨rfl, rfl, rfl, by decide +kernel, rfl, by decide +kernel, by decide +kernel⟩
def spHIN (C : Addr) : Sp := fun vs H Q _ => ∃ (y dx R : Addr), vs = [.ref y, .ref R] ∧ H y = some (.ins C dx []) ∧ Q .non (upd H y (.ins C dx [("_rules", .ref R)]))
theorem ok_HIN {f C : Addr} {fd : FuncData} {k : Nat} (F : Fun K "__init__" "UnsaidHunt.__init__" (sUHN 0) f fd) (S : UHC K C) : FnOk P w K mg base CX0 (k + 1) f fd ["self", "rules"] (spHIN C) := by
  refine F.ok scHIN (fun vs H Q E h => ?_) (fun cdv A outer s H vs Q E hr h => ?_)
  · obtain ⟨y, dx, R, rfl, _⟩ := h
    rfl
  · obtain ⟨y, dx, R, rfl, hy, q⟩ := h
    refine ⟨_, pss_one (ps_fld (pv 0) (pv 1) rfl), ?_⟩
    exact ⟨_, rfl, _, rfl, y, C, dx, _, rfl, hy, S.cl, S.nR, (by show 0 < 1000; decide), q⟩
theorem scHSN : FnScope ["self"] ["self"] (defScope (sUHN 1)) := ⟨rfl, rfl, rfl, by decide +kernel, rfl, by decide +kernel, by decide +kernel⟩
def spHSN (aE : Addr) : Sp := fun vs H Q _ => ∃ y : Addr, vs = [.ref y] ∧ ∀ u, H u = none → Q (.ref u) (upd H u (.tup [optT (some [35]), .ref aE]))
theorem ok_HSN {f aE : Addr} {fd : FuncData} {k : Nat} (F : Fun K "start" "UnsaidHunt.start" (sUHN 1) f fd) (C : Cn mg) (mE : mg "EVEN" = some (.ref aE)) : FnOk P w K mg base CX0 (k + 1) f fd ["self"] (spHSN aE) := by
  obtain ⟨tE, mG⟩ := C.edge
  refine F.ok scHSN (fun vs H Q E h => ?_) (fun cdv A outer s H vs Q E hr h => ?_)
  · obtain ⟨y, rfl, _⟩ := h
    rfl
  · obtain ⟨y, rfl, q⟩ := h
    refine ⟨_, pss_one (ps_ret (pe_tup (pa_cons (pe_glob (v := .str "#") rfl mG ⟨_, rfl⟩) (pa_cons (pe_glob (v := .ref aE) rfl mE rfl) pa_nil)))), ?_⟩
    refine ⟨(by show 2 ≤ sizeLine; decide), fun u hu => ?_⟩
    exact q u hu
theorem scHAN : FnScope ["self", "state", "letter", "tail", "_"] ["self", "state", "letter"] (defScope (sUHN 2)) := ⟨rfl, rfl, rfl, by decide +kernel, rfl, by decide +kernel, by decide +kernel⟩
def spHAN (C aE : Addr) : Sp := fun vs H Q _ => ∃ (y R t : Addr) (rs : List Rule) (tl : Option (List Nat)) (v : V) (c : Nat), vs = [.ref y, .ref t, .str (T [c])] ∧ HuntAt C H y R rs ∧ (∀ ρ ∈ rs, RlOk ρ) ∧ H t = some (.tup [optT tl, v]) ∧ TlSN tl ∧
  ∀ (u : Addr) (H' : Hp), Same H H' → H u = none → H' u = some (.tup [optT (tkS rs tl c), .ref aE]) → Q (.ref u) H'
theorem ok_HAN {f C aE : Addr} {fd : FuncData} (F : Fun K "after" "UnsaidHunt.after" (sUHN 2) f fd) (S : UHC K C) (mE : mg "EVEN" = some (.ref aE)) (DTk : Df P w K mg base "taken" ["rules", "tail", "letter"] 3 spTk) : FnOk P w K mg base CX0 4 f fd ["self", "state", "letter"] (spHAN C aE) := by
  obtain ⟨fTk, fdTk, GTk, kTk, bTk, mTk⟩ := DTk
  refine F.ok scHAN (fun vs H Q E h => ?_) (fun cdv A outer s H vs Q E hr h => ?_)
  · obtain ⟨y, R, t, rs, tl, v, c, rfl, _⟩ := h
    rfl
  · obtain ⟨y, R, t, rs, tl, v, c, rfl, ⟨⟨dx, hy⟩, hR⟩, ho, ht, hs, q⟩ := h
    refine ⟨_, pss_cons (ps_asg (pe_call GTk hr (by rfl) mTk kTk bTk .nil pass0 (pa_cons (pe_fld (pv 0) rfl) (pa_cons (pe_ix ix_tup (pv 1) pe_int (fun _ _ => rfl)) (pa_cons (pv 2) pa_nil)))) (pg_tup (by rfl) (pgs_cons (pg_name (i := 3) scHAN.nd rfl (.inl rfl)) (pgs_cons (pg_name (i := 4) scHAN.nd rfl (.inl rfl)) pgs_nil))))
      (pss_one (ps_ret (pe_tup (pa_cons (pv 3) (pa_cons (pe_glob (v := .ref aE) rfl mE rfl) pa_nil))))), ?_⟩
    refine ⟨_, rfl, y, C, dx, _, _, rfl, hy, S.cl, S.nR, rfl, ?_⟩
    refine ⟨_, rfl, t, _, 0, optT tl, rfl, rfl, .inl (.inl ht), atI_nat (j := 0) rfl, ?_⟩
    refine ⟨_, rfl, R, rs, tl, c, rfl, hR, ho, hs, fun u D H1 s1 hD h1 h2 => ?_⟩
    refine ⟨u, _, rfl, .inl (.inl h1), rfl, _, _, rfl, _, _, rfl, rfl, ?_⟩
    refine ⟨_, rfl, (by show 2 ≤ sizeLine; decide), fun u' hu' => ?_⟩
    exact q u' _ (s1.trans (same_new hu' _)) (s1.free hu') upd_same
theorem scHFN : FnScope ["self", "state"] ["self", "state"] (defScope (sUHN 3)) := ⟨rfl, rfl, rfl, by decide +kernel, rfl, by decide +kernel, by decide +kernel⟩
def spHFN (C : Addr) : Sp := fun vs H Q _ => ∃ (y R t : Addr) (rs : List Rule) (tl : Option (List Nat)) (v : V), vs = [.ref y, .ref t] ∧ HuntAt C H y R rs ∧ (∀ ρ ∈ rs, RlOk ρ) ∧ H t = some (.tup [optT tl, v]) ∧ TlSN tl ∧
  ∀ (H' : Hp), Same H H' → Q (.bl (fdU rs tl)) H'
theorem ok_HFN {f C : Addr} {fd : FuncData} (F : Fun K "is_found" "UnsaidHunt.is_found" (sUHN 3) f fd) (S : UHC K C) (DEn : Df P w K mg base "ending" ["rules", "tail"] 4 spEnd) : FnOk P w K mg base CX0 5 f fd ["self", "state"] (spHFN C) := by
  obtain ⟨fEn, fdEn, GEn, kEn, bEn, mEn⟩ := DEn
  refine F.ok scHFN (fun vs H Q E h => ?_) (fun cdv A outer s H vs Q E hr h => ?_)
  · obtain ⟨y, R, t, rs, tl, v, rfl, _⟩ := h
    rfl
  · obtain ⟨y, R, t, rs, tl, v, rfl, ⟨⟨dx, hy⟩, hR⟩, ho, ht, hs, q⟩ := h
    refine ⟨_, pss_one (ps_ret (pe_cmpR op_isN (pe_call GEn hr (by rfl) mEn kEn bEn .nil pass0 (pa_cons (pe_fld (pv 0) rfl) (pa_cons (pe_ix ix_tup (pv 1) pe_int (fun _ _ => rfl)) pa_nil))) pe_non (nomark _))), ?_⟩
    refine ⟨_, rfl, y, C, dx, _, _, rfl, hy, S.cl, S.nR, rfl, ?_⟩
    refine ⟨_, rfl, t, _, 0, optT tl, rfl, rfl, .inl (.inl ht), atI_nat (j := 0) rfl, ?_⟩
    refine ⟨R, rs, tl, rfl, hR, ho, (fun t e => ⟨(hs t e).1, by have := (hs t e).2; omega⟩), fun v1 H1 s1 hv => ?_⟩
    refine ⟨rfl, ?_⟩
    have e : decide (v1 = V.non) = fdU rs tl := by
      unfold fdU
      cases ee : endM rs tl with
      | none => rw [ee] at hv; cases hv; rfl
      | some ks =>
        rw [ee] at hv
        obtain ⟨D, rfl, _⟩ := hv
        exact decide_eq_false (fun z => by cases z)
    rw [e]
    exact q H1 s1
end
end Say
/-! written by k28/genuns.py from DLeast -/
namespace Say
open PySem PySem.Spec PyProof.Rows L2
/-- the queue of words and states -/
def QAtN (H : Hp) (Qa aE : Addr) (q : List (List Nat × Option (List Nat))) : Prop := ∃ ts : List Addr, H Qa = some (.lst (ts.map V.ref)) ∧ Paired (fun t (x : List Nat × Option (List Nat)) => ∃ s : Addr, H t = some (.tup [.str (T x.1), .ref s]) ∧ H s = some (.tup [optT x.2, .ref aE])) ts q
/-- the least word that rules don't say -/
def LeastIsN (rs : List Rule) (L : List Nat) (v : V) : Prop := (v = .non ∧ ∀ w : List Nat, (∀ c ∈ w, c ∈ L) → (W rs w).2 = none) ∨
  ∃ w : List Nat, v = .str (T w) ∧ (∀ c ∈ w, c ∈ L) ∧ w.length ≤ (tails L).length ∧ (W rs w).2 ≠ none ∧ ∀ w' : List Nat, (∀ c ∈ w', c ∈ L) → (W rs w').2 ≠ none → sle w w'
abbrev HuTN (rs : List Rule) (L : List Nat) (q : List (List Nat × Option (List Nat))) (i j : Nat) : Prop := Hu (some [35]) (tkS rs) (fdU rs) L q i j
theorem lfind_none {kvs : List (Leaf × Addr)} {k : Leaf} : lfind kvs k = none ↔ ∀ p ∈ kvs, ¬ p.1 = k := by
  unfold lfind
  rw [Option.map_eq_none_iff, List.find?_eq_none]
  exact ⟨fun h p hp e => h p hp (decide_eq_true e), fun h p hp e => h p hp (of_decide_eq_true e)⟩
def KeysN (kvs : List (Leaf × Addr)) (q : List (List Nat × Option (List Nat))) : Prop := kvs.map (·.1) = (q.drop 1).map fun x => leafTN x.2
theorem KeysN.none {kvs : List (Leaf × Addr)} {q : List (List Nat × Option (List Nat))} (h : KeysN kvs q) {s : Option (List Nat)} : lfind kvs (leafTN s) = none ↔ ∀ y ∈ q.drop 1, ¬ y.2 = s := by
  rw [lfind_none]
  constructor
  · intro g y hy e
    have : leafTN y.2 ∈ kvs.map (·.1) := by rw [h]; exact List.mem_map.mpr ⟨y, hy, rfl⟩
    obtain ⟨p, hp, e2⟩ := List.mem_map.mp this
    exact g p hp (by rw [e2, e])
  · intro g p hp e
    have : p.1 ∈ (q.drop 1).map fun x => leafTN x.2 := by rw [← h]; exact List.mem_map.mpr ⟨p, hp, rfl⟩
    obtain ⟨y, hy, e2⟩ := List.mem_map.mp this
    exact g y hy (leafT_injN (e2.trans e))
theorem HuTN.tl {rs : List Rule} (ho : ∀ ρ ∈ rs, RlOk ρ) {L : List Nat} {q : List (List Nat × Option (List Nat))} {i j : Nat} (h : HuTN rs L q i j) {x : List Nat × Option (List Nat)} (hx : x ∈ q) : TlSN x.2 := fun t e => by
  rw [(h.ok x hx).1] at e
  exact rnT_len ho e
theorem QAtN.same {H H' : Hp} {Qa aE : Addr} {z : List (List Nat × Option (List Nat))} (h : QAtN H Qa aE z) (e : Same H H') : QAtN H' Qa aE z := by
  obtain ⟨ts, h1, h2⟩ := h
  exact ⟨ts, e _ _ h1, paired_mono (fun t x g => by obtain ⟨s, a, b⟩ := g; exact ⟨s, e _ _ a, e _ _ b⟩) h2⟩
theorem LeadsAt.same {P : Program} {w : World} {H H' : Hp} {a aE : Addr} {kvs : List (Leaf × Addr)} (h : LeadsAt P w H a aE kvs) (e : Same H H') : LeadsAt P w H' a aE kvs := ⟨e _ _ h.1, fun p hp => e _ _ (h.2 p hp)⟩
section
variable {P : Program} {w : World} {K : PySem.W.Frag} {mg : Str → Option Value} {base : Heap}
abbrev sLtN : Stmt := topS 69
abbrev nLtN : List Str := ["letters", "hunt", "queue", "leads", "at", "word", "state", "letter", "reached"]
theorem scLtN : FnScope nLtN ["letters", "hunt"] (defScope sLtN) := ⟨rfl, rfl, rfl, by decide +kernel, rfl, by decide +kernel, by decide +kernel⟩
def spLtN (C : Addr) : Sp := fun vs H Q _ => ∃ (L : List Nat) (y R : Addr) (rs : List Rule), vs = [.str (T L), .ref y] ∧ HuntAt C H y R rs ∧ (∀ ρ ∈ rs, RlOk ρ) ∧ L.Pairwise (· < ·) ∧ L.length ≤ 4 ∧ (tails L).length ≤ 900 ∧
  ∀ (v : V) (H' : Hp), Same H H' → LeastIsN rs L v → Q v H'
theorem ok_LtN {f C aE fHS fHA fHF : Addr} {fd dHS dHA dHF : FuncData} (F : Fun K "least_word" "least_word" sLtN f fd) (B : Bn mg) (S : UHC K C) (DKp : Df P w K mg base "keep" ["leads", "state"] 1 (spKpN P w aE))
    (GHS : FnOk P w K mg base CX0 1 fHS dHS ["self"] (spHSN aE)) (mHS : Meth K C "start" fHS) (bHS : Binds K dHS ["self"] [])
    (GHA : FnOk P w K mg base CX0 4 fHA dHA ["self", "state", "letter"] (spHAN C aE)) (mHA : Meth K C "after" fHA) (bHA : Binds K dHA ["self", "state", "letter"] [])
    (GHF : FnOk P w K mg base CX0 5 fHF dHF ["self", "state"] (spHFN C)) (mHF : Meth K C "is_found" fHF) (bHF : Binds K dHF ["self", "state"] []) :
    FnOk P w K mg base CX0 7 f fd ["letters", "hunt"] (spLtN C) := by
  obtain ⟨fKp, fdKp, GKp, kKp, bKp, mKp⟩ := DKp
  refine F.ok scLtN (fun vs H Q E h => ?_) (fun cdv A outer s H vs Q E hr h => ?_)
  · obtain ⟨L, y, R, rs, rfl, _⟩ := h
    rfl
  · obtain ⟨L, y, R, rs, rfl, hH, ho, hL, h4, ht9, q⟩ := h
    have hr1 : Room 1 _ := hr.mono (by decide)
    have hr4 : Room 4 _ := hr.mono (by decide)
    have hr5 : Room 5 _ := hr.mono (by decide)
    refine ⟨_, pss_cons (ps_set (i := 2) scLtN.nd rfl (.inl rfl) (pe_lst (pa_cons (pe_tup (pa_cons pe_str (pa_cons (pe_meth0 (pv 1) S.cl mHS GHS hr1 bHS .nil pass0) pa_nil))) pa_nil)))
      (pss_cons (ps_set (i := 3) scLtN.nd rfl (.inl rfl) pe_dnewL)
      (pss_cons (ps_set (i := 4) scLtN.nd rfl (.inl rfl) pe_int)
      (pss_cons (ps_while PassesOwn.never (pt_cmpR op_lt (pv 4) (pe_callB call_len (by rfl) B.len PySem.boot_len (pa_cons (pv 2) pa_nil)) (nomark _)) (pss_cons (ps_asg (pe_ix ix_list (pv 2) (pv 4) (fun _ _ => rfl)) (pg_tup (by rfl) (pgs_cons (pg_name (i := 5) scLtN.nd rfl (.inl rfl)) (pgs_cons (pg_name (i := 6) scLtN.nd rfl (.inl rfl)) pgs_nil))))
        (pss_cons (ps_aug (i := 4) scLtN.nd rfl (.inl rfl) pe_int ip_add)
        (pss_cons (ps_if (pt_val (pe_meth (pv 1) S.cl mHF GHF hr5 bHF .nil pass0 (pa_cons (pv 6) pa_nil))) (pss_one (ps_ret (pv 5))) pss_nil)
        (pss_one (ps_for PassesOwn.never rfl (pi_str (pv 0)) (pg_name (i := 7) scLtN.nd rfl (.inl rfl)) (pss_cons (ps_set (i := 8) scLtN.nd rfl (.inl rfl) (pe_meth (pv 1) S.cl mHA GHA hr4 bHA .nil pass0 (pa_cons (pv 6) (pa_cons (pv 7) pa_nil))))
          (pss_one (ps_if (pt_val (pe_call GKp hr1 (by rfl) mKp kKp bKp .nil pass0 (pa_cons (pv 3) (pa_cons (pv 8) pa_nil)))) (pss_one (ps_expr (pe_bm PySem.F.plainAttrs_list PySem.F.slot_list_append PySem.F.type_list_append mt_append (pv 2) (pa_cons (pe_tup (pa_cons (pe_op op_add_str (pv 5) (pv 7)) (pa_cons (pv 8) pa_nil))) pa_nil)))) pss_nil)))))))))
      (pss_one (ps_ret pe_non))))), ?_⟩
    obtain ⟨⟨dx, hy⟩, hR⟩ := id hH
    refine ⟨_, rfl, y, dx, _, rfl, hy, rfl, y, rfl, fun u0 hu0 => ?_⟩
    refine ⟨(by show 2 ≤ sizeLine; decide), fun t0 ht0 => ⟨(by show 1 ≤ sizeLine; decide), fun Qa hQa' => ?_⟩⟩
    intro A' hA'
    have su := same_new hu0 (.tup [optT (some [35]), .ref aE])
    have st := same_new ht0 (.tup [.str (T []), .ref u0])
    have sq := same_new hQa' (.lst [V.ref t0])
    have sA := same_new hA' (LD P w A' [])
    have hQ0 : H Qa = none := (su.trans st).free hQa'
    have hA0 : H A' = none := ((su.trans st).trans sq).free hA'
    have sH := ((su.trans st).trans sq).trans sA
    have eQ := sA _ _ (upd_same (H := upd (upd H u0 (.tup [optT (some [35]), .ref aE])) t0 (.tup [.str (T []), .ref u0])) (a := Qa) (o := HO.lst [V.ref t0]))
    have eT := (sq.trans sA) _ _ (upd_same (H := upd H u0 (.tup [optT (some [35]), .ref aE])) (a := t0) (o := HO.tup [.str (T []), .ref u0]))
    have eU := ((st.trans sq).trans sA) _ _ (upd_same (H := H) (a := u0) (o := HO.tup [optT (some [35]), .ref aE]))
    have eA : (upd (upd (upd (upd H u0 (.tup [optT (some [35]), .ref aE])) t0 (.tup [.str (T []), .ref u0])) Qa (.lst [V.ref t0])) A' (LD P w A' [])) A' = some (LD P w A' []) := upd_same
    refine ⟨fun m σ H2 => ∃ (i : Nat) (z : List (List Nat × Option (List Nat))) (kvs : List (Leaf × Addr)) (v5 v6 v7 v8 : Option L2.V), σ = [some (.str (T L)), some (.ref y), some (.ref Qa), some (.ref A'), some (.int i), v5, v6, v7, v8] ∧ HuTN rs L z i 0 ∧ (tails L).length + 2 ≤ i + m ∧ Same H H2 ∧ QAtN H2 Qa aE z ∧ LeadsAt P w H2 A' aE kvs ∧ KeysN kvs z ∧ ∀ p ∈ kvs, p.2 ≠ Qa, ⟨(tails L).length + 2, 0, [([], some [35])], [], _, _, _, _, rfl, Hu.first, by omega, sH, ⟨[t0], eQ, .cons ⟨u0, eT, eU⟩ .nil⟩, ⟨eA, fun p hp => nomatch hp⟩, rfl, fun p hp => nomatch hp⟩, fun m σ H2 hW => ?_⟩
    obtain ⟨i, z, kvs, v5, v6, v7, v8, rfl, hu, hm, s2, hQ, hLd, hK, hn⟩ := hW
    have hsz := hu.size (u := tails L) fun w' hw' => rnT_mem ho hw'
    obtain ⟨ts, hq, hp⟩ := id hQ
    have lts := paired_len hp
    refine ⟨_, rfl, _, rfl, _, _, rfl, .inl ⟨_, .inl (.inl hq), rfl⟩, _, _, rfl, rfl, _, rfl, ite2 (fun c => ?_) (fun c => ?_)⟩
    · have c' : (i : Int) < (((ts.map V.ref).length : Nat) : Int) := of_decide_eq_true c
      rw [List.length_map, lts] at c'
      have hi : i < z.length := by omega
      have hx := List.getElem?_eq_getElem hi
      generalize z[i] = x at hx
      obtain ⟨t, ht, s, hat, hs⟩ := paired_at' hp hx
      have hxm := List.mem_of_getElem? hx
      have hxl := hu.len i i (Nat.le_refl _) x hx
      obtain ⟨m', rfl⟩ : ∃ m', m = m' + 1 := ⟨m - 1, by omega⟩
      refine ⟨fun σ' H' => ∃ (i : Nat) (z : List (List Nat × Option (List Nat))) (kvs : List (Leaf × Addr)) (v5 v6 v7 v8 : Option L2.V), σ' = [some (.str (T L)), some (.ref y), some (.ref Qa), some (.ref A'), some (.int i), v5, v6, v7, v8] ∧ HuTN rs L z i 0 ∧ (tails L).length + 2 ≤ i + m' ∧ Same H H' ∧ QAtN H' Qa aE z ∧ LeadsAt P w H' A' aE kvs ∧ KeysN kvs z ∧ ∀ p ∈ kvs, p.2 ≠ Qa, fun σ' H' h => ⟨m', Nat.lt_succ_self _, h⟩, ?_⟩
      refine ⟨_, rfl, _, rfl, Qa, _, (i : Int), .ref t, rfl, rfl, .inl (.inl hq), atI_nat (by rw [List.getElem?_map, ht]; rfl), ?_⟩
      refine ⟨t, _, rfl, .inl (.inl hat), rfl, _, _, rfl, _, _, rfl, rfl, ?_⟩
      refine ⟨_, rfl, _, _, rfl, rfl, ?_⟩
      refine ⟨_, rfl, y, dx, _, rfl, s2 _ _ hy, rfl, _, rfl, y, R, s, rs, x.2, .ref aE, rfl, hH.same s2, ho, hs, hu.tl ho hxm, fun H3 s3 => ⟨_, rfl, ite2 (fun cf => ?_) (fun cf => ?_)⟩⟩
      · refine ⟨_, rfl, q _ H3 (s2.trans s3) (.inr ⟨x.1, rfl, (hu.ok x hxm).2, by omega, ?_, fun w' hw' hn' => ?_⟩)⟩
        · have := (hu.ok x hxm).1
          rw [this] at cf
          exact (fdU_iff ho x.1).mp cf
        · exact hu.least hx hw' ((fdU_iff ho w').mpr hn')
      · have cf' : fdU rs x.2 = false := Bool.eq_false_iff.mpr cf
        refine ⟨_, rfl, T L, rfl, for_it (walk_str) (fun j σ H4 => ∃ (z : List (List Nat × Option (List Nat))) (kvs : List (Leaf × Addr)) (v7 v8 : Option L2.V), σ = [some (.str (T L)), some (.ref y), some (.ref Qa), some (.ref A'), some (.int ((i : Int) + 1)), some (.str (T x.1)), some (.ref s), v7, v8] ∧ HuTN rs L z i j ∧ z[i]? = some x ∧ Same H H4 ∧ QAtN H4 Qa aE z ∧ LeadsAt P w H4 A' aE kvs ∧ KeysN kvs z ∧ (∀ p ∈ kvs, p.2 ≠ Qa) ∧ H4 s = some (.tup [optT x.2, .ref aE]))
          ⟨z, kvs, _, _, rfl, hu, hx, s2.trans s3, hQ.same s3, hLd.same s3, hK, hn, s3 _ _ hs⟩ (fun _ _ _ _ _ => trivial) ?_ ?_⟩
        · clear hQ hLd hK hn hp hq lts hsz ht hat hs s2 s3 hi hxl hm hxm
          rintro j z0 σ H0 H4 hj ⟨z, kvs, v7, v8, rfl, hu, hx, s4, hQ, hLd, hK, hn, hs⟩ ⟨rfl, c, hc, rfl⟩
          have hc := T_at hc
          have hxm := List.mem_of_getElem? hx
          have hsz := hu.size (u := tails L) fun w' hw' => rnT_mem ho hw'
          have hxl := hu.len i i (Nat.le_refl _) x hx
          have hil := (List.getElem?_eq_some_iff.mp hx).1
          have lK : kvs.length = (z.drop 1).length := by
            have := congrArg List.length hK
            rwa [List.length_map, List.length_map] at this
          rw [List.length_drop] at lK
          refine ⟨_, rfl, y, dx, _, rfl, s4 _ _ hy, rfl, _, rfl, _, rfl, y, R, s, rs, x.2, .ref aE, c, rfl, hH.same s4, ho, hs, hu.tl ho hxm, fun u H5 s5 hu5 h5 => ?_⟩
          have hQ5 := hQ.same s5
          have hL5 := hLd.same s5
          refine ⟨_, rfl, _, rfl, A', u, kvs, leafTN (tkS rs x.2 c), rfl, hL5, by omega, by rw [leafT_VN]; exact h5, fun D hf H6 s6 => ?_, fun hf D H6 hD st6 hL6 => ?_⟩
          · refine ⟨false, rfl, iteF ?_⟩
            have ex : ∃ y ∈ z.drop 1, y.2 = tkS rs x.2 c := by
              refine Classical.byContradiction fun n => ?_
              have := hK.none.mpr fun y hy e => n ⟨y, hy, e⟩
              rw [hf] at this
              cases this
            have s46 := s5.trans s6
            exact ⟨z, kvs, _, _, rfl, hu.skip hL hx hc ex, hx, s4.trans s46, hQ.same s46, hLd.same s46, hK, hn, s46 _ _ hs⟩
          · refine ⟨true, rfl, iteT ?_⟩
            have new := hK.none.mp hf
            obtain ⟨ts5, hq5, hp5⟩ := hQ5
            have lz := paired_len hp5
            have nQA : Qa ≠ A' := ne_of hq5 hL5.1 (by unfold LD; intro e; cases e)
            have nDQ : D ≠ Qa := (ne_of_none hq5 hD).symm
            have hq6 := st6 _ _ hq5 nQA
            have keep6 : ∀ b xs, H5 b = some (.tup xs) → H6 b = some (.tup xs) := fun b xs hb => st6 _ _ hb (ne_of hb hL5.1 (by unfold LD; intro e; cases e))
            refine ⟨_, rfl, .inl ⟨rfl, _, .inl (.inl hq6)⟩, _, rfl, _, rfl, _, _, rfl, rfl, (by rw [T_len]; exact small (by show x.1.length + 1 ≤ 16000000; omega)), _, rfl, (by show 2 ≤ sizeLine; decide), fun t ht => ?_⟩
            rw [show T x.1 ++ (⟨#[c]⟩ : Str) = T (x.1 ++ [c]) from T_app _ _]
            have sT := same_new ht (.tup [.str (T (x.1 ++ [c])), .ref u])
            have hq7 := sT _ _ hq6
            refine ⟨Qa, _, _, rfl, rfl, hq7, ?_, z ++ [(x.1 ++ [c], tkS rs x.2 c)], kvs ++ [(leafTN (tkS rs x.2 c), D)], _, _, rfl, hu.push hL hx hc new, ?_, fun b o hb => ?_, ⟨ts5 ++ [t], ?_, ?_⟩, ⟨?_, fun p hp => ?_⟩, ?_, fun p hp => ?_, ?_⟩
            · rw [List.length_map, lz]
              exact small1000 (by omega)
            · rw [List.getElem?_append_left hil]
              exact hx
            · rw [upd_ne (ne_of_none hb hQ0)]
              exact sT _ _ (st6 _ _ (s5 _ _ (s4 _ _ hb)) (ne_of_none hb hA0))
            · rw [upd_same, List.map_append]
              rfl
            · refine paired_app (paired_mono (fun t' y' g => ?_) hp5) (.cons ⟨u, ?_, ?_⟩ .nil)
              · obtain ⟨s', g1, g2⟩ := g
                have g1 := sT _ _ (keep6 _ _ g1)
                have g2 := sT _ _ (keep6 _ _ g2)
                exact ⟨s', by rw [upd_ne (ne_of g1 hq7 (by intro e; cases e))]; exact g1, by rw [upd_ne (ne_of g2 hq7 (by intro e; cases e))]; exact g2⟩
              · rw [upd_ne (ne_of_none hq6 ht).symm]
                exact upd_same
              · have g := sT _ _ (keep6 _ _ h5)
                rw [upd_ne (ne_of g hq7 (by intro e; cases e))]
                exact g
            · rw [upd_ne nQA.symm]
              exact sT _ _ hL6.1
            · have g := sT _ _ (hL6.2 p hp)
              have n : p.2 ≠ Qa := by
                rcases List.mem_append.mp hp with hp | hp
                · exact hn p hp
                · rw [List.mem_singleton.mp hp]
                  exact nDQ
              rw [upd_ne n]
              exact g
            · unfold KeysN at hK ⊢
              rw [List.map_append, hK, List.drop_append_of_le_length (by omega), List.map_append]
              rfl
            · rcases List.mem_append.mp hp with hp | hp
              · exact hn p hp
              · rw [List.mem_singleton.mp hp]
                exact nDQ
            · have g := sT _ _ (keep6 _ _ (s5 _ _ hs))
              rw [upd_ne (ne_of g hq7 (by intro e; cases e))]
              exact g
        · rintro σ H4 ⟨z, kvs, v7, v8, rfl, hu, hx, s4, hQ, hLd, hK, hn, hs⟩
          rw [T_size] at hu
          exact ⟨i + 1, z, kvs, _, _, _, _, rfl, hu.turn hx cf', by omega, s4, hQ, hLd, hK, hn⟩
    · have c' := of_decide_eq_false (Bool.eq_false_iff.mpr c)
      rw [List.length_map, lts] at c'
      refine q _ H2 s2 (.inl ⟨rfl, fun w' hw' => ?_⟩)
      have := hu.none (by omega) hw'
      refine Classical.byContradiction fun n => ?_
      rw [(fdU_iff ho w').mpr n] at this
      cases this
end
end Say
namespace Say
open PySem PySem.Spec PyProof.Rows L2
theorem tails_le {L : List Nat} (h4 : L.length ≤ 4) : (tails L).length ≤ 449 := by
  have lvl : ∀ n, (lv L n).length ≤ 4 ^ n := fun n => by
    induction n with
    | zero => exact Nat.le_refl _
    | succ n ih =>
      have := flat_le (f := fun w => L.map fun c => w ++ [c]) (k := 4) (l := lv L n) fun a _ => by rw [List.length_map]; exact h4
      show ((lv L n).flatMap fun w => L.map fun c => w ++ [c]).length ≤ 4 ^ n * 4
      exact Nat.le_trans this (Nat.mul_le_mul_right 4 ih)
  have up : ∀ n, n ≤ 3 → (upto L n).length ≤ (n + 1) * 64 := fun n hn => by
    have := flat_le (f := lv L) (k := 64) (l := List.range (n + 1)) fun j hj => by
      have := List.mem_range.mp hj
      have h2 : 4 ^ j ≤ 4 ^ 3 := Nat.pow_le_pow_right (by decide) (by omega)
      exact Nat.le_trans (lvl j) (Nat.le_trans h2 (by decide))
    rw [List.length_range] at this
    exact this
  have u2 := up 2 (by decide)
  have u3 := up 3 (by decide)
  unfold tails
  rw [List.length_cons, List.length_map, List.length_append, List.length_map]
  omega
end Say
/-! written by k28/genuns.py from DUnsaid -/
namespace Say
open PySem PySem.Spec PyProof.Rows L2
section
variable {P : Program} {w : World} {K : PySem.W.Frag} {mg : Str → Option Value} {base : Heap}
abbrev sUn : Stmt := topS 78
theorem scUn : FnScope ["book", "letters", "rules", "_"] ["book"] (defScope sUn) := ⟨rfl, rfl, rfl, by decide +kernel, rfl, by decide +kernel, by decide +kernel⟩
def spUn : Sp := fun vs H Q _ => ∃ (b : Addr) (L : List Nat) (rs : List Rule) (es : List Exc), vs = [.ref b] ∧ BookAt H b L rs es ∧ BookOk L rs es ∧ ∀ (v : V) (H' : Hp), Same H H' → LeastIsN rs L v → Q v H'
theorem ok_Un {f C fHI : Addr} {fd dHI : FuncData} (F : Fun K "unsaid" "unsaid" sUn f fd) (DCh : Df P w K mg base "checked_book" ["book"] 5 spCh) (DLt : Df P w K mg base "least_word" ["letters", "hunt"] 7 (spLtN C))
    (mgC : mg "UnsaidHunt" = some (.ref C)) (Mk_ : Mk K C fHI) (GHI : FnOk P w K mg base CX0 1 fHI dHI ["self", "rules"] (spHIN C)) (bHI : Binds K dHI ["self", "rules"] []) : FnOk P w K mg base CX0 8 f fd ["book"] spUn := by
  obtain ⟨fCh, fdCh, GCh, kCh, bCh, mCh⟩ := DCh
  obtain ⟨fLt, fdLt, GLt, kLt, bLt, mLt⟩ := DLt
  refine F.ok scUn (fun vs H Q E h => ?_) (fun cdv A outer s H vs Q E hr h => ?_)
  · obtain ⟨b, L, rs, es, rfl, _⟩ := h
    rfl
  · obtain ⟨b, L, rs, es, rfl, hB, ho, q⟩ := h
    have hr2 : Room 2 _ := hr.mono (by decide)
    refine ⟨_, pss_cons (ps_asg (pe_call GCh (hr.mono (by decide)) (by rfl) mCh kCh bCh .nil pass0 (pa_cons (pv 0) pa_nil)) (pg_tup (by rfl) (pgs_cons (pg_name (i := 1) scUn.nd rfl (.inl rfl)) (pgs_cons (pg_name (i := 2) scUn.nd rfl (.inl rfl)) (pgs_cons (pg_name (i := 3) scUn.nd rfl (.inl rfl)) pgs_nil)))))
      (pss_one (ps_ret (pe_call GLt hr (by rfl) mLt kLt bLt .nil pass0 (pa_cons (pv 1) (pa_cons (pe_make Mk_ GHI hr2 (by rfl) mgC bHI .nil pass0 (pa_cons (pv 2) pa_nil)) pa_nil))))), ?_⟩
    refine ⟨_, rfl, b, L, rs, es, rfl, hB, ho, fun H1 s1 => ?_⟩
    obtain ⟨R, X, hb, hR, hX⟩ := hB.kt (.of s1)
    refine ⟨b, _, rfl, .inl (.inl hb), rfl, _, _, rfl, _, _, rfl, _, _, rfl, rfl, ?_⟩
    refine ⟨_, rfl, _, rfl, fun y dx hy hdx nyd => ?_⟩
    have s2 := same_new hdx (.own y)
    have hy2 : (upd H1 dx (.own y)) y = none := by rw [upd_ne nyd.symm]; exact hy
    have s3 := same_new hy2 (.ins C dx [])
    refine ⟨y, dx, R, rfl, upd_same, rfl, ?_⟩
    have s4 : Same H1 (upd (upd (upd H1 dx (.own y)) y (.ins C dx [])) y (.ins C dx [("_rules", .ref R)])) := fun b' o hb' => by
      have n := ne_of_none hb' hy
      rw [upd_ne n]
      exact s3 _ _ (s2 _ _ hb')
    exact ⟨L, y, R, rs, rfl, ⟨⟨dx, upd_same⟩, hR.kt (.of s4)⟩, ho.rls, (rises_iff L).mp ho.lt.up, ho.lt.l4, Nat.le_trans (tails_le ho.lt.l4) (by decide), fun v H5 s5 hv => q v H5 (s1.trans (s4.trans s5)) hv⟩
end
end Say
/-! dicts whose keys are tuples of None, whole numbers and texts, and whose values are objects -/
namespace Say
open PySem PySem.Spec PyProof.Rows L2
abbrev LK (P : Program) (w : World) := tupleKind (leafKind P w)
/-- key, the tuple that stands for it, the value's address -/
abbrev LT3 := List Leaf × Addr × Addr
def lkt (xs : List LT3) : List (List Leaf × Addr × Value) := xs.map fun p => (p.1, p.2.1, .ref p.2.2)
def LT (P : Program) (w : World) (a : Addr) (xs : List LT3) : HO := .ext fun h => (a == sysModules) = false ∧ ∃ (o : Obj) (es : Array DictEntry) (ep : Nat), h.get? a = some o ∧ o.ExactDict ∧ o.data = .dict es ep ∧ es.toList = (lkt xs).map (entryOfKey (LK P w)) ∧ ((lkt xs).map (·.1)).Nodup
/-- a value that is the key: True and False are 1 and 0 -/
inductive LeafR : Leaf → V → Prop
  | val (k : Leaf) : LeafR k (leafV k)
  | bl (u : Bool) : LeafR (.num (if u = true then 1 else 0)) (.bl u)
theorem LeafR.is {k : Leaf} {v : V} (h : LeafR k v) {u : Value} (r : RelV v u) : Leaf.isOf k u = true := by
  cases h with
  | val k => exact leafV_is r
  | bl b =>
    obtain rfl : u = .bool b := r
    cases b <;> rfl
def KeyAt (H : Hp) (b : Addr) (k : List Leaf) : Prop := ∃ vs, H b = some (.tup vs) ∧ Paired LeafR k vs
def KeyT (H : Hp) (xs : List LT3) : Prop := ∀ p ∈ xs, KeyAt H p.2.1 p.1
def tfind (xs : List LT3) (k : List Leaf) : Option (Addr × Addr) := (xs.find? fun p => decide (p.1 = k)).map (·.2)
theorem atKey_lkt : ∀ (xs : List LT3) (k : List Leaf), atKey (lkt xs) k = (tfind xs k).map fun p => (p.1, Value.ref p.2)
  | [], k => rfl
  | p :: r, k => by
    have ih := atKey_lkt r k
    unfold lkt tfind atKey at *
    rw [List.map_cons, List.find?_cons, List.find?_cons]
    by_cases e : p.1 = k
    · simp [e]
    · simp only [e, decide_false]
      exact ih
theorem items_leaf {P : Program} {w : World} : ∀ {ks : List Leaf} {xs : List V} {vs : List Value}, Paired LeafR ks xs → Vals xs vs → ItemsAre (leafKind P w) ks vs
  | _, _, _, .nil, r => by cases r; exact .nil
  | _, _, _, .cons g t, r => by
    cases r with
    | cons h t' => exact .cons (g.is h) (items_leaf t t')
section
variable {X : Cx} {pins : List (Addr × Obj)} {σ : L2.St} {H : Hp} {s : Shared} {a : Addr}
theorem key_leaf {P : Program} {w : World} {h : Heap} (ok : HOk P w H h) {b : Addr} {k : List Leaf} (e : KeyAt H b k) : IsTupleKey (leafKind P w) h k b := by
  obtain ⟨xs, e, g⟩ := e
  obtain ⟨_, its, r, o, ho, hc, n, hd⟩ := ok _ _ e
  exact ⟨o, its.toArray, n, ho, hc, hd, by simpa using items_leaf g r⟩
theorem lt_of {P : Program} {w : World} {h : Heap} {xs : List LT3} (ok : HOk P w H h) (e : H a = some (LT P w a xs)) (hk : KeyT H xs) : (a == sysModules) = false ∧ h.DictOfH (LK P w) a (lkt xs) := by
  obtain ⟨⟨hm, o, es, ep, ho, h2, h3, h4, h5⟩, _, _⟩ := ok _ _ e
  refine ⟨hm, o, es, ep, ho, h2, h3, h4, fun x hx => ?_, h5⟩
  obtain ⟨p, hp, rfl⟩ := List.mem_map.mp hx
  exact key_leaf ok (hk p hp)
theorem lt_at {P : Program} {w : World} {h : Heap} (xs : List LT3) (hm : (a == sysModules) = false) (dd : h.DictOfH (LK P w) a (lkt xs)) : ObjOk P w H h a (LT P w a xs) := by
  obtain ⟨o, es, ep, ho, h2, h3, h4, _, h5⟩ := dd
  exact ⟨⟨hm, o, es, ep, ho, h2, h3, h4, h5⟩, ⟨o, ho⟩, fun h1 h2' ⟨x, o1, es1, ep1, y, r⟩ k => ⟨x, o1, es1, ep1, k _ y, r⟩⟩
def tDNewT' (P : Program) (w : World) : TE := fun _ H Q => ∀ p : Addr, H p = none → Q (.ref p) (upd H p (LT P w p []))
theorem pe_dnewT' {pos : Pos} : PE X (.Dict [] [] pos) (tDNewT' X.prog X.w) := ⟨fun pins s σ H Q I h =>
  wpAny_Dict_empty ⟨.ref s.heap.objs.size, _, I.laid (a := s.heap.objs.size) (o := LT X.prog X.w s.heap.objs.size []) (t' := s.toks) (fun _ _ q => Heap.get?_push_of_some _ q) (Nat.le_refl _)
    (lt_at [] (beq_eq_false_iff_ne.mpr (Nat.ne_of_gt I.big)) (Heap.DictOfH.new s.heap)), rfl, h _ (I.hok.fresh (Nat.le_refl _))⟩⟩
/-- d.setdefault(k, [..]) -/
def tDSetdT (P : Program) (w : World) (td ty tx : TE) : TE := fun σ H Q => td σ H fun x H1 => ∃ (a : Addr) (xs1 : List LT3), x = .ref a ∧ H1 a = some (LT P w a xs1) ∧ KeyT H1 xs1 ∧ ty σ H1 fun y H2 => tx σ H2 fun z H3 => ∃ (xs : List LT3) (k : List Leaf) (b D : Addr), H3 a = some (LT P w a xs) ∧ KeyT H3 xs ∧
  y = .ref b ∧ KeyAt H3 b k ∧ z = .ref D ∧ xs.length < sizeLine ∧ (∀ p, tfind xs k = some p → Q (.ref p.2) H3) ∧ (tfind xs k = none → Q (.ref D) (upd H3 a (LT P w a (xs ++ [(k, b, D)]))))
variable {o e f : Expr} {td ty tx : TE} {apos cpos : Pos}
theorem pe_dsetdT (hu : X.A.units + 1 < cLine) (ho : PE X o td) (he : PE X e ty) (hf : PE X f tx) (m : M2 X o "setdefault" apos e f cpos) : PE X (.Call (.Attribute o "setdefault" apos) [e, f] [] cpos) (tDSetdT X.prog X.w td ty tx) := by
  refine ⟨fun pins s σ H Q I h => ?_⟩
  refine wpAny_Call_method m.base m.few m.line PySem.F.plainAttrs_dict PySem.F.slot_dict_setdefault PySem.F.type_dict_setdefault (thn (ho.run pins s σ H _ I h) fun u s1 ⟨x, H1, I1, rx, a, xs1, ex, d, dk, q1⟩ => ?_)
  subst ex
  obtain rfl : u = Value.ref a := rx
  obtain ⟨hd1, dd1⟩ := lt_of I1.hok d dk
  refine ⟨dd1.typeIs, fun b q => by cases q; obtain ⟨ob, _, _, h1, h2, _⟩ := dd1; exact ⟨ob, h1, h2.2.1⟩, ?_⟩
  rw [m.trees]
  refine Calls.callWith_builtin rfl (Calls.evalArgs_plain (Calls.spliced_cons (thn (he.run pins s1 σ H1 _ I1 q1) fun iv s2 ⟨y, H2, I2, ry, q2⟩ =>
    Calls.spliced_cons (thn (hf.run pins s2 σ H2 _ I2 q2) fun fv s3 ⟨z, H3, I3, rz, xs, k, b, D, ea, ek, ey, eb, ez, hl, q3, q4⟩ => Calls.spliced_nil ?_))))
  subst ey ez
  obtain rfl : fv = Value.ref D := rz
  obtain rfl : iv = Value.ref b := ry
  obtain ⟨hd, dd⟩ := lt_of I3.hok ea ek
  have hz : (lkt xs).length ≤ sizeLine := by unfold lkt; rw [List.length_map]; omega
  refine call_setdefault_heap (hsz := hz) (tupleKind_room_in1 hu) (key_leaf I3.hok eb) hd dd (fun p hp => ?_) fun hn h' dd' hs => ?_
  · rw [atKey_lkt] at hp
    obtain ⟨p', e1, e2⟩ := Option.map_eq_some_iff.mp hp
    subst e2
    exact ⟨.ref p'.2, H3, I3.tok _, rfl, q3 p' e1⟩
  · have hn' := hn
    rw [atKey_lkt, Option.map_eq_none_iff] at hn'
    rw [storedH_new hn] at dd'
    have e1 : lkt xs ++ [(k, b, Value.ref D)] = lkt (xs ++ [(k, b, D)]) := by unfold lkt; rw [List.map_append]; rfl
    rw [e1] at dd'
    have he : ∃ q, h'.get? a = some q := let ⟨q, _, _, hq, _⟩ := dd'; ⟨q, hq⟩
    exact ⟨.ref D, _, d_write I3 (by rw [ea]; exact True.intro) hs he (lt_at (xs ++ [(k, b, D)]) hd dd'), rfl, q4 hn'⟩
end
end Say
namespace Say
open PySem PySem.Spec PyProof.Rows L2
def LeadsT (P : Program) (w : World) (H : Hp) (a aE : Addr) (kvs : List LT3) : Prop := H a = some (LT P w a kvs) ∧ KeyT H kvs ∧ ∀ p ∈ kvs, H p.2.2 = some (.lst [.ref aE])
section
variable {P : Program} {w : World} {K : PySem.W.Frag} {mg : Str → Option Value} {base : Heap}
abbrev sKp : Stmt := topS 70
theorem scKp : FnScope ["leads", "state", "where", "lead", "there"] ["leads", "state"] (defScope sKp) := ⟨rfl, rfl, rfl, by decide +kernel, rfl, by decide +kernel, by decide +kernel⟩
def spKp (P : Program) (w : World) (aE : Addr) : Sp := fun vs H Q _ => ∃ (a t b : Addr) (kvs : List LT3) (k : List Leaf), vs = [.ref a, .ref t] ∧ LeadsT P w H a aE kvs ∧ kvs.length ≤ 1000 ∧ H t = some (.tup [.ref b, .ref aE]) ∧ KeyAt H b k ∧
  ((∃ p, tfind kvs k = some p) → ∀ H', Same H H' → Q (.bl false) H') ∧ (tfind kvs k = none → ∀ (D : Addr) (H' : Hp), H D = none → Stp a H H' → LeadsT P w H' a aE (kvs ++ [(k, b, D)]) → Q (.bl true) H')
theorem tfind_mem {kvs : List LT3} {k : List Leaf} {p : Addr × Addr} (h : tfind kvs k = some p) : (k, p.1, p.2) ∈ kvs := by
  unfold tfind at h
  obtain ⟨q, h1, h2⟩ := Option.map_eq_some_iff.mp h
  have e0 := List.find?_some h1
  have e : q.1 = k := of_decide_eq_true e0
  have m := List.mem_of_find?_eq_some h1
  rw [← e, ← h2]
  exact m
theorem KeyAt.kt {H H' : Hp} {b : Addr} {k : List Leaf} (h : KeyAt H b k) (e : KT H H') : KeyAt H' b k := by
  obtain ⟨vs, h1, h2⟩ := h
  exact ⟨vs, e.1 _ _ h1, h2⟩
theorem KeyT.kt {H H' : Hp} {xs : List LT3} (h : KeyT H xs) (e : KT H H') : KeyT H' xs := fun p hp => (h p hp).kt e
theorem kt_ext {H : Hp} {a : Addr} {P : Program} {w : World} {xs ys : List LT3} (h : H a = some (LT P w a xs)) : KT H (upd H a (LT P w a ys)) := KT.by fun t u q hu => by
  rw [upd_ne (ne_of q h (by rcases hu with ⟨_, rfl⟩ | ⟨_, _, rfl⟩ <;> (unfold LT; intro z; cases z)))]
  exact q
theorem ok_Kp {f aE : Addr} {fd : FuncData} {k : Nat} (F : Fun K "keep" "keep" sKp f fd) (B : Bn mg) (cL : KI mg "LEADS" 2) (hE : EvenC K aE) : FnOk P w K mg base CX0 (k + 1) f fd ["leads", "state"] (spKp P w aE) := by
  obtain ⟨tL, mL⟩ := cL
  refine F.ok scKp (fun vs H Q E h => ?_) (fun cdv A outer s H vs Q E hr h => ?_)
  · obtain ⟨a, t, b, kvs, kk, rfl, _⟩ := h
    rfl
  · obtain ⟨a, t, b, kvs, kk, rfl, ⟨hA, hK, hV⟩, h1000, hT, hb0, q1, q2⟩ := h
    have hu := hu_of hr
    have hu65 : (A.deeper (envOfC "keep" (defScope sKp) s.heap.objs.size f cdv)).units + 65 < cLine := by have := hr.un; omega
    refine ⟨_, pss_cons (ps_asg (pv 1) (pg_tup (by rfl) (pgs_cons (pg_name (i := 2) scKp.nd rfl (.inl rfl)) (pgs_cons (pg_name (i := 3) scKp.nd rfl (.inl rfl)) pgs_nil))))
      (pss_cons (ps_set (i := 4) scKp.nd rfl (.inl rfl) (pe_dsetdT hu (pv 0) (pv 2) (pe_lst pa_nil) ⟨rfl, rfl, rfl, rfl⟩))
      (pss_cons (ps_if (PW.pt (pw_or (pt_cmpR (op_inD hu65) (pv 3) (pv 4) rfl) (pw_or1 (pt_cmpR op_eq (pe_callB call_len (by rfl) B.len PySem.boot_len (pa_cons (pv 4) pa_nil)) (pe_glob (v := .int 2) rfl mL ⟨_, rfl⟩) (nomark _))))) (pss_one (ps_ret pe_bl)) pss_nil)
      (pss_cons (ps_expr (pe_bm PySem.F.plainAttrs_list PySem.F.slot_list_append PySem.F.type_list_append mt_append (pv 4) (pa_cons (pv 3) pa_nil)))
      (pss_one (ps_ret pe_bl))))), ?_⟩
    refine ⟨_, rfl, t, _, rfl, .inl (.inl hT), rfl, _, _, rfl, _, _, rfl, rfl, ?_⟩
    refine ⟨_, rfl, a, kvs, rfl, hA, hK, _, rfl, (by show 0 ≤ sizeLine; decide), fun D hD => ?_⟩
    have sD := same_new hD (.lst [])
    refine ⟨kvs, kk, b, D, sD _ _ hA, hK.kt (.of sD), rfl, hb0.kt (.of sD), rfl, small1000 (by omega), fun p hf => ?_, fun hf => ?_⟩
    · have hD' := sD _ _ (hV _ (tfind_mem hf))
      refine ⟨_, rfl, _, rfl, .tuple [.str "", .str ""], [.tuple [.str "", .str ""]], hE.dp _, .lst (.inl (.inl hD')) (.cons (hE.dp _) .nil), by decide +kernel, by decide +kernel, _, rfl, ?_⟩
      exact iteT (iteT (q1 ⟨p, hf⟩ _ sD))
    · have nDa : D ≠ a := (ne_of_none hA hD).symm
      have eD : (upd (upd H D (.lst [])) a (LT P w a (kvs ++ [(kk, b, D)]))) D = some (.lst []) := by rw [upd_ne nDa, upd_same]
      refine ⟨_, rfl, _, rfl, .tuple [.str "", .str ""], [], hE.dp _, .lst (.inl (.inl eD)) .nil, by decide +kernel, by decide +kernel, _, rfl, iteF ?_⟩
      refine ⟨_, rfl, _, _, rfl, .inl ⟨_, .inl (.inl eD), rfl⟩, rfl, _, rfl, iteF ?_⟩
      refine ⟨_, rfl, .inl ⟨rfl, _, .inl (.inl eD)⟩, _, rfl, D, _, _, rfl, rfl, eD, (by decide), ?_⟩
      have k1 : KT H (upd (upd H D (.lst [])) a (LT P w a (kvs ++ [(kk, b, D)]))) := (KT.of sD).trans (kt_ext (sD _ _ hA))
      have k2 := k1.trans (kt_upd eD (o := .lst [.ref aE]))
      refine q2 hf D _ hD (fun b u hb n => ?_) ⟨?_, fun p hp => ?_, fun p hp => ?_⟩
      · rw [upd_ne (ne_of_none hb hD), upd_ne n, upd_ne (ne_of_none hb hD)]
        exact hb
      · rw [upd_ne nDa.symm, upd_same]
        rfl
      · rcases List.mem_append.mp hp with hp | hp
        · exact (hK p hp).kt k2
        · rw [List.mem_singleton.mp hp]
          exact hb0.kt k2
      · rcases List.mem_append.mp hp with hp | hp
        · have e := hV p hp
          rw [upd_ne (ne_of_none e hD), upd_ne (ne_of e hA (by unfold LT; intro z; cases z)), upd_ne (ne_of_none e hD)]
          exact e
        · rw [List.mem_singleton.mp hp]
          show (upd _ D _) D = _
          rw [upd_same]
          rfl
end
end Say
namespace Say
open PySem PySem.Spec PyProof.Rows L2
/-! ### a hunt by where and lead: each where is followed with two leads at most -/
theorem sle_more (a b : List Nat) : sle a (a ++ b) := by
  cases b with
  | nil => exact .inl (by simp)
  | cons c r => exact .inr (.inl (by simp))
theorem sle_appL {a b : List Nat} (h : sle a b) : ∀ r : List Nat, sle (a ++ r) (b ++ r)
  | [] => by rw [List.append_nil, List.append_nil]; exact h
  | c :: r => by
    have e := sle_appL (sle_app h c) r
    rwa [List.append_assoc, List.append_assoc] at e
section
variable {Wh Ld : Type} [DecidableEq Wh] [DecidableEq Ld] {s0 : Wh × Ld} {st : Wh × Ld → Nat → Wh × Ld} {fd : Wh × Ld → Bool} {L : List Nat}
theorem rn_app {S : Type} (s0 : S) (st : S → Nat → S) (u r : List Nat) : rn s0 st (u ++ r) = rn (rn s0 st u) st r := by
  unfold rn
  rw [List.foldl_append]
/-- the leads that were kept at a where -/
def lds (q : List (List Nat × (Wh × Ld))) (w : Wh) : List Ld := ((q.drop 1).filter fun x => decide (x.2.1 = w)).map fun x => x.2.2
theorem lds_mem {q : List (List Nat × (Wh × Ld))} {w : Wh} {l : Ld} : l ∈ lds q w ↔ ∃ y ∈ q.drop 1, y.2 = (w, l) := by
  unfold lds
  rw [List.mem_map]
  constructor
  · rintro ⟨y, hy, rfl⟩
    obtain ⟨h1, h2⟩ := List.mem_filter.mp hy
    have h2 : y.2.1 = w := of_decide_eq_true h2
    exact ⟨y, h1, by rw [← h2]⟩
  · rintro ⟨y, hy, e⟩
    exact ⟨y, List.mem_filter.mpr ⟨hy, decide_eq_true (by rw [e])⟩, by rw [e]⟩
/-- the state s stands behind a word no later than v, or two others do at its where -/
def Cov (q : List (List Nat × (Wh × Ld))) (s : Wh × Ld) (v : List Nat) : Prop := (∃ y ∈ q.drop 1, y.2 = s ∧ sle y.1 v) ∨ ∃ y ∈ q.drop 1, ∃ z ∈ q.drop 1, y.2.1 = s.1 ∧ z.2.1 = s.1 ∧ ¬ y.2.2 = z.2.2 ∧ sle y.1 v ∧ sle z.1 v
variable (s0 st fd L) in
structure H2 (q : List (List Nat × (Wh × Ld))) (i j : Nat) : Prop where
  root : q[0]? = some ([], s0)
  ok : ∀ x ∈ q, x.2 = rn s0 st x.1 ∧ ∀ c ∈ x.1, c ∈ L
  up : q.Pairwise fun x y => sl x.1 y.1
  nd : ∀ w, (lds q w).Pairwise (fun a b => ¬ a = b) ∧ (lds q w).length ≤ 2
  kid : ∀ k, 1 ≤ k → ∀ y, q[k]? = some y → ∃ m x c l, q[m]? = some x ∧ L[l]? = some c ∧ y.1 = x.1 ++ [c] ∧ m < k ∧ (m < i ∨ (m = i ∧ l < j))
  cov : ∀ m x l c, q[m]? = some x → L[l]? = some c → (m < i ∨ (m = i ∧ l < j)) → Cov q (st x.2 c) (x.1 ++ [c])
  no : ∀ m x, m < i → q[m]? = some x → fd x.2 = false
theorem H2.first : H2 s0 st fd L [([], s0)] 0 0 where
  root := rfl
  ok := fun x hx => by rw [List.mem_singleton.mp hx]; exact ⟨rfl, fun c hc => nomatch hc⟩
  up := List.pairwise_singleton _ _
  nd := fun w => ⟨.nil, Nat.zero_le _⟩
  kid := fun k hk y h => by
    obtain ⟨k, rfl⟩ : ∃ k', k = k' + 1 := ⟨k - 1, by omega⟩
    cases h
  cov := fun m x l c _ _ h => by omega
  no := fun m x h => by omega
variable {q : List (List Nat × (Wh × Ld))} {i j : Nat}
theorem H2.ahead (hL : L.Pairwise (· < ·)) (h : H2 s0 st fd L q i j) {x : List Nat × (Wh × Ld)} {c : Nat} (hx : q[i]? = some x) (hc : L[j]? = some c) : ∀ y ∈ q, sl y.1 (x.1 ++ [c]) := by
  intro y hy
  obtain ⟨k, hk⟩ := List.mem_iff_getElem?.mp hy
  by_cases k0 : k = 0
  · rw [k0, h.root] at hk
    cases hk
    exact .inl (by simp)
  · obtain ⟨m, z, d, l, h1, h2, h3, h4, h5⟩ := h.kid k (by omega) y hk
    rw [h3]
    rcases h5 with h5 | ⟨rfl, h5⟩
    · exact sl_app (pw_at h.up h1 hx h5) d c
    · rw [hx] at h1
      cases h1
      exact sl_end _ (pw_at hL h2 hc h5)
/-- a state whose lead is kept, or two others: nothing enters -/
theorem H2.skip (hL : L.Pairwise (· < ·)) (h : H2 s0 st fd L q i j) {x : List Nat × (Wh × Ld)} {c : Nat} (hx : q[i]? = some x) (hc : L[j]? = some c) (hs : (st x.2 c).2 ∈ lds q (st x.2 c).1 ∨ (lds q (st x.2 c).1).length = 2) : H2 s0 st fd L q i (j + 1) where
  root := h.root
  ok := h.ok
  up := h.up
  nd := h.nd
  kid := fun k hk y hy => by
    obtain ⟨m, z, d, l, h1, h2, h3, h4, h5⟩ := h.kid k hk y hy
    exact ⟨m, z, d, l, h1, h2, h3, h4, by omega⟩
  cov := fun m z l d h1 h2 h3 => by
    by_cases e : m < i ∨ (m = i ∧ l < j)
    · exact h.cov m z l d h1 h2 e
    · obtain ⟨rfl, rfl⟩ : m = i ∧ l = j := by omega
      rw [hx] at h1
      cases h1
      rw [hc] at h2
      cases h2
      have up : ∀ y ∈ q.drop 1, sl y.1 (x.1 ++ [c]) := fun y hy => h.ahead hL hx hc y (List.mem_of_mem_drop hy)
      rcases hs with hs | hs
      · obtain ⟨y, hy, e2⟩ := lds_mem.mp hs
        exact .inl ⟨y, hy, e2, .inr (up y hy)⟩
      · obtain ⟨n1, _⟩ := h.nd (st x.2 c).1
        have m1 : ∀ l ∈ lds q (st x.2 c).1, ∃ y ∈ q.drop 1, y.2 = ((st x.2 c).1, l) := fun l hl => lds_mem.mp hl
        match hE : lds q (st x.2 c).1, hs with
        | [a, b], _ =>
          rw [hE] at n1 m1
          obtain ⟨y, hy, ey⟩ := m1 a (by simp)
          obtain ⟨z, hz, ez⟩ := m1 b (by simp)
          have nab : ¬ a = b := (List.pairwise_cons.mp n1).1 b (by simp)
          exact .inr ⟨y, hy, z, hz, by rw [ey], by rw [ez], by rw [ey, ez]; exact nab, .inr (up y hy), .inr (up z hz)⟩
  no := h.no
theorem Cov.more {s : Wh × Ld} {v : List Nat} (h : Cov q s v) {q' : List (List Nat × (Wh × Ld))} (hs : ∀ y ∈ q.drop 1, y ∈ q'.drop 1) : Cov q' s v := by
  rcases h with ⟨y, hy, a⟩ | ⟨y, hy, z, hz, a⟩
  · exact .inl ⟨y, hs y hy, a⟩
  · exact .inr ⟨y, hs y hy, z, hs z hz, a⟩
theorem lds_app (hq : 1 ≤ q.length) (x : List Nat × (Wh × Ld)) (w : Wh) : lds (q ++ [x]) w = if x.2.1 = w then lds q w ++ [x.2.2] else lds q w := by
  unfold lds
  rw [List.drop_append_of_le_length hq, List.filter_append, List.map_append]
  by_cases e : x.2.1 = w
  · rw [if_pos e]
    simp [e]
  · rw [if_neg e]
    simp [e]
/-- a new lead at a where that has one at most: the word enters -/
theorem H2.push (hL : L.Pairwise (· < ·)) (h : H2 s0 st fd L q i j) {x : List Nat × (Wh × Ld)} {c : Nat} (hx : q[i]? = some x) (hc : L[j]? = some c) (hs : ¬ (st x.2 c).2 ∈ lds q (st x.2 c).1) (h2 : (lds q (st x.2 c).1).length < 2) : H2 s0 st fd L (q ++ [(x.1 ++ [c], st x.2 c)]) i (j + 1) := by
  have hi := (List.getElem?_eq_some_iff.mp hx).1
  have hq : 1 ≤ q.length := by omega
  have ed : (q ++ [(x.1 ++ [c], st x.2 c)]).drop 1 = q.drop 1 ++ [(x.1 ++ [c], st x.2 c)] := List.drop_append_of_le_length hq
  have old : ∀ {m z}, m < q.length → (q ++ [(x.1 ++ [c], st x.2 c)])[m]? = some z → q[m]? = some z := fun hm hz => by rwa [List.getElem?_append_left hm] at hz
  have new : ∀ {m z}, q[m]? = some z → (q ++ [(x.1 ++ [c], st x.2 c)])[m]? = some z := fun hz => by
    rw [List.getElem?_append_left (List.getElem?_eq_some_iff.mp hz).1]
    exact hz
  refine ⟨new h.root, fun y hy => ?_, ?_, fun w => ?_, fun k hk y hy => ?_, fun m z l d h1 h2' h3 => ?_, fun m z hm hz => h.no m z hm (old (by omega) hz)⟩
  · rcases List.mem_append.mp hy with hy | hy
    · exact h.ok y hy
    · rw [List.mem_singleton.mp hy]
      obtain ⟨a, b⟩ := h.ok x (List.mem_of_getElem? hx)
      refine ⟨by show st x.2 c = rn s0 st (x.1 ++ [c]); rw [rn_snoc, a], fun d hd => ?_⟩
      rcases List.mem_append.mp hd with hd | hd
      · exact b d hd
      · rw [List.mem_singleton.mp hd]
        exact List.mem_of_getElem? hc
  · refine List.pairwise_append.mpr ⟨h.up, List.pairwise_singleton _ _, fun y hy z hz => ?_⟩
    rw [List.mem_singleton.mp hz]
    exact h.ahead hL hx hc y hy
  · obtain ⟨n1, n2⟩ := h.nd w
    rw [lds_app hq]
    by_cases e : (st x.2 c).1 = w
    · subst e
      rw [if_pos rfl]
      refine ⟨List.pairwise_append.mpr ⟨n1, List.pairwise_singleton _ _, fun a ha b hb => ?_⟩, by rw [List.length_append, List.length_singleton]; omega⟩
      rw [List.mem_singleton.mp hb]
      exact fun z => hs (z ▸ ha)
    · rw [if_neg e]
      exact ⟨n1, n2⟩
  · by_cases hkq : k < q.length
    · obtain ⟨m, z, d, l, h1, h2, h3, h4, h5⟩ := h.kid k hk y (old hkq hy)
      exact ⟨m, z, d, l, new h1, h2, h3, h4, by omega⟩
    · have hkl := (List.getElem?_eq_some_iff.mp hy).1
      rw [List.length_append, List.length_singleton] at hkl
      obtain rfl : k = q.length := by omega
      rw [List.getElem?_append_right (Nat.le_refl _), Nat.sub_self] at hy
      cases hy
      exact ⟨i, x, c, j, new hx, hc, rfl, hi, .inr ⟨rfl, Nat.lt_succ_self _⟩⟩
  · by_cases e : m < i ∨ (m = i ∧ l < j)
    · exact (h.cov m z l d (old (by omega) h1) h2' e).more fun y hy => by rw [ed]; exact List.mem_append_left _ hy
    · obtain ⟨rfl, rfl⟩ : m = i ∧ l = j := by omega
      have h1 := old hi h1
      rw [hx] at h1
      cases h1
      rw [hc] at h2'
      cases h2'
      exact .inl ⟨_, by rw [ed]; exact List.mem_append_right _ (List.mem_singleton.mpr rfl), rfl, .inl rfl⟩
theorem H2.turn (h : H2 s0 st fd L q i L.length) {x : List Nat × (Wh × Ld)} (hx : q[i]? = some x) (hf : fd x.2 = false) : H2 s0 st fd L q (i + 1) 0 where
  root := h.root
  ok := h.ok
  up := h.up
  nd := h.nd
  kid := fun k hk y hy => by
    obtain ⟨m, z, d, l, h1, h2, h3, h4, h5⟩ := h.kid k hk y hy
    exact ⟨m, z, d, l, h1, h2, h3, h4, by omega⟩
  cov := fun m z l d h1 h2 h3 => by
    have := (List.getElem?_eq_some_iff.mp h2).1
    exact h.cov m z l d h1 h2 (by omega)
  no := fun m z hm hz => by
    by_cases e : m < i
    · exact h.no m z e hz
    · obtain rfl : m = i := by omega
      rw [hx] at hz
      cases hz
      exact hf
variable (s0 st fd) in
/-- of two unlike leads at one where one at least is found by any rest by which a third one is -/
def Two : Prop := ∀ u1 u2 u3 r : List Nat, (rn s0 st u1).1 = (rn s0 st u3).1 → (rn s0 st u2).1 = (rn s0 st u3).1 → ¬ (rn s0 st u1).2 = (rn s0 st u2).2 → fd (rn s0 st (u3 ++ r)) = true → fd (rn s0 st (u1 ++ r)) = true ∨ fd (rn s0 st (u2 ++ r)) = true
/-- a found word: a word no later that still waits is on its way -/
theorem H2.way (h2 : Two s0 st fd) (h : H2 s0 st fd L q i 0) : ∀ (r : List Nat) (k : Nat) (y : List Nat × (Wh × Ld)), q[k]? = some y → (∀ c ∈ r, c ∈ L) → fd (rn s0 st (y.1 ++ r)) = true → ∃ k' y', q[k']? = some y' ∧ i ≤ k' ∧ sle y'.1 (y.1 ++ r)
  | r, k, y, hy, hr, hf => by
    by_cases e : i ≤ k
    · exact ⟨k, y, hy, e, sle_more _ _⟩
    · have ey := (h.ok y (List.mem_of_getElem? hy)).1
      match r, hr, hf with
      | [], _, hf =>
        rw [List.append_nil, ← ey, h.no k y (by omega) hy] at hf
        cases hf
      | c :: r, hr, hf =>
        obtain ⟨l, hl⟩ := List.mem_iff_getElem?.mp (hr c (List.mem_cons_self ..))
        have ea : y.1 ++ c :: r = (y.1 ++ [c]) ++ r := by simp
        have es : st y.2 c = rn s0 st (y.1 ++ [c]) := by rw [rn_snoc, ey]
        have hr' : ∀ d ∈ r, d ∈ L := fun d hd => hr d (List.mem_cons_of_mem _ hd)
        have next : ∀ z ∈ q.drop 1, sle z.1 (y.1 ++ [c]) → fd (rn s0 st (z.1 ++ r)) = true → ∃ k' y', q[k']? = some y' ∧ i ≤ k' ∧ sle y'.1 (y.1 ++ c :: r) := fun z hz g hf' => by
          obtain ⟨m, hm⟩ := List.mem_iff_getElem?.mp (List.mem_of_mem_drop hz)
          obtain ⟨k', y', a, b, d⟩ := H2.way h2 h r m z hm hr' hf'
          exact ⟨k', y', a, b, by rw [ea]; exact sle_tr d (sle_appL g r)⟩
        rw [ea] at hf
        rcases h.cov k y l c hy hl (.inl (by omega)) with ⟨z, hz, g1, g2⟩ | ⟨z1, hz1, z2, hz2, a1, a2, a3, g1, g2⟩
        · refine next z hz g2 ?_
          rw [rn_app, ← (h.ok z (List.mem_of_mem_drop hz)).1, g1, es, ← rn_app]
          exact hf
        · have e1 := (h.ok z1 (List.mem_of_mem_drop hz1)).1
          have e2 := (h.ok z2 (List.mem_of_mem_drop hz2)).1
          rw [es] at a1 a2
          rcases h2 z1.1 z2.1 (y.1 ++ [c]) r (by rw [← e1]; exact a1) (by rw [← e2]; exact a2) (by rw [← e1, ← e2]; exact a3) hf with hf | hf
          · exact next z1 hz1 g1 hf
          · exact next z2 hz2 g2 hf
/-- the first that is found is the least -/
theorem H2.least (h2 : Two s0 st fd) (h : H2 s0 st fd L q i 0) {x : List Nat × (Wh × Ld)} (hx : q[i]? = some x) {v : List Nat} (hv : ∀ c ∈ v, c ∈ L) (hf : fd (rn s0 st v) = true) : sle x.1 v := by
  obtain ⟨k, y, h1, e, h3⟩ := h.way h2 v 0 _ h.root hv (by simpa using hf)
  have h3 : sle y.1 v := by simpa using h3
  by_cases e3 : i = k
  · subst e3
    rw [hx] at h1
    cases h1
    exact h3
  · exact sle_tr (.inr (pw_at h.up hx h1 (by omega))) h3
theorem H2.none (h2 : Two s0 st fd) (h : H2 s0 st fd L q i 0) (hi : q.length ≤ i) {v : List Nat} (hv : ∀ c ∈ v, c ∈ L) : fd (rn s0 st v) = false := by
  refine Bool.eq_false_iff.mpr fun hf => ?_
  obtain ⟨k, y, h1, e, h3⟩ := h.way h2 v 0 _ h.root hv (by simpa using hf)
  have := (List.getElem?_eq_some_iff.mp h1).1
  omega
theorem H2.len (h : H2 s0 st fd L q i j) : ∀ (k n : Nat), n ≤ k → ∀ y, q[n]? = some y → y.1.length ≤ n
  | k, n, hn, y, hy => by
    by_cases n0 : n = 0
    · rw [n0, h.root] at hy
      cases hy
      exact Nat.zero_le _
    · match k, hn with
      | 0, hn => exact absurd (Nat.le_zero.mp hn) n0
      | k + 1, hn =>
        obtain ⟨m, z, d, l, h1, h2, h3, h4, h5⟩ := h.kid n (by omega) y hy
        have := H2.len h k m (by omega) z h1
        rw [h3, List.length_append, List.length_singleton]
        omega
theorem two_len : ∀ (u : List Wh) (l : List Wh), (∀ w, (l.filter fun x => decide (x = w)).length ≤ 2) → (∀ x ∈ l, x ∈ u) → l.length ≤ 2 * u.length
  | [], l, _, hu => by
    cases l with
    | nil => exact Nat.zero_le _
    | cons a r => exact nomatch hu a (List.mem_cons_self ..)
  | a :: u, l, h, hu => by
    have e : l.length = (l.filter fun x => decide (x = a)).length + (l.filter fun x => !decide (x = a)).length := by
      clear h hu
      induction l with
      | nil => rfl
      | cons b r ih =>
        by_cases c : b = a
        · simp only [List.filter_cons, c, decide_true, if_true, Bool.not_true, List.length_cons, Bool.false_eq_true, if_false]
          omega
        · simp only [List.filter_cons, c, decide_false, if_true, Bool.not_false, List.length_cons, Bool.false_eq_true, if_false]
          omega
    have ih := two_len u (l.filter fun x => !decide (x = a)) (fun w => ?_) fun x hx => ?_
    · have := h a
      rw [List.length_cons]
      omega
    · rw [List.filter_filter]
      refine Nat.le_trans ?_ (h w)
      have : (l.filter fun x => decide (x = w) && !decide (x = a)) = (l.filter fun x => decide (x = w)).filter fun x => !decide (x = a) := by
        rw [List.filter_filter]
        congr 1
        funext x
        exact Bool.and_comm _ _
      rw [this]
      exact List.length_filter_le _ _
    · obtain ⟨h1, h2⟩ := List.mem_filter.mp hx
      rcases List.mem_cons.mp (hu x h1) with e | e
      · rw [e] at h2
        simp at h2
      · exact e
/-- the queue is no longer than twice all wheres, and one more -/
theorem H2.size (h : H2 s0 st fd L q i j) {u : List Wh} (hu : ∀ w : List Nat, (∀ c ∈ w, c ∈ L) → (rn s0 st w).1 ∈ u) : q.length ≤ 2 * u.length + 1 := by
  have := two_len u ((q.drop 1).map fun x => x.2.1) (fun w => ?_) fun s hs => ?_
  · rw [List.length_map, List.length_drop] at this
    omega
  · have := (h.nd w).2
    unfold lds at this
    rw [List.length_map] at this
    rw [List.filter_map, List.length_map]
    exact this
  · obtain ⟨x, hx, rfl⟩ := List.mem_map.mp hs
    obtain ⟨a, b⟩ := h.ok x (List.mem_of_mem_drop hx)
    rw [a]
    exact hu _ b
end
end Say
namespace Say
open PySem PySem.Spec PyProof.Rows L2
theorem snoc_ind {P : List Nat → Prop} (h0 : P []) (h1 : ∀ u c, P u → P (u ++ [c])) (w : List Nat) : P w := by
  generalize hn : w.length = n
  induction n generalizing w with
  | zero => rw [List.eq_nil_of_length_eq_zero hn]; exact h0
  | succ n ih =>
    rcases List.eq_nil_or_concat w with rfl | ⟨u, c, rfl⟩
    · exact h0
    · rw [List.concat_eq_append] at hn ⊢
      exact h1 u c (ih u (by simpa using hn))
/-! ### leads -/
/-- what is left of each without what is the same; signs that are unlike, if neither begins the other -/
def leadM (a b : List Nat) : List Nat × List Nat := if b <+: a then (a.drop b.length, []) else if a <+: b then ([], b.drop a.length) else ([60], [62])
theorem leadM_cases (a b : List Nat) : (∃ d, a = b ++ d ∧ leadM a b = (d, [])) ∨ (∃ d, b = a ++ d ∧ leadM a b = ([], d)) ∨ (¬ b <+: a ∧ ¬ a <+: b ∧ leadM a b = ([60], [62])) := by
  by_cases h1 : b <+: a
  · obtain ⟨d, rfl⟩ := h1
    refine .inl ⟨d, rfl, ?_⟩
    unfold leadM
    rw [if_pos (List.prefix_append _ _), List.drop_left]
  · by_cases h2 : a <+: b
    · refine .inr (.inl ?_)
      obtain ⟨d, rfl⟩ := id h2
      refine ⟨d, rfl, ?_⟩
      unfold leadM
      rw [if_neg h1, if_pos h2, List.drop_left]
    · refine .inr (.inr ⟨h1, h2, ?_⟩)
      unfold leadM
      rw [if_neg h1, if_neg h2]
theorem leadM_pre (p a b : List Nat) : leadM (p ++ a) (p ++ b) = leadM a b := by
  unfold leadM
  rw [List.length_append, List.length_append]
  have e1 : (p ++ a).drop (p.length + b.length) = a.drop b.length := by rw [List.drop_append]; simp
  have e2 : (p ++ b).drop (p.length + a.length) = b.drop a.length := by rw [List.drop_append]; simp
  rw [e1, e2]
  simp only [List.prefix_append_right_inj]
theorem no_both {a b x y : List Nat} (h1 : ¬ b <+: a) (h2 : ¬ a <+: b) (h : b ++ y <+: a ++ x) : False := by
  rcases List.prefix_or_prefix_of_prefix ((List.prefix_append b y).trans h) (List.prefix_append a x) with z | z
  · exact h1 z
  · exact h2 z
theorem leadM_step (a b x y : List Nat) : leadM ((leadM a b).1 ++ x) ((leadM a b).2 ++ y) = leadM (a ++ x) (b ++ y) := by
  rcases leadM_cases a b with ⟨d, rfl, e⟩ | ⟨d, rfl, e⟩ | ⟨h1, h2, e⟩
  · rw [e, List.append_assoc, leadM_pre]
    rfl
  · rw [e, List.append_assoc, leadM_pre]
    rfl
  · rw [e]
    have l : leadM ([60] ++ x) ([62] ++ y) = ([60], [62]) := by
      unfold leadM
      rw [if_neg (by simp), if_neg (by simp)]
    have r : leadM (a ++ x) (b ++ y) = ([60], [62]) := by
      unfold leadM
      rw [if_neg (fun z => no_both h1 h2 z), if_neg (fun z => no_both h2 h1 z)]
    rw [l, r]
theorem leadM_ne (a b x y : List Nat) : (leadM a b).1 ++ x = (leadM a b).2 ++ y ↔ a ++ x = b ++ y := by
  rcases leadM_cases a b with ⟨d, rfl, e⟩ | ⟨d, rfl, e⟩ | ⟨h1, h2, e⟩
  · rw [e, List.append_assoc, List.append_cancel_left_eq]
    rfl
  · rw [e, List.append_assoc, List.append_cancel_left_eq]
    rfl
  · rw [e]
    refine ⟨fun z => ?_, fun z => ?_⟩
    · simp at z
    · exact (no_both h1 h2 (by rw [z]; exact List.prefix_refl _)).elim
theorem lead_at {a b A B : List Nat} (h : a ++ A = b ++ B) : leadM a b = if A.length ≤ B.length then (B.take (B.length - A.length), []) else ([], A.take (A.length - B.length)) := by
  rcases List.append_eq_append_iff.mp h with ⟨d, rfl, rfl⟩ | ⟨d, rfl, rfl⟩
  · cases d with
    | nil =>
      rw [if_pos (by simp)]
      unfold leadM
      simp
    | cons x r =>
      rw [if_neg (by simp; omega)]
      unfold leadM
      rw [if_neg (fun z => by have := z.length_le; simp at this; omega), if_pos (List.prefix_append _ _), List.drop_left]
      rw [show (x :: r ++ B).length - B.length = (x :: r).length by rw [List.length_append]; omega, List.take_left]
  · rw [if_pos (by simp)]
    unfold leadM
    rw [if_pos (List.prefix_append _ _), List.drop_left]
    simp
theorem lead_same {a1 b1 a2 b2 A B : List Nat} (h1 : a1 ++ A = b1 ++ B) (h2 : a2 ++ A = b2 ++ B) : leadM a1 b1 = leadM a2 b2 := (lead_at h1).trans (lead_at h2).symm
theorem leadM_len (a b : List Nat) : (leadM a b).1.length ≤ a.length + 1 ∧ (leadM a b).2.length ≤ b.length + 1 := by
  rcases leadM_cases a b with ⟨d, rfl, e⟩ | ⟨d, rfl, e⟩ | ⟨h1, h2, e⟩
  · rw [e]; simp only [List.length_append, List.length_nil]; omega
  · rw [e]; simp only [List.length_append, List.length_nil]; omega
  · rw [e]; simp
/-! ### tails, and all numbers so far -/
def akS (rs : List Rule) (s : Option (List Nat) × List Nat) (c : Nat) : Option (List Nat) × List Nat := ((tkM rs s.1 c).1, s.2 ++ (tkM rs s.1 c).2)
abbrev rnA (rs : List Rule) (w : List Nat) : Option (List Nat) × List Nat := rn (some [35], []) (akS rs) w
theorem rnA_fst (rs : List Rule) (w : List Nat) : (rnA rs w).1 = rnT rs w := by
  refine snoc_ind (P := fun w => (rnA rs w).1 = rnT rs w) rfl (fun u c ih => ?_) w
  show (rn (some [35], []) (akS rs) (u ++ [c])).1 = rn (some [35]) (tkS rs) (u ++ [c])
  have ih : (rn (some [35], []) (akS rs) u).1 = rn (some [35]) (tkS rs) u := ih
  rw [rn_snoc, rn_snoc, ← ih]
  rfl
theorem rnA_fed {rs : List Rule} (ho : ∀ ρ ∈ rs, RlOk ρ) (w : List Nat) : ∀ tl, rnT rs w = some tl → Fed rs w tl (rnA rs w).2 := by
  refine snoc_ind (P := fun w => ∀ tl, rnT rs w = some tl → Fed rs w tl (rnA rs w).2) (fun tl h => ?_) (fun u c ih tl h => ?_) w
  · have h : some [35] = some tl := h
    cases h
    exact fed_nil rs
  · have h : rn (some [35]) (tkS rs) (u ++ [c]) = some tl := h
    rw [rn_snoc] at h
    cases e : rn (some [35]) (tkS rs) u with
    | none => rw [e] at h; cases h
    | some t =>
      rw [e] at h
      have F := (ih t e).step ho h
      have e2 : (rnA rs u).1 = some t := (rnA_fst rs u).trans e
      have : (rnA rs (u ++ [c])).2 = (rnA rs u).2 ++ (tkM rs (some t) c).2 := by
        show (rn (some [35], []) (akS rs) (u ++ [c])).2 = _
        rw [rn_snoc]
        show (rnA rs u).2 ++ (tkM rs (rnA rs u).1 c).2 = _
        rw [e2]
      rw [this]
      exact F
theorem tk_num (rs : List Rule) (t : Option (List Nat)) (c : Nat) : (∀ k ∈ (tkM rs t c).2, k < rs.length) ∧ (tkM rs t c).2.length ≤ 1 := by
  cases t with
  | none => exact ⟨(fun k hk => nomatch hk), Nat.zero_le _⟩
  | some t =>
    unfold tkM
    simp only
    by_cases h4 : (t ++ [c]).length < 4
    · rw [if_pos h4]
      exact ⟨(fun k hk => nomatch hk), Nat.zero_le _⟩
    · rw [if_neg h4]
      cases e : ff rs (t ++ [c]) 1 with
      | none => exact ⟨(fun k hk => nomatch hk), Nat.zero_le _⟩
      | some k =>
        refine ⟨fun j hj => ?_, Nat.le_refl _⟩
        rw [List.mem_singleton.mp hj]
        exact ff_lt e
theorem rnA_num (rs : List Rule) (w : List Nat) : (∀ k ∈ (rnA rs w).2, k < rs.length) ∧ (rnA rs w).2.length ≤ w.length := by
  refine snoc_ind (P := fun w => (∀ k ∈ (rnA rs w).2, k < rs.length) ∧ (rnA rs w).2.length ≤ w.length) ⟨(fun k hk => nomatch hk), Nat.le_refl _⟩ (fun u c ih => ?_) w
  obtain ⟨h1, h2⟩ := ih
  obtain ⟨g1, g2⟩ := tk_num rs (rnA rs u).1 c
  have e : (rnA rs (u ++ [c])).2 = (rnA rs u).2 ++ (tkM rs (rnA rs u).1 c).2 := by
    show (rn (some [35], []) (akS rs) (u ++ [c])).2 = _
    rw [rn_snoc]
    rfl
  rw [e]
  refine ⟨fun k hk => ?_, by simp only [List.length_append, List.length_singleton]; omega⟩
  rcases List.mem_append.mp hk with hk | hk
  · exact h1 k hk
  · exact g1 k hk
theorem ak_split (rs : List Rule) (t : Option (List Nat)) (ks r : List Nat) : rn (t, ks) (akS rs) r = ((rn (t, []) (akS rs) r).1, ks ++ (rn (t, []) (akS rs) r).2) := by
  refine snoc_ind (P := fun r => rn (t, ks) (akS rs) r = ((rn (t, []) (akS rs) r).1, ks ++ (rn (t, []) (akS rs) r).2)) (by show (t, ks) = (t, ks ++ []); rw [List.append_nil]) (fun u c ih => ?_) r
  rw [rn_snoc, rn_snoc, ih]
  show ((tkM rs _ c).1, (ks ++ _) ++ _) = ((tkM rs _ c).1, ks ++ (_ ++ _))
  rw [List.append_assoc]
theorem sayW_rest {rs : List Rule} (ho : ∀ ρ ∈ rs, RlOk ρ) (w : List Nat) : sayW rs w = (ensM rs (rnA rs w).1).map (soL rs (rnA rs w).2 ++ ·) := by
  rw [rnA_fst]
  cases e : rnT rs w with
  | none =>
    have := rnT_none ho _ rfl e []
    rw [List.append_nil] at this
    unfold sayW
    rw [if_neg this]
    rfl
  | some tl =>
    obtain ⟨w1, w2⟩ := (rnA_fed ho w tl e).whole ho
    unfold sayW
    rw [w1, w2]
    unfold ensM endM
    cases ew : (Wt rs tl).2 with
    | none => simp [ew, soL_app]
    | some p => simp [ew]
/-! ### stems -/
def stems (es : List Exc) : List (List Nat) := es.flatMap fun e => (List.range (e.1.length + 1)).map fun n => e.1.take n
theorem mem_stems {es : List Exc} {u : List Nat} : u ∈ stems es ↔ ∃ e ∈ es, u <+: e.1 := by
  unfold stems
  rw [List.mem_flatMap]
  constructor
  · rintro ⟨e, he, hu⟩
    obtain ⟨n, _, rfl⟩ := List.mem_map.mp hu
    exact ⟨e, he, List.take_prefix _ _⟩
  · rintro ⟨e, he, hu⟩
    refine ⟨e, he, List.mem_map.mpr ⟨u.length, List.mem_range.mpr (Nat.lt_succ_of_le hu.length_le), ?_⟩⟩
    exact (List.prefix_iff_eq_take.mp hu).symm
def lgS (es : List Exc) (s : Option (List Nat)) (c : Nat) : Option (List Nat) := match s with
  | none => none
  | some u => if u ++ [c] ∈ stems es then some (u ++ [c]) else none
abbrev rnL (es : List Exc) (w : List Nat) : Option (List Nat) := rn (some []) (lgS es) w
theorem rnL_some {es : List Exc} (w : List Nat) : ∀ u, rnL es w = some u → u = w ∧ (u = [] ∨ u ∈ stems es) := by
  refine snoc_ind (P := fun w => ∀ u, rnL es w = some u → u = w ∧ (u = [] ∨ u ∈ stems es)) (fun u h => by cases h; exact ⟨rfl, .inl rfl⟩) (fun v c ih u h0 => ?_) w
  have h : lgS es (rnL es v) c = some u := (rn_snoc (some []) (lgS es) v c).symm.trans h0
  clear h0
  cases e : rnL es v with
  | none => rw [e] at h; cases h
  | some v' =>
    rw [e] at h
    obtain ⟨e2, _⟩ := ih v' e
    have h : (if v' ++ [c] ∈ stems es then some (v' ++ [c]) else none) = some u := h
    by_cases c' : v' ++ [c] ∈ stems es
    · rw [if_pos c'] at h
      cases h
      exact ⟨by rw [e2], .inr c'⟩
    · rw [if_neg c'] at h
      cases h
theorem rnL_stem {es : List Exc} (w : List Nat) : (∃ e ∈ es, w <+: e.1) → rnL es w = some w := by
  refine snoc_ind (P := fun w => (∃ e ∈ es, w <+: e.1) → rnL es w = some w) (fun _ => rfl) (fun u c ih h => ?_) w
  obtain ⟨e, he, hp⟩ := id h
  show rn (some []) (lgS es) (u ++ [c]) = _
  rw [rn_snoc, show rn (some []) (lgS es) u = some u from ih ⟨e, he, (List.prefix_append u [c]).trans hp⟩]
  unfold lgS
  simp only
  rw [if_pos (mem_stems.mpr h)]
theorem rnL_none (es : List Exc) (r : List Nat) : rn none (lgS es) r = none := by
  refine snoc_ind (P := fun r => rn none (lgS es) r = none) rfl (fun u c ih => ?_) r
  rw [rn_snoc, ih]
  rfl
/-! ### two books -/
abbrev PW_ := Option (List Nat) × Option (List Nat) × Option (List Nat)
abbrev PLd := List Nat × List Nat
structure Bks where
  r1 : List Rule
  r2 : List Rule
  e1 : List Exc
  e2 : List Exc
abbrev Bks.es (b : Bks) : List Exc := b.e1 ++ b.e2
def pa0 : PW_ × PLd := ((some [35], some [35], some []), ([], []))
def paS (b : Bks) (s : PW_ × PLd) (c : Nat) : PW_ × PLd := (((tkM b.r1 s.1.1 c).1, (tkM b.r2 s.1.2.1 c).1, lgS b.es s.1.2.2 c), leadM (s.2.1 ++ soL b.r1 (tkM b.r1 s.1.1 c).2) (s.2.2 ++ soL b.r2 (tkM b.r2 s.1.2.1 c).2))
abbrev rnP (b : Bks) (w : List Nat) : PW_ × PLd := rn pa0 (paS b) w
theorem rnP_eq (b : Bks) (w : List Nat) : rnP b w = (((rnA b.r1 w).1, (rnA b.r2 w).1, rnL b.es w), leadM (soL b.r1 (rnA b.r1 w).2) (soL b.r2 (rnA b.r2 w).2)) := by
  refine snoc_ind (P := fun w => rnP b w = (((rnA b.r1 w).1, (rnA b.r2 w).1, rnL b.es w), leadM (soL b.r1 (rnA b.r1 w).2) (soL b.r2 (rnA b.r2 w).2))) (by show pa0 = (_, leadM [] []); rw [show leadM [] [] = ([], []) by decide]; rfl) (fun u c ih => ?_) w
  have e0 : rnP b (u ++ [c]) = paS b (rnP b u) c := rn_snoc pa0 (paS b) u c
  have e1 : rnA b.r1 (u ++ [c]) = akS b.r1 (rnA b.r1 u) c := rn_snoc _ _ u c
  have e2 : rnA b.r2 (u ++ [c]) = akS b.r2 (rnA b.r2 u) c := rn_snoc _ _ u c
  have e3 : rnL b.es (u ++ [c]) = lgS b.es (rnL b.es u) c := rn_snoc _ _ u c
  rw [e0, e1, e2, e3, ih]
  refine Prod.ext rfl ?_
  show leadM ((leadM _ _).1 ++ _) ((leadM _ _).2 ++ _) = leadM (soL b.r1 ((rnA b.r1 u).2 ++ (tkM b.r1 (rnA b.r1 u).1 c).2)) (soL b.r2 ((rnA b.r2 u).2 ++ (tkM b.r2 (rnA b.r2 u).1 c).2))
  rw [leadM_step, soL_app, soL_app]
def excV (es : List Exc) (w : List Nat) : Option (List Nat) := (es.find? fun e => decide (e.1 = w)).map (·.2)
theorem saidM_exc (rs : List Rule) (es : List Exc) (w : List Nat) : saidM rs es w = match excV es w with | some so => some so | none => sayW rs w := by
  unfold saidM excV
  cases es.find? fun e => decide (e.1 = w) <;> rfl
def isE (b : Bks) : Option (List Nat) → Bool
  | none => false
  | some u => (excV b.e1 u).isSome || (excV b.e2 u).isSome
def rst (b : Bks) (s : PW_ × PLd) : Bool := match ensM b.r1 s.1.1, ensM b.r2 s.1.2.1 with
  | some x, some y => decide (¬ s.2.1 ++ x = s.2.2 ++ y)
  | x, y => decide (¬ x = y)
def fdP (b : Bks) (s : PW_ × PLd) : Bool := if isE b s.1.2.2 = true then decide (¬ saidM b.r1 b.e1 (s.1.2.2.getD []) = saidM b.r2 b.e2 (s.1.2.2.getD [])) else rst b s
/-- the books don't say a word the same -/
def Parted (b : Bks) (w : List Nat) : Prop := ¬ saidM b.r1 b.e1 w = saidM b.r2 b.e2 w
structure BksOk (b : Bks) : Prop where
  h1 : ∀ ρ ∈ b.r1, RlOk ρ
  h2 : ∀ ρ ∈ b.r2, RlOk ρ
  s1 : ∀ ρ ∈ b.r1, ∀ c ∈ ρ.so, c ≤ 90
  s2 : ∀ ρ ∈ b.r2, ∀ c ∈ ρ.so, c ≤ 90
/-- a lead's signs are letters, or < and > -/
def LdOk (d : PLd) : Prop := (∀ c ∈ d.1, c ≤ 90) ∧ ∀ c ∈ d.2, c ≤ 90
theorem soL_sign {rs : List Rule} (h : ∀ ρ ∈ rs, ∀ c ∈ ρ.so, c ≤ 90) {ks : List Nat} (hk : ∀ k ∈ ks, k < rs.length) : ∀ c ∈ soL rs ks, c ≤ 90 := fun c hc => by
  unfold soL at hc
  obtain ⟨l, hl, hc⟩ := List.mem_flatten.mp hc
  obtain ⟨k, hk', rfl⟩ := List.mem_map.mp hl
  have e : ruleAt rs k = rs[k]'(hk k hk') := ruleAt_eq (List.getElem?_eq_getElem (hk k hk'))
  rw [e] at hc
  exact h _ (List.getElem_mem _) c hc
theorem leadM_sign {x y : List Nat} (hx : ∀ c ∈ x, c ≤ 90) (hy : ∀ c ∈ y, c ≤ 90) : LdOk (leadM x y) := by
  rcases leadM_cases x y with ⟨d, rfl, e⟩ | ⟨d, rfl, e⟩ | ⟨h1, h2, e⟩
  · rw [e]; exact ⟨fun c hc => hx c (List.mem_append_right _ hc), fun c hc => nomatch hc⟩
  · rw [e]; exact ⟨(fun c hc => nomatch hc), fun c hc => hy c (List.mem_append_right _ hc)⟩
  · rw [e]; exact ⟨fun c hc => by rw [List.mem_singleton.mp hc]; decide, fun c hc => by rw [List.mem_singleton.mp hc]; decide⟩
theorem exc_none {b : Bks} {w : List Nat} (h : ¬ isE b (rnL b.es w) = true) : excV b.e1 w = none ∧ excV b.e2 w = none := by
  have key : ∀ es : List Exc, (∀ e ∈ es, e ∈ b.es) → (excV es w).isSome = true → rnL b.es w = some w := fun es hs hi => by
    unfold excV at hi
    cases hf : es.find? fun e => decide (e.1 = w) with
    | none => rw [hf] at hi; cases hi
    | some e =>
      have h1 : e.1 = w := of_decide_eq_true (List.find?_some (p := fun e : Exc => decide (e.1 = w)) hf)
      exact rnL_stem w ⟨e, hs e (List.mem_of_find?_eq_some hf), by rw [h1]; exact List.prefix_refl _⟩
  have go : ∀ es : List Exc, (∀ e ∈ es, e ∈ b.es) → (∀ w, (excV es w).isSome = true → isE b (some w) = true) → excV es w = none := fun es hs hi => by
    cases he : excV es w with
    | none => rfl
    | some x =>
      have hw : (excV es w).isSome = true := by rw [he]; rfl
      rw [key es hs hw] at h
      exact absurd (hi w hw) h
  refine ⟨go b.e1 (fun e he => List.mem_append_left _ he) fun w hw => ?_, go b.e2 (fun e he => List.mem_append_right _ he) fun w hw => ?_⟩
  · show ((excV b.e1 w).isSome || (excV b.e2 w).isSome) = true; rw [hw]; rfl
  · show ((excV b.e1 w).isSome || (excV b.e2 w).isSome) = true; rw [hw, Bool.or_true]
theorem rst_iff {b : Bks} (s : PW_ × PLd) (X Y : List Nat) (hl : s.2 = leadM X Y) : rst b s = true ↔ ¬ (ensM b.r1 s.1.1).map (X ++ ·) = (ensM b.r2 s.1.2.1).map (Y ++ ·) := by
  unfold rst
  cases e1 : ensM b.r1 s.1.1 with
  | none =>
    cases e2 : ensM b.r2 s.1.2.1 with
    | none => simp
    | some y => simp
  | some x =>
    cases e2 : ensM b.r2 s.1.2.1 with
    | none => simp
    | some y =>
      simp only [decide_eq_true_eq, Option.map_some, Option.some.injEq]
      rw [hl]
      exact not_congr (leadM_ne X Y x y)
/-- what the hunt finds are the words that part the books -/
theorem fdP_iff {b : Bks} (ho : BksOk b) (w : List Nat) : fdP b (rnP b w) = true ↔ Parted b w := by
  rw [rnP_eq]
  unfold fdP Parted
  simp only
  by_cases c : isE b (rnL b.es w) = true
  · rw [if_pos c]
    cases e : rnL b.es w with
    | none => rw [e] at c; cases c
    | some u =>
      obtain ⟨rfl, _⟩ := rnL_some w u e
      simp
  · rw [if_neg c, rst_iff _ (soL b.r1 (rnA b.r1 w).2) (soL b.r2 (rnA b.r2 w).2) rfl]
    obtain ⟨n1, n2⟩ := exc_none c
    rw [saidM_exc, saidM_exc, n1, n2]
    simp only
    rw [sayW_rest ho.h1, sayW_rest ho.h2]
theorem fd_rest {b : Bks} {u r : List Nat} {t1 t2 : Option (List Nat)} (h : (rnP b u).1 = (t1, t2, none)) : fdP b (rnP b (u ++ r)) = true ↔
    ¬ (ensM b.r1 (rn (t1, []) (akS b.r1) r).1).map (fun x => soL b.r1 (rnA b.r1 u).2 ++ (soL b.r1 (rn (t1, []) (akS b.r1) r).2 ++ x)) = (ensM b.r2 (rn (t2, []) (akS b.r2) r).1).map (fun x => soL b.r2 (rnA b.r2 u).2 ++ (soL b.r2 (rn (t2, []) (akS b.r2) r).2 ++ x)) := by
  rw [rnP_eq] at h
  have h1 : (rnA b.r1 u).1 = t1 := congrArg (·.1) h
  have h2 : (rnA b.r2 u).1 = t2 := congrArg (·.2.1) h
  have h3 : rnL b.es u = none := congrArg (·.2.2) h
  have a1 : rnA b.r1 (u ++ r) = ((rn (t1, []) (akS b.r1) r).1, (rnA b.r1 u).2 ++ (rn (t1, []) (akS b.r1) r).2) := by
    show rn (some [35], []) (akS b.r1) (u ++ r) = _
    rw [rn_app, show rn (some [35], []) (akS b.r1) u = (t1, (rnA b.r1 u).2) from by rw [← h1]]
    exact ak_split _ _ _ _
  have a2 : rnA b.r2 (u ++ r) = ((rn (t2, []) (akS b.r2) r).1, (rnA b.r2 u).2 ++ (rn (t2, []) (akS b.r2) r).2) := by
    show rn (some [35], []) (akS b.r2) (u ++ r) = _
    rw [rn_app, show rn (some [35], []) (akS b.r2) u = (t2, (rnA b.r2 u).2) from by rw [← h2]]
    exact ak_split _ _ _ _
  have a3 : rnL b.es (u ++ r) = none := by
    show rn (some []) (lgS b.es) (u ++ r) = none
    rw [rn_app, show rn (some []) (lgS b.es) u = none from h3]
    exact rnL_none _ _
  rw [rnP_eq, a1, a2, a3]
  unfold fdP
  simp only
  rw [if_neg (by unfold isE; simp), rst_iff _ _ _ rfl]
  simp only [soL_app, List.append_assoc]
theorem two_parted (b : Bks) : Two pa0 (paS b) (fdP b) := by
  intro u1 u2 u3 r h1 h2 h3 hf
  cases e : (rnP b u3).1.2.2 with
  | some s =>
    exfalso
    have k : ∀ u, (rnP b u).1 = (rnP b u3).1 → u = s := fun u hu => by
      have : rnL b.es u = some s := by
        have e' : (rnP b u).1.2.2 = some s := by rw [hu]; exact e
        rw [rnP_eq] at e'
        exact e'
      exact ((rnL_some u s this).1).symm
    rw [k u1 h1, k u2 h2] at h3
    exact h3 rfl
  | none =>
    have hw : ∀ u, (rnP b u).1 = (rnP b u3).1 → (rnP b u).1 = ((rnP b u3).1.1, (rnP b u3).1.2.1, none) := fun u hu => by rw [hu, ← e]
    have f1 := fd_rest (r := r) (hw u1 h1)
    have f2 := fd_rest (r := r) (hw u2 h2)
    have f3 := fd_rest (r := r) (hw u3 rfl)
    have f3' := f3.mp hf
    generalize rn ((rnP b u3).1.1, []) (akS b.r1) r = p at f1 f2 f3'
    generalize rn ((rnP b u3).1.2.1, []) (akS b.r2) r = p2 at f1 f2 f3'
    refine Classical.byContradiction fun n => ?_
    have n1 : ¬ fdP b (rnP b (u1 ++ r)) = true := fun z => n (.inl z)
    have n2 : ¬ fdP b (rnP b (u2 ++ r)) = true := fun z => n (.inr z)
    have g1 := Classical.not_not.mp (mt f1.mpr n1)
    have g2 := Classical.not_not.mp (mt f2.mpr n2)
    cases x1 : ensM b.r1 p.1 with
    | none =>
      cases x2 : ensM b.r2 p2.1 with
      | none => rw [x1, x2] at f3'; exact f3' rfl
      | some y => rw [x1, x2] at g1; cases g1
    | some x =>
      cases x2 : ensM b.r2 p2.1 with
      | none => rw [x1, x2] at g1; cases g1
      | some y =>
        rw [x1, x2] at g1 g2
        refine h3 ?_
        show (rnP b u1).2 = (rnP b u2).2
        rw [rnP_eq, rnP_eq]
        exact lead_same (Option.some.inj g1) (Option.some.inj g2)
/-! ### how many wheres there are -/
def wheres (L : List Nat) (b : Bks) : List PW_ := (tails L).flatMap fun x => (tails L).flatMap fun y => (none :: some [] :: (stems b.es).map some).map fun z => (x, y, z)
theorem rnP_mem {b : Bks} (ho : BksOk b) {L w : List Nat} (hw : ∀ c ∈ w, c ∈ L) : (rnP b w).1 ∈ wheres L b := by
  rw [rnP_eq]
  unfold wheres
  refine List.mem_flatMap.mpr ⟨_, rnT_mem ho.h1 hw, List.mem_flatMap.mpr ⟨_, rnT_mem ho.h2 hw, List.mem_map.mpr ⟨rnL b.es w, ?_, by rw [rnA_fst, rnA_fst]⟩⟩⟩
  cases e : rnL b.es w with
  | none => exact List.mem_cons_self ..
  | some u =>
    refine List.mem_cons_of_mem _ ?_
    rcases (rnL_some w u e).2 with rfl | h
    · exact List.mem_cons_self ..
    · exact List.mem_cons_of_mem _ (List.mem_map.mpr ⟨u, h, rfl⟩)
theorem flat_const {α β : Type} (f : α → List β) (n : Nat) : ∀ l : List α, (∀ x ∈ l, (f x).length = n) → (l.flatMap f).length = l.length * n
  | [], _ => by simp
  | x :: r, h => by
    rw [List.flatMap_cons, List.length_append, flat_const f n r fun y hy => h y (List.mem_cons_of_mem _ hy), h x (List.mem_cons_self ..), List.length_cons, Nat.add_mul, Nat.one_mul, Nat.add_comm]
theorem wheres_len (L : List Nat) (b : Bks) : (wheres L b).length = (tails L).length * ((tails L).length * ((stems b.es).length + 2)) := by
  unfold wheres
  refine flat_const _ _ _ fun x _ => flat_const _ _ _ fun y _ => ?_
  simp
theorem rnP_lens (b : Bks) (ho : BksOk b) (w : List Nat) : (∀ t, (rnP b w).1.1 = some t → 1 ≤ t.length ∧ t.length ≤ 3) ∧ (∀ t, (rnP b w).1.2.1 = some t → 1 ≤ t.length ∧ t.length ≤ 3) ∧ (rnP b w).2.1.length ≤ 3 * w.length + 1 ∧ (rnP b w).2.2.length ≤ 3 * w.length + 1 ∧ (∀ u, (rnP b w).1.2.2 = some u → u = w) ∧ LdOk (rnP b w).2 := by
  rw [rnP_eq]
  obtain ⟨a1, a2⟩ := rnA_num b.r1 w
  obtain ⟨c1, c2⟩ := rnA_num b.r2 w
  have f1 := flat_len ho.h1 _ a1
  have f2 := flat_len ho.h2 _ c1
  obtain ⟨l1, l2⟩ := leadM_len (soL b.r1 (rnA b.r1 w).2) (soL b.r2 (rnA b.r2 w).2)
  refine ⟨fun t h => rnT_len ho.h1 ((rnA_fst _ _).symm.trans h), fun t h => rnT_len ho.h2 ((rnA_fst _ _).symm.trans h), ?_, ?_, fun u h => (rnL_some w u h).1, leadM_sign (soL_sign ho.s1 a1) (soL_sign ho.s2 c1)⟩
  · show (leadM _ _).1.length ≤ _; omega
  · show (leadM _ _).2.length ≤ _; omega
end Say
namespace SrtT
open PySem PySem.Spec PyProof.Rows L2 SrtO
/-- by the first text, then by the second -/
def lexT (p q : Str × Str) : Bool := if p.1 = q.1 then decide (p.2.cps.toList < q.2.cps.toList) else decide (p.1.cps.toList < q.1.cps.toList)
theorem str_of {x y : Str} (h : x.cps.toList = y.cps.toList) : x = y := TL.ext_tl h
theorem lexT_no {p q : Str × Str} : lexT p q = false ↔ (q.1.cps.toList < p.1.cps.toList ∨ (p.1 = q.1 ∧ q.2.cps.toList ≤ p.2.cps.toList)) := by
  unfold lexT
  by_cases h : p.1 = q.1
  · rw [if_pos h]
    constructor
    · intro z
      exact .inr ⟨h, List.not_lt.mp (of_decide_eq_false z)⟩
    · rintro (z | ⟨_, z⟩)
      · rw [h] at z
        exact absurd z (List.lt_irrefl _)
      · exact decide_eq_false (List.not_lt.mpr z)
  · rw [if_neg h]
    constructor
    · intro z
      have le := List.not_lt.mp (of_decide_eq_false z)
      refine .inl ?_
      refine Decidable.byContradiction fun n => h (str_of (List.le_antisymm (List.not_lt.mp n) le))
    · rintro (z | ⟨e, _⟩)
      · exact decide_eq_false (List.not_lt.mpr (List.le_of_lt z))
      · exact absurd e h
theorem lexT_yes {p q : Str × Str} (h : lexT p q = true) : p.1.cps.toList < q.1.cps.toList ∨ (p.1 = q.1 ∧ p.2.cps.toList < q.2.cps.toList) := by
  unfold lexT at h
  by_cases e : p.1 = q.1
  · rw [if_pos e] at h
    exact .inr ⟨e, of_decide_eq_true h⟩
  · rw [if_neg e] at h
    exact .inl (of_decide_eq_true h)
theorem swoT {α : Type} (k : α → Str × Str) : Swo fun v u => lexT (k v) (k u) := by
  refine ⟨fun x y h => ?_, fun x y z h1 h2 => ?_⟩
  · refine lexT_no.mpr ?_
    rcases lexT_yes h with q | ⟨e, q⟩
    · exact .inl q
    · exact .inr ⟨e.symm, List.le_of_lt q⟩
  · refine lexT_no.mpr ?_
    rcases lexT_no.mp h1 with a | ⟨e, a⟩
    · rcases lexT_no.mp h2 with b | ⟨e', b⟩
      · exact .inl (List.lt_trans a b)
      · exact .inl (by rw [e']; exact a)
    · rcases lexT_no.mp h2 with b | ⟨e', b⟩
      · exact .inl (by rw [← e]; exact b)
      · exact .inr ⟨e'.trans e, List.le_trans a b⟩
/-- v is a tuple of the two texts -/
def IsTx (h : Heap) (v : Value) (x y : Str) : Prop := ∃ a o t u n, v = .ref a ∧ h.get? a = some o ∧ o.cls = .type "tuple" ∧ o.data = .seq #[.str x t, .str y u] n
theorem IsTx.keeps {h h' : Heap} {v : Value} {x y : Str} (p : IsTx h v x y) (k : ∀ b o, h.get? b = some o → o.cls = .type "tuple" → h'.get? b = some o) : IsTx h' v x y := by
  obtain ⟨a, o, t, u, n, e, obO, clC, dtD⟩ := p
  exact ⟨a, o, t, u, n, e, k _ _ obO clC, clC, dtD⟩
section
variable {prog : Program} {w : World} {A : Around} {E : Value → Shared → Prop} {s : Shared}
theorem tx_cmp {vs : List Value} {k : Value → Str × Str} (txP : ∀ v ∈ vs, IsTx s.heap v (k v).1 (k v).2) : Cmp prog w A s (tuples' true) (fun p => p.1 ∈ vs) (lt2 fun v u => lexT (k v) (k u)) := by
  intro p q hm hm'
  have h1 := txP _ hm
  have h2 := txP _ hm'
  show wpAny (model prog w) A (keyLt' (tuples' true) p.1 q.1) (fun r s' => s' = s ∧ r = lexT (k p.1) (k q.1)) (fun _ _ => False) s
  unfold lexT
  generalize (k p.1).1 = x at h1 ⊢
  generalize (k p.1).2 = y at h1 ⊢
  generalize (k q.1).1 = x' at h2 ⊢
  generalize (k q.1).2 = y' at h2 ⊢
  obtain ⟨a, o, t, u, n, e, obO, clC, dtD⟩ := h1
  obtain ⟨a', o', t', u', n', e', ho', hc', hd'⟩ := h2
  rw [e, e']
  refine PySem.W.kat_lt obO dtD ho' hd' ?_
  show PySem.W.KatLex prog w A true (decide (2 < 2)) _ [(.str x t, .str x' t'), (.str y u, .str y' u')] 0 s
  refine PySem.W.kat_cons (SeqAt.EqAt.str_str x t x' t' prog w _ _ ?_)
  refine PySem.W.kat_go (fun q1 => ?_) (fun q1 => ?_)
  · have ex : x = x' := by simpa using q1
    refine PySem.W.kat_yes (PySem.W.kat_cons (SeqAt.EqAt.str_str y u y' u' prog w _ _ ?_))
    refine PySem.W.kat_go (fun q2 => ?_) (fun q2 => ?_)
    · have ey : y = y' := by simpa using q2
      have q3 : (if x = x' then decide (y.cps.toList < y'.cps.toList) else decide (x.cps.toList < x'.cps.toList)) = false := by
        rw [if_pos ex, ey]
        exact decide_eq_false (List.lt_irrefl _)
      exact PySem.W.kat_yes (PySem.W.kat_nil ⟨rfl, q3.symm⟩)
    · have q3 : (if x = x' then decide (y.cps.toList < y'.cps.toList) else decide (x.cps.toList < x'.cps.toList)) = decide (y.cps.toList < y'.cps.toList) := if_pos ex
      refine PySem.W.kat_no (PySem.W.kat_one _ _ (PyProof.Rows.lt_str ?_))
      exact (show s = s ∧ decide (y.cps.toList < y'.cps.toList) = (if x = x' then decide (y.cps.toList < y'.cps.toList) else decide (x.cps.toList < x'.cps.toList)) from ⟨rfl, q3.symm⟩)
  · have ex : ¬ x = x' := by simpa using q1
    have q3 : (if x = x' then decide (y.cps.toList < y'.cps.toList) else decide (x.cps.toList < x'.cps.toList)) = decide (x.cps.toList < x'.cps.toList) := if_neg ex
    exact PySem.W.kat_no (oneLt_str ⟨rfl, q3.symm⟩)
theorem firsts_tx {h : Heap} : ∀ {vs : List Value}, (∀ v ∈ vs, ∃ x y, IsTx h v x y) → ∃ fs, PySem.W.KatTups h vs fs ∧ fs.length = vs.length ∧ ∀ f ∈ fs, ∃ x t, f = Value.str x t
  | [], _ => ⟨[], trivial, rfl, fun _ h => nomatch h⟩
  | v :: vs, txP => by
    obtain ⟨x, y, a, o, t, u, n, rfl, obO, clC, dtD⟩ := txP v (List.mem_cons_self ..)
    obtain ⟨fs, h1, h2, h3⟩ := firsts_tx (vs := vs) fun v inV => txP v (List.mem_cons_of_mem _ inV)
    refine ⟨.str x t :: fs, .cons obO clC dtD rfl h1, by simp [h2], fun f fresh0 => ?_⟩
    rcases List.mem_cons.mp fresh0 with rfl | fresh0
    · exact ⟨_, _, rfl⟩
    · exact h3 f fresh0
theorem tx_sortable {a : Addr} {vs : List Value} {k : Value → Str × Str} (h0 : 0 < vs.length) (txP : ∀ v ∈ vs, IsTx s.heap v (k v).1 (k v).2) (atA : ∀ o, s.heap.get? a = some o → o.cls ≠ .type "tuple") : SortableO prog w A s a vs fun v u => lexT (k v) (k u) := by
  intro h' keep
  have hp' : ∀ v ∈ vs, IsTx h' v (k v).1 (k v).2 := fun v hm => (txP v hm).keeps fun b o e c => keep b o (fun z => by subst z; exact atA o e c) e
  obtain ⟨fs, h1, h2, h3⟩ := firsts_tx fun v hm => ⟨_, _, hp' v hm⟩
  refine ⟨tuples' true, fun Q E isT => ?_, tx_cmp hp'⟩
  refine PySem.W.kat_kind (T := .type "str") h1 (by omega) (fun f hm => ?_) (by rfl) ?_
  · obtain ⟨x, t, rfl⟩ := h3 f hm
    exact PySem.W.Looks.now
  · have e : (Value.type "str" != Value.type "tuple") = true := by first | decide +kernel | rfl | decide
    rw [e]
    exact isT
end
/-- the texts of a tuple of two -/
def txOf (h : Heap) (v : Value) : Str × Str := match v with
  | .ref a => match h.get? a with
    | some o => match o.data with
      | .seq its _ => match its.toList with
        | [.str x _, .str y _] => (x, y)
        | _ => (Str.empty, Str.empty)
      | _ => (Str.empty, Str.empty)
    | none => (Str.empty, Str.empty)
  | _ => (Str.empty, Str.empty)
theorem IsTx.tx {h : Heap} {v : Value} {x y : Str} (p : IsTx h v x y) : txOf h v = (x, y) := by
  obtain ⟨a, o, t, u, n, rfl, obO, clC, dtD⟩ := p
  unfold txOf
  simp only [obO, dtD]
end SrtT
namespace Say
open PySem PySem.Spec PyProof.Rows L2 L2.DX
section
variable {X : Cx}
/-- d.items() of a dict with int and text keys -/
def rItemsK : V → List V → Hp → VK → Prop := fun x xs H Q => ∃ (a : Addr) (kvs : List (Key × V)), x = .ref a ∧ xs = [] ∧ H a = some (.dK kvs) ∧ ∀ p, H p = none → Q (.ref p) (upd H p (itemsO p a))
theorem mt_itemsK : MtR X "dict.items" rItemsK := by
  intro pn s σ H x xs v args Q I rx rxs h
  obtain ⟨a, kvs, rfl, rfl, atA, q⟩ := h
  cases rx
  cases rxs
  obtain ⟨szT, dtD, vs, kv, o, es, ep, obO, atI0, hdat, _⟩ := (show ObjOk X.prog X.w H s.heap a (.dK kvs) from I.hok a _ atA)
  refine DT.callItems (es := es) (ep := ep) dtD ⟨o, obO, atI0, hdat⟩ ?_
  have fresh0 : H s.heap.objs.size = none := I.hok.fresh (Nat.le_refl _)
  exact ⟨.ref s.heap.objs.size, upd H s.heap.objs.size (itemsO s.heap.objs.size a), I.laid (t' := s.toks) (fun b u e => Heap.get?_push_of_some _ e) (Nat.le_refl _) (itemsO_ok (Heap.get?_push_size _ rfl)), rfl, q _ fresh0⟩
abbrev entS (e : Str × Str) : Key × V := (Sum.inr e.1, V.str e.2)
/-- sorted(d.items()), keys and values texts -/
def rSortTx : List V → Hp → VK → Prop := fun vs H Q => ∃ (p a : Addr) (es : List (Str × Str)), vs = [.ref p] ∧ H p = some (itemsO p a) ∧ H a = some (.dK (es.map entS)) ∧ es.length ≤ 1000 ∧
  ∀ (H' : Hp) (l : Addr) (ps : List (Addr × Str × Str)), (∀ b o, H b = some o → H' b = some o) → (ps.map (·.2)).Perm es → (ps.map (·.2)).Pairwise (fun e f => SrtT.lexT f e = false) → H l = none → H' l = some (.lst (ps.map fun z => V.ref z.1)) →
    (∀ z ∈ ps, H' z.1 = some (.tup [.str z.2.1, .str z.2.2])) → Q (.ref l) H'
theorem key_txt {x : Str} {v : Value} (h : keyIs (Sum.inr x : Key) v = true) : ∃ t, v = .str x t := by
  rcases keyIs_shape h with ⟨i, t, e, rfl⟩ | ⟨y, t, e, rfl⟩
  · cases e
  · cases e
    exact ⟨t, rfl⟩
theorem ent_at {P : Program} {w : World} : ∀ {l : List DictEntry} {vs : List (Key × Value)} {ks : List (Str × Str)}, Pairs (mixKind P w) l vs → KV (ks.map entS) vs → Paired (fun (e : DictEntry) (k : Str × Str) => (∃ t, e.key = .str k.1 t) ∧ ∃ u, e.val = .str k.2 u) l ks
  | [], _, ks, .nil, kv => by
    cases ks with
    | nil => exact .nil
    | cons k r => cases kv
  | e :: l, _, ks, .cons h1 h2 h3, kv => by
    cases ks with
    | nil => cases kv
    | cons k r =>
      cases kv with
      | cons g1 g2 =>
        refine .cons ⟨?_, ?_⟩ (ent_at h3 g2)
        · obtain ⟨g3, g4⟩ := g1
          rw [← g3] at h1
          exact key_txt h1
        · rw [h2]
          exact g1.2
def adr : Value → Addr
  | .ref a => a
  | _ => 0
theorem cr_sortedTx (clC : X.calm = true) : CallR X (.builtin "sorted") rSortTx := by
  intro pn s σ H xs args Q I r h
  obtain ⟨p, a, ks, rfl, txP, atA, h64, q⟩ := h
  obtain rfl := Vals.ref1 r
  have vw : s.heap.IsItemsView p a := (show ObjOk X.prog X.w H s.heap p (itemsO p a) from I.hok p _ txP).1
  obtain ⟨szT, dtD, vs, kv, o, es, ep, obO, atI0, hdat, hKo, hPs, hn⟩ := (show ObjOk X.prog X.w H s.heap a (.dK (ks.map entS)) from I.hok a _ atA)
  have ents := ent_at hPs kv
  have l0 : es.size = ks.length := by rw [← Array.length_toList]; exact paired_len ents
  have noH : X.A.handled = none := I.ok.hd clC
  refine DT.sortedI (es := es) (ep := ep) noH vw ⟨o, obO, atI0, hdat⟩ (by rw [sizeLine_eq]; omega) fun h' tkn adrs kpT ltN lnT mdG => ?_
  have lenA : adrs.length = ks.length := by omega
  have nodupA : adrs.Nodup := List.Pairwise.imp (fun h => Nat.ne_of_lt h) mdG.rise
  have prs : ∀ (j : Nat) (b : Addr), adrs[j]? = some b → ∃ (e : Str × Str) (t u : Tok), ks[j]? = some e ∧ h'.get? b = some { cls := .type "tuple", data := .seq #[Value.str e.1 t, Value.str e.2 u] } := by
    intro j b atJ
    obtain ⟨en', hEn, gW⟩ := mdG.pairs j b atJ
    rw [← Array.getElem?_toList] at hEn
    obtain ⟨e, q1, ⟨t, q2⟩, ⟨u, q3⟩⟩ := paired_at ents hEn
    exact ⟨e, t, u, q1, by rw [gW, q2, q3]⟩
  have atL : (h'.push { cls := .type "list", data := .seq (adrs.map Value.ref).toArray }).get? h'.objs.size = some (seqObj "list" (adrs.map Value.ref).toArray 0) := Heap.get?_push_size _ rfl
  have kpS : ∀ b o, s.heap.get? b = some o → (h'.push { cls := .type "list", data := .seq (adrs.map Value.ref).toArray }).get? b = some o := fun b o e => Heap.get?_push_of_some _ (kpT b o e)
  have neL : ∀ b o, h'.get? b = some o → b ≠ h'.objs.size := fun b o e => Nat.ne_of_lt (Heap.lt_size e)
  generalize hh2 : h'.push { cls := .type "list", data := .seq (adrs.map Value.ref).toArray } = h2 at atL kpS ⊢
  have kpM : ∀ b o, h'.get? b = some o → h2.get? b = some o := fun b o e => by rw [← hh2]; exact Heap.get?_push_of_some _ e
  have pin : ∀ (j : Nat) (b : Addr) (e : Str × Str), adrs[j]? = some b → ks[j]? = some e → SrtT.IsTx h2 (.ref b) e.1 e.2 := by
    intro j b e atJ hEn
    obtain ⟨e', t, u, he', gW⟩ := prs j b atJ
    cases he'.symm.trans hEn
    exact ⟨b, _, t, u, 0, rfl, kpM _ _ gW, rfl, rfl⟩
  have allTx : ∀ v ∈ adrs.map Value.ref, SrtT.IsTx h2 v (SrtT.txOf h2 v).1 (SrtT.txOf h2 v).2 := by
    intro v hv'
    obtain ⟨b, hb, rfl⟩ := List.mem_map.mp hv'
    obtain ⟨j, atJ⟩ := List.mem_iff_getElem?.mp hb
    obtain ⟨e, t, u, hEn, _⟩ := prs j b atJ
    have := pin j b e atJ hEn
    rw [this.tx]
    exact this
  have mapTx : (adrs.map Value.ref).map (SrtT.txOf h2) = ks := by
    refine List.ext_getElem? fun j => ?_
    rw [List.getElem?_map, List.getElem?_map]
    cases atJ : adrs[j]? with
    | none =>
      have := List.getElem?_eq_none_iff.mp atJ
      rw [List.getElem?_eq_none (by omega)]
      rfl
    | some b =>
      obtain ⟨e, t, u, hEn, _⟩ := prs j b atJ
      rw [hEn]
      show some (SrtT.txOf h2 (.ref b)) = some e
      rw [(pin j b e atJ hEn).tx]
  refine wpAny_call_entry PyProof.Rows.slot_list_sort ⟨_, atL, rfl⟩ PyProof.Rows.entry_list_sort
    (SrtO.list_sort_ord (s := { s with heap := h2, toks := tkn }) (SrtT.swoT (SrtT.txOf h2)) atL (by rw [List.length_map, sizeLine_eq]; omega) (fun h2' => SrtT.tx_sortable (by omega) allTx fun o e => ?_) fun out o1 o2 => ⟨.none, rfl, ?_⟩) (PyProof.Rows.args_list_sort _)
  · have e : h2.get? h'.objs.size = some o := e
    rw [atL] at e
    cases e
    intro c
    exact absurd (Value.type.inj c) (by decide)
  · show EP X pn σ Q (.ref h'.objs.size) { s with heap := sortedHeap h2 h'.objs.size (adrs.map Value.ref) out.toArray, toks := tkn }
    have hrf : ∀ v ∈ out, v = .ref (adr v) := fun v inV => by
      obtain ⟨b, _, rfl⟩ := List.mem_map.mp (o2.perm.mem_iff.mp inV)
      rfl
    have kpF : ∀ b o, b ≠ h'.objs.size → h2.get? b = some o → (sortedHeap h2 h'.objs.size (adrs.map Value.ref) out.toArray).get? b = some o := fun b o hb e => (PyProof.Rows.sortedHeap_old hb (Heap.lt_size e)).trans e
    have kpAll : ∀ b o, s.heap.get? b = some o → (sortedHeap h2 h'.objs.size (adrs.map Value.ref) out.toArray).get? b = some o := fun b o e => kpF b o (neL _ _ (kpT b o e)) (kpS b o e)
    obtain ⟨sdF, atF⟩ := PyProof.Rows.sortedHeap_at (vs := adrs.map Value.ref) (out := out.toArray) atL
    have I1 : Inv X pn σ H { s with heap := sortedHeap h2 h'.objs.size (adrs.map Value.ref) out.toArray, toks := tkn } := I.kept (t' := tkn) kpAll
    have noL : H h'.objs.size = none := I.hok.fresh (Nat.le_of_lt ltN)
    have prm : ((out.map fun v => (adr v, SrtT.txOf h2 v)).map (·.2)).Perm ks := by
      have e := o2.perm.map (SrtT.txOf h2)
      rw [mapTx] at e
      rw [List.map_map]
      exact e
    have srtd0 : ((out.map fun v => (adr v, SrtT.txOf h2 v)).map (·.2)).Pairwise (fun e f => SrtT.lexT f e = false) := by
      rw [List.map_map, List.pairwise_map]
      exact o1
    have len0 : ((out.map fun v => (adr v, SrtT.txOf h2 v)).map fun z => V.ref z.1).length ≤ sizeLine := by
      have e := prm.length_eq
      rw [List.length_map] at e
      rw [List.length_map, sizeLine_eq]
      omega
    have rel : ∀ l : List Value, (∀ v ∈ l, v = .ref (adr v)) → Vals ((l.map fun v => (adr v, SrtT.txOf h2 v)).map fun z => V.ref z.1) l := by
      intro l
      induction l with
      | nil => intro _; exact .nil
      | cons v l ih =>
        intro inV
        refine .cons ?_ (ih fun u getU => inV u (List.mem_cons_of_mem _ getU))
        have := inV v (List.mem_cons_self ..)
        exact this
    have I2 : Inv X pn σ (upd H h'.objs.size (.lst ((out.map fun v => (adr v, SrtT.txOf h2 v)).map fun z => V.ref z.1))) { s with heap := sortedHeap h2 h'.objs.size (adrs.map Value.ref) out.toArray, toks := tkn } :=
      I1.take (h' := sortedHeap h2 h'.objs.size (adrs.map Value.ref) out.toArray) (t' := tkn) (fun b ob _ e => e) (I.fpOk (Nat.le_of_lt ltN) noL) ⟨len0, out, sdF, rel out hrf, atF⟩
    obtain ⟨H2, I3, g, tps⟩ := takeT (P := fun b vs => ∃ (j : Nat) (e : Str × Str), adrs[j]? = some b ∧ ks[j]? = some e ∧ vs = [.str e.1, .str e.2]) I adrs _ I2 nodupA fun b hb => by
      obtain ⟨j, atJ⟩ := List.mem_iff_getElem?.mp hb
      obtain ⟨e, t, u, hEn, gW⟩ := prs j b atJ
      have geB : s.heap.objs.size ≤ b := Nat.le_of_lt (mdG.above b hb)
      refine ⟨geB, ?_, [.str e.1, .str e.2], ⟨j, e, atJ, hEn, rfl⟩, fun H3 => ⟨(by rw [sizeLine_eq]; show 2 ≤ 16777216; omega), [Value.str e.1 t, Value.str e.2 u], .cons ⟨t, rfl⟩ (.cons ⟨u, rfl⟩ .nil), ⟨_, kpF _ _ (neL _ _ gW) (kpM _ _ gW), rfl, 0, rfl⟩⟩⟩
      rw [upd_ne (neL _ _ gW)]
      exact I.hok.fresh geB
    have grow : ∀ b o, H b = some o → H2 b = some o := fun b o e => g b o (by rw [upd_ne (ne_of_none e noL)]; exact e)
    refine ⟨.ref h'.objs.size, H2, I3, rfl, q H2 h'.objs.size _ grow prm srtd0 noL (g _ _ upd_same) fun z' hz' => ?_⟩
    obtain ⟨v, inV, rfl⟩ := List.mem_map.mp hz'
    obtain ⟨b, hb, e⟩ := List.mem_map.mp (o2.perm.mem_iff.mp inV)
    subst e
    obtain ⟨vs', ⟨j, e, j1, j2, ev⟩, hH⟩ := tps b hb
    show H2 b = some (.tup [.str (SrtT.txOf h2 (.ref b)).1, .str (SrtT.txOf h2 (.ref b)).2])
    rw [(pin j b e j1 j2).tx, hH, ev]
end
end Say
namespace Say
open PySem PySem.Spec PyProof.Rows L2
/-! ### the exceptions of a dict -/
def ent (e : Exc) : Key × V := (Sum.inr (T e.1), V.str (T e.2))
def putE (es : List Exc) (wd so : List Nat) : List Exc := if (es.any fun e => decide (e.1 = wd)) = true then es.map (fun e => if e.1 = wd then (e.1, so) else e) else es ++ [(wd, so)]
theorem key_eq {a b : List Nat} : ((Sum.inr (T a) : Key) = Sum.inr (T b)) ↔ a = b := ⟨fun h => T_inj (Sum.inr.inj h), fun h => by rw [h]⟩
theorem any_ent (wd : List Nat) : ∀ es : List Exc, ((es.map ent).any fun kv => decide (kv.1 = (Sum.inr (T wd) : Key))) = es.any fun e => decide (e.1 = wd)
  | [] => rfl
  | e :: r => by
    rw [List.map_cons, List.any_cons, List.any_cons, any_ent wd r]
    congr 1
    exact decide_eq_decide.mpr key_eq
theorem put_ent (es : List Exc) (wd so : List Nat) : putK (es.map ent) (Sum.inr (T wd) : Key) (V.str (T so)) = (putE es wd so).map ent := by
  unfold putK putE
  rw [any_ent]
  by_cases c : (es.any fun e => decide (e.1 = wd)) = true
  · rw [if_pos c, if_pos c, List.map_map, List.map_map]
    refine List.map_congr_left fun e _ => ?_
    show (if (ent e).1 = (Sum.inr (T wd) : Key) then ((ent e).1, V.str (T so)) else ent e) = ent (if e.1 = wd then (e.1, so) else e)
    by_cases h : e.1 = wd
    · rw [if_pos h, if_pos (show (ent e).1 = (Sum.inr (T wd) : Key) from key_eq.mpr h)]
      rfl
    · rw [if_neg h, if_neg (show ¬ (ent e).1 = (Sum.inr (T wd) : Key) from fun z => h (key_eq.mp z))]
  · rw [if_neg c, if_neg c, List.map_append]
    rfl
theorem putE_len (es : List Exc) (wd so : List Nat) : (putE es wd so).length ≤ es.length + 1 := by
  unfold putE
  split
  · rw [List.length_map]; omega
  · rw [List.length_append]; exact Nat.le_refl _
theorem putE_ok {L : List Nat} {es : List Exc} {wd so : List Nat} (h : ∀ e ∈ es, ExcOk L e) (h1 : ExcOk L (wd, so)) : ∀ e ∈ putE es wd so, ExcOk L e := by
  intro e he
  unfold putE at he
  split at he
  · obtain ⟨e', he', rfl⟩ := List.mem_map.mp he
    by_cases c : e'.1 = wd
    · rw [if_pos c, c]
      exact h1
    · rw [if_neg c]
      exact h e' he'
  · rcases List.mem_append.mp he with he | he
    · exact h e he
    · rw [List.mem_singleton.mp he]
      exact h1
theorem putE_nd {es : List Exc} {wd so : List Nat} (h : (es.map (·.1)).Nodup) : ((putE es wd so).map (·.1)).Nodup := by
  unfold putE
  split
  · rename_i c
    rw [List.map_map]
    have : es.map ((·.1) ∘ fun e : Exc => if e.1 = wd then (e.1, so) else e) = es.map (·.1) := List.map_congr_left fun e _ => by
      show (if e.1 = wd then (e.1, so) else e).1 = e.1
      split <;> rfl
    rw [this]
    exact h
  · rename_i c
    rw [List.map_append]
    refine List.nodup_append.mpr ⟨h, by simp, fun a ha b hb => ?_⟩
    intro z
    refine c (List.any_eq_true.mpr ?_)
    obtain ⟨e, he, rfl⟩ := List.mem_map.mp ha
    have hb : b = wd := by simpa using hb
    exact ⟨e, he, decide_eq_true (by rw [← hb]; exact z)⟩
/-- by its word there is one exception at most -/
theorem one_of {es : List Exc} (h : (es.map (·.1)).Nodup) {e f : Exc} (he : e ∈ es) (hf : f ∈ es) (hw : e.1 = f.1) : e = f := by
  obtain ⟨i, hi⟩ := List.mem_iff_getElem?.mp he
  obtain ⟨j, hj⟩ := List.mem_iff_getElem?.mp hf
  have e1 : (es.map (·.1))[i]? = some e.1 := by rw [List.getElem?_map, hi]; rfl
  have e2 : (es.map (·.1))[j]? = some e.1 := by rw [List.getElem?_map, hj, hw]; rfl
  have := nd_ix h e1 e2
  subst this
  exact Option.some.inj (hi.symm.trans hj)
theorem valV_ent {es : List Exc} (h : (es.map (·.1)).Nodup) {e : Exc} (he : e ∈ es) : valV (es.map ent) (Sum.inr (T e.1) : Key) = some (V.str (T e.2)) := by
  unfold valV
  cases hf : (es.map ent).find? fun kv => decide (kv.1 = (Sum.inr (T e.1) : Key)) with
  | none =>
    have := List.find?_eq_none.mp hf (ent e) (List.mem_map.mpr ⟨e, he, rfl⟩)
    exact absurd (decide_eq_true rfl) this
  | some kv =>
    have h1 := List.find?_some hf
    obtain ⟨f, hfm, rfl⟩ := List.mem_map.mp (List.mem_of_find?_eq_some hf)
    have h2 : f.1 = e.1 := key_eq.mp (of_decide_eq_true h1)
    rw [one_of h hfm he h2]
    rfl
theorem find_ent {es : List Exc} (h : (es.map (·.1)).Nodup) {e : Exc} (he : e ∈ es) : es.find? (fun f => decide (f.1 = e.1)) = some e := by
  cases hf : es.find? fun f => decide (f.1 = e.1) with
  | none => exact absurd (decide_eq_true rfl) (List.find?_eq_none.mp hf e he)
  | some f => rw [one_of h (List.mem_of_find?_eq_some hf) he (of_decide_eq_true (List.find?_some (p := fun f : Exc => decide (f.1 = e.1)) hf))]
/-! ### sorted -/
theorem uniq_sorted {α : Type} {r : α → α → Prop} (as : ∀ a b, r a b → ¬ r b a) : ∀ {l m : List α}, l.Perm m → l.Pairwise r → m.Pairwise r → l = m
  | [], m, p, _, _ => (List.Perm.eq_nil p.symm).symm
  | a :: l, [], p, _, _ => absurd p.length_eq (by simp)
  | a :: l, b :: m, p, h1, h2 => by
    have ha := p.mem_iff.mp (List.mem_cons_self (a := a) (l := l))
    have hb := p.mem_iff.mpr (List.mem_cons_self (a := b) (l := m))
    have e : a = b := by
      rcases List.mem_cons.mp ha with e | ha
      · exact e
      · rcases List.mem_cons.mp hb with e | hb
        · exact e.symm
        · exact absurd ((List.pairwise_cons.mp h1).1 b hb) (as _ _ ((List.pairwise_cons.mp h2).1 a ha))
    subst e
    rw [uniq_sorted as p.cons_inv (List.pairwise_cons.mp h1).2 (List.pairwise_cons.mp h2).2]
theorem lt_asym (a b : List Nat) (h : a < b) : ¬ b < a := List.lt_asymm h
theorem le_of_ltCps {a b : List Nat} (h : ltCps b a = false) : a ≤ b := by
  rw [ltCps_eq] at h
  exact List.not_lt.mp (of_decide_eq_false h)
theorem rising_pw : ∀ (l : List Str) (p : Str), risingS p l = true → (p :: l).Pairwise fun a b => a.cps.toList ≤ b.cps.toList
  | [], p, _ => List.pairwise_singleton _ _
  | x :: r, p, h => by
    have h : (!ltCps x.cps.toList p.cps.toList && risingS x r) = true := h
    rw [Bool.and_eq_true] at h
    have ih := rising_pw r x h.2
    have px : p.cps.toList ≤ x.cps.toList := le_of_ltCps (by simpa using h.1)
    refine List.pairwise_cons.mpr ⟨fun y hy => ?_, ih⟩
    rcases List.mem_cons.mp hy with rfl | hy
    · exact px
    · exact List.le_trans px ((List.pairwise_cons.mp ih).1 y hy)
theorem sortedS_pw : ∀ {l : List Str}, sortedS l = true → l.Pairwise fun a b => a.cps.toList ≤ b.cps.toList
  | [], _ => .nil
  | x :: r, h => rising_pw r x h
def wordsS (es : List Exc) : List Str := es.map fun e => T e.1
theorem strict_words {es : List Exc} (up : es.Pairwise fun e f => e.1 < f.1) : (wordsS es).Pairwise fun a b => a.cps.toList < b.cps.toList := by
  unfold wordsS
  rw [List.pairwise_map]
  exact up
theorem strict_of {l : List Str} (h : l.Pairwise fun a b => a.cps.toList ≤ b.cps.toList) (nd : l.Nodup) : l.Pairwise fun a b => a.cps.toList < b.cps.toList := by
  refine List.Pairwise.imp_of_mem (fun {a b} _ _ h => ?_) (List.Pairwise.and h nd)
  obtain ⟨h1, h2⟩ := h
  refine Decidable.byContradiction fun n => h2 (TL.ext_tl (List.le_antisymm h1 (List.not_lt.mp n)))
theorem nd_strict {l : List Str} (h : l.Pairwise fun a b => a.cps.toList < b.cps.toList) : l.Nodup := by
  refine List.Pairwise.imp (fun {a b} h => ?_) h
  intro z
  rw [z] at h
  exact List.lt_irrefl _ h
theorem sorted_keys {es es' : List Exc} {ys : List Str} (hp : es'.Perm es) (up : es'.Pairwise fun e f => e.1 < f.1) (hy : ys.Perm (wordsS es)) (hs : sortedS ys = true) : ys = wordsS es' := by
  have s' := strict_words up
  have p2 : ys.Perm (wordsS es') := hy.trans (hp.symm.map fun e : Exc => T e.1)
  exact uniq_sorted (r := fun a b : Str => a.cps.toList < b.cps.toList) (fun a b h => lt_asym _ _ h) p2 (strict_of (sortedS_pw hs) (p2.nodup_iff.mpr (nd_strict s'))) s'
def tt (e : Exc) : Str × Str := (T e.1, T e.2)
def bk (z : Str × Str) : Exc := (z.1.cps.toList, z.2.cps.toList)
theorem tt_bk (z : Str × Str) : tt (bk z) = z := by
  show (T z.1.cps.toList, T z.2.cps.toList) = z
  rw [T_list, T_list]
theorem bk_tt (e : Exc) : bk (tt e) = e := rfl
theorem sort_exc {es : List Exc} (nd : (es.map (·.1)).Nodup) {qs : List (Str × Str)} (hp : qs.Perm (es.map tt)) (hs : qs.Pairwise fun e f => SrtT.lexT f e = false) :
    qs = (qs.map bk).map tt ∧ (qs.map bk).Perm es ∧ (qs.map bk).Pairwise fun e f => e.1 < f.1 := by
  have e1 : qs = (qs.map bk).map tt := by
    rw [List.map_map]
    conv => lhs; rw [← List.map_id qs]
    exact List.map_congr_left fun z _ => (tt_bk z).symm
  have e2 : (qs.map bk).Perm es := by
    have := hp.map bk
    rw [List.map_map] at this
    have e3 : es.map (bk ∘ tt) = es := by
      conv => rhs; rw [← List.map_id es]
      exact List.map_congr_left fun e _ => rfl
    rwa [e3] at this
  refine ⟨e1, e2, ?_⟩
  have nd2 : ((qs.map bk).map (·.1)).Nodup := (e2.map (·.1)).nodup_iff.mpr nd
  rw [List.pairwise_map]
  have nd3 : qs.Pairwise fun a b => ¬ (bk a).1 = (bk b).1 := by
    have : ((qs.map bk).map (·.1)).Pairwise (· ≠ ·) := nd2
    rw [List.pairwise_map, List.pairwise_map] at this
    exact this
  refine List.Pairwise.imp_of_mem (fun {a b} _ _ h => ?_) (List.Pairwise.and hs nd3)
  obtain ⟨h1, h2⟩ := h
  rcases SrtT.lexT_no.mp h1 with q | ⟨q, _⟩
  · exact q
  · exact absurd (congrArg (fun z : Str => z.cps.toList) q.symm) h2
end Say
namespace Say
open PySem PySem.Spec PyProof.Rows L2
theorem paired_map {α β γ : Type} {F : α → β → Prop} {f : γ → α} {g : γ → β} : ∀ {l : List γ}, (∀ z ∈ l, F (f z) (g z)) → Paired F (l.map f) (l.map g)
  | [], _ => .nil
  | z :: l, h => .cons (h z (List.mem_cons_self ..)) (paired_map fun y hy => h y (List.mem_cons_of_mem _ hy))
theorem strOk_T {l : List Nat} (h : ∀ c ∈ l, c < 1114112) : PyData.strOk (T l) = true := by
  show l.toArray.all (· < 0x110000) = true
  rw [List.all_toArray, List.all_eq_true]
  intro c hc
  exact decide_eq_true (h c hc)
theorem shaped_two {x y : PyData} (hx : x.canLay0 = true) (hy : y.canLay0 = true) (dx : x.depth = 0) (dy : y.depth = 0) : SeqAt.shaped (.tuple [x, y]) = true := by
  unfold SeqAt.shaped
  rw [Bool.and_eq_true]
  refine ⟨?_, ?_⟩
  · show PyData.canLayAll0 [x, y] = true
    simp [PyData.canLayAll0, hx, hy]
  · refine decide_eq_true ?_
    show PyData.depthAll [x, y] + 1 ≤ 64
    simp [PyData.depthAll, dx, dy]
/-- the row stays where all but a dict does -/
theorem RowAt.stpD {K : PySem.W.Frag} {H H' : Hp} {r a F : Addr} {ns : List Int} {kvs : List (Key × V)} (R : RowAt K H r a ns) (hF : H F = some (.dK kvs)) (e : Stp F H H') : RowAt K H' r a ns := by
  obtain ⟨⟨i', c', m', q', b'⟩, sc, le⟩ := R
  refine ⟨⟨i', c', m', e _ _ q' (ne_of q' hF (by intro z; cases z)), b'⟩, ?_, le⟩
  rcases sc with (sc | ⟨o, sc⟩) | sc
  · exact .inl (.inl (e _ _ sc (ne_of sc hF (by intro z; cases z))))
  · exact .inl (.inr ⟨o, e _ _ sc (ne_of sc hF (by intro z; cases z))⟩)
  · exact .inr sc
end Say
namespace Say
open PySem PySem.Spec PyProof.Rows L2
theorem KT.sqT {K : PySem.W.Frag} {H H' : Hp} {a : Addr} {xs : List V} (e : KT H H') (h : SqT K H a xs) : SqT K H' a xs := by
  rcases h with (h | ⟨o, h⟩) | h
  · exact .inl (.inl (e.1 _ _ h))
  · exact .inl (.inr ⟨o, e.2 _ _ _ h⟩)
  · exact .inr h
/-- a lead's pair of texts -/
def LeadAt (K : PySem.W.Frag) (H : Hp) (l : Addr) (d : PLd) : Prop := SqT K H l [.str (T d.1), .str (T d.2)] ∧ LdOk d
theorem LeadAt.kt {K : PySem.W.Frag} {H H' : Hp} {l : Addr} {d : PLd} (h : LeadAt K H l d) (e : KT H H') : LeadAt K H' l d := ⟨e.sqT h.1, h.2⟩
def pyL (d : PLd) : PyData := .tuple [.str (T d.1), .str (T d.2)]
theorem LeadAt.dp {K : PySem.W.Frag} {H : Hp} {l : Addr} {d : PLd} (h : LeadAt K H l d) : Dp K H (.ref l) (pyL d) := .tup h.1 (.cons (.str _) (.cons (.str _) .nil))
theorem leads_dp {K : PySem.W.Frag} {H : Hp} : ∀ {ls : List Addr} {ds : List PLd}, Paired (LeadAt K H) ls ds → DpAll K H (ls.map V.ref) (ds.map pyL)
  | _, _, .nil => .nil
  | _, _, .cons a t => .cons a.dp (leads_dp t)
theorem pyL_lay {d : PLd} (h : LdOk d) : (pyL d).canLay0 = true := by
  have h1 := strOk_T (l := d.1) fun c hc => Nat.lt_of_le_of_lt (h.1 c hc) (by decide)
  have h2 := strOk_T (l := d.2) fun c hc => Nat.lt_of_le_of_lt (h.2 c hc) (by decide)
  simp [pyL, PyData.canLay0, PyData.canLayAll0, h1, h2]
theorem pyL_depth (d : PLd) : (pyL d).depth = 1 := by simp [pyL, PyData.depth, PyData.depthAll]
theorem pyLs_lay : ∀ {ds : List PLd}, (∀ d ∈ ds, LdOk d) → PyData.canLayAll0 (ds.map pyL) = true
  | [], _ => by simp [PyData.canLayAll0]
  | d :: r, h => by simp [PyData.canLayAll0, pyL_lay (h d (List.mem_cons_self ..)), pyLs_lay fun e he => h e (List.mem_cons_of_mem _ he)]
theorem leads_ok {K : PySem.W.Frag} {H : Hp} : ∀ {ls : List Addr} {ds : List PLd}, Paired (LeadAt K H) ls ds → ∀ d ∈ ds, LdOk d
  | _, _, .nil => fun d hd => nomatch hd
  | _, _, .cons a t => fun d hd => by
    rcases List.mem_cons.mp hd with rfl | hd
    · exact a.2
    · exact leads_ok t d hd
theorem pyLs_depth : ∀ ds : List PLd, PyData.depthAll (ds.map pyL) ≤ 1
  | [] => by simp [PyData.depthAll]
  | d :: r => by
    have h1 := pyLs_depth r
    have h2 := pyL_depth d
    simp only [List.map_cons, PyData.depthAll]
    omega
theorem pyL_shaped {d : PLd} (ok : LdOk d) : SeqAt.shaped (pyL d) = true := by
  have h := pyL_depth d
  show ((pyL d).canLay0 && decide ((pyL d).depth ≤ 64)) = true
  rw [Bool.and_eq_true]
  exact ⟨pyL_lay ok, decide_eq_true (by omega)⟩
theorem pyLs_shaped {ds : List PLd} (ok : ∀ d ∈ ds, LdOk d) : SeqAt.shaped (.list (ds.map pyL)) = true := by
  have h1 := pyLs_depth ds
  have h2 : PyData.depth (.list (ds.map pyL)) ≤ 64 := by
    simp only [PyData.depth]
    omega
  show (PyData.canLay0 (.list (ds.map pyL)) && decide (PyData.depth (.list (ds.map pyL)) ≤ 64)) = true
  rw [Bool.and_eq_true]
  exact ⟨by simp only [PyData.canLay0]; exact pyLs_lay ok, decide_eq_true h2⟩
theorem pyL_eqv (d e : PLd) : PyData.eqv (pyL d) (pyL e) = decide (d = e) := by
  obtain ⟨a, b⟩ := d
  obtain ⟨a', b'⟩ := e
  have q : PyData.eqv (pyL (a, b)) (pyL (a', b')) = ((T a == T a') && ((T b == T b') && true)) := by simp only [pyL, PyData.eqv, PyData.eqvAll]
  rw [q]
  by_cases h1 : a = a'
  · by_cases h2 : b = b'
    · subst h1 h2; simp
    · have e2 : (T b == T b') = false := beq_eq_false_iff_ne.mpr fun z => h2 (T_inj z)
      rw [e2, decide_eq_false fun z => h2 (congrArg Prod.snd z)]
      simp
  · have e1 : (T a == T a') = false := beq_eq_false_iff_ne.mpr fun z => h1 (T_inj z)
    rw [e1, decide_eq_false fun z => h1 (congrArg Prod.fst z)]
    simp
theorem any_lead (d : PLd) : ∀ ds : List PLd, ((ds.map pyL).any fun z => PyData.eqv z (pyL d)) = decide (d ∈ ds)
  | [] => rfl
  | e :: r => by
    rw [List.map_cons, List.any_cons, any_lead d r, pyL_eqv, Bool.eq_iff_iff, Bool.or_eq_true, decide_eq_true_eq, decide_eq_true_eq, decide_eq_true_eq, List.mem_cons]
    exact or_congr ⟨Eq.symm, Eq.symm⟩ Iff.rfl
/-- the leads that were kept, f by their keys -/
structure LeadsP (P : Program) (w : World) (K : PySem.W.Frag) (H : Hp) (a : Addr) (kvs : List LT3) (f : List Leaf → List PLd) : Prop where
  dic : H a = some (LT P w a kvs)
  key : KeyT H kvs
  lst : ∀ p ∈ kvs, ∃ ls : List Addr, H p.2.2 = some (.lst (ls.map V.ref)) ∧ Paired (LeadAt K H) ls (f p.1)
  one : kvs.Pairwise fun p q => ¬ p.1 = q.1 ∧ ¬ p.2.2 = q.2.2
  out : ∀ k, tfind kvs k = none → f k = []
theorem tfind_none' {kvs : List LT3} {k : List Leaf} : tfind kvs k = none ↔ ∀ p ∈ kvs, ¬ p.1 = k := by
  unfold tfind
  rw [Option.map_eq_none_iff, List.find?_eq_none]
  exact ⟨fun h p hp e => h p hp (decide_eq_true e), fun h p hp e => h p hp (of_decide_eq_true e)⟩
theorem LeadsP.uniq {P : Program} {w : World} {K : PySem.W.Frag} {H : Hp} {a : Addr} {kvs : List LT3} {f : List Leaf → List PLd} (h : LeadsP P w K H a kvs f) {p q : LT3} (hp : p ∈ kvs) (hq : q ∈ kvs) (e : p.1 = q.1 ∨ p.2.2 = q.2.2) : p = q := by
  obtain ⟨i, hi⟩ := List.mem_iff_getElem?.mp hp
  obtain ⟨j, hj⟩ := List.mem_iff_getElem?.mp hq
  rcases Nat.lt_trichotomy i j with c | c | c
  · have := pw_at h.one hi hj c
    rcases e with e | e
    · exact absurd e this.1
    · exact absurd e this.2
  · subst c
    rw [hi] at hj
    exact Option.some.inj hj
  · have := pw_at h.one hj hi c
    rcases e with e | e
    · exact absurd e.symm this.1
    · exact absurd e.symm this.2
theorem LeadsP.same {P : Program} {w : World} {K : PySem.W.Frag} {H H' : Hp} {a : Addr} {kvs : List LT3} {f : List Leaf → List PLd} (h : LeadsP P w K H a kvs f) (e : Same H H') : LeadsP P w K H' a kvs f :=
  ⟨e _ _ h.dic, h.key.kt (.of e), fun p hp => by obtain ⟨ls, g1, g2⟩ := h.lst p hp; exact ⟨ls, e _ _ g1, paired_mono (fun _ _ z => z.kt (.of e)) g2⟩, h.one, h.out⟩
/-- all but the dict and its lists stays -/
def Stk (H H' : Hp) (a : Addr) (kvs : List LT3) : Prop := ∀ b o, H b = some o → b ≠ a → (∀ p ∈ kvs, b ≠ p.2.2) → H' b = some o
theorem ne_ext {H : Hp} {P : Program} {w : World} {a b : Addr} {kvs : List LT3} {u : HO} (ha : H a = some (LT P w a kvs)) (hb : H b = some u) (hu : (∃ xs, u = .tup xs) ∨ (∃ o xs, u = .frz o (.tup xs)) ∨ ∃ xs, u = .lst xs) : b ≠ a :=
  ne_of hb ha (by rcases hu with ⟨_, rfl⟩ | ⟨_, _, rfl⟩ | ⟨_, rfl⟩ <;> (unfold LT; intro z; cases z))
section
variable {P : Program} {w : World} {K : PySem.W.Frag} {mg : Str → Option Value} {base : Heap}
theorem hu65_of {k : Nat} {A : Around} (h : Room k A) : A.units + 65 < cLine := by have := h.un; omega
def spKp2 (P : Program) (w : World) (K : PySem.W.Frag) : Sp := fun vs H Q _ => ∃ (a t b l : Addr) (kvs : List LT3) (f : List Leaf → List PLd) (k : List Leaf) (d : PLd), vs = [.ref a, .ref t] ∧ LeadsP P w K H a kvs f ∧ kvs.length ≤ 16000000 ∧ H t = some (.tup [.ref b, .ref l]) ∧ KeyAt H b k ∧ LeadAt K H l d ∧ (f k).length ≤ 2 ∧
  ((d ∈ f k ∨ (f k).length = 2) → ∀ H', Same H H' → Q (.bl false) H') ∧
  (¬ d ∈ f k → (f k).length < 2 → ∀ (kvs' : List LT3) (H' : Hp), Stk H H' a kvs → kvs'.length ≤ kvs.length + 1 → (∀ p ∈ kvs', p ∈ kvs ∨ H p.2.2 = none) → LeadsP P w K H' a kvs' (fun j => if j = k then f k ++ [d] else f j) → Q (.bl true) H')
theorem ok_Kp2 {f : Addr} {fd : FuncData} {k : Nat} (F : Fun K "keep" "keep" sKp f fd) (B : Bn mg) (cL : KI mg "LEADS" 2) : FnOk P w K mg base CX0 (k + 1) f fd ["leads", "state"] (spKp2 P w K) := by
  obtain ⟨tL, mL⟩ := cL
  refine F.ok scKp (fun vs H Q E h => ?_) (fun cdv A outer s H vs Q E hr h => ?_)
  · obtain ⟨a, t, b, l, kvs, f, kk, d, rfl, _⟩ := h
    rfl
  · obtain ⟨a, t, b, l, kvs, f, kk, d, rfl, hL, h16, hT, hb0, hl, h2, q1, q2⟩ := h
    have hu := hu_of hr
    have hu65 := hu65_of hr
    have h16' : kvs.length < sizeLine := by show kvs.length < 2 ^ 24; omega
    refine ⟨_, pss_cons (ps_asg (pv 1) (pg_tup (by rfl) (pgs_cons (pg_name (i := 2) scKp.nd rfl (.inl rfl)) (pgs_cons (pg_name (i := 3) scKp.nd rfl (.inl rfl)) pgs_nil))))
      (pss_cons (ps_set (i := 4) scKp.nd rfl (.inl rfl) (pe_dsetdT hu (pv 0) (pv 2) (pe_lst pa_nil) ⟨rfl, rfl, rfl, rfl⟩))
      (pss_cons (ps_if (PW.pt (pw_or (pt_cmpR (op_inD hu65) (pv 3) (pv 4) rfl) (pw_or1 (pt_cmpR op_eq (pe_callB call_len (by rfl) B.len PySem.boot_len (pa_cons (pv 4) pa_nil)) (pe_glob (v := .int 2) rfl mL ⟨_, rfl⟩) (nomark _))))) (pss_one (ps_ret pe_bl)) pss_nil)
      (pss_cons (ps_expr (pe_bm PySem.F.plainAttrs_list PySem.F.slot_list_append PySem.F.type_list_append mt_append (pv 4) (pa_cons (pv 3) pa_nil)))
      (pss_one (ps_ret pe_bl))))), ?_⟩
    refine ⟨_, rfl, t, _, rfl, .inl (.inl hT), rfl, _, _, rfl, _, _, rfl, rfl, ?_⟩
    refine ⟨_, rfl, a, kvs, rfl, hL.dic, hL.key, _, rfl, (by show 0 ≤ sizeLine; decide), fun D hD => ?_⟩
    have sD := same_new hD (.lst [])
    have hLD := hL.same sD
    refine ⟨kvs, kk, b, D, hLD.dic, hLD.key, rfl, hb0.kt (.of sD), rfl, h16', fun p hf => ?_, fun hf => ?_⟩
    · -- the where is known: its list
      have hpm := tfind_mem hf
      obtain ⟨ls, g1, g2⟩ := hLD.lst _ hpm
      have g2 : Paired (LeadAt K _) ls (f kk) := g2
      have g1 : (upd H D (.lst [])) p.2 = some (.lst (ls.map V.ref)) := g1
      have ll := paired_len g2
      refine ⟨_, rfl, _, rfl, pyL d, (f kk).map pyL, (hl.kt (.of sD)).dp, .lst (.inl (.inl g1)) (leads_dp g2), pyL_shaped hl.2, pyLs_shaped (leads_ok g2), _, rfl, ?_⟩
      rw [any_lead]
      refine ite2 (fun c => ?_) (fun c => ?_)
      · exact iteT (q1 (.inl (of_decide_eq_true c)) _ sD)
      · have c1 : ¬ d ∈ f kk := of_decide_eq_false (Bool.eq_false_iff.mpr c)
        refine ⟨_, rfl, _, _, rfl, .inl ⟨_, .inl (.inl g1), rfl⟩, rfl, _, rfl, ite2 (fun c2 => ?_) (fun c2 => ?_)⟩
        · have c2 := V.int.inj (of_decide_eq_true c2)
          rw [List.length_map, ll] at c2
          exact q1 (.inr (by omega)) _ sD
        · have c2 : ¬ (((ls.map V.ref).length : Nat) : Int) = 2 := fun z => of_decide_eq_false (Bool.eq_false_iff.mpr c2) (congrArg V.int z)
          rw [List.length_map, ll] at c2
          have c2 : (f kk).length < 2 := by omega
          refine ⟨_, rfl, .inl ⟨rfl, _, .inl (.inl g1)⟩, _, rfl, p.2, _, _, rfl, rfl, g1, ?_, ?_⟩
          · rw [List.length_map, ll]
            exact small1000 (by omega)
          · have k1 : KT H (upd (upd H D (.lst [])) p.2 (.lst (ls.map V.ref ++ [.ref l]))) := (KT.of sD).trans (kt_upd g1)
            have nap : a ≠ p.2 := (ne_ext hLD.dic g1 (.inr (.inr ⟨_, rfl⟩))).symm
            refine q2 c1 c2 kvs _ (fun c u hc n1 n2 => ?_) (Nat.le_succ _) (fun q hq => .inl hq) ⟨?_, hL.key.kt k1, fun q hq => ?_, hL.one, fun j hj => ?_⟩
            · rw [upd_ne (n2 _ hpm)]
              exact sD _ _ hc
            · rw [upd_ne nap]
              exact hLD.dic
            · by_cases e : q.1 = kk
              · have : q = (kk, p.1, p.2) := hL.uniq hq hpm (.inl e)
                subst this
                refine ⟨ls ++ [l], by rw [upd_same, List.map_append]; rfl, ?_⟩
                show Paired _ _ (if kk = kk then f kk ++ [d] else f kk)
                rw [if_pos rfl]
                exact paired_app (paired_mono (fun _ _ z => z.kt (kt_upd g1)) g2) (.cons (hl.kt k1) .nil)
              · obtain ⟨ls', r1, r2⟩ := hLD.lst q hq
                have n : q.2.2 ≠ p.2 := fun z => e (by have := hL.uniq hq hpm (.inr z); rw [this])
                refine ⟨ls', by rw [upd_ne n]; exact r1, ?_⟩
                rw [if_neg e]
                exact paired_mono (fun _ _ z => z.kt (kt_upd g1)) r2
            · have n : ¬ j = kk := fun z => by
                rw [z, hf] at hj
                cases hj
              rw [if_neg n]
              exact hL.out j hj
    · -- a new where
      have e0 : f kk = [] := hL.out kk hf
      have nDa : D ≠ a := (ne_of_none hL.dic hD).symm
      have eD : (upd (upd H D (.lst [])) a (LT P w a (kvs ++ [(kk, b, D)]))) D = some (.lst []) := by rw [upd_ne nDa, upd_same]
      have k1 : KT H (upd (upd H D (.lst [])) a (LT P w a (kvs ++ [(kk, b, D)]))) := (KT.of sD).trans (kt_ext hLD.dic)
      refine ⟨_, rfl, _, rfl, pyL d, [], (hl.kt k1).dp, .lst (.inl (.inl eD)) .nil, pyL_shaped hl.2, by decide +kernel, _, rfl, iteF ?_⟩
      refine ⟨_, rfl, _, _, rfl, .inl ⟨_, .inl (.inl eD), rfl⟩, rfl, _, rfl, iteF ?_⟩
      refine ⟨_, rfl, .inl ⟨rfl, _, .inl (.inl eD)⟩, _, rfl, D, _, _, rfl, rfl, eD, (by decide), ?_⟩
      have k2 := k1.trans (kt_upd eD (o := .lst [.ref l]))
      refine q2 (by rw [e0]; exact fun z => nomatch z) (by rw [e0]; exact Nat.zero_lt_succ _) (kvs ++ [(kk, b, D)]) _ (fun c u hc n1 n2 => ?_) (by rw [List.length_append]; exact Nat.le_refl _) (fun p hp => ?_) ⟨?_, fun p hp => ?_, fun p hp => ?_, ?_, fun j hj => ?_⟩
      · rw [upd_ne (ne_of_none hc hD), upd_ne n1, upd_ne (ne_of_none hc hD)]
        exact hc
      · rcases List.mem_append.mp hp with hp | hp
        · exact .inl hp
        · rw [List.mem_singleton.mp hp]
          exact .inr hD
      · rw [upd_ne nDa.symm, upd_same]
        rfl
      · rcases List.mem_append.mp hp with hp | hp
        · exact (hL.key p hp).kt k2
        · rw [List.mem_singleton.mp hp]
          exact hb0.kt k2
      · rcases List.mem_append.mp hp with hp | hp
        · obtain ⟨ls, r1, r2⟩ := hL.lst p hp
          have n : ¬ p.1 = kk := tfind_none'.mp hf p hp
          refine ⟨ls, ?_, ?_⟩
          · rw [upd_ne (ne_of_none r1 hD), upd_ne (ne_ext hL.dic r1 (.inr (.inr ⟨_, rfl⟩))), upd_ne (ne_of_none r1 hD)]
            exact r1
          · rw [if_neg n]
            exact paired_mono (fun _ _ z => z.kt k2) r2
        · rw [List.mem_singleton.mp hp]
          refine ⟨[l], ?_, ?_⟩
          · show (upd _ D _) D = _
            rw [upd_same]
            rfl
          · show Paired _ _ (if kk = kk then f kk ++ [d] else f kk)
            rw [if_pos rfl, e0]
            exact .cons (hl.kt k2) .nil
      · refine List.pairwise_append.mpr ⟨hL.one, List.pairwise_singleton _ _, fun p hp q hq => ?_⟩
        rw [List.mem_singleton.mp hq]
        obtain ⟨ls, r1, _⟩ := hL.lst p hp
        exact ⟨tfind_none'.mp hf p hp, ne_of_none r1 hD⟩
      · have hj' := tfind_none'.mp hj
        have n : ¬ j = kk := fun z => hj' (kk, b, D) (List.mem_append_right _ (List.mem_singleton.mpr rfl)) z.symm
        rw [if_neg n]
        exact hL.out j (tfind_none'.mpr fun p hp => hj' p (List.mem_append_left _ hp))
end
end Say
namespace Say
open PySem PySem.Spec PyProof.Rows L2
theorem ip_addS {X : Cx} : PIp X .Add (fun x y H Q => ∃ i j, x = .str i ∧ y = .str j ∧ i.length + j.length ≤ sizeLine ∧ Q (.str (i ++ j)) H) := fun pins s σ H x y v u Q I r1 r2 h => iop_add_str pins s σ H x y v u Q I r1 r2 h
theorem starts_T (a b : List Nat) : Txt.startswith (T a) (T b) = decide (b <+: a) := by
  unfold Txt.startswith
  rw [PySem.StrLaws.subAt_eq, T_len, T_len, Nat.zero_add, List.drop_zero, Bool.eq_iff_iff, Bool.and_eq_true, decide_eq_true_eq, decide_eq_true_eq, beq_iff_eq]
  show b.length ≤ a.length ∧ a.take b.length = b ↔ b <+: a
  rw [List.prefix_iff_eq_take]
  refine ⟨fun h => h.2.symm, fun h => ⟨?_, h.symm⟩⟩
  have := congrArg List.length h
  rw [List.length_take] at this
  omega
theorem big_T {l : List Nat} (h : l.length ≤ 16000000) : (T l).length ≤ sizeLine := by
  rw [T_len]
  show l.length ≤ 2 ^ 24
  omega
/-- a pair of texts that the top has left -/
def PairC (K : PySem.W.Frag) (a : Addr) (x y : Str) : Prop := ∃ (o : Obj) (its : Array Value) (n : Nat), K.lookup a = some o ∧ o.cls = .type "tuple" ∧ o.data = .seq its n ∧ its.size ≤ sizeLine ∧ Vals [V.str x, V.str y] its.toList
section
variable {P : Program} {w : World} {K : PySem.W.Frag} {mg : Str → Option Value} {base : Heap}
abbrev sLd : Stmt := topS 71
theorem scLd : FnScope ["one", "other"] ["one", "other"] (defScope sLd) := ⟨rfl, rfl, rfl, by decide +kernel, rfl, by decide +kernel, by decide +kernel⟩
def spLd (K : PySem.W.Frag) : Sp := fun vs H Q _ => ∃ (a b : List Nat), vs = [.str (T a), .str (T b)] ∧ a.length ≤ 16000000 ∧ b.length ≤ 16000000 ∧ (∀ c ∈ a, c ≤ 90) ∧ (∀ c ∈ b, c ≤ 90) ∧
  ∀ (l : Addr) (H' : Hp), Same H H' → LeadAt K H' l (leadM a b) → Q (.ref l) H'
theorem ok_Ld {f aU : Addr} {fd : FuncData} {k : Nat} (F : Fun K "lead_of" "lead_of" sLd f fd) (B : Bn mg) (mU : mg "UNLIKE" = some (.ref aU)) (hU : PairC K aU "<" ">") : FnOk P w K mg base CX0 (k + 1) f fd ["one", "other"] (spLd K) := by
  refine F.ok scLd (fun vs H Q E h => ?_) (fun cdv A outer s H vs Q E hr h => ?_)
  · obtain ⟨a, b, rfl, _⟩ := h
    rfl
  · obtain ⟨a, b, rfl, la, lb, oa, ob, q⟩ := h
    have ok := leadM_sign oa ob
    refine ⟨_, pss_cons (ps_if (pt_val (pe_bm PySem.F.plainAttrs_str PySem.F.slot_str_startswith PySem.F.type_str_startswith mt_startswith (pv 0) (pa_cons (pv 1) pa_nil))) (pss_one (ps_ret (pe_tup (pa_cons (pe_slice sl_str (pv 0) (po_some (pe_callB call_len_str (by rfl) B.len PySem.boot_len (pa_cons (pv 1) pa_nil))) po_none) (pa_cons pe_str pa_nil))))) pss_nil)
      (pss_cons (ps_if (pt_val (pe_bm PySem.F.plainAttrs_str PySem.F.slot_str_startswith PySem.F.type_str_startswith mt_startswith (pv 1) (pa_cons (pv 0) pa_nil))) (pss_one (ps_ret (pe_tup (pa_cons pe_str (pa_cons (pe_slice sl_str (pv 1) (po_some (pe_callB call_len_str (by rfl) B.len PySem.boot_len (pa_cons (pv 0) pa_nil))) po_none) pa_nil))))) pss_nil)
      (pss_one (ps_ret (pe_glob (v := .ref aU) rfl mU rfl)))), ?_⟩
    have ha := big_T la
    have hb := big_T lb
    have pair : ∀ x y : List Nat, leadM a b = (x, y) → (2 ≤ sizeLine ∧ ∀ p, H p = none → Q (.ref p) (upd H p (.tup [.str (T x), .str (T y)]))) := fun x y e => ⟨by decide, fun p hp => q p _ (same_new hp _) ⟨.inl (.inl (by rw [e]; exact upd_same)), ok⟩⟩
    refine ⟨_, rfl, rfl, _, rfl, _, _, rfl, rfl, _, rfl, ?_⟩
    rw [starts_T]
    refine ite2 (fun c => ?_) (fun c => ?_)
    · have c := of_decide_eq_true c
      refine ⟨_, rfl, _, rfl, _, rfl, hb, _, rfl, _, rfl, ha, ?_⟩
      have e : cutS (T a) (some ((T b).length : Int)) none = T (a.drop b.length) := by rw [T_len]; exact cut_from c.length_le
      rw [e]
      exact pair _ [] (by unfold leadM; rw [if_pos c])
    · have c := of_decide_eq_false (Bool.eq_false_iff.mpr c)
      refine ⟨_, rfl, rfl, _, rfl, _, _, rfl, rfl, _, rfl, ?_⟩
      rw [starts_T]
      refine ite2 (fun d => ?_) (fun d => ?_)
      · have d := of_decide_eq_true d
        refine ⟨_, rfl, _, rfl, _, rfl, ha, _, rfl, _, rfl, hb, ?_⟩
        have e : cutS (T b) (some ((T a).length : Int)) none = T (b.drop a.length) := by rw [T_len]; exact cut_from d.length_le
        rw [e]
        exact pair [] _ (by unfold leadM; rw [if_neg c, if_pos d])
      · have d := of_decide_eq_false (Bool.eq_false_iff.mpr d)
        refine q aU H (Same.refl H) ⟨?_, ok⟩
        unfold leadM
        rw [if_neg c, if_neg d]
        exact .inr hU
end
end Say
/-! a dict comprehension of two walks, the second one's source told by the first one's names -/
namespace Say
open PySem PySem.Spec PyProof.Rows L2
/-- the comprehension {k: v for a in p for b in q} -/
abbrev dc2 (kx vx a p b q : Expr) (sc : Scope) (at_ : Pos) : Expr := .DictComp kx vx [⟨a, p, [], 0⟩, ⟨b, q, [], 0⟩] sc at_
section
variable {prog : Program} {w : World} {A : Around} {R : Result → Shared → Prop} {s : Shared} {kx vx a p b q : Expr} {sc : Scope} {at_ : Pos} {it acc : Value} {D : Addr} {env : Env}
theorem d2_turn0 : compTurn (dc2 kx vx a p b q sc at_) 0 it acc env = (do
      standAt p.pos
      match ← pyNext it with
      | none => pure (.done .next)
      | some z =>
        letOwnedTupleGo a it z
        assign a env z
        let mut go := true
        for c in ([] : List Expr) do
          if go then go ← isTrue c env (eval c env)
        if go then
          let y ← eval q env
          standAt q.pos
          let y ← foldedSetIterable q env y
          let _ ← runOwn (.compStart (dc2 kx vx a p b q sc at_) 1 (← holding [y] (pyIter y)) acc env) env
        again (.compLoop (dc2 kx vx a p b q sc at_) 0 it acc env)) := by rfl
theorem d2_turn1 : compTurn (dc2 kx vx a p b q sc at_) 1 it (.ref D) env = (do
      standAt q.pos
      match ← pyNext it with
      | none => pure (.done .next)
      | some z =>
        letOwnedTupleGo b it z
        assign b env z
        let mut go := true
        for c in ([] : List Expr) do
          if go then go ← isTrue c env (eval c env)
        if go then
          (do
            let kv ← eval kx env
            let vv ← holding [kv] (eval vx env)
            standAt { kx.pos with endLine := vx.pos.endLine, endCol := vx.pos.endCol }
            holding [kv, vv] (dictSet D kv vv))
        again (.compLoop (dc2 kx vx a p b q sc at_) 1 it (.ref D) env)) := by rfl
/-- what is raised there -/
abbrev d2E (prog : Program) (w : World) (A : Around) (env : Env) (R : Result → Shared → Prop) : Value → Shared → Prop := notedBy (model prog w) A env fun e s' => R (.error e) s'
/-- turns of the outer walk, J a measure's invariant -/
theorem d2_loop0 (hs : ∀ x, foldedSetIterable q env x = pure x) (J : Nat → Shared → Prop)
    (turn : ∀ n s, J n s → wpAny (model prog w) A (pyNext it) (fun r s₁ => match r with
      | none => R (.ok .next) s₁
      | some z => wpAny (model prog w) A (letOwnedTupleGo a it z) (fun _ s₂ => wpAny (model prog w) A (assign a env z) (fun _ s₃ =>
          wpAny (model prog w) A (eval q env) (fun y s₄ => wpAny (model prog w) A (pyIter y) (fun jt s₅ =>
            codeAny (model prog w) A (.compStart (dc2 kx vx a p b q sc at_) 1 jt acc env) (fun r s' => match r with
              | .ok _ => ∃ m, m < n ∧ J m s'
              | .error _ => False) s₅) (d2E prog w A env R) s₄) (d2E prog w A env R) s₃) (d2E prog w A env R) s₂) (d2E prog w A env R) s₁) (d2E prog w A env R) s)
    (n : Nat) (h : J n s) : codeAny (model prog w) A (.compLoop (dc2 kx vx a p b q sc at_) 0 it acc env) R s := by
  refine codeAny_loop rfl J (fun n s hJ => ?_) n h
  show wpAny _ A ((compTurn (dc2 kx vx a p b q sc at_) 0 it acc env).onRaise (fun x => do noteFrame x env; theTreesLotGoes x)) _ _ s
  refine wpAny_noted ?_
  rw [d2_turn0]
  refine wpAny_bind (wpAny_standAt (wpAny_bind (wpAny_mono (turn n s hJ) (fun r s₁ g => ?_) fun _ _ h' => h')))
  match r, g with
  | none, g => exact wpAny_pure g
  | some z, g =>
    refine wpAny_bind (wpAny_mono g (fun _ s₂ g => wpAny_bind (wpAny_mono g (fun _ s₃ g => ?_) fun _ _ h' => h')) fun _ _ h' => h')
    refine wpAny_bind (wpAny_tests_nil ?_)
    refine wpAny_bind (wpAny_mono g (fun y s₄ g => ?_) fun _ _ h' => h')
    refine wpAny_bind (wpAny_standAt (wpAny_bind (wpAny_of_eq (hs y) (wpAny_bind (wpAny_holding (wpAny_mono g (fun jt s₅ g => ?_) fun _ _ h' => h'))))))
    refine wpAny_bind (wpAny_runOwn ?_)
    rw [Around.mark_none]
    refine codeAny_mono g fun r s' hr => ?_
    match r, hr with
    | .ok f, hr =>
      first
        | exact wpAny_pure ⟨rfl, hr⟩
        | exact wpAny_bind (wpAny_pure (wpAny_pure ⟨rfl, hr⟩))
    | .error e, hr => exact hr.elim
/-- turns of the inner one -/
theorem d2_loop1 (J : Nat → Shared → Prop)
    (turn : ∀ n s, J n s → wpAny (model prog w) A (pyNext it) (fun r s₁ => match r with
      | none => R (.ok .next) s₁
      | some z => wpAny (model prog w) A (letOwnedTupleGo b it z) (fun _ s₂ => wpAny (model prog w) A (assign b env z) (fun _ s₃ =>
          wpAny (model prog w) A (eval kx env) (fun kv s₄ => wpAny (model prog w) A (eval vx env) (fun vv s₅ =>
            wpAny (model prog w) A (dictSet D kv vv) (fun _ s₆ => ∃ m, m < n ∧ J m s₆) (d2E prog w A env R) s₅) (d2E prog w A env R) s₄) (d2E prog w A env R) s₃) (d2E prog w A env R) s₂) (d2E prog w A env R) s₁) (d2E prog w A env R) s)
    (n : Nat) (h : J n s) : codeAny (model prog w) A (.compLoop (dc2 kx vx a p b q sc at_) 1 it (.ref D) env) R s := by
  refine codeAny_loop rfl J (fun n s hJ => ?_) n h
  show wpAny _ A ((compTurn (dc2 kx vx a p b q sc at_) 1 it (.ref D) env).onRaise (fun x => do noteFrame x env; theTreesLotGoes x)) _ _ s
  refine wpAny_noted ?_
  rw [d2_turn1]
  refine wpAny_bind (wpAny_standAt (wpAny_bind (wpAny_mono (turn n s hJ) (fun r s₁ g => ?_) fun _ _ h' => h')))
  match r, g with
  | none, g => exact wpAny_pure g
  | some z, g =>
    refine wpAny_bind (wpAny_mono g (fun _ s₂ g => wpAny_bind (wpAny_mono g (fun _ s₃ g => ?_) fun _ _ h' => h')) fun _ _ h' => h')
    refine wpAny_bind (wpAny_tests_nil ?_)
    exact wpAny_bind (wpAny_bind (wpAny_mono g (fun kv s₄ g => wpAny_bind (wpAny_holding (wpAny_mono g (fun vv s₅ g => wpAny_bind (wpAny_standAt (wpAny_holding (wpAny_mono g (fun _ s₆ g => wpAny_pure ⟨rfl, g⟩) fun _ _ h' => h')))) fun _ _ h' => h'))) fun _ _ h' => h'))
/-- how the inner walk begins -/
theorem d2_start1 (h0 : codeAny (model prog w) A (.compLoop (dc2 kx vx a p b q sc at_) 1 it acc env) R s)
    (h : wpAny (model prog w) A (pyIter it) (fun jt s' => codeAny (model prog w) A (.compLoop (dc2 kx vx a p b q sc at_) 1 jt acc env) R s') (d2E prog w A env R) s) :
    codeAny (model prog w) A (.compStart (dc2 kx vx a p b q sc at_) 1 it acc env) R s := by
  refine codeAny_of_tree ?_
  show wpAny _ _ ((compStart (dc2 kx vx a p b q sc at_) 1 it acc env).onRaise (fun x => do noteFrame x env; standAt theWindowsPlace)) _ _ s
  refine wpAny_notedAt ?_
  unfold compStart
  show wpAny _ _ (ask >>= _) _ _ s
  refine wpAny_bind (wpAny_askSetting (wpAny_ite ?_))
  split
  · first
      | exact wpAny_bind (wpAny_pure (wpAny_pure ⟨rfl, h0⟩))
      | exact wpAny_pure ⟨rfl, h0⟩
  · first
      | exact wpAny_bind (wpAny_rule (wpAny_bind (wpAny_standAt (wpAny_bind (wpAny_mono h (fun jt s' g => wpAny_pure ⟨rfl, g⟩) fun _ _ x => x)))))
      | (refine wpAny_bind (wpAny_rule ?_); show wpAny _ _ (standAt q.pos >>= _) _ _ s; exact wpAny_bind (wpAny_standAt (wpAny_bind (wpAny_mono h (fun jt s' g => wpAny_pure ⟨rfl, g⟩) fun _ _ x => x))))
end
section
variable {X : Cx}
/-- the dict told; ls: the slots of the block's names, ms: of the inner target's -/
def tDc2 (wi : TI) (g : TG) (wj : TI) (g' : TG) (tk tv : TE) (ls ms : List Nat) : TE := fun σ H Q => wi σ H fun J H1 => ∀ D, H1 D = none → ∃ W : Nat → Nat → Hp → Prop, (∃ m, W 0 m (upd H1 D (.dK []))) ∧ ∀ i m H, W i m H →
  (J.stop i H ∧ Q (.ref D) H) ∨ (J.go i H ∧ ∃ N : Hp → Prop, (∀ H', N H' → ∃ m', m' < m ∧ W (i + 1) m' H') ∧ ∀ x H', J.yld i H x H' → g x (wipe σ ls) H' fun σ2 H2 => wipe σ2 ls = wipe σ ls ∧
    wj σ2 H2 fun J' H4 => ∃ W' : Nat → Nat → Hp → Prop, (∃ m, W' 0 m H4) ∧ ∀ j k H, W' j k H →
      (J'.stop j H ∧ N H) ∨ (J'.go j H ∧ ∃ N' : Hp → Prop, (∀ H', N' H' → ∃ k', k' < k ∧ W' (j + 1) k' H') ∧ ∀ x H', J'.yld j H x H' → g' x (wipe σ2 ms) H' fun σ3 H5 => wipe σ3 ms = wipe σ2 ms ∧
        tk σ3 H5 fun y H6 => tv σ3 H6 fun z H7 => ∃ kvs k, y = kV k ∧ H7 D = some (.dK kvs) ∧ kvs.length < sizeLine ∧ N' (upd H7 D (.dK (putK kvs k z)))))
/-- a rule in each block that such a comprehension makes -/
abbrev InBlk (X : Cx) (sc : Scope) (F : Cx → Prop) : Prop := ∀ (s : Shared) (H : Hp) (C : Addr) (cl : List (Str × Addr)) (fp : List Addr), F (X.blk s H sc (compEnvC sc cl C X.env) fp)
theorem pe_dc2 {kx vx a p b q : Expr} {sc : Scope} {own : List (Str × Nat)} {ms : List Nat} {at_ : Pos} {wi wj : TI} {g g' : TG} {tk tv : TE} (hc : X.calm = true) (hN : X.N.Nodup) (hi : PI X a p wi) (ok : BlkOk X.N X.env.scope sc own) (hv : ∀ i ∈ ms, i ∈ own.map (·.2))
    (hg : InBlk X sc fun Y => PG Y a g) (hj : InBlk X sc fun Y => PI Y b q wj) (hg' : InBlk X sc fun Y => PG Y b g') (hk : InBlk X sc fun Y => PE Y kx tk) (he : InBlk X sc fun Y => PE Y vx tv)
    (hs : ∀ x, foldedSetIterable p X.env x = pure x := by intro _; rfl) (hs' : ∀ env x, foldedSetIterable q env x = pure x := by intro _ _; rfl) :
    PE X (dc2 kx vx a p b q sc at_) (tDc2 wi g wj g' tk tv (own.map (·.2)) ms) := by
  refine ⟨fun pins s σ H Q I h => ?_⟩
  rw [arm_eval_DictComp]
  have hfree : ∀ y ∈ sc.names, y.2 = .free → ∃ c, X.env.cells.lookup y.1 = some c := fun y hy e => by
    rcases ok.free y hy e with k | k
    · exact I.ok.has _ (.inl k)
    · exact I.ok.has _ (.inr k)
  refine wpAny_comprehension_free rfl hs (closure_ok hfree) ok.kind (fun y hy e => by rw [ok.uniq y hy, e])
    (thn (hi.run pins s σ H _ I h) fun xv s1 hx => thn hx fun itv s2 h2 => ?_)
  obtain ⟨it, fp, tn, J, H2, rfl, I2, T, st2, f2, rest⟩ := h2
  refine wpAny_newObj_type (newEnv_comp ?_)
  generalize hD : s2.heap.objs.size = D
  have hDn : H2 D = none := I2.hok.fresh (Nat.le_of_eq hD)
  obtain ⟨W, ⟨m0, w0⟩, turn⟩ := rest D hDn
  generalize hs3 : ({ s2 with heap := s2.heap.push { cls := .type "dict", data := .dict #[] } } : Shared) = s3
  have h3 : s3.heap = s2.heap.push { cls := .type "dict", data := .dict #[] } := by rw [← hs3]
  have I3 : Inv X pins σ (upd H2 D (.dK [])) s3 := by
    rw [← hs3]
    refine I2.laid (t' := s2.toks) (fun _ _ e => Heap.get?_push_of_some _ e) (Nat.le_of_eq hD) ?_
    rw [← hD]
    exact dk_empty s2.heap I2.big
  have f3 : ∀ b ∈ fp, FpOk X pins (upd H2 D (.dK [])) b ∧ b < s3.heap.objs.size := fun b hb => by
    obtain ⟨o, e, _⟩ := T.obj _ _ st2 b hb
    have hlt := Heap.lt_size e
    refine ⟨⟨?_, (f2 b hb).2⟩, by rw [h3, Heap.size_push]; exact Nat.lt_succ_of_lt hlt⟩
    rw [upd_ne (by rw [← hD]; exact Nat.ne_of_lt hlt)]
    exact (f2 b hb).1
  have st3 : tn 0 s3.heap := T.keep _ _ _ st2 fun _ _ o e => by rw [h3]; exact Heap.get?_push_of_some _ e
  have I4 := block_start I3 ok hN f3
  generalize hH3 : upd H2 D (.dK []) = H3 at I3 I4 w0 f3
  show codeAny _ _ (.compStart (dc2 kx vx a p b q sc at_) 0 (.ref it) (.ref D) (compEnvC sc (cellsFrom (s3.heap.objs.size + 1) sc.names (cloFrom X.env.cells sc.names [])) s3.heap.objs.size X.env)) (compPost (model X.prog X.w) X.A X.xe none (EP X pins σ Q) (.ref D) s3.heap.objs.size) { s3 with heap := pushCells (s3.heap.push { cls := .type "dict", data := .dict #[] }) sc.names }
  generalize hcl : cellsFrom (s3.heap.objs.size + 1) sc.names (cloFrom X.env.cells sc.names []) = cl at I4 ⊢
  have pg := hg s3 H3 s3.heap.objs.size cl fp
  have pj := hj s3 H3 s3.heap.objs.size cl fp
  have pg' := hg' s3 H3 s3.heap.objs.size cl fp
  have pk := hk s3 H3 s3.heap.objs.size cl fp
  have pe := he s3 H3 s3.heap.objs.size cl fp
  have nfp : ∀ b ∈ fp, H3 b = none := fun b hb => (f3 b hb).1.1
  generalize hce : compEnvC sc cl s3.heap.objs.size X.env = ce at I4 pg pj pg' pk pe ⊢
  have cL : ce.locals = s3.heap.objs.size := by subst hce; rfl
  generalize hs4 : ({ s3 with heap := pushCells (s3.heap.push { cls := .type "dict", data := .dict #[] }) sc.names } : Shared) = s4 at I4 ⊢
  have st4 : tn 0 s4.heap := T.keep _ _ _ st3 fun _ _ o e => by rw [← hs4]; exact pushCells_keeps _ _ _ _ (Heap.get?_push_of_some _ e)
  generalize hB : X.blk s3 H3 sc ce fp = Y at I4 pg pj pg' pk pe
  have stat : ∀ {σ' : L2.St} {H' : Hp} {s' : Shared}, Inv (X.blk s3 H3 sc ce fp) [] σ' H' s' → (∀ b ∈ fp, H' b = none) → ∀ b ∈ fp, FpOk (X.blk s3 H3 sc ce fp) [] H' b := fun {σ' H' s'} I' hn b hb =>
    ⟨hn b hb, (I'.ok.exf b hb).1, I'.ok.exfs b hb, .inl hb, fun x c e => (I'.ok.exf b hb).2 x c e, fun u hu => absurd (show u ∈ ([] : List (Addr × Obj)) ++ [] from hu) (by simp)⟩
  subst hB
  have loop : codeAny (model X.prog X.w) X.A (.compLoop (dc2 kx vx a p b q sc at_) 0 (.ref it) (.ref D) ce) (compPost (model X.prog X.w) X.A X.xe none (EP X pins σ Q) (.ref D) s3.heap.objs.size) s4 := by
    refine d2_loop0 (hs' ce) (fun n s' => ∃ i H', Inv (X.blk s3 H3 sc ce fp) [] (wipe σ (own.map (·.2))) H' s' ∧ tn i s'.heap ∧ (∀ b ∈ fp, H' b = none) ∧ W i n H') ?_ m0 ⟨0, H3, I4, st4, nfp, w0⟩
    rintro n s5 ⟨i, H5, I5, st5, n5, w5⟩
    rcases turn i n H5 w5 with ⟨stop, qq⟩ | ⟨go, N, hNx, step⟩
    · refine thnF (T.done (X.blk s3 H3 sc ce fp) rfl rfl rfl hc i [] s5 _ H5 (fun _ _ => False) I5 (stat I5 n5) st5 stop) fun r s6 ⟨hr, I6⟩ => ?_
      subst hr
      have I7 : Inv X pins σ H5 s6 := I3.call' (ch := fp) I6.os I6.base I6.hok I6.bare fun b hb => ⟨(f3 b hb).1.2.2.2.1, (f3 b hb).1.2.1, (f3 b hb).1.2.2.2.2.1, (f3 b hb).1.2.2.2.2.2⟩
      have nC : H5 s3.heap.objs.size = none := by
        have z : H5 ce.locals = none := I6.free
        rwa [cL] at z
      obtain ⟨m, hn, _⟩ := I6.loc
      have hn : s6.heap.Ns ce.locals m := hn
      rw [cL] at hn
      refine ⟨m, hn, fun h'' sb => ?_⟩
      obtain ⟨z0, z1, z2, z3, z4, z5⟩ := I3.fpOk (Nat.le_refl _) nC
      exact ⟨.ref D, H5, I7.turned (t' := s6.toks) (fun b o hb e => (sb.2 b hb).trans e) z0 z1 z3 z4 z5, rfl, qq⟩
    · refine thnF (T.item (X.blk s3 H3 sc ce fp) rfl rfl rfl hc i [] s5 _ H5 (fun _ _ => False) I5 (stat I5 n5) st5 go) fun r s6 ⟨u, hr, h6⟩ => ?_
      subst hr
      refine thnF h6 fun _ s7 ⟨x, H7, I7, r7, y7, st7, n7⟩ => ?_
      refine thnF (pg.run _ s7 _ H7 x u _ (I7.pinned (stat I7 n7) (T.obj _ _ st7)) r7 (step x H7 y7)) fun _ s8 ⟨σ8, H8, I8, hw8, q8⟩ => ?_
      refine thnF (pj.run _ s8 σ8 H8 _ I8 q8) fun xv s10 hx => thnF hx fun itv s11 h11 => ?_
      obtain ⟨jt, fq, tm, J', H11, rfl, I11, T', st11, f11, W', ⟨m1, w1⟩, turn'⟩ := h11
      have stat' : ∀ {H' : Hp}, (∀ b ∈ fq, H' b = none) → ∀ b ∈ fq, FpOk (X.blk s3 H3 sc ce fp) ([] ++ pinsAt fp s7.heap) H' b := fun hn b hb => ⟨hn b hb, (f11 b hb).2⟩
      have inner : codeAny (model X.prog X.w) X.A (.compLoop (dc2 kx vx a p b q sc at_) 1 (.ref jt) (.ref D) ce) (fun r s' => match r with
          | .ok _ => ∃ m, m < n ∧ ∃ i H', Inv (X.blk s3 H3 sc ce fp) [] (wipe σ (own.map (·.2))) H' s' ∧ tn i s'.heap ∧ (∀ b ∈ fp, H' b = none) ∧ W i m H'
          | .error _ => False) s11 := by
        refine d2_loop1 (fun k s' => ∃ j H', Inv (X.blk s3 H3 sc ce fp) ([] ++ pinsAt fp s7.heap) (wipe σ8 ms) H' s' ∧ tm j s'.heap ∧ (∀ b ∈ fq, H' b = none) ∧ W' j k H') ?_ m1 ⟨0, H11, I11.weak (wipe_length _ _) (fun _ _ e => (wipe_some e).1), st11, fun b hb => (f11 b hb).1, w1⟩
        rintro k s12 ⟨j, H12, I12, st12, n12, w12⟩
        rcases turn' j k H12 w12 with ⟨stop', nx⟩ | ⟨go', N', hN', step'⟩
        · refine thnF (T'.done (X.blk s3 H3 sc ce fp) rfl rfl rfl hc j _ s12 (wipe σ8 ms) H12 (fun _ _ => False) I12 (stat' n12) st12 stop') fun r s13 ⟨hr, I13⟩ => ?_
          subst hr
          obtain ⟨m', hm, w'⟩ := hNx H12 nx
          have pin' : ∀ b ∈ fp, ∀ o, s7.heap.get? b = some o → s13.heap.get? b = some o ∧ H12 b = none := fun b hb o e =>
            let z := I13.pin (b, o) (List.mem_append_right _ (List.mem_append_right _ (mem_pinsAt hb e)))
            ⟨z.1, z.2.1⟩
          refine ⟨m', hm, i + 1, H12, (I13.unpinned (pins := [])).weak ?_ fun l v e => ?_, T.keep _ _ _ st7 fun b hb o e => (pin' b hb o e).1, fun b hb => ?_, w'⟩
          · rw [wipe_length σ8 ms, ← wipe_length σ8 (own.map (·.2)), hw8]
          · rw [← hw8] at e
            obtain ⟨e1, e2⟩ := wipe_some e
            rw [wipe_out fun z => e2 (hv l z)]
            exact e1
          · obtain ⟨o, e, _⟩ := T.obj _ _ st7 b hb
            exact (pin' b hb o e).2
        · refine thnF (T'.item (X.blk s3 H3 sc ce fp) rfl rfl rfl hc j _ s12 (wipe σ8 ms) H12 (fun _ _ => False) I12 (stat' n12) st12 go') fun r s13 ⟨u', hr, h13⟩ => ?_
          subst hr
          refine thnF h13 fun _ s14 ⟨x', H14, I14, r14, y14, st14, n14⟩ => ?_
          refine thnF (pg'.run _ s14 (wipe σ8 ms) H14 x' u' _ (I14.pinned (stat' n14) (T'.obj _ _ st14)) r14 (step' x' H14 y14)) fun _ s15 ⟨σ15, H15, I15, hw15, q15⟩ => ?_
          refine thnF (pk.run _ s15 σ15 H15 _ I15 q15) fun z s16 ⟨yk, H16, I16, r16, q16⟩ => ?_
          refine thnF (pe.run _ s16 σ15 H16 _ I16 q16) fun z2 s17 ⟨yv, H17, I17, r17, kvs, kk, ek, hD17, hz17, nx⟩ => ?_
          subst ek
          refine d_dictSet (X := X.blk s3 H3 sc ce fp) I17 hD17 hz17 r16 r17 fun s18 I18 => ?_
          obtain ⟨m', hm, w'⟩ := hN' _ nx
          have pin' : ∀ b ∈ fq, ∀ o, s14.heap.get? b = some o → s18.heap.get? b = some o ∧ (upd H17 D (.dK (putK kvs kk yv))) b = none := fun b hb o e =>
            let z := I18.pin (b, o) (List.mem_append_right _ (List.mem_append_right _ (mem_pinsAt hb e)))
            ⟨z.1, z.2.1⟩
          refine ⟨m', hm, j + 1, _, I18.unpinned.weak (by rw [← hw15, wipe_length]) (fun l v e => by rw [← hw15] at e; exact (wipe_some e).1), T'.keep _ _ _ st14 fun b hb o e => (pin' b hb o e).1, fun b hb => ?_, w'⟩
          obtain ⟨o, e, _⟩ := T'.obj _ _ st14 b hb
          exact (pin' b hb o e).2
      exact d2_start1 inner (T'.self X.A 0 _ _ _ st11 inner)
  exact codeAny_compStart_dict loop (T.self X.A 0 _ _ _ st4 loop)
end
end Say
namespace Say
open PySem PySem.Spec PyProof.Rows L2
/-- turns over a walk, whatever a turn does -/
theorem turns {J : It} {n : Nat} {G : Hp → Prop} {Y : Nat → Hp → V → Hp → Prop} (w : L2.Walk J n G Y) {H0 : Hp} {E : Hp → Prop} {B : (Hp → Prop) → V → Hp → Prop} (Pv : Nat → Hp → Prop) (h0 : Pv 0 H0) (hG : ∀ i H, i ≤ n → Pv i H → G H)
    (hs : ∀ i x H H', i < n → Pv i H → Y i H x H' → B (Pv (i + 1)) x H') (hd : ∀ H, Pv n H → E H) :
    ∃ W : Nat → Nat → Hp → Prop, (∃ m, W 0 m H0) ∧ ∀ i m H, W i m H → (J.stop i H ∧ E H) ∨ (J.go i H ∧ ∃ N : Hp → Prop, (∀ H', N H' → ∃ m', m' < m ∧ W (i + 1) m' H') ∧ ∀ x H', J.yld i H x H' → B N x H') := by
  refine ⟨fun i m H => m = n - i ∧ i ≤ n ∧ Pv i H, ⟨n, by simp, Nat.zero_le _, h0⟩, ?_⟩
  rintro i m H ⟨rfl, hi, p⟩
  have q := hG i H hi p
  by_cases hlt : i < n
  · exact .inr ⟨w.goes i H hlt q, Pv (i + 1), fun H' p' => ⟨n - (i + 1), by omega, rfl, hlt, p'⟩, fun x H' y => hs i x H H' hlt p (w.yields i H x H' hlt q y)⟩
  · obtain rfl : i = n := by omega
    exact .inl ⟨w.stops H q, hd H p⟩
def stE (u : List Nat) : Key × V := (Sum.inr (T u), V.bl true)
/-- the dict at D has the texts with which words of es begin, and no others -/
def StD (H : Hp) (D : Addr) (es : List Exc) : Prop := ∃ us : List (List Nat), H D = some (.dK (us.map stE)) ∧ ∀ u, u ∈ us ↔ u ∈ stems es
theorem any_st (u : List Nat) : ∀ us : List (List Nat), ((us.map stE).any fun kv => decide (kv.1 = (Sum.inr (T u) : Key))) = decide (u ∈ us)
  | [] => rfl
  | a :: r => by
    rw [List.map_cons, List.any_cons, any_st u r, Bool.eq_iff_iff, Bool.or_eq_true, decide_eq_true_eq, decide_eq_true_eq, decide_eq_true_eq, List.mem_cons]
    exact or_congr ⟨fun h => (key_eq.mp h).symm, fun h => key_eq.mpr h.symm⟩ Iff.rfl
theorem put_st (u : List Nat) (us : List (List Nat)) : putK (us.map stE) (Sum.inr (T u) : Key) (V.bl true) = (if u ∈ us then us else us ++ [u]).map stE := by
  unfold putK
  rw [any_st]
  by_cases c : u ∈ us
  · rw [if_pos (decide_eq_true c), if_pos c, List.map_map]
    refine List.map_congr_left fun a _ => ?_
    show (if (stE a).1 = (Sum.inr (T u) : Key) then ((stE a).1, V.bl true) else stE a) = stE a
    split <;> rfl
  · rw [if_neg (by simp [c]), if_neg c, List.map_append]
    rfl
theorem find_any {α : Type} (p : α → Bool) : ∀ l : List α, (l.find? p).isSome = l.any p
  | [] => rfl
  | a :: r => by
    rw [List.find?_cons, List.any_cons]
    cases p a
    · exact find_any p r
    · rfl
theorem val_st (u : List Nat) (us : List (List Nat)) : (valV (us.map stE) (Sum.inr (T u) : Key)).isSome = decide (u ∈ us) := by
  rw [← any_st]
  unfold valV
  rw [Option.isSome_map, find_any]
theorem stems_app (a b : List Exc) : stems (a ++ b) = stems a ++ stems b := by
  unfold stems
  rw [List.flatMap_append]
theorem take_snoc {α : Type} {l : List α} {i : Nat} {c : α} (h : l[i]? = some c) : l.take (i + 1) = l.take i ++ [c] := by
  rw [List.take_add_one, h]; rfl
section
variable {P : Program} {w : World} {K : PySem.W.Frag} {mg : Str → Option Value} {base : Heap}
abbrev sSt_ : Stmt := topS 72
theorem scSt_ : FnScope ["pairs", "word", "_", "size"] ["pairs"] (defScope sSt_) := ⟨rfl, rfl, rfl, by decide +kernel, rfl, by decide +kernel, by decide +kernel⟩
/-- pairs at X -/
def PairsAt (K : PySem.W.Frag) (H : Hp) (X : Addr) (es : List Exc) : Prop := ∃ ts : List Addr, SqT K H X (ts.map V.ref) ∧ Paired (fun t (e : Exc) => SqT K H t [.str (T e.1), .str (T e.2)]) ts es
theorem PairsAt.kt {H H' : Hp} {X : Addr} {es : List Exc} (h : PairsAt K H X es) (e : KT H H') : PairsAt K H' X es := by
  obtain ⟨ts, h1, h2⟩ := h
  exact ⟨ts, e.sqT h1, paired_mono (fun _ _ g => e.sqT g) h2⟩
def spStm (K : PySem.W.Frag) : Sp := fun vs H Q _ => ∃ (X : Addr) (es : List Exc), vs = [.ref X] ∧ PairsAt K H X es ∧ es.length ≤ 16 ∧ (∀ e ∈ es, e.1.length ≤ 8) ∧
  ∀ (D : Addr) (H' : Hp), Same H H' → H D = none → StD H' D es → Q (.ref D) H'
theorem ok_Stm {f : Addr} {fd : FuncData} {k : Nat} (F : Fun K "stems_of" "stems_of" sSt_ f fd) (B : Bn mg) : FnOk P w K mg base CX0 (k + 1) f fd ["pairs"] (spStm K) := by
  refine F.ok scSt_ (fun vs H Q E h => ?_) (fun cdv A outer s H vs Q E hr h => ?_)
  · obtain ⟨X, es, rfl, _⟩ := h
    rfl
  · obtain ⟨X, es, rfl, hX, h16, h8, q⟩ := h
    refine ⟨_, pss_one (ps_ret (pe_dc2 (own := [("word", 1), ("_", 2), ("size", 3)]) (ms := [3]) (g := gTup K 2 (gCons (gName 1) (gCons (gName 2) gNil))) (g' := gName 3) (tv := tC (.bl true)) rfl scSt_.nd (pi_tup (pv 0)) (blkOk_by (N := ["pairs", "word", "_", "size"]) (sc := defScope sSt_) (by decide +kernel)) (by simp)
      (fun _ _ _ _ _ => pg_tup (by rfl) (pgs_cons (pg_name (i := 1) scSt_.nd rfl (.inl rfl)) (pgs_cons (pg_name (i := 2) scSt_.nd rfl (.inl rfl)) pgs_nil)))
      (fun _ _ _ _ _ => pi_range1 (by rfl) B.rng (pa_cons (pe_op op_add (pe_callB call_len_str (by rfl) B.len PySem.boot_len (pa_cons (pv 1) pa_nil)) pe_int) pa_nil))
      (fun _ _ _ _ _ => pg_name (i := 3) scSt_.nd rfl (.inl rfl))
      (fun _ _ _ _ _ => pe_slice sl_str (pv 1) po_none (po_some (pv 3)))
      (fun _ _ _ _ _ => pe_bl))), ?_⟩
    obtain ⟨ts, hts, hp⟩ := id hX
    refine ⟨_, rfl, X, rfl, ⟨_, hts⟩, fun D hD => ?_⟩
    have inv_sq : ∀ {H2 : Hp}, Same H H2 → SqT K H2 X (ts.map V.ref) := fun st => Same.seqT st hts
    refine turns (walk_tup (xs := ts.map V.ref)) (fun i H2 => Same H H2 ∧ ∃ us : List (List Nat), H2 D = some (.dK (us.map stE)) ∧ us.length ≤ 9 * i ∧ ∀ u, u ∈ us ↔ u ∈ stems (es.take i)) ?_ (fun i H2 _ h => inv_sq h.1) ?_ ?_
    · exact ⟨same_new hD _, [], upd_same, Nat.zero_le _, fun u => by simp [stems]⟩
    · rintro i x H2 H2' hi ⟨s2, us, e1, lu, e2⟩ ⟨rfl, hx⟩
      rw [List.getElem?_map] at hx
      obtain ⟨t, ht, rfl⟩ := Option.map_eq_some_iff.mp hx
      obtain ⟨e, he, hte⟩ := paired_at hp ht
      have hi2 := (List.getElem?_eq_some_iff.mp he).1
      have w8 := h8 e (List.mem_of_getElem? he)
      refine ⟨t, _, rfl, Same.seqT s2 hte, rfl, _, _, rfl, _, _, rfl, rfl, rfl, ?_⟩
      refine ⟨_, rfl, _, rfl, big_T (by omega), _, _, rfl, rfl, _, rfl, (by rw [T_len]; omega), (by rw [T_len]; omega), ?_⟩
      have en : (((T e.1).length : Int) + 1).toNat = e.1.length + 1 := by rw [T_len]; omega
      rw [en]
      refine turns walk_range (fun j H3 => Same H H3 ∧ ∃ us : List (List Nat), H3 D = some (.dK (us.map stE)) ∧ us.length ≤ 9 * i + j ∧ ∀ u, u ∈ us ↔ u ∈ stems (es.take i) ∨ ∃ n, n < j ∧ u = e.1.take n) ?_ (fun _ _ _ _ => trivial) ?_ ?_
      · exact ⟨s2, us, e1, lu, fun u => by rw [e2 u]; simp⟩
      · rintro j y H3 H3' hj ⟨s3, us3, g1, l3, g2⟩ ⟨rfl, rfl⟩
        refine ⟨rfl, _, rfl, _, rfl, _, rfl, _, rfl, big_T (by omega), ?_⟩
        have ec : cutS (T e.1) none (some (0 + (j : Int))) = T (e.1.take j) := by
          rw [Int.zero_add]
          unfold cutS
          rw [HT.sIx_nat]
          show T ((e.1.drop 0).take (min j (T e.1).length - 0)) = _
          rw [T_len, List.drop_zero, Nat.sub_zero, Nat.min_eq_left (by omega)]
        rw [ec]
        refine ⟨_, (Sum.inr (T (e.1.take j)) : Key), rfl, g1, ?_, ?_⟩
        · rw [List.length_map]
          exact small1000 (by omega)
        · rw [put_st]
          refine ⟨fun b u hb => by rw [upd_ne (ne_of_none hb hD)]; exact s3 _ _ hb, _, upd_same, ?_, fun u => ?_⟩
          · split
            · omega
            · rw [List.length_append, List.length_singleton]; omega
          · have hm : (u ∈ if e.1.take j ∈ us3 then us3 else us3 ++ [e.1.take j]) ↔ u ∈ us3 ∨ u = e.1.take j := by
              split
              · rename_i c
                exact ⟨fun h => .inl h, fun h => h.elim id fun h => by rw [h]; exact c⟩
              · rw [List.mem_append, List.mem_singleton]
            rw [hm, g2 u]
            constructor
            · rintro ((h | ⟨n, hn, h⟩) | h)
              · exact .inl h
              · exact .inr ⟨n, by omega, h⟩
              · exact .inr ⟨j, Nat.lt_succ_self _, h⟩
            · rintro (h | ⟨n, hn, h⟩)
              · exact .inl (.inl h)
              · by_cases c : n = j
                · subst c; exact .inr h
                · exact .inl (.inr ⟨n, by omega, h⟩)
      · rintro H3 ⟨s3, us3, g1, l3, g2⟩
        refine ⟨s3, us3, g1, by omega, fun u => ?_⟩
        rw [g2 u, take_snoc he, stems_app, List.mem_append]
        refine or_congr Iff.rfl ?_
        rw [mem_stems]
        constructor
        · rintro ⟨n, hn, rfl⟩
          exact ⟨e, by simp, List.take_prefix _ _⟩
        · rintro ⟨e', he', hu⟩
          rw [List.mem_singleton.mp he'] at hu
          exact ⟨u.length, Nat.lt_succ_of_le hu.length_le, List.prefix_iff_eq_take.mp hu⟩
    · rintro H2 ⟨s2, us, e1, lu, e2⟩
      rw [List.length_map, paired_len hp, List.take_length] at e2
      exact q D H2 s2 hD ⟨us, e1, e2⟩
end
end Say
namespace Say
open PySem PySem.Spec PyProof.Rows L2
abbrev sPH (j : Nat) : Stmt := inClass (topS 75) j
structure PSC (K : PySem.W.Frag) (C : Addr) : Prop where
  cl : Cls K C
  n1 : NoAttr K C "_one_rules"
  n2 : NoAttr K C "_other_rules"
  n3 : NoAttr K C "_one_exceptions"
  n4 : NoAttr K C "_other_exceptions"
  n5 : NoAttr K C "_stems"
def fldP (R1 R2 D1 D2 DS : Addr) : List (Str × V) := [("_one_rules", .ref R1), ("_other_rules", .ref R2), ("_one_exceptions", .ref D1), ("_other_exceptions", .ref D2), ("_stems", .ref DS)]
/-- a hunt for what parts two books, at y -/
def HuntP (C : Addr) (H : Hp) (y : Addr) (b : Bks) : Prop := ∃ (R1 R2 D1 D2 DS dx : Addr), H y = some (.ins C dx (fldP R1 R2 D1 D2 DS)) ∧ RulesAt H R1 b.r1 ∧ RulesAt H R2 b.r2 ∧ H D1 = some (.dK (b.e1.map ent)) ∧ H D2 = some (.dK (b.e2.map ent)) ∧ StD H DS b.es
theorem HuntP.same {C : Addr} {H H' : Hp} {y : Addr} {b : Bks} (h : HuntP C H y b) (e : Same H H') : HuntP C H' y b := by
  obtain ⟨R1, R2, D1, D2, DS, dx, h1, h2, h3, h4, h5, us, h6, h7⟩ := h
  exact ⟨R1, R2, D1, D2, DS, dx, e _ _ h1, h2.kt (.of e), h3.kt (.of e), e _ _ h4, e _ _ h5, us, e _ _ h6, h7⟩
/-- a state's pair -/
def StP (K : PySem.W.Frag) (H : Hp) (t : Addr) (s : PW_ × PLd) : Prop := ∃ bw l : Addr, H t = some (.tup [.ref bw, .ref l]) ∧ H bw = some (.tup [optT s.1.1, optT s.1.2.1, optT s.1.2.2]) ∧ LeadAt K H l s.2
theorem StP.kt {K : PySem.W.Frag} {H H' : Hp} {t : Addr} {s : PW_ × PLd} (h : StP K H t s) (e : KT H H') : StP K H' t s := by
  obtain ⟨bw, l, h1, h2, h3⟩ := h
  exact ⟨bw, l, e.1 _ _ h1, e.1 _ _ h2, h3.kt e⟩
def leafO : Option (List Nat) → Leaf
  | none => .none
  | some t => .text (T t)
theorem leafO_V (s : Option (List Nat)) : leafV (leafO s) = optT s := by cases s <;> rfl
theorem leafO_inj {s s' : Option (List Nat)} (h : leafO s = leafO s') : s = s' := by
  cases s with
  | none => cases s' with
    | none => rfl
    | some t => cases h
  | some t => cases s' with
    | none => cases h
    | some t' => rw [T_inj (Leaf.text.inj h)]
def leafP (s : PW_) : List Leaf := [leafO s.1, leafO s.2.1, leafO s.2.2]
theorem leafP_inj {s s' : PW_} (h : leafP s = leafP s') : s = s' := by
  obtain ⟨a, b, c⟩ := s
  obtain ⟨a', b', c'⟩ := s'
  obtain ⟨h1, h⟩ := List.cons.inj h
  obtain ⟨h2, h⟩ := List.cons.inj h
  obtain ⟨h3, _⟩ := List.cons.inj h
  have h1 : a = a' := leafO_inj h1
  have h2 : b = b' := leafO_inj h2
  have h3 : c = c' := leafO_inj h3
  rw [h1, h2, h3]
theorem keyP {H : Hp} {bw : Addr} {s : PW_} (h : H bw = some (.tup [optT s.1, optT s.2.1, optT s.2.2])) : KeyAt H bw (leafP s) :=
  ⟨_, h, .cons (by rw [← leafO_V]; exact .val _) (.cons (by rw [← leafO_V]; exact .val _) (.cons (by rw [← leafO_V]; exact .val _) .nil))⟩
/-- a state as a word no longer than n leads to it -/
structure Fits (n : Nat) (s : PW_ × PLd) : Prop where
  t1 : ∀ t, s.1.1 = some t → 1 ≤ t.length ∧ t.length ≤ 3
  t2 : ∀ t, s.1.2.1 = some t → 1 ≤ t.length ∧ t.length ≤ 3
  l1 : s.2.1.length ≤ 3 * n + 1
  l2 : s.2.2.length ≤ 3 * n + 1
  st : ∀ u, s.1.2.2 = some u → u.length ≤ n
  ok : LdOk s.2
theorem fits_rn {b : Bks} (ho : BksOk b) (w : List Nat) : Fits w.length (rnP b w) := by
  obtain ⟨h1, h2, h3, h4, h5, h6⟩ := rnP_lens b ho w
  exact ⟨h1, h2, h3, h4, fun u hu => by rw [h5 u hu]; exact Nat.le_refl _, h6⟩
theorem val_ent (es : List Exc) (u : List Nat) : valV (es.map ent) (Sum.inr (T u) : Key) = (excV es u).map fun so => V.str (T so) := by
  unfold valV excV
  rw [List.find?_map]
  have e : ((fun kv : Key × V => decide (kv.1 = (Sum.inr (T u) : Key))) ∘ ent) = fun e : Exc => decide (e.1 = u) := by
    funext e
    exact decide_eq_decide.mpr key_eq
  rw [e]
  cases es.find? fun e => decide (e.1 = u) <;> rfl
section
variable {P : Program} {w : World} {K : PySem.W.Frag} {mg : Str → Option Value} {base : Heap}
theorem scPS : FnScope ["self"] ["self"] (defScope (sPH 1)) := ⟨rfl, rfl, rfl, by decide +kernel, rfl, by decide +kernel, by decide +kernel⟩
def spPS (K : PySem.W.Frag) : Sp := fun vs H Q _ => ∃ y : Addr, vs = [.ref y] ∧ ∀ (u : Addr) (H' : Hp), H u = none → Same H H' → StP K H' u pa0 → Q (.ref u) H'
theorem ok_PS {f aE : Addr} {fd : FuncData} {k : Nat} (F : Fun K "start" "PartedHunt.start" (sPH 1) f fd) (C : Cn mg) (mE : mg "EVEN" = some (.ref aE)) (hE : PairC K aE "" "") : FnOk P w K mg base CX0 (k + 1) f fd ["self"] (spPS K) := by
  obtain ⟨tE, mG⟩ := C.edge
  refine F.ok scPS (fun vs H Q E h => ?_) (fun cdv A outer s H vs Q E hr h => ?_)
  · obtain ⟨y, rfl, _⟩ := h
    rfl
  · obtain ⟨y, rfl, q⟩ := h
    refine ⟨_, pss_one (ps_ret (pe_tup (pa_cons (pe_tup (pa_cons (pe_glob (v := .str "#") rfl mG ⟨_, rfl⟩) (pa_cons (pe_glob (v := .str "#") rfl mG ⟨_, rfl⟩) (pa_cons pe_str pa_nil)))) (pa_cons (pe_glob (v := .ref aE) rfl mE rfl) pa_nil)))), ?_⟩
    refine ⟨(by show 3 ≤ sizeLine; decide), fun b hb => ⟨(by show 2 ≤ sizeLine; decide), fun u hu => ?_⟩⟩
    have sb := same_new hb (.tup [optT (some [35]), optT (some [35]), optT (some [])])
    have su := same_new hu (.tup [.ref b, .ref aE])
    exact q u _ (sb.free hu) (sb.trans su) ⟨b, aE, upd_same, su _ _ upd_same, .inr hE, (fun c hc => nomatch hc), (fun c hc => nomatch hc)⟩
theorem scPL : FnScope ["self", "stem", "letter"] ["self", "stem", "letter"] (defScope (sPH 4)) := ⟨rfl, rfl, rfl, by decide +kernel, rfl, by decide +kernel, by decide +kernel⟩
def spPL (C : Addr) : Sp := fun vs H Q _ => ∃ (y : Addr) (b : Bks) (s : Option (List Nat)) (c : Nat), vs = [.ref y, optT s, .str (T [c])] ∧ HuntP C H y b ∧ (∀ u, s = some u → u.length ≤ 5000000) ∧ Q (optT (lgS b.es s c)) H
theorem ok_PL {f C : Addr} {fd : FuncData} {k : Nat} (F : Fun K "_longer_stem" "PartedHunt._longer_stem" (sPH 4) f fd) (S : PSC K C) : FnOk P w K mg base CX0 (k + 1) f fd ["self", "stem", "letter"] (spPL C) := by
  refine F.ok scPL (fun vs H Q E h => ?_) (fun cdv A outer s H vs Q E hr h => ?_)
  · obtain ⟨y, b, s, c, rfl, _⟩ := h
    rfl
  · obtain ⟨y, b, s, c, rfl, ⟨R1, R2, D1, D2, DS, dx, hy, hR1, hR2, hD1, hD2, us, hDS, hus⟩, hl, q⟩ := h
    have hu := hu_of hr
    refine ⟨_, pss_cons (ps_if (PW.pt (pw_or (pt_cmpR op_isN (pv 1) pe_non (nomark _)) (pw_or1 (pt_cmp (pc_dnotin hu (pe_op op_add_str (pv 1) (pv 2)) (pe_fld (pv 0) rfl)))))) (pss_one (ps_ret pe_non)) pss_nil)
      (pss_one (ps_ret (pe_op op_add_str (pv 1) (pv 2)))), ?_⟩
    cases s with
    | none =>
      refine ⟨_, rfl, rfl, _, rfl, iteT (iteT ?_)⟩
      exact q
    | some u =>
      have hlu := hl u rfl
      have hz : (T u).length + (T [c]).length ≤ sizeLine := by
        rw [T_len, T_len, List.length_singleton]
        show u.length + 1 ≤ 2 ^ 24
        omega
      refine ⟨_, rfl, rfl, _, rfl, ?_⟩
      rw [show decide (optT (some u) = V.non) = false from decide_eq_false (fun z => by cases z)]
      refine iteF ?_
      refine ⟨_, rfl, _, rfl, _, _, rfl, rfl, hz, ?_⟩
      rw [T_app]
      refine ⟨_, rfl, y, C, dx, _, _, rfl, hy, S.cl, S.n5, rfl, DS, _, rfl, .inl ⟨_, (Sum.inr (T (u ++ [c])) : Key), .of hDS, rfl, rfl⟩, _, rfl, ?_⟩
      rw [val_st]
      have q : Q (optT (if u ++ [c] ∈ stems b.es then some (u ++ [c]) else none)) H := q
      by_cases m : u ++ [c] ∈ us
      · rw [if_pos ((hus _).mp m)] at q
        rw [decide_eq_true m]
        refine iteF ?_
        refine ⟨_, rfl, _, rfl, _, _, rfl, rfl, hz, ?_⟩
        rw [T_app]
        exact q
      · rw [if_neg fun z => m ((hus _).mpr z)] at q
        rw [decide_eq_false m]
        exact iteT q
theorem scPE : FnScope ["self", "word", "one_sounds", "other_sounds"] ["self", "word"] (defScope (sPH 5)) := ⟨rfl, rfl, rfl, by decide +kernel, rfl, by decide +kernel, by decide +kernel⟩
def spPE (C : Addr) : Sp := fun vs H Q _ => ∃ (y : Addr) (b : Bks) (u : List Nat), vs = [.ref y, .str (T u)] ∧ HuntP C H y b ∧ BksOk b ∧ u.length ≤ 80 ∧
  ∀ (H' : Hp), Same H H' → Q (.bl (decide (¬ saidM b.r1 b.e1 u = saidM b.r2 b.e2 u))) H'
theorem optT_inj {s s' : Option (List Nat)} (h : optT s = optT s') : s = s' := by
  cases s with
  | none => cases s' with
    | none => rfl
    | some t => cases h
  | some t => cases s' with
    | none => cases h
    | some t' => rw [T_inj (V.str.inj h)]
theorem scal_opt (s s' : Option (List Nat)) : scal (optT s) (optT s') = true := by cases s <;> cases s' <;> rfl
theorem ne_opt (s s' : Option (List Nat)) : (!decide (optT s = optT s')) = decide (¬ s = s') := by
  by_cases h : s = s'
  · subst h; simp
  · rw [decide_eq_true h, decide_eq_false fun z => h (optT_inj z)]
    rfl
theorem opt_getD (es : List Exc) (u : List Nat) : ((valV (es.map ent) (Sum.inr (T u) : Key)).getD .non) = optT (excV es u) := by
  rw [val_ent]
  cases excV es u <;> rfl
theorem ok_PE {f C : Addr} {fd : FuncData} (F : Fun K "_is_exception_parted" "PartedHunt._is_exception_parted" (sPH 5) f fd) (S : PSC K C) (DW : Df P w K mg base "word_sounds" ["rules", "word"] 6 spWS) : FnOk P w K mg base CX0 7 f fd ["self", "word"] (spPE C) := by
  obtain ⟨fW, fdW, GW, kW, bW, mW⟩ := DW
  refine F.ok scPE (fun vs H Q E h => ?_) (fun cdv A outer s H vs Q E hr h => ?_)
  · obtain ⟨y, b, u, rfl, _⟩ := h
    rfl
  · obtain ⟨y, b, u, rfl, hH, ho, hl, q⟩ := h
    have hu := hu_of hr
    refine ⟨_, pss_cons (ps_set (i := 2) scPE.nd rfl (.inl rfl) (pe_dget1 hu (pe_fld (pv 0) rfl) (pv 1) ⟨rfl, rfl, rfl, rfl⟩))
      (pss_cons (ps_if (pt_cmpR op_isN (pv 2) pe_non (nomark _)) (pss_one (ps_set (i := 2) scPE.nd rfl (.inl rfl) (pe_call GW hr (by rfl) mW kW bW .nil pass0 (pa_cons (pe_fld (pv 0) rfl) (pa_cons (pv 1) pa_nil))))) pss_nil)
      (pss_cons (ps_set (i := 3) scPE.nd rfl (.inl rfl) (pe_dget1 hu (pe_fld (pv 0) rfl) (pv 1) ⟨rfl, rfl, rfl, rfl⟩))
      (pss_cons (ps_if (pt_cmpR op_isN (pv 3) pe_non (nomark _)) (pss_one (ps_set (i := 3) scPE.nd rfl (.inl rfl) (pe_call GW hr (by rfl) mW kW bW .nil pass0 (pa_cons (pe_fld (pv 0) rfl) (pa_cons (pv 1) pa_nil))))) pss_nil)
      (pss_one (ps_ret (pe_cmpR op_ne (pv 2) (pv 3) (nomark _))))))), ?_⟩
    obtain ⟨R1, R2, D1, D2, DS, dx, hy, hR1, hR2, hD1, hD2, hS⟩ := hH
    refine ⟨_, rfl, y, C, dx, _, _, rfl, hy, S.cl, S.n3, rfl, D1, rfl, .inl ⟨_, .of hD1⟩, _, rfl, _, .inl ⟨_, (Sum.inr (T u) : Key), .of hD1, rfl, rfl⟩, ?_⟩
    rw [opt_getD]
    have fin : ∀ (x z : Option (List Nat)) (H2 : Hp), Same H H2 → x = saidM b.r1 b.e1 u → z = saidM b.r2 b.e2 u → (scal (optT x) (optT z) = true ∧ Q (.bl (!decide (optT x = optT z))) H2) := fun x z H2 s2 e1 e2 => by
      subst e1 e2
      refine ⟨scal_opt _ _, ?_⟩
      rw [ne_opt]
      exact q H2 s2
    refine ⟨_, rfl, rfl, _, rfl, ?_⟩
    cases e1 : excV b.e1 u with
    | some so =>
      have m1 : some so = saidM b.r1 b.e1 u := by rw [saidM_exc, e1]
      rw [show decide (optT (some so) = V.non) = false from decide_eq_false (fun z => by cases z)]
      refine iteF ?_
      refine ⟨_, rfl, y, C, dx, _, _, rfl, hy, S.cl, S.n4, rfl, D2, rfl, .inl ⟨_, .of hD2⟩, _, rfl, _, .inl ⟨_, (Sum.inr (T u) : Key), .of hD2, rfl, rfl⟩, ?_⟩
      rw [opt_getD]
      refine ⟨_, rfl, rfl, _, rfl, ?_⟩
      cases e2 : excV b.e2 u with
      | some so2 =>
        rw [show decide (optT (some so2) = V.non) = false from decide_eq_false (fun z => by cases z)]
        refine iteF ?_
        exact ⟨_, rfl, _, rfl, fin (some so) (some so2) H (Same.refl H) m1 (by rw [saidM_exc, e2])⟩
      | none =>
        refine iteT ?_
        refine ⟨_, rfl, y, C, dx, _, _, rfl, hy, S.cl, S.n2, rfl, _, rfl, R2, b.r2, u, rfl, hR2, ho.h2, hl, fun H2 s2 => ?_⟩
        exact ⟨_, rfl, _, rfl, fin (some so) (sayW b.r2 u) H2 s2 m1 (by rw [saidM_exc, e2])⟩
    | none =>
      have m1 : sayW b.r1 u = saidM b.r1 b.e1 u := by rw [saidM_exc, e1]
      refine iteT ?_
      refine ⟨_, rfl, y, C, dx, _, _, rfl, hy, S.cl, S.n1, rfl, _, rfl, R1, b.r1, u, rfl, hR1, ho.h1, hl, fun H1 s1 => ?_⟩
      have hy1 := s1 _ _ hy
      refine ⟨_, rfl, y, C, dx, _, _, rfl, hy1, S.cl, S.n4, rfl, D2, rfl, .inl ⟨_, .of (s1 _ _ hD2)⟩, _, rfl, _, .inl ⟨_, (Sum.inr (T u) : Key), .of (s1 _ _ hD2), rfl, rfl⟩, ?_⟩
      rw [opt_getD]
      refine ⟨_, rfl, rfl, _, rfl, ?_⟩
      cases e2 : excV b.e2 u with
      | some so2 =>
        rw [show decide (optT (some so2) = V.non) = false from decide_eq_false (fun z => by cases z)]
        refine iteF ?_
        exact ⟨_, rfl, _, rfl, fin (sayW b.r1 u) (some so2) H1 s1 m1 (by rw [saidM_exc, e2])⟩
      | none =>
        refine iteT ?_
        refine ⟨_, rfl, y, C, dx, _, _, rfl, hy1, S.cl, S.n2, rfl, _, rfl, R2, b.r2, u, rfl, hR2.kt (.of s1), ho.h2, hl, fun H2 s2 => ?_⟩
        exact ⟨_, rfl, _, rfl, fin (sayW b.r1 u) (sayW b.r2 u) H2 (s1.trans s2) m1 (by rw [saidM_exc, e2])⟩
end
end Say
namespace Say
open PySem PySem.Spec PyProof.Rows L2
/-- words of exceptions aren't long -/
def Bks8 (b : Bks) : Prop := ∀ e ∈ b.es, e.1.length ≤ 8
theorem isE_len {b : Bks} (h8 : Bks8 b) {u : List Nat} (h : isE b (some u) = true) : u.length ≤ 8 := by
  have key : ∀ es : List Exc, (∀ e ∈ es, e ∈ b.es) → (excV es u).isSome = true → u.length ≤ 8 := fun es hs hi => by
    unfold excV at hi
    cases hf : es.find? fun e => decide (e.1 = u) with
    | none => rw [hf] at hi; cases hi
    | some e =>
      have h1 : e.1 = u := of_decide_eq_true (List.find?_some (p := fun e : Exc => decide (e.1 = u)) hf)
      rw [← h1]
      exact h8 e (hs e (List.mem_of_find?_eq_some hf))
  have h : ((excV b.e1 u).isSome || (excV b.e2 u).isSome) = true := h
  rcases Bool.or_eq_true _ _ |>.mp h with h | h
  · exact key b.e1 (fun e he => List.mem_append_left _ he) h
  · exact key b.e2 (fun e he => List.mem_append_right _ he) h
theorem some_isSome (es : List Exc) (u : List Nat) : ((excV es u).map fun so => V.str (T so)).isSome = (excV es u).isSome := by rw [Option.isSome_map]
section
variable {P : Program} {w : World} {K : PySem.W.Frag} {mg : Str → Option Value} {base : Heap}
abbrev nPA : List Str := ["self", "state", "letter", "one_tail", "other_tail", "stem", "one_lead", "other_lead", "one_numbers", "other_numbers", "where"]
theorem scPA : FnScope nPA ["self", "state", "letter"] (defScope (sPH 2)) := ⟨rfl, rfl, rfl, by decide +kernel, rfl, by decide +kernel, by decide +kernel⟩
def spPA (K : PySem.W.Frag) (C : Addr) : Sp := fun vs H Q _ => ∃ (y t : Addr) (b : Bks) (s : PW_ × PLd) (c n : Nat), vs = [.ref y, .ref t, .str (T [c])] ∧ HuntP C H y b ∧ BksOk b ∧ StP K H t s ∧ Fits n s ∧ n ≤ 4000000 ∧
  ∀ (u : Addr) (H' : Hp), Same H H' → H u = none → StP K H' u (paS b s c) → Q (.ref u) H'
theorem ok_PA {f C fPL : Addr} {fd dPL : FuncData} (F : Fun K "after" "PartedHunt.after" (sPH 2) f fd) (S : PSC K C) (DTk : Df P w K mg base "taken" ["rules", "tail", "letter"] 3 spTk) (DSo : Df P w K mg base "sounds_of" ["rules", "numbers"] 1 spSou) (DLd : Df P w K mg base "lead_of" ["one", "other"] 1 (spLd K))
    (GPL : FnOk P w K mg base CX0 1 fPL dPL ["self", "stem", "letter"] (spPL C)) (mPL : Meth K C "_longer_stem" fPL) (bPL : Binds K dPL ["self", "stem", "letter"] []) : FnOk P w K mg base CX0 4 f fd ["self", "state", "letter"] (spPA K C) := by
  obtain ⟨fTk, fdTk, GTk, kTk, bTk, mTk⟩ := DTk
  obtain ⟨fSo, fdSo, GSo, kSo, bSo, mSo⟩ := DSo
  obtain ⟨fLd, fdLd, GLd, kLd, bLd, mLd⟩ := DLd
  refine F.ok scPA (fun vs H Q E h => ?_) (fun cdv A outer s H vs Q E hr h => ?_)
  · obtain ⟨y, t, b, s, c, n, rfl, _⟩ := h
    rfl
  · obtain ⟨y, t, b, ⟨⟨t1, t2, sm⟩, ⟨x1, x2⟩⟩, c, n, rfl, hH, ho, ⟨bw, l, ht, hbw, hl⟩, fs, hn, q⟩ := h
    have hr1 : Room 1 _ := hr.mono (by decide)
    refine ⟨_, pss_cons (ps_asg (pv 1) (pg_tup (by rfl) (pgs_cons (pg_tup (by rfl) (pgs_cons (pg_name (i := 3) scPA.nd rfl (.inl rfl)) (pgs_cons (pg_name (i := 4) scPA.nd rfl (.inl rfl)) (pgs_cons (pg_name (i := 5) scPA.nd rfl (.inl rfl)) pgs_nil)))) (pgs_cons (pg_tup (by rfl) (pgs_cons (pg_name (i := 6) scPA.nd rfl (.inl rfl)) (pgs_cons (pg_name (i := 7) scPA.nd rfl (.inl rfl)) pgs_nil))) pgs_nil))))
      (pss_cons (ps_asg (pe_call GTk hr (by rfl) mTk kTk bTk .nil pass0 (pa_cons (pe_fld (pv 0) rfl) (pa_cons (pv 3) (pa_cons (pv 2) pa_nil)))) (pg_tup (by rfl) (pgs_cons (pg_name (i := 3) scPA.nd rfl (.inl rfl)) (pgs_cons (pg_name (i := 8) scPA.nd rfl (.inl rfl)) pgs_nil))))
      (pss_cons (ps_asg (pe_call GTk hr (by rfl) mTk kTk bTk .nil pass0 (pa_cons (pe_fld (pv 0) rfl) (pa_cons (pv 4) (pa_cons (pv 2) pa_nil)))) (pg_tup (by rfl) (pgs_cons (pg_name (i := 4) scPA.nd rfl (.inl rfl)) (pgs_cons (pg_name (i := 9) scPA.nd rfl (.inl rfl)) pgs_nil))))
      (pss_cons (ps_aug (i := 6) scPA.nd rfl (.inl rfl) (pe_call GSo hr1 (by rfl) mSo kSo bSo .nil pass0 (pa_cons (pe_fld (pv 0) rfl) (pa_cons (pv 8) pa_nil))) ip_addS)
      (pss_cons (ps_aug (i := 7) scPA.nd rfl (.inl rfl) (pe_call GSo hr1 (by rfl) mSo kSo bSo .nil pass0 (pa_cons (pe_fld (pv 0) rfl) (pa_cons (pv 9) pa_nil))) ip_addS)
      (pss_cons (ps_set (i := 10) scPA.nd rfl (.inl rfl) (pe_tup (pa_cons (pv 3) (pa_cons (pv 4) (pa_cons (pe_meth (pv 0) S.cl mPL GPL hr1 bPL .nil pass0 (pa_cons (pv 5) (pa_cons (pv 2) pa_nil))) pa_nil)))))
      (pss_one (ps_ret (pe_tup (pa_cons (pv 10) (pa_cons (pe_call GLd hr1 (by rfl) mLd kLd bLd .nil pass0 (pa_cons (pv 6) (pa_cons (pv 7) pa_nil))) pa_nil)))))))))), ?_⟩
    obtain ⟨R1, R2, D1, D2, DS, dx, hy, hR1, hR2, hD1, hD2, hS⟩ := id hH
    refine ⟨_, rfl, t, _, rfl, .inl (.inl ht), rfl, _, _, rfl, ⟨bw, _, rfl, .inl (.inl hbw), rfl, _, _, rfl, _, _, rfl, _, _, rfl, rfl, ?_⟩⟩
    refine ⟨_, _, rfl, ⟨l, _, rfl, hl.1, rfl, _, _, rfl, _, _, rfl, rfl, rfl, ?_⟩⟩
    simp only [show L2.start nPA [V.ref y, V.ref t, V.str (T [c])] = [some (.ref y), some (.ref t), some (.str (T [c])), none, none, none, none, none, none, none, none] from rfl, List.set_cons_succ, List.set_cons_zero]
    refine ⟨_, rfl, y, C, dx, _, _, rfl, hy, S.cl, S.n1, rfl, _, rfl, _, rfl, R1, b.r1, t1, c, rfl, hR1, ho.h1, fs.t1, fun u1 E1 H1 s1 hE1 g1 g2 => ?_⟩
    refine ⟨u1, _, rfl, .inl (.inl g1), rfl, _, _, rfl, _, _, rfl, rfl, ?_⟩
    refine ⟨_, rfl, y, C, dx, _, _, rfl, s1 _ _ hy, S.cl, S.n2, rfl, _, rfl, _, rfl, R2, b.r2, t2, c, rfl, hR2.kt (.of s1), ho.h2, fs.t2, fun u2 E2 H2 s2 hE2 g3 g4 => ?_⟩
    refine ⟨u2, _, rfl, .inl (.inl g3), rfl, _, _, rfl, _, _, rfl, rfl, ?_⟩
    have s12 := s1.trans s2
    obtain ⟨k1, k1'⟩ := tk_num b.r1 t1 c
    obtain ⟨k2, k2'⟩ := tk_num b.r2 t2 c
    have f1 := flat_len ho.h1 _ k1
    have f2 := flat_len ho.h2 _ k2
    have l1 : x1.length ≤ 3 * n + 1 := fs.l1
    have l2 : x2.length ≤ 3 * n + 1 := fs.l2
    have i1 : (T x1).length + (T (soL b.r1 (tkM b.r1 t1 c).2)).length ≤ sizeLine := by rw [T_len, T_len]; show _ ≤ 2 ^ 24; omega
    have i2 : (T x2).length + (T (soL b.r2 (tkM b.r2 t2 c).2)).length ≤ sizeLine := by rw [T_len, T_len]; show _ ≤ 2 ^ 24; omega
    simp only [List.set_cons_succ, List.set_cons_zero]
    refine ⟨_, rfl, _, rfl, y, C, dx, _, _, rfl, s12 _ _ hy, S.cl, S.n1, rfl, _, rfl, R1, E1, b.r1, _, rfl, hR1.kt (.of s12), ho.h1, s2 _ _ g2, k1, by omega, fun H3 s3 => ?_⟩
    refine ⟨_, _, rfl, rfl, i1, ?_⟩
    rw [T_app]
    have s13 := s12.trans s3
    refine ⟨_, rfl, _, rfl, y, C, dx, _, _, rfl, s13 _ _ hy, S.cl, S.n2, rfl, _, rfl, R2, E2, b.r2, _, rfl, hR2.kt (.of s13), ho.h2, s3 _ _ g4, k2, by omega, fun H4 s4 => ?_⟩
    refine ⟨_, _, rfl, rfl, i2, ?_⟩
    rw [T_app]
    have s14 := s13.trans s4
    refine ⟨_, rfl, _, rfl, _, rfl, y, dx, _, rfl, s14 _ _ hy, rfl, _, rfl, _, rfl, y, b, sm, c, rfl, hH.same s14, (fun u hu => Nat.le_trans (fs.st u hu) (by omega)), ?_⟩
    refine ⟨(by show 3 ≤ sizeLine; decide), fun w1 hw1 => ?_⟩
    have sw := same_new hw1 (.tup [optT (tkM b.r1 t1 c).1, optT (tkM b.r2 t2 c).1, optT (lgS b.es sm c)])
    have a1 : ∀ d ∈ x1 ++ soL b.r1 (tkM b.r1 t1 c).2, d ≤ 90 := fun d hd => by
      rcases List.mem_append.mp hd with hd | hd
      · exact fs.ok.1 d hd
      · exact soL_sign ho.s1 k1 d hd
    have a2 : ∀ d ∈ x2 ++ soL b.r2 (tkM b.r2 t2 c).2, d ≤ 90 := fun d hd => by
      rcases List.mem_append.mp hd with hd | hd
      · exact fs.ok.2 d hd
      · exact soL_sign ho.s2 k2 d hd
    simp only [List.set_cons_succ, List.set_cons_zero]
    have z1 : (x1 ++ soL b.r1 (tkM b.r1 t1 c).2).length ≤ 16000000 := by rw [List.length_append]; omega
    have z2 : (x2 ++ soL b.r2 (tkM b.r2 t2 c).2).length ≤ 16000000 := by rw [List.length_append]; omega
    refine ⟨_, rfl, ?_⟩
    refine ⟨_, rfl, _, rfl, ?_⟩
    refine ⟨x1 ++ soL b.r1 (tkM b.r1 t1 c).2, x2 ++ soL b.r2 (tkM b.r2 t2 c).2, rfl, z1, z2, a1, a2, fun l' H5 s5 hl' => ?_⟩
    refine ⟨(by show 2 ≤ sizeLine; decide), fun u hu => ?_⟩
    have su := same_new hu (.tup [.ref w1, .ref l'])
    exact q u _ (s14.trans (sw.trans (s5.trans su))) (s14.free (sw.free (s5.free hu))) ⟨w1, l', upd_same, su _ _ (s5 _ _ upd_same), hl'.kt (.of su)⟩
abbrev nPF : List Str := ["self", "state", "one_tail", "other_tail", "stem", "one_lead", "other_lead", "one_rest", "other_rest"]
theorem scPF : FnScope nPF ["self", "state"] (defScope (sPH 3)) := ⟨rfl, rfl, rfl, by decide +kernel, rfl, by decide +kernel, by decide +kernel⟩
def exB (es : List Exc) : Option (List Nat) → Bool
  | none => false
  | some u => (excV es u).isSome
theorem isE_exB (b : Bks) (sm : Option (List Nat)) : isE b sm = (exB b.e1 sm || exB b.e2 sm) := by cases sm <;> rfl
def spPF (K : PySem.W.Frag) (C : Addr) : Sp := fun vs H Q _ => ∃ (y t : Addr) (b : Bks) (s : PW_ × PLd) (n : Nat), vs = [.ref y, .ref t] ∧ HuntP C H y b ∧ BksOk b ∧ Bks8 b ∧ StP K H t s ∧ Fits n s ∧ n ≤ 4000000 ∧
  ∀ (H' : Hp), Same H H' → Q (.bl (fdP b s)) H'
theorem ens_len {rs : List Rule} (ho : ∀ ρ ∈ rs, RlOk ρ) {t : Option (List Nat)} (h : ∀ x, t = some x → 1 ≤ x.length ∧ x.length ≤ 3) {so : List Nat} (e : ensM rs t = some so) : so.length ≤ 243 := by
  unfold ensM at e
  cases ek : endM rs t with
  | none => rw [ek] at e; cases e
  | some ks =>
    rw [ek] at e
    cases e
    obtain ⟨h1, h2⟩ := end_ks ek fun x hx => ⟨(h x hx).1, by have := (h x hx).2; omega⟩
    have := flat_len ho ks h1
    omega
theorem ok_PF {f C fPE : Addr} {fd dPE : FuncData} (F : Fun K "is_found" "PartedHunt.is_found" (sPH 3) f fd) (S : PSC K C) (DEn : Df P w K mg base "ending_sounds" ["rules", "tail"] 5 spEnS)
    (GPE : FnOk P w K mg base CX0 7 fPE dPE ["self", "word"] (spPE C)) (mPE : Meth K C "_is_exception_parted" fPE) (bPE : Binds K dPE ["self", "word"] []) : FnOk P w K mg base CX0 8 f fd ["self", "state"] (spPF K C) := by
  obtain ⟨fEn, fdEn, GEn, kEn, bEn, mEn⟩ := DEn
  refine F.ok scPF (fun vs H Q E h => ?_) (fun cdv A outer s H vs Q E hr h => ?_)
  · obtain ⟨y, t, b, s, n, rfl, _⟩ := h
    rfl
  · obtain ⟨y, t, b, ⟨⟨t1, t2, sm⟩, ⟨x1, x2⟩⟩, n, rfl, hH, ho, h8, ⟨bw, l, ht, hbw, hl⟩, fs, hn, q⟩ := h
    have hr5 : Room 5 _ := hr.mono (by decide)
    have hu := hu_of hr
    refine ⟨_, pss_cons (ps_asg (pv 1) (pg_tup (by rfl) (pgs_cons (pg_tup (by rfl) (pgs_cons (pg_name (i := 2) scPF.nd rfl (.inl rfl)) (pgs_cons (pg_name (i := 3) scPF.nd rfl (.inl rfl)) (pgs_cons (pg_name (i := 4) scPF.nd rfl (.inl rfl)) pgs_nil)))) (pgs_cons (pg_tup (by rfl) (pgs_cons (pg_name (i := 5) scPF.nd rfl (.inl rfl)) (pgs_cons (pg_name (i := 6) scPF.nd rfl (.inl rfl)) pgs_nil))) pgs_nil))))
      (pss_cons (ps_if (PW.pt (pw_or (pt_cmp (pc_dinN hu (pv 4) (pe_fld (pv 0) rfl))) (pw_or1 (pt_cmp (pc_dinN hu (pv 4) (pe_fld (pv 0) rfl)))))) (pss_one (ps_ret (pe_meth (pv 0) S.cl mPE GPE hr bPE .nil pass0 (pa_cons (pv 4) pa_nil)))) pss_nil)
      (pss_cons (ps_set (i := 7) scPF.nd rfl (.inl rfl) (pe_call GEn hr5 (by rfl) mEn kEn bEn .nil pass0 (pa_cons (pe_fld (pv 0) rfl) (pa_cons (pv 2) pa_nil))))
      (pss_cons (ps_set (i := 8) scPF.nd rfl (.inl rfl) (pe_call GEn hr5 (by rfl) mEn kEn bEn .nil pass0 (pa_cons (pe_fld (pv 0) rfl) (pa_cons (pv 3) pa_nil))))
      (pss_cons (ps_if (PW.pt (pw_or (pt_cmpR op_isN (pv 7) pe_non (nomark _)) (pw_or1 (pt_cmpR op_isN (pv 8) pe_non (nomark _))))) (pss_one (ps_ret (pe_cmpR op_ne (pv 7) (pv 8) (nomark _)))) pss_nil)
      (pss_one (ps_ret (pe_cmpR op_ne (pe_op op_add_str (pv 5) (pv 7)) (pe_op op_add_str (pv 6) (pv 8)) (nomark _)))))))), ?_⟩
    obtain ⟨R1, R2, D1, D2, DS, dx, hy, hR1, hR2, hD1, hD2, hS⟩ := id hH
    refine ⟨_, rfl, t, _, rfl, .inl (.inl ht), rfl, _, _, rfl, ⟨bw, _, rfl, .inl (.inl hbw), rfl, _, _, rfl, _, _, rfl, _, _, rfl, rfl, ?_⟩⟩
    refine ⟨_, _, rfl, ⟨l, _, rfl, hl.1, rfl, _, _, rfl, _, _, rfl, rfl, rfl, ?_⟩⟩
    simp only [show L2.start nPF [V.ref y, V.ref t] = [some (.ref y), some (.ref t), none, none, none, none, none, none, none] from rfl, List.set_cons_succ, List.set_cons_zero]
    have tl1 : TlOk t1 := fun x hx => ⟨(fs.t1 x hx).1, by have := (fs.t1 x hx).2; omega⟩
    have tl2 : TlOk t2 := fun x hx => ⟨(fs.t2 x hx).1, by have := (fs.t2 x hx).2; omega⟩
    have l1 : x1.length ≤ 3 * n + 1 := fs.l1
    have l2 : x2.length ≤ 3 * n + 1 := fs.l2
    cases sm with
    | none =>
      refine ⟨_, rfl, _, rfl, y, C, dx, _, _, rfl, hy, S.cl, S.n3, rfl, .inr ⟨D1, _, rfl, rfl, .of hD1, ?_⟩⟩
      refine ⟨_, rfl, iteF ?_⟩
      refine ⟨_, rfl, _, rfl, y, C, dx, _, _, rfl, hy, S.cl, S.n4, rfl, .inr ⟨D2, _, rfl, rfl, .of hD2, ?_⟩⟩
      refine ⟨_, rfl, iteF ?_⟩
      have ef : fdP b ((t1, t2, none), (x1, x2)) = rst b ((t1, t2, none), (x1, x2)) := rfl
      rw [ef] at q
      refine ⟨_, rfl, y, C, dx, _, _, rfl, hy, S.cl, S.n1, rfl, _, rfl, R1, b.r1, t1, rfl, hR1, ho.h1, tl1, fun H1 s1 => ?_⟩
      refine ⟨_, rfl, y, C, dx, _, _, rfl, s1 _ _ hy, S.cl, S.n2, rfl, _, rfl, R2, b.r2, t2, rfl, hR2.kt (.of s1), ho.h2, tl2, fun H2 s2 => ?_⟩
      have q := q H2 (s1.trans s2)
      unfold rst at q
      simp only at q
      simp only [List.set_cons_succ, List.set_cons_zero]
      refine ⟨_, rfl, rfl, _, rfl, ?_⟩
      cases e1 : ensM b.r1 t1 with
      | none =>
        rw [e1] at q
        refine iteT ?_
        refine iteT ?_
        refine ⟨_, rfl, _, rfl, scal_opt _ _, ?_⟩
        rw [ne_opt]
        exact q
      | some a1 =>
        rw [e1] at q
        rw [show decide (optT (some a1) = V.non) = false from decide_eq_false (fun z => by cases z)]
        refine iteF ?_
        refine ⟨_, rfl, rfl, _, rfl, ?_⟩
        cases e2 : ensM b.r2 t2 with
        | none =>
          rw [e2] at q
          refine iteT ?_
          refine ⟨_, rfl, _, rfl, scal_opt _ _, ?_⟩
          rw [ne_opt]
          exact q
        | some a2 =>
          rw [e2] at q
          rw [show decide (optT (some a2) = V.non) = false from decide_eq_false (fun z => by cases z)]
          refine iteF ?_
          have n1 := ens_len ho.h1 fs.t1 e1
          have n2 := ens_len ho.h2 fs.t2 e2
          refine ⟨_, rfl, _, rfl, _, _, rfl, rfl, (by rw [T_len, T_len]; show _ ≤ 2 ^ 24; omega), ?_⟩
          refine ⟨_, rfl, _, rfl, _, _, rfl, rfl, (by rw [T_len, T_len]; show _ ≤ 2 ^ 24; omega), rfl, ?_⟩
          rw [T_app, T_app, eqT, ← decide_not]
          exact q
    | some u =>
      have ef0 : fdP b ((t1, t2, some u), (x1, x2)) = if ((excV b.e1 u).isSome || (excV b.e2 u).isSome) = true then decide (¬ saidM b.r1 b.e1 u = saidM b.r2 b.e2 u) else rst b ((t1, t2, some u), (x1, x2)) := rfl
      rw [ef0] at q
      have l80 : ((excV b.e1 u).isSome || (excV b.e2 u).isSome) = true → u.length ≤ 80 := fun h => by
        have := isE_len h8 (u := u) h
        omega
      refine ⟨_, rfl, _, rfl, y, C, dx, _, _, rfl, hy, S.cl, S.n3, rfl, .inl ⟨D1, _, rfl, .inl ⟨_, (Sum.inr (T u) : Key), .of hD1, rfl, rfl⟩, ?_⟩⟩
      rw [val_ent, some_isSome]
      refine ⟨_, rfl, ite2 (fun c => ?_) (fun c => ?_)⟩
      · refine iteT ?_
        refine ⟨_, rfl, y, dx, _, rfl, hy, rfl, _, rfl, y, b, u, rfl, hH, ho, l80 (by rw [c, Bool.true_or]), fun H1 s1 => ?_⟩
        have := q H1 s1
        rw [if_pos (by rw [c, Bool.true_or])] at this
        exact this
      · refine ⟨_, rfl, _, rfl, y, C, dx, _, _, rfl, hy, S.cl, S.n4, rfl, .inl ⟨D2, _, rfl, .inl ⟨_, (Sum.inr (T u) : Key), .of hD2, rfl, rfl⟩, ?_⟩⟩
        rw [val_ent, some_isSome]
        refine ⟨_, rfl, ite2 (fun c2 => ?_) (fun c2 => ?_)⟩
        · refine ⟨_, rfl, y, dx, _, rfl, hy, rfl, _, rfl, y, b, u, rfl, hH, ho, l80 (by rw [c2, Bool.or_true]), fun H1 s1 => ?_⟩
          have := q H1 s1
          rw [if_pos (by rw [c2, Bool.or_true])] at this
          exact this
        · rw [if_neg (by rw [Bool.eq_false_iff.mpr c, Bool.eq_false_iff.mpr c2]; decide)] at q
          refine ⟨_, rfl, y, C, dx, _, _, rfl, hy, S.cl, S.n1, rfl, _, rfl, R1, b.r1, t1, rfl, hR1, ho.h1, tl1, fun H1 s1 => ?_⟩
          refine ⟨_, rfl, y, C, dx, _, _, rfl, s1 _ _ hy, S.cl, S.n2, rfl, _, rfl, R2, b.r2, t2, rfl, hR2.kt (.of s1), ho.h2, tl2, fun H2 s2 => ?_⟩
          have q := q H2 (s1.trans s2)
          unfold rst at q
          simp only at q
          simp only [List.set_cons_succ, List.set_cons_zero]
          refine ⟨_, rfl, rfl, _, rfl, ?_⟩
          cases e1 : ensM b.r1 t1 with
          | none =>
            rw [e1] at q
            refine iteT ?_
            refine iteT ?_
            refine ⟨_, rfl, _, rfl, scal_opt _ _, ?_⟩
            rw [ne_opt]
            exact q
          | some a1 =>
            rw [e1] at q
            rw [show decide (optT (some a1) = V.non) = false from decide_eq_false (fun z => by cases z)]
            refine iteF ?_
            refine ⟨_, rfl, rfl, _, rfl, ?_⟩
            cases e2 : ensM b.r2 t2 with
            | none =>
              rw [e2] at q
              refine iteT ?_
              refine ⟨_, rfl, _, rfl, scal_opt _ _, ?_⟩
              rw [ne_opt]
              exact q
            | some a2 =>
              rw [e2] at q
              rw [show decide (optT (some a2) = V.non) = false from decide_eq_false (fun z => by cases z)]
              refine iteF ?_
              have n1 := ens_len ho.h1 fs.t1 e1
              have n2 := ens_len ho.h2 fs.t2 e2
              refine ⟨_, rfl, _, rfl, _, _, rfl, rfl, (by rw [T_len, T_len]; show _ ≤ 2 ^ 24; omega), ?_⟩
              refine ⟨_, rfl, _, rfl, _, _, rfl, rfl, (by rw [T_len, T_len]; show _ ≤ 2 ^ 24; omega), rfl, ?_⟩
              rw [T_app, T_app, eqT, ← decide_not]
              exact q
end
end Say
namespace Say
open PySem PySem.Spec PyProof.Rows L2
section
variable {X : Cx}
/-- tuple(xs) of a list: a tuple as it is made -/
theorem call_tupN : CallR X (.type "tuple") (fun xs H Q => ∃ p ys, xs = [.ref p] ∧ SqL X.K H p ys ∧ ∀ (l : Addr) (o : Obj), o.dict = none → H l = none → Q (.ref l) (upd H l (.frz o (.tup ys)))) := by
  intro pins s σ H xs us Q I r h
  obtain ⟨p, ys, rfl, hq, q⟩ := h
  obtain ⟨u, rfl, rx⟩ := vals1 r
  cases rx
  obtain ⟨its, r', pl, hz⟩ := I.list hq
  have hlen := r'.length
  refine call_tuple_list pl.isList (fun h' kp => ?_) (by simp only [List.size_toArray] <;> omega)
  have I1 : Inv X pins σ H { s with heap := h' } := I.kept (t' := s.toks) kp
  have I2 : Inv X pins σ (upd H h'.objs.size (.frz { cls := .type "tuple", data := .seq its.toArray } (.tup ys))) { s with heap := h'.push { cls := .type "tuple", data := .seq its.toArray } } :=
    I1.laid (t' := s.toks) (fun b o e => Heap.get?_push_of_some _ e) (Nat.le_refl _) (show ObjOk X.prog X.w _ _ _ (.frz _ (.tup ys)) from ⟨Heap.get?_push_size _ rfl, hz, its, r', IsTup.new _ _⟩)
  exact ⟨.ref h'.objs.size, _, I2, rfl, q _ _ rfl (I1.hok.fresh (Nat.le_refl _))⟩
theorem pairs_ofT {pins : List (Addr × Obj)} {σ : L2.St} {H : Hp} {s : Shared} (I : L2.Inv X pins σ H s) : ∀ {ps : List Addr} {kvs : List (Key × V)}, Paired (fun p kv => SqT X.K H p [kV kv.1, kv.2]) ps kvs →
    ∃ (prs : List (Key × Value)) (vs : List (Value × Value)), KV kvs prs ∧ prs.length = ps.length ∧ vs.length = ps.length ∧
      ∀ (j : Nat) (k v : Value), vs[j]? = some (k, v) → ∃ (b : Addr) (q : Key), ps[j]? = some b ∧ prs[j]? = some (q, v) ∧ IsTup s.heap b #[k, v] ∧ keyIs q k = true
  | _, _, .nil => ⟨[], [], .nil, rfl, rfl, fun j k v e => by simp at e⟩
  | _, _, .cons (a := p) (b := kv) h t => by
    obtain ⟨prs, vs, r, hl, hl2, hp⟩ := pairs_ofT I t
    obtain ⟨its, rv, ht, _⟩ := I.tuple h
    obtain ⟨u, y, ei, ru, ry⟩ := vals2 rv
    subst ei
    refine ⟨(kv.1, y) :: prs, (u, y) :: vs, .cons ⟨rfl, ry⟩ r, by rw [List.length_cons, List.length_cons, hl], by rw [List.length_cons, List.length_cons, hl2], fun j k v e => ?_⟩
    cases j with
    | zero =>
      have e' : (u, y) = (k, v) := Option.some.inj e
      cases e'
      exact ⟨p, kv.1, rfl, rfl, ht, kV_is (P := X.prog) (w := X.w) ru⟩
    | succ j =>
      obtain ⟨b, q, e1, e2, e3⟩ := hp j k v (by simpa using e)
      exact ⟨b, q, by simpa using e1, by simpa using e2, e3⟩
/-- a display, as it is made -/
def tTupN (t : TA) : TE := fun σ H Q => t σ H fun xs H1 => xs.length ≤ sizeLine ∧ ∀ (p : Addr) (o : Obj), o.dict = none → H1 p = none → Q (.ref p) (upd H1 p (.frz o (.tup xs)))
theorem pe_tupN {es : List Expr} {t : TA} {pos : Pos} {x1} (h : PA X es t) : PE X (.Tuple es x1 pos) (tTupN t) := by
  refine ⟨fun pins s σ H Q I hq => ?_⟩
  refine wpAny_Tuple_spliced (thn (h.run pos pins s σ H _ I hq) fun us s1 ⟨xs, H1, I1, r, z, q⟩ => ⟨by rw [← r.length]; exact z, ?_⟩)
  have hf : H1 s1.heap.objs.size = none := I1.hok.fresh (Nat.le_refl _)
  exact ⟨.ref s1.heap.objs.size, upd H1 s1.heap.objs.size (.frz _ (.tup xs)), I1.laid (t' := s1.toks) (fun b u e => Heap.get?_push_of_some _ e) (Nat.le_refl _) ⟨Heap.get?_push_size _ rfl, z, us, r, ⟨_, Heap.get?_push_size _ rfl, rfl, _, rfl⟩⟩, rfl, q _ _ rfl hf⟩
/-- dict(ps) of such a tuple of pairs -/
theorem call_dictT (hcalm : X.calm = true) : CallR X (.type "dict") (fun xs H Q => ∃ (a : Addr) (ps : List Addr) (kvs : List (Key × V)), xs = [.ref a] ∧ TupN H a (ps.map V.ref) ∧ Paired (fun p kv => SqT X.K H p [kV kv.1, kv.2]) ps kvs ∧
    ∀ p, H p = none → Q (.ref p) (upd H p (.dK (mergeK [] kvs)))) := by
  intro pins s σ H xs us Q I r q
  obtain ⟨a, ps, kvs, ex, hq, hp, q⟩ := q
  subst ex
  obtain ⟨u, eu, rx⟩ := vals1 r
  subst eu
  cases rx
  obtain ⟨o, hH, hd⟩ := hq
  obtain ⟨ho, hz, its, rv, ⟨o', ho', hc, n, hdat⟩⟩ : s.heap.get? a = some o ∧ (ps.map V.ref).length ≤ sizeLine ∧ ∃ its : List Value, Vals (ps.map V.ref) its ∧ IsTup s.heap a its.toArray := I.hok _ _ hH
  have eo : o' = o := Option.some.inj (ho'.symm.trans ho)
  subst eo
  have ei := refs_at rv
  subst ei
  rw [List.length_map] at hz
  obtain ⟨prs, vs, rel, hl, hl2, hpr⟩ := pairs_ofT I hp
  refine PySem.call_dict_pairs (knd := mixKind X.prog X.w) (kvs := prs) (PySem.PairArg.tuple a (ps.map Value.ref).toArray (fun j => (ps[j]?).getD 0) vs) (I.ok.hd hcalm) ⟨⟨o', n, ho, hc, hd, hdat⟩, by simp [hl2], fun j k v e => ?_⟩ ⟨by rw [hl, hl2], fun j k v e => ?_⟩ (by rw [hl2]; exact hz) fun h' tk hd' k => ?_
  · obtain ⟨b, q', e1, _, e3, _⟩ := hpr j k v e
    refine ⟨by simp [e1], .inl ?_⟩
    show s.heap.IsTuple ((ps[j]?).getD 0) _
    rw [e1]
    exact e3
  · obtain ⟨b, q', e1, e2, _, e4⟩ := hpr j k v e
    exact ⟨q', e2, e4⟩
  · have hm : (s.heap.objs.size == sysModules) = false := beq_eq_false_iff_ne.mpr (Nat.ne_of_gt I.big)
    have hlen : (mergeK [] kvs).length ≤ sizeLine := by
      refine Nat.le_trans (length_mergeK kvs []) ?_
      rw [List.length_nil, Nat.zero_add, rel.length, hl]
      exact hz
    have k' : ∀ b o, s.heap.get? b = some o → h'.get? b = some o := fun b o e => k b o (by simp) e
    exact ⟨.ref s.heap.objs.size, upd H s.heap.objs.size (.dK (mergeK [] kvs)), I.laid (t' := tk) k' (Nat.le_refl _) (show ObjOk X.prog X.w _ _ _ (.dK (mergeK [] kvs)) from ⟨hlen, hm, merged [] prs, KV.merge rel .nil, hd'⟩), rfl, q _ (I.hok.fresh (Nat.le_refl _))⟩
end
end Say
namespace Say
open PySem PySem.Spec PyProof.Rows L2
section
variable {X : Cx}
/-- t[lo:hi] of a tuple, as it is made: t itself where it is the whole -/
def rSlN (K : PySem.W.Frag) : V → Option Int → Option Int → Hp → VK → Prop := fun x lo hi H Q => ∃ a xs, x = .ref a ∧ SqT K H a xs ∧
  (HT.sIx xs.length 0 lo = 0 ∧ HT.sIx xs.length xs.length hi = xs.length → Q (.ref a) H) ∧ (¬ (HT.sIx xs.length 0 lo = 0 ∧ HT.sIx xs.length xs.length hi = xs.length) → ∀ (p : Addr) (o : Obj), o.dict = none → H p = none → Q (.ref p) (upd H p (.frz o (.tup (cutV xs lo hi)))))
theorem sl_tupN : SlR X (rSlN X.K) := by
  intro pins s σ H x v vl vu lo hi sl Q I rx hs pl pu h
  obtain ⟨a, xs, rfl, hx, q1, q2⟩ := h
  cases rx
  obtain ⟨its, r, ht, hz⟩ := I.tuple hx
  have hlen : its.toArray.size = xs.length := by rw [List.size_toArray]; exact r.length.symm
  refine ⟨"tuple", _, PyProof.Rows.slot_tuple_getitem.lookup, ht.typeIs, ?_⟩
  by_cases hw : HT.sIx xs.length 0 lo = 0 ∧ HT.sIx xs.length xs.length hi = xs.length
  · exact getItem_tuple_whole ht hs pl pu (by rw [hlen]; exact hw) ⟨.ref a, H, I, rfl, q1 hw⟩
  · refine HT.getItem_tuple_cut ht hs pl pu (by rw [hlen]; exact hw) ?_ (by rw [hlen]; exact hz)
    rw [hlen]
    have rr := (r.drop (HT.sIx xs.length 0 lo)).take (HT.sIx xs.length xs.length hi - HT.sIx xs.length 0 lo)
    exact ⟨.ref s.heap.objs.size, _, I.laid (t' := s.toks) (fun b ob e => Heap.get?_push_of_some _ e) (Nat.le_refl _) (show ObjOk X.prog X.w _ _ _ (.frz _ (.tup (cutV xs lo hi))) from ⟨Heap.get?_push_size _ rfl, Nat.le_trans (cutV_length xs lo hi) hz, _, rr, IsTup.new _ _⟩), rfl, q2 hw _ _ rfl (I.hok.fresh (Nat.le_refl _))⟩
/-- t[lo:hi] of a tuple as it was made, whatever is cut -/
theorem sl_tupQ : SlR X (fun x lo hi H Q => ∃ a xs, x = .ref a ∧ TupN H a xs ∧ ∀ (p : Addr) (H' : Hp), (∀ b o, H b = some o → H' b = some o) → TupN H' p (cutV xs lo hi) → Q (.ref p) H') := by
  intro pins s σ H x v vl vu lo hi sl Q I rx hs pl pu h
  obtain ⟨a, xs, e, ha, q⟩ := h
  refine sl_tupN pins s σ H x v vl vu lo hi sl Q I rx hs pl pu ⟨a, xs, e, .inl (.inr ⟨_, ha.choose_spec.1⟩), fun hw => ?_, fun hw p o ho hp => ?_⟩
  · refine q a H (fun _ _ h => h) ?_
    have : cutV xs lo hi = xs := by
      unfold cutV
      rw [hw.1, hw.2, List.drop_zero, Nat.sub_zero, List.take_length]
    rw [this]
    exact ha
  · refine q p _ (fun b u hb => ?_) ⟨o, upd_same, ho⟩
    rw [upd_ne (fun z => by rw [z, hp] at hb; cases hb)]
    exact hb
end
end Say
namespace Say
open PySem PySem.Spec PyProof.Rows L2
theorem merge_ent : ∀ (es acc : List Exc), ((acc ++ es).map (·.1)).Nodup → mergeK (acc.map ent) (es.map ent) = (acc ++ es).map ent
  | [], acc, _ => by rw [List.append_nil]; rfl
  | e :: r, acc, h => by
    have ih := merge_ent r (acc ++ [e]) (by rwa [List.append_assoc])
    rw [List.append_assoc] at ih
    refine Eq.trans ?_ ih
    show mergeK (putK (acc.map ent) (Sum.inr (T e.1) : Key) (V.str (T e.2))) (r.map ent) = _
    rw [put_ent]
    congr 2
    unfold putE
    rw [if_neg]
    intro z
    obtain ⟨f, hf, hz⟩ := List.any_eq_true.mp z
    have hz : f.1 = e.1 := of_decide_eq_true hz
    rw [List.map_append] at h
    exact (List.nodup_append.mp h).2.2 f.1 (List.mem_map.mpr ⟨f, hf, rfl⟩) e.1 (List.mem_map.mpr ⟨e, List.mem_cons_self .., rfl⟩) hz
theorem merge_nd {es : List Exc} (h : (es.map (·.1)).Nodup) : mergeK [] (es.map ent) = es.map ent := merge_ent es [] h
theorem up_nd {es : List Exc} (up : es.Pairwise fun e f => e.1 < f.1) : (es.map (·.1)).Nodup := by
  show (es.map (·.1)).Pairwise (· ≠ ·)
  rw [List.pairwise_map]
  exact up.imp fun {a b} h z => by rw [z] at h; exact lexIrr _ h
theorem kt_ins {H : Hp} {y C dx : Addr} {fs : List (Str × V)} {o : HO} (h : H y = some (.ins C dx fs)) : KT H (upd H y o) := KT.by fun t u q hu => by
  rw [upd_ne (ne_of q h (by rcases hu with ⟨_, rfl⟩ | ⟨_, _, rfl⟩ <;> (intro z; cases z)))]
  exact q
theorem ExcsAt.pairs {K : PySem.W.Frag} {H : Hp} {X : Addr} {es : List Exc} (h : ExcsAt H X es) : ∃ ts : List Addr, TupN H X (ts.map V.ref) ∧ Paired (fun p (kv : Key × V) => SqT K H p [kV kv.1, kv.2]) ts (es.map ent) ∧ Paired (fun t (e : Exc) => SqT K H t [.str (T e.1), .str (T e.2)]) ts es := by
  obtain ⟨ts, h1, h2⟩ := h
  refine ⟨ts, h1, ?_, paired_mono (fun _ _ g => .inl (.inl g)) h2⟩
  clear h1
  induction h2 with
  | nil => exact .nil
  | cons a _ ih => exact .cons (.inl (.inl a)) ih
theorem TupN.sq {K : PySem.W.Frag} {H : Hp} {a : Addr} {xs : List V} (h : TupN H a xs) : SqT K H a xs := .inl (.inr ⟨_, h.choose_spec.1⟩)
/-- t + u, whatever stands in them -/
theorem op_catQ {X : Cx} : OpR X (binaryOp .Add) (fun x y H Q => ∃ a b xs ys, x = .ref a ∧ y = .ref b ∧ SqT X.K H a xs ∧ SqT X.K H b ys ∧ xs.length + ys.length ≤ sizeLine ∧ ∀ (p : Addr) (H' : Hp), Same H H' → SqT X.K H' p (xs ++ ys) → Q (.ref p) H') := by
  intro pins s σ H x y v u Q I rx ry h
  obtain ⟨a, b, xs, ys, e1, e2, ha, hb, hz, q⟩ := h
  refine op_catA pins s σ H x y v u Q I rx ry ⟨a, b, xs, ys, e1, e2, ha, hb, hz, fun e => ?_, fun _ e => ?_, fun _ _ p hp => ?_⟩
  · subst e
    exact q b H (Same.refl H) hb
  · subst e
    refine q a H (Same.refl H) ?_
    rw [List.append_nil]
    exact ha
  · exact q p _ (same_new hp _) (.inl (.inl upd_same))
section
variable {P : Program} {w : World} {K : PySem.W.Frag} {mg : Str → Option Value} {base : Heap}
theorem scPI : FnScope ["self", "one", "other"] ["self", "one", "other"] (defScope (sPH 0)) := ⟨rfl, rfl, rfl, by decide +kernel, rfl, by decide +kernel, by decide +kernel⟩
def spPI (C : Addr) : Sp := fun vs H Q _ => ∃ (y dx a1 a2 : Addr) (L1 L2 : List Nat) (b : Bks), vs = [.ref y, .ref a1, .ref a2] ∧ H y = some (.ins C dx []) ∧ BookAt H a1 L1 b.r1 b.e1 ∧ BookAt H a2 L2 b.r2 b.e2 ∧
  b.e1.length ≤ 8 ∧ b.e2.length ≤ 8 ∧ Bks8 b ∧ (b.e1.map (·.1)).Nodup ∧ (b.e2.map (·.1)).Nodup ∧ ∀ H' : Hp, HuntP C H' y b → Stp y H H' → Q .non H'
theorem ok_PI {f C : Addr} {fd : FuncData} (F : Fun K "__init__" "PartedHunt.__init__" (sPH 0) f fd) (S : PSC K C) (hdict : mg "dict" = none) (DSt : Df P w K mg base "stems_of" ["pairs"] 1 (spStm K)) : FnOk P w K mg base CX0 2 f fd ["self", "one", "other"] (spPI C) := by
  obtain ⟨fSt, fdSt, GSt, kSt, bSt, mSt⟩ := DSt
  refine F.ok scPI (fun vs H Q E h => ?_) (fun cdv A outer s H vs Q E hr h => ?_)
  · obtain ⟨y, dx, a1, a2, L1, L2, b, rfl, _⟩ := h
    rfl
  · obtain ⟨y, dx, a1, a2, L1, L2, b, rfl, hy, hB1, hB2, l1, l2, h8, n1, n2, q⟩ := h
    refine ⟨_, pss_cons (ps_fld (pv 0) (pe_ix ix_tup (pv 1) pe_int (fun _ _ => rfl)) rfl)
      (pss_cons (ps_fld (pv 0) (pe_ix ix_tup (pv 2) pe_int (fun _ _ => rfl)) rfl)
      (pss_cons (ps_fld (pv 0) (pe_callTy (call_dictT rfl) (by rfl) hdict (by decide +kernel) (pa_cons (pe_ix ix_tup (pv 1) pe_int (fun _ _ => rfl)) pa_nil)) rfl)
      (pss_cons (ps_fld (pv 0) (pe_callTy (call_dictT rfl) (by rfl) hdict (by decide +kernel) (pa_cons (pe_ix ix_tup (pv 2) pe_int (fun _ _ => rfl)) pa_nil)) rfl)
      (pss_one (ps_fld (pv 0) (pe_call GSt hr (by rfl) mSt kSt bSt .nil pass0 (pa_cons (pe_op op_catQ (pe_ix ix_tup (pv 1) pe_int (fun _ _ => rfl)) (pe_ix ix_tup (pv 2) pe_int (fun _ _ => rfl))) pa_nil)) rfl))))), ?_⟩
    obtain ⟨R1, X1, hb1, hR1, hX1⟩ := id hB1
    obtain ⟨R2, X2, hb2, hR2, hX2⟩ := id hB2
    refine ⟨_, rfl, a1, _, 1, .ref R1, rfl, rfl, .inl (.inl hb1), atI_nat (j := 1) rfl, _, rfl, y, C, dx, _, rfl, hy, S.cl, S.n1, (by show 0 < 1000; decide), ?_⟩
    have k1 : KT H (upd H y (.ins C dx (putF "_one_rules" (.ref R1) []))) := kt_ins hy
    refine ⟨_, rfl, a2, _, 1, .ref R2, rfl, rfl, .inl (.inl (k1.1 _ _ hb2)), atI_nat (j := 1) rfl, _, rfl, y, C, dx, _, rfl, upd_same, S.cl, S.n2, (by show 1 < 1000; decide), ?_⟩
    have k2 := k1.trans (kt_ins (o := .ins C dx (putF "_other_rules" (.ref R2) (putF "_one_rules" (.ref R1) []))) upd_same)
    obtain ⟨ts1, t1, p1, p1'⟩ := (hX1.kt k2).pairs (K := K)
    refine ⟨_, rfl, a1, _, 2, .ref X1, rfl, rfl, .inl (.inl (k2.1 _ _ hb1)), atI_nat (j := 2) rfl, X1, ts1, b.e1.map ent, rfl, t1, p1, fun D1 hD1 => ?_⟩
    rw [merge_nd n1]
    have hyD1 : y ≠ D1 := ne_of_none (o := .ins C dx (putF "_other_rules" (.ref R2) (putF "_one_rules" (.ref R1) []))) upd_same hD1
    refine ⟨_, rfl, y, C, dx, _, rfl, (by rw [upd_ne hyD1]; exact upd_same), S.cl, S.n3, (by show 2 < 1000; decide), ?_⟩
    have k3 := (k2.trans (.of (same_new hD1 (.dK (b.e1.map ent))))).trans (kt_ins (o := .ins C dx (putF "_one_exceptions" (.ref D1) (putF "_other_rules" (.ref R2) (putF "_one_rules" (.ref R1) [])))) (by rw [upd_ne hyD1]; exact upd_same))
    obtain ⟨ts2, t2, p2, p2'⟩ := (hX2.kt k3).pairs (K := K)
    refine ⟨_, rfl, a2, _, 2, .ref X2, rfl, rfl, .inl (.inl (k3.1 _ _ hb2)), atI_nat (j := 2) rfl, X2, ts2, b.e2.map ent, rfl, t2, p2, fun D2 hD2 => ?_⟩
    rw [merge_nd n2]
    have hyD2 : y ≠ D2 := ne_of_none (o := .ins C dx (putF "_one_exceptions" (.ref D1) (putF "_other_rules" (.ref R2) (putF "_one_rules" (.ref R1) [])))) upd_same hD2
    refine ⟨_, rfl, y, C, dx, _, rfl, (by rw [upd_ne hyD2]; exact upd_same), S.cl, S.n4, (by show 3 < 1000; decide), ?_⟩
    generalize hH4 : upd (upd (upd (upd (upd (upd H y (.ins C dx (putF "_one_rules" (.ref R1) []))) y (.ins C dx (putF "_other_rules" (.ref R2) (putF "_one_rules" (.ref R1) [])))) D1 (.dK (b.e1.map ent))) y (.ins C dx (putF "_one_exceptions" (.ref D1) (putF "_other_rules" (.ref R2) (putF "_one_rules" (.ref R1) []))))) D2 (.dK (b.e2.map ent))) y (.ins C dx (putF "_other_exceptions" (.ref D2) (putF "_one_exceptions" (.ref D1) (putF "_other_rules" (.ref R2) (putF "_one_rules" (.ref R1) []))))) = H4
    have k4 : KT H H4 := by
      rw [← hH4]
      exact (k3.trans (.of (same_new hD2 (.dK (b.e2.map ent))))).trans (kt_ins (fs := putF "_one_exceptions" (.ref D1) (putF "_other_rules" (.ref R2) (putF "_one_rules" (.ref R1) []))) (C := C) (dx := dx) (by rw [upd_ne hyD2]; exact upd_same))
    have f1 : D1 ≠ D2 := by
      intro z
      rw [← z, upd_ne hyD1.symm, upd_same] at hD2
      cases hD2
    have g1 : H4 D1 = some (.dK (b.e1.map ent)) := by
      rw [← hH4, upd_ne hyD1.symm, upd_ne f1, upd_ne hyD1.symm, upd_same]
    have g2 : H4 D2 = some (.dK (b.e2.map ent)) := by
      rw [← hH4, upd_ne hyD2.symm, upd_same]
    have g0 : H4 y = some (.ins C dx (putF "_other_exceptions" (.ref D2) (putF "_one_exceptions" (.ref D1) (putF "_other_rules" (.ref R2) (putF "_one_rules" (.ref R1) []))))) := by rw [← hH4, upd_same]
    have st4 : Stp y H H4 := fun c u hc n => by
      have e1 : (upd (upd H y (.ins C dx (putF "_one_rules" (.ref R1) []))) y (.ins C dx (putF "_other_rules" (.ref R2) (putF "_one_rules" (.ref R1) [])))) c = some u := by rw [upd_ne n, upd_ne n]; exact hc
      have c1 : c ≠ D1 := ne_of_none e1 hD1
      have e2 : (upd (upd (upd (upd H y (.ins C dx (putF "_one_rules" (.ref R1) []))) y (.ins C dx (putF "_other_rules" (.ref R2) (putF "_one_rules" (.ref R1) [])))) D1 (.dK (b.e1.map ent))) y (.ins C dx (putF "_one_exceptions" (.ref D1) (putF "_other_rules" (.ref R2) (putF "_one_rules" (.ref R1) []))))) c = some u := by rw [upd_ne n, upd_ne c1]; exact e1
      rw [← hH4, upd_ne n, upd_ne (ne_of_none e2 hD2)]
      exact e2
    clear hH4
    obtain ⟨us1, v1, _, w1⟩ := (hX1.kt k4).pairs (K := K)
    obtain ⟨us2, v2, _, w2⟩ := (hX2.kt k4).pairs (K := K)
    have lu1 := paired_len w1
    have lu2 := paired_len w2
    refine ⟨_, rfl, a1, _, 2, .ref X1, rfl, rfl, .inl (.inl (k4.1 _ _ hb1)), atI_nat (j := 2) rfl, _, rfl, a2, _, 2, .ref X2, rfl, rfl, .inl (.inl (k4.1 _ _ hb2)), atI_nat (j := 2) rfl, ?_⟩
    refine ⟨X1, X2, _, _, rfl, rfl, v1.sq, v2.sq, by rw [List.length_map, List.length_map, lu1, lu2]; exact small (by omega), fun X H5 s5 hX => ?_⟩
    have hp : PairsAt K H5 X b.es := ⟨us1 ++ us2, by rw [List.map_append]; exact hX, paired_app (paired_mono (fun _ _ g => Same.seqT s5 g) w1) (paired_mono (fun _ _ g => Same.seqT s5 g) w2)⟩
    refine ⟨X, b.es, rfl, hp, by show (b.e1 ++ b.e2).length ≤ 16; rw [List.length_append]; omega, h8, fun DS H6 s6 hDS hS => ?_⟩
    have s46 := s5.trans s6
    refine ⟨_, rfl, y, C, dx, _, rfl, s46 _ _ g0, S.cl, S.n5, (by show 4 < 1000; decide), ?_⟩
    have k6 : KT H (upd H6 y (.ins C dx (putF "_stems" (.ref DS) (putF "_other_exceptions" (.ref D2) (putF "_one_exceptions" (.ref D1) (putF "_other_rules" (.ref R2) (putF "_one_rules" (.ref R1) []))))))) := (k4.trans (.of s46)).trans (kt_ins (s46 _ _ g0))
    have nD : ∀ {D : Addr} {kvs : List (Key × V)}, H4 D = some (.dK kvs) → (upd H6 y (.ins C dx (putF "_stems" (.ref DS) (putF "_other_exceptions" (.ref D2) (putF "_one_exceptions" (.ref D1) (putF "_other_rules" (.ref R2) (putF "_one_rules" (.ref R1) []))))))) D = some (.dK kvs) := fun {D kvs} h => by
      rw [upd_ne (ne_of h g0 (by intro z; cases z))]
      exact s46 _ _ h
    obtain ⟨us, e1, e2⟩ := hS
    refine q _ ⟨R1, R2, D1, D2, DS, dx, upd_same, hR1.kt k6, hR2.kt k6, nD g1, nD g2, us, ?_, e2⟩ fun c u hc n => by rw [upd_ne n]; exact s46 _ _ (st4 _ _ hc n)
    rw [upd_ne (ne_of e1 (s46 _ _ g0) (by intro z; cases z))]
    exact e1
end
end Say
namespace Say
open PySem PySem.Spec PyProof.Rows L2
abbrev QP := List (List Nat × (PW_ × PLd))
/-- the queue of words and states -/
def QAtP (K : PySem.W.Frag) (H : Hp) (Qa : Addr) (q : QP) : Prop := ∃ ts : List Addr, H Qa = some (.lst (ts.map V.ref)) ∧ Paired (fun t (x : List Nat × (PW_ × PLd)) => ∃ s : Addr, H t = some (.tup [.str (T x.1), .ref s]) ∧ StP K H s x.2) ts q
theorem QAtP.same {K : PySem.W.Frag} {H H' : Hp} {Qa : Addr} {z : QP} (h : QAtP K H Qa z) (e : Same H H') : QAtP K H' Qa z := by
  obtain ⟨ts, h1, h2⟩ := h
  exact ⟨ts, e _ _ h1, paired_mono (fun t x g => by obtain ⟨s, a, b⟩ := g; exact ⟨s, e _ _ a, b.kt (.of e)⟩) h2⟩
/-- the least word that parts two books -/
def LeastPa (b : Bks) (L : List Nat) (v : V) : Prop := (v = .non ∧ ∀ w : List Nat, (∀ c ∈ w, c ∈ L) → ¬ Parted b w) ∨
  ∃ w : List Nat, v = .str (T w) ∧ (∀ c ∈ w, c ∈ L) ∧ w.length ≤ 4000000 ∧ Parted b w ∧ ∀ w' : List Nat, (∀ c ∈ w', c ∈ L) → Parted b w' → sle w w'
abbrev HuP (b : Bks) (L : List Nat) (q : QP) (i j : Nat) : Prop := H2 pa0 (paS b) (fdP b) L q i j
/-- the leads of a where, by its key -/
def fL (q : QP) (k : List Leaf) : List PLd := ((q.drop 1).filter fun x => decide (leafP x.2.1 = k)).map fun x => x.2.2
theorem fL_lds (q : QP) (w : PW_) : fL q (leafP w) = lds q w := by
  unfold fL lds
  congr 2
  funext x
  exact decide_eq_decide.mpr ⟨leafP_inj, fun h => by rw [h]⟩
theorem fL_app {q : QP} (hq : 1 ≤ q.length) (x : List Nat × (PW_ × PLd)) : fL (q ++ [x]) = fun j => if j = leafP x.2.1 then fL q (leafP x.2.1) ++ [x.2.2] else fL q j := by
  funext j
  unfold fL
  rw [List.drop_append_of_le_length hq, List.filter_append, List.map_append]
  by_cases e : j = leafP x.2.1
  · subst e
    simp
  · rw [if_neg e]
    have : ¬ leafP x.2.1 = j := fun z => e z.symm
    simp [this]
theorem LeadsP.mono {P : Program} {w : World} {K : PySem.W.Frag} {H H' : Hp} {a : Addr} {kvs : List LT3} {f : List Leaf → List PLd} (h : LeadsP P w K H a kvs f) (e1 : ∀ o, H a = some o → H' a = some o) (e2 : ∀ p ∈ kvs, ∀ o, H p.2.2 = some o → H' p.2.2 = some o) (e3 : KT H H') : LeadsP P w K H' a kvs f :=
  ⟨e1 _ h.dic, h.key.kt e3, fun p hp => by obtain ⟨ls, g1, g2⟩ := h.lst p hp; exact ⟨ls, e2 p hp _ g1, paired_mono (fun _ _ z => z.kt e3) g2⟩, h.one, h.out⟩
theorem Stk.kt {P : Program} {w : World} {K : PySem.W.Frag} {H H' : Hp} {a : Addr} {kvs : List LT3} {f : List Leaf → List PLd} (h : Stk H H' a kvs) (l : LeadsP P w K H a kvs f) : KT H H' := KT.by fun t u q hu => by
  refine h t u q (ne_ext l.dic q (by rcases hu with hu | hu; exact .inl hu; exact .inr (.inl hu))) fun p hp => ?_
  obtain ⟨ls, g1, _⟩ := l.lst p hp
  exact ne_of q g1 (by rcases hu with ⟨_, rfl⟩ | ⟨_, _, rfl⟩ <;> (intro z; cases z))
theorem paS_eq (b : Bks) (u : List Nat) (c : Nat) : paS b (rnP b u) c = rnP b (u ++ [c]) := (rn_snoc pa0 (paS b) u c).symm
section
variable {P : Program} {w : World} {K : PySem.W.Frag} {mg : Str → Option Value} {base : Heap}
abbrev sLt : Stmt := topS 69
abbrev nLt : List Str := ["letters", "hunt", "queue", "leads", "at", "word", "state", "letter", "reached"]
theorem scLt : FnScope nLt ["letters", "hunt"] (defScope sLt) := ⟨rfl, rfl, rfl, by decide +kernel, rfl, by decide +kernel, by decide +kernel⟩
def spLtP (C : Addr) : Sp := fun vs H Q _ => ∃ (L : List Nat) (y : Addr) (b : Bks), vs = [.str (T L), .ref y] ∧ HuntP C H y b ∧ BksOk b ∧ Bks8 b ∧ L.Pairwise (· < ·) ∧ 2 * (wheres L b).length + 2 ≤ 4000000 ∧
  ∀ (v : V) (H' : Hp), Same H H' → LeastPa b L v → Q v H'
theorem ok_LtP {f C fHS fHA fHF : Addr} {fd dHS dHA dHF : FuncData} (F : Fun K "least_word" "least_word" sLt f fd) (B : Bn mg) (S : PSC K C) (DKp : Df P w K mg base "keep" ["leads", "state"] 1 (spKp2 P w K))
    (GHS : FnOk P w K mg base CX0 1 fHS dHS ["self"] (spPS K)) (mHS : Meth K C "start" fHS) (bHS : Binds K dHS ["self"] [])
    (GHA : FnOk P w K mg base CX0 4 fHA dHA ["self", "state", "letter"] (spPA K C)) (mHA : Meth K C "after" fHA) (bHA : Binds K dHA ["self", "state", "letter"] [])
    (GHF : FnOk P w K mg base CX0 8 fHF dHF ["self", "state"] (spPF K C)) (mHF : Meth K C "is_found" fHF) (bHF : Binds K dHF ["self", "state"] []) :
    FnOk P w K mg base CX0 9 f fd ["letters", "hunt"] (spLtP C) := by
  obtain ⟨fKp, fdKp, GKp, kKp, bKp, mKp⟩ := DKp
  refine F.ok scLt (fun vs H Q E h => ?_) (fun cdv A outer s H vs Q E hr h => ?_)
  · obtain ⟨L, y, b, rfl, _⟩ := h
    rfl
  · obtain ⟨L, y, b, rfl, hH, ho, h8, hL, hU, q⟩ := h
    have hr1 : Room 1 _ := hr.mono (by decide)
    have hr4 : Room 4 _ := hr.mono (by decide)
    have hr8 : Room 8 _ := hr.mono (by decide)
    refine ⟨_, pss_cons (ps_set (i := 2) scLt.nd rfl (.inl rfl) (pe_lst (pa_cons (pe_tup (pa_cons pe_str (pa_cons (pe_meth0 (pv 1) S.cl mHS GHS hr1 bHS .nil pass0) pa_nil))) pa_nil)))
      (pss_cons (ps_set (i := 3) scLt.nd rfl (.inl rfl) pe_dnewT')
      (pss_cons (ps_set (i := 4) scLt.nd rfl (.inl rfl) pe_int)
      (pss_cons (ps_while PassesOwn.never (pt_cmpR op_lt (pv 4) (pe_callB call_len (by rfl) B.len PySem.boot_len (pa_cons (pv 2) pa_nil)) (nomark _)) (pss_cons (ps_asg (pe_ix ix_list (pv 2) (pv 4) (fun _ _ => rfl)) (pg_tup (by rfl) (pgs_cons (pg_name (i := 5) scLt.nd rfl (.inl rfl)) (pgs_cons (pg_name (i := 6) scLt.nd rfl (.inl rfl)) pgs_nil))))
        (pss_cons (ps_aug (i := 4) scLt.nd rfl (.inl rfl) pe_int ip_add)
        (pss_cons (ps_if (pt_val (pe_meth (pv 1) S.cl mHF GHF hr8 bHF .nil pass0 (pa_cons (pv 6) pa_nil))) (pss_one (ps_ret (pv 5))) pss_nil)
        (pss_one (ps_for PassesOwn.never rfl (pi_str (pv 0)) (pg_name (i := 7) scLt.nd rfl (.inl rfl)) (pss_cons (ps_set (i := 8) scLt.nd rfl (.inl rfl) (pe_meth (pv 1) S.cl mHA GHA hr4 bHA .nil pass0 (pa_cons (pv 6) (pa_cons (pv 7) pa_nil))))
          (pss_one (ps_if (pt_val (pe_call GKp hr1 (by rfl) mKp kKp bKp .nil pass0 (pa_cons (pv 3) (pa_cons (pv 8) pa_nil)))) (pss_one (ps_expr (pe_bm PySem.F.plainAttrs_list PySem.F.slot_list_append PySem.F.type_list_append mt_append (pv 2) (pa_cons (pe_tup (pa_cons (pe_op op_add_str (pv 5) (pv 7)) (pa_cons (pv 8) pa_nil))) pa_nil)))) pss_nil)))))))))
      (pss_one (ps_ret pe_non))))), ?_⟩
    have two := two_parted b
    obtain ⟨R1, R2, D1, D2, DS, dx, hy, _⟩ := id hH
    refine ⟨_, rfl, y, dx, _, rfl, hy, rfl, y, rfl, fun u0 Hs hu0 su hSt => ?_⟩
    refine ⟨(by show 2 ≤ sizeLine; decide), fun t0 ht0 => ⟨(by show 1 ≤ sizeLine; decide), fun Qa hQa' => ?_⟩⟩
    intro A' hA'
    have st := same_new ht0 (.tup [.str (T []), .ref u0])
    have sq := same_new hQa' (.lst [V.ref t0])
    have sA := same_new hA' (LT P w A' [])
    have hQ0 : H Qa = none := (su.trans st).free hQa'
    have hA0 : H A' = none := ((su.trans st).trans sq).free hA'
    have sH := ((su.trans st).trans sq).trans sA
    have eQ := sA _ _ (upd_same (H := upd Hs t0 (.tup [.str (T []), .ref u0])) (a := Qa) (o := HO.lst [V.ref t0]))
    have eT := (sq.trans sA) _ _ (upd_same (H := Hs) (a := t0) (o := HO.tup [.str (T []), .ref u0]))
    have eU := hSt.kt (.of ((st.trans sq).trans sA))
    have eA : (upd (upd (upd Hs t0 (.tup [.str (T []), .ref u0])) Qa (.lst [V.ref t0])) A' (LT P w A' [])) A' = some (LT P w A' []) := upd_same
    refine ⟨fun m σ H2 => ∃ (i : Nat) (z : QP) (kvs : List LT3) (v5 v6 v7 v8 : Option L2.V), σ = [some (.str (T L)), some (.ref y), some (.ref Qa), some (.ref A'), some (.int i), v5, v6, v7, v8] ∧ HuP b L z i 0 ∧ 2 * (wheres L b).length + 2 ≤ i + m ∧ Same H H2 ∧ QAtP K H2 Qa z ∧ LeadsP P w K H2 A' kvs (fL z) ∧ kvs.length ≤ z.length ∧ ∀ p ∈ kvs, p.2.2 ≠ Qa ∧ H p.2.2 = none,
      ⟨2 * (wheres L b).length + 2, 0, [([], pa0)], [], _, _, _, _, rfl, H2.first, by omega, sH, ⟨[t0], eQ, .cons ⟨u0, eT, eU⟩ .nil⟩, ⟨eA, (fun p hp => nomatch hp), (fun p hp => nomatch hp), .nil, fun k _ => rfl⟩, Nat.zero_le _, fun p hp => nomatch hp⟩, fun m σ H2 hW => ?_⟩
    obtain ⟨i, z, kvs, v5, v6, v7, v8, rfl, hu, hm, s2, hQ, hLd, hK, hn⟩ := hW
    have hsz := hu.size (u := wheres L b) fun w' hw' => rnP_mem ho hw'
    obtain ⟨ts, hq, hp⟩ := id hQ
    have lts := paired_len hp
    refine ⟨_, rfl, _, rfl, _, _, rfl, .inl ⟨_, .inl (.inl hq), rfl⟩, _, _, rfl, rfl, _, rfl, ite2 (fun c => ?_) (fun c => ?_)⟩
    · have c' : (i : Int) < (((ts.map V.ref).length : Nat) : Int) := of_decide_eq_true c
      rw [List.length_map, lts] at c'
      have hi : i < z.length := by omega
      have hx := List.getElem?_eq_getElem hi
      generalize z[i] = x at hx
      obtain ⟨t, ht, s, hat, hs⟩ := paired_at' hp hx
      have hxm := List.mem_of_getElem? hx
      have hxl := hu.len i i (Nat.le_refl _) x hx
      have fx : Fits x.1.length x.2 := by rw [(hu.ok x hxm).1]; exact fits_rn ho x.1
      obtain ⟨m', rfl⟩ : ∃ m', m = m' + 1 := ⟨m - 1, by omega⟩
      refine ⟨fun σ' H' => ∃ (i : Nat) (z : QP) (kvs : List LT3) (v5 v6 v7 v8 : Option L2.V), σ' = [some (.str (T L)), some (.ref y), some (.ref Qa), some (.ref A'), some (.int i), v5, v6, v7, v8] ∧ HuP b L z i 0 ∧ 2 * (wheres L b).length + 2 ≤ i + m' ∧ Same H H' ∧ QAtP K H' Qa z ∧ LeadsP P w K H' A' kvs (fL z) ∧ kvs.length ≤ z.length ∧ ∀ p ∈ kvs, p.2.2 ≠ Qa ∧ H p.2.2 = none, fun σ' H' h => ⟨m', Nat.lt_succ_self _, h⟩, ?_⟩
      refine ⟨_, rfl, _, rfl, Qa, _, (i : Int), .ref t, rfl, rfl, .inl (.inl hq), atI_nat (by rw [List.getElem?_map, ht]; rfl), ?_⟩
      refine ⟨t, _, rfl, .inl (.inl hat), rfl, _, _, rfl, _, _, rfl, rfl, ?_⟩
      refine ⟨_, rfl, _, _, rfl, rfl, ?_⟩
      refine ⟨_, rfl, y, dx, _, rfl, s2 _ _ hy, rfl, _, rfl, y, s, b, x.2, x.1.length, rfl, hH.same s2, ho, h8, hs, fx, by omega, fun H3 s3 => ⟨_, rfl, ite2 (fun cf => ?_) (fun cf => ?_)⟩⟩
      · refine ⟨_, rfl, q _ H3 (s2.trans s3) (.inr ⟨x.1, rfl, (hu.ok x hxm).2, by omega, ?_, fun w' hw' hn' => ?_⟩)⟩
        · have := (hu.ok x hxm).1
          rw [this] at cf
          exact (fdP_iff ho x.1).mp cf
        · exact hu.least two hx hw' ((fdP_iff ho w').mpr hn')
      · have cf' : fdP b x.2 = false := Bool.eq_false_iff.mpr cf
        refine ⟨_, rfl, T L, rfl, for_it (walk_str) (fun j σ H4 => ∃ (z : QP) (kvs : List LT3) (v7 v8 : Option L2.V), σ = [some (.str (T L)), some (.ref y), some (.ref Qa), some (.ref A'), some (.int ((i : Int) + 1)), some (.str (T x.1)), some (.ref s), v7, v8] ∧ HuP b L z i j ∧ z[i]? = some x ∧ Same H H4 ∧ QAtP K H4 Qa z ∧ LeadsP P w K H4 A' kvs (fL z) ∧ kvs.length ≤ z.length ∧ (∀ p ∈ kvs, p.2.2 ≠ Qa ∧ H p.2.2 = none) ∧ StP K H4 s x.2)
          ⟨z, kvs, _, _, rfl, hu, hx, s2.trans s3, hQ.same s3, hLd.same s3, hK, hn, hs.kt (.of s3)⟩ (fun _ _ _ _ _ => trivial) ?_ ?_⟩
        · clear hQ hLd hK hn hp hq lts hsz ht hat hs s2 s3 hi hxl hm hxm
          rintro j z0 σ H0 H4 hj ⟨z, kvs, v7, v8, rfl, hu, hx, s4, hQ, hLd, hK, hn, hs⟩ ⟨rfl, c, hc, rfl⟩
          have hc := T_at hc
          have hxm := List.mem_of_getElem? hx
          have hsz := hu.size (u := wheres L b) fun w' hw' => rnP_mem ho hw'
          have hxl := hu.len i i (Nat.le_refl _) x hx
          have hil := (List.getElem?_eq_some_iff.mp hx).1
          refine ⟨_, rfl, y, dx, _, rfl, s4 _ _ hy, rfl, _, rfl, _, rfl, y, s, b, x.2, c, x.1.length, rfl, hH.same s4, ho, hs, fx, by omega, fun u H5 s5 hu5 h5 => ?_⟩
          have hQ5 := hQ.same s5
          have hL5 := hLd.same s5
          obtain ⟨b5, l5, h5a, h5b, h5c⟩ := id h5
          have ef := fL_lds z (paS b x.2 c).1
          refine ⟨_, rfl, _, rfl, A', u, b5, l5, kvs, fL z, leafP (paS b x.2 c).1, (paS b x.2 c).2, rfl, hL5, by omega, h5a, keyP h5b, h5c, by rw [ef]; exact (hu.nd _).2, fun hf H6 s6 => ?_, fun hf1 hf2 kvs' H6 st6 lk6 nw6 hL6 => ?_⟩
          · refine ⟨false, rfl, iteF ?_⟩
            rw [ef] at hf
            have s46 := s5.trans s6
            exact ⟨z, kvs, _, _, rfl, hu.skip hL hx hc hf, hx, s4.trans s46, hQ.same s46, hLd.same s46, hK, hn, hs.kt (.of s46)⟩
          · refine ⟨true, rfl, iteT ?_⟩
            rw [ef] at hf1 hf2
            obtain ⟨ts5, hq5, hp5⟩ := hQ5
            have lz := paired_len hp5
            have nQA : Qa ≠ A' := ne_ext hL5.dic hq5 (.inr (.inr ⟨_, rfl⟩))
            have hq6 := st6 _ _ hq5 nQA fun p hp => ((hn p hp).1).symm
            have k56 := st6.kt hL5
            refine ⟨_, rfl, .inl ⟨rfl, _, .inl (.inl hq6)⟩, _, rfl, _, rfl, _, _, rfl, rfl, (by rw [T_len]; show x.1.length + 1 ≤ 2 ^ 24; omega), _, rfl, (by show 2 ≤ sizeLine; decide), fun t ht => ?_⟩
            rw [show T x.1 ++ (⟨#[c]⟩ : Str) = T (x.1 ++ [c]) from T_app _ _]
            have sT := same_new ht (.tup [.str (T (x.1 ++ [c])), .ref u])
            have hq7 := sT _ _ hq6
            have k67 := (KT.of sT).trans (kt_upd hq7 (o := .lst (ts5.map V.ref ++ [.ref t])))
            have hn' : ∀ p ∈ kvs', p.2.2 ≠ Qa ∧ H p.2.2 = none := fun p hp => by
              rcases nw6 p hp with hp | hp
              · exact hn p hp
              · exact ⟨(ne_of_none hq5 hp).symm, s4.free (s5.free hp)⟩
            refine ⟨Qa, _, _, rfl, rfl, hq7, ?_, z ++ [(x.1 ++ [c], paS b x.2 c)], kvs', _, _, rfl, hu.push hL hx hc hf1 hf2, ?_, fun d o hd => ?_, ⟨ts5 ++ [t], ?_, ?_⟩, ?_, ?_, hn', ?_⟩
            · rw [List.length_map, lz]
              show z.length < 2 ^ 24
              omega
            · rw [List.getElem?_append_left hil]
              exact hx
            · rw [upd_ne (ne_of_none hd hQ0)]
              exact sT _ _ (st6 _ _ (s5 _ _ (s4 _ _ hd)) (ne_of_none hd hA0) fun p hp => ne_of_none hd (hn p hp).2)
            · rw [upd_same, List.map_append]
              rfl
            · refine paired_app (paired_mono (fun t' y' g => ?_) hp5) (.cons ⟨u, ?_, ?_⟩ .nil)
              · obtain ⟨s', g1, g2⟩ := g
                exact ⟨s', (k56.trans k67).1 _ _ g1, g2.kt (k56.trans k67)⟩
              · rw [upd_ne (ne_of_none hq6 ht).symm]
                exact upd_same
              · exact h5.kt (k56.trans k67)
            · rw [fL_app (by omega)]
              refine hL6.mono (fun o ho' => ?_) (fun p hp o ho' => ?_) k67
              · rw [upd_ne nQA.symm]
                exact sT _ _ ho'
              · rw [upd_ne (hn' p hp).1]
                exact sT _ _ ho'
            · rw [List.length_append, List.length_singleton]
              omega
            · exact hs.kt ((KT.of s5).trans (k56.trans k67))
        · rintro σ H4 ⟨z, kvs, v7, v8, rfl, hu, hx, s4, hQ, hLd, hK, hn, hs⟩
          rw [T_size] at hu
          exact ⟨i + 1, z, kvs, _, _, _, _, rfl, hu.turn hx cf', by omega, s4, hQ, hLd, hK, hn⟩
    · have c' := of_decide_eq_false (Bool.eq_false_iff.mpr c)
      rw [List.length_map, lts] at c'
      refine q _ H2 s2 (.inl ⟨rfl, fun w' hw' n => ?_⟩)
      have := hu.none two (by omega) hw'
      rw [(fdP_iff ho w').mpr n] at this
      cases this
end
end Say
namespace Say
open PySem PySem.Spec PyProof.Rows L2
theorem tails_107 {L : List Nat} (h4 : L.length ≤ 4) : (tails L).length ≤ 107 := by
  have lvl : ∀ n, (lv L n).length ≤ 4 ^ n := fun n => by
    induction n with
    | zero => exact Nat.le_refl _
    | succ n ih =>
      have := flat_le (f := fun w => L.map fun c => w ++ [c]) (k := 4) (l := lv L n) fun a _ => by rw [List.length_map]; exact h4
      show ((lv L n).flatMap fun w => L.map fun c => w ++ [c]).length ≤ 4 ^ n * 4
      exact Nat.le_trans this (Nat.mul_le_mul_right 4 ih)
  have e2 : (upto L 2).length = (lv L 0).length + ((lv L 1).length + (lv L 2).length) := by
    show ([0, 1, 2].flatMap (lv L)).length = _
    simp
  have e3 : (upto L 3).length = (lv L 0).length + ((lv L 1).length + ((lv L 2).length + (lv L 3).length)) := by
    show ([0, 1, 2, 3].flatMap (lv L)).length = _
    simp
  have l0 := lvl 0
  have l1 := lvl 1
  have l2 := lvl 2
  have l3 := lvl 3
  unfold tails
  rw [List.length_cons, List.length_map, List.length_append, List.length_map, e2, e3]
  omega
theorem stems_len : ∀ {es : List Exc}, (∀ e ∈ es, e.1.length ≤ 8) → (stems es).length ≤ 9 * es.length
  | [], _ => Nat.le_refl _
  | e :: r, h => by
    have ih := stems_len fun f hf => h f (List.mem_cons_of_mem _ hf)
    have h1 := h e (List.mem_cons_self ..)
    unfold stems at ih ⊢
    rw [List.flatMap_cons, List.length_append, List.length_map, List.length_range, List.length_cons]
    omega
theorem wheres_le {L : List Nat} {b : Bks} (h4 : L.length ≤ 4) (h8 : Bks8 b) (l1 : b.e1.length ≤ 8) (l2 : b.e2.length ≤ 8) : 2 * (wheres L b).length + 2 ≤ 4000000 := by
  have ht := tails_107 h4
  have hs := stems_len h8
  have hl : b.es.length ≤ 16 := by show (b.e1 ++ b.e2).length ≤ 16; rw [List.length_append]; omega
  have h146 : (stems b.es).length + 2 ≤ 146 := by omega
  rw [wheres_len]
  have : (tails L).length * ((tails L).length * ((stems b.es).length + 2)) ≤ 107 * (107 * 146) := Nat.mul_le_mul ht (Nat.mul_le_mul ht h146)
  omega
theorem bks_ok {L : List Nat} {b : Bks} (h1 : BookOk L b.r1 b.e1) (h2 : BookOk L b.r2 b.e2) : BksOk b ∧ Bks8 b :=
  ⟨⟨h1.rls, h2.rls, fun ρ hρ c hc => ((h1.rl ρ hρ).so c hc).2, fun ρ hρ c hc => ((h2.rl ρ hρ).so c hc).2⟩, fun e he => by
    rcases List.mem_append.mp he with he | he
    · exact (h1.ex e he).w8
    · exact (h2.ex e he).w8⟩
/-- a hunt that is made: what stood stays -/
theorem made_p {C : Addr} {H H' : Hp} {y dx : Addr} (hy : H y = none) (hdx : H dx = none) (n : dx ≠ y) (st : Stp y (upd (upd H dx (.own y)) y (.ins C dx [])) H') : Same H H' := fun b o hb => by
  refine st b o ?_ (ne_of_none hb hy)
  rw [upd_ne (ne_of_none hb hy), upd_ne (ne_of_none hb hdx)]
  exact hb
end Say
namespace Say
open PySem PySem.Spec PyProof.Rows L2
/-- rules with that of a number and the next one in each other's place -/
def swapL (rs : List Rule) (k : Nat) : List Rule := rs.take k ++ [ruleAt rs (k + 1), ruleAt rs k] ++ rs.drop (k + 2)
theorem swapL_len {rs : List Rule} {k : Nat} (h : k + 1 < rs.length) : (swapL rs k).length = rs.length := by
  unfold swapL
  simp only [List.length_append, List.length_take, List.length_drop, List.length_cons, List.length_nil]
  omega
theorem swapL_mem {rs : List Rule} {k : Nat} (h : k + 1 < rs.length) : ∀ ρ ∈ swapL rs k, ρ ∈ rs := fun ρ hρ => by
  unfold swapL at hρ
  have r1 : ruleAt rs (k + 1) = rs[k + 1] := ruleAt_eq (List.getElem?_eq_getElem h)
  have r0 : ruleAt rs k = rs[k] := ruleAt_eq (List.getElem?_eq_getElem (by omega))
  rcases List.mem_append.mp hρ with hρ | hρ
  · rcases List.mem_append.mp hρ with hρ | hρ
    · exact List.mem_of_mem_take hρ
    · rcases List.mem_cons.mp hρ with rfl | hρ
      · rw [r1]; exact List.getElem_mem _
      · rw [List.mem_singleton.mp hρ, r0]; exact List.getElem_mem _
  · exact List.mem_of_mem_drop hρ
theorem swap_ok {L : List Nat} {rs : List Rule} {k : Nat} (ho : BookOk L rs []) (h : k + 1 < rs.length) : BookOk L (swapL rs k) [] :=
  ⟨ho.lt, fun ρ hρ => ho.rl ρ (swapL_mem h ρ hρ), by rw [swapL_len h]; exact ho.r12, ho.ex, ho.e8, ho.up⟩
theorem bare_ok {L : List Nat} {rs : List Rule} {es : List Exc} (ho : BookOk L rs es) : BookOk L rs [] := ⟨ho.lt, ho.rl, ho.r12, fun e he => (nomatch he), Nat.zero_le _, .nil⟩
/-- a number and the next one may change places -/
def FreeAt (rs : List Rule) (L : List Nat) (k : Nat) : Prop := ∀ w : List Nat, (∀ c ∈ w, c ∈ L) → ¬ Parted ⟨rs, swapL rs k, [], []⟩ w
open Classical in
noncomputable def freeL (rs : List Rule) (L : List Nat) (n : Nat) : List Nat := (List.range n).filter fun k => decide (FreeAt rs L k)
theorem free_next {rs : List Rule} {L : List Nat} {n : Nat} : freeL rs L (n + 1) = freeL rs L n ++ (@ite _ (FreeAt rs L n) (Classical.propDecidable _) [n] []) := by
  unfold freeL
  rw [List.range_succ, List.filter_append]
  congr 1
  by_cases c : FreeAt rs L n
  · rw [if_pos c]
    exact List.filter_cons_of_pos (by simp [c])
  · rw [if_neg c]
    exact List.filter_cons_of_neg (by simp [c])
theorem free_len (rs : List Rule) (L : List Nat) (n : Nat) : (freeL rs L n).length ≤ n := by
  unfold freeL
  refine Nat.le_trans (List.length_filter_le _ _) ?_
  rw [List.length_range]
  exact Nat.le_refl _
open Classical in
theorem free_mem {rs : List Rule} {L : List Nat} {n k : Nat} : k ∈ freeL rs L n ↔ k < n ∧ FreeAt rs L k := by
  unfold freeL
  rw [List.mem_filter, List.mem_range, decide_eq_true_eq]
theorem LeastPa.non {b : Bks} {L : List Nat} {v : V} (h : LeastPa b L v) : v = .non ↔ ∀ w : List Nat, (∀ c ∈ w, c ∈ L) → ¬ Parted b w := by
  rcases h with ⟨rfl, h⟩ | ⟨w, rfl, h1, h2, h3, h4⟩
  · exact ⟨fun _ => h, fun _ => rfl⟩
  · exact ⟨fun z => (by cases z), fun z => absurd h3 (z w h1)⟩
theorem cut_lo (ts : List Addr) (k : Nat) (h : k ≤ ts.length) : cutV (ts.map V.ref) none (some (k : Int)) = (ts.take k).map V.ref := by
  unfold cutV
  rw [HT.sIx_nat]
  show ((ts.map V.ref).drop 0).take (min k (ts.map V.ref).length - 0) = _
  rw [List.drop_zero, Nat.sub_zero, List.length_map, Nat.min_eq_left h, List.map_take]
theorem cut_hi (ts : List Addr) (k : Nat) (h : k ≤ ts.length) : cutV (ts.map V.ref) (some (k : Int)) none = (ts.drop k).map V.ref := by
  unfold cutV
  rw [HT.sIx_nat]
  show ((ts.map V.ref).drop (min k (ts.map V.ref).length)).take ((ts.map V.ref).length - min k (ts.map V.ref).length) = _
  rw [List.length_map, Nat.min_eq_left h, List.take_of_length_le (by rw [List.length_drop, List.length_map]; exact Nat.le_refl _), List.map_drop]
section
variable {X : Cx}
/-- tuples of this text: t + u -/
theorem op_catU : OpR X (binaryOp .Add) (fun x y H Q => ∃ a b xs ys, x = .ref a ∧ y = .ref b ∧ H a = some (.tup xs) ∧ H b = some (.tup ys) ∧ xs.length + ys.length ≤ sizeLine ∧ ∀ (p : Addr) (H' : Hp), Same H H' → H' p = some (.tup (xs ++ ys)) → Q (.ref p) H') := by
  intro pins s σ H x y v u Q I rx ry h
  obtain ⟨a, b, xs, ys, e1, e2, ha, hb, hz, q⟩ := h
  refine op_catA pins s σ H x y v u Q I rx ry ⟨a, b, xs, ys, e1, e2, .inl (.inl ha), .inl (.inl hb), hz, fun e => ?_, fun _ e => ?_, fun _ _ p hp => ?_⟩
  · subst e
    exact q b H (Same.refl H) hb
  · subst e
    refine q a H (Same.refl H) ?_
    rw [List.append_nil]
    exact ha
  · exact q p _ (same_new hp _) upd_same
theorem sl_tupU : SlR X (fun x lo hi H Q => ∃ a xs, x = .ref a ∧ H a = some (.tup xs) ∧ ∀ (p : Addr) (H' : Hp), Same H H' → H' p = some (.tup (cutV xs lo hi)) → Q (.ref p) H') := by
  intro pins s σ H x v vl vu lo hi sl Q I rx hs pl pu h
  obtain ⟨a, xs, e, ha, q⟩ := h
  refine sl_tupA pins s σ H x v vl vu lo hi sl Q I rx hs pl pu ⟨a, xs, e, .inl (.inl ha), fun hw => ?_, fun hw p hp => ?_⟩
  · refine q a H (Same.refl H) ?_
    have : cutV xs lo hi = xs := by
      unfold cutV
      rw [hw.1, hw.2, List.drop_zero, Nat.sub_zero, List.take_length]
    rw [this]
    exact ha
  · exact q p _ (same_new hp _) upd_same
end
theorem paired_takeF {α β : Type} {F : α → β → Prop} : ∀ (m : Nat) {l : List α} {k : List β}, Paired F l k → Paired F (l.take m) (k.take m)
  | 0, _, _, _ => .nil
  | _ + 1, _, _, .nil => .nil
  | m + 1, _, _, .cons a t => .cons a (paired_takeF m t)
theorem paired_dropF {α β : Type} {F : α → β → Prop} : ∀ (m : Nat) {l : List α} {k : List β}, Paired F l k → Paired F (l.drop m) (k.drop m)
  | 0, _, _, h => h
  | _ + 1, _, _, .nil => .nil
  | m + 1, _, _, .cons a t => paired_dropF m t
section
variable {P : Program} {w : World} {K : PySem.W.Frag} {mg : Str → Option Value} {base : Heap}
abbrev sSw : Stmt := topS 82
theorem scSw : FnScope ["rules", "number"] ["rules", "number"] (defScope sSw) := ⟨rfl, rfl, rfl, by decide +kernel, rfl, by decide +kernel, by decide +kernel⟩
def spSw : Sp := fun vs H Q _ => ∃ (R : Addr) (rs : List Rule) (k : Nat), vs = [.ref R, .int k] ∧ RulesAt H R rs ∧ k + 1 < rs.length ∧ rs.length ≤ 100 ∧ ∀ (R' : Addr) (H' : Hp), Same H H' → RulesAt H' R' (swapL rs k) → Q (.ref R') H'
/-- the parts of such a tuple, put together -/
theorem swap_at {H : Hp} {rts : List Addr} {rs : List Rule} {k : Nat} {t1 t0 : Addr} (hp : Paired (fun t (ρ : Rule) => H t = some (.tup (Rule.vs ρ))) rts rs) (h : k + 1 < rs.length) (h1 : rts[k + 1]? = some t1) (h0 : rts[k]? = some t0) : Paired (fun t (ρ : Rule) => H t = some (.tup (Rule.vs ρ))) (rts.take k ++ [t1, t0] ++ rts.drop (k + 2)) (swapL rs k) := by
  obtain ⟨r1, e1, g1⟩ := paired_at hp h1
  obtain ⟨r0, e0, g0⟩ := paired_at hp h0
  unfold swapL
  rw [ruleAt_eq e1, ruleAt_eq e0]
  exact paired_app (paired_app (paired_takeF k hp) (.cons g1 (.cons g0 .nil))) (paired_dropF (k + 2) hp)
theorem ok_Sw {f : Addr} {fd : FuncData} {k : Nat} (F : Fun K "swapped" "swapped" sSw f fd) : FnOk P w K mg base CX0 (k + 1) f fd ["rules", "number"] spSw := by
  refine F.ok scSw (fun vs H Q E h => ?_) (fun cdv A outer s H vs Q E hr h => ?_)
  · obtain ⟨R, rs, n, rfl, _⟩ := h
    rfl
  · obtain ⟨R, rs, n, rfl, hR, hn, h100, q⟩ := h
    refine ⟨_, pss_one (ps_ret (pe_op op_catU (pe_op op_catU (pe_slice sl_tupU (pv 0) po_none (po_some (pv 1))) (pe_tup (pa_cons (pe_ix ix_tup (pv 0) (pe_op op_add (pv 1) pe_int) (fun _ _ => rfl)) (pa_cons (pe_ix ix_tup (pv 0) (pv 1) (fun _ _ => rfl)) pa_nil)))) (pe_slice sl_tupU (pv 0) (po_some (pe_op op_add (pv 1) pe_int)) po_none))), ?_⟩
    obtain ⟨rts, hRl, hRp⟩ := id hR
    have lr := paired_len hRp
    have h1 : rts[n + 1]? = some rts[n + 1] := List.getElem?_eq_getElem (by omega)
    have h0 : rts[n]? = some rts[n] := List.getElem?_eq_getElem (by omega)
    generalize rts[n + 1] = t1 at h1
    generalize rts[n] = t0 at h0
    refine ⟨_, rfl, _, rfl, _, rfl, R, _, rfl, hRl, fun p1 H1 s1 g1 => ?_⟩
    rw [cut_lo rts n (by omega)] at g1
    refine ⟨_, rfl, _, rfl, _, _, rfl, rfl, R, _, (n : Int) + 1, .ref t1, rfl, rfl, .inl (.inl (s1 _ _ hRl)), atI_of (j := n + 1) (by rw [List.getElem?_map, h1]; rfl) (by omega), ?_⟩
    refine ⟨_, rfl, _, rfl, R, _, (n : Int), .ref t0, rfl, rfl, .inl (.inl (s1 _ _ hRl)), atI_nat (by rw [List.getElem?_map, h0]; rfl), (by show 2 ≤ sizeLine; decide), fun p2 hp2 => ?_⟩
    have s2 := same_new hp2 (.tup [V.ref t1, V.ref t0])
    refine ⟨p1, p2, _, _, rfl, rfl, s2 _ _ g1, upd_same, (by simp only [List.length_map, List.length_take, List.length_cons, List.length_nil]; exact small (by omega)), fun p3 H3 s3 g3 => ?_⟩
    have s13 := s1.trans (s2.trans s3)
    refine ⟨_, rfl, _, rfl, _, _, rfl, rfl, _, rfl, R, _, rfl, s13 _ _ hRl, fun p4 H4 s4 g4 => ?_⟩
    rw [show ((n : Int) + 2) = ((n + 2 : Nat) : Int) by omega, cut_hi rts (n + 2) (by omega)] at g4
    refine ⟨p3, p4, _, _, rfl, rfl, s4 _ _ g3, g4, (by simp only [List.length_append, List.length_map, List.length_take, List.length_drop, List.length_cons, List.length_nil]; exact small (by omega)), fun p5 H5 s5 g5 => ?_⟩
    have s15 := s13.trans (s4.trans s5)
    refine q p5 H5 s15 ⟨rts.take n ++ [t1, t0] ++ rts.drop (n + 2), ?_, swap_at (paired_mono (fun _ _ g => s15 _ _ g) hRp) hn h1 h0⟩
    rw [g5, List.map_append, List.map_append]
    rfl
abbrev sFr : Stmt := topS 80
abbrev nFr : List Str := ["book", "letters", "rules", "_", "found", "number", "hunt"]
theorem scFr : FnScope nFr ["book"] (defScope sFr) := ⟨rfl, rfl, rfl, by decide +kernel, rfl, by decide +kernel, by decide +kernel⟩
def spFr : Sp := fun vs H Q _ => ∃ (b : Addr) (L : List Nat) (rs : List Rule) (es : List Exc), vs = [.ref b] ∧ BookAt H b L rs es ∧ BookOk L rs es ∧
  ∀ (D : Addr) (H' : Hp), Same H H' → H D = none → H' D = some (.lst ((freeL rs L (rs.length - 1)).map fun k => V.int (k : Nat))) → Q (.ref D) H'
theorem ok_Fr {f C fPI : Addr} {fd dPI : FuncData} (F : Fun K "free" "free" sFr f fd) (B : Bn mg) (DCh : Df P w K mg base "checked_book" ["book"] 5 spCh) (DSw : Df P w K mg base "swapped" ["rules", "number"] 1 spSw) (DLt : Df P w K mg base "least_word" ["letters", "hunt"] 9 (spLtP C))
    (mgC : mg "PartedHunt" = some (.ref C)) (Mk_ : Mk K C fPI) (GPI : FnOk P w K mg base CX0 2 fPI dPI ["self", "one", "other"] (spPI C)) (bPI : Binds K dPI ["self", "one", "other"] []) : FnOk P w K mg base CX0 10 f fd ["book"] spFr := by
  obtain ⟨fCh, fdCh, GCh, kCh, bCh, mCh⟩ := DCh
  obtain ⟨fSw, fdSw, GSw, kSw, bSw, mSw⟩ := DSw
  obtain ⟨fLt, fdLt, GLt, kLt, bLt, mLt⟩ := DLt
  refine F.ok scFr (fun vs H Q E h => ?_) (fun cdv A outer s H vs Q E hr h => ?_)
  · obtain ⟨b, L, rs, es, rfl, _⟩ := h
    rfl
  · obtain ⟨b, L, rs, es, rfl, hB, ho, q⟩ := h
    have hr1 : Room 1 _ := hr.mono (by decide)
    have hr3 : Room 3 _ := hr.mono (by decide)
    refine ⟨_, pss_cons (ps_asg (pe_call GCh (hr.mono (by decide)) (by rfl) mCh kCh bCh .nil pass0 (pa_cons (pv 0) pa_nil)) (pg_tup (by rfl) (pgs_cons (pg_name (i := 1) scFr.nd rfl (.inl rfl)) (pgs_cons (pg_name (i := 2) scFr.nd rfl (.inl rfl)) (pgs_cons (pg_name (i := 3) scFr.nd rfl (.inl rfl)) pgs_nil)))))
      (pss_cons (ps_set (i := 4) scFr.nd rfl (.inl rfl) (pe_lst pa_nil))
      (pss_cons (ps_for PassesOwn.never rfl (pi_range1 (by rfl) B.rng (pa_cons (pe_op op_sub (pe_callB call_len (by rfl) B.len PySem.boot_len (pa_cons (pv 2) pa_nil)) pe_int) pa_nil)) (pg_name (i := 5) scFr.nd rfl (.inl rfl))
        (pss_cons (ps_set (i := 6) scFr.nd rfl (.inl rfl) (pe_make Mk_ GPI hr3 (by rfl) mgC bPI .nil pass0 (pa_cons (pe_tup (pa_cons (pv 1) (pa_cons (pv 2) (pa_cons (pe_tupN pa_nil) pa_nil)))) (pa_cons (pe_tup (pa_cons (pv 1) (pa_cons (pe_call GSw hr1 (by rfl) mSw kSw bSw .nil pass0 (pa_cons (pv 2) (pa_cons (pv 5) pa_nil))) (pa_cons (pe_tupN pa_nil) pa_nil)))) pa_nil))))
        (pss_one (ps_if (pt_cmpR op_isN (pe_call GLt hr (by rfl) mLt kLt bLt .nil pass0 (pa_cons (pv 1) (pa_cons (pv 6) pa_nil))) pe_non (nomark _)) (pss_one (ps_expr (pe_bm PySem.F.plainAttrs_list PySem.F.slot_list_append PySem.F.type_list_append mt_append (pv 4) (pa_cons (pv 5) pa_nil)))) pss_nil))))
      (pss_one (ps_ret (pv 4))))), ?_⟩
    refine ⟨_, rfl, b, L, rs, es, rfl, hB, ho, fun H1 s1 => ?_⟩
    obtain ⟨R, X, hb, hR, hX⟩ := hB.kt (.of s1)
    obtain ⟨rts, hRl, hRp⟩ := id hR
    have lr : (rts.map V.ref).length = rs.length := by rw [List.length_map, paired_len hRp]
    have r12 := ho.r12
    have ob := bare_ok ho
    refine ⟨b, _, rfl, .inl (.inl hb), rfl, _, _, rfl, _, _, rfl, _, _, rfl, rfl, ?_⟩
    refine ⟨(by show 0 ≤ sizeLine; decide), fun D hD => ?_⟩
    have sD := same_new hD (.lst [])
    refine ⟨_, rfl, _, _, rfl, .inr ⟨_, .inl (.inl (sD _ _ hRl)), rfl⟩, _, _, rfl, rfl, _, rfl, by rw [lr]; omega, by rw [lr]; omega, ?_⟩
    rw [lr, show ((rs.length : Int) - 1).toNat = rs.length - 1 by omega]
    refine for_it (walk_range) (fun j σ H3 => ∃ (v5 v6 : Option V), σ = [some (.ref b), some (.str (T L)), some (.ref R), some (.ref X), some (.ref D), v5, v6] ∧ H3 D = some (.lst ((freeL rs L j).map fun k => V.int (k : Nat))) ∧ Same H1 H3)
      ⟨_, _, rfl, upd_same, sD⟩ (fun _ _ _ _ _ => trivial) ?_ ?_
    · rintro j x σ H0 H3 hj ⟨v5, v6, rfl, e1, e2⟩ ⟨rfl, rfl⟩
      have nx := free_next (rs := rs) (L := L) (n := j)
      have hR3 := hR.kt (.of e2)
      refine ⟨_, rfl, _, rfl, (by show 0 ≤ sizeLine; decide), fun E1 oE1 hoE1 hE1 => ⟨(by show 3 ≤ sizeLine; decide), fun a1 ha1 => ?_⟩⟩
      have t1 := same_new hE1 (.frz oE1 (.tup []))
      have t2 := same_new ha1 (.tup [.str (T L), .ref R, .ref E1])
      have g1 := t2 _ _ (upd_same (H := H3) (a := E1) (o := HO.frz oE1 (.tup [])))
      have g2 : (upd (upd H3 E1 (.frz oE1 (.tup []))) a1 (.tup [.str (T L), .ref R, .ref E1])) a1 = some (.tup [.str (T L), .ref R, .ref E1]) := upd_same
      have s4 := t1.trans t2
      generalize upd (upd H3 E1 (.frz oE1 (.tup []))) a1 (.tup [.str (T L), .ref R, .ref E1]) = H4 at g1 g2 s4 ⊢
      refine ⟨_, rfl, _, rfl, _, rfl, R, rs, j, (by show [V.ref R, V.int (0 + (j : Int))] = _; rw [Int.zero_add]), hR3.kt (.of s4), by omega, by omega, fun R2 H5 s5 hR2 => ?_⟩
      refine ⟨(by show 0 ≤ sizeLine; decide), fun E2 oE2 hoE2 hE2 => ⟨(by show 3 ≤ sizeLine; decide), fun a2 ha2 => ?_⟩⟩
      have t3 := same_new hE2 (.frz oE2 (.tup []))
      have t4 := same_new ha2 (.tup [.str (T L), .ref R2, .ref E2])
      have g3 := t4 _ _ (upd_same (H := H5) (a := E2) (o := HO.frz oE2 (.tup [])))
      have g4 : (upd (upd H5 E2 (.frz oE2 (.tup []))) a2 (.tup [.str (T L), .ref R2, .ref E2])) a2 = some (.tup [.str (T L), .ref R2, .ref E2]) := upd_same
      have s6 := t3.trans t4
      generalize upd (upd H5 E2 (.frz oE2 (.tup []))) a2 (.tup [.str (T L), .ref R2, .ref E2]) = H6 at g3 g4 s6 ⊢
      have s46 := s5.trans s6
      have s36 := s4.trans s46
      have B1 : BookAt H6 a1 L rs [] := ⟨R, E1, s46 _ _ g2, hR3.kt (.of s36), [], ⟨oE1, s46 _ _ g1, hoE1⟩, .nil⟩
      have B2 : BookAt H6 a2 L (swapL rs j) [] := ⟨R2, E2, g4, hR2.kt (.of s6), [], ⟨oE2, g3, hoE2⟩, .nil⟩
      have os := swap_ok (k := j) ob (by omega)
      refine fun y dx hy hdx nyd => ?_
      have kn : KT H6 (upd (upd H6 dx (.own y)) y (.ins C dx [])) := KT.by fun t u hu _ => by
        rw [upd_ne (ne_of_none hu hy), upd_ne (ne_of_none hu hdx)]
        exact hu
      obtain ⟨ok, h8⟩ := bks_ok (b := ⟨rs, swapL rs j, [], []⟩) ob os
      refine ⟨y, dx, a1, a2, L, L, ⟨rs, swapL rs j, [], []⟩, rfl, upd_same, B1.kt kn, B2.kt kn, Nat.zero_le _, Nat.zero_le _, h8, .nil, .nil, fun H7 hH st => ⟨rfl, ?_⟩⟩
      have s7 := made_p hy hdx nyd st
      refine ⟨_, rfl, _, rfl, L, y, ⟨rs, swapL rs j, [], []⟩, rfl, hH, ok, h8, (rises_iff L).mp ho.lt.up, wheres_le ho.lt.l4 h8 (Nat.zero_le _) (Nat.zero_le _), fun v H8 s8 hv => ?_⟩
      have s38 := s36.trans (s7.trans s8)
      have e1' := s38 _ _ e1
      have e2' := e2.trans s38
      refine ⟨rfl, _, rfl, ite2 (fun c => ?_) (fun c => ?_)⟩
      · have c : FreeAt rs L j := hv.non.mp (of_decide_eq_true c)
        rw [if_pos c] at nx
        refine ⟨_, rfl, .inl ⟨rfl, _, .inl (.inl e1')⟩, _, rfl, D, _, _, rfl, rfl, e1', ?_, _, _, rfl, ?_, fun b' u q' => ?_⟩
        · rw [List.length_map]
          have := free_len rs L j
          exact small1000 (by omega)
        · rw [upd_same, nx, List.map_append]
          show some (HO.lst (_ ++ [V.int (0 + (j : Int))])) = _
          rw [Int.zero_add]
          rfl
        · rw [upd_ne (ne_of_none q' hD)]
          exact e2' b' u q'
      · have c : ¬ FreeAt rs L j := fun z => c (decide_eq_true (hv.non.mpr z))
        rw [if_neg c, List.append_nil] at nx
        exact ⟨_, _, rfl, by rw [nx]; exact e1', e2'⟩
    · rintro σ H3 ⟨v5, v6, rfl, e1, e2⟩
      exact ⟨_, rfl, q D H3 (s1.trans e2) (s1.free hD) e1⟩
end
end Say
namespace Say
open PySem PySem.Spec PyProof.Rows L2
abbrev US := Option (List Nat) × Bool
def usS (rs : List Rule) (k : Nat) (s : US) (c : Nat) : US := ((tkM rs s.1 c).1, s.2 || decide (k ∈ (tkM rs s.1 c).2))
abbrev rnU (rs : List Rule) (k : Nat) (w : List Nat) : US := rn (some [35], false) (usS rs k) w
def fdK (rs : List Rule) (k : Nat) (s : US) : Bool := match endM rs s.1 with
  | none => false
  | some ks => s.2 || decide (k ∈ ks)
theorem rnU_fst (rs : List Rule) (k : Nat) : ∀ (n : Nat) (w : List Nat), w.length = n → (rnU rs k w).1 = rnT rs w
  | 0, w, hn => by
    have := List.eq_nil_of_length_eq_zero hn
    subst this
    rfl
  | n + 1, w, hn => by
    rcases List.eq_nil_or_concat w with rfl | ⟨u, c, rfl⟩
    · cases hn
    · rw [List.concat_eq_append] at hn ⊢
      have ih := rnU_fst rs k n u (by simpa using hn)
      show (rn (some [35], false) (usS rs k) (u ++ [c])).1 = rn (some [35]) (tkS rs) (u ++ [c])
      rw [rn_snoc, rn_snoc]
      show (tkM rs (rn (some [35], false) (usS rs k) u).1 c).1 = (tkM rs (rn (some [35]) (tkS rs) u) c).1
      rw [show (rn (some [35], false) (usS rs k) u).1 = rn (some [35]) (tkS rs) u from ih]
theorem rnU_some {rs : List Rule} (ho : ∀ ρ ∈ rs, RlOk ρ) (k : Nat) : ∀ (n : Nat) {w tl : List Nat}, w.length = n → rnT rs w = some tl → ∃ ks, Fed rs w tl ks ∧ (rnU rs k w).2 = decide (k ∈ ks)
  | 0, w, tl, hn, h => by
    have := List.eq_nil_of_length_eq_zero hn
    subst this
    have h : some [35] = some tl := h
    cases h
    exact ⟨[], fed_nil rs, (decide_eq_false (fun z => nomatch z)).symm⟩
  | n + 1, w, tl, hn, h => by
    rcases List.eq_nil_or_concat w with rfl | ⟨u, c, rfl⟩
    · cases hn
    · rw [List.concat_eq_append] at h hn ⊢
      have h : rn (some [35]) (tkS rs) (u ++ [c]) = some tl := h
      rw [rn_snoc] at h
      cases e : rn (some [35]) (tkS rs) u with
      | none => rw [e] at h; cases h
      | some t =>
        rw [e] at h
        obtain ⟨ks, F, e2⟩ := rnU_some ho k n (by simpa using hn) e
        refine ⟨_, F.step ho h, ?_⟩
        show (rn (some [35], false) (usS rs k) (u ++ [c])).2 = _
        rw [rn_snoc]
        show ((rnU rs k u).2 || decide (k ∈ (tkM rs (rnU rs k u).1 c).2)) = _
        rw [e2, rnU_fst rs k _ u rfl, show rnT rs u = some t from e, Bool.eq_iff_iff, Bool.or_eq_true, decide_eq_true_eq, decide_eq_true_eq, decide_eq_true_eq, List.mem_append]
/-- what the hunt finds are the words that rules say, and by the rule k -/
theorem fdK_iff {rs : List Rule} (ho : ∀ ρ ∈ rs, RlOk ρ) (k : Nat) (w : List Nat) : fdK rs k (rnU rs k w) = true ↔ (W rs w).2 = none ∧ k ∈ (W rs w).1.map (·.2) := by
  unfold fdK
  rw [rnU_fst rs k _ w rfl]
  cases e : rnT rs w with
  | none =>
    have := rnT_none ho _ rfl e []
    rw [List.append_nil] at this
    exact ⟨fun z => (by cases z), fun z => absurd z.1 this⟩
  | some tl =>
    obtain ⟨ks, F, e2⟩ := rnU_some ho k _ rfl e
    obtain ⟨w1, w2⟩ := F.whole ho
    rw [w1, w2, e2]
    cases ew : (Wt rs tl).2 with
    | none =>
      have ee : endM rs (some tl) = some ((Wt rs tl).1.map (·.2)) := by unfold endM; simp only [ew, if_true]
      rw [ee]
      simp only [Option.map_none, true_and, Bool.or_eq_true, decide_eq_true_eq]
      exact List.mem_append.symm
    | some p =>
      have ee : endM rs (some tl) = none := by unfold endM; simp [ew]
      rw [ee]
      simp
def states (L : List Nat) : List US := (tails L).flatMap fun t => [(t, false), (t, true)]
theorem rnU_mem {rs : List Rule} (ho : ∀ ρ ∈ rs, RlOk ρ) (k : Nat) {L w : List Nat} (hw : ∀ c ∈ w, c ∈ L) : rnU rs k w ∈ states L := by
  refine List.mem_flatMap.mpr ⟨_, rnT_mem ho hw, ?_⟩
  have e := rnU_fst rs k _ w rfl
  generalize rnU rs k w = s at e ⊢
  obtain ⟨a, b⟩ := s
  have e : a = rnT rs w := e
  subst e
  cases b <;> simp
theorem rnU_len {rs : List Rule} (ho : ∀ ρ ∈ rs, RlOk ρ) (k : Nat) {w tl : List Nat} (e : (rnU rs k w).1 = some tl) : 1 ≤ tl.length ∧ tl.length ≤ 3 := by
  rw [rnU_fst rs k _ w rfl] at e
  exact rnT_len ho e
theorem states_len (L : List Nat) : (states L).length = 2 * (tails L).length := by
  unfold states
  generalize tails L = l
  induction l with
  | nil => rfl
  | cons a r ih =>
    rw [List.flatMap_cons, List.length_append, ih, List.length_cons]
    show 2 + 2 * r.length = 2 * (r.length + 1)
    omega
end Say
namespace Say
open PySem PySem.Spec PyProof.Rows L2
abbrev sUH (j : Nat) : Stmt := inClass (topS 74) j
structure USC (K : PySem.W.Frag) (C : Addr) : Prop where
  cl : Cls K C
  nR : NoAttr K C "_rules"
  nN : NoAttr K C "_number"
def fldU (R : Addr) (k : Nat) : List (Str × V) := [("_rules", .ref R), ("_number", .int (k : Nat))]
/-- a hunt for the rule k at y -/
def HuntU (C : Addr) (H : Hp) (y R : Addr) (rs : List Rule) (k : Nat) : Prop := (∃ dx, H y = some (.ins C dx (fldU R k))) ∧ RulesAt H R rs
theorem HuntU.same {C : Addr} {H H' : Hp} {y R : Addr} {rs : List Rule} {k : Nat} (h : HuntU C H y R rs k) (e : Same H H') : HuntU C H' y R rs k := by
  obtain ⟨⟨dx, h1⟩, h2⟩ := h
  exact ⟨⟨dx, e _ _ h1⟩, h2.kt (.of e)⟩
def TlS (s : Option (List Nat)) : Prop := ∀ t, s = some t → 1 ≤ t.length ∧ t.length ≤ 3
def leafT : Option (List Nat) → Leaf
  | none => .none
  | some t => .text (T t)
theorem leafT_V (s : Option (List Nat)) : leafV (leafT s) = optT s := by cases s <;> rfl
theorem leafT_inj {s s' : Option (List Nat)} (h : leafT s = leafT s') : s = s' := by
  cases s with
  | none => cases s' with
    | none => rfl
    | some t => cases h
  | some t => cases s' with
    | none => cases h
    | some t' => rw [T_inj (Leaf.text.inj h)]
def leafU (s : US) : List Leaf := [leafT s.1, .num (if s.2 = true then 1 else 0)]
theorem leafU_inj {s s' : US} (h : leafU s = leafU s') : s = s' := by
  obtain ⟨a, u⟩ := s
  obtain ⟨a', u'⟩ := s'
  have h1 := (List.cons.inj h).1
  have h2 := (List.cons.inj (List.cons.inj h).2).1
  have e := leafT_inj h1
  have e : a = a' := e
  subst e
  have h2 : Leaf.num (if u = true then 1 else 0) = Leaf.num (if u' = true then 1 else 0) := h2
  cases u <;> cases u' <;> first | rfl | (exfalso; simp at h2)
theorem keyU {H : Hp} {b : Addr} {s : US} (h : H b = some (.tup [optT s.1, .bl s.2])) : KeyAt H b (leafU s) := ⟨_, h, .cons (by rw [← leafT_V]; exact .val _) (.cons (.bl _) .nil)⟩
theorem inV_nat (k : Nat) : ∀ ks : List Nat, inV (.int (k : Nat)) (ks.map fun j => V.int (j : Nat)) = decide (k ∈ ks)
  | [] => rfl
  | a :: r => by
    have ih := inV_nat k r
    show (eqV (.int (a : Nat)) (.int (k : Nat)) || inV (.int (k : Nat)) (r.map fun j => V.int (j : Nat))) = _
    rw [ih, show eqV (.int (a : Nat)) (.int (k : Nat)) = decide ((a : Int) = (k : Int)) from rfl, Bool.eq_iff_iff, Bool.or_eq_true, decide_eq_true_eq, decide_eq_true_eq, decide_eq_true_eq, List.mem_cons]
    exact or_congr ⟨fun h => by omega, fun h => by omega⟩ Iff.rfl
theorem flat_ints : ∀ ks : List Nat, (ks.map fun j => V.int (j : Nat)).all flatV = true
  | [] => rfl
  | a :: r => by
    show (true && (r.map fun j => V.int (j : Nat)).all flatV) = true
    rw [flat_ints r]
    rfl
/-- a state's pair: where and lead -/
def StU (H : Hp) (t aE : Addr) (s : US) : Prop := ∃ b : Addr, H t = some (.tup [.ref b, .ref aE]) ∧ H b = some (.tup [optT s.1, .bl s.2])
theorem StU.kt {H H' : Hp} {t aE : Addr} {s : US} (h : StU H t aE s) (e : KT H H') : StU H' t aE s := by
  obtain ⟨b, h1, h2⟩ := h
  exact ⟨b, e.1 _ _ h1, e.1 _ _ h2⟩
section
variable {P : Program} {w : World} {K : PySem.W.Frag} {mg : Str → Option Value} {base : Heap}
theorem scHI : FnScope ["self", "rules", "number"] ["self", "rules", "number"] (defScope (sUH 0)) := ⟨rfl, rfl, rfl, by decide +kernel, rfl, by decide +kernel, by decide +kernel⟩
def spHI (C : Addr) : Sp := fun vs H Q _ => ∃ (y dx R : Addr) (k : Nat), vs = [.ref y, .ref R, .int k] ∧ H y = some (.ins C dx []) ∧ ∀ H' : Hp, H' y = some (.ins C dx (fldU R k)) → (∀ b, b ≠ y → H' b = H b) → Q .non H'
theorem ok_HI {f C : Addr} {fd : FuncData} {k : Nat} (F : Fun K "__init__" "UseHunt.__init__" (sUH 0) f fd) (S : USC K C) : FnOk P w K mg base CX0 (k + 1) f fd ["self", "rules", "number"] (spHI C) := by
  refine F.ok scHI (fun vs H Q E h => ?_) (fun cdv A outer s H vs Q E hr h => ?_)
  · obtain ⟨y, dx, R, n, rfl, _⟩ := h
    rfl
  · obtain ⟨y, dx, R, n, rfl, hy, q⟩ := h
    refine ⟨_, pss_cons (ps_fld (pv 0) (pv 1) rfl) (pss_one (ps_fld (pv 0) (pv 2) rfl)), ?_⟩
    refine ⟨_, rfl, _, rfl, y, C, dx, _, rfl, hy, S.cl, S.nR, (by show 0 < 1000; decide), ?_⟩
    refine ⟨_, rfl, _, rfl, y, C, dx, _, rfl, upd_same, S.cl, S.nN, (by show 1 < 1000; decide), ?_⟩
    exact q _ upd_same fun b hb => by rw [upd_ne hb, upd_ne hb]
theorem scHS : FnScope ["self"] ["self"] (defScope (sUH 1)) := ⟨rfl, rfl, rfl, by decide +kernel, rfl, by decide +kernel, by decide +kernel⟩
def spHS (aE : Addr) : Sp := fun vs H Q _ => ∃ y : Addr, vs = [.ref y] ∧ ∀ (u : Addr) (H' : Hp), H u = none → Same H H' → StU H' u aE (some [35], false) → Q (.ref u) H'
theorem ok_HS {f aE : Addr} {fd : FuncData} {k : Nat} (F : Fun K "start" "UseHunt.start" (sUH 1) f fd) (C : Cn mg) (mE : mg "EVEN" = some (.ref aE)) : FnOk P w K mg base CX0 (k + 1) f fd ["self"] (spHS aE) := by
  obtain ⟨tE, mG⟩ := C.edge
  refine F.ok scHS (fun vs H Q E h => ?_) (fun cdv A outer s H vs Q E hr h => ?_)
  · obtain ⟨y, rfl, _⟩ := h
    rfl
  · obtain ⟨y, rfl, q⟩ := h
    refine ⟨_, pss_one (ps_ret (pe_tup (pa_cons (pe_tup (pa_cons (pe_glob (v := .str "#") rfl mG ⟨_, rfl⟩) (pa_cons pe_bl pa_nil))) (pa_cons (pe_glob (v := .ref aE) rfl mE rfl) pa_nil)))), ?_⟩
    refine ⟨(by show 2 ≤ sizeLine; decide), fun b hb => ⟨(by show 2 ≤ sizeLine; decide), fun u hu => ?_⟩⟩
    have sb := same_new hb (.tup [optT (some [35]), .bl false])
    have su := same_new hu (.tup [.ref b, .ref aE])
    exact q u _ (sb.free hu) (sb.trans su) ⟨b, upd_same, su _ _ upd_same⟩
theorem scHA : FnScope ["self", "state", "letter", "tail", "is_used", "numbers"] ["self", "state", "letter"] (defScope (sUH 2)) := ⟨rfl, rfl, rfl, by decide +kernel, rfl, by decide +kernel, by decide +kernel⟩
def spHA (C aE : Addr) : Sp := fun vs H Q _ => ∃ (y R t : Addr) (rs : List Rule) (k : Nat) (s : US) (c : Nat), vs = [.ref y, .ref t, .str (T [c])] ∧ HuntU C H y R rs k ∧ (∀ ρ ∈ rs, RlOk ρ) ∧ StU H t aE s ∧ TlS s.1 ∧
  ∀ (u : Addr) (H' : Hp), Same H H' → H u = none → StU H' u aE (usS rs k s c) → Q (.ref u) H'
theorem ok_HA {f C aE : Addr} {fd : FuncData} (F : Fun K "after" "UseHunt.after" (sUH 2) f fd) (S : USC K C) (mE : mg "EVEN" = some (.ref aE)) (DTk : Df P w K mg base "taken" ["rules", "tail", "letter"] 3 spTk) : FnOk P w K mg base CX0 4 f fd ["self", "state", "letter"] (spHA C aE) := by
  obtain ⟨fTk, fdTk, GTk, kTk, bTk, mTk⟩ := DTk
  refine F.ok scHA (fun vs H Q E h => ?_) (fun cdv A outer s H vs Q E hr h => ?_)
  · obtain ⟨y, R, t, rs, k, s, c, rfl, _⟩ := h
    rfl
  · obtain ⟨y, R, t, rs, k, ⟨tl, u0⟩, c, rfl, ⟨⟨dx, hy⟩, hR⟩, ho, ⟨b, ht, hb⟩, hs, q⟩ := h
    refine ⟨_, pss_cons (ps_asg (pe_ix ix_tup (pv 1) pe_int (fun _ _ => rfl)) (pg_tup (by rfl) (pgs_cons (pg_name (i := 3) scHA.nd rfl (.inl rfl)) (pgs_cons (pg_name (i := 4) scHA.nd rfl (.inl rfl)) pgs_nil))))
      (pss_cons (ps_asg (pe_call GTk hr (by rfl) mTk kTk bTk .nil pass0 (pa_cons (pe_fld (pv 0) rfl) (pa_cons (pv 3) (pa_cons (pv 2) pa_nil)))) (pg_tup (by rfl) (pgs_cons (pg_name (i := 3) scHA.nd rfl (.inl rfl)) (pgs_cons (pg_name (i := 5) scHA.nd rfl (.inl rfl)) pgs_nil))))
      (pss_one (ps_ret (pe_tup (pa_cons (pe_tup (pa_cons (pv 3) (pa_cons (pe_or (pv 4) (pe_one (pe_cmpR op_in_seq (pe_fld (pv 0) rfl) (pv 5) rfl))) pa_nil))) (pa_cons (pe_glob (v := .ref aE) rfl mE rfl) pa_nil)))))), ?_⟩
    refine ⟨_, rfl, t, _, 0, .ref b, rfl, rfl, .inl (.inl ht), atI_nat (j := 0) rfl, ?_⟩
    refine ⟨b, _, rfl, .inl (.inl hb), rfl, _, _, rfl, _, _, rfl, rfl, ?_⟩
    refine ⟨_, rfl, y, C, dx, _, _, rfl, hy, S.cl, S.nR, rfl, ?_⟩
    refine ⟨_, rfl, _, rfl, R, rs, tl, c, rfl, hR, ho, hs, fun u D H1 s1 hD h1 h2 => ?_⟩
    refine ⟨u, _, rfl, .inl (.inl h1), rfl, _, _, rfl, _, _, rfl, rfl, ?_⟩
    have hy1 := s1 _ _ hy
    have fin : ∀ v : Bool, v = (u0 || decide (k ∈ (tkM rs tl c).2)) → (2 ≤ sizeLine ∧ ∀ b1, H1 b1 = none → (2 ≤ sizeLine ∧ ∀ u1, (upd H1 b1 (.tup [optT (tkM rs tl c).1, .bl v])) u1 = none → Q (.ref u1) (upd (upd H1 b1 (.tup [optT (tkM rs tl c).1, .bl v])) u1 (.tup [.ref b1, .ref aE])))) := fun v hv => by
      refine ⟨by decide, fun b1 hb1 => ⟨by decide, fun u1 hu1 => ?_⟩⟩
      have sb := same_new hb1 (.tup [optT (tkM rs tl c).1, .bl v])
      have su := same_new hu1 (.tup [.ref b1, .ref aE])
      refine q u1 _ (s1.trans (sb.trans su)) (s1.free (sb.free hu1)) ⟨b1, upd_same, ?_⟩
      rw [su _ _ upd_same, hv]
      rfl
    refine ⟨_, rfl, _, rfl, u0, rfl, ite2 (fun cu => ?_) (fun cu => ?_)⟩
    · exact fin true (by rw [cu]; rfl)
    · refine ⟨_, rfl, y, C, dx, _, _, rfl, hy1, S.cl, S.nN, rfl, _, rfl, D, _, rfl, .inl (.inl (.inl h2)), rfl, flat_ints _, ?_⟩
      have e : (if false = true then !inV (.int (k : Nat)) ((tkM rs tl c).2.map fun j => V.int (j : Nat)) else inV (.int (k : Nat)) ((tkM rs tl c).2.map fun j => V.int (j : Nat))) = (u0 || decide (k ∈ (tkM rs tl c).2)) := by
        rw [if_neg (by decide), inV_nat, Bool.eq_false_iff.mpr cu, Bool.false_or]
      exact fin _ e
theorem scHF : FnScope ["self", "state", "tail", "is_used", "numbers"] ["self", "state"] (defScope (sUH 3)) := ⟨rfl, rfl, rfl, by decide +kernel, rfl, by decide +kernel, by decide +kernel⟩
def spHF (C aE : Addr) : Sp := fun vs H Q _ => ∃ (y R t : Addr) (rs : List Rule) (k : Nat) (s : US), vs = [.ref y, .ref t] ∧ HuntU C H y R rs k ∧ (∀ ρ ∈ rs, RlOk ρ) ∧ StU H t aE s ∧ TlS s.1 ∧
  ∀ (H' : Hp), Same H H' → Q (.bl (fdK rs k s)) H'
theorem ok_HF {f C aE : Addr} {fd : FuncData} (F : Fun K "is_found" "UseHunt.is_found" (sUH 3) f fd) (S : USC K C) (DEn : Df P w K mg base "ending" ["rules", "tail"] 4 spEnd) : FnOk P w K mg base CX0 5 f fd ["self", "state"] (spHF C aE) := by
  obtain ⟨fEn, fdEn, GEn, kEn, bEn, mEn⟩ := DEn
  refine F.ok scHF (fun vs H Q E h => ?_) (fun cdv A outer s H vs Q E hr h => ?_)
  · obtain ⟨y, R, t, rs, k, s, rfl, _⟩ := h
    rfl
  · obtain ⟨y, R, t, rs, k, ⟨tl, u0⟩, rfl, ⟨⟨dx, hy⟩, hR⟩, ho, ⟨b, ht, hb⟩, hs, q⟩ := h
    refine ⟨_, pss_cons (ps_asg (pe_ix ix_tup (pv 1) pe_int (fun _ _ => rfl)) (pg_tup (by rfl) (pgs_cons (pg_name (i := 2) scHF.nd rfl (.inl rfl)) (pgs_cons (pg_name (i := 3) scHF.nd rfl (.inl rfl)) pgs_nil))))
      (pss_cons (ps_set (i := 4) scHF.nd rfl (.inl rfl) (pe_call GEn hr (by rfl) mEn kEn bEn .nil pass0 (pa_cons (pe_fld (pv 0) rfl) (pa_cons (pv 2) pa_nil))))
      (pss_one (ps_ret (pe_and (pe_cmpR op_notN (pv 4) pe_non (nomark _)) (pe_one (pe_or (pv 3) (pe_one (pe_cmpR op_in_seq (pe_fld (pv 0) rfl) (pv 4) rfl)))))))), ?_⟩
    refine ⟨_, rfl, t, _, 0, .ref b, rfl, rfl, .inl (.inl ht), atI_nat (j := 0) rfl, ?_⟩
    refine ⟨b, _, rfl, .inl (.inl hb), rfl, _, _, rfl, _, _, rfl, rfl, ?_⟩
    refine ⟨_, rfl, y, C, dx, _, _, rfl, hy, S.cl, S.nR, rfl, ?_⟩
    refine ⟨_, rfl, R, rs, tl, rfl, hR, ho, (fun t e => ⟨(hs t e).1, by have := (hs t e).2; omega⟩), fun v1 H1 s1 hv => ?_⟩
    have q1 := q H1 s1
    unfold fdK at q1
    cases ee : endM rs tl with
    | none =>
      rw [ee] at hv q1
      cases hv
      exact ⟨_, rfl, rfl, _, rfl, iteF q1⟩
    | some ks =>
      rw [ee] at hv q1
      obtain ⟨D, rfl, hD⟩ := hv
      refine ⟨_, rfl, rfl, _, rfl, iteT ?_⟩
      refine ⟨_, rfl, u0, rfl, ite2 (fun cu => ?_) (fun cu => ?_)⟩
      · subst cu
        exact q1
      · refine ⟨_, rfl, y, C, dx, _, _, rfl, s1 _ _ hy, S.cl, S.nN, rfl, _, rfl, D, _, rfl, .inl (.inl (.inl hD)), rfl, flat_ints _, ?_⟩
        have e : (if false = true then !inV (.int (k : Nat)) (ks.map fun j => V.int (j : Nat)) else inV (.int (k : Nat)) (ks.map fun j => V.int (j : Nat))) = (u0 || decide (k ∈ ks)) := by
          rw [if_neg (by decide), inV_nat, Bool.eq_false_iff.mpr cu, Bool.false_or]
        rw [e]
        exact q1
end
end Say
namespace Say
open PySem PySem.Spec PyProof.Rows L2
/-- the queue of words and states -/
def QAt (H : Hp) (Qa aE : Addr) (q : List (List Nat × US)) : Prop := ∃ ts : List Addr, H Qa = some (.lst (ts.map V.ref)) ∧ Paired (fun t (x : List Nat × US) => ∃ s : Addr, H t = some (.tup [.str (T x.1), .ref s]) ∧ StU H s aE x.2) ts q
def UsedBy (rs : List Rule) (k : Nat) (w : List Nat) : Prop := (W rs w).2 = none ∧ k ∈ (W rs w).1.map (·.2)
/-- the least word that rules say, by the rule k -/
def LeastIs (rs : List Rule) (k : Nat) (L : List Nat) (v : V) : Prop := (v = .non ∧ ∀ w : List Nat, (∀ c ∈ w, c ∈ L) → ¬ UsedBy rs k w) ∨
  ∃ w : List Nat, v = .str (T w) ∧ (∀ c ∈ w, c ∈ L) ∧ w.length ≤ (states L).length ∧ UsedBy rs k w ∧ ∀ w' : List Nat, (∀ c ∈ w', c ∈ L) → UsedBy rs k w' → sle w w'
abbrev HuT (rs : List Rule) (k : Nat) (L : List Nat) (q : List (List Nat × US)) (i j : Nat) : Prop := Hu (some [35], false) (usS rs k) (fdK rs k) L q i j
theorem tfind_none {kvs : List LT3} {k : List Leaf} : tfind kvs k = none ↔ ∀ p ∈ kvs, ¬ p.1 = k := by
  unfold tfind
  rw [Option.map_eq_none_iff, List.find?_eq_none]
  exact ⟨fun h p hp e => h p hp (decide_eq_true e), fun h p hp e => h p hp (of_decide_eq_true e)⟩
def Keys (kvs : List LT3) (q : List (List Nat × US)) : Prop := kvs.map (·.1) = (q.drop 1).map fun x => leafU x.2
theorem Keys.none {kvs : List LT3} {q : List (List Nat × US)} (h : Keys kvs q) {s : US} : tfind kvs (leafU s) = none ↔ ∀ y ∈ q.drop 1, ¬ y.2 = s := by
  rw [tfind_none]
  constructor
  · intro g y hy e
    have : leafU y.2 ∈ kvs.map (·.1) := by rw [h]; exact List.mem_map.mpr ⟨y, hy, rfl⟩
    obtain ⟨p, hp, e2⟩ := List.mem_map.mp this
    exact g p hp (by rw [e2, e])
  · intro g p hp e
    have : p.1 ∈ (q.drop 1).map fun x => leafU x.2 := by rw [← h]; exact List.mem_map.mpr ⟨p, hp, rfl⟩
    obtain ⟨y, hy, e2⟩ := List.mem_map.mp this
    exact g y hy (leafU_inj (e2.trans e))
theorem HuT.tl {rs : List Rule} (ho : ∀ ρ ∈ rs, RlOk ρ) {L : List Nat} {q : List (List Nat × US)} {i j : Nat} {k : Nat} (h : HuT rs k L q i j) {x : List Nat × US} (hx : x ∈ q) : TlS x.2.1 := fun t e => by
  rw [(h.ok x hx).1] at e
  exact rnU_len ho k e
theorem QAt.same {H H' : Hp} {Qa aE : Addr} {z : List (List Nat × US)} (h : QAt H Qa aE z) (e : Same H H') : QAt H' Qa aE z := by
  obtain ⟨ts, h1, h2⟩ := h
  exact ⟨ts, e _ _ h1, paired_mono (fun t x g => by obtain ⟨s, a, b⟩ := g; exact ⟨s, e _ _ a, b.kt (.of e)⟩) h2⟩
theorem LeadsT.same {P : Program} {w : World} {H H' : Hp} {a aE : Addr} {kvs : List LT3} (h : LeadsT P w H a aE kvs) (e : Same H H') : LeadsT P w H' a aE kvs := ⟨e _ _ h.1, h.2.1.kt (.of e), fun p hp => e _ _ (h.2.2 p hp)⟩
section
variable {P : Program} {w : World} {K : PySem.W.Frag} {mg : Str → Option Value} {base : Heap}
abbrev sLtU : Stmt := topS 69
abbrev nLtU : List Str := ["letters", "hunt", "queue", "leads", "at", "word", "state", "letter", "reached"]
theorem scLtU : FnScope nLtU ["letters", "hunt"] (defScope sLtU) := ⟨rfl, rfl, rfl, by decide +kernel, rfl, by decide +kernel, by decide +kernel⟩
def spLt (C : Addr) : Sp := fun vs H Q _ => ∃ (L : List Nat) (y R : Addr) (rs : List Rule) (k : Nat), vs = [.str (T L), .ref y] ∧ HuntU C H y R rs k ∧ (∀ ρ ∈ rs, RlOk ρ) ∧ L.Pairwise (· < ·) ∧ L.length ≤ 4 ∧ (states L).length ≤ 900 ∧
  ∀ (v : V) (H' : Hp), Same H H' → LeastIs rs k L v → Q v H'
theorem ok_Lt {f C aE fHS fHA fHF : Addr} {fd dHS dHA dHF : FuncData} (F : Fun K "least_word" "least_word" sLtU f fd) (B : Bn mg) (S : USC K C) (DKp : Df P w K mg base "keep" ["leads", "state"] 1 (spKp P w aE))
    (GHS : FnOk P w K mg base CX0 1 fHS dHS ["self"] (spHS aE)) (mHS : Meth K C "start" fHS) (bHS : Binds K dHS ["self"] [])
    (GHA : FnOk P w K mg base CX0 4 fHA dHA ["self", "state", "letter"] (spHA C aE)) (mHA : Meth K C "after" fHA) (bHA : Binds K dHA ["self", "state", "letter"] [])
    (GHF : FnOk P w K mg base CX0 5 fHF dHF ["self", "state"] (spHF C aE)) (mHF : Meth K C "is_found" fHF) (bHF : Binds K dHF ["self", "state"] []) :
    FnOk P w K mg base CX0 7 f fd ["letters", "hunt"] (spLt C) := by
  obtain ⟨fKp, fdKp, GKp, kKp, bKp, mKp⟩ := DKp
  refine F.ok scLtU (fun vs H Q E h => ?_) (fun cdv A outer s H vs Q E hr h => ?_)
  · obtain ⟨L, y, R, rs, k, rfl, _⟩ := h
    rfl
  · obtain ⟨L, y, R, rs, k, rfl, hH, ho, hL, h4, ht9, q⟩ := h
    have hr1 : Room 1 _ := hr.mono (by decide)
    have hr4 : Room 4 _ := hr.mono (by decide)
    have hr5 : Room 5 _ := hr.mono (by decide)
    refine ⟨_, pss_cons (ps_set (i := 2) scLtU.nd rfl (.inl rfl) (pe_lst (pa_cons (pe_tup (pa_cons pe_str (pa_cons (pe_meth0 (pv 1) S.cl mHS GHS hr1 bHS .nil pass0) pa_nil))) pa_nil)))
      (pss_cons (ps_set (i := 3) scLtU.nd rfl (.inl rfl) pe_dnewT')
      (pss_cons (ps_set (i := 4) scLtU.nd rfl (.inl rfl) pe_int)
      (pss_cons (ps_while PassesOwn.never (pt_cmpR op_lt (pv 4) (pe_callB call_len (by rfl) B.len PySem.boot_len (pa_cons (pv 2) pa_nil)) (nomark _)) (pss_cons (ps_asg (pe_ix ix_list (pv 2) (pv 4) (fun _ _ => rfl)) (pg_tup (by rfl) (pgs_cons (pg_name (i := 5) scLtU.nd rfl (.inl rfl)) (pgs_cons (pg_name (i := 6) scLtU.nd rfl (.inl rfl)) pgs_nil))))
        (pss_cons (ps_aug (i := 4) scLtU.nd rfl (.inl rfl) pe_int ip_add)
        (pss_cons (ps_if (pt_val (pe_meth (pv 1) S.cl mHF GHF hr5 bHF .nil pass0 (pa_cons (pv 6) pa_nil))) (pss_one (ps_ret (pv 5))) pss_nil)
        (pss_one (ps_for PassesOwn.never rfl (pi_str (pv 0)) (pg_name (i := 7) scLtU.nd rfl (.inl rfl)) (pss_cons (ps_set (i := 8) scLtU.nd rfl (.inl rfl) (pe_meth (pv 1) S.cl mHA GHA hr4 bHA .nil pass0 (pa_cons (pv 6) (pa_cons (pv 7) pa_nil))))
          (pss_one (ps_if (pt_val (pe_call GKp hr1 (by rfl) mKp kKp bKp .nil pass0 (pa_cons (pv 3) (pa_cons (pv 8) pa_nil)))) (pss_one (ps_expr (pe_bm PySem.F.plainAttrs_list PySem.F.slot_list_append PySem.F.type_list_append mt_append (pv 2) (pa_cons (pe_tup (pa_cons (pe_op op_add_str (pv 5) (pv 7)) (pa_cons (pv 8) pa_nil))) pa_nil)))) pss_nil)))))))))
      (pss_one (ps_ret pe_non))))), ?_⟩
    obtain ⟨⟨dx, hy⟩, hR⟩ := id hH
    refine ⟨_, rfl, y, dx, _, rfl, hy, rfl, y, rfl, fun u0 Hs hu0 su hSt => ?_⟩
    refine ⟨(by show 2 ≤ sizeLine; decide), fun t0 ht0 => ⟨(by show 1 ≤ sizeLine; decide), fun Qa hQa' => ?_⟩⟩
    intro A' hA'
    have st := same_new ht0 (.tup [.str (T []), .ref u0])
    have sq := same_new hQa' (.lst [V.ref t0])
    have sA := same_new hA' (LT P w A' [])
    have hQ0 : H Qa = none := (su.trans st).free hQa'
    have hA0 : H A' = none := ((su.trans st).trans sq).free hA'
    have sH := ((su.trans st).trans sq).trans sA
    have eQ := sA _ _ (upd_same (H := upd Hs t0 (.tup [.str (T []), .ref u0])) (a := Qa) (o := HO.lst [V.ref t0]))
    have eT := (sq.trans sA) _ _ (upd_same (H := Hs) (a := t0) (o := HO.tup [.str (T []), .ref u0]))
    have eU := hSt.kt (.of ((st.trans sq).trans sA))
    have eA : (upd (upd (upd Hs t0 (.tup [.str (T []), .ref u0])) Qa (.lst [V.ref t0])) A' (LT P w A' [])) A' = some (LT P w A' []) := upd_same
    refine ⟨fun m σ H2 => ∃ (i : Nat) (z : List (List Nat × US)) (kvs : List LT3) (v5 v6 v7 v8 : Option L2.V), σ = [some (.str (T L)), some (.ref y), some (.ref Qa), some (.ref A'), some (.int i), v5, v6, v7, v8] ∧ HuT rs k L z i 0 ∧ (states L).length + 2 ≤ i + m ∧ Same H H2 ∧ QAt H2 Qa aE z ∧ LeadsT P w H2 A' aE kvs ∧ Keys kvs z ∧ ∀ p ∈ kvs, p.2.2 ≠ Qa, ⟨(states L).length + 2, 0, [([], (some [35], false))], [], _, _, _, _, rfl, Hu.first, by omega, sH, ⟨[t0], eQ, .cons ⟨u0, eT, eU⟩ .nil⟩, ⟨eA, (fun p hp => nomatch hp), fun p hp => nomatch hp⟩, rfl, fun p hp => nomatch hp⟩, fun m σ H2 hW => ?_⟩
    obtain ⟨i, z, kvs, v5, v6, v7, v8, rfl, hu, hm, s2, hQ, hLd, hK, hn⟩ := hW
    have hsz := hu.size (u := states L) fun w' hw' => rnU_mem ho k hw'
    obtain ⟨ts, hq, hp⟩ := id hQ
    have lts := paired_len hp
    refine ⟨_, rfl, _, rfl, _, _, rfl, .inl ⟨_, .inl (.inl hq), rfl⟩, _, _, rfl, rfl, _, rfl, ite2 (fun c => ?_) (fun c => ?_)⟩
    · have c' : (i : Int) < (((ts.map V.ref).length : Nat) : Int) := of_decide_eq_true c
      rw [List.length_map, lts] at c'
      have hi : i < z.length := by omega
      have hx := List.getElem?_eq_getElem hi
      generalize z[i] = x at hx
      obtain ⟨t, ht, s, hat, hs⟩ := paired_at' hp hx
      have hxm := List.mem_of_getElem? hx
      have hxl := hu.len i i (Nat.le_refl _) x hx
      obtain ⟨m', rfl⟩ : ∃ m', m = m' + 1 := ⟨m - 1, by omega⟩
      refine ⟨fun σ' H' => ∃ (i : Nat) (z : List (List Nat × US)) (kvs : List LT3) (v5 v6 v7 v8 : Option L2.V), σ' = [some (.str (T L)), some (.ref y), some (.ref Qa), some (.ref A'), some (.int i), v5, v6, v7, v8] ∧ HuT rs k L z i 0 ∧ (states L).length + 2 ≤ i + m' ∧ Same H H' ∧ QAt H' Qa aE z ∧ LeadsT P w H' A' aE kvs ∧ Keys kvs z ∧ ∀ p ∈ kvs, p.2.2 ≠ Qa, fun σ' H' h => ⟨m', Nat.lt_succ_self _, h⟩, ?_⟩
      refine ⟨_, rfl, _, rfl, Qa, _, (i : Int), .ref t, rfl, rfl, .inl (.inl hq), atI_nat (by rw [List.getElem?_map, ht]; rfl), ?_⟩
      refine ⟨t, _, rfl, .inl (.inl hat), rfl, _, _, rfl, _, _, rfl, rfl, ?_⟩
      refine ⟨_, rfl, _, _, rfl, rfl, ?_⟩
      refine ⟨_, rfl, y, dx, _, rfl, s2 _ _ hy, rfl, _, rfl, y, R, s, rs, k, x.2, rfl, hH.same s2, ho, hs, hu.tl ho hxm, fun H3 s3 => ⟨_, rfl, ite2 (fun cf => ?_) (fun cf => ?_)⟩⟩
      · refine ⟨_, rfl, q _ H3 (s2.trans s3) (.inr ⟨x.1, rfl, (hu.ok x hxm).2, by omega, ?_, fun w' hw' hn' => ?_⟩)⟩
        · have := (hu.ok x hxm).1
          rw [this] at cf
          exact (fdK_iff ho k x.1).mp cf
        · exact hu.least hx hw' ((fdK_iff ho k w').mpr hn')
      · have cf' : fdK rs k x.2 = false := Bool.eq_false_iff.mpr cf
        refine ⟨_, rfl, T L, rfl, for_it (walk_str) (fun j σ H4 => ∃ (z : List (List Nat × US)) (kvs : List LT3) (v7 v8 : Option L2.V), σ = [some (.str (T L)), some (.ref y), some (.ref Qa), some (.ref A'), some (.int ((i : Int) + 1)), some (.str (T x.1)), some (.ref s), v7, v8] ∧ HuT rs k L z i j ∧ z[i]? = some x ∧ Same H H4 ∧ QAt H4 Qa aE z ∧ LeadsT P w H4 A' aE kvs ∧ Keys kvs z ∧ (∀ p ∈ kvs, p.2.2 ≠ Qa) ∧ StU H4 s aE x.2)
          ⟨z, kvs, _, _, rfl, hu, hx, s2.trans s3, hQ.same s3, hLd.same s3, hK, hn, hs.kt (.of s3)⟩ (fun _ _ _ _ _ => trivial) ?_ ?_⟩
        · clear hQ hLd hK hn hp hq lts hsz ht hat hs s2 s3 hi hxl hm hxm
          rintro j z0 σ H0 H4 hj ⟨z, kvs, v7, v8, rfl, hu, hx, s4, hQ, hLd, hK, hn, hs⟩ ⟨rfl, c, hc, rfl⟩
          have hc := T_at hc
          have hxm := List.mem_of_getElem? hx
          have hsz := hu.size (u := states L) fun w' hw' => rnU_mem ho k hw'
          have hxl := hu.len i i (Nat.le_refl _) x hx
          have hil := (List.getElem?_eq_some_iff.mp hx).1
          have lK : kvs.length = (z.drop 1).length := by
            have := congrArg List.length hK
            rwa [List.length_map, List.length_map] at this
          rw [List.length_drop] at lK
          refine ⟨_, rfl, y, dx, _, rfl, s4 _ _ hy, rfl, _, rfl, _, rfl, y, R, s, rs, k, x.2, c, rfl, hH.same s4, ho, hs, hu.tl ho hxm, fun u H5 s5 hu5 h5 => ?_⟩
          have hQ5 := hQ.same s5
          have hL5 := hLd.same s5
          obtain ⟨b5, h5a, h5b⟩ := id h5
          refine ⟨_, rfl, _, rfl, A', u, b5, kvs, leafU (usS rs k x.2 c), rfl, hL5, by omega, h5a, keyU h5b, fun hf H6 s6 => ?_, fun hf D H6 hD st6 hL6 => ?_⟩
          · refine ⟨false, rfl, iteF ?_⟩
            have ex : ∃ y ∈ z.drop 1, y.2 = usS rs k x.2 c := by
              refine Classical.byContradiction fun n => ?_
              have := hK.none.mpr fun y hy e => n ⟨y, hy, e⟩
              obtain ⟨p, hf⟩ := hf
              rw [hf] at this
              cases this
            have s46 := s5.trans s6
            exact ⟨z, kvs, _, _, rfl, hu.skip hL hx hc ex, hx, s4.trans s46, hQ.same s46, hLd.same s46, hK, hn, hs.kt (.of s46)⟩
          · refine ⟨true, rfl, iteT ?_⟩
            have new := hK.none.mp hf
            obtain ⟨ts5, hq5, hp5⟩ := hQ5
            have lz := paired_len hp5
            have nQA : Qa ≠ A' := ne_of hq5 hL5.1 (by unfold LT; intro e; cases e)
            have nDQ : D ≠ Qa := (ne_of_none hq5 hD).symm
            have hq6 := st6 _ _ hq5 nQA
            have keep6 : ∀ b xs, H5 b = some (.tup xs) → H6 b = some (.tup xs) := fun b xs hb => st6 _ _ hb (ne_of hb hL5.1 (by unfold LT; intro e; cases e))
            refine ⟨_, rfl, .inl ⟨rfl, _, .inl (.inl hq6)⟩, _, rfl, _, rfl, _, _, rfl, rfl, (by rw [T_len]; exact small (by show x.1.length + 1 ≤ 16000000; omega)), _, rfl, (by show 2 ≤ sizeLine; decide), fun t ht => ?_⟩
            rw [show T x.1 ++ (⟨#[c]⟩ : Str) = T (x.1 ++ [c]) from T_app _ _]
            have sT := same_new ht (.tup [.str (T (x.1 ++ [c])), .ref u])
            have hq7 := sT _ _ hq6
            have k67 := (KT.of sT).trans (kt_upd hq7 (o := .lst (ts5.map V.ref ++ [.ref t])))
            have k56 : KT H5 H6 := KT.by fun b o hb ho' => st6 _ _ hb (ne_of hb hL5.1 (by rcases ho' with ⟨_, rfl⟩ | ⟨_, _, rfl⟩ <;> (unfold LT; intro e; cases e)))
            refine ⟨Qa, _, _, rfl, rfl, hq7, ?_, z ++ [(x.1 ++ [c], usS rs k x.2 c)], kvs ++ [(leafU (usS rs k x.2 c), b5, D)], _, _, rfl, hu.push hL hx hc new, ?_, fun b o hb => ?_, ⟨ts5 ++ [t], ?_, ?_⟩, ⟨?_, hL6.2.1.kt k67, fun p hp => ?_⟩, ?_, fun p hp => ?_, ?_⟩
            · rw [List.length_map, lz]
              exact small1000 (by omega)
            · rw [List.getElem?_append_left hil]
              exact hx
            · rw [upd_ne (ne_of_none hb hQ0)]
              exact sT _ _ (st6 _ _ (s5 _ _ (s4 _ _ hb)) (ne_of_none hb hA0))
            · rw [upd_same, List.map_append]
              rfl
            · refine paired_app (paired_mono (fun t' y' g => ?_) hp5) (.cons ⟨u, ?_, ?_⟩ .nil)
              · obtain ⟨s', g1, g2⟩ := g
                have g1 := sT _ _ (keep6 _ _ g1)
                exact ⟨s', by rw [upd_ne (ne_of g1 hq7 (by intro e; cases e))]; exact g1, g2.kt (k56.trans k67)⟩
              · rw [upd_ne (ne_of_none hq6 ht).symm]
                exact upd_same
              · exact h5.kt (k56.trans k67)
            · rw [upd_ne nQA.symm]
              exact sT _ _ hL6.1
            · have g := sT _ _ (hL6.2.2 p hp)
              have n : p.2.2 ≠ Qa := by
                rcases List.mem_append.mp hp with hp | hp
                · exact hn p hp
                · rw [List.mem_singleton.mp hp]
                  exact nDQ
              rw [upd_ne n]
              exact g
            · unfold Keys at hK ⊢
              rw [List.map_append, hK, List.drop_append_of_le_length (by omega), List.map_append]
              rfl
            · rcases List.mem_append.mp hp with hp | hp
              · exact hn p hp
              · rw [List.mem_singleton.mp hp]
                exact nDQ
            · exact hs.kt ((KT.of s5).trans (k56.trans k67))
        · rintro σ H4 ⟨z, kvs, v7, v8, rfl, hu, hx, s4, hQ, hLd, hK, hn, hs⟩
          rw [T_size] at hu
          exact ⟨i + 1, z, kvs, _, _, _, _, rfl, hu.turn hx cf', by omega, s4, hQ, hLd, hK, hn⟩
    · have c' := of_decide_eq_false (Bool.eq_false_iff.mpr c)
      rw [List.length_map, lts] at c'
      refine q _ H2 s2 (.inl ⟨rfl, fun w' hw' n => ?_⟩)
      have := hu.none (by omega) hw'
      rw [(fdK_iff ho k w').mpr n] at this
      cases this
end
end Say
namespace Say
open PySem PySem.Spec PyProof.Rows L2
section
variable {P : Program} {w : World} {K : PySem.W.Frag} {mg : Str → Option Value} {base : Heap}
abbrev sCnt : Stmt := topS 41
theorem scCnt : FnScope ["number", "most"] ["number", "most"] (defScope sCnt) := ⟨rfl, rfl, rfl, by decide +kernel, rfl, by decide +kernel, by decide +kernel⟩
/-- a number within the bounds -/
def spCnt : Sp := fun vs H Q _ => ∃ (n m : Nat), vs = [.int n, .int m] ∧ n ≤ m ∧ Q (.bl true) H
theorem ok_cnt {f : Addr} {fd : FuncData} {k : Nat} (F : Fun K "is_count" "is_count" sCnt f fd) (B : Bn mg) (hi : mg "int" = none) : FnOk P w K mg base CX0 (k + 1) f fd ["number", "most"] spCnt := by
  refine F.ok scCnt (fun vs H Q E h => ?_) (fun cdv A outer s H vs Q E hr h => ?_)
  · obtain ⟨n, m, rfl, _⟩ := h
    rfl
  · obtain ⟨n, m, rfl, hnm, q⟩ := h
    refine ⟨_, pss_cons (ps_if (PW.pt (pw_or (pt_not (pt_val (pe_callB call_isi (by rfl) B.isi (by decide +kernel) (pa_cons (pv 0) (pa_cons (pe_bltn (v := .ty "int") rfl hi (by decide +kernel) rfl) pa_nil)))))
        (pw_or1 (pt_val (pe_callB call_isi (by rfl) B.isi (by decide +kernel) (pa_cons (pv 0) (pa_cons (pe_bltn (v := .ty "bool") rfl B.bool (by decide +kernel) rfl) pa_nil)))))))
        (pss_one (ps_ret pe_bl)) pss_nil)
      (pss_one (ps_ret (pe_chain op_le op_le pe_int (pv 0) (pv 1)))), ?_⟩
    refine ⟨_, rfl, _, _, .type "int", _, true, rfl, ClsV.ty _, .base (.int _), kit_ty (by decide +kernel), true, rfl, iteF ?_⟩
    refine ⟨_, rfl, _, _, .type "int", _, false, rfl, ClsV.ty _, .base (.int _), kit_ty (by decide +kernel), false, rfl, iteF ?_⟩
    refine ⟨_, rfl, _, _, rfl, rfl, true, (by show V.bl (decide ((0 : Int) ≤ (n : Int))) = _; rw [decide_eq_true (by omega : (0 : Int) ≤ (n : Int))]), iteT ?_⟩
    refine ⟨_, rfl, _, _, rfl, rfl, ?_⟩
    show Q (V.bl (decide ((n : Int) ≤ (m : Int)))) H
    rw [decide_eq_true (by omega : (n : Int) ≤ (m : Int))]
    exact q
end
end Say
namespace Say
open PySem PySem.Spec PyProof.Rows L2
theorem states_le {L : List Nat} (h4 : L.length ≤ 4) : (states L).length ≤ 900 := by
  rw [states_len]
  have := tails_le h4
  omega
section
variable {P : Program} {w : World} {K : PySem.W.Frag} {mg : Str → Option Value} {base : Heap}
abbrev sUse : Stmt := topS 77
theorem scUse : FnScope ["book", "number", "letters", "rules", "_"] ["book", "number"] (defScope sUse) := ⟨rfl, rfl, rfl, by decide +kernel, rfl, by decide +kernel, by decide +kernel⟩
def spUse : Sp := fun vs H Q _ => ∃ (b : Addr) (L : List Nat) (rs : List Rule) (es : List Exc) (k : Nat), vs = [.ref b, .int k] ∧ BookAt H b L rs es ∧ BookOk L rs es ∧ k < rs.length ∧ ∀ (v : V) (H' : Hp), Same H H' → LeastIs rs k L v → Q v H'
theorem make_u {C : Addr} {H H' : Hp} {y dx R : Addr} {rs : List Rule} {k : Nat} (hR : RulesAt H R rs) (hy : H y = none) (hdx : H dx = none) (n : dx ≠ y) (h1 : H' y = some (.ins C dx (fldU R k))) (h2 : ∀ b, b ≠ y → H' b = (upd (upd H dx (.own y)) y (.ins C dx [])) b) : Same H H' ∧ HuntU C H' y R rs k := by
  have s1 : Same H H' := fun b o hb => by
    rw [h2 b (ne_of_none hb hy), upd_ne (ne_of_none hb hy), upd_ne (ne_of_none hb hdx)]
    exact hb
  exact ⟨s1, ⟨dx, h1⟩, hR.kt (.of s1)⟩
theorem ok_Use {f C fHI : Addr} {fd dHI : FuncData} (F : Fun K "use" "use" sUse f fd) (B : Bn mg) (DCh : Df P w K mg base "checked_book" ["book"] 5 spCh) (DCn : Df P w K mg base "is_count" ["number", "most"] 1 spCnt) (DLt : Df P w K mg base "least_word" ["letters", "hunt"] 7 (spLt C))
    (mgC : mg "UseHunt" = some (.ref C)) (Mk_ : Mk K C fHI) (GHI : FnOk P w K mg base CX0 1 fHI dHI ["self", "rules", "number"] (spHI C)) (bHI : Binds K dHI ["self", "rules", "number"] []) : FnOk P w K mg base CX0 8 f fd ["book", "number"] spUse := by
  obtain ⟨fCh, fdCh, GCh, kCh, bCh, mCh⟩ := DCh
  obtain ⟨fCn, fdCn, GCn, kCn, bCn, mCn⟩ := DCn
  obtain ⟨fLt, fdLt, GLt, kLt, bLt, mLt⟩ := DLt
  refine F.ok scUse (fun vs H Q E h => ?_) (fun cdv A outer s H vs Q E hr h => ?_)
  · obtain ⟨b, L, rs, es, k, rfl, _⟩ := h
    rfl
  · obtain ⟨b, L, rs, es, k, rfl, hB, ho, hk, q⟩ := h
    have hr2 : Room 2 _ := hr.mono (by decide)
    refine ⟨_, pss_cons (ps_asg (pe_call GCh (hr.mono (by decide)) (by rfl) mCh kCh bCh .nil pass0 (pa_cons (pv 0) pa_nil)) (pg_tup (by rfl) (pgs_cons (pg_name (i := 2) scUse.nd rfl (.inl rfl)) (pgs_cons (pg_name (i := 3) scUse.nd rfl (.inl rfl)) (pgs_cons (pg_name (i := 4) scUse.nd rfl (.inl rfl)) pgs_nil)))))
      (pss_cons (ps_if (pt_not (pt_val (pe_call GCn (hr.mono (by decide)) (by rfl) mCn kCn bCn .nil pass0 (pa_cons (pv 1) (pa_cons (pe_op op_sub (pe_callB call_len (by rfl) B.len PySem.boot_len (pa_cons (pv 3) pa_nil)) pe_int) pa_nil))))) (pss_one ps_never) pss_nil)
      (pss_one (ps_ret (pe_call GLt hr (by rfl) mLt kLt bLt .nil pass0 (pa_cons (pv 2) (pa_cons (pe_make Mk_ GHI hr2 (by rfl) mgC bHI .nil pass0 (pa_cons (pv 3) (pa_cons (pv 1) pa_nil))) pa_nil)))))), ?_⟩
    refine ⟨_, rfl, b, L, rs, es, rfl, hB, ho, fun H1 s1 => ?_⟩
    obtain ⟨R, X, hb, hR, hX⟩ := hB.kt (.of s1)
    obtain ⟨rts, hRl, hRp⟩ := id hR
    have lr : (rts.map V.ref).length = rs.length := by rw [List.length_map, paired_len hRp]
    refine ⟨b, _, rfl, .inl (.inl hb), rfl, _, _, rfl, _, _, rfl, _, _, rfl, rfl, ?_⟩
    refine ⟨_, rfl, _, rfl, _, _, rfl, .inr ⟨_, .inl (.inl hRl), rfl⟩, _, _, rfl, rfl, k, rs.length - 1, (by show [V.int (k : Nat), V.int (((rts.map V.ref).length : Int) - 1)] = _; rw [lr, show ((rs.length : Nat) : Int) - 1 = ((rs.length - 1 : Nat) : Int) by omega]), by omega, true, rfl, iteF ?_⟩
    refine ⟨_, rfl, _, rfl, _, rfl, fun y dx hy hdx nyd => ?_⟩
    refine ⟨y, dx, R, k, rfl, upd_same, fun H2 h1 h2 => ⟨rfl, ?_⟩⟩
    obtain ⟨s2, hH⟩ := make_u hR hy hdx nyd h1 h2
    exact ⟨L, y, R, rs, k, rfl, hH, ho.rls, (rises_iff L).mp ho.lt.up, ho.lt.l4, states_le ho.lt.l4, fun v H3 s3 hv => q v H3 (s1.trans (s2.trans s3)) hv⟩
end
end Say
namespace Say
open PySem PySem.Spec PyProof.Rows L2
def NoUse (rs : List Rule) (L : List Nat) (k : Nat) : Prop := ∀ w : List Nat, (∀ c ∈ w, c ∈ L) → ¬ UsedBy rs k w
open Classical in
/-- the rules, below n, by which no word is said -/
noncomputable def idleL (rs : List Rule) (L : List Nat) (n : Nat) : List Nat := (List.range n).filter fun k => decide (NoUse rs L k)
theorem idle_next {rs : List Rule} {L : List Nat} {n : Nat} : idleL rs L (n + 1) = idleL rs L n ++ (@ite _ (NoUse rs L n) (Classical.propDecidable _) [n] []) := by
  unfold idleL
  rw [List.range_succ, List.filter_append]
  congr 1
  by_cases c : NoUse rs L n
  · rw [if_pos c]
    exact List.filter_cons_of_pos (by simp [c])
  · rw [if_neg c]
    exact List.filter_cons_of_neg (by simp [c])
theorem idle_len (rs : List Rule) (L : List Nat) (n : Nat) : (idleL rs L n).length ≤ n := by
  unfold idleL
  refine Nat.le_trans (List.length_filter_le _ _) ?_
  rw [List.length_range]
  exact Nat.le_refl _
theorem LeastIs.non {rs : List Rule} {k : Nat} {L : List Nat} {v : V} (h : LeastIs rs k L v) : v = .non ↔ NoUse rs L k := by
  rcases h with ⟨rfl, h⟩ | ⟨w, rfl, h1, h2, h3, h4⟩
  · exact ⟨fun _ => h, fun _ => rfl⟩
  · exact ⟨fun z => (by cases z), fun z => absurd h3 (z w h1)⟩
section
variable {P : Program} {w : World} {K : PySem.W.Frag} {mg : Str → Option Value} {base : Heap}
abbrev sIdl : Stmt := topS 79
abbrev nIdl : List Str := ["book", "letters", "rules", "_", "number"]
theorem scIdl : FnScope nIdl ["book"] (defScope sIdl) := ⟨rfl, rfl, rfl, by decide +kernel, rfl, by decide +kernel, by decide +kernel⟩
def spIdl : Sp := fun vs H Q _ => ∃ (b : Addr) (L : List Nat) (rs : List Rule) (es : List Exc), vs = [.ref b] ∧ BookAt H b L rs es ∧ BookOk L rs es ∧
  ∀ (D : Addr) (H' : Hp), Same H H' → H D = none → H' D = some (.lst ((idleL rs L rs.length).map fun k => V.int (k : Nat))) → Q (.ref D) H'
theorem ok_Idl {f C fHI : Addr} {fd dHI : FuncData} (F : Fun K "idle" "idle" sIdl f fd) (B : Bn mg) (DCh : Df P w K mg base "checked_book" ["book"] 5 spCh) (DLt : Df P w K mg base "least_word" ["letters", "hunt"] 7 (spLt C))
    (mgC : mg "UseHunt" = some (.ref C)) (Mk_ : Mk K C fHI) (GHI : FnOk P w K mg base CX0 1 fHI dHI ["self", "rules", "number"] (spHI C)) (bHI : Binds K dHI ["self", "rules", "number"] []) : FnOk P w K mg base CX0 8 f fd ["book"] spIdl := by
  obtain ⟨fCh, fdCh, GCh, kCh, bCh, mCh⟩ := DCh
  obtain ⟨fLt, fdLt, GLt, kLt, bLt, mLt⟩ := DLt
  refine F.ok scIdl (fun vs H Q E h => ?_) (fun cdv A outer s H vs Q E hr h => ?_)
  · obtain ⟨b, L, rs, es, rfl, _⟩ := h
    rfl
  · obtain ⟨b, L, rs, es, rfl, hB, ho, q⟩ := h
    have hr2 : Room 2 _ := hr.mono (by decide)
    refine ⟨_, pss_cons (ps_asg (pe_call GCh (hr.mono (by decide)) (by rfl) mCh kCh bCh .nil pass0 (pa_cons (pv 0) pa_nil)) (pg_tup (by rfl) (pgs_cons (pg_name (i := 1) scIdl.nd rfl (.inr rfl)) (pgs_cons (pg_name (i := 2) scIdl.nd rfl (.inr rfl)) (pgs_cons (pg_name (i := 3) scIdl.nd rfl (.inl rfl)) pgs_nil)))))
      (pss_one (ps_ret (pe_lc (own := [("number", 4)]) (g := gName 4) (te := tVar 4) rfl scIdl.nd (pi_range1 (by rfl) B.rng (pa_cons (pe_callB call_len (by rfl) B.len PySem.boot_len (pa_cons (pv 2) pa_nil)) pa_nil))
        (blkOk_by (N := nIdl) (sc := defScope sIdl) (by decide +kernel)) (fun _ _ _ _ _ => pg_name (i := 4) scIdl.nd rfl (.inl rfl))
        (fun _ _ _ _ _ => pts_one (pt_cmpR op_isN (pe_call GLt hr (by rfl) mLt kLt bLt .nil pass0 (pa_cons (pv 1) (pa_cons (pe_make Mk_ GHI hr2 (by rfl) mgC bHI .nil pass0 (pa_cons (pv 2) (pa_cons (pv 4) pa_nil))) pa_nil))) pe_non (nomark _))) (fun _ _ _ _ _ => pv 4)))), ?_⟩
    refine ⟨_, rfl, b, L, rs, es, rfl, hB, ho, fun H1 s1 => ?_⟩
    obtain ⟨R, X, hb, hR, hX⟩ := hB.kt (.of s1)
    obtain ⟨rts, hRl, hRp⟩ := id hR
    have lr : (rts.map V.ref).length = rs.length := by rw [List.length_map, paired_len hRp]
    have r12 := ho.r12
    refine ⟨b, _, rfl, .inl (.inl hb), rfl, _, _, rfl, _, _, rfl, _, _, rfl, rfl, ?_⟩
    refine ⟨_, rfl, _, _, rfl, .inr ⟨_, .inl (.inl hRl), rfl⟩, _, rfl, by omega, by rw [lr]; omega, fun D hD => ?_⟩
    rw [lr]
    refine lc_it (walk_range) (fun j H3 => H3 D = some (.lst ((idleL rs L j).map fun k => V.int (k : Nat))) ∧ Same H1 H3) ?_ (fun _ _ _ _ => trivial) ?_ ?_
    · exact ⟨upd_same, same_new hD _⟩
    · rintro j x H0 H3 hj ⟨e1, e2⟩ ⟨rfl, rfl⟩
      have hj : j < rs.length := by omega
      have nx := idle_next (rs := rs) (L := L) (n := j)
      refine ⟨rfl, ?_⟩
      have hR3 := hR.kt (.of e2)
      refine ⟨_, rfl, _, rfl, _, rfl, fun y dx hy hdx nyd => ?_⟩
      refine ⟨y, dx, R, j, (by show [V.ref y, V.ref R, V.int (0 + (j : Int))] = _; rw [Int.zero_add]), upd_same, fun H4 h1 h2 => ⟨rfl, ?_⟩⟩
      obtain ⟨s4, hH⟩ := make_u hR3 hy hdx nyd h1 h2
      refine ⟨L, y, R, rs, j, rfl, hH, ho.rls, (rises_iff L).mp ho.lt.up, ho.lt.l4, states_le ho.lt.l4, fun v H5 s5 hv => ?_⟩
      have s35 := s4.trans s5
      have e1' := s35 _ _ e1
      have e2' := e2.trans s35
      refine ⟨rfl, _, rfl, ite2 (fun c => ?_) (fun c => ?_)⟩
      · have c := hv.non.mp (of_decide_eq_true c)
        rw [if_pos c] at nx
        refine ⟨_, rfl, _, e1', ?_, ?_, ?_⟩
        · rw [List.length_map]
          have := idle_len rs L j
          exact small1000 (by omega)
        · rw [upd_same, nx, List.map_append]
          show some (HO.lst (_ ++ [V.int (0 + (j : Int))])) = _
          rw [Int.zero_add]
          rfl
        · exact fun b' u q' => by
            rw [upd_ne (ne_of_none q' hD)]
            exact e2' b' u q'
      · have c : ¬ NoUse rs L j := fun z => c (decide_eq_true (hv.non.mpr z))
        rw [if_neg c, List.append_nil] at nx
        exact ⟨by rw [nx]; exact e1', e2'⟩
    · rintro H3 ⟨e1, e2⟩
      rw [Int.toNat_natCast] at e1
      exact q D H3 (s1.trans e2) (s1.free hD) e1
end
end Say
namespace Say
end Say
namespace Say
open PySem PySem.Spec PyProof.Rows L2
theorem tkB_ks {rs : List Rule} {t : List Nat} {c : Nat} : (∀ k ∈ (tkM rs (some t) c).2, k < rs.length) ∧ (tkM rs (some t) c).2.length ≤ 1 := by
  unfold tkM
  simp only
  by_cases c1 : (t ++ [c]).length < 4
  · rw [if_pos c1]
    exact ⟨fun k h => (nomatch h), Nat.zero_le _⟩
  · rw [if_neg c1]
    cases e : ff rs (t ++ [c]) 1 with
    | none => exact ⟨fun k h => (nomatch h), Nat.zero_le _⟩
    | some k => exact ⟨fun j h => (by rw [List.mem_singleton.mp h]; exact ff_lt e), Nat.le_refl _⟩
theorem tkB_len {rs : List Rule} (ho : ∀ ρ ∈ rs, RlOk ρ) {t t' : List Nat} {c : Nat} (h1 : 1 ≤ t.length) (h3 : t.length ≤ 3) (e : (tkM rs (some t) c).1 = some t') : 1 ≤ t'.length ∧ t'.length ≤ 3 := by
  unfold tkM at e
  simp only at e
  by_cases c1 : (t ++ [c]).length < 4
  · rw [if_pos c1] at e
    cases e
    simp only [List.length_append, List.length_singleton] at c1 ⊢
    omega
  · rw [if_neg c1] at e
    cases ef : ff rs (t ++ [c]) 1 with
    | none => rw [ef] at e; cases e
    | some k =>
      rw [ef] at e
      cases e
      have hk := ff_lt ef
      have er : ruleAt rs k = rs[k] := ruleAt_eq (List.getElem?_eq_getElem hk)
      have o2 := (ho _ (List.getElem_mem hk)).o2
      have o1 := (ho _ (List.getElem_mem hk)).o1
      simp only [List.length_append, List.length_singleton] at c1
      rw [List.length_drop, er, List.length_append, List.length_singleton]
      omega
/-- a beginning in its bounds -/
structure BgOk (so : List Nat) (x : Bg) : Prop where
  t1 : 1 ≤ x.2.1.length
  t3 : x.2.1.length ≤ 3
  s : x.2.2.length ≤ so.length
  w : x.1.length ≤ 7
theorem root_ok (so : List Nat) : BgOk so root := ⟨Nat.le_refl _, by decide, Nat.zero_le _, Nat.zero_le _⟩
theorem lng_ok {rs : List Rule} (ho : ∀ ρ ∈ rs, RlOk ρ) {so : List Nat} {x y : Bg} {c : Nat} (h : lng rs so x c = some y) (hx : BgOk so x) (h7 : x.1.length < 7) : BgOk so y := by
  unfold lng at h
  cases e : (tkM rs (some x.2.1) c).1 with
  | none => rw [e] at h; cases h
  | some t' =>
    rw [e] at h
    simp only at h
    split at h
    · rename_i p
      cases h
      obtain ⟨a, b⟩ := tkB_len ho hx.t1 hx.t3 e
      rw [List.isPrefixOf_iff_prefix] at p
      exact ⟨a, b, p.length_le, by show (x.1 ++ [c]).length ≤ 7; simp; omega⟩
    · cases h
theorem kids_ok {rs : List Rule} (ho : ∀ ρ ∈ rs, RlOk ρ) {so L : List Nat} {long : Nat} (hl : long ≤ 7) {x y : Bg} (hx : BgOk so x) (h : y ∈ kids rs so L long x) : BgOk so y := by
  unfold kids at h
  by_cases c : x.1.length < long
  · rw [if_pos c] at h
    obtain ⟨d, _, hd⟩ := List.mem_filterMap.mp h
    exact lng_ok ho hd hx (by omega)
  · rw [if_neg c] at h
    cases h
theorem kl_ok {rs : List Rule} (ho : ∀ ρ ∈ rs, RlOk ρ) {so L : List Nat} {long : Nat} (hl : long ≤ 7) : ∀ (n : Nat) {x : Bg}, x ∈ kl rs so L long n → BgOk so x
  | 0, x, h => by
    have h : x ∈ [root] := h
    rw [List.mem_singleton.mp h]; exact root_ok so
  | n + 1, x, h => by
    have h : x ∈ (kl rs so L long n).flatMap (kids rs so L long) := h
    obtain ⟨y, hy, hx⟩ := List.mem_flatMap.mp h
    exact kids_ok ho hl (kl_ok ho hl n hy) hx
theorem all_bg {rs : List Rule} (ho : ∀ ρ ∈ rs, RlOk ρ) {so L : List Nat} {long : Nat} (hl : long ≤ 7) {x : Bg} (h : x ∈ allB rs so L long) : BgOk so x := by
  unfold allB at h
  obtain ⟨n, _, hx⟩ := List.mem_flatMap.mp h
  exact kl_ok ho hl n hx
theorem kids_le {rs : List Rule} {so L : List Nat} {long : Nat} (x : Bg) : (kids rs so L long x).length ≤ L.length := by
  unfold kids
  by_cases c : x.1.length < long
  · rw [if_pos c]; exact List.length_filterMap_le _ _
  · rw [if_neg c]; exact Nat.zero_le _
theorem kl_le {rs : List Rule} {so L : List Nat} {long : Nat} (h4 : L.length ≤ 4) : ∀ n, (kl rs so L long n).length ≤ 4 ^ n
  | 0 => Nat.le_refl _
  | n + 1 => by
    have ih := kl_le (rs := rs) (so := so) (long := long) h4 n
    have := flat_le (f := kids rs so L long) (k := 4) (l := kl rs so L long n) fun a _ => Nat.le_trans (kids_le a) h4
    show ((kl rs so L long n).flatMap (kids rs so L long)).length ≤ 4 ^ n * 4
    exact Nat.le_trans this (Nat.mul_le_mul_right 4 ih)
theorem all_le {rs : List Rule} {so L : List Nat} {long : Nat} (h4 : L.length ≤ 4) (hl : long ≤ 7) : (allB rs so L long).length ≤ 131072 := by
  have := flat_le (f := kl rs so L long) (k := 16384) (l := List.range (long + 1)) fun n hn => by
    have := List.mem_range.mp hn
    have h1 := kl_le (rs := rs) (so := so) (long := long) h4 n
    have h2 : 4 ^ n ≤ 4 ^ 7 := Nat.pow_le_pow_right (by decide) (by omega)
    exact Nat.le_trans h1 (Nat.le_trans h2 (by decide))
  rw [List.length_range] at this
  unfold allB
  have h3 : (long + 1) * 16384 ≤ 8 * 16384 := Nat.mul_le_mul_right _ (by omega)
  omega
theorem sw_T (a b : List Nat) : Txt.startswith (T a) (T b) = b.isPrefixOf a := by
  unfold Txt.startswith
  rw [PySem.StrLaws.subAt_eq, T_len, T_len, Bool.eq_iff_iff, Bool.and_eq_true, decide_eq_true_eq, List.isPrefixOf_iff_prefix, List.prefix_iff_eq_take]
  show 0 + b.length ≤ a.length ∧ ((a.drop 0).take b.length == b) = true ↔ _
  rw [beq_iff_eq, List.drop_zero]
  constructor
  · exact fun h => h.2.symm
  · intro h
    refine ⟨?_, h.symm⟩
    have := congrArg List.length h
    rw [List.length_take] at this
    omega
def bgV (x : Bg) : List V := [.str (T x.1), .str (T x.2.1), .str (T x.2.2)]
def BgsAt (H : Hp) (D : Addr) (xs : List Bg) : Prop := ∃ ts : List Addr, H D = some (.lst (ts.map V.ref)) ∧ Paired (fun t (x : Bg) => H t = some (.tup (bgV x))) ts xs
section
variable {P : Program} {w : World} {K : PySem.W.Frag} {mg : Str → Option Value} {base : Heap}
abbrev sCSo : Stmt := topS 33
theorem scCSo : FnScope ["sounds"] ["sounds"] (defScope sCSo) := ⟨rfl, rfl, rfl, by decide +kernel, rfl, by decide +kernel, by decide +kernel⟩
def spCSo : Sp := fun vs H Q _ => ∃ z : List Nat, vs = [.str (T z)] ∧ (∀ c ∈ z, 65 ≤ c ∧ c ≤ 90) ∧ z.length ≤ 36 ∧ ∀ (H' : Hp), Same H H' → Q .non H'
theorem ok_cSo {f : Addr} {fd : FuncData} (F : Fun K "check_sounds" "check_sounds" sCSo f fd) (DI : Df P w K mg base "is_sounds" ["sounds"] 2 spIsSo) : FnOk P w K mg base CX0 3 f fd ["sounds"] spCSo := by
  obtain ⟨fI, fdI, GI, kI, bI, mI⟩ := DI
  refine F.ok scCSo (fun vs H Q E h => ?_) (fun cdv A outer s H vs Q E hr h => ?_)
  · obtain ⟨z, rfl, _⟩ := h
    rfl
  · obtain ⟨z, rfl, h1, h2, q⟩ := h
    refine ⟨_, pss_one (ps_if (pt_not (pt_val (pe_call GI hr (by rfl) mI kI bI .nil pass0 (pa_cons (pv 0) pa_nil)))) (pss_one ps_never) pss_nil), ?_⟩
    refine ⟨_, rfl, z, rfl, by omega, fun H1 s1 => ?_⟩
    rw [isText_of (Nat.zero_le _) h2 fun c hc => mem_caps (h1 c hc)]
    exact ⟨true, rfl, iteF (q H1 s1)⟩
end
end Say
namespace Say
open PySem PySem.Spec PyProof.Rows L2
section
variable {P : Program} {w : World} {K : PySem.W.Frag} {mg : Str → Option Value} {base : Heap}
abbrev sLB : Stmt := topS 64
abbrev nLB : List Str := ["letters", "rules", "beginning", "sounds", "word", "tail", "sure", "longer", "letter", "longer_tail", "numbers", "told"]
theorem scLB : FnScope nLB ["letters", "rules", "beginning", "sounds"] (defScope sLB) := ⟨rfl, rfl, rfl, by decide +kernel, rfl, by decide +kernel, by decide +kernel⟩
def spLB : Sp := fun vs H Q _ => ∃ (L : List Nat) (R b : Addr) (rs : List Rule) (x : Bg) (so : List Nat), vs = [.str (T L), .ref R, .ref b, .str (T so)] ∧ RulesAt H R rs ∧ (∀ ρ ∈ rs, RlOk ρ) ∧ L.length ≤ 4 ∧ H b = some (.tup (bgV x)) ∧ BgOk so x ∧ x.1.length < 7 ∧ so.length ≤ 36 ∧
  ∀ (D : Addr) (H' : Hp), Same H H' → H D = none → BgsAt H' D (L.filterMap (lng rs so x)) → Q (.ref D) H'
theorem lng_next {rs : List Rule} {so L : List Nat} {x : Bg} {i : Nat} {c : Nat} (h : L[i]? = some c) : (L.take (i + 1)).filterMap (lng rs so x) = (L.take i).filterMap (lng rs so x) ++ (lng rs so x c).toList := by
  rw [List.take_add_one, h, List.filterMap_append]
  congr 1
theorem ok_LB {f : Addr} {fd : FuncData} (F : Fun K "longer_beginnings" "longer_beginnings" sLB f fd) (DTk : Df P w K mg base "taken" ["rules", "tail", "letter"] 3 spTk) (DSo : Df P w K mg base "sounds_of" ["rules", "numbers"] 1 spSou) :
    FnOk P w K mg base CX0 4 f fd ["letters", "rules", "beginning", "sounds"] spLB := by
  obtain ⟨fTk, fdTk, GTk, kTk, bTk, mTk⟩ := DTk
  obtain ⟨fSo, fdSo, GSo, kSo, bSo, mSo⟩ := DSo
  refine F.ok scLB (fun vs H Q E h => ?_) (fun cdv A outer s H vs Q E hr h => ?_)
  · obtain ⟨L, R, b, rs, x, so, rfl, _⟩ := h
    rfl
  · obtain ⟨L, R, b, rs, x, so, rfl, hR, ho, h4, hb, hx, h7, h36, q⟩ := h
    have hr3 := hr
    have hr1 : Room 1 _ := hr.mono (by decide)
    refine ⟨_, pss_cons (ps_asg (pv 2) (pg_tup (by rfl) (pgs_cons (pg_name (i := 4) scLB.nd rfl (.inl rfl)) (pgs_cons (pg_name (i := 5) scLB.nd rfl (.inl rfl)) (pgs_cons (pg_name (i := 6) scLB.nd rfl (.inl rfl)) pgs_nil)))))
      (pss_cons (ps_set (i := 7) scLB.nd rfl (.inl rfl) (pe_lst pa_nil))
      (pss_cons (ps_for PassesOwn.never rfl (pi_str (pv 0)) (pg_name (i := 8) scLB.nd rfl (.inl rfl)) (pss_cons (ps_asg (pe_call GTk hr3 (by rfl) mTk kTk bTk .nil pass0 (pa_cons (pv 1) (pa_cons (pv 5) (pa_cons (pv 8) pa_nil)))) (pg_tup (by rfl) (pgs_cons (pg_name (i := 9) scLB.nd rfl (.inl rfl)) (pgs_cons (pg_name (i := 10) scLB.nd rfl (.inl rfl)) pgs_nil))))
        (pss_cons (ps_set (i := 11) scLB.nd rfl (.inl rfl) (pe_op op_add_str (pv 6) (pe_call GSo hr1 (by rfl) mSo kSo bSo .nil pass0 (pa_cons (pv 1) (pa_cons (pv 10) pa_nil)))))
        (pss_one (ps_if (PW.pt (pw_and (pt_cmpR op_notN (pv 9) pe_non (nomark _)) (pw_and1 (pt_val (pe_m1 PySem.F.slot_str_startswith PySem.F.type_str_startswith mt_startswith (pv 3) (pv 11)))))) (pss_one (ps_expr (pe_bm PySem.F.plainAttrs_list PySem.F.slot_list_append PySem.F.type_list_append mt_append (pv 7) (pa_cons (pe_tup (pa_cons (pe_op op_add_str (pv 4) (pv 8)) (pa_cons (pv 9) (pa_cons (pv 11) pa_nil)))) pa_nil)))) pss_nil)))))
      (pss_one (ps_ret (pv 7))))), ?_⟩
    refine ⟨_, rfl, b, _, rfl, .inl (.inl hb), rfl, _, _, rfl, _, _, rfl, _, _, rfl, rfl, ?_⟩
    refine ⟨by decide, fun D hD => ?_⟩
    refine ⟨_, rfl, T L, rfl, for_it (walk_str) (fun i σ H4 => ∃ (v8 v9 v10 v11 : Option V), σ = [some (.str (T L)), some (.ref R), some (.ref b), some (.str (T so)), some (.str (T x.1)), some (.str (T x.2.1)), some (.str (T x.2.2)), some (.ref D), v8, v9, v10, v11] ∧ Same H H4 ∧ BgsAt H4 D ((L.take i).filterMap (lng rs so x)))
      ⟨_, _, _, _, rfl, same_new hD _, [], upd_same, .nil⟩ (fun _ _ _ _ _ => trivial) ?_ ?_⟩
    · rintro i y σ H0 H4 hi ⟨v8, v9, v10, v11, rfl, s4, ts, e1, e2⟩ ⟨rfl, c, hc, rfl⟩
      have hc := T_at hc
      refine ⟨_, rfl, _, rfl, _, rfl, R, rs, some x.2.1, c, rfl, hR.kt (.of s4), ho, (fun t e => by cases e; exact ⟨hx.t1, hx.t3⟩), fun u Dn H5 s5 hDn hu hDl => ?_⟩
      refine ⟨u, _, rfl, .inl (.inl hu), rfl, _, _, rfl, _, _, rfl, rfl, ?_⟩
      obtain ⟨hk, hl⟩ := tkB_ks (rs := rs) (t := x.2.1) (c := c)
      refine ⟨_, rfl, _, rfl, _, rfl, R, Dn, rs, _, rfl, hR.kt (.of (s4.trans s5)), ho, hDl, hk, by omega, fun H6 s6 => ?_⟩
      have hls := flat_len ho _ hk
      have hxs := hx.s
      have hxw := hx.w
      have hxt := hx.t3
      refine ⟨_, _, rfl, rfl, (by rw [T_len, T_len]; exact small (by omega)), ?_⟩
      rw [T_app]
      have s46 : Same H4 H6 := s5.trans s6
      have fin : ∀ zs : List Bg, zs = (L.take (i + 1)).filterMap (lng rs so x) → BgsAt H6 D zs → BgsAt H6 D ((L.take (i + 1)).filterMap (lng rs so x)) := fun zs e h => e ▸ h
      have en := lng_next (rs := rs) (so := so) (x := x) hc
      have eD := s46 _ _ e1
      have eP := paired_mono (fun t y h => s46 _ _ h) e2
      have lts := paired_len e2
      have lle : ((L.take i).filterMap (lng rs so x)).length ≤ 4 := Nat.le_trans (List.length_filterMap_le _ _) (by rw [List.length_take]; omega)
      cases ek : (tkM rs (some x.2.1) c).1 with
      | none =>
        have el : lng rs so x c = none := by unfold lng; rw [ek]
        rw [el] at en
        refine ⟨_, rfl, rfl, _, rfl, iteF (iteF ?_)⟩
        exact ⟨_, _, _, _, rfl, s4.trans s46, by rw [en]; exact ⟨ts, eD, by simpa using eP⟩⟩
      | some t' =>
        refine ⟨_, rfl, rfl, _, rfl, iteT ?_⟩
        refine ⟨_, rfl, ⟨_, rfl⟩, _, rfl, _, _, rfl, rfl, ?_⟩
        rw [sw_T]
        refine ⟨_, rfl, ite2 (fun cp => ?_) (fun cp => ?_)⟩
        · have el : lng rs so x c = some (x.1 ++ [c], t', x.2.2 ++ soL rs (tkM rs (some x.2.1) c).2) := by unfold lng; rw [ek]; simp only; rw [if_pos cp]
          rw [el] at en
          refine ⟨_, rfl, .inl ⟨rfl, _, .inl (.inl eD)⟩, _, rfl, _, rfl, _, _, rfl, rfl, (by rw [T_len]; exact small (by show x.1.length + 1 ≤ 16000000; omega)), _, rfl, _, rfl, (by show 3 ≤ sizeLine; decide), fun t ht => ?_⟩
          rw [T_app]
          have st := same_new ht (.tup [.str (T (x.1 ++ [c])), optT (some t'), .str (T (x.2.2 ++ soL rs (tkM rs (some x.2.1) c).2))])
          have eD' := st _ _ eD
          refine ⟨D, _, _, rfl, rfl, eD', ?_, _, _, _, _, rfl, ?_, ts ++ [t], ?_, ?_⟩
          · rw [List.length_map, lts]
            exact small1000 (by omega)
          · exact fun b u q => by
              rw [upd_ne (ne_of_none q hD)]
              exact st _ _ (s46 _ _ (s4 _ _ q))
          · rw [upd_same, List.map_append]
            rfl
          · rw [en]
            refine paired_app (paired_mono (fun t' y h => ?_) eP) (.cons ?_ .nil)
            · rw [upd_ne (ne_of h eD (by intro z; cases z))]
              exact st _ _ h
            · rw [upd_ne (ne_of_none eD ht).symm, upd_same]
              rfl
        · have el : lng rs so x c = none := by unfold lng; rw [ek]; simp only; rw [if_neg cp]
          rw [el] at en
          exact ⟨_, _, _, _, rfl, s4.trans s46, by rw [en]; exact ⟨ts, eD, by simpa using eP⟩⟩
    · rintro σ H4 ⟨v8, v9, v10, v11, rfl, s4, hB⟩
      refine ⟨_, rfl, q D H4 s4 hD ?_⟩
      have : L.take ((T L).cps.size) = L := by rw [T_size]; exact List.take_length
      rw [this] at hB
      exact hB
end
end Say
namespace Say
open PySem PySem.Spec PyProof.Rows L2
section
variable {P : Program} {w : World} {K : PySem.W.Frag} {mg : Str → Option Value} {base : Heap}
abbrev sRW : Stmt := topS 63
abbrev nRW : List Str := ["letters", "rules", "sounds", "long", "queue", "found", "at", "beginning", "word", "tail", "sure", "rest"]
theorem scRW : FnScope nRW ["letters", "rules", "sounds", "long"] (defScope sRW) := ⟨rfl, rfl, rfl, by decide +kernel, rfl, by decide +kernel, by decide +kernel⟩
def spRW : Sp := fun vs H Q _ => ∃ (L : List Nat) (R : Addr) (rs : List Rule) (so : List Nat) (long : Nat), vs = [.str (T L), .ref R, .str (T so), .int long] ∧ RulesAt H R rs ∧ (∀ ρ ∈ rs, RlOk ρ) ∧ L.length ≤ 4 ∧ so.length ≤ 36 ∧ long ≤ 7 ∧
  ∀ (D : Addr) (H' : Hp), Same H H' → H D = none → H' D = some (.lst (wv (ruledW rs so L long))) → Q (.ref D) H'
def fnd (rs : List Rule) (so L : List Nat) (long i : Nat) : List (List Nat) := (((allB rs so L long).take i).filter (okB rs so)).map (·.1)
theorem fnd_next {rs : List Rule} {so L : List Nat} {long i : Nat} {x : Bg} (h : (allB rs so L long)[i]? = some x) : fnd rs so L long (i + 1) = fnd rs so L long i ++ (if okB rs so x = true then [x.1] else []) := by
  unfold fnd
  rw [List.take_add_one, h, List.filter_append, List.map_append]
  congr 1
  show List.map (·.1) (List.filter (okB rs so) [x]) = _
  by_cases c : okB rs so x = true
  · rw [if_pos c, List.filter_cons_of_pos c]; rfl
  · rw [if_neg c, List.filter_cons_of_neg c]; rfl
theorem ok_RW {f : Addr} {fd : FuncData} (F : Fun K "ruled_writings" "ruled_writings" sRW f fd) (B : Bn mg) (C : Cn mg) (DEn : Df P w K mg base "ending_sounds" ["rules", "tail"] 5 spEnS) (DLb : Df P w K mg base "longer_beginnings" ["letters", "rules", "beginning", "sounds"] 4 spLB) :
    FnOk P w K mg base CX0 6 f fd ["letters", "rules", "sounds", "long"] spRW := by
  obtain ⟨fEn, fdEn, GEn, kEn, bEn, mEn⟩ := DEn
  obtain ⟨fLb, fdLb, GLb, kLb, bLb, mLb⟩ := DLb
  obtain ⟨tE, mG⟩ := C.edge
  refine F.ok scRW (fun vs H Q E h => ?_) (fun cdv A outer s H vs Q E hr h => ?_)
  · obtain ⟨L, R, rs, so, long, rfl, _⟩ := h
    rfl
  · obtain ⟨L, R, rs, so, long, rfl, hR, ho, h4, h36, h7, q⟩ := h
    have hr5 := hr
    have hr4 : Room 4 _ := hr.mono (by decide)
    refine ⟨_, pss_cons (ps_set (i := 4) scRW.nd rfl (.inl rfl) (pe_lst (pa_cons (pe_tup (pa_cons pe_str (pa_cons (pe_glob (v := .str "#") rfl mG ⟨_, rfl⟩) (pa_cons pe_str pa_nil)))) pa_nil)))
      (pss_cons (ps_set (i := 5) scRW.nd rfl (.inl rfl) (pe_lst pa_nil))
      (pss_cons (ps_set (i := 6) scRW.nd rfl (.inl rfl) pe_int)
      (pss_cons (ps_while PassesOwn.never (pt_cmpR op_lt (pv 6) (pe_callB call_len (by rfl) B.len PySem.boot_len (pa_cons (pv 4) pa_nil)) (nomark _)) (pss_cons (ps_set (i := 7) scRW.nd rfl (.inl rfl) (pe_ix ix_list (pv 4) (pv 6) (fun _ _ => rfl)))
        (pss_cons (ps_aug (i := 6) scRW.nd rfl (.inl rfl) pe_int ip_add)
        (pss_cons (ps_asg (pv 7) (pg_tup (by rfl) (pgs_cons (pg_name (i := 8) scRW.nd rfl (.inl rfl)) (pgs_cons (pg_name (i := 9) scRW.nd rfl (.inl rfl)) (pgs_cons (pg_name (i := 10) scRW.nd rfl (.inl rfl)) pgs_nil)))))
        (pss_cons (ps_set (i := 11) scRW.nd rfl (.inl rfl) (pe_call GEn hr5 (by rfl) mEn kEn bEn .nil pass0 (pa_cons (pv 1) (pa_cons (pv 9) pa_nil))))
        (pss_cons (ps_if (PW.pt (pw_and (pt_cmpR op_notN (pv 11) pe_non (nomark _)) (pw_and1 (pt_cmpR op_eq (pe_op op_add_str (pv 10) (pv 11)) (pv 2) (nomark _))))) (pss_one (ps_expr (pe_bm PySem.F.plainAttrs_list PySem.F.slot_list_append PySem.F.type_list_append mt_append (pv 5) (pa_cons (pv 8) pa_nil)))) pss_nil)
        (pss_one (ps_if (pt_cmpR op_lt (pe_callB call_len_str (by rfl) B.len PySem.boot_len (pa_cons (pv 8) pa_nil)) (pv 3) (nomark _)) (pss_one (ps_expr (pe_bm PySem.F.plainAttrs_list PySem.F.slot_list_extend PySem.F.type_list_extend mt_extend (pv 4) (pa_cons (pe_call GLb hr4 (by rfl) mLb kLb bLb .nil pass0 (pa_cons (pv 0) (pa_cons (pv 1) (pa_cons (pv 7) (pa_cons (pv 2) pa_nil))))) pa_nil)))) pss_nil))))))))
      (pss_one (ps_ret (pv 5)))))), ?_⟩
    have nl : ∀ i, (que rs so L long i).length ≤ 131072 := fun i => by
      have e := que_pre (rs := rs) (so := so) (L := L) (long := long) i
      have := congrArg List.length e
      rw [List.length_append] at this
      have := all_le (rs := rs) (so := so) (L := L) (long := long) h4 h7
      omega
    have fl : ∀ i, (fnd rs so L long i).length ≤ 131072 := fun i => by
      unfold fnd
      rw [List.length_map]
      have := all_le (rs := rs) (so := so) (L := L) (long := long) h4 h7
      have h1 : (((allB rs so L long).take i).filter (okB rs so)).length ≤ ((allB rs so L long).take i).length := List.length_filter_le _ _
      rw [List.length_take] at h1
      omega
    refine ⟨(by show 3 ≤ sizeLine; decide), fun b0 hb0 => ⟨(by show 1 ≤ sizeLine; decide), fun Q0 hQ0' => ⟨(by show 0 ≤ sizeLine; decide), fun F0 hF0' => ?_⟩⟩⟩
    have sa := same_new hb0 (.tup (bgV root))
    have sb := same_new hQ0' (.lst [V.ref b0])
    have sc := same_new hF0' (.lst [])
    have hQ0 : H Q0 = none := sa.free hQ0'
    have hF0 : H F0 = none := (sa.trans sb).free hF0'
    have hq1 := sc _ _ (upd_same (H := upd H b0 (.tup (bgV root))) (a := Q0) (o := .lst [V.ref b0]))
    have nQF : Q0 ≠ F0 := ne_of_none (upd_same (H := upd H b0 (.tup (bgV root))) (a := Q0) (o := .lst [V.ref b0])) hF0'
    refine ⟨fun m σ H2 => ∃ (i : Nat) (v7 v8 v9 v10 v11 : Option V), σ = [some (.str (T L)), some (.ref R), some (.str (T so)), some (.int long), some (.ref Q0), some (.ref F0), some (.int i), v7, v8, v9, v10, v11] ∧ (allB rs so L long).length < i + m ∧ Same H H2 ∧ BgsAt H2 Q0 (que rs so L long i) ∧ H2 F0 = some (.lst (wv (fnd rs so L long i))), ⟨(allB rs so L long).length + 1, 0, _, _, _, _, _, rfl, by omega, (sa.trans sb).trans sc, ⟨[b0], hq1, ?_⟩, upd_same⟩, fun m σ H2 hW => ?_⟩
    · exact .cons (sc _ _ (sb _ _ upd_same)) .nil
    obtain ⟨i, v7, v8, v9, v10, v11, rfl, hm, s2, ⟨ts, hq, hp⟩, hf⟩ := hW
    have lts := paired_len hp
    refine ⟨_, rfl, _, rfl, _, _, rfl, .inl ⟨_, .inl (.inl hq), rfl⟩, _, _, rfl, rfl, _, rfl, ite2 (fun c => ?_) (fun c => ?_)⟩
    · have c' : (i : Int) < (((ts.map V.ref).length : Nat) : Int) := of_decide_eq_true c
      rw [List.length_map, lts] at c'
      have hi : i < (que rs so L long i).length := by omega
      obtain ⟨x, hx1, hx2⟩ := que_at hi
      obtain ⟨a, ha, hat⟩ := paired_at' hp hx2
      have hia : i < (allB rs so L long).length := (List.getElem?_eq_some_iff.mp hx1).1
      have hx := all_bg ho h7 (List.mem_of_getElem? hx1)
      have nx := que_next hx1
      have fx := fnd_next hx1
      have xw := hx.w
      have xs := hx.s
      have xt := hx.t3
      obtain ⟨m', rfl⟩ : ∃ m', m = m' + 1 := ⟨m - 1, by omega⟩
      refine ⟨fun σ' H' => ∃ (i : Nat) (v7 v8 v9 v10 v11 : Option V), σ' = [some (.str (T L)), some (.ref R), some (.str (T so)), some (.int long), some (.ref Q0), some (.ref F0), some (.int i), v7, v8, v9, v10, v11] ∧ (allB rs so L long).length < i + m' ∧ Same H H' ∧ BgsAt H' Q0 (que rs so L long i) ∧ H' F0 = some (.lst (wv (fnd rs so L long i))), fun σ' H' h => ⟨m', Nat.lt_succ_self _, h⟩, ?_⟩
      refine ⟨_, rfl, _, rfl, Q0, _, (i : Int), .ref a, rfl, rfl, .inl (.inl hq), atI_nat (by rw [List.getElem?_map, ha]; rfl), ?_⟩
      refine ⟨_, rfl, _, _, rfl, rfl, ?_⟩
      refine ⟨_, rfl, a, _, rfl, .inl (.inl hat), rfl, _, _, rfl, _, _, rfl, _, _, rfl, rfl, ?_⟩
      refine ⟨_, rfl, _, rfl, R, rs, some x.2.1, rfl, hR.kt (.of s2), ho, (fun t e => by cases e; exact ⟨hx.t1, by omega⟩), fun H3 s3 => ?_⟩
      have a3 := s3 _ _ hat
      have q3 := s3 _ _ hq
      have f3 := s3 _ _ hf
      have p3 := paired_mono (fun t y h => s3 _ _ h) hp
      have s23 := s2.trans s3
      cases er : ensM rs (some x.2.1) with
      | none =>
        have ok0 : okB rs so x = false := by unfold okB; rw [er]
        rw [ok0, if_neg (by decide), List.append_nil] at fx
        rw [← fx] at f3
        obtain ⟨H5, s5, b5, f5, a5, e5⟩ : ∃ H5, Same H H5 ∧ BgsAt H5 Q0 (que rs so L long i) ∧ H5 F0 = some (.lst (wv (fnd rs so L long (i + 1)))) ∧ H5 a = some (.tup (bgV x)) ∧ H5 = H3 := ⟨H3, s23, ⟨ts, q3, p3⟩, f3, a3, rfl⟩
        subst e5
        refine ⟨_, rfl, rfl, _, rfl, iteF (iteF ?_)⟩
        refine ⟨_, rfl, _, rfl, (by rw [T_len]; exact small (by omega)), _, rfl, _, _, rfl, rfl, _, rfl, ite2 (fun cl => ?_) (fun cl => ?_)⟩
        · have cl' : ((T x.1).length : Int) < (long : Int) := of_decide_eq_true cl
          rw [T_len] at cl'
          have ek : kids rs so L long x = L.filterMap (lng rs so x) := by unfold kids; rw [if_pos (by omega)]
          rw [ek] at nx
          obtain ⟨ts5, q51, q52⟩ := b5
          refine ⟨_, rfl, .inl ⟨rfl, _, .inl (.inl q51)⟩, _, rfl, _, rfl, _, rfl, _, rfl, L, R, a, rs, x, so, rfl, hR.kt (.of s5), ho, h4, a5, hx, by omega, h36, fun D6 H6 s6 hD6 hB6 => ?_⟩
          obtain ⟨ts6, q61, q62⟩ := hB6
          have l5 := paired_len q52
          have l6 := paired_len q62
          have hle := nl (i + 1)
          rw [nx, List.length_append] at hle
          have e6 := s6 _ _ q51
          refine ⟨Q0, D6, _, _, rfl, rfl, e6, q61, by rw [List.length_map, List.length_map, l5, l6]; exact Nat.le_trans hle (by decide), ?_⟩
          refine ⟨i + 1, _, _, _, _, _, rfl, by omega, fun b u q => ?_, ⟨ts5 ++ ts6, ?_, ?_⟩, ?_⟩
          · rw [upd_ne (ne_of_none q hQ0)]
            exact s6 _ _ (s5 _ _ q)
          · rw [upd_same, List.map_append]
          · rw [nx]
            refine paired_app (paired_mono (fun t y h => ?_) q52) (paired_mono (fun t y h => ?_) q62)
            · rw [upd_ne (ne_of (s6 _ _ h) e6 (by intro z; cases z))]
              exact s6 _ _ h
            · rw [upd_ne (ne_of h e6 (by intro z; cases z))]
              exact h
          · rw [upd_ne nQF.symm]
            exact s6 _ _ f5
        · have cl' := of_decide_eq_false (Bool.eq_false_iff.mpr cl)
          rw [T_len] at cl'
          have ek : kids rs so L long x = [] := by unfold kids; rw [if_neg (by omega)]
          rw [ek, List.append_nil] at nx
          exact ⟨i + 1, _, _, _, _, _, rfl, by omega, s5, by rw [nx]; exact b5, f5⟩
      | some r =>
        have hlr : r.length ≤ 243 := by
          unfold ensM at er
          obtain ⟨ks, e1, e2⟩ := Option.map_eq_some_iff.mp er
          obtain ⟨k1, k2⟩ := end_ks e1 (fun t e => by cases e; exact ⟨hx.t1, by omega⟩)
          have := flat_len ho ks k1
          rw [← e2]
          omega
        refine ⟨_, rfl, rfl, _, rfl, iteT ?_⟩
        refine ⟨_, rfl, _, rfl, _, _, rfl, rfl, (by rw [T_len, T_len]; exact small (by omega)), _, rfl, rfl, ?_⟩
        rw [T_app, eqT]
        refine ⟨_, rfl, ite2 (fun ce => ?_) (fun ce => ?_)⟩
        · have ok1 : okB rs so x = true := by unfold okB; rw [er]; exact ce
          rw [if_pos ok1] at fx
          have eF : wv (fnd rs so L long i) ++ [V.str (T x.1)] = wv (fnd rs so L long (i + 1)) := by rw [fx]; unfold wv; rw [List.map_append]; rfl
          refine ⟨_, rfl, .inl ⟨rfl, _, .inl (.inl f3)⟩, _, rfl, F0, _, _, rfl, rfl, f3, (by unfold wv; rw [List.length_map]; exact Nat.lt_of_le_of_lt (fl i) (by decide)), ?_⟩
          rw [eF]
          obtain ⟨H5, s5, b5, f5, a5, e5⟩ : ∃ H5, Same H H5 ∧ BgsAt H5 Q0 (que rs so L long i) ∧ H5 F0 = some (.lst (wv (fnd rs so L long (i + 1)))) ∧ H5 a = some (.tup (bgV x)) ∧ H5 = upd H3 F0 (.lst (wv (fnd rs so L long (i + 1)))) := by
            refine ⟨_, fun b u q => ?_, ⟨ts, ?_, paired_mono (fun t y h => ?_) p3⟩, upd_same, ?_, rfl⟩
            · rw [upd_ne (ne_of_none q hF0)]; exact s23 _ _ q
            · rw [upd_ne nQF]; exact q3
            · rw [upd_ne (ne_of h f3 (by intro z; cases z))]; exact h
            · rw [upd_ne (ne_of a3 f3 (by intro z; cases z))]; exact a3
          rw [← e5]
          refine ⟨_, rfl, _, rfl, (by rw [T_len]; exact small (by omega)), _, rfl, _, _, rfl, rfl, _, rfl, ite2 (fun cl => ?_) (fun cl => ?_)⟩
          · have cl' : ((T x.1).length : Int) < (long : Int) := of_decide_eq_true cl
            rw [T_len] at cl'
            have ek : kids rs so L long x = L.filterMap (lng rs so x) := by unfold kids; rw [if_pos (by omega)]
            rw [ek] at nx
            obtain ⟨ts5, q51, q52⟩ := b5
            refine ⟨_, rfl, .inl ⟨rfl, _, .inl (.inl q51)⟩, _, rfl, _, rfl, _, rfl, _, rfl, L, R, a, rs, x, so, rfl, hR.kt (.of s5), ho, h4, a5, hx, by omega, h36, fun D6 H6 s6 hD6 hB6 => ?_⟩
            obtain ⟨ts6, q61, q62⟩ := hB6
            have l5 := paired_len q52
            have l6 := paired_len q62
            have hle := nl (i + 1)
            rw [nx, List.length_append] at hle
            have e6 := s6 _ _ q51
            refine ⟨Q0, D6, _, _, rfl, rfl, e6, q61, by rw [List.length_map, List.length_map, l5, l6]; exact Nat.le_trans hle (by decide), ?_⟩
            refine ⟨i + 1, _, _, _, _, _, rfl, by omega, fun b u q => ?_, ⟨ts5 ++ ts6, ?_, ?_⟩, ?_⟩
            · rw [upd_ne (ne_of_none q hQ0)]
              exact s6 _ _ (s5 _ _ q)
            · rw [upd_same, List.map_append]
            · rw [nx]
              refine paired_app (paired_mono (fun t y h => ?_) q52) (paired_mono (fun t y h => ?_) q62)
              · rw [upd_ne (ne_of (s6 _ _ h) e6 (by intro z; cases z))]
                exact s6 _ _ h
              · rw [upd_ne (ne_of h e6 (by intro z; cases z))]
                exact h
            · rw [upd_ne nQF.symm]
              exact s6 _ _ f5
          · have cl' := of_decide_eq_false (Bool.eq_false_iff.mpr cl)
            rw [T_len] at cl'
            have ek : kids rs so L long x = [] := by unfold kids; rw [if_neg (by omega)]
            rw [ek, List.append_nil] at nx
            exact ⟨i + 1, _, _, _, _, _, rfl, by omega, s5, by rw [nx]; exact b5, f5⟩
        · have ok0 : okB rs so x = false := by unfold okB; rw [er]; exact Bool.eq_false_iff.mpr ce
          rw [ok0, if_neg (by decide), List.append_nil] at fx
          rw [← fx] at f3
          obtain ⟨H5, s5, b5, f5, a5, e5⟩ : ∃ H5, Same H H5 ∧ BgsAt H5 Q0 (que rs so L long i) ∧ H5 F0 = some (.lst (wv (fnd rs so L long (i + 1)))) ∧ H5 a = some (.tup (bgV x)) ∧ H5 = H3 := ⟨H3, s23, ⟨ts, q3, p3⟩, f3, a3, rfl⟩
          subst e5
          refine ⟨_, rfl, _, rfl, (by rw [T_len]; exact small (by omega)), _, rfl, _, _, rfl, rfl, _, rfl, ite2 (fun cl => ?_) (fun cl => ?_)⟩
          · have cl' : ((T x.1).length : Int) < (long : Int) := of_decide_eq_true cl
            rw [T_len] at cl'
            have ek : kids rs so L long x = L.filterMap (lng rs so x) := by unfold kids; rw [if_pos (by omega)]
            rw [ek] at nx
            obtain ⟨ts5, q51, q52⟩ := b5
            refine ⟨_, rfl, .inl ⟨rfl, _, .inl (.inl q51)⟩, _, rfl, _, rfl, _, rfl, _, rfl, L, R, a, rs, x, so, rfl, hR.kt (.of s5), ho, h4, a5, hx, by omega, h36, fun D6 H6 s6 hD6 hB6 => ?_⟩
            obtain ⟨ts6, q61, q62⟩ := hB6
            have l5 := paired_len q52
            have l6 := paired_len q62
            have hle := nl (i + 1)
            rw [nx, List.length_append] at hle
            have e6 := s6 _ _ q51
            refine ⟨Q0, D6, _, _, rfl, rfl, e6, q61, by rw [List.length_map, List.length_map, l5, l6]; exact Nat.le_trans hle (by decide), ?_⟩
            refine ⟨i + 1, _, _, _, _, _, rfl, by omega, fun b u q => ?_, ⟨ts5 ++ ts6, ?_, ?_⟩, ?_⟩
            · rw [upd_ne (ne_of_none q hQ0)]
              exact s6 _ _ (s5 _ _ q)
            · rw [upd_same, List.map_append]
            · rw [nx]
              refine paired_app (paired_mono (fun t y h => ?_) q52) (paired_mono (fun t y h => ?_) q62)
              · rw [upd_ne (ne_of (s6 _ _ h) e6 (by intro z; cases z))]
                exact s6 _ _ h
              · rw [upd_ne (ne_of h e6 (by intro z; cases z))]
                exact h
            · rw [upd_ne nQF.symm]
              exact s6 _ _ f5
          · have cl' := of_decide_eq_false (Bool.eq_false_iff.mpr cl)
            rw [T_len] at cl'
            have ek : kids rs so L long x = [] := by unfold kids; rw [if_neg (by omega)]
            rw [ek, List.append_nil] at nx
            exact ⟨i + 1, _, _, _, _, _, rfl, by omega, s5, by rw [nx]; exact b5, f5⟩
    · have c' := of_decide_eq_false (Bool.eq_false_iff.mpr c)
      rw [List.length_map, lts] at c'
      have et := que_end (rs := rs) (so := so) (L := L) (long := long) (i := i) (by omega)
      refine ⟨_, rfl, q F0 H2 s2 hF0 ?_⟩
      rw [hf]
      unfold fnd ruledW
      rw [et, all_ruled ho]
end
end Say
namespace Say
open PySem PySem.Spec PyProof.Rows L2
theorem merge_any : ∀ (more acc : List (Key × V)) (k : Key), (valV (mergeK acc more) k).isSome = ((valV acc k).isSome || more.any fun kv => decide (kv.1 = k))
  | [], acc, k => by
    show (valV acc k).isSome = _
    rw [List.any_nil, Bool.or_false]
  | p :: r, acc, k => by
    show (valV (mergeK (putK acc p.1 p.2) r) k).isSome = _
    rw [merge_any r, valV_put, List.any_cons]
    by_cases e : k = p.1
    · rw [if_pos e, decide_eq_true e.symm]
      simp
    · rw [if_neg e, decide_eq_false (fun z => e z.symm), Bool.false_or]
theorem exc_any (es : List Exc) (wd : List Nat) : (valV (mergeK [] (es.map ent)) (Sum.inr (T wd))).isSome = isExc es wd := by
  rw [merge_any, valV_nil]
  simp only [Option.isSome_none, Bool.false_or]
  unfold isExc
  rw [List.any_map]
  congr 1
  funext e
  exact decide_eq_decide.mpr key_eq
theorem paired_ent {K : PySem.W.Frag} {H : Hp} : ∀ {ts : List Addr} {es : List Exc}, Paired (fun t (e : Exc) => H t = some (.tup [.str (T e.1), .str (T e.2)])) ts es → Paired (fun p (kv : Key × V) => SqT K H p [kV kv.1, kv.2]) ts (es.map ent)
  | _, _, .nil => .nil
  | _, _, .cons h t => .cons (.inl (.inl h)) (paired_ent t)
theorem wv_app (a b : List (List Nat)) : wv a ++ wv b = wv (a ++ b) := by unfold wv; rw [List.map_append]
theorem take_filter_next {α : Type} {l : List α} {i : Nat} {x : α} (h : l[i]? = some x) (p : α → Bool) : (l.take (i + 1)).filter p = (l.take i).filter p ++ (if p x = true then [x] else []) := by
  rw [List.take_add_one, h, List.filter_append]
  congr 1
  show List.filter p [x] = _
  by_cases c : p x = true
  · rw [if_pos c, List.filter_cons_of_pos c]; rfl
  · rw [if_neg c, List.filter_cons_of_neg c]; rfl
section
variable {P : Program} {w : World} {K : PySem.W.Frag} {mg : Str → Option Value} {base : Heap}
abbrev sWr : Stmt := topS 62
abbrev nWr : List Str := ["book", "sounds", "long", "letters", "rules", "exceptions", "excepted", "found", "word", "told"]
abbrev psWr : List Str := ["book", "sounds", "long"]
theorem scWr : FnScope nWr psWr (defScope sWr) := ⟨rfl, rfl, rfl, by decide +kernel, rfl, by decide +kernel, by decide +kernel⟩
def spWr : Sp := fun vs H Q _ => ∃ (b : Addr) (L : List Nat) (rs : List Rule) (es : List Exc) (so : List Nat) (long : Nat), vs = [.ref b, .str (T so), .int long] ∧ BookAt H b L rs es ∧ BookOk L rs es ∧ (∀ c ∈ so, 65 ≤ c ∧ c ≤ 90) ∧ so.length ≤ 36 ∧ long ≤ 7 ∧
  ∀ (D : Addr) (H' : Hp), Same H H' → H D = none → H' D = some (.lst (wv (writM rs es so L long))) → Q (.ref D) H'
theorem ok_wr {f : Addr} {fd : FuncData} (F : FunD K "writings" "writings" (defArgs sWr) (defBody sWr) (defScope sWr) [] [("long", .int 5)] f fd) (B : Bn mg) (hdict : mg "dict" = none) (c7 : KI mg "LONGEST_WRITING" 7)
    (DCh : Df P w K mg base "checked_book" ["book"] 5 spCh) (DCs : Df P w K mg base "check_sounds" ["sounds"] 3 spCSo) (DCn : Df P w K mg base "is_count" ["number", "most"] 1 spCnt)
    (DRw : Df P w K mg base "ruled_writings" ["letters", "rules", "sounds", "long"] 6 spRW) : FnOk P w K mg base CX0 7 f fd psWr spWr := by
  obtain ⟨fCh, fdCh, GCh, kCh, bCh, mCh⟩ := DCh
  obtain ⟨fCs, fdCs, GCs, kCs, bCs, mCs⟩ := DCs
  obtain ⟨fCn, fdCn, GCn, kCn, bCn, mCn⟩ := DCn
  obtain ⟨fRw, fdRw, GRw, kRw, bRw, mRw⟩ := DRw
  obtain ⟨t7, m7⟩ := c7
  refine F.ok scWr (fun vs H Q E h => ?_) (fun cdv A outer s H vs Q E hr h => ?_)
  · obtain ⟨b, L, rs, es, so, long, rfl, _⟩ := h
    rfl
  · obtain ⟨b, L, rs, es, so, long, rfl, hB, ho, hc, h36, h7, q⟩ := h
    have hu := hu_of hr
    have hu64 : (A.deeper (envOfC "writings" (defScope sWr) s.heap.objs.size f cdv)).units + 64 < cLine := by have := hr.un; omega
    refine ⟨_, pss_cons (ps_asg (pe_call GCh (hr.mono (by decide)) (by rfl) mCh kCh bCh .nil pass0 (pa_cons (pv 0) pa_nil)) (pg_tup (by rfl) (pgs_cons (pg_name (i := 3) scWr.nd rfl (.inl rfl)) (pgs_cons (pg_name (i := 4) scWr.nd rfl (.inl rfl)) (pgs_cons (pg_name (i := 5) scWr.nd rfl (.inl rfl)) pgs_nil)))))
      (pss_cons (ps_expr (pe_call GCs (hr.mono (by decide)) (by rfl) mCs kCs bCs .nil pass0 (pa_cons (pv 1) pa_nil)))
      (pss_cons (ps_if (pt_not (pt_val (pe_call GCn (hr.mono (by decide)) (by rfl) mCn kCn bCn .nil pass0 (pa_cons (pv 2) (pa_cons (pe_glob (v := .int 7) rfl m7 ⟨_, rfl⟩) pa_nil))))) (pss_one ps_never) pss_nil)
      (pss_cons (ps_set (i := 6) scWr.nd rfl (.inr rfl) (pe_callTy (call_dictT rfl) (by rfl) hdict (by decide +kernel) (pa_cons (pv 5) pa_nil)))
      (pss_cons (ps_setLc (i := 7) (own := [("word", 8)]) (g := gName 8) (te := tVar 8) (tt := tB (tDNotIn (tVar 8) (tVar 6))) rfl scWr.nd rfl rfl (sw_true rfl rfl rfl (by decide +kernel))
          (pi_list (pe_call GRw (hr.mono (by decide)) (by rfl) mRw kRw bRw .nil pass0 (pa_cons (pv 3) (pa_cons (pv 4) (pa_cons (pv 1) (pa_cons (pv 2) pa_nil))))))
          (blkOk_by (N := nWr) (sc := defScope sWr) (by decide +kernel)) (fun _ _ _ _ _ => pg_name (i := 8) scWr.nd rfl (.inl rfl))
          (fun _ _ _ _ _ => pts_one (pt_cmp (pc_dnotin hu (pv 8) (pv 6)))) (fun _ _ _ _ _ => pv 8))
      (pss_cons (ps_expr (pe_bm PySem.F.plainAttrs_list PySem.F.slot_list_extend PySem.F.type_list_extend mt_extend (pv 7) (pa_cons (pe_lc (own := [("word", 8), ("told", 9)]) (g := gTup K 2 (gCons (gName 8) (gCons (gName 9) gNil))) (te := tVar 8) rfl scWr.nd
          (pi_tup (pv 5)) (blkOk_by (N := nWr) (sc := defScope sWr) (by decide +kernel)) (fun _ _ _ _ _ => pg_tup (by rfl) (pgs_cons (pg_name (i := 8) scWr.nd rfl (.inl rfl)) (pgs_cons (pg_name (i := 9) scWr.nd rfl (.inl rfl)) pgs_nil)))
          (fun _ _ _ _ _ => pts_one (PW.pt (pw_and (pt_cmpR op_eq (pv 9) (pv 1) (nomark _)) (pw_and1 (pt_cmpR op_le (pe_callB call_len_str (by rfl) B.len PySem.boot_len (pa_cons (pv 8) pa_nil)) (pv 2) (nomark _)))))) (fun _ _ _ _ _ => pv 8)) pa_nil)))
      (pss_one (ps_ret (pe_sortLen hu64 (by rfl) B.srt (by rfl) B.len (pa_cons (pe_callB (cr_sortTA hu64) (by rfl) B.srt (by decide +kernel) (pa_cons (pv 7) pa_nil)) pa_nil))))))))), ?_⟩
    refine ⟨_, rfl, b, L, rs, es, rfl, hB, ho, fun H1 s1 => ?_⟩
    obtain ⟨R, X, hb, hR, hX⟩ := hB.kt (.of s1)
    obtain ⟨ts, hXl, hXp⟩ := id hX
    refine ⟨b, _, rfl, .inl (.inl hb), rfl, _, _, rfl, _, _, rfl, _, _, rfl, rfl, ?_⟩
    refine ⟨_, rfl, so, rfl, hc, h36, fun H2 s2 => ?_⟩
    refine ⟨_, rfl, long, 7, rfl, h7, true, rfl, iteF ?_⟩
    have hXl2 := hXl.kt (.of s2)
    have hXp2 := paired_mono (fun t e h => s2 _ _ h) hXp
    refine ⟨_, rfl, X, ts, es.map ent, rfl, hXl2, paired_ent hXp2, fun p hp => ?_⟩
    have sp := same_new hp (.dK (mergeK [] (es.map ent)))
    have hp1 : (upd H2 p (.dK (mergeK [] (es.map ent)))) p = some (.dK (mergeK [] (es.map ent))) := upd_same
    generalize upd H2 p (.dK (mergeK [] (es.map ent))) = H3 at sp hp1 ⊢
    have s13 := s2.trans sp
    have s03 := s1.trans s13
    refine ⟨_, rfl, _, rfl, _, rfl, _, rfl, L, R, rs, so, long, rfl, hR.kt (.of s13), ho.rls, ho.lt.l4, h36, h7, fun D1 H4 s4 hD1 hL1 => ?_⟩
    have rl : (ruledW rs so L long).length ≤ 131072 := by
      unfold ruledW
      rw [← all_ruled ho.rls, List.length_map]
      exact Nat.le_trans (List.length_filter_le _ _) (all_le ho.lt.l4 h7)
    refine ⟨D1, rfl, ⟨_, .inl (.inl hL1)⟩, fun D hD => ?_⟩
    have s04 := s03.trans s4
    have hp4 := s4 _ _ hp1
    refine lc_it (walk_list (xs := wv (ruledW rs so L long))) (fun i H5 => H5 D = some (.lst (wv (((ruledW rs so L long).take i).filter fun x => !isExc es x))) ∧ Same H4 H5) ?_ (fun i H5 _ h => .inl (.inl (h.2 _ _ hL1))) ?_ ?_
    · exact ⟨upd_same, same_new hD _⟩
    · rintro i x H5 H5' hi ⟨e1, e2⟩ ⟨rfl, hx⟩
      unfold wv at hx
      rw [List.getElem?_map] at hx
      obtain ⟨wd, hw, e⟩ := Option.map_eq_some_iff.mp hx
      subst e
      have nx := take_filter_next hw (fun x => !isExc es x)
      have lle : (((ruledW rs so L long).take i).filter fun x => !isExc es x).length ≤ 131072 := by
        have := List.length_filter_le (fun x => !isExc es x) ((ruledW rs so L long).take i)
        rw [List.length_take] at this
        omega
      refine ⟨rfl, ?_⟩
      refine ⟨_, rfl, _, rfl, p, _, rfl, DGet.k (k := Sum.inr (T wd)) (e2 _ _ hp4), _, rfl, ?_⟩
      rw [exc_any]
      refine ite2 (fun c => ?_) (fun c => ?_)
      · rw [if_pos c] at nx
        refine ⟨_, rfl, _, e1, ?_, ?_, ?_⟩
        · unfold wv
          rw [List.length_map]
          exact Nat.lt_of_le_of_lt lle (by decide)
        · rw [upd_same, nx, ← wv_app]
          rfl
        · exact fun b u q => by
            rw [upd_ne (ne_of_none q hD)]
            exact e2 b u q
      · rw [if_neg c, List.append_nil] at nx
        exact ⟨by rw [nx]; exact e1, e2⟩
    · rintro H5 ⟨e1, e2⟩
      have el : (wv (ruledW rs so L long)).length = (ruledW rs so L long).length := by unfold wv; rw [List.length_map]
      rw [el, List.take_length] at e1
      have s15 := s13.trans (s4.trans e2)
      have hX5 := hXl.kt (.of s15)
      have hD0 : H D = none := s04.free hD
      refine ⟨_, rfl, .inl ⟨rfl, _, .inl (.inl e1)⟩, _, rfl, X, rfl, ⟨_, .inl hX5.rd⟩, fun D2 hD2 => ?_⟩
      refine lc_it (walk_tup (xs := ts.map V.ref)) (fun i H6 => H6 D2 = some (.lst (wv (((es.take i).filter fun e => decide (e.2 = so) && decide (e.1.length ≤ long)).map (·.1)))) ∧ Same H5 H6) ?_ (fun i H6 _ h => .inl (hX5.kt (.of h.2)).rd) ?_ ?_
      · exact ⟨upd_same, same_new hD2 _⟩
      · rintro i x H0 H6 hi ⟨g1, g2⟩ ⟨rfl, hx⟩
        rw [List.getElem?_map] at hx
        obtain ⟨a, ha, e⟩ := Option.map_eq_some_iff.mp hx
        subst e
        obtain ⟨e, he, hat⟩ := paired_at hXp ha
        have hat6 := g2 _ _ (s15 _ _ hat)
        have nx := take_filter_next he (fun e => decide (e.2 = so) && decide (e.1.length ≤ long))
        have h8 := (ho.ex e (List.mem_of_getElem? he)).w8
        have lle : ((es.take i).filter fun e => decide (e.2 = so) && decide (e.1.length ≤ long)).length ≤ 8 := by
          have := List.length_filter_le (fun e : Exc => decide (e.2 = so) && decide (e.1.length ≤ long)) (es.take i)
          rw [List.length_take] at this
          have := ho.e8
          omega
        have no : (decide (e.2 = so) && decide (e.1.length ≤ long)) = false → (H6 D2 = some (.lst (wv (((es.take (i + 1)).filter fun e => decide (e.2 = so) && decide (e.1.length ≤ long)).map (·.1)))) ∧ Same H5 H6) := fun c => by
          rw [c, if_neg (by decide), List.append_nil] at nx
          exact ⟨by rw [nx]; exact g1, g2⟩
        refine ⟨a, _, rfl, .inl (.inl hat6), rfl, _, _, rfl, _, _, rfl, rfl, ?_⟩
        refine ⟨rfl, ?_⟩
        refine ⟨_, rfl, _, rfl, rfl, _, rfl, ?_⟩
        rw [eqT]
        refine ite2 (fun c1 => ?_) (fun c1 => ?_)
        · refine ⟨_, rfl, _, rfl, (by rw [T_len]; exact small (by omega)), _, rfl, _, _, rfl, rfl, _, rfl, ite2 (fun c2 => ?_) (fun c2 => ?_)⟩
          · have c2' : ((T e.1).length : Int) ≤ (long : Int) := of_decide_eq_true c2
            rw [T_len] at c2'
            rw [if_pos (by rw [c1, Bool.true_and]; exact decide_eq_true (by omega))] at nx
            refine ⟨_, rfl, _, g1, ?_, ?_, ?_⟩
            · unfold wv
              rw [List.length_map, List.length_map]
              exact Nat.lt_of_le_of_lt lle (by decide)
            · rw [upd_same, nx, List.map_append, ← wv_app]
              rfl
            · exact fun b u q => by
                rw [upd_ne (ne_of_none q hD2)]
                exact g2 b u q
          · have c2' : ¬ ((T e.1).length : Int) ≤ (long : Int) := of_decide_eq_false (Bool.eq_false_iff.mpr c2)
            rw [T_len] at c2'
            exact no (by rw [decide_eq_false (p := e.1.length ≤ long) (by omega), Bool.and_false])
        · exact iteF (no (by rw [Bool.eq_false_iff.mpr c1, Bool.false_and]))
      · rintro H6 ⟨g1, g2⟩
        rw [List.length_map, paired_len hXp, List.take_length] at g1
        have f1 := g2 _ _ e1
        have l1 : ((ruledW rs so L long).filter fun x => !isExc es x).length ≤ 131072 := Nat.le_trans (List.length_filter_le _ _) rl
        have l2 : ((es.filter fun e => decide (e.2 = so) && decide (e.1.length ≤ long)).map (·.1)).length ≤ 8 := by
          rw [List.length_map]
          exact Nat.le_trans (List.length_filter_le _ _) ho.e8
        refine ⟨D, D2, _, _, rfl, rfl, f1, g1, ?_, ?_⟩
        · unfold wv
          rw [List.length_map, List.length_map]
          exact Nat.le_trans (Nat.add_le_add l1 l2) (by decide)
        rw [wv_app]
        have hf : (upd H6 D (.lst (wv (foundW rs es so L long)))) D = some (.lst (wv (foundW rs es so L long))) := upd_same
        refine ⟨_, rfl, D, foundW rs es so L long, rfl, .inl (.inl hf), fun p1 hp1 => ⟨p1, _, rfl, .inl (.inl upd_same), fun x hx => ?_, fun p2 hp2 => ?_⟩⟩
        · rw [List.mem_mergeSort, mem_found (fun e he => (ho.ex e he).w) ho.up] at hx
          have := (mem_upto.mp (List.mem_filter.mp hx).1).1
          omega
        · rw [writ_sort ((rises_iff L).mp ho.lt.up) (fun e he => (ho.ex e he).w) ho.up] at *
          have sF : Same H (upd H6 D (.lst (wv (foundW rs es so L long)))) := fun b u q => by
            rw [upd_ne (ne_of_none q hD0)]
            exact g2 _ _ (e2 _ _ (s04 _ _ q))
          have st := (sF.trans (same_new hp1 _)).trans (same_new hp2 (.lst (wv (writM rs es so L long))))
          exact q p2 _ st ((sF.trans (same_new hp1 _)).free hp2) upd_same
end
end Say
namespace Say
open PySem PySem.Spec PyProof.Rows L2
section
variable {P : Program} {w : World} {K : PySem.W.Frag} {mg : Str → Option Value} {base : Heap}
/-- writings(b, s, long = n) -/
theorem wr_kb {f : Addr} {fd : FuncData} (F : FunD K "writings" "writings" (defArgs sWr) (defBody sWr) (defScope sWr) [] [("long", .int 5)] f fd) : ∃ mv : List Value, KBn K fd psWr 2 ["long"] (fun us ws => us ++ ws) (fun vs zs => vs ++ zs) := by
  refine F.kbinds0 2 ["long"] [] (fun us mv ws => us ++ ws) (by simp) (by simp) (fun r1 r2 r3 => r1.append r3) (fun D doc pm an cdv ct us mv ws h1 h2 h3 => ?_)
  match us, h1, mv, h2, ws, h3 with
  | [a, b], _, [], _, [c], _ => rfl
/-- writings(b, s) -/
theorem wr_b {f : Addr} {fd : FuncData} (F : FunD K "writings" "writings" (defArgs sWr) (defBody sWr) (defScope sWr) [] [("long", .int 5)] f fd) : ∃ ds, Vals [V.int 5] ds ∧ L2.Binds K fd psWr ds := by
  refine F.binds0 2 (by simp) rfl (fun D doc pm an cdv ct us ks h1 h2 => ?_)
  match us, h1, ks, h2 with
  | [a, b], _, [c], _ => exact ⟨_, _, _, _, _, _, rfl, rfl, rfl⟩
end
end Say
namespace Say
open PySem PySem.Spec PyProof.Rows L2
section
variable {P : Program} {w : World} {K : PySem.W.Frag} {mg : Str → Option Value} {base : Heap}
abbrev sTaken : Stmt := topS 85
theorem scTaken : FnScope ["_law_row_here", "_law_many", "_law_found", "_law_cell"] ["_law_row_here", "_law_many"] (defScope sTaken) := ⟨rfl, rfl, rfl, by decide +kernel, rfl, by decide +kernel, by decide +kernel⟩
theorem fmod_in {x n : Int} (h : 0 < n) : 0 ≤ x.fmod n ∧ x.fmod n < n := ⟨Int.fmod_nonneg_of_pos _ h, Int.fmod_lt_of_pos _ h⟩
theorem ok_taken {f : Addr} {fd : FuncData} {k : Nat} (F : Fun K "_law_taken" "_law_taken" sTaken f fd) (ml : mg "len" = none) : FnOk P w K mg base CX0 (k + 1) f fd ["_law_row_here", "_law_many"] (spTaken K) := by
  refine F.ok scTaken (fun vs H Q E h => ?_) (fun cdv A outer s H vs Q E hr h => ?_)
  · obtain ⟨r, a, ns, n, rfl, _⟩ := h
    rfl
  · obtain ⟨r, a, ns, n, rfl, R, h0, h1, q⟩ := h
    obtain ⟨⟨i, c, m, hR, hi, hm0, hm1⟩, hS, hle⟩ := id R
    refine ⟨_, pss_cons (ps_if (pt_cmpR op_gt (pe_ix ix_list (pv 0) pe_int (fun _ _ => rfl)) pe_int (nomark _))
        (pss_cons (ps_set (i := 2) scTaken.nd rfl (.inl rfl) (pe_op op_modN (pe_ix ix_list (pv 0) pe_int (fun _ _ => rfl)) (pv 1)))
        (pss_cons (ps_asg (pe_op op_fdivN (pe_ix ix_list (pv 0) pe_int (fun _ _ => rfl)) (pv 1)) (pg_sub (pv 0) pe_int set_list))
        (pss_one (ps_ret (pv 2))))) pss_nil)
      (pss_cons (ps_if (pt_cmpR op_lt (pe_ix ix_list (pv 0) pe_int (fun _ _ => rfl)) (pe_callB call_len_seq (by rfl) ml PySem.boot_len (pa_cons (pe_ix ix_list (pv 0) pe_int (fun _ _ => rfl)) pa_nil)) (nomark _))
        (pss_cons (ps_set (i := 3) scTaken.nd rfl (.inl rfl) (pe_ix ix_list (pe_ix ix_list (pv 0) pe_int (fun _ _ => rfl)) (pe_ix ix_list (pv 0) pe_int (fun _ _ => rfl)) (fun _ _ => rfl)))
        (pss_cons (ps_asg (pe_op op_add (pe_ix ix_list (pv 0) pe_int (fun _ _ => rfl)) pe_int) (pg_sub (pv 0) pe_int set_list))
        (pss_cons (ps_if (pt_cmpR op_ge (pv 3) (pe_op op_pow pe_int pe_int) (nomark _))
          (pss_one (ps_asg (pe_op op_fdivN (pv 3) (pv 1)) (pg_sub (pv 0) pe_int set_list))) pss_nil)
        (pss_one (ps_ret (pe_op op_modN (pv 3) (pv 1))))))) pss_nil)
      (pss_cons (ps_asg (pe_op op_modN (pe_op op_add (pe_op op_mul (pe_ix ix_list (pv 0) pe_int (fun _ _ => rfl)) pe_int) pe_int) pe_int) (pg_sub (pv 0) pe_int set_list))
      (pss_one (ps_ret (pe_op op_modN (pe_op op_fdivN (pe_ix ix_list (pv 0) pe_int (fun _ _ => rfl)) pe_int) (pv 1)))))), ?_⟩
    have hL : SqL K H r [.ref a, .int i, .int c, .int m] := .inl (.inl hR)
    have gn : n ≠ 0 ∧ n.natAbs < 1073741824 := ⟨by omega, by omega⟩
    -- row[2] > 0
    refine ⟨_, rfl, r, _, 2, .int c, rfl, rfl, hL, atI_nat (j := 2) rfl, _, _, rfl, rfl, _, rfl, ite2 (fun e => ?_) (fun e => ?_)⟩
    · refine ⟨_, rfl, r, _, 2, .int c, rfl, rfl, hL, atI_nat (j := 2) rfl, _, rfl, _, _, rfl, rfl, gn.1, ?_⟩
      refine ⟨_, rfl, r, _, 2, .int c, rfl, rfl, hL, atI_nat (j := 2) rfl, _, rfl, _, _, rfl, rfl, gn, ?_⟩
      refine ⟨_, rfl, r, _, 2, 2, rfl, rfl, hR, rfl, ?_⟩
      refine ⟨_, rfl, ?_⟩
      exact q _ _ (fmod_in h0).1 (fmod_in h0).2 (stp_at _) (R.put hi hm0 hm1)
    -- row[1] < len(row[0])
    refine ⟨_, rfl, r, _, 1, .int i, rfl, rfl, hL, atI_nat (j := 1) rfl, _, rfl, r, _, 0, .ref a, rfl, rfl, hL, atI_nat (j := 0) rfl, a, _, rfl, .inl hS, _, _, rfl, rfl, _, rfl, ite2 (fun e1 => ?_) (fun e1 => ?_)⟩
    · have e2 : i < ((ns.map V.int).length : Int) := of_decide_eq_true e1
      rw [List.length_map] at e2
      have hj : i.toNat < ns.length := by omega
      have gx : (ns.map V.int)[i.toNat]? = some (.int ns[i.toNat]) := by
        rw [List.getElem?_map, List.getElem?_eq_getElem hj]
        rfl
      refine ⟨_, rfl, r, _, 0, .ref a, rfl, rfl, hL, atI_nat (j := 0) rfl, _, rfl, r, _, 1, .int i, rfl, rfl, hL, atI_nat (j := 1) rfl, a, _, i, .int ns[i.toNat], rfl, rfl, hS, at_of (j := i.toNat) (by omega) gx, ?_⟩
      refine ⟨_, rfl, r, _, 1, .int i, rfl, rfl, hL, atI_nat (j := 1) rfl, _, _, rfl, rfl, ?_⟩
      refine ⟨_, rfl, r, _, 1, 1, rfl, rfl, hR, rfl, ?_⟩
      have R1 : RowAt K (upd H r (.lst [.ref a, .int (i + 1), .int c, .int m])) r a ns := R.put (by omega) hm0 hm1
      refine ⟨_, rfl, _, _, rfl, rfl, ⟨by decide, by decide, by decide⟩, _, _, rfl, rfl, _, rfl, ite2 (fun e3 => ?_) (fun e3 => ?_)⟩
      · refine ⟨_, rfl, _, rfl, _, _, rfl, rfl, gn, ?_⟩
        refine ⟨_, rfl, r, _, 2, 2, rfl, rfl, upd_same, rfl, ?_⟩
        refine ⟨_, rfl, _, rfl, _, _, rfl, rfl, gn.1, ?_⟩
        exact q _ _ (fmod_in h0).1 (fmod_in h0).2 ((stp_at _).trans (stp_at _)) (R1.put (by omega) hm0 hm1)
      · refine ⟨_, rfl, _, rfl, _, _, rfl, rfl, gn.1, ?_⟩
        exact q _ _ (fmod_in h0).1 (fmod_in h0).2 (stp_at _) R1
    · refine ⟨_, rfl, r, _, 3, .int m, rfl, rfl, hL, atI_nat (j := 3) rfl, _, _, rfl, rfl, .inl ⟨by omega, by omega⟩, _, _, rfl, rfl, _, _, rfl, rfl, (by show (2147483647 : Int) ≠ 0; decide), ?_⟩
      refine ⟨_, rfl, r, _, 3, 3, rfl, rfl, hR, rfl, ?_⟩
      have b := fmod_in (x := m * 48271 + 12345) (n := 2147483647) (by decide)
      have R1 : RowAt K (upd H r (.lst [.ref a, .int i, .int c, .int ((m * 48271 + 12345).fmod 2147483647)])) r a ns := R.put hi b.1 b.2
      refine ⟨_, rfl, r, _, 3, .int ((m * 48271 + 12345).fmod 2147483647), rfl, rfl, .inl (.inl upd_same), atI_nat (j := 3) rfl, _, _, rfl, rfl, ⟨by decide, by decide⟩, _, rfl, _, _, rfl, rfl, gn.1, ?_⟩
      exact q _ _ (fmod_in h0).1 (fmod_in h0).2 (stp_at _) R1
end
end Say
namespace Say
open PySem PySem.Spec PyProof.Rows L2
def lets : List (List Nat) := [[97, 98], [97, 98, 99], [97, 99], [97, 98, 99, 100]]
section
variable {P : Program} {w : World} {K : PySem.W.Frag} {mg : Str → Option Value} {base : Heap}
abbrev sSide : Stmt := topS 87
theorem scSide : FnScope ["_law_row_here", "_law_letters_here", "_law_sign"] ["_law_row_here", "_law_letters_here"] (defScope sSide) := ⟨rfl, rfl, rfl, by decide +kernel, rfl, by decide +kernel, by decide +kernel⟩
def spSide (K : PySem.W.Frag) : Sp := fun vs H Q _ => ∃ (r a : Addr) (ns : List Int) (L : List Nat), vs = [.ref r, .str (T L)] ∧ RowAt K H r a ns ∧ L.length ≤ 4 ∧
  ∀ (z : List Nat) (H' : Hp), z.Sublist (35 :: L) → Stp r H H' → RowAt K H' r a ns → Q (.str (T z)) H'
theorem ok_side {f : Addr} {fd : FuncData} (F : Fun K "_law_side" "_law_side" sSide f fd) (DT : Df P w K mg base "_law_taken" ["_law_row_here", "_law_many"] 1 (spTaken K)) :
    FnOk P w K mg base CX0 2 f fd ["_law_row_here", "_law_letters_here"] (spSide K) := by
  obtain ⟨fT, fdT, GT, kT, bT, mT⟩ := DT
  refine F.ok scSide (fun vs H Q E h => ?_) (fun cdv A outer s H vs Q E hr h => ?_)
  · obtain ⟨r, a, ns, L, rfl, _⟩ := h
    rfl
  · obtain ⟨r, a, ns, L, rfl, R, hl, q⟩ := h
    refine ⟨_, pss_cons (ps_if (pt_cmpR op_eq (pe_call GT hr (by rfl) mT kT bT .nil pass0 (pa_cons (pv 0) (pa_cons pe_int pa_nil))) pe_int (nomark _)) (pss_one (ps_ret pe_str)) pss_nil)
      (pss_one (ps_ret (pe_join pe_str (pe_lc (own := [("_law_sign", 2)]) (g := gName 2) rfl scSide.nd (pi_str (pe_op op_add_str pe_str (pv 1)))
        (blkOk_by (N := ["_law_row_here", "_law_letters_here", "_law_sign"]) (sc := defScope sSide) (by decide +kernel)) (fun _ _ _ _ _ => pg_name (i := 2) scSide.nd rfl (.inl rfl))
        (fun _ _ _ _ _ => pts_one (pt_cmpR op_eq (pe_call GT hr (by rfl) mT kT bT .nil pass0 (pa_cons (pv 0) (pa_cons pe_int pa_nil))) pe_int (nomark _))) (fun _ _ _ _ _ => pv 2))))), ?_⟩
    refine ⟨_, rfl, r, a, ns, 2, rfl, R, by decide, by decide, fun k1 H1 h0 h1 s1 R1 => ?_⟩
    refine ⟨rfl, _, rfl, ite2 (fun _ => ?_) (fun _ => ?_)⟩
    · have e := q [] H1 (List.nil_sublist _) s1 R1
      exact e
    refine ⟨⟨_, rfl⟩, _, rfl, _, _, rfl, rfl, (by rw [len_hash, T_len]; exact small (by omega)), ?_⟩
    refine ⟨T (35 :: L), congrArg V.str (hash_app L), fun D hD => ?_⟩
    refine lc_it (walk_str) (fun i H2 => ∃ acc : List Nat, H2 D = some (.lst (sg acc)) ∧ acc.Sublist ((35 :: L).take i) ∧ Stp r H1 H2 ∧ RowIn H2 r a) ?_ (fun _ _ _ _ => trivial) ?_ ?_
    · exact ⟨[], upd_same, List.nil_sublist _, Stp.of (same_new hD _), R1.in.upd (R1.nw hD)⟩
    · rintro i x H2 H2' hi ⟨acc, e1, e2, e3, e4⟩ ⟨rfl, c, hc, rfl⟩
      have hc := T_at hc
      have tk := take_next hc
      refine ⟨rfl, _, rfl, r, a, ns, 2, rfl, R1.of e3 e4, by decide, by decide, fun k2 H3 h0 h1 s2 R2 => ?_⟩
      have e1' := s2.one e1 (R1.nw hD)
      refine ⟨rfl, _, rfl, ite2 (fun _ => ?_) (fun _ => ?_)⟩
      · refine ⟨_, rfl, _, e1', ?_, acc ++ [c], ?_, ?_, (e3.trans s2).put hD _, R2.in.upd (R1.nw hD)⟩
        · have := e2.length_le
          rw [sg_len]
          rw [List.length_take, List.length_cons] at this
          exact small1000 (by omega)
        · rw [upd_same]
          exact congrArg (fun l => some (HO.lst l)) (sg_app acc c)
        · rw [tk]
          exact e2.append (List.Sublist.refl [c])
      · refine ⟨acc, e1', ?_, e3.trans s2, R2.in⟩
        rw [tk]
        exact e2.trans (List.sublist_append_left _ _)
    · rintro H2 ⟨acc, e1, e2, e3, e4⟩
      rw [T_size, List.take_length] at e2
      refine ⟨Str.ofString "", D, (acc.map fun c => [c]).map T, rfl, rfl, .inl (.inl (.inl ?_)), ?_, ?_⟩
      · rw [e1, sg_map]
      · rw [sum_ones]
        have := e2.length_le
        rw [List.length_cons] at this
        show acc.length + _ * 0 ≤ _
        omega
      · rw [show Str.ofString "" = T [] from nil_eq, join_nil, map_single]
        exact q acc H2 e2 (s1.trans e3) (R1.of e3 e4)
end
end Say
namespace Say
open PySem PySem.Spec PyProof.Rows L2
section
variable {P : Program} {w : World} {K : PySem.W.Frag} {mg : Str → Option Value} {base : Heap}
abbrev sText : Stmt := topS 88
theorem scText : FnScope ["_law_row_here", "_law_signs", "_law_fewest", "_law_many", "_law_k"] ["_law_row_here", "_law_signs", "_law_fewest", "_law_many"] (defScope sText) := ⟨rfl, rfl, rfl, by decide +kernel, rfl, by decide +kernel, by decide +kernel⟩
def spText (K : PySem.W.Frag) : Sp := fun vs H Q _ => ∃ (r a : Addr) (ns : List Int) (S : List Nat) (lo hi : Nat), vs = [.ref r, .str (T S), .int lo, .int hi] ∧ RowAt K H r a ns ∧ 0 < S.length ∧ S.length ≤ 100 ∧ lo ≤ hi ∧ hi ≤ 100 ∧
  ∀ (z : List Nat) (H' : Hp), (∀ c ∈ z, c ∈ S) → lo ≤ z.length → z.length ≤ hi → Stp r H H' → RowAt K H' r a ns → Q (.str (T z)) H'
theorem ok_text {f : Addr} {fd : FuncData} (F : Fun K "_law_text" "_law_text" sText f fd) (DT : Df P w K mg base "_law_taken" ["_law_row_here", "_law_many"] 1 (spTaken K)) (ml : mg "len" = none) (mr : mg "range" = none) :
    FnOk P w K mg base CX0 2 f fd ["_law_row_here", "_law_signs", "_law_fewest", "_law_many"] (spText K) := by
  obtain ⟨fT, fdT, GT, kT, bT, mT⟩ := DT
  refine F.ok scText (fun vs H Q E h => ?_) (fun cdv A outer s H vs Q E hr h => ?_)
  · obtain ⟨r, a, ns, S, lo, hi, rfl, _⟩ := h
    rfl
  · obtain ⟨r, a, ns, S, lo, hi, rfl, R, hS0, hS1, hlh, hh, q⟩ := h
    refine ⟨_, pss_one (ps_ret (pe_join pe_str (pe_lc (own := [("_law_k", 4)]) (g := gName 4) rfl scText.nd
        (pi_range1 rfl mr (pa_cons (pe_op op_add (pv 2) (pe_call GT hr (by rfl) mT kT bT .nil pass0 (pa_cons (pv 0) (pa_cons (pe_op op_add (pe_op op_sub (pv 3) (pv 2)) pe_int) pa_nil)))) pa_nil))
        (blkOk_by (N := ["_law_row_here", "_law_signs", "_law_fewest", "_law_many", "_law_k"]) (sc := defScope sText) (by decide +kernel)) (fun _ _ _ _ _ => pg_name (i := 4) scText.nd rfl (.inl rfl))
        (fun _ _ _ _ _ => pts_nil) (fun _ _ _ _ _ => pe_ix ix_str (pv 1) (pe_call GT hr (by rfl) mT kT bT .nil pass0 (pa_cons (pv 0) (pa_cons (pe_callB call_len_str (by rfl) ml PySem.boot_len (pa_cons (pv 1) pa_nil)) pa_nil))) (fun _ _ => rfl))))), ?_⟩
    refine ⟨⟨_, rfl⟩, _, rfl, _, rfl, _, rfl, _, rfl, _, _, rfl, rfl, _, _, rfl, rfl, r, a, ns, _, rfl, R, by omega, by omega, fun k1 H1 h0 h1 s1 R1 => ?_⟩
    refine ⟨_, _, rfl, rfl, (lo : Int) + k1, rfl, by omega, by omega, fun D hD => ?_⟩
    refine lc_it (walk_range) (fun i H2 => ∃ acc : List Nat, H2 D = some (.lst (sg acc)) ∧ acc.length = i ∧ (∀ c ∈ acc, c ∈ S) ∧ Stp r H1 H2 ∧ RowIn H2 r a) ?_ (fun _ _ _ _ => trivial) ?_ ?_
    · exact ⟨[], upd_same, rfl, by simp, Stp.of (same_new hD _), R1.in.upd (R1.nw hD)⟩
    · rintro i x H2 H2' hi' ⟨acc, e1, e2, e3, e4, e5⟩ ⟨rfl, rfl⟩
      refine ⟨rfl, ?_⟩
      refine ⟨_, rfl, _, rfl, _, rfl, _, rfl, (by rw [T_len]; exact small (by omega)), r, a, ns, _, rfl, R1.of e4 e5, (by rw [T_len]; omega), (by rw [T_len]; omega), fun k2 H3 h2 h3 s2 R2 => ?_⟩
      have e1' := s2.one e1 (R1.nw hD)
      rw [T_len] at h3
      have hj : k2.toNat < S.length := by omega
      refine ⟨T S, k2, S[k2.toNat], rfl, rfl, (by rw [T_len]; exact small (by omega)), at_list hj (by omega), ?_⟩
      refine ⟨_, e1', ?_, acc ++ [S[k2.toNat]], ?_, by simp [e2], ?_, (e4.trans s2).put hD _, R2.in.upd (R1.nw hD)⟩
      · rw [sg_len]
        exact small1000 (by omega)
      · rw [upd_same]
        exact congrArg (fun l => some (HO.lst l)) (sg_app acc _)
      · intro c hc
        rcases List.mem_append.mp hc with h | h
        · exact e3 c h
        · rw [List.mem_singleton.mp h]
          exact List.getElem_mem hj
    · rintro H2 ⟨acc, e1, e2, e3, e4, e5⟩
      refine ⟨Str.ofString "", D, (acc.map fun c => [c]).map T, rfl, rfl, .inl (.inl (.inl ?_)), ?_, ?_⟩
      · rw [e1, sg_map]
      · rw [sum_ones]
        show acc.length + _ * 0 ≤ _
        omega
      · rw [show Str.ofString "" = T [] from nil_eq, join_nil, map_single]
        exact q acc H2 e3 (by omega) (by omega) (s1.trans e4) (R1.of e4 e5)
end
end Say
/- written by k25/genbk.py -/
namespace Say
open PySem PySem.Spec PyProof.Rows L2
/-- a rule, its sounds A and B -/
def RuleA (L : List Nat) (ρ : Rule) : Prop := RuleOk L ρ ∧ ∀ c ∈ ρ.so, c = 65 ∨ c = 66
section
variable {P : Program} {w : World} {K : PySem.W.Frag} {mg : Str → Option Value} {base : Heap}
abbrev sRule : Stmt := topS 89
theorem scRule : FnScope ["_law_row_here", "_law_letters_here", "_law_ahead", "_law_own"] ["_law_row_here", "_law_letters_here"] (defScope sRule) := ⟨rfl, rfl, rfl, by decide +kernel, rfl, by decide +kernel, by decide +kernel⟩
def spRule (K : PySem.W.Frag) : Sp := fun vs H Q _ => ∃ (r a : Addr) (ns : List Int) (L : List Nat), vs = [.ref r, .str (T L)] ∧ RowAt K H r a ns ∧ 0 < L.length ∧ L.length ≤ 4 ∧
  ∀ (ρ : Rule) (t : Addr) (H' : Hp), RuleA L ρ → H' t = some (.tup ρ.vs) → Stp r H H' → RowAt K H' r a ns → Q (.ref t) H'
theorem AB_eq : Str.ofString "AB" = T [65, 66] := by decide +kernel
theorem AB_ok {z : List Nat} (h : ∀ c ∈ z, c ∈ [65, 66]) : ∀ c ∈ z, 65 ≤ c ∧ c ≤ 90 := fun c hc => by
  have := h c hc
  simp at this
  omega
theorem AB_two {z : List Nat} (h : ∀ c ∈ z, c ∈ [65, 66]) : ∀ c ∈ z, c = 65 ∨ c = 66 := fun c hc => by
  have := h c hc
  simp at this
  omega
theorem ok_rule {f : Addr} {fd : FuncData} (F : Fun K "_law_rule" "_law_rule" sRule f fd) (DT : Df P w K mg base "_law_taken" ["_law_row_here", "_law_many"] 1 (spTaken K))
    (DS : Df P w K mg base "_law_side" ["_law_row_here", "_law_letters_here"] 2 (spSide K)) (DX : Df P w K mg base "_law_text" ["_law_row_here", "_law_signs", "_law_fewest", "_law_many"] 2 (spText K)) :
    FnOk P w K mg base CX0 3 f fd ["_law_row_here", "_law_letters_here"] (spRule K) := by
  obtain ⟨fT, fdT, GT, kT, bT, mT⟩ := DT
  obtain ⟨fS, fdS, GS, kS, bS, mS⟩ := DS
  obtain ⟨fX, fdX, GX, kX, bX, mX⟩ := DX
  refine F.ok scRule (fun vs H Q E h => ?_) (fun cdv A outer s H vs Q E hr h => ?_)
  · obtain ⟨r, a, ns, L, rfl, _⟩ := h
    rfl
  · obtain ⟨r, a, ns, L, rfl, R, hl0, hl, q⟩ := h
    have hr1 : Room 1 _ := hr.mono (by decide)
    refine ⟨_, pss_cons (ps_par (i := 2) (j := 3) (by rfl) scRule.nd rfl rfl (by decide) rfl rfl (pa_cons (pe_call GS hr (by rfl) mS kS bS .nil pass0 (pa_cons (pv 0) (pa_cons (pv 1) pa_nil)))
          (pa_cons (pe_call GX hr (by rfl) mX kX bX .nil pass0 (pa_cons (pv 0) (pa_cons (pv 1) (pa_cons pe_int (pa_cons pe_int pa_nil))))) pa_nil)) (by rfl))
      (pss_one (ps_ret (pe_tup (pa_cons (pv 2) (pa_cons (pv 3) (pa_cons (pe_call GS hr (by rfl) mS kS bS .nil pass0 (pa_cons (pv 0) (pa_cons (pv 1) pa_nil)))
        (pa_cons (pe_call GX hr (by rfl) mX kX bX .nil pass0 (pa_cons (pv 0) (pa_cons pe_str (pa_cons pe_int (pa_cons (pe_ix ix_list (pe_lst (pa_cons pe_int (pa_cons pe_int (pa_cons pe_int pa_nil)))) (pe_call GT hr1 (by rfl) mT kT bT .nil pass0 (pa_cons (pv 0) (pa_cons pe_int pa_nil))) (fun _ _ => rfl)) pa_nil))))) pa_nil))))))), ?_⟩
    refine ⟨_, rfl, _, rfl, r, a, ns, L, rfl, R, hl, fun ah H1 o1 s1 R1 => ?_⟩
    refine ⟨_, rfl, _, rfl, r, a, ns, L, 1, 2, rfl, R1, hl0, by omega, by decide, by decide, fun ow H2 o2 o3 o4 s2 R2 => ?_⟩
    refine ⟨_, _, rfl, ?_⟩
    refine ⟨_, rfl, _, rfl, _, rfl, _, rfl, r, a, ns, L, rfl, R2, hl, fun be H3 o5 s3 R3 => ?_⟩
    refine ⟨_, rfl, (by show 3 ≤ sizeLine; decide), fun p hp => ?_⟩
    have sm := same_new hp (.lst [V.int 1, .int 1, .int 3])
    refine ⟨_, rfl, r, a, ns, 3, rfl, R3.stp sm, by decide, by decide, fun k1 H4 h0 h1 s4 R4 => ?_⟩
    have hL : SqL K H4 p [V.int 1, .int 1, .int 3] := .inl (.inl (s4 _ _ upd_same (R3.nw hp).symm))
    have s34 := (Stp.of sm).trans s4
    have fin : ∀ m : Nat, m ≤ 3 → ∀ (so : List Nat) (H5 : Hp), (∀ c ∈ so, c ∈ [65, 66]) → 0 ≤ so.length → so.length ≤ m → Stp r H4 H5 → RowAt K H5 r a ns → 
        (4 ≤ sizeLine ∧ ∀ t, H5 t = none → Q (.ref t) (upd H5 t (.tup [.str (T ah), .str (T ow), .str (T be), .str (T so)]))) := fun m hm so H5 o6 _ o7 s5 R5 =>
      ⟨by decide, fun t ht => q ⟨ah, ow, be, so⟩ t _ ⟨⟨o1, o2, o3, o4, o5, AB_ok o6, by show so.length ≤ 3; omega⟩, AB_two o6⟩ upd_same (s1.trans (s2.trans (s3.trans (s34.trans (s5.trans (Stp.of (same_new ht _))))))) (R5.stp (same_new ht _))⟩
    have hk : k1 = 0 ∨ k1 = 1 ∨ k1 = 2 := by omega
    rcases hk with e | e | e
    · exact ⟨p, _, k1, V.int 1, rfl, rfl, hL, at_of (j := 0) e rfl, r, a, ns, [65, 66], 0, 1, by rw [AB_eq]; rfl, R4, by decide, by decide, by decide, by decide, fin 1 (by decide)⟩
    · exact ⟨p, _, k1, V.int 1, rfl, rfl, hL, at_of (j := 1) e rfl, r, a, ns, [65, 66], 0, 1, by rw [AB_eq]; rfl, R4, by decide, by decide, by decide, by decide, fin 1 (by decide)⟩
    · exact ⟨p, _, k1, V.int 3, rfl, rfl, hL, at_of (j := 2) e rfl, r, a, ns, [65, 66], 0, 3, by rw [AB_eq]; rfl, R4, by decide, by decide, by decide, by decide, fin 3 (by decide)⟩
abbrev sRules : Stmt := topS 90
theorem scRules : FnScope ["_law_row_here", "_law_letters_here", "_law_most", "_law_found", "_law_letter", "_law_k"] ["_law_row_here", "_law_letters_here", "_law_most"] (defScope sRules) := ⟨rfl, rfl, rfl, by decide +kernel, rfl, by decide +kernel, by decide +kernel⟩
def spRules (K : PySem.W.Frag) : Sp := fun vs H Q _ => ∃ (r a : Addr) (ns : List Int) (L : List Nat) (n : Nat), vs = [.ref r, .str (T L), .int n] ∧ RowAt K H r a ns ∧ 0 < L.length ∧ L.length ≤ 4 ∧ n ≤ 20 ∧
  ∀ (rs : List Rule) (R : Addr) (H' : Hp), (∀ ρ ∈ rs, RuleA L ρ) → rs.length ≤ n + L.length → RulesAt H' R rs → Stp r H H' → RowAt K H' r a ns → Q (.ref R) H'
theorem ok_rules {f : Addr} {fd : FuncData} (F : Fun K "_law_rules" "_law_rules" sRules f fd) (DT : Df P w K mg base "_law_taken" ["_law_row_here", "_law_many"] 1 (spTaken K))
    (DR : Df P w K mg base "_law_rule" ["_law_row_here", "_law_letters_here"] 3 (spRule K)) (mr : mg "range" = none) (mt : mg "tuple" = none) :
    FnOk P w K mg base CX0 4 f fd ["_law_row_here", "_law_letters_here", "_law_most"] (spRules K) := by
  obtain ⟨fT, fdT, GT, kT, bT, mT⟩ := DT
  obtain ⟨fR, fdR, GR, kR, bR, mR⟩ := DR
  refine F.ok scRules (fun vs H Q E h => ?_) (fun cdv A outer s H vs Q E hr h => ?_)
  · obtain ⟨r, a, ns, L, n, rfl, _⟩ := h
    rfl
  · obtain ⟨r, a, ns, L, n, rfl, R, hl0, hl, hn, q⟩ := h
    have hr1 : Room 1 _ := hr.mono (by decide)
    refine ⟨_, pss_cons (ps_setLc (i := 3) (own := [("_law_k", 5)]) (g := gName 5) rfl scRules.nd rfl rfl (sw_true rfl rfl rfl (by decide +kernel))
        (pi_range1 rfl mr (pa_cons (pe_call GT hr1 (by rfl) mT kT bT .nil pass0 (pa_cons (pv 0) (pa_cons (pe_op op_add (pv 2) pe_int) pa_nil))) pa_nil))
        (blkOk_by (N := ["_law_row_here", "_law_letters_here", "_law_most", "_law_found", "_law_letter", "_law_k"]) (sc := defScope sRules) (by decide +kernel)) (fun _ _ _ _ _ => pg_name (i := 5) scRules.nd rfl (.inl rfl))
        (fun _ _ _ _ _ => pts_nil) (fun _ _ _ _ _ => pe_call GR hr (by rfl) mR kR bR .nil pass0 (pa_cons (pv 0) (pa_cons (pv 1) pa_nil))))
      (pss_cons (ps_if (pt_cmpR op_gt (pe_call GT hr1 (by rfl) mT kT bT .nil pass0 (pa_cons (pv 0) (pa_cons pe_int pa_nil))) pe_int (nomark _))
        (pss_one (ps_for PassesOwn.never rfl (pi_str (pv 1)) (pg_name (i := 4) scRules.nd rfl (.inl rfl))
          (pss_one (ps_expr (pe_bm PySem.F.plainAttrs_list PySem.F.slot_list_append PySem.F.type_list_append mt_append (pv 3)
            (pa_cons (pe_tup (pa_cons pe_str (pa_cons (pv 4) (pa_cons pe_str (pa_cons (pe_ix ix_list (pe_lst (pa_cons pe_str (pa_cons pe_str (pa_cons pe_str (pa_cons pe_str pa_nil))))) (pe_call GT hr1 (by rfl) mT kT bT .nil pass0 (pa_cons (pv 0) (pa_cons pe_int pa_nil))) (fun _ _ => rfl)) pa_nil))))) pa_nil)))))) pss_nil)
      (pss_one (ps_ret (pe_callTy call_tuple_of (by rfl) mt (by decide +kernel) (pa_cons (pv 3) pa_nil))))), ?_⟩
    refine ⟨_, rfl, _, rfl, _, _, rfl, rfl, r, a, ns, _, rfl, R, by omega, by omega, fun k1 H1 h0 h1 s1 R1 => ?_⟩
    refine ⟨k1, rfl, by omega, by omega, fun D hD => ?_⟩
    have nD := R1.nw hD
    refine lc_it (walk_range) (fun i H2 => ∃ (ts : List Addr) (rs : List Rule), H2 D = some (.lst (ts.map V.ref)) ∧ Paired (fun t ρ => H2 t = some (.tup (Rule.vs ρ))) ts rs ∧ rs.length = i ∧ (∀ ρ ∈ rs, RuleA L ρ) ∧ Stp r H1 H2 ∧ RowIn H2 r a) ?_ (fun _ _ _ _ => trivial) ?_ ?_
    · exact ⟨[], [], upd_same, .nil, rfl, by simp, Stp.of (same_new hD _), R1.in.upd nD⟩
    · rintro i x H2 H2' hi' ⟨ts, rs, e1, e2, e3, e4, e5, e6⟩ ⟨rfl, rfl⟩
      refine ⟨rfl, ?_⟩
      refine ⟨_, rfl, _, rfl, r, a, ns, L, rfl, R1.of e5 e6, hl0, hl, fun ρ t H3 o1 o2 s2 R2 => ?_⟩
      have e1' := s2.one e1 nD
      have kt := (s2.kt e6).trans (kt_upd e1' (o := .lst (ts.map V.ref ++ [.ref t])))
      refine ⟨_, e1', ?_, ts ++ [t], rs ++ [ρ], ?_, ?_, by simp [e3], ?_, (e5.trans s2).put hD _, R2.in.upd nD⟩
      · rw [List.length_map, paired_len e2]
        exact small1000 (by omega)
      · rw [upd_same, List.map_append]
        rfl
      · exact paired_app (paired_mono (fun t ρ h => kt.1 _ _ h) e2) (.cons ((kt_upd e1').1 _ _ o2) .nil)
      · intro c hc
        rcases List.mem_append.mp hc with h | h
        · exact e4 c h
        · rw [List.mem_singleton.mp h]
          exact o1
    · rintro H2 ⟨ts, rs, e1, e2, e3, e4, e5, e6⟩
      have e3' : rs.length ≤ n := by omega
      refine ⟨_, rfl, r, a, ns, 4, rfl, R1.of e5 e6, by decide, by decide, fun k2 H3 h2 h3 s2 R2 => ?_⟩
      have e1' := s2.one e1 nD
      have e2' := paired_mono (fun t ρ h => (s2.kt e6).1 _ _ h) e2
      have e5' := e5.trans s2
      -- the end: tuple(found)
      have fin : ∀ (H4 : Hp) (ts : List Addr) (rs : List Rule), H4 D = some (.lst (ts.map V.ref)) → Paired (fun t ρ => H4 t = some (.tup (Rule.vs ρ))) ts rs → rs.length ≤ n + L.length → (∀ ρ ∈ rs, RuleA L ρ) → Stp r H1 H4 → RowIn H4 r a → ∀ t, H4 t = none → Q (.ref t) (upd H4 t (.tup (ts.map V.ref))) := fun H4 ts rs f1 f2 f3 f4 f5 f6 t ht =>
        q rs t _ f4 f3 ⟨ts, upd_same, paired_mono (fun t ρ h => (kt_new ht).1 _ _ h) f2⟩ (s1.trans (f5.trans (Stp.of (same_new ht _)))) ((R1.of f5 f6).stp (same_new ht _))
      refine ⟨_, _, rfl, rfl, _, rfl, ite2 (fun _ => ?_) (fun _ => ?_)⟩
      · refine ⟨_, rfl, T L, rfl, for_it (walk_str) (fun i σ H4 => ∃ (ts : List Addr) (rs : List Rule) (v : Option V), σ = [some (.ref r), some (.str (T L)), some (.int n), some (.ref D), v, none] ∧ H4 D = some (.lst (ts.map V.ref)) ∧ Paired (fun t ρ => H4 t = some (.tup (Rule.vs ρ))) ts rs ∧ rs.length ≤ n + i ∧ (∀ ρ ∈ rs, RuleA L ρ) ∧ Stp r H1 H4 ∧ RowIn H4 r a)
          ⟨ts, rs, _, rfl, e1', e2', by omega, e4, e5', R2.in⟩ (fun _ _ _ _ _ => trivial) ?_ ?_⟩
        · rintro i x σ H4 H4' hi' ⟨ts, rs, v, rfl, e1, e2, e3, e4, e5, e6⟩ ⟨rfl, c, hc, rfl⟩
          have hc := T_at hc
          have hi2 : i < L.length := by rw [T_size] at hi'; exact hi'
          have RA := R1.of e5 e6
          refine ⟨_, rfl, .inl ⟨rfl, _, .inl (.inl e1)⟩, _, rfl, (by show 4 ≤ sizeLine; decide), fun p hp => ?_⟩
          have sm := same_new hp (.lst [V.str "A", .str "B", .str "", .str "AB"])
          refine ⟨_, rfl, r, a, ns, 4, rfl, RA.stp sm, by decide, by decide, fun k3 H5 h4 h5 s3 R3 => ?_⟩
          have s3' := (Stp.of sm).trans s3
          have hL : SqL K H5 p [V.str "A", .str "B", .str "", .str "AB"] := .inl (.inl (s3 _ _ upd_same (RA.nw hp).symm))
          have f1 := s3'.one e1 nD
          have kt3 := s3'.kt e6
          have ec : c ∈ L := List.mem_of_getElem? hc
          have ok : ∀ so : List Nat, (∀ c ∈ so, c = 65 ∨ c = 66) → so.length ≤ 3 → RuleA L ⟨[], [c], [], so⟩ := fun so g1 g2 =>
            ⟨⟨List.nil_sublist _, fun d hd => by rw [List.mem_singleton.mp hd]; exact ec, Nat.le_refl _, by show 1 ≤ 2; decide, List.nil_sublist _, fun c hc => by have := g1 c hc; omega, g2⟩, g1⟩
          obtain ⟨so, g1, g2, g3⟩ : ∃ so : List Nat, (∀ c ∈ so, c = 65 ∨ c = 66) ∧ so.length ≤ 3 ∧ atI [V.str "A", .str "B", .str "", .str "AB"] k3 = some (V.str (T so)) := by
            have hk : k3 = 0 ∨ k3 = 1 ∨ k3 = 2 ∨ k3 = 3 := by omega
            rcases hk with e | e | e | e
            · exact ⟨[65], by decide, by decide, at_of (j := 0) e (by decide +kernel)⟩
            · exact ⟨[66], by decide, by decide, at_of (j := 1) e (by decide +kernel)⟩
            · exact ⟨[], by decide, by decide, at_of (j := 2) e (by decide +kernel)⟩
            · exact ⟨[65, 66], by decide, by decide, at_of (j := 3) e (by decide +kernel)⟩
          refine ⟨p, _, k3, V.str (T so), rfl, rfl, hL, g3, (by show 4 ≤ sizeLine; decide), fun t ht => ?_⟩
          have f2 := same_new ht (.tup [.str (Str.ofString ""), .str ⟨#[c]⟩, .str (Str.ofString ""), .str (T so)])
          have f3 := f2 _ _ f1
          have kt4 := (kt3.trans (KT.of f2)).trans (kt_upd f3 (o := .lst (ts.map V.ref ++ [.ref t])))
          refine ⟨D, _, _, rfl, rfl, f3, ?_, ts ++ [t], rs ++ [⟨[], [c], [], so⟩], _, rfl, ?_, ?_, ?_, ?_, ((e5.trans s3').trans (Stp.of f2)).put hD _, ?_⟩
          · rw [List.length_map, paired_len e2]
            exact small1000 (by omega)
          · rw [upd_same, List.map_append]
            rfl
          · refine paired_app (paired_mono (fun t ρ h => kt4.1 _ _ h) e2) (.cons ((kt_upd f3).1 _ _ ?_) .nil)
            rw [upd_same, show Str.ofString "" = T [] from nil_eq]
            rfl
          · rw [List.length_append]
            show rs.length + 1 ≤ n + (i + 1)
            omega
          · intro d hd
            rcases List.mem_append.mp hd with h | h
            · exact e4 d h
            · rw [List.mem_singleton.mp h]
              exact ok so g1 g2
          · exact (R3.stp f2).in.upd nD
        · rintro σ H4 ⟨ts, rs, v, rfl, e1, e2, e3, e4, e5, e6⟩
          rw [T_size] at e3
          exact ⟨_, rfl, D, _, rfl, .inl ⟨.inl (.inl e1), fin H4 ts rs e1 e2 e3 e4 e5 e6⟩⟩
      · exact ⟨_, rfl, D, _, rfl, .inl ⟨.inl (.inl e1'), fin H3 ts rs e1' e2' (by omega) e4 e5' R2.in⟩⟩
end
end Say
namespace Say
open PySem PySem.Spec PyProof.Rows L2
section
variable {P : Program} {w : World} {K : PySem.W.Frag} {mg : Str → Option Value} {base : Heap}
abbrev sRow : Stmt := topS 84
theorem scRow : FnScope ["_law_script", "_law_mixed", "_law_cell"] ["_law_script"] (defScope sRow) := ⟨rfl, rfl, rfl, by decide +kernel, rfl, by decide +kernel, by decide +kernel⟩
def spRow (K : PySem.W.Frag) : Sp := fun vs H Q _ => ∃ (a : Addr) (ns : List Int), vs = [.ref a] ∧ SqL K H a (ns.map V.int) ∧ ns.length ≤ 63 ∧
  ∀ (r : Addr) (H' : Hp), H r = none → Same H H' → RowAt K H' r a ns → Q (.ref r) H'
theorem map_int_get {ns : List Int} {i : Nat} {x : V} (h : (ns.map V.int)[i]? = some x) : ∃ z, x = V.int z := by
  rw [List.getElem?_map] at h
  cases e : ns[i]? with
  | none => rw [e] at h; cases h
  | some z => rw [e] at h; exact ⟨z, (Option.some.inj h).symm⟩
theorem ok_row {f : Addr} {fd : FuncData} {k : Nat} (F : Fun K "_law_row" "_law_row" sRow f fd) : FnOk P w K mg base CX0 (k + 1) f fd ["_law_script"] (spRow K) := by
  refine F.ok scRow (fun vs H Q E h => ?_) (fun cdv A outer s H vs Q E hr h => ?_)
  · obtain ⟨a, ns, rfl, _⟩ := h
    rfl
  · obtain ⟨a, ns, rfl, hS, hle, q⟩ := h
    refine ⟨_, pss_cons (ps_set (i := 1) scRow.nd rfl (.inl rfl) pe_int)
      (pss_cons (ps_for PassesOwn.never rfl (pi_list (pv 0)) (pg_name (i := 2) scRow.nd rfl (.inl rfl))
        (pss_one (ps_set (i := 1) scRow.nd rfl (.inl rfl) (pe_op op_modN (pe_op op_add (pe_op op_add (pe_op op_mul (pv 1) pe_int) (pv 2)) pe_int) pe_int))))
      (pss_one (ps_ret (pe_lst (pa_cons (pv 0) (pa_cons pe_int (pa_cons pe_int (pa_cons (pv 1) pa_nil)))))))), ?_⟩
    refine ⟨_, rfl, a, rfl, ⟨_, hS⟩, for_list (K := K) (a := a) (xs := ns.map V.int) (fun i σ H2 => H2 = H ∧ ∃ (m : Int) (v : Option V), σ = [some (.ref a), some (.int m), v] ∧ 0 ≤ m ∧ m < 2147483647)
      ⟨rfl, 7, none, rfl, by decide, by decide⟩ (fun i σ H2 _ h => by obtain ⟨rfl, _⟩ := h; exact hS) ?_ ?_⟩
    · rintro i x σ H2 hx ⟨rfl, m, v, rfl, h0, h1⟩
      obtain ⟨z, rfl⟩ := map_int_get hx
      refine ⟨_, rfl, _, _, rfl, rfl, .inl ⟨by omega, by omega⟩, _, rfl, _, _, rfl, rfl, _, _, rfl, rfl, _, _, rfl, rfl, (by show (2147483647 : Int) ≠ 0; decide), ?_⟩
      exact ⟨rfl, _, _, rfl, Int.fmod_nonneg_of_pos _ (by decide), Int.fmod_lt_of_pos _ (by decide)⟩
    · rintro σ H2 ⟨rfl, m, v, rfl, h0, h1⟩
      refine ⟨_, rfl, _, rfl, (by show 4 ≤ sizeLine; decide), fun p hp => ?_⟩
      have sm := same_new hp (.lst [.ref a, .int 0, .int 0, .int m])
      exact q p _ hp sm ⟨⟨0, 0, m, upd_same, by decide, h0, h1⟩, sm.seq hS, hle⟩
end
end Say
/- written by k25/genbk.py -/
namespace Say
open PySem PySem.Spec PyProof.Rows L2 L2.DX
theorem putE_all {p : Exc → Prop} {es : List Exc} {wd so : List Nat} (h : ∀ e ∈ es, p e) (hn : p (wd, so)) : ∀ e ∈ putE es wd so, p e := fun e he => by
  unfold putE at he
  by_cases c : (es.any fun e => decide (e.1 = wd)) = true
  · rw [if_pos c] at he
    obtain ⟨e', h1, rfl⟩ := List.mem_map.mp he
    by_cases c2 : e'.1 = wd
    · rw [if_pos c2, c2]; exact hn
    · rw [if_neg c2]; exact h _ h1
  · rw [if_neg c] at he
    rcases List.mem_append.mp he with he | he
    · exact h _ he
    · rw [List.mem_singleton.mp he]; exact hn
theorem ABD_eq : Str.ofString "ABD" = T [65, 66, 68] := by decide +kernel
theorem ABD_ok {z : List Nat} (h : ∀ c ∈ z, c ∈ [65, 66, 68]) : ∀ c ∈ z, 65 ≤ c ∧ c ≤ 90 := fun c hc => by
  have := h c hc
  simp at this
  omega
theorem ABD_three {z : List Nat} (h : ∀ c ∈ z, c ∈ [65, 66, 68]) : ∀ c ∈ z, c = 65 ∨ c = 66 ∨ c = 68 := fun c hc => by
  have := h c hc
  simp at this
  omega
theorem RowAt.dput {K : PySem.W.Frag} {H : Hp} {r a F : Addr} {ns : List Int} {kvs : List (Key × V)} (R : RowAt K H r a ns) (hF : H F = some (.dK kvs)) (o : HO) : RowAt K (upd H F o) r a ns :=
  R.stpD hF (stp_at _)
section
variable {P : Program} {w : World} {K : PySem.W.Frag} {mg : Str → Option Value} {base : Heap}
abbrev sLEx : Stmt := topS 91
abbrev nLEx : List Str := ["_law_row_here", "_law_letters_here", "_law_most", "_law_found", "_law_k"]
theorem scLEx : FnScope nLEx ["_law_row_here", "_law_letters_here", "_law_most"] (defScope sLEx) := ⟨rfl, rfl, rfl, by decide +kernel, rfl, by decide +kernel, by decide +kernel⟩
def spLE4 (K : PySem.W.Frag) : Sp := fun vs H Q _ => ∃ (r a : Addr) (ns : List Int) (L : List Nat) (n : Nat), vs = [.ref r, .str (T L), .int n] ∧ RowAt K H r a ns ∧ LetOk L ∧ n ≤ 12 ∧
  ∀ (es : List Exc) (X : Addr) (H' : Hp), (∀ e ∈ es, ExcOk L e ∧ (e.1.length ≤ 4 ∧ ∀ c ∈ e.2, c = 65 ∨ c = 66 ∨ c = 68)) → es.length ≤ n → (es.Pairwise fun e f => e.1 < f.1) → ExcsAt H' X es → Stp r H H' → RowAt K H' r a ns → Q (.ref X) H'
theorem ok_LE4 {f : Addr} {fd : FuncData} (F : Fun K "_law_exceptions" "_law_exceptions" sLEx f fd) (B : Bn mg) (DT : Df P w K mg base "_law_taken" ["_law_row_here", "_law_many"] 1 (spTaken K))
    (DX : Df P w K mg base "_law_text" ["_law_row_here", "_law_signs", "_law_fewest", "_law_many"] 2 (spText K)) : FnOk P w K mg base CX0 3 f fd ["_law_row_here", "_law_letters_here", "_law_most"] (spLE4 K) := by
  obtain ⟨fT, fdT, GT, kT, bT, mT⟩ := DT
  obtain ⟨fX, fdX, GX, kX, bX, mX⟩ := DX
  refine F.ok scLEx (fun vs H Q E h => ?_) (fun cdv A outer s H vs Q E hr h => ?_)
  · obtain ⟨r, a, ns, L, n, rfl, _⟩ := h
    rfl
  · obtain ⟨r, a, ns, L, n, rfl, R, oL, hn, q⟩ := h
    have l2 := oL.l2
    have l4 := oL.l4
    have hu := hu_of hr
    have hr1 : Room 1 _ := hr.mono (by decide)
    refine ⟨_, pss_cons (ps_set (i := 3) scLEx.nd rfl (.inl rfl) pe_dnewK)
      (pss_cons (ps_for PassesOwn.never rfl (pi_range1 rfl B.rng (pa_cons (pe_call GT hr1 (by rfl) mT kT bT .nil pass0 (pa_cons (pv 0) (pa_cons (pe_op op_add (pv 2) pe_int) pa_nil))) pa_nil)) (pg_name (i := 4) scLEx.nd rfl (.inl rfl))
        (pss_one (ps_dput hu (pv 3) (pe_call GX hr (by rfl) mX kX bX .nil pass0 (pa_cons (pv 0) (pa_cons (pv 1) (pa_cons pe_int (pa_cons pe_int pa_nil)))))
          (pe_call GX hr (by rfl) mX kX bX .nil pass0 (pa_cons (pv 0) (pa_cons pe_str (pa_cons pe_int (pa_cons pe_int pa_nil))))) rfl)))
      (pss_one (ps_ret (pe_callTy call_tupN (by rfl) B.tup (by decide +kernel) (pa_cons (pe_callB (cr_sortedTx rfl) (by rfl) B.srt (by decide +kernel)
            (pa_cons (pe_bm0 PySem.F.plainAttrs_dict PySem.F.slot_dict_items PySem.F.type_dict_items mt_itemsK (pv 3)) pa_nil)) pa_nil))))), ?_⟩
    intro D hD
    have nD : D ≠ r := (R.nw hD).symm
    have R1 := R.stp (same_new hD (.dK []))
    have hD1 : (upd H D (.dK [])) D = some (.dK (([] : List Exc).map ent)) := upd_same
    have s1 : Stp r H (upd H D (.dK [])) := .of (same_new hD _)
    generalize upd H D (.dK []) = H1 at R1 hD1 s1 ⊢
    refine ⟨_, rfl, _, rfl, _, _, rfl, rfl, r, a, ns, _, rfl, R1, by omega, by omega, fun k1 H2 h0 h1 s2 R2 => ?_⟩
    refine ⟨k1, rfl, by omega, by omega, for_it (walk_range) (fun i σ H3 => ∃ (es : List Exc) (v4 : Option V), σ = [some (.ref r), some (.str (T L)), some (.int n), some (.ref D), v4] ∧ H3 D = some (.dK (es.map ent)) ∧ (∀ e ∈ es, ExcOk L e ∧ (e.1.length ≤ 4 ∧ ∀ c ∈ e.2, c = 65 ∨ c = 66 ∨ c = 68)) ∧ (es.map (·.1)).Nodup ∧ es.length ≤ i ∧ Stp r H H3 ∧ RowAt K H3 r a ns)
      ⟨[], _, rfl, s2 _ _ hD1 nD, by simp, by simp, Nat.le_refl _, s1.trans s2, R2⟩ (fun _ _ _ _ _ => trivial) ?_ ?_⟩
    · rintro i x σ H3 H3' hi ⟨es, v4, rfl, hD3, hes, hnd, hel, s3, R3⟩ ⟨rfl, rfl⟩
      have hi8 : i < 12 := by omega
      refine ⟨_, rfl, r, a, ns, [65, 66, 68], 0, 5, by rw [ABD_eq]; rfl, R3, by decide, by decide, by decide, by decide, fun so H4 g1 g2 g3 s4 R4 => ?_⟩
      refine ⟨_, rfl, _, rfl, _, rfl, r, a, ns, L, 1, 4, rfl, R4, by omega, by omega, by decide, by decide, fun wd H5 w1 w2 w3 s5 R5 => ?_⟩
      have hD5 := (s4.trans s5) _ _ hD3 nD
      refine ⟨D, _, rfl, DPut.k (k := Sum.inr (T wd)) hD5 (by rw [List.length_map]; exact small1000 (by omega)), ?_⟩
      refine ⟨putE es wd so, _, rfl, by rw [upd_same, put_ent], putE_all hes ⟨⟨w1, w2, by show wd.length ≤ 8; omega, ABD_ok g1, by show so.length ≤ 36; omega⟩, ⟨by show wd.length ≤ 4; omega, ABD_three g1⟩⟩, putE_nd hnd, Nat.le_trans (putE_len _ _ _) (by omega), ?_, R5.dput hD5 _⟩
      exact (s3.trans (s4.trans s5)).put hD _
    · rintro σ H3 ⟨es, v4, rfl, hD3, hes, hnd, hel, s3, R3⟩
      have hln : es.length ≤ n := by omega
      refine ⟨_, rfl, .inr (.inr (.inl ⟨rfl, .inl ⟨_, hD3⟩⟩)), D, _, rfl, rfl, hD3, fun p hp => ?_⟩
      have sp := same_new hp (itemsO p D)
      refine ⟨p, D, es.map tt, rfl, upd_same, by rw [sp _ _ hD3, List.map_map]; rfl, by rw [List.length_map]; omega, fun H4 l ps s4 hperm hpw hln' hll hps => ?_⟩
      have s34 : Same H3 H4 := sp.trans s4
      obtain ⟨pe1, pe2, pe3⟩ := sort_exc hnd hperm hpw
      refine ⟨l, _, rfl, .inl (.inl hll), fun X oX hoX hX => ?_⟩
      have sX := same_new hX (.frz oX (.tup (ps.map fun z => V.ref z.1)))
      refine q ((ps.map (·.2)).map bk) X _ (fun e he => hes e (pe2.mem_iff.mp he)) (by rw [pe2.length_eq]; exact hln) pe3 ⟨ps.map (·.1), ⟨oX, by rw [upd_same, List.map_map]; rfl, hoX⟩, ?_⟩ (s3.trans (.of (s34.trans sX))) (R3.stp (s34.trans sX))
      rw [List.map_map]
      refine paired_map fun z hz => ?_
      have := sX _ _ (hps z hz)
      rw [this]
      show some (HO.tup [V.str z.2.1, V.str z.2.2]) = some (HO.tup [V.str (T z.2.1.cps.toList), V.str (T z.2.2.cps.toList)])
      rw [T_list, T_list]
end
end Say
namespace Say
open PySem PySem.Spec PyProof.Rows L2
section
variable {P : Program} {w : World} {K : PySem.W.Frag} {mg : Str → Option Value} {base : Heap}
abbrev sLetters : Stmt := topS 86
theorem scLetters : FnScope ["_law_row_here"] ["_law_row_here"] (defScope sLetters) := ⟨rfl, rfl, rfl, by decide +kernel, rfl, by decide +kernel, by decide +kernel⟩
def spLetters (K : PySem.W.Frag) : Sp := fun vs H Q _ => ∃ (r a : Addr) (ns : List Int), vs = [.ref r] ∧ RowAt K H r a ns ∧
  ∀ (L : List Nat) (H' : Hp), L ∈ lets → Stp r H H' → RowAt K H' r a ns → Q (.str (T L)) H'
theorem ok_letters {f : Addr} {fd : FuncData} (F : Fun K "_law_letters" "_law_letters" sLetters f fd) (DT : Df P w K mg base "_law_taken" ["_law_row_here", "_law_many"] 1 (spTaken K)) :
    FnOk P w K mg base CX0 2 f fd ["_law_row_here"] (spLetters K) := by
  obtain ⟨fT, fdT, GT, kT, bT, mT⟩ := DT
  refine F.ok scLetters (fun vs H Q E h => ?_) (fun cdv A outer s H vs Q E hr h => ?_)
  · obtain ⟨r, a, ns, rfl, _⟩ := h
    rfl
  · obtain ⟨r, a, ns, rfl, R, q⟩ := h
    refine ⟨_, pss_one (ps_ret (pe_ix ix_list (pe_lst (pa_cons pe_str (pa_cons pe_str (pa_cons pe_str (pa_cons pe_str pa_nil))))) (pe_call GT hr (by rfl) mT kT bT .nil pass0 (pa_cons (pv 0) (pa_cons pe_int pa_nil))) (fun _ _ => rfl))), ?_⟩
    refine ⟨(by show 4 ≤ sizeLine; decide), fun p hp => ?_⟩
    have sm := same_new hp (.lst [V.str "ab", .str "abc", .str "ac", .str "abcd"])
    refine ⟨_, rfl, r, a, ns, 4, rfl, R.stp sm, by decide, by decide, fun k1 H1 h0 h1 s1 R1 => ?_⟩
    have hL : SqL K H1 p [V.str "ab", .str "abc", .str "ac", .str "abcd"] := .inl (.inl (s1 _ _ upd_same (R.nw hp).symm))
    have hk : k1 = 0 ∨ k1 = 1 ∨ k1 = 2 ∨ k1 = 3 := by omega
    rcases hk with e | e | e | e
    · exact ⟨p, _, k1, V.str (T [97, 98]), rfl, rfl, hL, at_of (j := 0) e (by decide +kernel), q _ H1 (by decide) ((Stp.of sm).trans s1) R1⟩
    · exact ⟨p, _, k1, V.str (T [97, 98, 99]), rfl, rfl, hL, at_of (j := 1) e (by decide +kernel), q _ H1 (by decide) ((Stp.of sm).trans s1) R1⟩
    · exact ⟨p, _, k1, V.str (T [97, 99]), rfl, rfl, hL, at_of (j := 2) e (by decide +kernel), q _ H1 (by decide) ((Stp.of sm).trans s1) R1⟩
    · exact ⟨p, _, k1, V.str (T [97, 98, 99, 100]), rfl, rfl, hL, at_of (j := 3) e (by decide +kernel), q _ H1 (by decide) ((Stp.of sm).trans s1) R1⟩
end
end Say
/- written by k25/genbk.py -/
namespace Say
open PySem PySem.Spec PyProof.Rows L2 L2.DX
/-- which signs a drawn book has -/
structure SgB (L : List Nat) (rs : List Rule) (es : List Exc) : Prop where
  l : L ∈ lets
  r : ∀ ρ ∈ rs, ∀ c ∈ ρ.so, c = 65 ∨ c = 66
  e : ∀ e ∈ es, ∀ c ∈ e.2, c = 65 ∨ c = 66 ∨ c = 68
theorem let_ok {L : List Nat} (h : L ∈ lets) : LetOk L := by
  have : ∀ L ∈ lets, LetOk L := by
    intro L h
    simp only [lets, List.mem_cons, List.not_mem_nil, or_false] at h
    rcases h with rfl | rfl | rfl | rfl <;> exact ⟨by decide, by decide, by decide, by decide⟩
  exact this L h
section
variable {P : Program} {w : World} {K : PySem.W.Frag} {mg : Str → Option Value} {base : Heap}
abbrev sLBk : Stmt := topS 92
theorem scLBk : FnScope ["_law_row_here", "_law_letters_here"] ["_law_row_here"] (defScope sLBk) := ⟨rfl, rfl, rfl, by decide +kernel, rfl, by decide +kernel, by decide +kernel⟩
def spLB4 (K : PySem.W.Frag) : Sp := fun vs H Q _ => ∃ (r a : Addr) (ns : List Int), vs = [.ref r] ∧ RowAt K H r a ns ∧
  ∀ (b : Addr) (L : List Nat) (rs : List Rule) (es : List Exc) (H' : Hp), BookOk L rs es → (SgB L rs es ∧ rs.length ≤ 10) → BookAt H' b L rs es → Stp r H H' → RowAt K H' r a ns → Q (.ref b) H'
theorem ok_LB4 {f : Addr} {fd : FuncData} (F : Fun K "_law_book" "_law_book" sLBk f fd) (DLe : Df P w K mg base "_law_letters" ["_law_row_here"] 2 (spLetters K))
    (DRu : Df P w K mg base "_law_rules" ["_law_row_here", "_law_letters_here", "_law_most"] 4 (spRules K)) (DEx : Df P w K mg base "_law_exceptions" ["_law_row_here", "_law_letters_here", "_law_most"] 3 (spLE4 K)) :
    FnOk P w K mg base CX0 5 f fd ["_law_row_here"] (spLB4 K) := by
  obtain ⟨fL, fdL, GL, kL, bL, mL⟩ := DLe
  obtain ⟨fR, fdR, GR, kR, bR, mR⟩ := DRu
  obtain ⟨fE, fdE, GE, kE, bE, mE⟩ := DEx
  refine F.ok scLBk (fun vs H Q E h => ?_) (fun cdv A outer s H vs Q E hr h => ?_)
  · obtain ⟨r, a, ns, rfl, _⟩ := h
    rfl
  · obtain ⟨r, a, ns, rfl, R, q⟩ := h
    refine ⟨_, pss_cons (ps_set (i := 1) scLBk.nd rfl (.inl rfl) (pe_call GL (hr.mono (by decide)) (by rfl) mL kL bL .nil pass0 (pa_cons (pv 0) pa_nil)))
      (pss_one (ps_ret (pe_tup (pa_cons (pv 1) (pa_cons (pe_call GR hr (by rfl) mR kR bR .nil pass0 (pa_cons (pv 0) (pa_cons (pv 1) (pa_cons pe_int pa_nil))))
        (pa_cons (pe_call GE (hr.mono (by decide)) (by rfl) mE kE bE .nil pass0 (pa_cons (pv 0) (pa_cons (pv 1) (pa_cons pe_int pa_nil)))) pa_nil)))))), ?_⟩
    refine ⟨_, rfl, r, a, ns, rfl, R, fun L H1 hL s1 R1 => ?_⟩
    have oL := let_ok hL
    have l2 := oL.l2
    have l4 := oL.l4
    refine ⟨_, rfl, _, rfl, _, rfl, r, a, ns, L, 6, rfl, R1, by omega, by omega, by decide, fun rs Ra H2 ho hlen hR s2 R2 => ?_⟩
    refine ⟨_, rfl, _, rfl, r, a, ns, L, 3, rfl, R2, oL, by decide, fun es X H3 hes hel hup hX s3 R3 => ?_⟩
    refine ⟨(by show 3 ≤ sizeLine; decide), fun b hb => ?_⟩
    have sb := same_new hb (.tup [.str (T L), .ref Ra, .ref X])
    exact q b L rs es _ ⟨oL, fun ρ hρ => (ho ρ hρ).1, by omega, fun e he => (hes e he).1, by omega, hup⟩ ⟨⟨hL, fun ρ hρ => (ho ρ hρ).2, fun e he => (hes e he).2.2⟩, by omega⟩ ⟨Ra, X, upd_same, hR.kt ((R2.kt s3).trans (.of sb)), hX.kt (.of sb)⟩ (s1.trans (s2.trans (s3.trans (.of sb)))) (R3.stp sb)
end
end Say
namespace Say
open PySem PySem.Spec PyProof.Rows L2 L2.DX
/-- a sign by the other names -/
def tr (c : Nat) : Nat := if c = 0 then 0 else if c = 35 then 35 else if c = 65 then 81 else if c = 66 then 82 else if c = 68 then 83 else if c = 97 then 107 else if c = 98 then 109 else if c = 99 then 112 else if c = 100 then 122 else c + 1000
theorem tr_inj {a b : Nat} (h : tr a = tr b) : a = b := by
  unfold tr at h
  repeat' split at h
  all_goals omega
theorem trW_inj : ∀ {a b : List Nat}, a.map tr = b.map tr → a = b
  | [], [], _ => rfl
  | [], _ :: _, h => by cases h
  | _ :: _, [], h => by cases h
  | x :: xs, y :: ys, h => by
    rw [List.map_cons, List.map_cons] at h
    injection h with h1 h2
    rw [tr_inj h1, trW_inj h2]
theorem trW_iff {a b : List Nat} : a.map tr = b.map tr ↔ a = b := ⟨trW_inj, fun h => by rw [h]⟩
theorem tr_mem {c : Nat} {l : List Nat} : tr c ∈ l.map tr ↔ c ∈ l := ⟨fun h => by
  obtain ⟨d, hd, e⟩ := List.mem_map.mp h
  rw [← tr_inj e]
  exact hd, fun h => List.mem_map.mpr ⟨c, h, rfl⟩⟩
theorem tr_nil {l : List Nat} : l.map tr = [] ↔ l = [] := List.map_eq_nil_iff
theorem getD_tr : ∀ (z : List Nat) (i : Nat), (z.map tr).getD i 0 = tr (z.getD i 0)
  | [], i => by simp [tr]
  | x :: xs, 0 => rfl
  | x :: xs, i + 1 => by
    have := getD_tr xs i
    simpa using this
def trR (ρ : Rule) : Rule := ⟨ρ.ah.map tr, ρ.ow.map tr, ρ.be.map tr, ρ.so.map tr⟩
def trE (e : Exc) : Exc := (e.1.map tr, e.2.map tr)
theorem fits_tr (ρ : Rule) (z : List Nat) (i : Nat) : fitsL (trR ρ) (z.map tr) i = fitsL ρ z i := by
  unfold fitsL trR
  dsimp only
  rw [List.length_map, ← List.map_drop, ← List.map_take, getD_tr, getD_tr]
  have e1 : decide (ρ.ah.map tr = []) = decide (ρ.ah = []) := decide_eq_decide.mpr tr_nil
  have e2 : decide (ρ.be.map tr = []) = decide (ρ.be = []) := decide_eq_decide.mpr tr_nil
  have e3 : decide (tr (z.getD (i - 1) 0) ∈ ρ.ah.map tr) = decide (z.getD (i - 1) 0 ∈ ρ.ah) := decide_eq_decide.mpr tr_mem
  have e4 : decide (tr (z.getD (i + ρ.ow.length) 0) ∈ ρ.be.map tr) = decide (z.getD (i + ρ.ow.length) 0 ∈ ρ.be) := decide_eq_decide.mpr tr_mem
  rw [e1, e2, e3, e4]
  by_cases c : (z.drop i).take ρ.ow.length = ρ.ow
  · rw [if_pos c, if_pos (by rw [c])]
  · rw [if_neg c, if_neg (fun h => c (trW_inj h))]
theorem ff_tr (rs : List Rule) (z : List Nat) (i : Nat) : ff (rs.map trR) (z.map tr) i = ff rs z i := by
  unfold ff
  rw [List.findIdx?_map]
  congr 1
  funext ρ
  exact fits_tr ρ z i
theorem ruleAt_tr (rs : List Rule) (k : Nat) : ruleAt (rs.map trR) k = trR (ruleAt rs k) := by
  unfold ruleAt
  rw [List.getD_eq_getElem?_getD, List.getD_eq_getElem?_getD, List.getElem?_map]
  cases rs[k]? <;> rfl
theorem wk_tr (rs : List Rule) (z : List Nat) : ∀ m i : Nat, wk (rs.map trR) (z.map tr) m i = wk rs z m i
  | 0, i => rfl
  | m + 1, i => by
    unfold wk
    rw [List.length_map, ff_tr]
    by_cases c : i < z.length - 1
    · rw [if_pos c, if_pos c]
      cases ff rs z i with
      | none => rfl
      | some k =>
        have e : (ruleAt (rs.map trR) k).ow.length = (ruleAt rs k).ow.length := by rw [ruleAt_tr]; exact List.length_map _
        dsimp only
        rw [e, wk_tr rs z m]
    · rw [if_neg c, if_neg c]
theorem sgn_tr (w : List Nat) : sgn (w.map tr) = (sgn w).map tr := by
  unfold sgn
  rw [List.map_cons, List.map_append]
  rfl
theorem W_tr (rs : List Rule) (w : List Nat) : W (rs.map trR) (w.map tr) = W rs w := by
  unfold W
  rw [sgn_tr, List.length_map, wk_tr]
theorem soL_tr (rs : List Rule) (ks : List Nat) : soL (rs.map trR) ks = (soL rs ks).map tr := by
  unfold soL
  rw [List.map_flatten, List.map_map]
  congr 1
  refine List.map_congr_left fun k _ => ?_
  rw [ruleAt_tr]
  rfl
theorem sayW_tr (rs : List Rule) (w : List Nat) : sayW (rs.map trR) (w.map tr) = (sayW rs w).map (·.map tr) := by
  unfold sayW
  rw [W_tr, soL_tr]
  by_cases c : (W rs w).2 = none
  · rw [if_pos c, if_pos c]; rfl
  · rw [if_neg c, if_neg c]; rfl
theorem saidM_tr (rs : List Rule) (es : List Exc) (w : List Nat) : saidM (rs.map trR) (es.map trE) (w.map tr) = (saidM rs es w).map (·.map tr) := by
  unfold saidM
  have e : (es.map trE).find? (fun e => decide (e.1 = w.map tr)) = (es.find? fun e => decide (e.1 = w)).map trE := by
    rw [List.find?_map]
    congr 2
    funext e
    exact decide_eq_decide.mpr trW_iff
  rw [e]
  cases es.find? fun e => decide (e.1 = w) with
  | some x => rfl
  | none => exact sayW_tr rs w
theorem optW_iff {a b : Option (List Nat)} : a.map (·.map tr) = b.map (·.map tr) ↔ a = b := by
  cases a with
  | none =>
    cases b with
    | none => exact Iff.rfl
    | some b => exact ⟨fun h => (by cases h), fun h => (by cases h)⟩
  | some a =>
    cases b with
    | none => exact ⟨fun h => (by cases h), fun h => (by cases h)⟩
    | some b => exact ⟨fun h => by rw [trW_inj (Option.some.inj h)], fun h => by rw [h]⟩
/-- every word of the other letters is one of these -/
theorem over_tr {L : List Nat} : ∀ {w : List Nat}, (∀ c ∈ w, c ∈ L.map tr) → ∃ u : List Nat, w = u.map tr ∧ ∀ c ∈ u, c ∈ L
  | [], _ => ⟨[], rfl, fun c hc => nomatch hc⟩
  | x :: xs, h => by
    obtain ⟨u, rfl, hu⟩ := over_tr (w := xs) fun c hc => h c (List.mem_cons_of_mem _ hc)
    obtain ⟨d, hd, e⟩ := List.mem_map.mp (h x (List.mem_cons_self ..))
    refine ⟨d :: u, by rw [List.map_cons, e], fun c hc => ?_⟩
    rcases List.mem_cons.mp hc with rfl | hc
    · exact hd
    · exact hu c hc
theorem tr_over {L w : List Nat} (h : ∀ c ∈ w, c ∈ L) : ∀ c ∈ w.map tr, c ∈ L.map tr := fun c hc => by
  obtain ⟨d, hd, rfl⟩ := List.mem_map.mp hc
  exact tr_mem.mpr (h d hd)
/-! ### the order of letters -/
def Abcd (L : List Nat) : Prop := ∀ c ∈ L, 97 ≤ c ∧ c ≤ 100
theorem tr_lt {a b : Nat} (ha : 97 ≤ a ∧ a ≤ 100) (hb : 97 ≤ b ∧ b ≤ 100) : tr a < tr b ↔ a < b := by
  have h1 : a = 97 ∨ a = 98 ∨ a = 99 ∨ a = 100 := by omega
  have h2 : b = 97 ∨ b = 98 ∨ b = 99 ∨ b = 100 := by omega
  rcases h1 with rfl | rfl | rfl | rfl <;> rcases h2 with rfl | rfl | rfl | rfl <;> decide
theorem lex_tr : ∀ {a b : List Nat}, Abcd a → Abcd b → (a.map tr < b.map tr ↔ a < b)
  | [], [], _, _ => by simp
  | [], y :: ys, _, _ => by simp
  | x :: xs, [], _, _ => by simp
  | x :: xs, y :: ys, ha, hb => by
    have hx := ha x (List.mem_cons_self ..)
    have hy := hb y (List.mem_cons_self ..)
    have ih := lex_tr (a := xs) (b := ys) (fun c hc => ha c (List.mem_cons_of_mem _ hc)) fun c hc => hb c (List.mem_cons_of_mem _ hc)
    rw [List.map_cons, List.map_cons, List.cons_lt_cons_iff, List.cons_lt_cons_iff, tr_lt hx hy, ih]
    constructor
    · rintro (h | ⟨h, h'⟩)
      · exact .inl h
      · exact .inr ⟨tr_inj h, h'⟩
    · rintro (h | ⟨h, h'⟩)
      · exact .inl h
      · exact .inr ⟨by rw [h], h'⟩
theorem sle_tr' {a b : List Nat} (ha : Abcd a) (hb : Abcd b) : sle (a.map tr) (b.map tr) ↔ sle a b := by
  unfold sle sl
  rw [trW_iff, List.length_map, List.length_map, lex_tr ha hb]
theorem abcd_of {L w : List Nat} (h : Abcd L) (hw : ∀ c ∈ w, c ∈ L) : Abcd w := fun c hc => h c (hw c hc)
/-- a text or None by other names -/
def trV : V → V
  | .str z => .str (T (z.cps.toList.map tr))
  | v => v
theorem trV_T (w : List Nat) : trV (.str (T w)) = .str (T (w.map tr)) := rfl
/-- what is least of a kind of words -/
def LeastOf (P : List Nat → Prop) (L : List Nat) (v : V) : Prop := (v = .non ∧ ∀ w : List Nat, (∀ c ∈ w, c ∈ L) → ¬ P w) ∨ ∃ w : List Nat, v = .str (T w) ∧ (∀ c ∈ w, c ∈ L) ∧ P w ∧ ∀ w' : List Nat, (∀ c ∈ w', c ∈ L) → P w' → sle w w'
theorem leastN_of {rs : List Rule} {L : List Nat} {v : V} (h : LeastIsN rs L v) : LeastOf (fun w => (W rs w).2 ≠ none) L v := by
  rcases h with ⟨e, h⟩ | ⟨w, e, h1, _, h2, h3⟩
  · exact .inl ⟨e, fun w hw n => n (h w hw)⟩
  · exact .inr ⟨w, e, h1, h2, h3⟩
theorem leastU_of {rs : List Rule} {k : Nat} {L : List Nat} {v : V} (h : LeastIs rs k L v) : LeastOf (UsedBy rs k) L v := by
  rcases h with ⟨e, h⟩ | ⟨w, e, h1, _, h2, h3⟩
  · exact .inl ⟨e, h⟩
  · exact .inr ⟨w, e, h1, h2, h3⟩
theorem least_tr {P P' : List Nat → Prop} {L : List Nat} {v v' : V} (hL : Abcd L) (hp : ∀ w, P' (w.map tr) ↔ P w) (h : LeastOf P L v) (h' : LeastOf P' (L.map tr) v') : v' = trV v := by
  rcases h with ⟨rfl, h⟩ | ⟨w, rfl, h1, h2, h3⟩
  · rcases h' with ⟨rfl, _⟩ | ⟨w', rfl, g1, g2, g3⟩
    · rfl
    · obtain ⟨u, rfl, hu⟩ := over_tr g1
      exact absurd ((hp u).mp g2) (h u hu)
  · rcases h' with ⟨rfl, h'⟩ | ⟨w', rfl, g1, g2, g3⟩
    · exact absurd ((hp w).mpr h2) (h' _ (tr_over h1))
    · obtain ⟨u, rfl, hu⟩ := over_tr g1
      have a := h3 u hu ((hp u).mp g2)
      have b := (sle_tr' (abcd_of hL hu) (abcd_of hL h1)).mp (g3 _ (tr_over h1) ((hp w).mpr h2))
      rw [trV_T, sle_anti a b]
theorem uns_tr {rs : List Rule} {L : List Nat} {v v' : V} (hL : Abcd L) (h : LeastIsN rs L v) (h' : LeastIsN (rs.map trR) (L.map tr) v') : v' = trV v :=
  least_tr hL (fun w => by rw [W_tr]) (leastN_of h) (leastN_of h')
theorem used_tr {rs : List Rule} {k : Nat} {w : List Nat} : UsedBy (rs.map trR) k (w.map tr) ↔ UsedBy rs k w := by
  unfold UsedBy
  rw [W_tr]
theorem use_tr {rs : List Rule} {k : Nat} {L : List Nat} {v v' : V} (hL : Abcd L) (h : LeastIs rs k L v) (h' : LeastIs (rs.map trR) k (L.map tr) v') : v' = trV v :=
  least_tr hL (fun w => used_tr) (leastU_of h) (leastU_of h')
theorem idle_tr (rs : List Rule) (L : List Nat) (n : Nat) : idleL (rs.map trR) (L.map tr) n = idleL rs L n := by
  unfold idleL
  refine List.filter_congr fun k _ => decide_eq_decide.mpr ⟨fun h w hw u => h _ (tr_over hw) (used_tr.mpr u), fun h w hw u => ?_⟩
  obtain ⟨x, rfl, hx⟩ := over_tr hw
  exact h x hx (used_tr.mp u)
theorem swap_tr (rs : List Rule) (k : Nat) : swapL (rs.map trR) k = (swapL rs k).map trR := by
  unfold swapL
  rw [ruleAt_tr, ruleAt_tr, List.map_append, List.map_append, List.map_take, List.map_drop]
  rfl
theorem free_tr (rs : List Rule) (L : List Nat) (n : Nat) : freeL (rs.map trR) (L.map tr) n = freeL rs L n := by
  have pt : ∀ k w, Parted ⟨rs.map trR, swapL (rs.map trR) k, [], []⟩ (w.map tr) ↔ Parted ⟨rs, swapL rs k, [], []⟩ w := fun k w => by
    unfold Parted
    dsimp only
    rw [swap_tr]
    have a := saidM_tr rs [] w
    have b := saidM_tr (swapL rs k) [] w
    rw [List.map_nil] at a b
    rw [a, b]
    exact not_congr optW_iff
  unfold freeL
  refine List.filter_congr fun k _ => decide_eq_decide.mpr ⟨fun h w hw u => h _ (tr_over hw) ((pt k w).mpr u), fun h w hw u => ?_⟩
  obtain ⟨x, rfl, hx⟩ := over_tr hw
  exact h x hx ((pt k x).mp u)
theorem need_tr (rs : List Rule) (es : List Exc) : needM (rs.map trR) (es.map trE) = (needM rs es).map trE := by
  unfold needM
  rw [List.filter_map]
  congr 1
  refine List.filter_congr fun e _ => ?_
  show decide (sayW (rs.map trR) (e.1.map tr) = some (e.2.map tr)) = decide (sayW rs e.1 = some e.2)
  rw [sayW_tr]
  exact decide_eq_decide.mpr (optW_iff (b := some e.2))
theorem lv_tr (L : List Nat) : ∀ n : Nat, lv (L.map tr) n = (lv L n).map (·.map tr)
  | 0 => rfl
  | n + 1 => by
    unfold lv
    rw [lv_tr L n, List.flatMap_map, List.map_flatMap]
    congr 1
    funext w
    rw [List.map_map, List.map_map]
    refine List.map_congr_left fun c _ => ?_
    simp
theorem upto_tr (L : List Nat) (n : Nat) : upto (L.map tr) n = (upto L n).map (·.map tr) := by
  unfold upto
  rw [List.map_flatMap]
  congr 1
  funext k
  exact lv_tr L k
theorem writ_tr (rs : List Rule) (es : List Exc) (so L : List Nat) (n : Nat) : writM (rs.map trR) (es.map trE) (so.map tr) (L.map tr) n = (writM rs es so L n).map (·.map tr) := by
  unfold writM
  rw [upto_tr, List.filter_map]
  congr 1
  refine List.filter_congr fun w _ => ?_
  show decide (saidM (rs.map trR) (es.map trE) (w.map tr) = some (so.map tr)) = decide (saidM rs es w = some so)
  rw [saidM_tr]
  exact decide_eq_decide.mpr (optW_iff (b := some so))
/-! ### the book by other names is a book -/
theorem abcd_lets {L : List Nat} (h : L ∈ lets) : Abcd L := by
  simp only [lets, List.mem_cons, List.not_mem_nil, or_false] at h
  rcases h with rfl | rfl | rfl | rfl <;> (intro c hc; simp at hc; omega)
theorem let_tr {L : List Nat} (h : L ∈ lets) : LetOk (L.map tr) := by
  simp only [lets, List.mem_cons, List.not_mem_nil, or_false] at h
  rcases h with rfl | rfl | rfl | rfl <;> exact ⟨by decide, by decide, by decide, by decide⟩
theorem so_tr {c : Nat} (h : c = 65 ∨ c = 66 ∨ c = 68) : 65 ≤ tr c ∧ tr c ≤ 90 := by
  rcases h with rfl | rfl | rfl <;> decide
theorem book_tr {L : List Nat} {rs : List Rule} {es : List Exc} (oB : BookOk L rs es) (g : SgB L rs es) : BookOk (L.map tr) (rs.map trR) (es.map trE) := by
  have ab := abcd_lets g.l
  refine ⟨let_tr g.l, fun ρ hρ => ?_, by rw [List.length_map]; exact oB.r12, fun e he => ?_, by rw [List.length_map]; exact oB.e8, ?_⟩
  · obtain ⟨σ, hσ, rfl⟩ := List.mem_map.mp hρ
    have o := oB.rl σ hσ
    have sub : ∀ {l : List Nat}, l.Sublist (35 :: L) → (l.map tr).Sublist (35 :: L.map tr) := fun h => by
      have := h.map tr
      rw [List.map_cons] at this
      exact this
    refine ⟨sub o.ah, tr_over o.ow, by show 1 ≤ (σ.ow.map tr).length; rw [List.length_map]; exact o.o1, by show (σ.ow.map tr).length ≤ 2; rw [List.length_map]; exact o.o2, sub o.be, fun c hc => ?_, by show (σ.so.map tr).length ≤ 3; rw [List.length_map]; exact o.s3⟩
    obtain ⟨d, hd, rfl⟩ := List.mem_map.mp hc
    exact so_tr (by rcases g.r σ hσ d hd with h | h <;> simp [h])
  · obtain ⟨x, hx, rfl⟩ := List.mem_map.mp he
    have o := oB.ex x hx
    refine ⟨tr_over o.w, by show 1 ≤ (x.1.map tr).length; rw [List.length_map]; exact o.w1, by show (x.1.map tr).length ≤ 8; rw [List.length_map]; exact o.w8, fun c hc => ?_, by show (x.2.map tr).length ≤ 36; rw [List.length_map]; exact o.s36⟩
    obtain ⟨d, hd, rfl⟩ := List.mem_map.mp hc
    exact so_tr (g.e x hx d hd)
  · rw [List.pairwise_map]
    refine oB.up.imp_of_mem fun {a b} ha hb h => ?_
    exact (lex_tr (abcd_of ab (oB.ex a ha).w) (abcd_of ab (oB.ex b hb).w)).mpr h
end Say
namespace Say
open PySem PySem.Spec PyProof.Rows L2
section
variable {P : Program} {w : World} {K : PySem.W.Frag} {mg : Str → Option Value} {base : Heap}
theorem ty_list {H : Hp} {a : Addr} {xs : List V} (h : SqL K H a xs) : TyX K H (.ref a) (.type "list") := by
  rcases h with (h | ⟨o, h⟩) | ⟨o, its, n, h, hc, _⟩
  · exact .base (.lst h)
  · exact .base (.frz h)
  · exact .kList h hc
theorem ty_tup {H : Hp} {a : Addr} {xs : List V} (h : SqT K H a xs) : TyX K H (.ref a) (.type "tuple") := by
  rcases h with (h | ⟨o, h⟩) | ⟨o, its, n, h, hc, _⟩
  · exact .base (.tup h)
  · exact .fTuple h
  · exact .kTuple h hc
abbrev sAl : Stmt := topS 94
abbrev psAl : List Str := ["_law_found", "_law_due"]
theorem scAl : FnScope ["_law_found", "_law_due", "_law_same_kind", "_law_k"] ["_law_found", "_law_due"] (defScope sAl) := ⟨rfl, rfl, rfl, by decide +kernel, rfl, by decide +kernel, by decide +kernel⟩
/-- two values of the same data, not too deep -/
def spAl (K : PySem.W.Frag) (n : Nat) : Sp := fun vs H Q _ => ∃ (x y : V) (d : PyData), vs = [x, y] ∧ Dp K H x d ∧ Dp K H y d ∧ Few d ∧ d.depth < n ∧ ∀ H', Same H H' → Q (.bl true) H'
theorem kit2 {t a b : String} {r : Bool} (h : (match kitB t a, kitB t b with | some true, _ => some true | some false, some x => some x | _, _ => none) = some r) (h2 : kitB t b ≠ none) : PySem.W.kitAny K (.type t) [.type a, .type b] = some r := by
  cases ha : kitB t a with
  | none => rw [ha] at h; cases h
  | some x =>
    rw [ha] at h
    cases x with
    | true =>
      have h : some true = some r := h
      cases h
      exact kitAny_cons (kit_ty ha) (fun z => by cases z) fun _ => rfl
    | false =>
      cases hb : kitB t b with
      | none => exact absurd hb h2
      | some y =>
        rw [hb] at h
        have h : some y = some r := h
        cases h
        refine kitAny_cons (kit_ty ha) (fun _ => ?_) fun z => by cases z
        refine kitAny_cons (kit_ty hb) (fun z => ?_) fun z => z
        rw [z]
        exact kitAny_nil
def tTL : TE := tTup (tCons (tC (.ty "tuple")) (tCons (tC (.ty "list")) tNil))
theorem ok_al {f : Addr} {fd : FuncData} {n : Nat} (F : Fun K "_law_alike" "_law_alike" sAl f fd) (G : FnOk P w K mg base CX0 n f fd psAl (spAl K n)) (bG : Binds K fd psAl []) (mG : mg "_law_alike" = some (.ref f)) (B : Bn mg) :
    FnOk P w K mg base CX0 (n + 1) f fd psAl (spAl K (n + 1)) := by
  refine F.ok scAl (fun vs H Q E h => ?_) (fun cdv A outer s H vs Q E hr h => ?_)
  · obtain ⟨x, y, d, rfl, _⟩ := h
    rfl
  · obtain ⟨x, y, d, rfl, hx, hy, hF, hd, q⟩ := h
    refine ⟨_, pss_cons (ps_if (pt_val (pe_callB call_isiT (by rfl) B.isi (by decide +kernel) (pa_cons (pv 1) (pa_cons (pe_tup (pa_cons (pe_bltn (v := .ty "tuple") rfl B.tup (by decide +kernel) rfl) (pa_cons (pe_bltn (v := .ty "list") rfl B.lst (by decide +kernel) rfl) pa_nil))) pa_nil))))
        (pss_cons (ps_if (PW.pt (pw_or (pt_cmpR op_ne (pe_callB call_isi (by rfl) B.isi (by decide +kernel) (pa_cons (pv 0) (pa_cons (pe_bltn (v := .ty "tuple") rfl B.tup (by decide +kernel) rfl) pa_nil))) (pe_callB call_isi (by rfl) B.isi (by decide +kernel) (pa_cons (pv 1) (pa_cons (pe_bltn (v := .ty "tuple") rfl B.tup (by decide +kernel) rfl) pa_nil))) (nomark _))
            (pw_or1 (pt_not (pt_val (pe_callB call_isiT (by rfl) B.isi (by decide +kernel) (pa_cons (pv 0) (pa_cons (pe_tup (pa_cons (pe_bltn (v := .ty "tuple") rfl B.tup (by decide +kernel) rfl) (pa_cons (pe_bltn (v := .ty "list") rfl B.lst (by decide +kernel) rfl) pa_nil))) pa_nil)))))))) (pss_one (ps_ret pe_bl)) pss_nil)
        (pss_cons (ps_if (pt_cmpR op_ne (pe_callB call_len (by rfl) B.len PySem.boot_len (pa_cons (pv 0) pa_nil)) (pe_callB call_len (by rfl) B.len PySem.boot_len (pa_cons (pv 1) pa_nil)) (nomark _)) (pss_one (ps_ret pe_bl)) pss_nil)
        (pss_one (ps_ret (pe_cmpR (op_eqD hr.units) (pe_lc (own := [("_law_k", 3)]) (g := gName 3) (te := tVar 3) (tt := tNot (tB (tCall (spAl K n) [] E0 (tCons (tOp (rIx K) (tVar 0) (tVar 3)) (tCons (tOp (rIx K) (tVar 1) (tVar 3)) tNil))))) rfl scAl.nd
            (pi_range1 rfl B.rng (pa_cons (pe_callB call_len (by rfl) B.len PySem.boot_len (pa_cons (pv 1) pa_nil)) pa_nil))
            (blkOk_by (N := ["_law_found", "_law_due", "_law_same_kind", "_law_k"]) (sc := defScope sAl) (by decide +kernel)) (fun _ _ _ _ _ => pg_name (i := 3) scAl.nd rfl (.inl rfl))
            (fun _ _ _ _ _ => pts_one (pt_not (pt_val (pe_call G hr (by rfl) mG F.kp bG .nil pass0 (pa_cons (pe_ix ix_seq (pv 0) (pv 3) (fun _ _ => rfl)) (pa_cons (pe_ix ix_seq (pv 1) (pv 3) (fun _ _ => rfl)) pa_nil)))))) (fun _ _ _ _ _ => pv 3)) (pe_lst pa_nil) (nomark _)))))) pss_nil)
      (pss_cons (ps_if (PW.pt (pw_or (pt_cmpR op_isN (pv 1) pe_non (nomark _)) (pw_or1 (pt_cmpR op_isN (pv 0) pe_non (nomark _))))) (pss_one (ps_ret (pe_and (pe_cmpR op_isN (pv 1) pe_non (nomark _)) (pe_one (pe_cmpR op_isN (pv 0) pe_non (nomark _)))))) pss_nil)
      (pss_cons (ps_set (i := 2) scAl.nd rfl (.inl rfl) (pe_cmpR op_eq (pe_callB call_isi (by rfl) B.isi (by decide +kernel) (pa_cons (pv 1) (pa_cons (pe_bltn (v := .ty "str") rfl B.str (by decide +kernel) rfl) pa_nil))) (pe_callB call_isi (by rfl) B.isi (by decide +kernel) (pa_cons (pv 0) (pa_cons (pe_bltn (v := .ty "str") rfl B.str (by decide +kernel) rfl) pa_nil))) (nomark _)))
      (pss_one (ps_ret (pe_and (pv 2) (pe_and (pe_cmpR op_eq (pe_callB call_isi (by rfl) B.isi (by decide +kernel) (pa_cons (pv 1) (pa_cons (pe_bltn (v := .ty "bool") rfl B.bool (by decide +kernel) rfl) pa_nil))) (pe_callB call_isi (by rfl) B.isi (by decide +kernel) (pa_cons (pv 0) (pa_cons (pe_bltn (v := .ty "bool") rfl B.bool (by decide +kernel) rfl) pa_nil))) (nomark _))
        (pe_one (pe_cmpR op_eq (pv 0) (pv 1) (nomark _))))))))), ?_⟩
    have clsTL : Paired ClsV [.ty "tuple", .ty "list"] [.type "tuple", .type "list"] := .cons (.ty _) (.cons (.ty _) .nil)
    cases d with
    | none =>
      cases hx
      cases hy
      refine ⟨_, rfl, (by show 2 ≤ sizeLine; decide), fun N hN => ?_⟩
      have sN := same_new hN (.tup [.ty "tuple", .ty "list"])
      refine ⟨_, N, _, .type "NoneType", _, false, rfl, upd_same, clsTL, .base (.non), kit2 (by decide +kernel) (by decide +kernel), false, rfl, iteF ?_⟩
      refine ⟨_, rfl, rfl, _, rfl, iteT ?_⟩
      refine ⟨_, rfl, rfl, _, rfl, iteT ?_⟩
      exact ⟨_, rfl, rfl, q _ sN⟩
    | bool v =>
      cases hx
      cases hy
      refine ⟨_, rfl, (by show 2 ≤ sizeLine; decide), fun N hN => ?_⟩
      have sN := same_new hN (.tup [.ty "tuple", .ty "list"])
      refine ⟨_, N, _, .type "bool", _, false, rfl, upd_same, clsTL, .base (.bl _), kit2 (by decide +kernel) (by decide +kernel), false, rfl, iteF ?_⟩
      have nn : decide (V.bl v = V.non) = false := decide_eq_false (fun z => by cases z)
      refine ⟨_, rfl, rfl, _, rfl, ?_⟩
      rw [nn]
      refine iteF ?_
      refine ⟨_, rfl, rfl, _, rfl, ?_⟩
      rw [nn]
      refine iteF ?_
      refine ⟨_, rfl, _, _, .type "bool", _, false, rfl, ClsV.ty _, .base (.bl _), kit_ty (by decide +kernel), _, rfl, _, _, .type "bool", _, false, rfl, ClsV.ty _, .base (.bl _), kit_ty (by decide +kernel), rfl, ?_⟩
      refine ⟨_, rfl, true, rfl, iteT ?_⟩
      refine ⟨_, rfl, _, _, .type "bool", _, true, rfl, ClsV.ty _, .base (.bl _), kit_ty (by decide +kernel), _, rfl, _, _, .type "bool", _, true, rfl, ClsV.ty _, .base (.bl _), kit_ty (by decide +kernel), rfl, true, rfl, iteT ?_⟩
      refine ⟨_, rfl, _, rfl, rfl, ?_⟩
      rw [decide_eq_true rfl]
      exact q _ sN
    | int v =>
      cases hx
      cases hy
      refine ⟨_, rfl, (by show 2 ≤ sizeLine; decide), fun N hN => ?_⟩
      have sN := same_new hN (.tup [.ty "tuple", .ty "list"])
      refine ⟨_, N, _, .type "int", _, false, rfl, upd_same, clsTL, .base (.int _), kit2 (by decide +kernel) (by decide +kernel), false, rfl, iteF ?_⟩
      have nn : decide (V.int v = V.non) = false := decide_eq_false (fun z => by cases z)
      refine ⟨_, rfl, rfl, _, rfl, ?_⟩
      rw [nn]
      refine iteF ?_
      refine ⟨_, rfl, rfl, _, rfl, ?_⟩
      rw [nn]
      refine iteF ?_
      refine ⟨_, rfl, _, _, .type "int", _, false, rfl, ClsV.ty _, .base (.int _), kit_ty (by decide +kernel), _, rfl, _, _, .type "int", _, false, rfl, ClsV.ty _, .base (.int _), kit_ty (by decide +kernel), rfl, ?_⟩
      refine ⟨_, rfl, true, rfl, iteT ?_⟩
      refine ⟨_, rfl, _, _, .type "int", _, false, rfl, ClsV.ty _, .base (.int _), kit_ty (by decide +kernel), _, rfl, _, _, .type "int", _, false, rfl, ClsV.ty _, .base (.int _), kit_ty (by decide +kernel), rfl, true, rfl, iteT ?_⟩
      refine ⟨_, rfl, _, rfl, rfl, ?_⟩
      rw [decide_eq_true rfl]
      exact q _ sN
    | str v =>
      cases hx
      cases hy
      refine ⟨_, rfl, (by show 2 ≤ sizeLine; decide), fun N hN => ?_⟩
      have sN := same_new hN (.tup [.ty "tuple", .ty "list"])
      refine ⟨_, N, _, .type "str", _, false, rfl, upd_same, clsTL, .base (.str _), kit2 (by decide +kernel) (by decide +kernel), false, rfl, iteF ?_⟩
      have nn : decide (V.str v = V.non) = false := decide_eq_false (fun z => by cases z)
      refine ⟨_, rfl, rfl, _, rfl, ?_⟩
      rw [nn]
      refine iteF ?_
      refine ⟨_, rfl, rfl, _, rfl, ?_⟩
      rw [nn]
      refine iteF ?_
      refine ⟨_, rfl, _, _, .type "str", _, true, rfl, ClsV.ty _, .base (.str _), kit_ty (by decide +kernel), _, rfl, _, _, .type "str", _, true, rfl, ClsV.ty _, .base (.str _), kit_ty (by decide +kernel), rfl, ?_⟩
      refine ⟨_, rfl, true, rfl, iteT ?_⟩
      refine ⟨_, rfl, _, _, .type "str", _, false, rfl, ClsV.ty _, .base (.str _), kit_ty (by decide +kernel), _, rfl, _, _, .type "str", _, false, rfl, ClsV.ty _, .base (.str _), kit_ty (by decide +kernel), rfl, true, rfl, iteT ?_⟩
      refine ⟨_, rfl, _, rfl, rfl, ?_⟩
      rw [decide_eq_true rfl]
      exact q _ sN
    | list ds =>
      cases hx with
      | @lst xa xs _ hxs dx =>
      cases hy with
      | @lst ya ys _ hys dy =>
      cases hF with
      | lst hlen hFs =>
      have lx := dpa_len dx
      have ly := dpa_len dy
      have hd' : PyData.depthAll ds + 1 < n + 1 := hd
      refine ⟨_, rfl, (by show 2 ≤ sizeLine; decide), fun N hN => ?_⟩
      have sN := same_new hN (.tup [.ty "tuple", .ty "list"])
      refine ⟨_, N, _, .type "list", _, true, rfl, upd_same, clsTL, ty_list (Same.seq sN hys), kit2 (by decide +kernel) (by decide +kernel), true, rfl, iteT ?_⟩
      refine ⟨_, rfl, _, _, .type "list", _, false, rfl, ClsV.ty _, ty_list (Same.seq sN hxs), kit_ty (by decide +kernel), _, rfl, _, _, .type "list", _, false, rfl, ClsV.ty _, ty_list (Same.seq sN hys), kit_ty (by decide +kernel), rfl, _, rfl, iteF ?_⟩
      refine ⟨_, rfl, (by show 2 ≤ sizeLine; decide), fun M hM => ?_⟩
      have sM := sN.trans (same_new hM (.tup [.ty "tuple", .ty "list"]))
      refine ⟨_, M, _, .type "list", _, true, rfl, upd_same, clsTL, ty_list (Same.seq sM hxs), kit2 (by decide +kernel) (by decide +kernel), true, rfl, iteF ?_⟩
      refine ⟨_, rfl, _, _, rfl, .inl ⟨_, Same.seq sM hxs, rfl⟩, _, rfl, _, _, rfl, .inl ⟨_, Same.seq sM hys, rfl⟩, rfl, _, rfl, ?_⟩
      rw [lx, ly, decide_eq_true rfl]
      refine iteF ?_
      refine ⟨_, rfl, _, _, rfl, .inl ⟨_, Same.seq sM hys, rfl⟩, _, rfl, by omega, by rw [ly]; omega, fun D hD => ?_⟩
      refine lc_it (walk_range) (fun i H2 => H2 D = some (.lst []) ∧ Same H H2) ?_ (fun _ _ _ _ => trivial) ?_ ?_
      · exact ⟨upd_same, sM.trans (same_new hD _)⟩
      · rintro i v H2 H2' hi ⟨e1, e2⟩ ⟨rfl, rfl⟩
        have hi2 : i < ds.length := by rw [ly] at hi; omega
        obtain ⟨vx, gx, px⟩ := dpa_at dx (List.getElem?_eq_getElem hi2)
        obtain ⟨vy, gy, py⟩ := dpa_at dy (List.getElem?_eq_getElem hi2)
        have hm : ds[i] ∈ ds := List.getElem_mem hi2
        refine ⟨rfl, ?_⟩
        refine ⟨_, rfl, _, rfl, .inl ⟨xa, _, _, _, rfl, rfl, Same.seq e2 hxs, atI_of gx (by omega), ?_⟩⟩
        refine ⟨_, rfl, _, rfl, .inl ⟨ya, _, _, _, rfl, rfl, Same.seq e2 hys, atI_of gy (by omega), ?_⟩⟩
        refine ⟨vx, vy, ds[i], rfl, dp_same e2 px, dp_same e2 py, hFs _ hm, by have := depth_mem hm; omega, fun H3 s3 => ?_⟩
        exact ⟨true, rfl, iteF ⟨s3 _ _ e1, e2.trans s3⟩⟩
      · rintro H2 ⟨e1, e2⟩
        refine ⟨(by show 0 ≤ sizeLine; decide), fun E' hE => ?_⟩
        have sE := same_new hE (.lst [])
        refine ⟨.list [], .list [], .lst (.inl (.inl (sE _ _ e1))) .nil, .lst (.inl (.inl upd_same)) .nil, by decide +kernel, by decide +kernel, ?_⟩
        exact q _ (e2.trans sE)
    | tuple ds =>
      cases hx with
      | @tup xa xs _ hxs dx =>
      cases hy with
      | @tup ya ys _ hys dy =>
      cases hF with
      | tup hlen hFs =>
      have lx := dpa_len dx
      have ly := dpa_len dy
      have hd' : PyData.depthAll ds + 1 < n + 1 := hd
      refine ⟨_, rfl, (by show 2 ≤ sizeLine; decide), fun N hN => ?_⟩
      have sN := same_new hN (.tup [.ty "tuple", .ty "list"])
      refine ⟨_, N, _, .type "tuple", _, true, rfl, upd_same, clsTL, ty_tup (Same.seqT sN hys), kit2 (by decide +kernel) (by decide +kernel), true, rfl, iteT ?_⟩
      refine ⟨_, rfl, _, _, .type "tuple", _, true, rfl, ClsV.ty _, ty_tup (Same.seqT sN hxs), kit_ty (by decide +kernel), _, rfl, _, _, .type "tuple", _, true, rfl, ClsV.ty _, ty_tup (Same.seqT sN hys), kit_ty (by decide +kernel), rfl, _, rfl, iteF ?_⟩
      refine ⟨_, rfl, (by show 2 ≤ sizeLine; decide), fun M hM => ?_⟩
      have sM := sN.trans (same_new hM (.tup [.ty "tuple", .ty "list"]))
      refine ⟨_, M, _, .type "tuple", _, true, rfl, upd_same, clsTL, ty_tup (Same.seqT sM hxs), kit2 (by decide +kernel) (by decide +kernel), true, rfl, iteF ?_⟩
      refine ⟨_, rfl, _, _, rfl, .inr ⟨_, Same.seqT sM hxs, rfl⟩, _, rfl, _, _, rfl, .inr ⟨_, Same.seqT sM hys, rfl⟩, rfl, _, rfl, ?_⟩
      rw [lx, ly, decide_eq_true rfl]
      refine iteF ?_
      refine ⟨_, rfl, _, _, rfl, .inr ⟨_, Same.seqT sM hys, rfl⟩, _, rfl, by omega, by rw [ly]; omega, fun D hD => ?_⟩
      refine lc_it (walk_range) (fun i H2 => H2 D = some (.lst []) ∧ Same H H2) ?_ (fun _ _ _ _ => trivial) ?_ ?_
      · exact ⟨upd_same, sM.trans (same_new hD _)⟩
      · rintro i v H2 H2' hi ⟨e1, e2⟩ ⟨rfl, rfl⟩
        have hi2 : i < ds.length := by rw [ly] at hi; omega
        obtain ⟨vx, gx, px⟩ := dpa_at dx (List.getElem?_eq_getElem hi2)
        obtain ⟨vy, gy, py⟩ := dpa_at dy (List.getElem?_eq_getElem hi2)
        have hm : ds[i] ∈ ds := List.getElem_mem hi2
        refine ⟨rfl, ?_⟩
        refine ⟨_, rfl, _, rfl, .inr (.inl ⟨xa, _, _, _, rfl, rfl, Same.seqT e2 hxs, atI_of gx (by omega), ?_⟩)⟩
        refine ⟨_, rfl, _, rfl, .inr (.inl ⟨ya, _, _, _, rfl, rfl, Same.seqT e2 hys, atI_of gy (by omega), ?_⟩)⟩
        refine ⟨vx, vy, ds[i], rfl, dp_same e2 px, dp_same e2 py, hFs _ hm, by have := depth_mem hm; omega, fun H3 s3 => ?_⟩
        exact ⟨true, rfl, iteF ⟨s3 _ _ e1, e2.trans s3⟩⟩
      · rintro H2 ⟨e1, e2⟩
        refine ⟨(by show 0 ≤ sizeLine; decide), fun E' hE => ?_⟩
        have sE := same_new hE (.lst [])
        refine ⟨.list [], .list [], .lst (.inl (.inl (sE _ _ e1))) .nil, .lst (.inl (.inl upd_same)) .nil, by decide +kernel, by decide +kernel, ?_⟩
        exact q _ (e2.trans sE)
    | dict kvs => cases hF
theorem al_all {f : Addr} {fd : FuncData} (F : Fun K "_law_alike" "_law_alike" sAl f fd) (bG : Binds K fd psAl []) (mG : mg "_law_alike" = some (.ref f)) (B : Bn mg) : ∀ n : Nat, FnOk P w K mg base CX0 n f fd psAl (spAl K n)
  | 0 => by
    have no : ∀ vs H Q E, ¬ spAl K 0 vs H Q E := fun vs H Q E h => by
      obtain ⟨x, y, d, _, _, _, _, hd, _⟩ := h
      exact Nat.not_lt_zero _ hd
    exact ⟨fun vs H Q E h => absurd h (no vs H Q E), fun A outer s H args us vs Q E _ _ _ _ h => absurd h (no vs H Q E)⟩
  | n + 1 => ok_al F (al_all F bG mG B n) bG mG B
end
end Say
namespace Say
open PySem PySem.Spec PyProof.Rows L2 L2.DX
/-- the dict of names -/
def namesL : List (Key × V) := [(.inr "#", .str "#"), (.inr "a", .str "k"), (.inr "b", .str "m"), (.inr "c", .str "p"), (.inr "d", .str "z"), (.inr "A", .str "Q"), (.inr "B", .str "R"), (.inr "D", .str "S")]
def namesK : List (Key × V) := mergeK [] namesL
def Sg (c : Nat) : Prop := c ∈ [35, 97, 98, 99, 100, 65, 66, 68]
theorem name_of {c : Nat} (h : Sg c) : valV namesK (.inr (⟨#[c]⟩ : Str)) = some (.str ⟨#[tr c]⟩) := by
  unfold Sg at h
  simp only [List.mem_cons, List.not_mem_nil, or_false] at h
  rcases h with rfl | rfl | rfl | rfl | rfl | rfl | rfl | rfl <;> kernel_rfl
/-- a tree of tuples, texts, None; some tuples to be made frozen -/
inductive Tn
  | non
  | int (i : Int)
  | txt (w : List Nat)
  | nd (fz : Bool) (l : List Tn)
mutual
inductive TnAt (H : Hp) : Nat → V → Tn → Prop
  | non (n : Nat) : TnAt H (n + 1) .non .non
  | int (n : Nat) (i : Int) : TnAt H (n + 1) (.int i) (.int i)
  | txt (n : Nat) {w : List Nat} : (∀ c ∈ w, Sg c) → w.length ≤ 900 → TnAt H (n + 1) (.str (T w)) (.txt w)
  | nd {n : Nat} {a : Addr} {xs : List V} {fz : Bool} {l : List Tn} : (H a = some (.tup xs) ∨ ∃ o, H a = some (.frz o (.tup xs))) → xs.length ≤ 100 → TnAll H n xs l → TnAt H (n + 1) (.ref a) (.nd fz l)
inductive TnAll (H : Hp) : Nat → List V → List Tn → Prop
  | nil {n : Nat} : TnAll H n [] []
  | cons {n : Nat} {x : V} {t : Tn} {xs : List V} {l : List Tn} : TnAt H n x t → TnAll H n xs l → TnAll H n (x :: xs) (t :: l)
end
mutual
inductive TrAt (H : Hp) : V → Tn → Prop
  | non : TrAt H .non .non
  | int (i : Int) : TrAt H (.int i) (.int i)
  | txt {w : List Nat} : TrAt H (.str (T (w.map tr))) (.txt w)
  | nd {a : Addr} {xs : List V} {l : List Tn} : H a = some (.tup xs) → TrAll H xs l → TrAt H (.ref a) (.nd false l)
  | fz {a : Addr} {xs : List V} {l : List Tn} : TupN H a xs → TrAll H xs l → TrAt H (.ref a) (.nd true l)
inductive TrAll (H : Hp) : List V → List Tn → Prop
  | nil : TrAll H [] []
  | cons {x : V} {t : Tn} {xs : List V} {l : List Tn} : TrAt H x t → TrAll H xs l → TrAll H (x :: xs) (t :: l)
end
mutual
theorem TnAt.kt {H H' : Hp} (k : KT H H') : ∀ {n : Nat} {x : V} {t : Tn}, TnAt H n x t → TnAt H' n x t
  | _, _, _, .non n => .non n
  | _, _, _, .int n i => .int n i
  | _, _, _, .txt n h l => .txt n h l
  | _, _, _, .nd h l a => .nd (by rcases h with h | ⟨o, h⟩; exact .inl (k.1 _ _ h); exact .inr ⟨o, k.2 _ _ _ h⟩) l (TnAll.kt k a)
theorem TnAll.kt {H H' : Hp} (k : KT H H') : ∀ {n : Nat} {xs : List V} {l : List Tn}, TnAll H n xs l → TnAll H' n xs l
  | _, _, _, .nil => .nil
  | _, _, _, .cons a t => .cons (TnAt.kt k a) (TnAll.kt k t)
end
mutual
theorem TrAt.kt {H H' : Hp} (k : KT H H') : ∀ {x : V} {t : Tn}, TrAt H x t → TrAt H' x t
  | _, _, .non => .non
  | _, _, .int i => .int i
  | _, _, .txt => .txt
  | _, _, .nd h a => .nd (k.1 _ _ h) (TrAll.kt k a)
  | _, _, .fz h a => .fz (h.kt k) (TrAll.kt k a)
theorem TrAll.kt {H H' : Hp} (k : KT H H') : ∀ {xs : List V} {l : List Tn}, TrAll H xs l → TrAll H' xs l
  | _, _, .nil => .nil
  | _, _, .cons a t => .cons (TrAt.kt k a) (TrAll.kt k t)
end
theorem TrAll.app {H : Hp} : ∀ {xs ys : List V} {l m : List Tn}, TrAll H xs l → TrAll H ys m → TrAll H (xs ++ ys) (l ++ m)
  | _, _, _, _, .nil, h => h
  | _, _, _, _, .cons a t, h => .cons a (TrAll.app t h)
theorem TnAll.at {H : Hp} : ∀ {n : Nat} {xs : List V} {l : List Tn}, TnAll H n xs l → ∀ {i : Nat} {x : V}, xs[i]? = some x → ∃ t, l[i]? = some t ∧ TnAt H n x t
  | _, _, _, .nil, i, x, h => by cases h
  | _, _, _, .cons a t, 0, x, h => by
    cases h
    exact ⟨_, rfl, a⟩
  | _, _, _, .cons a t, i + 1, x, h => TnAll.at t h
theorem TnAll.len {H : Hp} : ∀ {n : Nat} {xs : List V} {l : List Tn}, TnAll H n xs l → xs.length = l.length
  | _, _, _, .nil => rfl
  | _, _, _, .cons _ t => by simp [TnAll.len t]
abbrev sTu : Stmt := topS 93
abbrev nTu : List Str := ["_law_part", "_law_names", "_law_one", "_law_sign"]
theorem scTu : FnScope nTu ["_law_part", "_law_names"] (defScope sTu) := ⟨rfl, rfl, rfl, by decide +kernel, rfl, by decide +kernel, by decide +kernel⟩
def spTu (n : Nat) : Sp := fun vs H Q _ => ∃ (x : V) (dn : Addr) (t : Tn), vs = [x, .ref dn] ∧ H dn = some (.dK namesK) ∧ TnAt H n x t ∧ ∀ (v : V) (H' : Hp), Same H H' → TrAt H' v t → Q v H'
section
variable {P : Program} {w : World} {K : PySem.W.Frag} {mg : Str → Option Value} {base : Heap}
theorem ok_Tu {f : Addr} {fd : FuncData} {n : Nat} (F : Fun K "_law_turned" "_law_turned" sTu f fd) (G : FnOk P w K mg base CX0 n f fd ["_law_part", "_law_names"] (spTu n)) (bG : Binds K fd ["_law_part", "_law_names"] []) (mG : mg "_law_turned" = some (.ref f)) (B : Bn mg) :
    FnOk P w K mg base CX0 (n + 1) f fd ["_law_part", "_law_names"] (spTu (n + 1)) := by
  refine F.ok scTu (fun vs H Q E h => ?_) (fun cdv A outer s H vs Q E hr h => ?_)
  · obtain ⟨x, dn, t, rfl, _⟩ := h
    rfl
  · obtain ⟨x, dn, t, rfl, hdn, hx, q⟩ := h
    have hu := hu_of hr
    refine ⟨_, pss_cons (ps_if (pt_val (pe_callB call_isi (by rfl) B.isi (by decide +kernel) (pa_cons (pv 0) (pa_cons (pe_bltn (v := .ty "tuple") rfl B.tup (by decide +kernel) rfl) pa_nil))))
        (pss_one (ps_ret (pe_callTy (call_tuple_of.or call_tupN) (by rfl) B.tup (by decide +kernel) (pa_cons (pe_lc (own := [("_law_one", 2)]) (g := gName 2) (te := tCall (spTu n) [] E0 (tCons (tVar 2) (tCons (tVar 1) tNil))) rfl scTu.nd (pi_tup (pv 0))
          (blkOk_by (N := nTu) (sc := defScope sTu) (by decide +kernel)) (fun _ _ _ _ _ => pg_name (i := 2) scTu.nd rfl (.inl rfl)) (fun _ _ _ _ _ => pts_nil) (fun _ _ _ _ _ => pe_call G hr (by rfl) mG F.kp bG .nil pass0 (pa_cons (pv 2) (pa_cons (pv 1) pa_nil)))) pa_nil)))) pss_nil)
      (pss_one (ps_ret (pe_ifExp (pt_val (pe_callB call_isi (by rfl) B.isi (by decide +kernel) (pa_cons (pv 0) (pa_cons (pe_bltn (v := .ty "str") rfl B.str (by decide +kernel) rfl) pa_nil))))
        (pe_join pe_str (pe_lc (own := [("_law_sign", 3)]) (g := gName 3) (te := tDGet (tVar 1) (tVar 3)) rfl scTu.nd (pi_str (pv 0)) (blkOk_by (N := nTu) (sc := defScope sTu) (by decide +kernel)) (fun _ _ _ _ _ => pg_name (i := 3) scTu.nd rfl (.inl rfl)) (fun _ _ _ _ _ => pts_nil) (fun _ _ _ _ _ => pe_dget hu (pv 1) (pv 3) (fun _ _ => rfl))))
        (pv 0)))), ?_⟩
    cases hx with
    | non =>
      refine ⟨_, rfl, _, _, .type "NoneType", _, false, rfl, ClsV.ty _, .base (.non), kit_ty (by decide +kernel), _, rfl, iteF ?_⟩
      refine ⟨_, rfl, _, _, .type "NoneType", _, false, rfl, ClsV.ty _, .base (.non), kit_ty (by decide +kernel), _, rfl, iteF ?_⟩
      exact ⟨_, rfl, q _ H (Same.refl H) .non⟩
    | int _ i =>
      refine ⟨_, rfl, _, _, .type "int", _, false, rfl, ClsV.ty _, .base (.int _), kit_ty (by decide +kernel), _, rfl, iteF ?_⟩
      refine ⟨_, rfl, _, _, .type "int", _, false, rfl, ClsV.ty _, .base (.int _), kit_ty (by decide +kernel), _, rfl, iteF ?_⟩
      exact ⟨_, rfl, q _ H (Same.refl H) (.int _)⟩
    | @txt _ w hw hl =>
      refine ⟨_, rfl, _, _, .type "str", _, false, rfl, ClsV.ty _, .base (.str _), kit_ty (by decide +kernel), _, rfl, iteF ?_⟩
      refine ⟨_, rfl, _, _, .type "str", _, true, rfl, ClsV.ty _, .base (.str _), kit_ty (by decide +kernel), _, rfl, iteT ?_⟩
      refine ⟨⟨_, rfl⟩, _, rfl, T w, rfl, fun D hD => ?_⟩
      refine lc_it (walk_str (z := T w)) (fun i H2 => Same H H2 ∧ H2 D = some (.lst (sg ((w.take i).map tr)))) ?_ (fun _ _ _ _ => trivial) ?_ ?_
      · exact ⟨same_new hD _, upd_same⟩
      · rintro i xv Hz H2 hi ⟨s2, e2⟩ ⟨rfl, c, hc, rfl⟩
        have hc : w[i]? = some c := by
          have : (T w).cps.toList[i]? = some c := by rw [Array.getElem?_toList]; exact hc
          exact this
        have hcm := hw c (List.mem_of_getElem? hc)
        refine ⟨rfl, ?_⟩
        refine ⟨_, rfl, _, rfl, dn, .str ⟨#[tr c]⟩, rfl, ?_, ?_⟩
        · have := DGet.k (k := .inr (⟨#[c]⟩ : Str)) (s2 _ _ hdn)
          rw [name_of hcm] at this
          exact this
        refine ⟨_, e2, ?_, fun b o hb => ?_, ?_⟩
        · rw [sg_len, List.length_map, List.length_take]
          exact small1000 (by omega)
        · rw [upd_ne (ne_of_none hb hD)]
          exact s2 _ _ hb
        · rw [upd_same, List.take_add_one, hc, List.map_append]
          exact congrArg (fun l => some (HO.lst l)) (sg_app _ _)
      · rintro H2 ⟨s2, e2⟩
        have el : w.take (T w).cps.size = w := by
          rw [show (T w).cps.size = w.length from T_len w]
          exact List.take_length
        rw [el] at e2
        refine ⟨Str.ofString "", D, ((w.map tr).map fun c => [c]).map T, rfl, rfl, .inl (.inl (.inl ?_)), ?_, ?_⟩
        · rw [e2, sg_map]
        · rw [sum_ones]
          show (w.map tr).length + _ * 0 ≤ _
          rw [List.length_map]
          omega
        · rw [show Str.ofString "" = T [] from nil_eq, join_nil, map_single]
          exact q _ H2 s2 .txt
    | @nd _ a xs fz l ha hl hall =>
      have hs : SqT K H a xs := by
        rcases ha with ha | ⟨o, ha⟩
        · exact .inl (.inl ha)
        · exact .inl (.inr ⟨o, ha⟩)
      refine ⟨_, rfl, _, _, .type "tuple", _, true, rfl, ClsV.ty _, ty_tup hs, kit_ty (by decide +kernel), _, rfl, iteT ?_⟩
      refine ⟨_, rfl, a, rfl, ⟨_, hs⟩, fun D hD => ?_⟩
      refine lc_it (walk_tup (xs := xs)) (fun i H2 => Same H H2 ∧ ∃ vs : List V, H2 D = some (.lst vs) ∧ vs.length = i ∧ TrAll H2 vs (l.take i)) ?_ (fun i H2 _ h => Same.seqT h.1 hs) ?_ ?_
      · exact ⟨same_new hD _, [], upd_same, rfl, .nil⟩
      · rintro i xv Hz H2 hi ⟨s2, vs, e2, vl, t2⟩ ⟨rfl, hx⟩
        obtain ⟨t, ht, hat⟩ := hall.at hx
        refine ⟨rfl, ?_⟩
        refine ⟨_, rfl, _, rfl, xv, dn, t, rfl, s2 _ _ hdn, hat.kt (.of s2), fun v H3 s3 h3 => ?_⟩
        have e3 := s3 _ _ e2
        have kD : KT H3 (upd H3 D (.lst (vs ++ [v]))) := kt_upd e3
        refine ⟨_, e3, smallM (by omega), fun b o hb => ?_, _, upd_same, by simp; omega, ?_⟩
        · rw [upd_ne (ne_of_none hb hD)]
          exact s3 _ _ (s2 _ _ hb)
        · rw [List.take_add_one, ht]
          exact TrAll.app ((t2.kt (.of s3)).kt kD) (.cons (h3.kt kD) .nil)
      · rintro H2 ⟨s2, vs, e2, vl, t2⟩
        rw [hall.len, List.take_length] at t2
        cases fz with
        | false =>
          refine .inl ⟨D, vs, rfl, .inl ⟨.inl (.inl e2), fun p hp => ?_⟩⟩
          have sp := same_new hp (.tup vs)
          exact q _ _ (s2.trans sp) (.nd upd_same (t2.kt (.of sp)))
        | true =>
          refine .inr ⟨D, vs, rfl, .inl (.inl e2), fun p o ho hp => ?_⟩
          have sp := same_new hp (.frz o (.tup vs))
          exact q _ _ (s2.trans sp) (.fz ⟨o, upd_same, ho⟩ (t2.kt (.of sp)))
theorem tu_all {f : Addr} {fd : FuncData} (F : Fun K "_law_turned" "_law_turned" sTu f fd) (bG : Binds K fd ["_law_part", "_law_names"] []) (mG : mg "_law_turned" = some (.ref f)) (B : Bn mg) : ∀ n : Nat, FnOk P w K mg base CX0 n f fd ["_law_part", "_law_names"] (spTu n)
  | 0 => by
    have no : ∀ vs H Q E, ¬ spTu 0 vs H Q E := fun vs H Q E h => by
      obtain ⟨x, dn, t, _, _, hx, _⟩ := h
      cases hx
    exact ⟨fun vs H Q E h => absurd h (no vs H Q E), fun A outer s H args us vs Q E _ _ _ _ h => absurd h (no _ _ _ _)⟩
  | n + 1 => ok_Tu F (tu_all F bG mG B n) bG mG B
end
/-! ### books as trees -/
def ruleTn (ρ : Rule) : Tn := .nd false [.txt ρ.ah, .txt ρ.ow, .txt ρ.be, .txt ρ.so]
def excTn (e : Exc) : Tn := .nd false [.txt e.1, .txt e.2]
def bookTn (L : List Nat) (rs : List Rule) (es : List Exc) : Tn := .nd false [.txt L, .nd false (rs.map ruleTn), .nd true (es.map excTn)]
theorem sg_let {L w : List Nat} (h : Abcd L) (hw : ∀ c ∈ w, c ∈ L) : ∀ c ∈ w, Sg c := fun c hc => by
  have := h c (hw c hc)
  unfold Sg
  simp only [List.mem_cons, List.not_mem_nil, or_false]
  omega
theorem sg_so {w : List Nat} (h : ∀ c ∈ w, c = 65 ∨ c = 66 ∨ c = 68) : ∀ c ∈ w, Sg c := fun c hc => by
  have := h c hc
  unfold Sg
  simp only [List.mem_cons, List.not_mem_nil, or_false]
  omega
theorem sg_side {L w : List Nat} (h : Abcd L) (hw : w.Sublist (35 :: L)) : ∀ c ∈ w, Sg c := fun c hc => by
  rcases List.mem_cons.mp (hw.subset hc) with rfl | hc
  · unfold Sg; simp
  · exact sg_let h (w := [c]) (fun d hd => by rw [List.mem_singleton.mp hd]; exact hc) c (by simp)
theorem rules_tn {H : Hp} {L : List Nat} (ab : Abcd L) (l4 : L.length ≤ 4) {ts : List Addr} {rs : List Rule} (h : Paired (fun t ρ => H t = some (.tup (Rule.vs ρ))) ts rs) (ho : ∀ ρ ∈ rs, RuleOk L ρ) (hs : ∀ ρ ∈ rs, ∀ c ∈ ρ.so, c = 65 ∨ c = 66) : TnAll H 2 (ts.map V.ref) (rs.map ruleTn) := by
  induction h with
  | nil => exact .nil
  | @cons t ρ ts rs hat _ ih =>
    have o := ho ρ (List.mem_cons_self ..)
    have so := hs ρ (List.mem_cons_self ..)
    have la := o.ah.length_le
    have lb := o.be.length_le
    rw [List.length_cons] at la lb
    have l2 := o.o2
    have l3 := o.s3
    refine .cons (.nd (.inl hat) (by show 4 ≤ 100; decide) (.cons (.txt _ (sg_side ab o.ah) (by omega)) (.cons (.txt _ (sg_let ab o.ow) (by omega)) (.cons (.txt _ (sg_side ab o.be) (by omega)) (.cons (.txt _ (sg_so fun c hc => by have := so c hc; omega) (by omega)) .nil))))) (ih (fun x hx => ho x (List.mem_cons_of_mem _ hx)) fun x hx => hs x (List.mem_cons_of_mem _ hx))
theorem excs_tn {H : Hp} {L : List Nat} (ab : Abcd L) {ts : List Addr} {es : List Exc} (h : Paired (fun t (e : Exc) => H t = some (.tup [.str (T e.1), .str (T e.2)])) ts es) (ho : ∀ e ∈ es, ExcOk L e) (hs : ∀ e ∈ es, ∀ c ∈ e.2, c = 65 ∨ c = 66 ∨ c = 68) : TnAll H 2 (ts.map V.ref) (es.map excTn) := by
  induction h with
  | nil => exact .nil
  | @cons t e ts es hat _ ih =>
    have o := ho e (List.mem_cons_self ..)
    have l1 := o.w8
    have l2 := o.s36
    exact .cons (.nd (.inl hat) (by show 2 ≤ 100; decide) (.cons (.txt _ (sg_let ab o.w) (by omega)) (.cons (.txt _ (sg_so (hs e (List.mem_cons_self ..))) (by omega)) .nil))) (ih (fun x hx => ho x (List.mem_cons_of_mem _ hx)) fun x hx => hs x (List.mem_cons_of_mem _ hx))
theorem book_tn {H : Hp} {b : Addr} {L : List Nat} {rs : List Rule} {es : List Exc} (h : BookAt H b L rs es) (oB : BookOk L rs es) (g : SgB L rs es) : TnAt H 4 (.ref b) (bookTn L rs es) := by
  obtain ⟨R, X, hb, ⟨ts, hR, pR⟩, us, hX, pX⟩ := h
  have ab := abcd_lets g.l
  have l4 := oB.lt.l4
  have r12 := oB.r12
  have e8 := oB.e8
  obtain ⟨o, ho, _⟩ := hX
  exact .nd (.inl hb) (by show 3 ≤ 100; decide) (.cons (.txt _ (sg_let ab fun c hc => hc) (by omega)) (.cons (.nd (.inl hR) (by rw [List.length_map, paired_len pR]; omega) (rules_tn ab l4 pR oB.rl g.r)) (.cons (.nd (.inr ⟨o, ho⟩) (by rw [List.length_map, paired_len pX]; omega) (excs_tn ab pX oB.ex g.e)) .nil)))
theorem tr_rules {H : Hp} : ∀ {xs : List V} {rs : List Rule}, TrAll H xs (rs.map ruleTn) → ∃ ts : List Addr, xs = ts.map V.ref ∧ Paired (fun t ρ => H t = some (.tup (Rule.vs ρ))) ts (rs.map trR)
  | xs, [], h => by
    cases h
    exact ⟨[], rfl, .nil⟩
  | xs, ρ :: rs, h => by
    cases h with
    | cons a t =>
      obtain ⟨ts, rfl, p⟩ := tr_rules t
      cases a with
      | nd ha al =>
        cases al with
        | cons x1 t1 => cases t1 with
          | cons x2 t2 => cases t2 with
            | cons x3 t3 => cases t3 with
              | cons x4 t4 =>
                cases t4
                cases x1; cases x2; cases x3; cases x4
                exact ⟨_ :: ts, rfl, .cons ha p⟩
theorem tr_excs {H : Hp} : ∀ {xs : List V} {es : List Exc}, TrAll H xs (es.map excTn) → ∃ ts : List Addr, xs = ts.map V.ref ∧ Paired (fun t (e : Exc) => H t = some (.tup [.str (T e.1), .str (T e.2)])) ts (es.map trE)
  | xs, [], h => by
    cases h
    exact ⟨[], rfl, .nil⟩
  | xs, e :: es, h => by
    cases h with
    | cons a t =>
      obtain ⟨ts, rfl, p⟩ := tr_excs t
      cases a with
      | nd ha al =>
        cases al with
        | cons x1 t1 => cases t1 with
          | cons x2 t2 =>
            cases t2
            cases x1; cases x2
            exact ⟨_ :: ts, rfl, .cons ha p⟩
theorem tr_book {H : Hp} {v : V} {L : List Nat} {rs : List Rule} {es : List Exc} (h : TrAt H v (bookTn L rs es)) : ∃ b, v = .ref b ∧ BookAt H b (L.map tr) (rs.map trR) (es.map trE) := by
  cases h with
  | nd ha al =>
    cases al with
    | cons x1 t1 => cases t1 with
      | cons x2 t2 => cases t2 with
        | cons x3 t3 =>
          cases t3
          cases x1
          cases x2 with
          | nd h2 a2 =>
            cases x3 with
            | fz h3 a3 =>
              obtain ⟨ts, rfl, p2⟩ := tr_rules a2
              obtain ⟨us, rfl, p3⟩ := tr_excs a3
              exact ⟨_, rfl, _, _, ha, ⟨ts, h2, p2⟩, us, h3, p3⟩
end Say
namespace PySem
namespace UnsX
open PySem.W PySem.Calls PyProof.Rows PySem.HandSPX
/-! ### the text of Unsaid.__init__ -/
abbrev sUns : Stmt := L2.inClass (Say.topS 6) 0
abbrev iA : Arguments := L2.defArgs sUns
abbrev iB : List Stmt := L2.defBody sUns
abbrev iS : Scope := L2.defScope sUns
def eF : Expr := match iB with
  | .Expr (.Call _ (e :: _) _ _) _ :: _ => e
  | _ => .Constant .none 0 ⟨0, 0, 0, 0⟩
theorem eF_eq : ∃ c1 c2 c3 c4, eF = .JoinedStr [.Constant (.str "no rule fits at place ") 0 c1, .FormattedValue (.Name "place" c2) (-1) none c3] c4 := ⟨_, _, _, _, rfl⟩
theorem iS_cell : ∀ y ∈ iS.names, y.2 ≠ .cell := by decide +kernel
/-- what the written part says of Unsaid, at C, and of its __init__, at fI -/
structure UnsTxt (P : Program) (K : Frag) (mg : Str → Option Value) (C fI : Addr) : Prop where
  gC : mg "Unsaid" = some (.ref C)
  sB : mg "super" = none
  cls : ∃ nm q N bs bm sn sub ab col dd k0 k1 k2 k3 k5, K.lookup C = some (excClassObj nm q C N bs bm true sn sub ab col dd k0 k1 k2 k3 k5 "ValueError.__new__") ∧ refsVE bm = true
  sa : findIn K (.ref C) "__setattr__" = some (some (.builtin "object.__setattr__"))
  noP : findIn K (.ref C) "place" = some none
  iC : findIn K (.ref C) "__init__" = some (some (.ref fI))
  tC : typeIn K (.ref fI) = some (.type "function")
  kC : keepIn K (.ref C) = true
  exC : subIn K (.ref C) (.type "BaseException") = some true
  tyC : typeIn K (.ref C) = some (.type "type")
  sup : ks_superIn K C C "__init__" = some (some (.builtin "ValueError.__init__"))
  subV : subIn K (.ref C) (.type "ValueError") = some true
  any : nsIn K cStatics "thirdparty.any" = some none
  main : (P.main.scope.names.lookup ("super" : Str)).isSome = false
  fn : ∃ (oc : Value) (od : Option Addr) (doc pm : Value) (an : Option Addr) (cda cc : Addr) (ct : Value) (osl : Array (Option Value)),
    K.lookup fI = some ⟨oc, od, .func (ksFn "__init__" "Unsaid.__init__" iA iB iS .none .none doc pm an (.ref cda) ct cc), osl⟩ ∧ codeIn K (.ref cda) "Unsaid.__init__" = true ∧
    (∃ cl cld csl, K.lookup cc = some ⟨cl, cld, .cell (some (.ref C)), csl⟩) ∧ ∃ ccl cdd vs ccs file tf, K.lookup cda = some ⟨ccl, cdd, .fields vs, ccs⟩ ∧ vs[2]? = some (.str file tf) ∧ ((P.main.file : Str) == file) = true
/-- what __init__ leaves of a fresh exception at x -/
structure InitEnd (h h' : Heap) (x C dx : Addr) (v : Value) : Prop where
  keep : ∀ b o, b ≠ x → h.get? b = some o → h'.get? b = some o
  obj : ∃ t1 : Addr, h'.get? x = some { cls := .ref C, dict := some dx, data := .fields #[.ref t1, .none, .none, .none, .bool false, .none] }
  dbig : h.objs.size ≤ dx
  dne : dx ≠ x
  ns : h'.Ns1 dx (fun y => if y = "place" then some v else none)
section
variable {prog : Program} {w : World} {A : Around} {E : Value → Shared → Prop} {R : Result → Shared → Prop} {s : Shared} {K : Frag} {mg : Str → Option Value} {C fI : Addr} {base : Heap}
theorem ld {M : Model} {s : Shared} {env : Env} {m : Str → Option Value} {x : Str} {pos : Pos} {v : Value} {Q : Value → Shared → Prop} {A : Around} {E : Value → Shared → Prop} (hn : s.heap.Ns env.locals m) (hv : m x = some v) (h : Q v s)
    (hk : env.scope.kind = .function) (hl : env.kindOf x = some .local) (hd : (x == ("__debug__" : Str)) = false := by decide) :
    wpAny M A (eval (.Name x pos) env) Q E s := wpAny_Name (wpAny_loadName_local hk hl hn hv h) hd
theorem uns_init (T : UnsTxt prog K mg C fI) {x t0 : Addr} {i : Int} {ti : Tok} (B : L2.Mod K mg base) (kb : ∀ b o, base.get? b = some o → s.heap.get? b = some o) (hx : s.heap.get? x = some (excO C t0)) (hnx : base.get? x = none) (hi : i.natAbs.log2 < 1920) (hi2 : (toString i : Str).length ≤ 1000) (hroom : A.depth < recursionLimit)
    (hq : ∀ h' tk dx, InitEnd s.heap h' x C dx (.int i ti) → R (.ok (.ret .none)) { s with heap := h', toks := tk }) :
    codeAny (model prog w) A (.call (.ref fI) ⟨[.ref x, .int i ti], []⟩) R s := by
  obtain ⟨oc, od, doc, pm, an, cda, cc, ct, osl, ho, hcd, ⟨cl, cld, csl, hcell⟩, ccl, cdd, vs, ccs, file, tf, hcode, hvs, hfile⟩ := T.fn
  obtain ⟨nm, q, N, bs, bm, sn, sub, ab, col, dd, k0, k1', k2, k3, k5, hC, hbm⟩ := T.cls
  obtain ⟨hp, g, dr, tk0, os⟩ := s
  have hcl : clsIn K C = some { name := nm, bases := bs, mro := .ref C :: bm, ns := N, qualname := q, hasDict := true, slotNames := sn, subclasses := sub, abstract := ab, collection := col, hasDel := false } := by unfold clsIn; rw [hC] <;> rfl
  have X : K.In hp := B.kin.keeps kb
  have nl : hp.NoLimit := B.nolimit.keeps kb
  refine ks_codeAny_call_defAt (fd := ksFn "__init__" "Unsaid.__init__" iA iB iS .none .none doc pm an (.ref cda) ct cc) (body := iB) (binds := [("self", .ref x), ("place", .int i ti)])
    hroom (X _ _ ho) rfl nl (codeRec_of X hcd) rfl (BindsTo.of_eq (by first | rfl | with_unfolding_all rfl)) iS_cell (fun y hy => ?_) (fun h₀ hns k => ?_)
  · have e : y = (PySem.Str.ofString "self", Value.ref x) ∨ y = (PySem.Str.ofString "place", Value.int i ti) := by simpa using hy
    rcases e with rfl | rfl
    · exact (by decide +kernel : iS.names.lookup (PySem.Str.ofString "self") = some .local)
    · exact (by decide +kernel : iS.names.lookup (PySem.Str.ofString "place") = some .local)
  generalize hL : (Shared.heap ⟨hp, g, dr, tk0, os⟩).objs.size = L at hns ⊢
  have henv : callEnv (ksFn "__init__" "Unsaid.__init__" iA iB iS .none .none doc pm an (.ref cda) ct cc) L fI = ksEnv "Unsaid.__init__" iS L fI (.ref cda) cc := rfl
  rw [henv]
  have X0 : K.In h₀ := X.keeps k
  have hx0 := k _ _ hx
  have kb0 : ∀ b o, base.get? b = some o → h₀.get? b = some o := fun b o e => k b o (kb b o e)
  obtain ⟨oC, hC0, hC1⟩ : ∃ oC, h₀.get? C = some oC ∧ oC.data = .cls { name := nm, bases := bs, mro := .ref C :: bm, ns := N, qualname := q, hasDict := true, slotNames := sn, subclasses := sub, abstract := ab, collection := col, hasDel := false } := ⟨_, X0 _ _ hC, rfl⟩
  have I0 : InstAt h₀ x (excO C t0) C none := ⟨hx0, rfl, rfl, trivial⟩
  obtain ⟨mb, hb1, hb2⟩ := B.blt
  have hxC : x ≠ C := fun z => by
    rw [z, hC0] at hx0
    cases hx0
    cases hC1
  have hsub : mroIn K C (.ref C) = some true := by
    unfold mroIn
    rw [hcl]
    simp
  have nS : iS.names.lookup (PySem.Str.ofString "super") = some .globalImplicit := by decide +kernel
  have nC : iS.names.lookup (PySem.Str.ofString "__class__") = some .free := by decide +kernel
  have nx : iS.names.lookup (PySem.Str.ofString "self") = some .local := by decide +kernel
  have np : iS.names.lookup (PySem.Str.ofString "place") = some .local := by decide +kernel
  have hLx : L ≠ x := by
    rw [← hL]
    exact Nat.ne_of_gt (Heap.lt_size hx)
  refine ks_wpAt_execs_cons (ks_wpAt_Expr_any (ks_wpAt_MethodCall (ks_wpAt_super_base nS nC (by decide +kernel) rfl (X0 _ _ ho) rfl rfl rfl (X0 _ _ hcode) rfl hvs hfile T.main ?_)))
  refine ks_loadName_global rfl nS (loadGlobal_builtin (B.glob.keeps kb0) T.sB (hb1.keeps kb0) ((hb2 _ (by decide +kernel)).trans (by decide +kernel)) ⟨rfl, ?_⟩)
  refine wpAny_loadName_free rfl nC rfl ⟨_, X0 _ _ hcell, rfl⟩ ?_
  refine wpAny_loadName_local rfl nx hns rfl ?_
  refine ks_wpAny_isType_cls hC0 hC1 ⟨rfl, ?_⟩
  refine ks_wpAny_call_super hC0 hC1 hx0 rfl (fun c e => by cases e) (looks_mroIn X0 hsub) (fun h1 e1 k1 => ?_)
  have X1 : K.In h1 := X0.keeps k1
  have hx1 := k1 _ _ hx0
  have I1 : InstAt h1 x (excO C t0) C none := ⟨hx1, rfl, rfl, trivial⟩
  have hf : alongIn K "__init__" (((Value.ref C :: bm).dropWhile (· != .ref C)).drop 1) = some (some (.builtin "ValueError.__init__")) := by
    have := T.sup
    unfold ks_superIn at this
    rw [hcl] at this
    exact this
  refine kxs_getMethod kxs_ValueError e1 (looks_opaque X1 T.any) (l₀ := .ref C :: bm) (fun A Q E s k q => wpAny_bind ((looks_clsIn X1 hcl) A _ E s k (wpAny_pure q))) rfl X1 hf (I1.type.andThen (looks_subIn X1 T.subV)) hxC (by decide +kernel) ?_
  have hu : (h1.push (kxs_mw "ValueError.__init__" x)).get? h1.objs.size = some (kxs_mw "ValueError.__init__" x) := Heap.get?_push_size _ rfl
  have k2' : ∀ b o, h₀.get? b = some o → (h1.push (kxs_mw "ValueError.__init__" x)).get? b = some o := fun b o e => Heap.get?_push_of_some _ (k1 b o e)
  generalize h1.push (kxs_mw "ValueError.__init__" x) = h2 at hu k2' ⊢
  generalize h1.objs.size = u at hu ⊢
  have X2 : K.In h2 := X0.keeps k2'
  have hx2 := k2' _ _ hx0
  have hns2 := hns.keeps k2'
  -- the text that is handed on
  show wpAny _ _ (callWith _ (.ref u) [] _ []) _ _ _
  refine kxs_callWith (i := "ValueError.__init__") (x := x) rfl (evalArgs_plain ?_)
  show wpAny _ _ (spliced ((false, eval eF (ksEnv "Unsaid.__init__" iS L fI (.ref cda) cc)) :: [])) _ _ _
  obtain ⟨c1, c2, c3, c4, eFe⟩ := eF_eq
  rw [eFe]
  refine Calls.spliced_cons (wpAny_JoinedStr ?_)
  refine wpAny_Constant_str ⟨_, _, rfl, by decide +kernel, ?_⟩
  refine wpAny_FormattedValue_plain (ld hns2 rfl ?_ rfl np) 
  have hlen : (Str.empty ++ PySem.Str.ofString "no rule fits at place " ++ (toString i : Str)).length ≤ sizeLine := by
    rw [TL.len_tl, TL.tl_append, List.length_append, ← TL.len_tl, ← TL.len_tl, sizeLine_eq]
    have : (Str.empty ++ PySem.Str.ofString "no rule fits at place ").length = 22 := by decide +kernel
    omega
  refine wpAny_formatField_int hi ⟨_, _, rfl, hlen, ?_⟩
  refine ⟨hlen, ?_⟩
  refine Calls.spliced_nil ⟨hu, ?_⟩
  refine wpAny_call (codeAny_of_tree ?_)
  show wpAny _ _ (callAny (.ref u) ⟨_, []⟩) _ _ _
  simp only [callAny]
  refine wpAny_bind (wpAny_load hu ?_)
  simp only [kxs_mw, show (Value.type "method-wrapper" == Value.type "method" || Value.type "method-wrapper" == Value.type "builtin_function_or_method" || Value.type "method-wrapper" == Value.type "method-wrapper") = true by decide, if_true]
  refine KFB.if_so (by decide) ?_
  refine wpAny_bind (check_bound_init F.excBase_ValueError.toExcCallFacts (X2 _ _ hC) hx2 rfl ?_)
  refine wpAny_bind (wpAny_pure (wpAny_pure ?_))
  refine ⟨plainId_quiet F.excBase_ValueError.init.plain _, codeAny_builtin F.excBase_ValueError.initEntry ?_⟩
  refine exc_init_tree (cls := .ref C) (t0 := t0) (dv := none) (c2 := .none) (c3 := .none) (b4 := .bool false) hx2 (by rw [sizeLine_eq]; show 1 ≤ 16777216; decide) fun h3 k3 e3 _ => ?_
  have k3' : ∀ b o, b ≠ x → h₀.get? b = some o → h3.get? b = some o := fun b o hb e => k3 b o hb (k2' b o e)
  have X3 : K.In h3 := fun b o e => k3' b o (fun z => by
    have := B.kin b o e
    rw [z, hnx] at this
    cases this) (X0 b o e)
  have hns3 : h3.Ns L (fun y => (([("self", Value.ref x), ("place", .int i ti)] : List (Str × Value)).reverse.lookup y)) := hns.at fun o e => k3' L o hLx e
  show wpAt _ _ _ (execs (_ :: []) _) _ _ _
  refine ks_wpAt_execs_cons (ks_wpAt_Assign_Attr (wpAt_of_wpAny (ld hns3 rfl (ld hns3 rfl ?_ rfl nx) rfl np)))
  refine set_plain X3 (ox := excO C h2.objs.size) (od := none) ⟨e3, rfl, rfl, trivial⟩ T.sa ?_
  refine exc_osa X3 e3 hcl (show refsVE (.ref C :: bm) = true from hbm) rfl T.noP (fun h4 tk4 dx k4 dn dne hx4 hn4 => ?_)
  show wpAt _ _ _ (execs [] _) _ _ _
  refine wpAt_of_wpAny (wpAny_execs_nil ?_)
  have big : hp.objs.size ≤ dx := by
    have h1 : L < h3.objs.size := hns3.lt
    have h2 : hp.objs.size = L := hL
    exact Nat.le_trans (Nat.le_of_eq h2) (Nat.le_trans (Nat.le_of_lt h1) dn)
  exact hq h4 _ dx ⟨fun b o hb e => k4 b o hb (k3' b o hb (k b o e)), ⟨_, hx4⟩, big, dne, hn4⟩
end
end UnsX
end PySem
namespace PySem
namespace UnsX
open PySem.W PySem.Calls PyProof.Rows PySem.HandSPX
/-- a made Unsaid -/
structure OwnMade (h h' : Heap) (e C d : Addr) (v : Value) : Prop where
  keep : ∀ b o, h.get? b = some o → h'.get? b = some o
  new : h.objs.size ≤ e
  obj : ∃ oe vs, h'.get? e = some oe ∧ oe.cls = .ref C ∧ oe.dict = some d ∧ oe.data = .fields vs ∧ vs[1]? = some .none
  dbig : h.objs.size ≤ d
  dne : d ≠ e
  ns : h'.Ns1 d (fun y => if y = "place" then some v else none)
theorem one_size (v : Value) : [v].length ≤ sizeLine := by
  rw [sizeLine_eq]
  exact (by decide : 1 ≤ 16777216)
section
variable {prog : Program} {w : World} {A : Around} {E : Value → Shared → Prop} {R : Result → Shared → Prop} {s : Shared} {K : Frag} {mg : Str → Option Value} {C fI : Addr} {base : Heap}
theorem uns_made (T : UnsTxt prog K mg C fI) {i : Int} {ti : Tok} (B : L2.Mod K mg base) (kb : ∀ b o, base.get? b = some o → s.heap.get? b = some o) (hi : i.natAbs.log2 < 1920) (hi2 : (toString i : Str).length ≤ 1000) (hroom : A.depth + 1 < recursionLimit)
    (hq : ∀ h' tk e d, OwnMade s.heap h' e C d (.int i ti) → R (.ok (.ret (.ref e))) { s with heap := h', toks := tk }) :
    codeAny (model prog w) A (.call (.ref C) ⟨[.int i ti], []⟩) R s := by
  obtain ⟨nm, q, N, bs, bm, sn, sub, ab, col, dd, k0, k1, k2, k3, k5, hC, hbm⟩ := T.cls
  have X : K.In s.heap := B.kin.keeps kb
  obtain ⟨hp, g, dr, tk, os⟩ := s
  have k : ∀ b o, hp.get? b = some o → ((hp.push (kdv_tup [.int i ti])).push (excO C hp.objs.size)).get? b = some o := fun b o e => Heap.get?_push_of_some _ (Heap.get?_push_of_some _ e)
  have hget : ((hp.push (kdv_tup [.int i ti])).push (excO C hp.objs.size)).get? (hp.objs.size + 1) = some (excO C hp.objs.size) := by heap_get
  have hnx : base.get? (hp.objs.size + 1) = none := by
    cases e : base.get? (hp.objs.size + 1) with
    | none => rfl
    | some o =>
      have z : hp.get? (hp.objs.size + 1) = some o := kb _ _ e
      exact absurd (Nat.lt_of_succ_lt (Heap.lt_size z)) (Nat.lt_irrefl _)
  refine call_own F.excBase_ValueError (fun X => refsVE_contains X bm hbm) (X _ _ hC) (looks_findIn X T.iC) (fun self => bind_fn X self T.tC) (one_size (.int i ti)) ?_
  refine uns_init (s := ⟨(hp.push (kdv_tup [.int i ti])).push (excO C hp.objs.size), g, dr, tk, os⟩) T B (fun b o e => k b o (kb b o e)) hget hnx hi hi2 ?_ fun h' tk' dx ⟨k', ⟨t1, hx⟩, dn, dne, hns⟩ => ?_
  · show A.depth + 1 < recursionLimit
    exact hroom
  · have old : ∀ b o, hp.get? b = some o → h'.get? b = some o := fun b o e => k' b o (Nat.ne_of_lt (Nat.lt_succ_of_lt (Heap.lt_size e))) (k b o e)
    have z : hp.objs.size + 1 + 1 ≤ dx := by
      first
        | (simpa only [Heap.size_push] using dn)
        | exact dn
        | (have q := dn; rw [Heap.size_push, Heap.size_push] at q; exact q)
    exact ⟨rfl, hq h' tk' (hp.objs.size + 1) dx ⟨old, Nat.le_succ _, ⟨_, _, hx, rfl, rfl, rfl, rfl⟩, Nat.le_trans (Nat.le_trans (Nat.le_succ _) (Nat.le_succ _)) z, dne, hns⟩⟩
end
end UnsX
end PySem
namespace Say
open PySem PySem.Spec PyProof.Rows L2
theorem relO_pl {v : V} {v' : Value} (r : RelV v v') (f : Str) : RelO (List.lookup f [(("place" : Str), v)]) (if f = "place" then some v' else none) := by
  by_cases hw : f = "place"
  · subst hw
    rw [if_pos rfl]
    have q : List.lookup ("place" : Str) [(("place" : Str), v)] = some v := by simp [List.lookup]
    rw [q]
    exact r
  · rw [if_neg hw]
    have qw : (f == ("place" : Str)) = false := by simpa using hw
    have q2 : List.lookup f [(("place" : Str), v)] = none := by simp [List.lookup, qw]
    rw [q2]
    trivial
section
variable {X : Cx} {C fI : Addr}
/-- Unsaid(e) -/
def tMkUns (C : Addr) (ta : TA) : L2.St → Hp → XK → Prop := fun σ H Q => ta σ H fun vs H1 => ∃ p : Nat, vs = [.int p] ∧ p ≤ 100 ∧ ∀ d, H1 d = none → Q (.ref C) (some d) (upd H1 d (.xd [(("place" : Str), .int p)]))
theorem small_num {p : Nat} (h : p ≤ 100) : (p : Int).natAbs.log2 < 1920 ∧ (toString (p : Int) : Str).length ≤ 1000 := by
  have key : ∀ q : Fin 101, ((q.1 : Int)).natAbs.log2 < 1920 ∧ (toString (q.1 : Int) : Str).length ≤ 1000 := by decide +kernel
  exact key ⟨p, by omega⟩
theorem pmk_uns {a : Expr} {ta : TA} {p pos : Pos} {k : Nat} (T : PySem.UnsX.UnsTxt X.prog X.K X.mg C fI) (hr : Room k X.A) (ha : PA X [a] ta) (hg : Gl X "Unsaid" := by rfl)
    (he : starEach (a :: []) X.env = (false, eval a X.env) :: starEach [] X.env := by rfl) (hpl : (backTo pos (starEach [] X.env)).any (·.1) = false := by rfl) :
    PMk X (.Call (.Name "Unsaid" p) [a] [] pos) (tMkUns C ta) := by
  intro pins s σ H Q I h
  unfold tMkUns at h
  refine wpAny_Call_Name_kw (ld_glob I hg T.gC ?_)
  refine PySem.W.callWith_K (h₀ := X.base) I.ok.mod.kin T.kC (thn (ha.run pos pins s σ H _ I h) fun us s1 hh => ?_) he hpl
  obtain ⟨vs, H1, I1, r1, n, ev, hn, q1⟩ := hh
  subst ev
  refine ⟨I1.kIn, ?_⟩
  cases r1 with
  | cons rv rn =>
    rename_i v' us'
    cases rn
    obtain ⟨tv, rfl⟩ := rv
    show wpAny _ _ (call (.ref C) [.int n tv]) _ _ _
    have b1 := I1.mod
    have b2 := I1.bk
    obtain ⟨hp, g, dr, tk, os⟩ := s1
    refine wpAny_call (PySem.UnsX.uns_made T b1 b2 (small_num hn).1 (small_num hn).2 (by have := hr.dp; omega) fun h' tk' e d M => ?_)
    show MkP X pins σ Q (.ref e) ⟨h', g, dr, tk', os⟩
    obtain ⟨oe, fv, hoe, hc, hd, hdat, h1⟩ := M.obj
    have hns := M.ns
    obtain ⟨G', g1, g2⟩ := restrict h' fun b => decide (b ≠ e)
    have gk : ∀ b, b ≠ e → G'.get? b = h'.get? b := fun b hb => g1 b (decide_eq_true hb)
    have ge : G'.get? e = none := g2 e (by simp)
    have old : ∀ b o, hp.get? b = some o → G'.get? b = some o := fun b o q => (gk b (Nat.ne_of_lt (Nat.lt_of_lt_of_le (Heap.lt_size q) M.new))).trans (M.keep b o q)
    have ob : ObjOk X.prog X.w (upd H1 d (.xd [(("place" : Str), .int n)])) G' d (.xd [(("place" : Str), .int n)]) :=
      ⟨_, hns.at (fun o q => (gk d M.dne).trans q), fun f => relO_pl (v := .int n) ⟨tv, rfl⟩ f⟩
    have J : Inv X pins σ (upd H1 d (.xd [(("place" : Str), .int n)])) ⟨G', g, dr, tk', os⟩ := I1.laid (t' := tk') old M.dbig ob
    refine ⟨e, oe, fv, ⟨G', g, dr, tk', os⟩, _, .ref C, some d, rfl, J, fun b o q => ?_, ge, hoe, ⟨hc, hd⟩, hdat, h1, ?_, rfl, I1.bare, raises_own T.exC T.tyC, q1 d (I1.hok.fresh M.dbig)⟩
    · by_cases hb : b = e
      · have q' : G'.get? b = some o := q
        rw [hb, ge] at q'; cases q'
      · exact (gk b hb).symm.trans q
    · rw [upd_ne (Ne.symm M.dne)]
      exact I1.hok.fresh M.new
/-- raise Unsaid(e) -/
def tRaiseUns (C : Addr) (W : WX) (ta : TA) : TS := fun _ σ H => tMkUns C ta σ H fun cls d H' => W cls d σ H'
theorem ps_raiseUns {a : Expr} {ta : TA} {W : WX} {p pos pos2 : Pos} {k : Nat} (hc : X.calm = true) (T : PySem.UnsX.UnsTxt X.prog X.K X.mg C fI) (hr : Room k X.A) (tk : Takes X W) (ha : PA X [a] ta) (hg : Gl X "Unsaid" := by rfl)
    (he : starEach (a :: []) X.env = (false, eval a X.env) :: starEach [] X.env := by rfl) (hpl : (backTo pos (starEach [] X.env)).any (·.1) = false := by rfl) :
    PS X (.Raise (some (.Call (.Name "Unsaid" p) [a] [] pos)) none pos2) (tRaiseUns C W ta) := ps_raise hc tk (pmk_uns T hr ha hg he hpl)
end
end Say
namespace Say
open PySem PySem.Spec PyProof.Rows L2
section
variable {P : Program} {w : World} {K : PySem.W.Frag} {mg : Str → Option Value} {base : Heap} {C fI : Addr}
abbrev sWd : Stmt := topS 58
theorem scWd : FnScope ["rules", "word", "steps", "stuck"] ["rules", "word"] (defScope sWd) := ⟨rfl, rfl, rfl, by decide +kernel, rfl, by decide +kernel, by decide +kernel⟩
/-- the steps, or Unsaid with the place -/
def toldW (C : Addr) (rs : List Rule) (wd : List Nat) (H : Hp) (Q : VK) (E : XK) : Prop :=
  ((W rs wd).2 = none → ∀ (D : Addr) (H' : Hp), Same H H' → H D = none → StepsAt H' D (W rs wd).1 → Q (.ref D) H') ∧
  (∀ p : Nat, (W rs wd).2 = some p → ∀ (d : Addr) (H' : Hp), Same H H' → H d = none → H' d = some (.xd [(("place" : Str), .int p)]) → E (.ref C) (some d) H')
def spWdR (C : Addr) : Sp := fun vs H Q E => ∃ (R : Addr) (rs : List Rule) (wd : List Nat), vs = [.ref R, .str (T wd)] ∧ RulesAt H R rs ∧ (∀ ρ ∈ rs, RlOk ρ) ∧ wd.length ≤ 80 ∧ toldW C rs wd H Q E
theorem ok_wdR {f : Addr} {fd : FuncData} (F : Fun K "walked" "walked" sWd f fd) (Cs : Cn mg) (U : PySem.UnsX.UnsTxt P K mg C fI) (DS : Df P w K mg base "steps_of" ["rules", "tail"] 3 spSt) : FnOk P w K mg base (L2.CX P w) 4 f fd ["rules", "word"] (spWdR C) := by
  obtain ⟨fS, fdS, GS, kS, bS, mS⟩ := DS
  obtain ⟨tE, mE⟩ := Cs.edge
  refine F.okX scWd (fun vs H Q E h => ?_) (fun cdv A outer s H vs Q E hr h => ?_)
  · obtain ⟨R, rs, wd, rfl, _⟩ := h
    rfl
  · obtain ⟨R, rs, wd, rfl, hR, ho, hw, q1, q2⟩ := h
    refine ⟨_, pss_cons (ps_asg (pe_call GS hr (by rfl) mS kS bS .nil pass0 (pa_cons (pv 0) (pa_cons (pe_op op_add_str (pe_glob (v := .str "#") rfl mE ⟨_, rfl⟩) (pv 1)) pa_nil))) (pg_tup (by rfl) (pgs_cons (pg_name (i := 2) scWd.nd rfl (.inl rfl)) (pgs_cons (pg_name (i := 3) scWd.nd rfl (.inl rfl)) pgs_nil))))
      (pss_cons (ps_if (pt_cmpR op_notN (pv 3) pe_non (nomark _)) (pss_one (ps_raiseUns rfl U hr (takes_of rfl rfl rfl rfl) (by exact (pa_cons (pv 3) pa_nil)))) pss_nil)
      (pss_one (ps_ret (pv 2)))), ?_⟩
    refine ⟨_, rfl, _, rfl, _, _, rfl, rfl, (by rw [len_hash, T_len]; exact small (by omega)), R, rs, 35 :: wd, (by rw [hash_app]; rfl), hR, ho, by simp, by simp; omega, fun t D H1 s1 hD ht hS => ?_⟩
    rw [← W_Wt] at ht hS
    cases hN : (W rs wd).2 with
    | none =>
      rw [hN] at ht
      refine ⟨t, _, rfl, .inl (.inl ht), rfl, _, _, rfl, _, _, rfl, rfl, ?_⟩
      refine ⟨_, rfl, rfl, _, rfl, iteF ?_⟩
      exact ⟨_, rfl, q1 hN D H1 s1 hD hS⟩
    | some p =>
      rw [hN] at ht
      refine ⟨t, _, rfl, .inl (.inl ht), rfl, _, _, rfl, _, _, rfl, rfl, ?_⟩
      refine ⟨_, rfl, rfl, _, rfl, iteT ?_⟩
      refine ⟨_, rfl, p, rfl, by have := W_stuck hN; omega, fun d hd => ?_⟩
      exact q2 p hN d _ (s1.trans (same_new hd _)) (s1.free hd) upd_same
end
end Say
namespace Say
open PySem PySem.Spec PyProof.Rows L2
section
variable {P : Program} {w : World} {K : PySem.W.Frag} {mg : Str → Option Value} {base : Heap}
abbrev sChW : Stmt := topS 32
theorem scChW : FnScope ["letters", "word"] ["letters", "word"] (defScope sChW) := ⟨rfl, rfl, rfl, by decide +kernel, rfl, by decide +kernel, by decide +kernel⟩
def spChW : Sp := fun vs H Q _ => ∃ (L z : List Nat), vs = [.str (T L), .str (T z)] ∧ (∀ c ∈ z, c ∈ L) ∧ z.length ≤ 12 ∧ ∀ (H' : Hp), Same H H' → Q .non H'
theorem ok_chW {f : Addr} {fd : FuncData} (F : Fun K "check_word" "check_word" sChW f fd) (cL : KI mg "LONGEST_WORD" 12) (DT : Df P w K mg base "is_text" psIsText 1 spIsText) :
    FnOk P w K mg base CX0 2 f fd ["letters", "word"] spChW := by
  obtain ⟨fT, fdT, GT, kT, bT, mT⟩ := DT
  obtain ⟨tS, mS⟩ := cL
  refine F.ok scChW (fun vs H Q E h => ?_) (fun cdv A outer s H vs Q E hr h => ?_)
  · obtain ⟨L, z, rfl, _⟩ := h
    rfl
  · obtain ⟨L, z, rfl, h1, h2, q⟩ := h
    refine ⟨_, pss_one (ps_if (pt_not (pt_val (pe_call GT hr (by rfl) mT kT bT .nil pass0 (pa_cons (pv 1) (pa_cons (pv 0) (pa_cons pe_int (pa_cons (pe_glob (v := .int 12) rfl mS ⟨_, rfl⟩) pa_nil))))))) (pss_one ps_never) pss_nil), ?_⟩
    refine ⟨_, rfl, _, rfl, z, L, 0, 12, rfl, by omega, fun H1 s1 => ?_⟩
    rw [isText_of (Nat.zero_le _) h2 h1]
    exact ⟨true, rfl, iteF (q H1 s1)⟩
end
end Say
namespace Say
open PySem PySem.Spec PyProof.Rows L2
section
variable {P : Program} {w : World} {K : PySem.W.Frag} {mg : Str → Option Value} {base : Heap} {C fI : Addr}
abbrev sSaid : Stmt := topS 57
theorem scSaid : FnScope ["book", "word", "letters", "rules", "exceptions", "written", "sounds"] ["book", "word"] (defScope sSaid) := ⟨rfl, rfl, rfl, by decide +kernel, rfl, by decide +kernel, by decide +kernel⟩
/-- the sounds, or Unsaid with the place -/
def toldS (C : Addr) (rs : List Rule) (es : List Exc) (wd : List Nat) (H : Hp) (Q : VK) (E : XK) : Prop :=
  (∀ so, saidM rs es wd = some so → ∀ (H' : Hp), Same H H' → Q (.str (T so)) H') ∧
  (saidM rs es wd = none → ∀ p : Nat, (W rs wd).2 = some p → ∀ (d : Addr) (H' : Hp), Same H H' → H d = none → H' d = some (.xd [(("place" : Str), .int p)]) → E (.ref C) (some d) H')
def spSaidR (C : Addr) : Sp := fun vs H Q E => ∃ (b : Addr) (L : List Nat) (rs : List Rule) (es : List Exc) (wd : List Nat), vs = [.ref b, .str (T wd)] ∧ BookAt H b L rs es ∧ BookOk L rs es ∧ (∀ c ∈ wd, c ∈ L) ∧ wd.length ≤ 12 ∧ toldS C rs es wd H Q E
theorem ok_saidR {f fD : Addr} {fd fdD : FuncData} (F : Fun K "said" "said" sSaid f fd) (DC : Df P w K mg base "checked_book" ["book"] 5 spCh) (DW : Df P w K mg base "check_word" ["letters", "word"] 2 spChW)
    (GD : FnOk P w K mg base (L2.CX P w) 4 fD fdD ["rules", "word"] (spWdR C)) (kD : PySem.W.keepIn K (.ref fD) = true) (bD : Binds K fdD ["rules", "word"] []) (mD : mg "walked" = some (.ref fD))
    (DN : Df P w K mg base "numbers_of" ["steps"] 1 spNum) (DS : Df P w K mg base "sounds_of" ["rules", "numbers"] 1 spSou) : FnOk P w K mg base (L2.CX P w) 6 f fd ["book", "word"] (spSaidR C) := by
  obtain ⟨fC, fdC, GC, kC, bC, mC⟩ := DC
  obtain ⟨fW, fdW, GW, kW, bW, mW⟩ := DW
  obtain ⟨fN, fdN, GN, kN, bN, mN⟩ := DN
  obtain ⟨fS, fdS, GS, kS, bS, mS⟩ := DS
  refine F.okX scSaid (fun vs H Q E h => ?_) (fun cdv A outer s H vs Q E hr h => ?_)
  · obtain ⟨b, L, rs, es, wd, rfl, _⟩ := h
    rfl
  · obtain ⟨b, L, rs, es, wd, rfl, hB, ho, hw, hl, q1, q2⟩ := h
    have tk : Takes _ (fun cls d _ H => E cls d H) := takes_of (X := cxOf (L2.CX P w) P w K mg base ["book", "word", "letters", "rules", "exceptions", "written", "sounds"] "said" (defScope sSaid) f cdv A outer s H E) rfl rfl rfl rfl
    have px : PassesOwn (model P w) (A.deeper (envOfC "said" (defScope sSaid) s.heap.objs.size f cdv)) (envOfC "said" (defScope sSaid) s.heap.objs.size f cdv) (cxOf (L2.CX P w) P w K mg base ["book", "word", "letters", "rules", "exceptions", "written", "sounds"] "said" (defScope sSaid) f cdv A outer s H E).xe := PassesOwn.leaving
    refine ⟨_, pss_cons (ps_asg (pe_call GC hr (by rfl) mC kC bC .nil pass0 (pa_cons (pv 0) pa_nil)) (pg_tup (by rfl) (pgs_cons (pg_name (i := 2) scSaid.nd rfl (.inl rfl)) (pgs_cons (pg_name (i := 3) scSaid.nd rfl (.inl rfl)) (pgs_cons (pg_name (i := 4) scSaid.nd rfl (.inl rfl)) pgs_nil)))))
      (pss_cons (ps_expr (pe_call GW (hr.mono (by decide)) (by rfl) mW kW bW .nil pass0 (pa_cons (pv 2) (pa_cons (pv 1) pa_nil))))
      (pss_cons (ps_for px rfl (pi_tup (pv 4)) (pg_tup (by rfl) (pgs_cons (pg_name (i := 5) scSaid.nd rfl (.inl rfl)) (pgs_cons (pg_name (i := 6) scSaid.nd rfl (.inl rfl)) pgs_nil)))
        (pss_one (ps_if (pt_cmpR op_eq (pv 5) (pv 1) (nomark _)) (pss_one (ps_ret (pv 6))) pss_nil)))
      (pss_one (ps_ret (pe_call GS (hr.mono (by decide)) (by rfl) mS kS bS .nil pass0 (pa_cons (pv 3) (pa_cons (pe_call GN (hr.mono (by decide)) (by rfl) mN kN bN .nil pass0 (pa_cons (pe_callS GD (hr.mono (by decide)) (by rfl) mD kD bD (fun σ => passAt tk σ) (by exact (pa_cons (pv 3) (pa_cons (pv 1) pa_nil)))) pa_nil)) pa_nil))))))), ?_⟩
    refine ⟨_, rfl, b, L, rs, es, rfl, hB, ho, fun H1 s1 => ?_⟩
    obtain ⟨R, X, hb, hR, hX⟩ := hB.kt (.of s1)
    obtain ⟨ts, hXl, hXp⟩ := id hX
    refine ⟨b, _, rfl, .inl (.inl hb), rfl, _, _, rfl, _, _, rfl, _, _, rfl, rfl, ?_⟩
    refine ⟨_, rfl, _, rfl, L, wd, rfl, hw, hl, fun H2 s2 => ?_⟩
    have hXl2 := hXl.kt (.of s2)
    refine ⟨_, rfl, X, rfl, ⟨_, .inl hXl2.rd⟩, for_it (walk_tup (xs := ts.map V.ref)) (fun i σ H3 => Same H2 H3 ∧ (∃ v5 v6, σ = [some (.ref b), some (.str (T wd)), some (.str (T L)), some (.ref R), some (.ref X), v5, v6]) ∧ ∀ j e, j < i → es[j]? = some e → ¬ e.1 = wd)
      ⟨Same.refl _, ⟨_, _, rfl⟩, fun j e h => absurd h (Nat.not_lt_zero j)⟩ (fun i σ H3 _ h => .inl (hXl2.kt (.of h.1)).rd) ?_ ?_⟩
    · rintro i x σ H3 H4 hi ⟨s3, ⟨v5, v6, rfl⟩, hn⟩ ⟨rfl, hx⟩
      rw [List.getElem?_map] at hx
      obtain ⟨a, ha, e⟩ := Option.map_eq_some_iff.mp hx
      subst e
      obtain ⟨e, he, hat⟩ := paired_at hXp ha
      have hat' := s3 _ _ (s2 _ _ hat)
      refine ⟨a, _, rfl, .inl (.inl hat'), rfl, _, _, rfl, _, _, rfl, rfl, ?_⟩
      refine ⟨_, rfl, _, rfl, rfl, _, rfl, ?_⟩
      rw [eqT]
      refine ite2 (fun c => ?_) (fun c => ?_)
      · have c := of_decide_eq_true c
        have ef : es.find? (fun e => decide (e.1 = wd)) = some e := by
          refine List.find?_eq_some_iff_getElem.mpr ⟨decide_eq_true c, i, (List.getElem?_eq_some_iff.mp he).1, (List.getElem?_eq_some_iff.mp he).2, fun j hj => ?_⟩
          have := hn j _ hj (List.getElem?_eq_getElem (by have := (List.getElem?_eq_some_iff.mp he).1; omega))
          simp only [this, decide_false, Bool.not_false]
        exact ⟨_, rfl, q1 e.2 (by unfold saidM; rw [ef]) _ (s1.trans (s2.trans s3))⟩
      · have c := of_decide_eq_false (Bool.eq_false_iff.mpr c)
        refine ⟨s3, ⟨_, _, rfl⟩, fun j e' hj he' => ?_⟩
        by_cases ej : j = i
        · subst ej
          rw [he] at he'
          cases he'
          exact c
        · exact hn j e' (by omega) he'
    · rintro σ H3 ⟨s3, ⟨v5, v6, rfl⟩, hn⟩
      have ef : es.find? (fun e => decide (e.1 = wd)) = none := by
        refine List.find?_eq_none.mpr fun e he => ?_
        obtain ⟨j, hj⟩ := List.mem_iff_getElem?.mp he
        have := hn j e (by rw [List.length_map, paired_len hXp]; exact (List.getElem?_eq_some_iff.mp hj).1) hj
        simpa using this
      have eM : saidM rs es wd = sayW rs wd := by
        unfold saidM
        rw [ef]
      have hR3 := hR.kt (.of (s2.trans s3))
      have hlw : (W rs wd).1.length ≤ wd.length + 1 := wk_len rs (sgn wd) (wd.length + 1) 1
      have s13 := s1.trans (s2.trans s3)
      refine ⟨_, rfl, _, rfl, _, rfl, R, rs, wd, rfl, hR3, ho.rls, by omega, fun hN D H4 s4 hD hS => ?_, fun p hp d H4 s4 hd hH => ?_⟩
      · refine ⟨D, _, rfl, hS, by omega, fun D' H5 s5 _ hD' => ?_⟩
        refine ⟨R, D', rs, ((W rs wd).1.map fun s : Nat × Nat => s.2), rfl, hR3.kt (.of (s4.trans s5)), ho.rls, by rw [hD', List.map_map]; rfl, fun k hk => ?_, by rw [List.length_map]; omega, fun H6 s6 => ?_⟩
        · obtain ⟨st, hst, rfl⟩ := List.mem_map.mp hk
          exact wk_lt _ _ st hst
        · exact q1 _ (by rw [eM]; unfold sayW; rw [if_pos hN]) H6 (s13.trans (s4.trans (s5.trans s6)))
      · refine q2 ?_ p hp d H4 (s13.trans s4) (s13.free hd) hH
        rw [eM]
        unfold sayW
        rw [if_neg (by rw [hp]; intro z; cases z)]
end
end Say
namespace Say
open PySem PySem.Spec PyProof.Rows L2
theorem count_eqU {x : V} : ∀ {xs : List V} {us : List Value}, Vals xs us → xs.all flatV = true → us.countP (eqU x) = xs.countP fun y => eqV y x
  | _, _, .nil, _ => rfl
  | y :: xs, u :: us, .cons r t, f => by
    rw [List.all_cons, Bool.and_eq_true] at f
    have ih := count_eqU (x := x) t f.2
    rw [List.countP_cons, List.countP_cons, ih, eqU_of r f.1]
section
variable {X : Cx}
/-- l.count(y) of plain values -/
def rCntV (K : PySem.W.Frag) : V → List V → Hp → VK → Prop := fun x xs H Q => ∃ (p : Addr) (ys : List V) (y : V), x = .ref p ∧ xs = [y] ∧ SqL K H p ys ∧ flatV y = true ∧ ys.all flatV = true ∧ Q (.int ((ys.countP fun z => eqV z y : Nat) : Int)) H
theorem mt_countV : MtR X "list.count" (rCntV X.K) := by
  intro pins s σ H x xs v us Q I rx rxs h
  obtain ⟨p, ys, y, rfl, rfl, hs, fy, fys, q⟩ := h
  cases rx
  obtain ⟨u, rfl, ru⟩ := rxs.one
  obtain ⟨its, rv, ⟨⟨cls, dd, data, sl⟩, n, ho, hc, hdn, hd⟩, hlen⟩ := I.list hs
  simp only at hc hd
  subst hc hd
  refine call_meets PySem.F.slot_list_count ⟨_, ho, rfl⟩ PySem.F.entry_list_count (PySem.F.args_list_count_2 _ _)
    (SeqAt.list_countAt p its.toArray n dd sl u (eqU y)) ⟨ho, fun u' hu' => mem_eqAt ru fy rv fys u' (by simpa using hu'), ?_⟩
  have ec : its.toArray.toList.countP (eqU y) = ys.countP fun z => eqV z y := count_eqU rv fys
  refine ⟨.int _, H, I.tok _, ⟨s.toks, ?_⟩, q⟩
  rw [ec]
/-- isinstance(e, c), e the caught one, an instance of D with a dict -/
def rIsED (K : PySem.W.Frag) (D a : Addr) (cls : Value) (d : Option Addr) : List V → Hp → VK → Prop := fun xs H Q => ∃ (c : V) (cv : Value) (b : Bool) (dd : Addr) (fs : List (Str × V)), xs = [.ref a, c] ∧ ClsV c cv ∧ cls = .ref D ∧ d = some dd ∧ H dd = some (.xd fs) ∧ PySem.W.kitOne K (.ref D) cv = some b ∧ Q (.bl b) H
theorem call_isED {a D : Addr} {oe : Obj} {cls : Value} {d : Option Addr} {pn : List (Addr × Obj)} (C : ExcC X.K D) (hz : Zc cls d oe) (hf : ∃ vs, oe.data = .fields vs) : CallR (X.suite a ((a, oe) :: pn)) (.builtin "isinstance") (rIsED X.K D a cls d) := by
  intro pins s σ H xs us Q I r h
  obtain ⟨c, cv, b, dd, fs, rfl, hcv, ecl, ed, hH, e, q⟩ := h
  subst ed
  subst ecl
  obtain ⟨u1, u2, rfl, r1, r2⟩ := vals2 r
  cases (show u1 = Value.ref a from r1)
  have ec := hcv.eq r2
  subst ec
  obtain ⟨hget, _⟩ := I.pin (a, oe) (List.mem_append.mpr (.inl List.mem_cons_self))
  obtain ⟨vs, hv⟩ := hf
  have hx : ObjOk X.prog X.w H s.heap dd (.xd fs) := I.hok dd _ hH
  obtain ⟨mA, hns, hr⟩ := hx
  obtain ⟨od, ho, hl⟩ := lookIn_ns hns
  have J : PySem.W.InstAt s.heap a oe D (some od) := ⟨hget, hz.1, by unfold PySem.W.notCls; rw [hv] <;> rfl, by rw [hz.2]; exact ho⟩
  have hcl : (PySem.W.clsIn X.K D).isSome = true := by
    obtain ⟨cd, hc, _⟩ := PySem.W.any_some C.hd
    rw [hc]; rfl
  exact PySem.W.kia_one (PySem.W.kitx_exc hcl C.hg C.hk C.hs C.ha C.hn C.ht C.hm) I.kIn J e (fun z => nomatch z) fun tk => ⟨.bl b, H, I.kept (t' := tk) fun _ _ z => z, rfl, q⟩
/-- what may be known of the caught one's dict -/
def Held (H : Hp) (d : Option Addr) : Prop := d = none ∨ ∃ (dd : Addr) (fs : List (Str × V)), d = some dd ∧ H dd = some (.xd fs)
theorem Held.same {H H' : Hp} {d : Option Addr} (h : Held H d) (e : ∀ b o, H b = some o → H' b = some o) : Held H' d := by
  rcases h with h | ⟨dd, fs, h1, h2⟩
  · exact .inl h
  · exact .inr ⟨dd, fs, h1, e _ _ h2⟩
/-- isinstance(e, c), e the caught one, an instance of D -/
def rIsEA (K : PySem.W.Frag) (D a : Addr) (cls : Value) (d : Option Addr) : List V → Hp → VK → Prop := fun xs H Q => ∃ (c : V) (cv : Value) (b : Bool), xs = [.ref a, c] ∧ ClsV c cv ∧ cls = .ref D ∧ Held H d ∧ PySem.W.kitOne K (.ref D) cv = some b ∧ Q (.bl b) H
theorem call_isEA {a D : Addr} {oe : Obj} {cls : Value} {d : Option Addr} {pn : List (Addr × Obj)} (C : ExcC X.K D) (hz : Zc cls d oe) (hf : ∃ vs, oe.data = .fields vs) : CallR (X.suite a ((a, oe) :: pn)) (.builtin "isinstance") (rIsEA X.K D a cls d) := by
  intro pins s σ H xs us Q I r h
  obtain ⟨c, cv, b, rfl, hcv, ecl, hH, e, q⟩ := h
  subst ecl
  obtain ⟨u1, u2, rfl, r1, r2⟩ := vals2 r
  cases (show u1 = Value.ref a from r1)
  have ec := hcv.eq r2
  subst ec
  obtain ⟨hget, _⟩ := I.pin (a, oe) (List.mem_append.mpr (.inl List.mem_cons_self))
  obtain ⟨vs, hv⟩ := hf
  have hcl : (PySem.W.clsIn X.K D).isSome = true := by
    obtain ⟨cd, hc, _⟩ := PySem.W.any_some C.hd
    rw [hc]; rfl
  obtain ⟨od, J⟩ : ∃ od, PySem.W.InstAt s.heap a oe D od := by
    rcases hH with ed | ⟨dd, fs, ed, hH⟩
    · subst ed
      obtain ⟨oc, od, oda, osl⟩ := oe
      obtain ⟨h1, h2⟩ := hz
      dsimp only at h1 h2 hv
      subst h1 h2 hv
      exact ⟨none, hget, rfl, rfl, trivial⟩
    · subst ed
      have hx : ObjOk X.prog X.w H s.heap dd (.xd fs) := I.hok dd _ hH
      obtain ⟨mA, hns, hr⟩ := hx
      obtain ⟨od, ho, hl⟩ := lookIn_ns hns
      exact ⟨some od, hget, hz.1, by unfold PySem.W.notCls; rw [hv] <;> rfl, by rw [hz.2]; exact ho⟩
  exact PySem.W.kia_one (PySem.W.kitx_exc hcl C.hg C.hk C.hs C.ha C.hn C.ht C.hm) I.kIn J e (fun z => nomatch z) fun tk => ⟨.bl b, H, I.kept (t' := tk) fun _ _ z => z, rfl, q⟩
end
end Say
namespace Say
open PySem PySem.Spec PyProof.Rows L2
/-- what the top says of the classes that are asked for, the caught one's class at CU, the j-th of the twelve -/
structure WordC (K : PySem.W.Frag) (mg : Str → Option Value) (CU : Addr) (j : Nat) : Prop where
  say : ∃ c, mg "SayError" = some (.ref c) ∧ PySem.W.exmOne K (.ref CU) (.ref c) = some true
  book : ∃ c, mg "BadBook" = some (.ref c) ∧ PySem.W.kitOne K (.ref CU) (.ref c) = some (decide (0 = j))
  word : ∃ c, mg "BadWord" = some (.ref c) ∧ PySem.W.kitOne K (.ref CU) (.ref c) = some (decide (1 = j))
  snds : ∃ c, mg "BadSounds" = some (.ref c) ∧ PySem.W.kitOne K (.ref CU) (.ref c) = some (decide (2 = j))
  coun : ∃ c, mg "BadCount" = some (.ref c) ∧ PySem.W.kitOne K (.ref CU) (.ref c) = some (decide (3 = j))
  uns : ∃ c, mg "Unsaid" = some (.ref c) ∧ PySem.W.kitOne K (.ref CU) (.ref c) = some (decide (4 = j))
  lett : ∃ c, mg "NoLetter" = some (.ref c) ∧ PySem.W.kitOne K (.ref CU) (.ref c) = some (decide (5 = j))
  exce : ∃ c, mg "NoException" = some (.ref c) ∧ PySem.W.kitOne K (.ref CU) (.ref c) = some (decide (6 = j))
  othe : ∃ c, mg "OtherLetters" = some (.ref c) ∧ PySem.W.kitOne K (.ref CU) (.ref c) = some (decide (7 = j))
  samp : ∃ c, mg "BadSamples" = some (.ref c) ∧ PySem.W.kitOne K (.ref CU) (.ref c) = some (decide (8 = j))
  deed : ∃ c, mg "BadDeed" = some (.ref c) ∧ PySem.W.kitOne K (.ref CU) (.ref c) = some (decide (9 = j))
  halt : ∃ c, mg "Halted" = some (.ref c) ∧ PySem.W.kitOne K (.ref CU) (.ref c) = some (decide (10 = j))
  text : ∃ c, mg "BadText" = some (.ref c) ∧ PySem.W.kitOne K (.ref CU) (.ref c) = some (decide (11 = j))
  val : mg "ValueError" = none
  kv : PySem.W.kitOne K (.ref CU) (.type "ValueError") = some true
  exc : ExcC K CU
  xf : XfC K CU
  noP : PySem.W.findIn K (.ref CU) "place" = some none
  noN : PySem.W.findIn K (.ref CU) "number" = some none
  noA : PySem.W.findIn K (.ref CU) "part" = some none
  noD : PySem.W.findIn K (.ref CU) "done" = some none
  noR : PySem.W.findIn K (.ref CU) "row" = some none
/-- the name of the j-th -/
def nmJ (j : Nat) : Str := (["book", "word", "sounds", "count", "unsaid", "letter", "exception", "others", "samples", "deed", "halted", "text"] : List Str).getD j ""
def plainJ (j : Nat) : Bool := decide (j = 1) || (decide (j = 2) || (decide (j = 3) || (decide (j = 5) || (decide (j = 6) || decide (j = 7)))))
def toldJ (j : Nat) : Bool := decide (j < 12)
def bsJ (j : Nat) : List V := [.bl (decide (0 = j)), .bl (decide (1 = j)), .bl (decide (2 = j)), .bl (decide (3 = j)), .bl (decide (4 = j)), .bl (decide (5 = j)), .bl (decide (6 = j)), .bl (decide (7 = j)), .bl (decide (8 = j)), .bl (decide (9 = j)), .bl (decide (10 = j)), .bl (decide (11 = j))]
theorem plain_cases {j : Nat} (h : plainJ j = true) : j = 1 ∨ j = 2 ∨ j = 3 ∨ j = 5 ∨ j = 6 ∨ j = 7 := by
  unfold plainJ at h
  simpa using h
theorem told_cases {j : Nat} (h : toldJ j = true) : j = 0 ∨ j = 1 ∨ j = 2 ∨ j = 3 ∨ j = 4 ∨ j = 5 ∨ j = 6 ∨ j = 7 ∨ j = 8 ∨ j = 9 ∨ j = 10 ∨ j = 11 := by
  have h := of_decide_eq_true h
  omega
theorem told_facts {j : Nat} (h : toldJ j = true) : (bsJ j).all flatV = true ∧ ((bsJ j).countP fun z => eqV z (.bl true)) = 1 ∧ (bsJ j)[j]? = some (.bl true) ∧ (∀ (m : Nat) (z : V), m < j → (bsJ j)[m]? = some z → eqV z (.bl true) = false) ∧
    atI ([.str "book", .str "word", .str "sounds", .str "count", .str "unsaid", .str "letter", .str "exception", .str "others", .str "samples", .str "deed"] ++ [.str "halted", .str "text"] : List V) (j : Nat) = some (.str (nmJ j)) := by
  have key : ∀ (m : Nat) (z : V), m < j → (bsJ j)[m]? = some z → eqV z (.bl true) = false := fun m z hm hz => by
    have hj := of_decide_eq_true h
    have hk : ∀ a b : Nat, a ≠ b → eqV (.bl (decide (a = b))) (.bl true) = false := fun a b n => by rw [decide_eq_false n]; rfl
    match m, hm, hz with
    | 0, hm, e => cases e; exact hk _ _ (Nat.ne_of_lt hm)
    | 1, hm, e => cases e; exact hk _ _ (Nat.ne_of_lt hm)
    | 2, hm, e => cases e; exact hk _ _ (Nat.ne_of_lt hm)
    | 3, hm, e => cases e; exact hk _ _ (Nat.ne_of_lt hm)
    | 4, hm, e => cases e; exact hk _ _ (Nat.ne_of_lt hm)
    | 5, hm, e => cases e; exact hk _ _ (Nat.ne_of_lt hm)
    | 6, hm, e => cases e; exact hk _ _ (Nat.ne_of_lt hm)
    | 7, hm, e => cases e; exact hk _ _ (Nat.ne_of_lt hm)
    | 8, hm, e => cases e; exact hk _ _ (Nat.ne_of_lt hm)
    | 9, hm, e => cases e; exact hk _ _ (Nat.ne_of_lt hm)
    | 10, hm, e => cases e; exact hk _ _ (Nat.ne_of_lt hm)
    | 11, hm, e => cases e; exact hk _ _ (Nat.ne_of_lt hm)
    | m + 12, hm, e => omega
  rcases told_cases h with rfl | rfl | rfl | rfl | rfl | rfl | rfl | rfl | rfl | rfl | rfl | rfl
  all_goals exact ⟨rfl, rfl, rfl, key, rfl⟩
theorem plain_facts {j : Nat} (h : plainJ j = true) : nmJ j ≠ "book" ∧ nmJ j ≠ "halted" ∧ nmJ j ≠ "unsaid" ∧ nmJ j ≠ "text" ∧ nmJ j ≠ "samples" ∧ nmJ j ≠ "deed" := by
  rcases plain_cases h with rfl | rfl | rfl | rfl | rfl | rfl
  all_goals exact ⟨by decide +kernel, by decide +kernel, by decide +kernel, by decide +kernel, by decide +kernel, by decide +kernel⟩
/-- a wish that may ask how many slots there are -/
theorem takes_len {X : Cx} {W : WX} {n : Nat} (h : X.N.length = n) (tk : Takes X W) : Takes X (fun cls d σ H => σ.length = n → W cls d σ H) := fun u s' xx => by
  obtain ⟨a, B, sI, pins, σ, H, cls, d, e, I, nb, up, sky, na, os, ag, w⟩ := xx
  exact tk u s' ⟨a, B, sI, pins, σ, H, cls, d, e, I, nb, up, sky, na, os, ag, w (I.len.trans h)⟩
abbrev sLWo : Stmt := topS 95
abbrev nLWo : List Str := ["_law_work", "_law_found", "e", "_law_kinds", "_law_names", "_law_name"]
theorem scLWo : FnScope nLWo ["_law_work"] (defScope sLWo) := ⟨rfl, rfl, rfl, by decide +kernel, rfl, by decide +kernel, by decide +kernel⟩
abbrev suLWo : List Stmt := match defBody sLWo with
  | _ :: .Try _ (.ExceptHandler _ _ b _ :: _) _ _ _ :: _ => b
  | _ => []
section
variable {X : Cx} {g CU : Addr} {cdg : Value} {s : Shared} {H : Hp}
abbrev cxLWo (X : Cx) (g : Addr) (cdg : Value) (s : Shared) (H : Hp) : Cx := (cxOf C8.CX0 X.prog X.w X.K X.mg X.base nLWo "_law_word" (defScope sLWo) g cdg X.A X.stack s H C8.E0).nox
/-- what the caught one is told as -/
def tellsJ (j : Nat) (d : Option Addr) (H : Hp) (R : Hp → Addr → Prop) : Prop :=
  (j = 4 ∧ ∃ (dd : Addr) (p : Nat), d = some dd ∧ H dd = some (.xd [(("place" : Str), .int p)]) ∧ R = fun H2 t => H2 t = some (.tup [.str "unsaid", .int p])) ∨
  (plainJ j = true ∧ Held H d ∧ R = fun H2 t => H2 t = some (.tup [.str (nmJ j), .non])) ∨
  (j = 0 ∧ ∃ (dd : Addr) (p n : Int), d = some dd ∧ H dd = some (.xd [(("number" : Str), .int n), (("part" : Str), .int p)]) ∧ R = fun H2 t => ∃ q, H2 q = some (.tup [.int p, .int n]) ∧ H2 t = some (.tup [.str "book", .ref q])) ∨
  (j = 10 ∧ ∃ (dd : Addr) (n m : Int), d = some dd ∧ H dd = some (.xd [(("done" : Str), .int m), (("number" : Str), .int n)]) ∧ R = fun H2 t => ∃ q, H2 q = some (.tup [.int n, .int m]) ∧ H2 t = some (.tup [.str "halted", .ref q])) ∨
  (j = 11 ∧ ∃ (dd : Addr) (n : Int), d = some dd ∧ H dd = some (.xd [(("row" : Str), .int n)]) ∧ R = fun H2 t => H2 t = some (.tup [.str "text", .int n])) ∨
  ((j = 8 ∨ j = 9) ∧ ∃ (dd : Addr) (n : Int), d = some dd ∧ H dd = some (.xd [(("number" : Str), .int n)]) ∧ R = fun H2 t => H2 t = some (.tup [.str (nmJ j), .int n]))
theorem word_suite {j : Nat} (B : Bn X.mg) (WC : WordC X.K X.mg CU j) (a : Addr) (oe : Obj) (cls : Value) (d : Option Addr) (pn : List (Addr × Obj)) (hz : Zc cls d oe) (hf : ∃ vs, oe.data = .fields vs) : ∃ t : TS,
    PSs ((cxLWo X g cdg s H).suite a ((a, oe) :: pn)) suLWo t ∧
    ∀ (R : Hp → Addr → Prop) (D : Ends) (σ : L2.St) (H1 : Hp), cls = .ref CU → σ.length = 6 → H1 a = none → tellsJ j d H1 R → (∀ (t : Addr) (H2 : Hp), Same H1 H2 → R H2 t → D.rt (.ref t) H2) →
      t D (σ.set 2 (some (.ref a))) H1 := by
  obtain ⟨c1, m1, k1⟩ := WC.book
  obtain ⟨c2, m2, k2⟩ := WC.word
  obtain ⟨c3, m3, k3⟩ := WC.snds
  obtain ⟨c4, m4, k4⟩ := WC.coun
  obtain ⟨c5, m5, k5⟩ := WC.uns
  obtain ⟨c6, m6, k6⟩ := WC.lett
  obtain ⟨c7, m7, k7⟩ := WC.exce
  obtain ⟨c8, m8, k8⟩ := WC.othe
  obtain ⟨c9, m9, k9⟩ := WC.samp
  obtain ⟨c10, m10, k10⟩ := WC.deed
  obtain ⟨c11, m11, k11⟩ := WC.halt
  obtain ⟨c12, m12, k12⟩ := WC.text
  have EC := WC.exc
  have XF := WC.xf
  have isE : CallR ((cxLWo X g cdg s H).suite a ((a, oe) :: pn)) (.builtin "isinstance") (rIsEA X.K CU a cls d) := call_isEA (X := cxLWo X g cdg s H) EC hz hf
  refine ⟨_, pss_cons (ps_set (i := 3) scLWo.nd rfl (.inl rfl) (pe_lst (pa_cons (pe_callB isE (by rfl) B.isi (by decide +kernel) (pa_cons (pv 2) (pa_cons (pe_glob (v := .ref c1) (by rfl) m1 rfl) pa_nil))) (pa_cons (pe_callB isE (by rfl) B.isi (by decide +kernel) (pa_cons (pv 2) (pa_cons (pe_glob (v := .ref c2) (by rfl) m2 rfl) pa_nil)))
        (pa_cons (pe_callB isE (by rfl) B.isi (by decide +kernel) (pa_cons (pv 2) (pa_cons (pe_glob (v := .ref c3) (by rfl) m3 rfl) pa_nil))) (pa_cons (pe_callB isE (by rfl) B.isi (by decide +kernel) (pa_cons (pv 2) (pa_cons (pe_glob (v := .ref c4) (by rfl) m4 rfl) pa_nil))) pa_nil))))))
      (pss_cons (ps_set (i := 3) scLWo.nd rfl (.inl rfl) (pe_op op_cat (pv 3) (pe_lst (pa_cons (pe_callB isE (by rfl) B.isi (by decide +kernel) (pa_cons (pv 2) (pa_cons (pe_glob (v := .ref c5) (by rfl) m5 rfl) pa_nil))) (pa_cons (pe_callB isE (by rfl) B.isi (by decide +kernel) (pa_cons (pv 2) (pa_cons (pe_glob (v := .ref c6) (by rfl) m6 rfl) pa_nil)))
        (pa_cons (pe_callB isE (by rfl) B.isi (by decide +kernel) (pa_cons (pv 2) (pa_cons (pe_glob (v := .ref c7) (by rfl) m7 rfl) pa_nil))) pa_nil))))))
      (pss_cons (ps_set (i := 3) scLWo.nd rfl (.inl rfl) (pe_op op_cat (pv 3) (pe_lst (pa_cons (pe_callB isE (by rfl) B.isi (by decide +kernel) (pa_cons (pv 2) (pa_cons (pe_glob (v := .ref c8) (by rfl) m8 rfl) pa_nil))) (pa_cons (pe_callB isE (by rfl) B.isi (by decide +kernel) (pa_cons (pv 2) (pa_cons (pe_glob (v := .ref c9) (by rfl) m9 rfl) pa_nil)))
        (pa_cons (pe_callB isE (by rfl) B.isi (by decide +kernel) (pa_cons (pv 2) (pa_cons (pe_glob (v := .ref c10) (by rfl) m10 rfl) pa_nil))) pa_nil))))))
      (pss_cons (ps_set (i := 3) scLWo.nd rfl (.inl rfl) (pe_op op_cat (pv 3) (pe_lst (pa_cons (pe_callB isE (by rfl) B.isi (by decide +kernel) (pa_cons (pv 2) (pa_cons (pe_glob (v := .ref c11) (by rfl) m11 rfl) pa_nil))) (pa_cons (pe_callB isE (by rfl) B.isi (by decide +kernel) (pa_cons (pv 2) (pa_cons (pe_glob (v := .ref c12) (by rfl) m12 rfl) pa_nil))) pa_nil)))))
      (pss_cons (ps_set (i := 4) scLWo.nd rfl (.inl rfl) (pe_lst (pa_cons pe_str (pa_cons pe_str (pa_cons pe_str (pa_cons pe_str (pa_cons pe_str (pa_cons pe_str (pa_cons pe_str (pa_cons pe_str (pa_cons pe_str (pa_cons pe_str pa_nil))))))))))))
      (pss_cons (ps_if (PW.pt (pw_or (pt_cmpR op_ne (pe_bm PySem.F.plainAttrs_list PySem.F.slot_list_count PySem.F.type_list_count mt_countV (pv 3) (pa_cons pe_bl pa_nil)) pe_int (nomark _)) (pw_or1 (pt_not (pt_val (pe_callB isE (by rfl) B.isi (by decide +kernel) (pa_cons (pv 2) (pa_cons (pe_bltn (v := .ty "ValueError") (by rfl) WC.val (by decide +kernel) rfl) pa_nil)))))))) (pss_one ps_never) pss_nil)
      (pss_cons (ps_set (i := 5) scLWo.nd rfl (.inl rfl) (pe_ix ix_list (pe_op op_cat (pv 4) (pe_lst (pa_cons pe_str (pa_cons pe_str pa_nil)))) (pe_bm PySem.F.plainAttrs_list PySem.F.slot_list_index PySem.F.type_list_index mt_index (pv 3) (pa_cons pe_bl pa_nil)) (fun _ _ => rfl)))
      (pss_cons (ps_if (pt_cmpR op_eq (pv 5) pe_str (nomark _)) (pss_one (ps_ret (pe_tup (pa_cons (pv 5) (pa_cons (pe_tup (pa_cons (pe_xf XF WC.noA hz hf (pv 2)) (pa_cons (pe_xf XF WC.noN hz hf (pv 2)) pa_nil))) pa_nil))))) pss_nil)
      (pss_cons (ps_if (pt_cmpR op_eq (pv 5) pe_str (nomark _)) (pss_one (ps_ret (pe_tup (pa_cons (pv 5) (pa_cons (pe_tup (pa_cons (pe_xf XF WC.noN hz hf (pv 2)) (pa_cons (pe_xf XF WC.noD hz hf (pv 2)) pa_nil))) pa_nil))))) pss_nil)
      (pss_cons (ps_if (pt_cmpR op_eq (pv 5) pe_str (nomark _)) (pss_one (ps_ret (pe_tup (pa_cons (pv 5) (pa_cons (pe_xf XF WC.noP hz hf (pv 2)) pa_nil))))) pss_nil)
      (pss_cons (ps_if (pt_cmpR op_eq (pv 5) pe_str (nomark _)) (pss_one (ps_ret (pe_tup (pa_cons (pv 5) (pa_cons (pe_xf XF WC.noR hz hf (pv 2)) pa_nil))))) pss_nil)
      (pss_one (ps_ret (pe_ifExp (pt_cmpR op_in_seq (pv 5) (pe_tup (pa_cons pe_str (pa_cons pe_str pa_nil))) rfl) (pe_tup (pa_cons (pv 5) (pa_cons (pe_xf XF WC.noN hz hf (pv 2)) pa_nil))) (pe_tup (pa_cons (pv 5) (pa_cons pe_non pa_nil)))))))))))))))), ?_⟩
  intro R D σ H1 ec hl ha hT q
  obtain ⟨x0, x1, x2, x3, x4, x5, rfl⟩ : ∃ x0 x1 x2 x3 x4 x5, σ = [x0, x1, x2, x3, x4, x5] := by
    rcases σ with _ | ⟨x0, _ | ⟨x1, _ | ⟨x2, _ | ⟨x3, _ | ⟨x4, _ | ⟨x5, _ | ⟨x6, r⟩⟩⟩⟩⟩⟩⟩ <;> simp at hl
    exact ⟨_, _, _, _, _, _, rfl⟩
  show tSeq _ _ _ [x0, x1, some (.ref a), x3, x4, x5] H1
  have fr : ∀ {Hx Hy : Hp} {x y : Addr} {o u : HO}, Hy = upd Hx x o → Hx x = none → Hx y = some u → Hy y = some u := fun e n h => by
    rw [e, upd_ne (ne_of_none h n)]
    exact h
  have hj : toldJ j = true := by
    rcases hT with ⟨rfl, _⟩ | ⟨e, _⟩ | ⟨rfl, _⟩ | ⟨rfl, _⟩ | ⟨rfl, _⟩ | ⟨rfl | rfl, _⟩
    case inr.inl => exact decide_eq_true (by have := plain_cases e; omega)
    all_goals exact decide_eq_true (by decide)
  have hH : Held H1 d := by
    rcases hT with ⟨_, dd, p, e1, e2, _⟩ | ⟨_, e, _⟩ | ⟨_, dd, p, n, e1, e2, _⟩ | ⟨_, dd, p, n, e1, e2, _⟩ | ⟨_, dd, n, e1, e2, _⟩ | ⟨_, dd, n, e1, e2, _⟩
    case inr.inl => exact e
    all_goals exact .inr ⟨dd, _, e1, e2⟩
  obtain ⟨fall, fcnt, fat, fno, fnm⟩ := told_facts hj
  refine ⟨_, rfl, _, _, _, rfl, .own _, ec, hH, k1, _, rfl, _, _, _, rfl, .own _, ec, hH, k2, _, rfl, _, _, _, rfl, .own _, ec, hH, k3, _, rfl, _, _, _, rfl, .own _, ec, hH, k4, ?_⟩
  refine ⟨(by show 4 ≤ sizeLine; decide), fun p1 n1 => ?_⟩
  obtain ⟨H2, e2⟩ : ∃ H2, H2 = upd H1 p1 (.lst [.bl (decide (0 = j)), .bl (decide (1 = j)), .bl (decide (2 = j)), .bl (decide (3 = j))]) := ⟨_, rfl⟩
  have g2 : H2 p1 = some (.lst [.bl (decide (0 = j)), .bl (decide (1 = j)), .bl (decide (2 = j)), .bl (decide (3 = j))]) := by rw [e2]; exact upd_same
  have S2 : Same H1 H2 := by rw [e2]; exact same_new n1 _
  have h2 := hH.same S2
  rw [← e2]
  clear e2
  refine ⟨_, rfl, _, rfl, _, _, _, rfl, .own _, ec, h2, k5, _, rfl, _, _, _, rfl, .own _, ec, h2, k6, _, rfl, _, _, _, rfl, .own _, ec, h2, k7, ?_⟩
  refine ⟨(by show 3 ≤ sizeLine; decide), fun p2 np2 => ?_⟩
  refine ⟨_, _, _, _, rfl, rfl, fr rfl np2 g2, upd_same, (by show 4 + 3 ≤ sizeLine; decide), fun p3 np3 => ?_⟩
  obtain ⟨H3, e3⟩ : ∃ H3, H3 = upd (upd H2 p2 (.lst [.bl (decide (4 = j)), .bl (decide (5 = j)), .bl (decide (6 = j))])) p3 (.lst ([.bl (decide (0 = j)), .bl (decide (1 = j)), .bl (decide (2 = j)), .bl (decide (3 = j))] ++ [.bl (decide (4 = j)), .bl (decide (5 = j)), .bl (decide (6 = j))])) := ⟨_, rfl⟩
  have g3 : H3 p3 = some (.lst [.bl (decide (0 = j)), .bl (decide (1 = j)), .bl (decide (2 = j)), .bl (decide (3 = j)), .bl (decide (4 = j)), .bl (decide (5 = j)), .bl (decide (6 = j))]) := by rw [e3]; exact upd_same
  have S3 : Same H1 H3 := by rw [e3]; exact (S2.trans (same_new np2 _)).trans (same_new np3 _)
  have h3 := hH.same S3
  rw [← e3]
  clear e3
  refine ⟨_, rfl, _, rfl, _, _, _, rfl, .own _, ec, h3, k8, _, rfl, _, _, _, rfl, .own _, ec, h3, k9, _, rfl, _, _, _, rfl, .own _, ec, h3, k10, ?_⟩
  refine ⟨(by show 3 ≤ sizeLine; decide), fun p4 np4 => ?_⟩
  refine ⟨_, _, _, _, rfl, rfl, fr rfl np4 g3, upd_same, (by show 7 + 3 ≤ sizeLine; decide), fun p5 np5 => ?_⟩
  obtain ⟨H4, e4⟩ : ∃ H4, H4 = upd (upd H3 p4 (.lst [.bl (decide (7 = j)), .bl (decide (8 = j)), .bl (decide (9 = j))])) p5 (.lst ([.bl (decide (0 = j)), .bl (decide (1 = j)), .bl (decide (2 = j)), .bl (decide (3 = j)), .bl (decide (4 = j)), .bl (decide (5 = j)), .bl (decide (6 = j))] ++ [.bl (decide (7 = j)), .bl (decide (8 = j)), .bl (decide (9 = j))])) := ⟨_, rfl⟩
  have g4 : H4 p5 = some (.lst [.bl (decide (0 = j)), .bl (decide (1 = j)), .bl (decide (2 = j)), .bl (decide (3 = j)), .bl (decide (4 = j)), .bl (decide (5 = j)), .bl (decide (6 = j)), .bl (decide (7 = j)), .bl (decide (8 = j)), .bl (decide (9 = j))]) := by rw [e4]; exact upd_same
  have S4 : Same H1 H4 := by rw [e4]; exact (S3.trans (same_new np4 _)).trans (same_new np5 _)
  have h4 := hH.same S4
  rw [← e4]
  clear e4
  refine ⟨_, rfl, _, rfl, _, _, _, rfl, .own _, ec, h4, k11, _, rfl, _, _, _, rfl, .own _, ec, h4, k12, ?_⟩
  refine ⟨(by show 2 ≤ sizeLine; decide), fun p6 np6 => ?_⟩
  refine ⟨_, _, _, _, rfl, rfl, fr rfl np6 g4, upd_same, (by show 10 + 2 ≤ sizeLine; decide), fun p7 np7 => ?_⟩
  obtain ⟨H5, e5⟩ : ∃ H5, H5 = upd (upd H4 p6 (.lst [.bl (decide (10 = j)), .bl (decide (11 = j))])) p7 (.lst ([.bl (decide (0 = j)), .bl (decide (1 = j)), .bl (decide (2 = j)), .bl (decide (3 = j)), .bl (decide (4 = j)), .bl (decide (5 = j)), .bl (decide (6 = j)), .bl (decide (7 = j)), .bl (decide (8 = j)), .bl (decide (9 = j))] ++ [.bl (decide (10 = j)), .bl (decide (11 = j))])) := ⟨_, rfl⟩
  have g5 : H5 p7 = some (.lst (bsJ j)) := by rw [e5]; exact upd_same
  have S5 : Same H1 H5 := by rw [e5]; exact (S4.trans (same_new np6 _)).trans (same_new np7 _)
  have h5 := hH.same S5
  rw [← e5]
  clear e5
  refine ⟨(by show 10 ≤ sizeLine; decide), fun p8 n8 => ?_⟩
  obtain ⟨H6, e6⟩ : ∃ H6, H6 = upd H5 p8 (.lst [.str "book", .str "word", .str "sounds", .str "count", .str "unsaid", .str "letter", .str "exception", .str "others", .str "samples", .str "deed"]) := ⟨_, rfl⟩
  have g6 : H6 p8 = some (.lst [.str "book", .str "word", .str "sounds", .str "count", .str "unsaid", .str "letter", .str "exception", .str "others", .str "samples", .str "deed"]) := by rw [e6]; exact upd_same
  have S6 : Same H1 H6 := by rw [e6]; exact S5.trans (same_new n8 _)
  have g6' := fr e6 n8 g5
  have h6 := hH.same S6
  rw [← e6]
  clear e6
  refine ⟨_, rfl, .inl ⟨rfl, _, .inl (.inl g6')⟩, p7, bsJ j, _, rfl, rfl, .inl (.inl g6'), rfl, fall, ?_⟩
  rw [fcnt]
  refine ⟨rfl, _, rfl, iteF ?_⟩
  refine ⟨_, rfl, _, _, _, rfl, .ty _, ec, h6, WC.kv, true, rfl, iteF ?_⟩
  refine ⟨_, rfl, (by show 2 ≤ sizeLine; decide), fun p9 n9 => ?_⟩
  refine ⟨_, _, _, _, rfl, rfl, fr rfl n9 g6, upd_same, (by show 10 + 2 ≤ sizeLine; decide), fun p10 n10 => ?_⟩
  have S69 := (same_new n9 (.lst [.str "halted", .str "text"])).trans (same_new n10 (.lst ([.str "book", .str "word", .str "sounds", .str "count", .str "unsaid", .str "letter", .str "exception", .str "others", .str "samples", .str "deed"] ++ [.str "halted", .str "text"])))
  have S9 := S6.trans S69
  have g9 := S69 _ _ g6'
  refine ⟨_, rfl, .inl ⟨rfl, _, .inl (.inl g9)⟩, p7, bsJ j, _, j, .bl true, rfl, rfl, .inl (.inl g9), rfl, fall, fat, rfl, fno, ?_⟩
  refine ⟨p10, _, _, .str (nmJ j), rfl, rfl, .inl (.inl upd_same), fnm, ?_⟩
  have ne : ∀ {z : Str}, nmJ j ≠ z → decide (V.str (nmJ j) = V.str z) = false := fun h => decide_eq_false fun e => h (V.str.inj e)
  rcases hT with ⟨rfl, dd, p, e1, e2, rfl⟩ | ⟨hp, hHd, rfl⟩ | ⟨rfl, dd, p, n, e1, e2, rfl⟩ | ⟨rfl, dd, n, m, e1, e2, rfl⟩ | ⟨rfl, dd, n, e1, e2, rfl⟩ | ⟨hj, dd, n, e1, e2, rfl⟩
  · refine ⟨_, rfl, rfl, _, rfl, iteF ?_⟩
    refine ⟨_, rfl, rfl, _, rfl, iteF ?_⟩
    refine ⟨_, rfl, rfl, _, rfl, iteT ?_⟩
    have h9 := S9 _ _ e2
    refine ⟨_, rfl, _, rfl, rfl, ec, dd, _, _, e1, h9, by rfl, ?_⟩
    refine ⟨(by show 2 ≤ sizeLine; decide), fun t nt => ?_⟩
    exact q t _ (S9.trans (same_new nt _)) upd_same
  · obtain ⟨f5, f6, f1, f2, f3, f4⟩ := plain_facts hp
    refine ⟨_, rfl, rfl, _, rfl, ?_⟩
    rw [ne f5]
    refine iteF ?_
    refine ⟨_, rfl, rfl, _, rfl, ?_⟩
    rw [ne f6]
    refine iteF ?_
    refine ⟨_, rfl, rfl, _, rfl, ?_⟩
    rw [ne f1]
    refine iteF ?_
    refine ⟨_, rfl, rfl, _, rfl, ?_⟩
    rw [ne f2]
    refine iteF ?_
    refine ⟨_, rfl, (by show 2 ≤ sizeLine; decide), fun p11 n11 => ?_⟩
    have S11 := S9.trans (same_new n11 (.tup [.str "samples", .str "deed"]))
    refine ⟨p11, _, rfl, .inr (.inl (.inl upd_same)), rfl, by rfl, _, rfl, ?_⟩
    have hin : inV (V.str (nmJ j)) [.str "samples", .str "deed"] = false := by
      unfold inV
      simp only [List.any_cons, List.any_nil, Bool.or_false, eqV]
      rw [beq_eq_false_iff_ne.mpr (Ne.symm f3), beq_eq_false_iff_ne.mpr (Ne.symm f4)]
      rfl
    simp only [hin, Bool.false_eq_true, if_false]
    refine ⟨_, rfl, (by show 2 ≤ sizeLine; decide), fun t nt => ?_⟩
    exact q t _ (S11.trans (same_new nt _)) upd_same
  · refine ⟨_, rfl, rfl, _, rfl, iteT ?_⟩
    have h9 := S9 _ _ e2
    refine ⟨_, rfl, _, rfl, rfl, ec, dd, _, _, e1, h9, by rfl, _, rfl, rfl, ec, dd, _, _, e1, h9, by rfl, ?_⟩
    refine ⟨(by show 2 ≤ sizeLine; decide), fun u nu => ⟨(by show 2 ≤ sizeLine; decide), fun t nt => ?_⟩⟩
    have su := same_new nu (.tup [.int p, .int n])
    have st := same_new nt (.tup [.str (nmJ 0), .ref u])
    exact q t _ (S9.trans (su.trans st)) ⟨u, st _ _ upd_same, upd_same⟩
  · refine ⟨_, rfl, rfl, _, rfl, iteF ?_⟩
    refine ⟨_, rfl, rfl, _, rfl, iteT ?_⟩
    have h9 := S9 _ _ e2
    refine ⟨_, rfl, _, rfl, rfl, ec, dd, _, _, e1, h9, by rfl, _, rfl, rfl, ec, dd, _, _, e1, h9, by rfl, ?_⟩
    refine ⟨(by show 2 ≤ sizeLine; decide), fun u nu => ⟨(by show 2 ≤ sizeLine; decide), fun t nt => ?_⟩⟩
    have su := same_new nu (.tup [.int n, .int m])
    have st := same_new nt (.tup [.str (nmJ 10), .ref u])
    exact q t _ (S9.trans (su.trans st)) ⟨u, st _ _ upd_same, upd_same⟩
  · refine ⟨_, rfl, rfl, _, rfl, iteF ?_⟩
    refine ⟨_, rfl, rfl, _, rfl, iteF ?_⟩
    refine ⟨_, rfl, rfl, _, rfl, iteF ?_⟩
    refine ⟨_, rfl, rfl, _, rfl, iteT ?_⟩
    have h9 := S9 _ _ e2
    refine ⟨_, rfl, _, rfl, rfl, ec, dd, _, _, e1, h9, by rfl, ?_⟩
    refine ⟨(by show 2 ≤ sizeLine; decide), fun t nt => ?_⟩
    exact q t _ (S9.trans (same_new nt _)) upd_same
  · have nj : ∀ {z : Str}, (nmJ 8 ≠ z ∧ nmJ 9 ≠ z) → nmJ j ≠ z := fun h => by
      rcases hj with rfl | rfl
      · exact h.1
      · exact h.2
    refine ⟨_, rfl, rfl, _, rfl, ?_⟩
    rw [ne (nj ⟨by decide +kernel, by decide +kernel⟩)]
    refine iteF ?_
    refine ⟨_, rfl, rfl, _, rfl, ?_⟩
    rw [ne (nj ⟨by decide +kernel, by decide +kernel⟩)]
    refine iteF ?_
    refine ⟨_, rfl, rfl, _, rfl, ?_⟩
    rw [ne (nj ⟨by decide +kernel, by decide +kernel⟩)]
    refine iteF ?_
    refine ⟨_, rfl, rfl, _, rfl, ?_⟩
    rw [ne (nj ⟨by decide +kernel, by decide +kernel⟩)]
    refine iteF ?_
    refine ⟨_, rfl, (by show 2 ≤ sizeLine; decide), fun p11 n11 => ?_⟩
    have S11 := S9.trans (same_new n11 (.tup [.str "samples", .str "deed"]))
    refine ⟨p11, _, rfl, .inr (.inl (.inl upd_same)), rfl, by rfl, _, rfl, ?_⟩
    have hin : inV (V.str (nmJ j)) [.str "samples", .str "deed"] = true := by rcases hj with rfl | rfl <;> decide +kernel
    simp only [hin, if_true]
    have h11 := S11 _ _ e2
    refine ⟨_, rfl, _, rfl, rfl, ec, dd, _, _, e1, h11, by rfl, ?_⟩
    refine ⟨(by show 2 ≤ sizeLine; decide), fun t nt => ?_⟩
    exact q t _ (S11.trans (same_new nt _)) upd_same
/-- how it was refused, told -/
def echW (K : PySem.W.Frag) (mg : Str → Option Value) (Q : VK) : XK := fun cls d H' => ∃ (CU : Addr) (j : Nat) (R : Hp → Addr → Prop), WordC K mg CU j ∧ cls = .ref CU ∧ tellsJ j d H' R ∧ ∀ (t : Addr) (H2 : Hp), Same H' H2 → R H2 t → Q (.ref t) H2
/-- _law_word: ("", what is told), or how it was refused -/
def TTw (K : PySem.W.Frag) (mg : Str → Option Value) : (XK → Hp → VK → Prop) → Hp → VK → Prop := fun tl H Q => ∀ D, H D = none → ∀ post : VK,
  (∀ v H', H' D = some (.lst []) → (∀ (t : Addr) (H2 : Hp), Stp D H' H2 → H2 t = some (.tup [.str "", v]) → Q (.ref t) H2) → post v H') → tl (echW K mg Q) (upd H D (.lst [])) post
theorem word_gives {q : Str} (B : Bn X.mg) {cS : Addr} (mS : X.mg "SayError" = some (.ref cS)) : LamX.GivesTo X nLWo "_law_word" (defScope sLWo) g cdg (defBody sLWo) "_law_work" q (TTw X.K X.mg) := by
  intro f c' s H Q tl act hc h
  refine ⟨_, pss_cons (ps_set (i := 1) scLWo.nd rfl (.inl rfl) (pe_lst pa_nil))
    (pss_cons (ps_try_as (X := cxLWo X g cdg s H) (i := 2) (c := .ref cS) (Wout := fun _ _ _ _ => False)
        (tb := fun W D σ H => ∃ Ech : XK, (∀ cls d σ' H', Ech cls d H' → σ'.length = 6 → W cls d σ' H') ∧ tDrop (tBM X.K "list" rAppend (tVar 1) (tCons (fun σZ HZ Q => σZ[0]? = some (some (.ref f)) ∧ HZ c' = some (LamX.CodeO c' q) ∧ tl Ech HZ Q) tNil)) D σ H)
        (ts := fun a' cls d D σ H1 => ∀ oe pn, Zc cls d oe → (∃ vs, oe.data = .fields vs) → ∃ t : TS, PSs ((cxLWo X g cdg s H).suite a' ((a', oe) :: pn)) suLWo t ∧ t D σ H1)
        rfl rfl scLWo.nd rfl rfl ⟨by rfl, by decide, .inl mS⟩ LamX.takes0
        (fun W pn xe tk _ => ?_)
        (fun a oe cls d pn hz hf => ?_))
    (pss_one (ps_ret (pe_tup (pa_cons pe_str (pa_cons (pe_ix ix_list (pv 1) pe_int (fun _ _ => rfl)) pa_nil)))))), ?_⟩
  · refine ⟨fun pins s' σ H' D I h' => ?_⟩
    obtain ⟨Ech, hW, h1⟩ := h'
    have tk6 : Takes ((cxLWo X g cdg s H).tr pn xe) (fun cls d σ H => σ.length = 6 → W cls d σ H) := takes_len rfl tk
    exact (pss_one (ps_expr (pe_bm PySem.F.plainAttrs_list PySem.F.slot_list_append PySem.F.type_list_append mt_append (pv 1) (pa_cons (act (fun cls d σ H => σ.length = 6 → W cls d σ H) pn xe Ech _ _ tk6 hW) pa_nil)))).run pins s' σ H' D I h1
  · refine ⟨fun pins s' σ H' D I h' => ?_⟩
    obtain ⟨t, ht, q1⟩ := h' oe pn hz hf
    exact ht.run pins s' σ H' D I q1
  · refine ⟨(by show 0 ≤ sizeLine; decide), fun D hD => ?_⟩
    refine ⟨echW X.K X.mg Q, fun cls d σ' H' he hl => ?_, _, rfl, .inl ⟨rfl, _, .inl (.inl upd_same)⟩, rfl, by rw [upd_ne (ne_of_none hc hD)]; exact hc, h D hD _ fun v H' hv k => ?_⟩
    · obtain ⟨CU, j, xs, WC, rfl, hT, k⟩ := he
      obtain ⟨c2, e2, xS⟩ := WC.say
      rw [mS] at e2
      cases e2
      refine ⟨true, xS, fun _ a ha oe pn hz hf => ?_, fun z => Bool.noConfusion z⟩
      obtain ⟨t, ht, q1⟩ := word_suite (g := g) (cdg := cdg) (s := s) (H := H) B WC a oe _ _ pn hz hf
      exact ⟨t, ht, q1 xs _ σ' H' rfl hl ha hT k⟩
    · refine ⟨D, _, _, rfl, rfl, hv, (by show 0 < sizeLine; decide), ?_⟩
      refine ⟨_, rfl, D, _, _, v, rfl, rfl, .inl (.inl upd_same), rfl, ?_⟩
      refine ⟨(by show 2 ≤ sizeLine; decide), fun t nt => ?_⟩
      exact k t _ ((stp_at _).trans (.of (same_new nt _))) upd_same
end
end Say
namespace Say
open PySem PySem.Spec PyProof.Rows L2
/-! ### what a lambda's making leaves -/
theorem KT.extN {H H' : Hp} (e : LamX.ExtN H H') : KT H H' := KT.by fun t u h hu => e t _ h (fun ps z => by rcases hu with ⟨_, rfl⟩ | ⟨_, _, rfl⟩ <;> cases z)
theorem RowAt.extN {K : PySem.W.Frag} {H H' : Hp} {r a : Addr} {ns : List Int} (R : RowAt K H r a ns) (e : LamX.ExtN H H') : RowAt K H' r a ns := by
  obtain ⟨⟨i, c, m, q, b⟩, sc, le⟩ := R
  refine ⟨⟨i, c, m, e _ _ q (fun ps z => by cases z), b⟩, ?_, le⟩
  rcases sc with (sc | ⟨o, sc⟩) | sc
  · exact .inl (.inl (e _ _ sc (fun ps z => by cases z)))
  · exact .inl (.inr ⟨o, e _ _ sc (fun ps z => by cases z)⟩)
  · exact .inr sc
theorem tabs_stp {Tt : List (Addr × Str)} {H H' : Hp} {r a : Addr} (t : LamX.Tabs Tt H) (w : RowIn H r a) (e : Stp r H H') : LamX.Tabs Tt H' := fun p hp => by
  obtain ⟨i, c, m, q, _⟩ := w
  obtain ⟨ps, h1, h2, h3⟩ := t p hp
  refine ⟨ps, e _ _ h1 (ne_of h1 q (by intro z; cases z)), h2, fun pos cv hc => ?_⟩
  obtain ⟨c', e1, e2⟩ := h3 pos cv hc
  exact ⟨c', e1, e _ _ e2 (ne_of e2 q (by intro z; unfold LamX.CodeO at z; cases z))⟩
theorem same_fresh {H H' : Hp} {D : Addr} {o : HO} (e : Same H H') (h : H D = none) : Same H (upd H' D o) := fun b u q => by
  rw [upd_ne (ne_of_none q h)]
  exact e b u q
theorem same_stp {H H' H2 : Hp} {D : Addr} (e : Same H H') (h : H D = none) (s : Stp D H' H2) : Same H H2 := fun b u q => s b u (e b u q) (ne_of_none q h)
end Say
namespace Say
open PySem PySem.Spec PyProof.Rows L2
/-- what the law's own saying hands back -/
def saidV (rs : List Rule) (es : List Exc) (wd : List Nat) : List V := match saidM rs es wd with
  | some s => [.str (T []), .str (T s)]
  | none => [.str (Str.ofString "unsaid"), optI (W rs wd).2]
/-- what is said are capitals, three a letter at the most -/
theorem say_caps {L : List Nat} {rs : List Rule} (ho : ∀ ρ ∈ rs, RuleOk L ρ) (hL : LetOk L) {wd so : List Nat} (h : sayW rs wd = some so) : (∀ c ∈ so, 65 ≤ c ∧ c ≤ 90) ∧ so.length ≤ 3 * (wd.length + 1) := by
  unfold sayW at h
  by_cases e : (W rs wd).2 = none
  · rw [if_pos e] at h
    have h := (Option.some.inj h).symm
    subst h
    have hl : (W rs wd).1.length ≤ wd.length + 1 := wk_len rs (sgn wd) (wd.length + 1) 1
    have hk : ∀ k ∈ (W rs wd).1.map (fun s : Nat × Nat => s.2), k < rs.length := fun k hk => by
      obtain ⟨st, hst, rfl⟩ := List.mem_map.mp hk
      exact wk_lt _ _ st hst
    have h3 := flat_len (fun ρ hρ => (ho ρ hρ).rl hL) _ hk
    rw [List.length_map] at h3
    refine ⟨fun c hc => ?_, by omega⟩
    obtain ⟨l, hl, hcl⟩ := List.mem_flatten.mp hc
    obtain ⟨k, hkm, rfl⟩ := List.mem_map.mp hl
    have hkl := hk k hkm
    rw [ruleAt_eq (List.getElem?_eq_getElem hkl)] at hcl
    exact (ho _ (List.getElem_mem hkl)).so c hcl
  · rw [if_neg e] at h
    cases h
theorem said_stuck' {rs : List Rule} {es : List Exc} {wd : List Nat} (h : saidM rs es wd = none) : ∃ p, (W rs wd).2 = some p := by
  cases hq : (W rs wd).2 with
  | some p => exact ⟨p, rfl⟩
  | none =>
    unfold saidM at h
    cases hf : es.find? fun e => decide (e.1 = wd) with
    | some e => rw [hf] at h; cases h
    | none =>
      rw [hf] at h
      have h : sayW rs wd = none := h
      unfold sayW at h
      rw [if_pos hq] at h
      cases h
end Say
/-! a lambda of one parameter with a number as its default, handed to a def -/
namespace LamD
open PySem PySem.Spec PyProof.Rows L2 LamX
/-- its own name is the parameter alone, which the maker doesn't know -/
structure Par (N : List Str) (sc own : Scope) (a : Str) : Prop where
  kind : own.kind = .function
  co : own.isCoroutine = false
  gen : own.isGenerator = false
  par : own.names.lookup a = some .local
  loc : ∀ y ∈ own.names, y.2 ≠ .cell ∧ (y.2 = .local → y.1 = a)
  free : ∀ y ∈ own.names, y.2 = .free → sc.names.lookup y.1 = some .cell ∨ sc.names.lookup y.1 = some .free
  out : a ∉ N
def parB (N : List Str) (sc own : Scope) (a : Str) : Bool :=
  decide (own.kind = .function) && (!own.isCoroutine && (!own.isGenerator && (decide (own.names.lookup a = some .local) && (decide (a ∉ N) && own.names.all fun y =>
    !decide (y.2 = .cell) && ((!decide (y.2 = .local) || decide (y.1 = a)) && (!decide (y.2 = .free) || (decide (sc.names.lookup y.1 = some .cell) || decide (sc.names.lookup y.1 = some .free))))))))
theorem par_by {N : List Str} {sc own : Scope} {a : Str} (h : parB N sc own a = true) : Par N sc own a := by
  unfold parB at h
  simp only [Bool.and_eq_true, Bool.or_eq_true, Bool.not_eq_true', decide_eq_true_eq, decide_eq_false_iff_not, List.all_eq_true] at h
  obtain ⟨g1, g2, g3, g4, g5, g6⟩ := h
  refine ⟨g1, g2, g3, g4, fun y hy => ⟨(g6 y hy).1, fun e => ?_⟩, fun y hy e => ?_, g5⟩
  · rcases (g6 y hy).2.1 with z | z
    · exact absurd e z
    · exact z
  · rcases (g6 y hy).2.2 with z | z
    · exact absurd e z
    · exact z
section
variable {X : Cx} {pins : List (Addr × Obj)} {σ : L2.St} {H HZ : Hp} {s s1 : Shared}
section
variable {f : Addr}
/-- an address that the frame knows nothing of -/
def NewF (X : Cx) (pins : List (Addr × Obj)) (f : Addr) : Prop := X.s_0.heap.objs.size ≤ f ∧ f ≠ X.env.locals ∧ (∀ x c, X.env.cells.lookup x = some c → c ≠ f) ∧ ∀ p ∈ X.pn ++ pins, p.1 ≠ f
theorem new_of (I : Inv X pins σ H s) (h : s.heap.objs.size ≤ f) : NewF X pins f := by
  have lt : ∀ {b o}, s.heap.get? b = some o → b ≠ f := fun e z => by
    rw [z] at e
    exact Nat.lt_irrefl _ (Nat.lt_of_lt_of_le (Heap.lt_size e) h)
  refine ⟨Nat.le_trans I.sz h, fun z => ?_, fun x c e => ?_, fun p hp => lt (I.pin p hp).1⟩
  · have := I.lt
    rw [← z] at this
    exact Nat.lt_irrefl _ (Nat.lt_of_lt_of_le this h)
  · obtain ⟨v, o, ho, _⟩ := I.cell x c e
    exact lt ho
end
theorem Par.has {own : Scope} {a : Str} (L : Par X.N X.env.scope own a) (ok : X.Ok) : ∀ y ∈ own.names, y.2 = .free → ∃ c, X.env.cells.lookup y.1 = some c := fun y hy e =>
  (L.free y hy e).elim (fun k => ok.has _ (.inl k)) fun k => ok.has _ (.inr k)
/-- the lambda's object, its default at D -/
abbrev dObj (X : Cx) (params : Arguments) (body : Expr) (own : Scope) (D : Addr) (doc pm : Value) (c' : Addr) (ctv : Value) : Obj :=
  PySem.W.kdv_obj "<lambda>" (X.env.qual ++ "<lambda>") params (.expr body) own (cloFrom X.env.cells own.names []) (.ref D) doc pm c' ctv
/-- made: a code object that is new or found in the table, and the tuple of the default -/
theorem make {Ts : List (Addr × Str)} {c P : Addr} {params : Arguments} {body de : Expr} {own : Scope} {pos : Pos} {z : Int} {Q : Value → Shared → Prop} (I : Inv X pins σ H s) (TB : TabB X.base X.mg c P) (hcode : X.env.code = .ref c)
    (hm : (P, X.env.qual ++ "<lambda>") ∈ Ts) (hu : ∀ p ∈ Ts, p.1 = P → p.2 = X.env.qual ++ "<lambda>") (hT : Tabs Ts H) (hde : params.defaults = [de]) (hkw : params.kw_defaults = []) (hz : PE X de (tC (.int z))) (hfree : ∀ y ∈ own.names, y.2 = .free → ∃ c, X.env.cells.lookup y.1 = some c)
    (h : ∀ (f c' D : Addr) (u doc pm ctv : Value) (H1 : Hp) (s' : Shared), Inv X pins σ H1 s' → ExtN H H1 → Tabs Ts H1 → s'.heap.get? f = some (dObj X params body own D doc pm c' ctv) → H1 f = none → f ∉ frs X.stack →
      s'.heap.get? D = some (PySem.W.kdv_tup [u]) → H1 D = none → D ∉ frs X.stack → NewF X pins f → NewF X pins D → f ≠ D → H f = none → H1 c' = some (CodeO c' (X.env.qual ++ "<lambda>")) → Q (.ref f) s') :
    wpAny (model X.prog X.w) X.A (eval (.Lambda params body own pos) X.env) Q X.xe s := by
  refine PySem.W.kdv_lam (by rw [hde]; rfl) hkw ?_
  rw [hde]
  refine PySem.W.kdv_all1 (thn (hz.run pins s σ H (fun v H0 => H0 = H) I rfl) fun u sa ⟨v, H0, Ia, _, eH⟩ => PySem.W.kdv_all0 ?_)
  subst eH
  rw [makeFunction_eq]
  simp only [List.zip_nil_right, List.filterMap_nil, List.isEmpty_nil, if_true, pure_bind, List.isEmpty_cons, Bool.false_eq_true, if_false]
  refine wpAny_bind (wpAny_newTextTuple ?_)
  -- the default's tuple
  have hDn : H0 sa.heap.objs.size = none := Ia.hok.fresh (Nat.le_refl _)
  have stk : ∀ {b : Addr} {hp : Heap} {σ' : L2.St} {H' : Hp} {tk : Nat} (J : Inv X pins σ' H' { sa with heap := hp, toks := tk }), hp.objs.size ≤ b → b ∉ frs X.stack := fun {b hp σ' H' tk} J hb m => by
    rcases List.mem_cons.mp (J.stkSub _ m) with e | e
    · have lt := J.lt
      rw [← e] at lt
      exact Nat.lt_irrefl _ (Nat.lt_of_lt_of_le lt hb)
    · exact J.nofs hb e
  have newD := new_of Ia (f := sa.heap.objs.size) (Nat.le_refl _)
  have frD := stk (hp := sa.heap) (tk := sa.toks) Ia (Nat.le_refl _)
  have Ib : Inv X pins σ H0 { sa with heap := sa.heap.push (PySem.W.kdv_tup [u]) } := Ia.kept (t' := sa.toks) fun _ _ e => Heap.get?_push_of_some _ e
  have atD : (sa.heap.push (PySem.W.kdv_tup [u])).get? sa.heap.objs.size = some (PySem.W.kdv_tup [u]) := Heap.get?_push_size _ rfl
  have szD : sa.heap.objs.size < (sa.heap.push (PySem.W.kdv_tup [u])).objs.size := by rw [Heap.size_push]; exact Nat.lt_succ_self _
  obtain ⟨ps, hP, ht, ha⟩ := hT _ hm
  have ltP : P < sa.heap.objs.size := Heap.lt_size (Ia.hok P _ hP)
  generalize hhb : sa.heap.push (PySem.W.kdv_tup [u]) = hb at Ib atD szD ⊢
  generalize sa.heap.objs.size = D at hDn frD newD atD szD ltP ⊢
  have hP' : hb.get? P = some { cls := .none, data := .fields ps } := Ib.hok P _ hP
  have bP : hb.BuiltinsAt X.mg P := TB.bm.keeps Ib.bk
  cases hc : codeAmong pos ps.toList with
  | none =>
    refine PySem.W.kdv_makeTail (s := { sa with heap := hb }) (closure_ok hfree) Ib.ok.glob (Ib.mod.glob.keeps Ib.bk) hcode (TB.code.keeps Ib.bk) hP' ht hc TB.gP bP fun c' ctv doc h' tk hx hge hlt hrec htb => ?_
    obtain ⟨c2, oc, vs, t, e2, hoc, hd, hv⟩ := hrec
    cases e2
    have hge : hb.objs.size ≤ c' := hge
    have nC : H0 c' = none := Ib.hok.fresh hge
    have I1 := inv_table (t' := tk) (more := #[rawInt pos.line, rawInt pos.col, .ref c']) (h' := h'.push (dObj X params body own D doc ((X.mg "__name__").getD .none) c' ctv)) Ib hP
      (fun b o n e => Heap.get?_push_of_some _ (hx b o n e)) (Heap.get?_push_of_some _ htb) hge ⟨oc, vs, t, Heap.get?_push_of_some _ hoc, hd, hv⟩
    have hE : ExtN H0 (upd (upd H0 P (.tbl (ps ++ #[rawInt pos.line, rawInt pos.col, .ref c']))) c' (CodeO c' (X.env.qual ++ "<lambda>"))) := fun b o e n => by
      rw [upd_ne (ne_of_none e nC), upd_ne fun y => n ps (Option.some.inj (e.symm.trans (by rw [y]; exact hP)))]
      exact e
    have toL : (ps ++ #[rawInt pos.line, rawInt pos.col, .ref c']).toList = ps.toList ++ [rawInt pos.line, rawInt pos.col, .ref c'] := by simp
    have nf1 : h'.objs.size ≠ c' := Nat.ne_of_gt hlt
    have nf2 : h'.objs.size ≠ P := Nat.ne_of_gt (Nat.lt_of_lt_of_le (Heap.lt_size hP') (Nat.le_trans hge (Nat.le_of_lt hlt)))
    refine h h'.objs.size c' D u doc ((X.mg "__name__").getD .none) ctv _ _ I1 hE (fun p hp => ?_) (Heap.get?_push_size _ rfl) ?_ (stk (hp := hb) (tk := sa.toks) Ib (by omega)) (Heap.get?_push_of_some _ (hx D _ (Nat.ne_of_gt ltP) atD)) ?_ frD (new_of Ib (show hb.objs.size ≤ _ by omega)) newD (show h'.objs.size ≠ D from Nat.ne_of_gt (Nat.lt_of_lt_of_le szD (Nat.le_trans hge (Nat.le_of_lt hlt)))) (Ib.hok.fresh (show hb.objs.size ≤ _ by omega)) upd_same
    · by_cases eP : p.1 = P
      · rw [hu p hp eP, eP]
        refine ⟨_, by rw [upd_ne (ne_of_none hP nC), upd_same], by rw [toL]; exact PySem.TriplesOk_snoc _ _ _ _ ht, fun p' cv hcv => ?_⟩
        rw [toL] at hcv
        rcases among_app _ ht hcv with y | y
        · obtain ⟨c0, y1, y2⟩ := ha p' cv y
          exact ⟨c0, y1, hE _ _ y2 codeO_ne⟩
        · exact ⟨c', y, upd_same⟩
      · obtain ⟨qs, y1, y2, y3⟩ := hT p hp
        refine ⟨qs, by rw [upd_ne (ne_of_none y1 nC), upd_ne eP]; exact y1, y2, fun p' cv hcv => ?_⟩
        obtain ⟨c0, y4, y5⟩ := y3 p' cv hcv
        exact ⟨c0, y4, hE _ _ y5 codeO_ne⟩
    · rw [upd_ne nf1, upd_ne nf2]
      exact Ib.hok.fresh (show hb.objs.size ≤ _ by omega)
    · rw [upd_ne (Nat.ne_of_lt (Nat.lt_of_lt_of_le szD hge)), upd_ne (Nat.ne_of_gt ltP)]
      exact hDn
  | some cv =>
    obtain ⟨c', e, hco⟩ := ha pos cv hc
    subst e
    refine PySem.W.kdv_makeTailHit (s := { sa with heap := hb }) (closure_ok hfree) Ib.ok.glob (Ib.mod.glob.keeps Ib.bk) hcode (TB.code.keeps Ib.bk) hP' ht hc bP fun ctv doc h' tk hx hsz => ?_
    have hsz : hb.objs.size ≤ h'.objs.size := hsz
    have I1 : Inv X pins σ H0 { sa with heap := h'.push (dObj X params body own D doc ((X.mg "__name__").getD .none) c' ctv), toks := tk } := Ib.kept (t' := tk) fun b o e => Heap.get?_push_of_some _ (hx b o e)
    exact h h'.objs.size c' D u doc ((X.mg "__name__").getD .none) ctv H0 _ I1 (ExtN.refl H0) hT (Heap.get?_push_size _ rfl) (Ib.hok.fresh hsz) (stk (hp := hb) (tk := sa.toks) Ib hsz) (Heap.get?_push_of_some _ (hx D _ atD)) hDn frD (new_of Ib hsz) newD (show h'.objs.size ≠ D from Nat.ne_of_gt (Nat.lt_of_lt_of_le szD hsz)) (Ib.hok.fresh hsz) hco
abbrev dEnv (X : Cx) (own : Scope) (L f c' : Addr) : Env := lamEnv X own L f c'
/-- its body's context, entered -/
theorem enter {A : Around} {outer : List Env} {E : XK} {own : Scope} {a : Str} {f c' : Addr} {h₁ : Heap} {tk : Nat} {m : Str → Option Value} (I : Inv X pins σ H s) (L : Par X.N X.env.scope own a) (e0 : Env0 X.prog X.w X.K X.mg X.base A outer s1 HZ) (hd : A.handled = none)
    (un : Un (frs X.stack) [] H HZ s.heap s1.heap) (hns : h₁.Ns s1.heap.objs.size m) (kp : ∀ b o, s1.heap.get? b = some o → h₁.get? b = some o) :
    Inv (lamCx X A outer s1 HZ E own f c') [] σ HZ { s1 with heap := h₁, toks := tk } := by
  have has := L.has I.ok
  -- a name that it captures has the maker's cell
  have cl1 : ∀ {y c}, (cloFrom X.env.cells own.names []).lookup y = some c → X.env.cells.lookup y = some c := fun {y c} e => by
    rcases cloFrom_mem (PySem.mem_of_lookup e) with z | ⟨z1, z2⟩
    · cases z
    · obtain ⟨c1, hc⟩ := has _ z1 rfl
      have hc : X.env.cells.lookup y = some c1 := hc
      rw [z2, hc]
      rfl
  have cl2 : ∀ {y}, own.names.lookup y = some .free → ∃ c, (cloFrom X.env.cells own.names []).lookup y = some c := fun {y} hl =>
    mem_lookup (cloFrom_has (cells := X.env.cells) (acc := []) (show (y, NameKind.free) ∈ own.names from PySem.mem_of_lookup hl))
  have cellK : ∀ {c : Addr} {v : Option Value}, H c = none → s.heap.IsCell c v → h₁.IsCell c v := fun {c v} n ⟨o, ho, od⟩ => by
    obtain ⟨sl, q⟩ := un.any ho n (by simp)
    exact ⟨_, kp _ _ q, od⟩
  have no : ∀ b : Addr, b ∉ (lamCx X A outer s1 HZ E own f c').ex := fun b z => absurd (show b ∈ ([] : List Addr) from z) (by simp)
  refine ⟨⟨e0.mod, L.kind, rfl, rfl, Nat.le_refl _, fun y z c e1 e2 => I.ok.inj y z c (cl1 e1) (cl1 e2), fun y hy => ?_, fun y c z _ => (by cases (show false = true from z)), fun _ => hd, Around.frames_deeper e0.frames, .inr ⟨rfl, rfl⟩, fun b z => absurd z (no b), e0.bs, e0.bsz, fun b _ _ => no b,
      fun b z => absurd z (no b), e0.funs, e0.frf⟩,
    rfl, e0.bare, Un.kept kp, ⟨_, hns, fun i y v e1 e2 e3 => ?_⟩, fun y c e => ?_, e0.hok.fresh (Nat.le_refl _), fun y c e => ?_, fun q hq => absurd (show q ∈ ([] : List (Addr × Obj)) ++ [] from hq) (by simp), e0.hok.kept kp, I.len⟩
  · have hy : own.names.lookup y = some .cell ∨ own.names.lookup y = some .free := hy
    exact hy.elim (fun z => absurd rfl (L.loc _ (PySem.mem_of_lookup z)).1) cl2
  · have e3 : Vis own y := e3
    rcases e3 with k | k | k
    · -- the parameter is no name of the maker's
      have ey : y = a := (L.loc _ (PySem.mem_of_lookup k)).2 rfl
      have e1 : X.N[i]? = some y := e1
      exact absurd (List.mem_of_getElem? e1) (by rw [ey]; exact L.out)
    · exact absurd rfl (L.loc _ (PySem.mem_of_lookup k)).1
    · obtain ⟨m', hn, hl⟩ := I.loc
      have vis : Vis X.env.scope y := (L.free _ (PySem.mem_of_lookup k) rfl).elim (fun k => .inr (.inl k)) fun k => .inr (.inr k)
      obtain ⟨w', r, q⟩ := hl i y v e1 e2 vis
      obtain ⟨c2, h2⟩ := cl2 k
      refine ⟨w', r, .inr ⟨.inr k, c2, h2, ?_⟩⟩
      rcases q with ⟨k', _⟩ | ⟨_, c3, e', z⟩
      · have k' : X.env.scope.names.lookup y = some .local := k'
        rcases L.free _ (PySem.mem_of_lookup k) rfl with k2 | k2 <;> rw [show X.env.scope.names.lookup y = _ from k2] at k' <;> cases k'
      · rw [cl1 h2] at e'
        cases e'
        exact cellK (I.freeC y _ (cl1 h2)) z
  · obtain ⟨w', z⟩ := I.cell y c (cl1 e)
    exact ⟨w', cellK (I.freeC y c (cl1 e)) z⟩
  · obtain ⟨v, o, ho, od⟩ := I.cell y c (cl1 e)
    exact un.free c o ho (I.freeC y c (cl1 e)) (by simp)
/-- called with nothing by the def that got it -/
theorem act {CXg : CXT} {Eg : XK} {Ng : List Str} {qg : Str} {sg : Scope} {g f c' D : Addr} {cdg doc pm ctv u : Value} {params : Arguments} {body : Expr} {own : Scope} {k i : Nat} {x a : Str} {pn : List (Addr × Obj)} {xe : Value → Shared → Prop} {W : WX} {E : XK} {tb : TE} {p1 p2 : Pos}
    (I : Inv X pins σ H s) (L : Par X.N X.env.scope own a) (hf : s.heap.get? f = some (dObj X params body own D doc pm c' ctv)) (hfn : H f = none) (hfr : f ∉ frs X.stack) (hD : s.heap.get? D = some (PySem.W.kdv_tup [u])) (hDn : H D = none) (hDr : D ∉ frs X.stack)
    (hbind : ∀ s : Shared, s.heap.get? D = some (PySem.W.kdv_tup [u]) → BindsTo s (PySem.W.kdv_fn "<lambda>" (X.env.qual ++ "<lambda>") params (.expr body) own (cloFrom X.env.cells own.names []) (.ref D) doc pm (.ref c') ctv) ⟨[], []⟩ [(a, u)])
    (tk : Takes ((cxOf CXg X.prog X.w X.K X.mg X.base Ng qg sg g cdg X.A X.stack s H Eg).tr pn xe) W) (hW : ∀ cls d σ' H', E cls d H' → W cls d σ' H') (hr : Room (k + 1) (X.A.deeper (envOfC qg sg s.heap.objs.size g cdg)))
    (hbody : ∀ (A : Around) (outer : List Env) (s : Shared) (H : Hp), Room k (A.deeper (lamEnv X own s.heap.objs.size f c')) → PE (lamCx X A outer s H E own f c') body tb)
    (hN : Ng[i]? = some x) (hv : Vis sg x) (hdb : (x == ("__debug__" : Str)) = false := by decide) (hcd : (x == ("__classdict__" : Str)) = false := by decide) :
    PE ((cxOf CXg X.prog X.w X.K X.mg X.base Ng qg sg g cdg X.A X.stack s H Eg).tr pn xe) (.Call (.Name x p1) [] [] p2)
      (fun σZ HZ Q => σZ[i]? = some (some (.ref f)) ∧ HZ c' = some (CodeO c' (X.env.qual ++ "<lambda>")) ∧ tb σ HZ Q) := by
  refine ⟨fun pinsZ sZ σZ HZ Q IZ ⟨hs, hc, ht⟩ => ?_⟩
  refine wpAny_Call_Name_kw (thn ((pe_var (pos := p1) (i := i) hN hv hdb hcd).run pinsZ sZ σZ HZ (fun v H1 => v = .ref f ∧ H1 = HZ) IZ ⟨.ref f, hs, rfl, rfl⟩) fun u' s1 ⟨v, H1, I1, r1, ev, eH⟩ => ?_)
  subst ev eH
  obtain rfl : u' = Value.ref f := r1
  have keep : ∀ {b : Addr} {o : Obj}, s.heap.get? b = some o → H b = none → b ∉ frs X.stack → s1.heap.get? b = some o := fun {b o} e n fr => I1.base.keep b _ e n fr fun z => nomatch (show b ∈ ([] : List Addr) from z)
  have of1 := keep hf hfn hfr
  refine PySem.W.callWith_F0 ⟨_, _, _, _, of1⟩ ?_
  have un : Un (frs X.stack) [] H H1 s.heap s1.heap := I1.base
  obtain ⟨⟨oc, vs, t, hoc, hdc, hvc⟩, _, _⟩ := I1.hok c' _ hc
  have rc : codeAny (model X.prog X.w) (X.A.deeper (envOfC qg sg s.heap.objs.size g cdg)) (.call (.ref f) ⟨[], []⟩) (CR (L2.CX X.prog X.w) (envOfC qg sg s.heap.objs.size g cdg :: X.stack) X.prog X.w H1 s1 Q E) s1 := by
    refine PySem.W.kla_callFunE hr.depth of1 rfl L.co L.gen rfl ⟨c', oc, vs, t, rfl, hoc, hdc, hvc⟩ (hbind s1 (keep hD hDn hDr) _ _ _ _ ?_)
    refine wpAny_newFunctionEnv (fun y hy => (L.loc y hy).1) (fun y hy => by rw [List.mem_singleton.mp hy]; exact L.par) (fun h₁ hns hsb => ⟨I1.nolimit.fresh _ hsb, ?_⟩) L.kind
    refine (?_ : codeAny _ _ (.expr body (lamEnv X own s1.heap.objs.size f c')) _ _)
    have kp : ∀ b o, s1.heap.get? b = some o → h₁.get? b = some o := fun b o e => hsb.extBut b o (Nat.ne_of_lt (Heap.lt_size e)) (Heap.get?_push_of_some _ e)
    have J := enter (A := X.A.deeper (envOfC qg sg s.heap.objs.size g cdg)) (outer := envOfC qg sg s.heap.objs.size g cdg :: X.stack) (E := E) (f := f) (c' := c') (tk := s1.toks + ([(a, u)] : List (Str × Value)).length) I L I1.env0 hr.hd un hns kp
    exact PySem.W.kla_codeExpr (wpAny_mono ((hbody _ _ s1 H1 (hr.deeper _)).run [] _ _ H1 Q J ht) (fun v s' ⟨w', H', J', rv, q⟩ => ⟨w', H', J'.os, J'.bare, J'.base, J'.hok, rv, q⟩) fun _ _ hq => hq)
  have hx : Passes (L2.CX X.prog X.w) ((cxOf CXg X.prog X.w X.K X.mg X.base Ng qg sg g cdg X.A X.stack s H Eg).tr pn xe) E := passes_call tk hW
  refine wpAny_call (codeAny_mono rc fun r s' hq => ?_)
  match r, hq with
  | .error e, hq => exact hx pinsZ σZ H1 s1 e s' I1 hq
  | .ok (.ret u), hq => exact I1.after hq
  | .ok .next, hq => exact False.elim hq
  | .ok .brk, hq => exact False.elim hq
  | .ok .cont, hq => exact False.elim hq
end
section
variable {X : Cx}
/-- x(lambda a=z: body) -/
theorem pe_lamcall {Ts : List (Addr × Str)} {TT : (XK → Hp → VK → Prop) → Hp → VK → Prop} {x y a : Str} {g c P : Addr} {k : Nat} {pg : Arguments} {bg : List Stmt} {sg : Scope} {dV kV doc pm cdv ct oc : Value} {an od : Option Addr} {osl : Array (Option Value)} {Ng : List Str}
    {params : Arguments} {body de : Expr} {own : Scope} {t : XK → TE} {p lpos pos : Pos} {z : Int} (hg : Gl X x) (hm : X.mg x = some (.ref g)) (hk : PySem.W.keepIn X.K (.ref g) = true)
    (lk : X.K.lookup g = some ⟨oc, od, .func (PySem.W.fnOf x x pg bg sg dV kV doc pm an cdv ct), osl⟩) (hcg : PySem.W.codeIn X.K cdv x = true) (hb : L2.Binds X.K (PySem.W.fnOf x x pg bg sg dV kV doc pm an cdv ct) [y] []) (Sg : FnScope Ng [y] sg) (hNg : Ng[0]? = some y) (hva : Vis sg y)
    (hG : GivesTo X Ng x sg g cdv bg y (X.env.qual ++ "<lambda>") TT)
    (TB : TabB X.base X.mg c P) (hcode : X.env.code = .ref c) (hmT : (P, X.env.qual ++ "<lambda>") ∈ Ts) (hu : ∀ p ∈ Ts, p.1 = P → p.2 = X.env.qual ++ "<lambda>") (hr : Room (k + 2) X.A) (L : Par X.N X.env.scope own a) (hde : params.defaults = [de]) (hkw : params.kw_defaults = []) (hz : PE X de (tC (.int z)))
    (hbind : ∀ (u : Value) (D : Addr) (q : Str) (cl : List (Str × Addr)) (doc pm cv ctv : Value) (s : Shared), s.heap.get? D = some (PySem.W.kdv_tup [u]) → BindsTo s (PySem.W.kdv_fn "<lambda>" q params (.expr body) own cl (.ref D) doc pm cv ctv) ⟨[], []⟩ [(a, u)])
    (hbody : ∀ (A : Around) (outer : List Env) (s : Shared) (H : Hp) (E : XK) (f c' : Addr), Room k (A.deeper (lamEnv X own s.heap.objs.size f c')) → PE (lamCx X A outer s H E own f c') body (t E))
    (hdb : (x == ("__debug__" : Str)) = false := by decide) (hd : (y == ("__debug__" : Str)) = false := by decide) (hcd : (y == ("__classdict__" : Str)) = false := by decide) :
    PE X (.Call (.Name x p) [.Lambda params body own lpos] [] pos) (tLam Ts TT t) := by
  refine ⟨fun pins s σ H Q I ⟨hT, h⟩ => ?_⟩
  refine wpAny_Call_Name_kw (ld_glob I hg hm ?_ hdb)
  refine PySem.W.callWith_K (h₀ := X.base) I.ok.mod.kin hk ?_ (by rfl) (by rfl)
  refine (?_ : wpAny _ _ (spliced ((false, eval (.Lambda params body own lpos) X.env) :: backTo pos (starEach [] X.env))) _ _ s)
  refine Calls.spliced_cons (make I TB hcode hmT hu hT hde hkw hz (L.has I.ok) fun f c' D u doc' pm' ctv H1 s' I1 eN T1 hf hfn hfr hD hDn hDr _ _ _ _ hco => Calls.spliced_nil ⟨I1.kIn, ?_⟩)
  have rc : codeAny (model X.prog X.w) X.A (.call (.ref g) ⟨[.ref f], []⟩) (CR C8.CX0 X.stack X.prog X.w H1 s' Q C8.E0) s' := by
    refine run_ofS (N := Ng) (ps := [y]) (us := [.ref f]) (vs := [.ref f]) lk hcg Sg hr I1.env0 (hb s' [.ref f] I1.kIn rfl) (.cons rfl .nil) rfl fun hr' => ?_
    obtain ⟨t', ht', hq'⟩ := hG f c' s' H1 Q (fun E H' Q' => t E σ H' Q') (fun W pn xe E p1 p2 tk hW => act (i := 0) I1 L hf hfn hfr hD hDn hDr (fun s2 h2 => hbind u D _ _ _ _ _ _ s2 h2) tk hW hr' (fun A outer s H hr2 => hbody A outer s H E f c' hr2) hNg hva hd hcd) hco (h H1 eN T1)
    exact ⟨t', ht'.nox, hq'⟩
  refine wpAny_call (codeAny_mono rc fun r s2 hq => ?_)
  match r, hq with
  | .error e, hq => exact (show False from hq).elim
  | .ok (.ret u), hq => exact I1.after hq
  | .ok .next, hq => exact False.elim hq
  | .ok .brk, hq => exact False.elim hq
  | .ok .cont, hq => exact False.elim hq
end
end LamD
namespace Say
open PySem PySem.Spec PyProof.Rows L2 L2.DX
/-- said, told by _law_word: the book and the word in the slots i and j -/
theorem said_at {K : PySem.W.Frag} {mg : Str → Option Value} {CU b : Addr} {L wd : List Nat} {rs : List Rule} {es : List Exc} {H7 : Hp} {Q : VK} {σ : L2.St} {i j : Nat} (WC : WordC K mg CU 4) (h3 : σ[i]? = some (some (.ref b))) (h4 : σ[j]? = some (some (.str (T wd)))) (hB : BookAt H7 b L rs es) (oB : BookOk L rs es) (hw : ∀ c ∈ wd, c ∈ L) (hl : wd.length ≤ 12)
    (h : ∀ (t : Addr) (H8 : Hp), Same H7 H8 → H8 t = some (.tup (saidV rs es wd)) → Q (.ref t) H8) : TTw K mg (fun E H' Q' => tCall (spSaidR CU) [] E (tCons (tVar i) (tCons (tVar j) tNil)) σ H' Q') H7 Q := by
  intro D hD post hpost
  have sD := same_new hD (.lst [])
  refine ⟨_, h3, _, h4, b, L, rs, es, wd, rfl, hB.kt (.of sD), oB, hw, hl, fun so hM H' s' => ?_, fun hM p hp d H' s' hd hH => ?_⟩
  · refine hpost _ _ (s' _ _ upd_same) fun t H8 s8 ht => h t H8 (same_stp (sD.trans s') hD s8) ?_
    unfold saidV
    rw [hM, ht, show (("" : Str)) = T [] from nil_eq]
  · refine ⟨CU, 4, _, WC, rfl, .inl ⟨rfl, d, p, rfl, hH, rfl⟩, fun t H8 s8 ht => h t H8 (sD.trans (s'.trans s8)) ?_⟩
    unfold saidV
    rw [hM, hp]
    exact ht
theorem saidM_sign {L : List Nat} {rs : List Rule} {es : List Exc} (ho : BookOk L rs es) {wd s : List Nat} (h : saidM rs es wd = some s) : ∀ c ∈ s, c < 1114112 := by
  unfold saidM at h
  cases hf : es.find? fun e => decide (e.1 = wd) with
  | some e =>
    rw [hf] at h
    cases h
    intro c hc
    have := (ho.ex e (List.mem_of_find?_eq_some hf)).s c hc
    omega
  | none =>
    rw [hf] at h
    intro c hc
    have := (say_caps ho.rl ho.lt h).1 c hc
    omega
/-- two such answers: the same, or both unsaid -/
theorem said_alike {K : PySem.W.Frag} {H : Hp} {t u : Addr} {r1 r2 : List Rule} {e1 e2 : List Exc} {wd : List Nat} (ht : H t = some (.tup (saidV r1 e1 wd))) (hu : H u = some (.tup (saidV r2 e2 wd)))
    (ok1 : ∀ s, saidM r1 e1 wd = some s → ∀ c ∈ s, c < 1114112) (ok2 : ∀ s, saidM r2 e2 wd = some s → ∀ c ∈ s, c < 1114112) :
    ∃ (d1 d2 : PyData) (f1 f2 : Str) (z1 z2 : V), Dp K H (.ref t) d1 ∧ Dp K H (.ref u) d2 ∧ SeqAt.shaped d1 = true ∧ SeqAt.shaped d2 = true ∧ H t = some (.tup [.str f1, z1]) ∧ H u = some (.tup [.str f2, z2]) ∧
      ((PyData.eqv d1 d2 || (decide (V.str f1 = V.str (Str.ofString "unsaid")) && decide (V.str f2 = V.str (Str.ofString "unsaid")))) = decide (saidM r1 e1 wd = saidM r2 e2 wd)) := by
  have bad : decide (V.str (T []) = V.str (Str.ofString "unsaid")) = false := by decide +kernel
  have good : decide (V.str (Str.ofString "unsaid") = V.str (Str.ofString "unsaid")) = true := decide_eq_true rfl
  cases h1 : saidM r1 e1 wd with
  | some s1 =>
    unfold saidV at ht
    rw [h1] at ht
    cases h2 : saidM r2 e2 wd with
    | some s2 =>
      unfold saidV at hu
      rw [h2] at hu
      refine ⟨.tuple [.str (T []), .str (T s1)], .tuple [.str (T []), .str (T s2)], _, _, _, _, .tup (.inl (.inl ht)) (.cons (.str _) (.cons (.str _) .nil)), .tup (.inl (.inl hu)) (.cons (.str _) (.cons (.str _) .nil)), shaped_two (by decide +kernel) (strOk_T (ok1 s1 h1)) rfl rfl, shaped_two (by decide +kernel) (strOk_T (ok2 s2 h2)) rfl rfl, ht, hu, ?_⟩
      rw [bad, Bool.false_and, Bool.or_false]
      show ((T [] == T []) && ((T s1 == T s2) && true)) = _
      rw [beq_self_eq_true, Bool.true_and, Bool.and_true]
      by_cases c : s1 = s2
      · subst c; simp
      · rw [beq_eq_false_iff_ne.mpr fun z => c (T_inj z)]
        exact (decide_eq_false (p := some s1 = some s2) fun z => c (Option.some.inj z)).symm
    | none =>
      obtain ⟨p, hp⟩ := said_stuck' h2
      unfold saidV at hu
      rw [h2, hp] at hu
      refine ⟨.tuple [.str (T []), .str (T s1)], .tuple [.str (Str.ofString "unsaid"), .int (p : Nat)], _, _, _, _, .tup (.inl (.inl ht)) (.cons (.str _) (.cons (.str _) .nil)), .tup (.inl (.inl hu)) (.cons (.str _) (.cons (.int _) .nil)), shaped_two (by decide +kernel) (strOk_T (ok1 s1 h1)) rfl rfl, shaped_two (by decide +kernel) rfl rfl rfl, ht, hu, ?_⟩
      rw [bad, Bool.false_and, Bool.or_false]
      show ((T [] == Str.ofString "unsaid") && PyData.eqvAll [.str (T s1)] [.int (p : Nat)]) = _
      rw [show (T [] == Str.ofString "unsaid") = false by decide +kernel, Bool.false_and]
      simp
  | none =>
    obtain ⟨p, hp⟩ := said_stuck' h1
    unfold saidV at ht
    rw [h1, hp] at ht
    cases h2 : saidM r2 e2 wd with
    | some s2 =>
      unfold saidV at hu
      rw [h2] at hu
      refine ⟨.tuple [.str (Str.ofString "unsaid"), .int (p : Nat)], .tuple [.str (T []), .str (T s2)], _, _, _, _, .tup (.inl (.inl ht)) (.cons (.str _) (.cons (.int _) .nil)), .tup (.inl (.inl hu)) (.cons (.str _) (.cons (.str _) .nil)), shaped_two (by decide +kernel) rfl rfl rfl, shaped_two (by decide +kernel) (strOk_T (ok2 s2 h2)) rfl rfl, ht, hu, ?_⟩
      rw [bad, Bool.and_false, Bool.or_false]
      show ((Str.ofString "unsaid" == T []) && PyData.eqvAll [.int (p : Nat)] [.str (T s2)]) = _
      rw [show (Str.ofString "unsaid" == T []) = false by decide +kernel, Bool.false_and]
      simp
    | none =>
      obtain ⟨p2, hp2⟩ := said_stuck' h2
      unfold saidV at hu
      rw [h2, hp2] at hu
      refine ⟨.tuple [.str (Str.ofString "unsaid"), .int (p : Nat)], .tuple [.str (Str.ofString "unsaid"), .int (p2 : Nat)], _, _, _, _, .tup (.inl (.inl ht)) (.cons (.str _) (.cons (.int _) .nil)), .tup (.inl (.inl hu)) (.cons (.str _) (.cons (.int _) .nil)), shaped_two (by decide +kernel) rfl rfl rfl, shaped_two (by decide +kernel) rfl rfl rfl, ht, hu, ?_⟩
      rw [good]
      simp
section
variable {X : Cx}
/-- (i, u) < (j, v): a number and a text -/
theorem op_ltNT (hu : X.A.units + 65 < cLine) : OpR X (compareOp .Lt) (fun x y H Q => ∃ (i j : Int) (u v : Str), Dp X.K H x (.tuple [.int i, .str u]) ∧ Dp X.K H y (.tuple [.int j, .str v]) ∧ Q (.bl (if i = j then decide (u.cps.toList < v.cps.toList) else decide (i < j))) H) := by
  intro pins s σ H x y v' u' Q I rx ry h
  obtain ⟨i, j, u, v, hx, hy, q⟩ := h
  obtain ⟨as, r1⟩ := Dp.reads I _ x v' hx rx
  obtain ⟨bs, r2⟩ := Dp.reads I _ y u' hy ry
  exact PySem.W.lt_datum (α := Int × Str) (x := (i, u)) (y := (j, v)) ⟨as, r1⟩ ⟨bs, r2⟩ (by show X.A.units + 1 < cLine; omega) ⟨.bl _, H, I, rfl, q⟩
end
end Say
namespace Say
open PySem PySem.Spec PyProof.Rows L2
section
variable {P : Program} {w : World} {K : PySem.W.Frag} {mg : Str → Option Value} {base : Heap}
/-- a text that is too long -/
def spIsTextL : Sp := fun vs H Q _ => ∃ (l S : List Nat) (lo hi : Nat), vs = [.str (T l), .str (T S), .int lo, .int hi] ∧ (lo ≤ l.length ∧ hi < l.length ∧ l.length ≤ 4000000) ∧
  ∀ (H' : Hp), Same H H' → Q (.bl false) H'
theorem ok_isTextL {f : Addr} {fd : FuncData} (F : Fun K "is_text" "is_text" sIsText f fd) (B : Bn mg) :
    FnOk P w K mg base CX0 1 f fd ["text", "signs", "least", "most"] spIsTextL := by
  refine F.ok scIsText (fun vs H Q E h => ?_) (fun cdv A outer s H vs Q E hr h => ?_)
  · obtain ⟨l, S, lo, hi, rfl, _⟩ := h
    rfl
  · obtain ⟨l, S, lo, hi, rfl, ⟨z1, z2, hz⟩, q⟩ := h
    refine ⟨_, pss_cons (ps_if (PW.pt (pw_or (pt_not (pt_val (pe_callB call_isi (by rfl) B.isi (by decide +kernel) (pa_cons (pv 0) (pa_cons (pe_bltn (v := .ty "str") rfl B.str (by decide +kernel) rfl) pa_nil)))))
          (pw_or1 (pt_not (pt_chain op_le op_le (pv 2) (pe_callB call_len_str (by rfl) B.len PySem.boot_len (pa_cons (pv 0) pa_nil)) (pv 3)))))) (pss_one (ps_ret pe_bl)) pss_nil)
      (pss_one (ps_ret (pe_callB (cr_all rfl) (by rfl) B.all (by decide +kernel) (pa_cons (pe_lc (own := [("sign", 4)]) (g := gName 4) rfl scIsText.nd (pi_str (pv 0))
        (blkOk_by (N := ["text", "signs", "least", "most", "sign"]) (sc := defScope sIsText) (by decide +kernel)) (fun _ _ _ _ _ => pg_name (i := 4) scIsText.nd rfl (.inl rfl))
        (fun _ _ _ _ _ => pts_nil) (fun _ _ _ _ _ => pe_cmpR op_in_sign (pv 4) (pv 1) rfl)) pa_nil)))), ?_⟩
    refine ⟨_, rfl, _, _, .type "str", _, true, rfl, ClsV.ty _, .base (.str _), kit_ty (by decide +kernel), true, rfl, ?_⟩
    refine iteF ?_
    have hlen : (T l).length ≤ sizeLine := by rw [T_len]; exact small (by omega)
    refine ⟨_, rfl, _, rfl, _, rfl, hlen, _, _, rfl, rfl, _, rfl, ?_⟩
    rw [T_len]
    rw [decide_eq_true (show (lo : Int) ≤ ((l.length : Nat) : Int) by omega)]
    refine iteT ?_
    refine ⟨_, rfl, _, _, rfl, rfl, _, rfl, ?_⟩
    rw [decide_eq_false (show ¬ (((l.length : Nat) : Int) ≤ (hi : Int)) by omega)]
    refine iteT ?_
    exact q H (Same.refl H)
end
end Say
namespace Say
open PySem PySem.Spec PyProof.Rows L2
section
variable {P : Program} {w : World} {K : PySem.W.Frag} {mg : Str → Option Value} {base : Heap} {C fI : Addr}
abbrev sWalk : Stmt := topS 56
theorem scWalk : FnScope ["book", "word", "letters", "rules", "_"] ["book", "word"] (defScope sWalk) := ⟨rfl, rfl, rfl, by decide +kernel, rfl, by decide +kernel, by decide +kernel⟩
def spWalkR (C : Addr) : Sp := fun vs H Q E => ∃ (b : Addr) (L : List Nat) (rs : List Rule) (es : List Exc) (wd : List Nat), vs = [.ref b, .str (T wd)] ∧ BookAt H b L rs es ∧ BookOk L rs es ∧ (∀ c ∈ wd, c ∈ L) ∧ wd.length ≤ 12 ∧ toldW C rs wd H Q E
theorem ok_walkR {f fW : Addr} {fd fdW : FuncData} (F : Fun K "walk" "walk" sWalk f fd) (DC : Df P w K mg base "checked_book" ["book"] 5 spCh) (DK : Df P w K mg base "check_word" ["letters", "word"] 2 spChW)
    (GD : FnOk P w K mg base (L2.CX P w) 4 fW fdW ["rules", "word"] (spWdR C)) (kD : PySem.W.keepIn K (.ref fW) = true) (bD : Binds K fdW ["rules", "word"] []) (mD : mg "walked" = some (.ref fW)) : FnOk P w K mg base (L2.CX P w) 6 f fd ["book", "word"] (spWalkR C) := by
  obtain ⟨fC, fdC, GC, kC, bC, mC⟩ := DC
  obtain ⟨fK, fdK, GK, kK, bK, mK⟩ := DK
  refine F.okX scWalk (fun vs H Q E h => ?_) (fun cdv A outer s H vs Q E hr h => ?_)
  · obtain ⟨b, L, rs, es, wd, rfl, _⟩ := h
    rfl
  · obtain ⟨b, L, rs, es, wd, rfl, hB, ho, hw, hl, q1, q2⟩ := h
    have tk : Takes _ (fun cls d _ H => E cls d H) := takes_of (X := cxOf (L2.CX P w) P w K mg base ["book", "word", "letters", "rules", "_"] "walk" (defScope sWalk) f cdv A outer s H E) rfl rfl rfl rfl
    refine ⟨_, pss_cons (ps_asg (pe_call GC hr (by rfl) mC kC bC .nil pass0 (pa_cons (pv 0) pa_nil)) (pg_tup (by rfl) (pgs_cons (pg_name (i := 2) scWalk.nd rfl (.inl rfl)) (pgs_cons (pg_name (i := 3) scWalk.nd rfl (.inl rfl)) (pgs_cons (pg_name (i := 4) scWalk.nd rfl (.inl rfl)) pgs_nil)))))
      (pss_cons (ps_expr (pe_call GK (hr.mono (by decide)) (by rfl) mK kK bK .nil pass0 (pa_cons (pv 2) (pa_cons (pv 1) pa_nil))))
      (pss_one (ps_ret (pe_callS GD (hr.mono (by decide)) (by rfl) mD kD bD (fun σ => passAt tk σ) (by exact (pa_cons (pv 3) (pa_cons (pv 1) pa_nil))))))), ?_⟩
    refine ⟨_, rfl, b, L, rs, es, rfl, hB, ho, fun H1 s1 => ?_⟩
    obtain ⟨R, X, hb, hR, hX⟩ := hB.kt (.of s1)
    refine ⟨b, _, rfl, .inl (.inl hb), rfl, _, _, rfl, _, _, rfl, _, _, rfl, rfl, ?_⟩
    refine ⟨_, rfl, _, rfl, L, wd, rfl, hw, hl, fun H2 s2 => ?_⟩
    refine ⟨_, rfl, _, rfl, R, rs, wd, rfl, hR.kt (.of s2), ho.rls, by omega, fun hN D H3 s3 hD hS => ?_, fun p hp d H3 s3 hd hH => ?_⟩
    · exact q1 hN D H3 ((s1.trans s2).trans s3) ((s1.trans s2).free hD) hS
    · exact q2 p hp d H3 ((s1.trans s2).trans s3) ((s1.trans s2).free hd) hH
end
end Say
namespace Say
open PySem PySem.Spec PyProof.Rows L2
/-- what the top says of a refusal without fields -/
structure RaW (K : PySem.W.Frag) (mg : Str → Option Value) (x : Str) (C : Addr) : Prop where
  ex : PySem.W.excIn K C [.type "ValueError", .type "Exception", .type "BaseException", .type "object"] "ValueError.__new__" = true
  g : mg x = some (.ref C)
  k : PySem.W.keepIn K (.ref C) = true
  b : PySem.W.subIn K (.ref C) (.type "BaseException") = some true
  t : PySem.W.typeIn K (.ref C) = some (.type "type")
section
variable {P : Program} {w : World} {K : PySem.W.Frag} {mg : Str → Option Value} {base : Heap}
def spChWR (CW : Addr) : Sp := fun vs H Q E => ∃ (L z : List Nat), vs = [.str (T L), .str (T z)] ∧ 12 < z.length ∧ z.length ≤ 4000000 ∧ ∀ (H' : Hp), Same H H' → E (.ref CW) none H'
theorem ok_chWR {f CW : Addr} {fd : FuncData} (F : Fun K "check_word" "check_word" sChW f fd) (cL : KI mg "LONGEST_WORD" 12) (RW : RaW K mg "BadWord" CW) (DT : Df P w K mg base "is_text" psIsText 1 spIsTextL) :
    FnOk P w K mg base (L2.CX P w) 2 f fd ["letters", "word"] (spChWR CW) := by
  obtain ⟨fT, fdT, GT, kT, bT, mT⟩ := DT
  obtain ⟨tS, mS⟩ := cL
  refine F.okX scChW (fun vs H Q E h => ?_) (fun cdv A outer s H vs Q E hr h => ?_)
  · obtain ⟨L, z, rfl, _⟩ := h
    rfl
  · obtain ⟨L, z, rfl, h1, h2, q⟩ := h
    refine ⟨_, pss_one (ps_if (pt_not (pt_val (pe_call GT hr (by rfl) mT kT bT .nil pass0 (pa_cons (pv 1) (pa_cons (pv 0) (pa_cons pe_int (pa_cons (pe_glob (v := .int 12) rfl mS ⟨_, rfl⟩) pa_nil))))))) (pss_one (ps_raise rfl (takes_of rfl rfl rfl rfl) (pmk_own PySem.F.excBase_ValueError RW.ex RW.g RW.k (raises_own RW.b RW.t) rfl))) pss_nil), ?_⟩
    refine ⟨_, rfl, _, rfl, z, L, 0, 12, rfl, ⟨Nat.zero_le _, h1, h2⟩, fun H1 s1 => ?_⟩
    exact ⟨false, rfl, iteT (q H1 s1)⟩
def spWalkL (CW : Addr) : Sp := fun vs H Q E => ∃ (b : Addr) (L : List Nat) (rs : List Rule) (es : List Exc) (wd : List Nat), vs = [.ref b, .str (T wd)] ∧ BookAt H b L rs es ∧ BookOk L rs es ∧ 12 < wd.length ∧ wd.length ≤ 4000000 ∧ ∀ (H' : Hp), Same H H' → E (.ref CW) none H'
theorem ok_walkL {f fK fW CW C : Addr} {fd fdK fdW : FuncData} (F : Fun K "walk" "walk" sWalk f fd) (DC : Df P w K mg base "checked_book" ["book"] 5 spCh)
    (GK : FnOk P w K mg base (L2.CX P w) 2 fK fdK ["letters", "word"] (spChWR CW)) (kK : PySem.W.keepIn K (.ref fK) = true) (bK : Binds K fdK ["letters", "word"] []) (mK : mg "check_word" = some (.ref fK))
    (GD : FnOk P w K mg base (L2.CX P w) 4 fW fdW ["rules", "word"] (spWdR C)) (kD : PySem.W.keepIn K (.ref fW) = true) (bD : Binds K fdW ["rules", "word"] []) (mD : mg "walked" = some (.ref fW)) : FnOk P w K mg base (L2.CX P w) 6 f fd ["book", "word"] (spWalkL CW) := by
  obtain ⟨fC, fdC, GC, kC, bC, mC⟩ := DC
  refine F.okX scWalk (fun vs H Q E h => ?_) (fun cdv A outer s H vs Q E hr h => ?_)
  · obtain ⟨b, L, rs, es, wd, rfl, _⟩ := h
    rfl
  · obtain ⟨b, L, rs, es, wd, rfl, hB, ho, hl, hl2, q⟩ := h
    have tk : Takes _ (fun cls d _ H => E cls d H) := takes_of (X := cxOf (L2.CX P w) P w K mg base ["book", "word", "letters", "rules", "_"] "walk" (defScope sWalk) f cdv A outer s H E) rfl rfl rfl rfl
    refine ⟨_, pss_cons (ps_asg (pe_call GC hr (by rfl) mC kC bC .nil pass0 (pa_cons (pv 0) pa_nil)) (pg_tup (by rfl) (pgs_cons (pg_name (i := 2) scWalk.nd rfl (.inl rfl)) (pgs_cons (pg_name (i := 3) scWalk.nd rfl (.inl rfl)) (pgs_cons (pg_name (i := 4) scWalk.nd rfl (.inl rfl)) pgs_nil)))))
      (pss_cons (ps_expr (pe_callS GK (hr.mono (by decide)) (by rfl) mK kK bK (fun σ => passAt tk σ) (by exact (pa_cons (pv 2) (pa_cons (pv 1) pa_nil)))))
      (pss_one (ps_ret (pe_callS GD (hr.mono (by decide)) (by rfl) mD kD bD (fun σ => passAt tk σ) (by exact (pa_cons (pv 3) (pa_cons (pv 1) pa_nil))))))), ?_⟩
    refine ⟨_, rfl, b, L, rs, es, rfl, hB, ho, fun H1 s1 => ?_⟩
    obtain ⟨R, X, hb, hR, hX⟩ := hB.kt (.of s1)
    refine ⟨b, _, rfl, .inl (.inl hb), rfl, _, _, rfl, _, _, rfl, _, _, rfl, rfl, ?_⟩
    exact ⟨_, rfl, _, rfl, L, wd, rfl, hl, hl2, fun H2 s2 => q H2 (s1.trans s2)⟩
end
end Say
namespace Say
open PySem PySem.Spec PyProof.Rows L2
theorem FnOk.or {P : Program} {w : World} {K : PySem.W.Frag} {mg : Str → Option Value} {base : Heap} {CX : CXT} {k : Nat} {f : Addr} {fd : FuncData} {ps : List Str} {s1 s2 : Sp} (a : FnOk P w K mg base CX k f fd ps s1) (b : FnOk P w K mg base CX k f fd ps s2) :
    FnOk P w K mg base CX k f fd ps (fun vs H Q E => s1 vs H Q E ∨ s2 vs H Q E) :=
  ⟨fun vs H Q E h => h.elim (a.len vs H Q E) (b.len vs H Q E), fun A outer s H args us vs Q E hr e hb hv h => h.elim (a.run A outer s H args us vs Q E hr e hb hv) (b.run A outer s H args us vs Q E hr e hb hv)⟩
/-- walk, of words of any length -/
def spWalkB (CU CW : Addr) : Sp := fun vs H Q E => spWalkR CU vs H Q E ∨ spWalkL CW vs H Q E
section
variable {K : PySem.W.Frag} {mg : Str → Option Value}
theorem walk_tB {CU CW : Addr} {L wd : List Nat} {rs : List Rule} {H7 : Hp} {Q : VK} {σ : L2.St} {j : Nat} {tb : TE} (WU : WordC K mg CU 4) (WW : WordC K mg CW 1) (h4 : σ[j]? = some (some (.str (T wd))))
    (hb : ∀ (H' : Hp) (Q' : VK), Same H7 H' → (∀ (b : Addr) (H'' : Hp), Same H' H'' → BookAt H'' b L rs [] → Q' (.ref b) H'') → tb σ H' Q') (oB : BookOk L rs []) (hw : ∀ c ∈ wd, c ∈ L) (hl : wd.length ≤ 4000000)
    (q1 : wd.length ≤ 12 → ∀ (t : Addr) (H8 : Hp), Same H7 H8 → LWAt H8 t (W rs wd) → Q (.ref t) H8) (q2 : 12 < wd.length → ∀ (t : Addr) (H8 : Hp), Same H7 H8 → H8 t = some (.tup [.str "word", .non]) → Q (.ref t) H8) :
    TTw K mg (fun E H' Q' => tCall (spWalkB CU CW) [] E (tCons tb (tCons (tVar j) tNil)) σ H' Q') H7 Q := by
  intro D hD post hpost
  have sD := same_new hD (.lst [])
  refine hb _ _ sD fun b H1 s1 hB => ?_
  have s01 := sD.trans s1
  have hD1 : H1 D = some (.lst []) := s1 _ _ upd_same
  refine ⟨_, h4, ?_⟩
  rcases Nat.lt_or_ge 12 wd.length with c | c
  · refine .inr ⟨b, L, rs, [], wd, rfl, hB, oB, c, hl, fun H' s' => ?_⟩
    exact ⟨CW, 1, _, WW, rfl, .inr (.inl ⟨rfl, .inl rfl, rfl⟩), fun t H8 s8 ht => q2 c t H8 (s01.trans (s'.trans s8)) ht⟩
  · refine .inl ⟨b, L, rs, [], wd, rfl, hB, oB, hw, c, fun hN D' H' s' hD' hS => ?_, fun p hp d H' s' hd hH => ?_⟩
    · have nDD : D' ≠ D := fun z => by rw [z, hD1] at hD'; cases hD'
      refine hpost _ _ (s' _ _ hD1) fun t H8 s8 ht => ?_
      refine q1 c t H8 (same_stp (s01.trans s') hD s8) ?_
      unfold LWAt
      rw [hN]
      refine ⟨D', by rw [← nil_eq]; exact ht, ?_⟩
      obtain ⟨ts, e1, e2⟩ := hS
      refine ⟨ts, s8 _ _ e1 nDD, paired_mono (fun t' ρ q => s8 _ _ q fun z => ?_) e2⟩
      rw [z, s' _ _ hD1] at q
      cases q
    · refine ⟨CU, 4, _, WU, rfl, .inl ⟨rfl, d, p, rfl, hH, rfl⟩, fun t H8 s8 ht => q1 c t H8 (s01.trans (s'.trans s8)) ?_⟩
      unfold LWAt
      rw [hp]
      exact ht
end
theorem LWAt.extN {H H' : Hp} {t : Addr} {q : List (Nat × Nat) × Option Nat} (h : LWAt H t q) (e : LamX.ExtN H H') : LWAt H' t q := by
  obtain ⟨l, o⟩ := q
  cases o with
  | some p => exact e _ _ h (fun ps z => by cases z)
  | none =>
    obtain ⟨D', h1, ts, h2, h3⟩ := h
    exact ⟨D', e _ _ h1 (fun ps z => by cases z), ts, e _ _ h2 (fun ps z => by cases z), paired_mono (fun t ρ q => e _ _ q (fun ps z => by cases z)) h3⟩
/-! ### the data of what walk tells -/
def sD2 (s : Nat × Nat) : PyData := .tuple [.int (s.1 : Nat), .int (s.2 : Nat)]
theorem dp_st2 {K : PySem.W.Frag} {H : Hp} : ∀ {ts : List Addr} {ss : List (Nat × Nat)}, Paired (fun t (s : Nat × Nat) => H t = some (.tup [.int (s.1 : Nat), .int (s.2 : Nat)])) ts ss → DpAll K H (ts.map V.ref) (ss.map sD2)
  | _, _, .nil => .nil
  | _, _, .cons h r => .cons (.tup (.inl (.inl h)) (.cons (.int _) (.cons (.int _) .nil))) (dp_st2 r)
theorem st_lay : ∀ ss : List (Nat × Nat), PyData.canLayAll0 (ss.map sD2) = true ∧ PyData.depthAll (ss.map sD2) ≤ 1 ∧ PyData.eqvAll (ss.map sD2) (ss.map sD2) = true
  | [] => ⟨rfl, Nat.zero_le _, rfl⟩
  | s :: r => by
    obtain ⟨h1, h2, h3⟩ := st_lay r
    refine ⟨?_, ?_, ?_⟩
    · rw [List.map_cons]
      show (PyData.canLay0 (sD2 s) && PyData.canLayAll0 (r.map sD2)) = true
      rw [h1, Bool.and_true]
      exact SeqAt.canLay_of_shaped (shaped_two (x := .int (s.1 : Nat)) (y := .int (s.2 : Nat)) rfl rfl rfl rfl)
    · rw [List.map_cons]
      show max (PyData.depth (sD2 s)) (PyData.depthAll (r.map sD2)) ≤ 1
      have : PyData.depth (sD2 s) = 1 := rfl
      omega
    · rw [List.map_cons]
      show (PyData.eqv (sD2 s) (sD2 s) && PyData.eqvAll (r.map sD2) (r.map sD2)) = true
      rw [h3, Bool.and_true]
      show ((((s.1 : Nat) : Int) == ((s.1 : Nat) : Int)) && ((((s.2 : Nat) : Int) == ((s.2 : Nat) : Int)) && true)) = true
      simp
theorem lw_data (q : List (Nat × Nat) × Option Nat) : ∃ d, SeqAt.shaped d = true ∧ PyData.eqv d d = true ∧ ∀ (K : PySem.W.Frag) (H : Hp) (t : Addr), LWAt H t q → Dp K H (.ref t) d := by
  obtain ⟨l, o⟩ := q
  cases o with
  | some p =>
    exact ⟨.tuple [.str (Str.ofString "unsaid"), .int (p : Nat)], shaped_two (by decide +kernel) rfl rfl rfl, (by show ((Str.ofString "unsaid" == Str.ofString "unsaid") && ((((p : Nat) : Int) == ((p : Nat) : Int)) && true)) = true; simp), fun K H t h => .tup (.inl (.inl h)) (.cons (.str _) (.cons (.int _) .nil))⟩
  | none =>
    obtain ⟨h1, h2, h3⟩ := st_lay l
    refine ⟨.tuple [.str (T []), .list (l.map sD2)], ?_, ?_, fun K H t h => ?_⟩
    · unfold SeqAt.shaped
      rw [Bool.and_eq_true]
      refine ⟨?_, decide_eq_true ?_⟩
      · show (PyData.canLay0 (.str (T [])) && (PyData.canLayAll0 (l.map sD2) && true)) = true
        rw [h1]
        decide +kernel
      · show max (PyData.depth (.str (T []))) (max (PyData.depthAll (l.map sD2) + 1) 0) + 1 ≤ 64
        have : PyData.depth (.str (T [])) = 0 := rfl
        omega
    · show ((T [] == T []) && (PyData.eqvAll (l.map sD2) (l.map sD2) && true)) = true
      rw [h3]
      simp
    · obtain ⟨D, g1, ts, g2, g3⟩ := h
      exact .tup (.inl (.inl g1)) (.cons (.str _) (.cons (.lst (.inl (.inl g2)) (dp_st2 g3)) .nil))
end Say
namespace Say
open PySem PySem.Spec PyProof.Rows L2 L2.DX
/-- walk, told by _law_word: the book and the word in the slots i and j -/
theorem walk_at {K : PySem.W.Frag} {mg : Str → Option Value} {CU b : Addr} {L wd : List Nat} {rs : List Rule} {es : List Exc} {H7 : Hp} {Q : VK} {σ : L2.St} {i j : Nat} (WU : WordC K mg CU 4) (h3 : σ[i]? = some (some (.ref b))) (h4 : σ[j]? = some (some (.str (T wd)))) (hB : BookAt H7 b L rs es) (oB : BookOk L rs es) (hw : ∀ c ∈ wd, c ∈ L) (hl : wd.length ≤ 12)
    (h : ∀ (t : Addr) (H8 : Hp), Same H7 H8 → LWAt H8 t (W rs wd) → Q (.ref t) H8) : TTw K mg (fun E H' Q' => tCall (spWalkR CU) [] E (tCons (tVar i) (tCons (tVar j) tNil)) σ H' Q') H7 Q := by
  intro D hD post hpost
  have sD := same_new hD (.lst [])
  have hD1 : (upd H7 D (.lst [])) D = some (.lst []) := upd_same
  refine ⟨_, h3, _, h4, b, L, rs, es, wd, rfl, hB.kt (.of sD), oB, hw, hl, fun hN D' H' s' hD' hS => ?_, fun p hp d H' s' hd hH => ?_⟩
  · have nDD : D' ≠ D := fun z => by rw [z, hD1] at hD'; cases hD'
    refine hpost _ _ (s' _ _ hD1) fun t H8 s8 ht => ?_
    refine h t H8 (same_stp (sD.trans s') hD s8) ?_
    unfold LWAt
    rw [hN]
    refine ⟨D', by rw [← nil_eq]; exact ht, ?_⟩
    obtain ⟨ts, e1, e2⟩ := hS
    refine ⟨ts, s8 _ _ e1 nDD, paired_mono (fun t' ρ q => s8 _ _ q fun z => ?_) e2⟩
    rw [z, s' _ _ hD1] at q
    cases q
  · refine ⟨CU, 4, _, WU, rfl, .inl ⟨rfl, d, p, rfl, hH, rfl⟩, fun t H8 s8 ht => h t H8 (sD.trans (s'.trans s8)) ?_⟩
    unfold LWAt
    rw [hp]
    exact ht
end Say
namespace Say
open PySem PySem.Spec PyProof.Rows L2 L2.DX
/-- what is told twice alike is the same -/
def Told (v : List V) : Prop := ∃ d, SeqAt.shaped d = true ∧ PyData.eqv d d = true ∧ ∀ (K : PySem.W.Frag) (H : Hp) (t : Addr), H t = some (.tup v) → Dp K H (.ref t) d
theorem told_str {u : Str} {s : List Nat} (hu : PyData.strOk u = true) (hs : ∀ c ∈ s, c < 1114112) : Told [.str u, .str (T s)] :=
  ⟨.tuple [.str u, .str (T s)], shaped_two hu (strOk_T hs) rfl rfl, (by show ((u == u) && ((T s == T s) && true)) = true; simp), fun K H t h => .tup (.inl (.inl h)) (.cons (.str _) (.cons (.str _) .nil))⟩
theorem told_int {u : Str} {n : Int} (hu : PyData.strOk u = true) : Told [.str u, .int n] :=
  ⟨.tuple [.str u, .int n], shaped_two hu rfl rfl rfl, (by show ((u == u) && ((n == n) && true)) = true; simp), fun K H t h => .tup (.inl (.inl h)) (.cons (.str _) (.cons (.int _) .nil))⟩
theorem told_non {u : Str} (hu : PyData.strOk u = true) : Told [.str u, .non] :=
  ⟨.tuple [.str u, .none], shaped_two hu rfl rfl rfl, (by show ((u == u) && (true && true)) = true; simp), fun K H t h => .tup (.inl (.inl h)) (.cons (.str _) (.cons .non .nil))⟩
end Say
namespace Say
open PySem PySem.Spec PyProof.Rows L2
/-- S is not where the script stands -/
def Off (K : PySem.W.Frag) (a S : Addr) (ns : List Int) : Prop := (∀ H : Hp, SqL K H a (ns.map V.int)) ∨ a ≠ S
theorem RowAt.off {K : PySem.W.Frag} {H : Hp} {r a S : Addr} {ns : List Int} (R : RowAt K H r a ns) (h : H S = none) : Off K a S ns := by
  obtain ⟨_, sc, _⟩ := R
  rcases sc with (sc | ⟨o, sc⟩) | sc
  · exact .inr (ne_of_none sc h)
  · exact .inr (ne_of_none sc h)
  · exact .inl fun H' => .inr sc
theorem RowAt.updS {K : PySem.W.Frag} {H : Hp} {r a S : Addr} {ns : List Int} {o : HO} (R : RowAt K H r a ns) (n : r ≠ S) (of : Off K a S ns) : RowAt K (upd H S o) r a ns := by
  obtain ⟨⟨i', c', m', q', b'⟩, sc, le⟩ := R
  refine ⟨⟨i', c', m', by rw [upd_ne n]; exact q', b'⟩, ?_, le⟩
  rcases of with of | of
  · exact of _
  · rcases sc with (sc | ⟨o, sc⟩) | sc
    · exact .inl (.inl (by rw [upd_ne of]; exact sc))
    · exact .inl (.inr ⟨o, by rw [upd_ne of]; exact sc⟩)
    · exact .inr sc
end Say
namespace Say
open PySem PySem.Spec PyProof.Rows L2 L2.DX
abbrev sLaw : Stmt := topS 96
abbrev nLaw : List Str := ["_law_script", "_law_row_here", "_law_book_here", "_law_names", "_law_other", "_law_number", "_law_turn", "_law_word_here", "_law_turned_here", "_law_first", "_law_second", "_law_found", "_law_one"]
theorem scLaw : FnScope nLaw ["_law_script"] (defScope sLaw) := ⟨rfl, rfl, rfl, by decide +kernel, rfl, by decide +kernel, by decide +kernel⟩
def qLam : Str := (PySem.W.envX "law" (defScope sLaw) 0 0 (.ref 0) []).qual ++ "<lambda>"
def spLawT (K : PySem.W.Frag) (Pt : Addr) : Sp := fun vs H Q _ => ∃ (a : Addr) (ns : List Int), vs = [.ref a] ∧ SqL K H a (ns.map V.int) ∧ ns.length ≤ 63 ∧ H Pt = some (.tbl #[]) ∧ ∀ H', Q (.bl true) H'
abbrev stPass : Stmt := .Pass ⟨0, 0, 0, 0⟩
abbrev bdT : List Stmt := match (defBody sLaw).getD 8 stPass with | .For _ _ b _ _ => b | _ => []
/-! ### lists of numbers, of texts -/
def nD (k : Nat) : PyData := .int (k : Nat)
theorem dpA_nat {K : PySem.W.Frag} {H : Hp} : ∀ ks : List Nat, DpAll K H (ks.map fun k => V.int (k : Nat)) (ks.map nD)
  | [] => .nil
  | k :: r => .cons (.int _) (dpA_nat r)
theorem nat_lay : ∀ ks : List Nat, PyData.canLayAll0 (ks.map nD) = true ∧ PyData.depthAll (ks.map nD) = 0 ∧ PyData.eqvAll (ks.map nD) (ks.map nD) = true
  | [] => ⟨rfl, rfl, rfl⟩
  | k :: r => by
    obtain ⟨h1, h2, h3⟩ := nat_lay r
    refine ⟨?_, ?_, ?_⟩
    · rw [List.map_cons]
      show (PyData.canLay0 (nD k) && PyData.canLayAll0 (r.map nD)) = true
      rw [h1, Bool.and_true]
      rfl
    · rw [List.map_cons]
      show max (PyData.depth (nD k)) (PyData.depthAll (r.map nD)) = 0
      rw [h2]
      rfl
    · rw [List.map_cons]
      show (PyData.eqv (nD k) (nD k) && PyData.eqvAll (r.map nD) (r.map nD)) = true
      rw [h3, Bool.and_true]
      show (((k : Nat) : Int) == ((k : Nat) : Int)) = true
      simp
theorem nat_shaped (ks : List Nat) : SeqAt.shaped (.list (ks.map nD)) = true := by
  obtain ⟨h1, h2, _⟩ := nat_lay ks
  unfold SeqAt.shaped
  rw [Bool.and_eq_true]
  refine ⟨h1, decide_eq_true ?_⟩
  show PyData.depthAll (ks.map nD) + 1 ≤ 64
  omega
def wD (w : List Nat) : PyData := .str (T w)
theorem dpA_txt {K : PySem.W.Frag} {H : Hp} : ∀ ws : List (List Nat), DpAll K H (ws.map fun x => V.str (T x)) (ws.map wD)
  | [] => .nil
  | w :: r => .cons (.str _) (dpA_txt r)
theorem txt_lay : ∀ {ws : List (List Nat)}, (∀ w ∈ ws, ∀ c ∈ w, c < 1114112) → PyData.canLayAll0 (ws.map wD) = true ∧ PyData.depthAll (ws.map wD) = 0 ∧ PyData.eqvAll (ws.map wD) (ws.map wD) = true
  | [], _ => ⟨rfl, rfl, rfl⟩
  | w :: r, h => by
    obtain ⟨h1, h2, h3⟩ := txt_lay (ws := r) fun x hx => h x (List.mem_cons_of_mem _ hx)
    refine ⟨?_, ?_, ?_⟩
    · rw [List.map_cons]
      show (PyData.strOk (T w) && PyData.canLayAll0 (r.map wD)) = true
      rw [h1, Bool.and_true]
      exact strOk_T (h w (List.mem_cons_self ..))
    · rw [List.map_cons]
      show max 0 (PyData.depthAll (r.map wD)) = 0
      rw [h2]
      rfl
    · rw [List.map_cons]
      show ((T w == T w) && PyData.eqvAll (r.map wD) (r.map wD)) = true
      rw [h3, Bool.and_true]
      exact beq_self_eq_true _
theorem txt_shaped {ws : List (List Nat)} (h : ∀ w ∈ ws, ∀ c ∈ w, c < 1114112) : SeqAt.shaped (.list (ws.map wD)) = true := by
  obtain ⟨h1, h2, _⟩ := txt_lay h
  unfold SeqAt.shaped
  rw [Bool.and_eq_true]
  refine ⟨h1, decide_eq_true ?_⟩
  show PyData.depthAll (ws.map wD) + 1 ≤ 64
  omega
theorem few_txt (ws : List (List Nat)) (h : ws.length ≤ 1000) : Few (.list (ws.map wD)) ∧ (PyData.list (ws.map wD)).depth < 2 := by
  refine ⟨.lst (by rw [List.length_map]; exact h) fun d hd => by obtain ⟨w, _, rfl⟩ := List.mem_map.mp hd; exact .str _, ?_⟩
  show PyData.depthAll (ws.map wD) + 1 < 2
  have : PyData.depthAll (ws.map wD) = 0 := by
    clear h
    induction ws with
    | nil => rfl
    | cons w r ih =>
      rw [List.map_cons]
      show max 0 (PyData.depthAll (r.map wD)) = 0
      rw [ih]
      rfl
  omega
/-- the data of a leaf -/
def leafD : V → PyData
  | .str x => .str x
  | .int i => .int i
  | _ => .none
theorem few_leaf (v : V) : Few (leafD v) ∧ (leafD v).depth < 2 := by
  cases v <;> first | exact ⟨.non, Nat.zero_lt_succ _⟩ | exact ⟨.str _, Nat.zero_lt_succ _⟩ | exact ⟨.int _, Nat.zero_lt_succ _⟩
/-- a text or None -/
def TxN (L : List Nat) (v : V) : Prop := v = .non ∨ ∃ w : List Nat, v = .str (T w) ∧ (∀ c ∈ w, c ∈ L) ∧ w.length ≤ 100
theorem dp_txn {K : PySem.W.Frag} {H : Hp} {v : V} {L : List Nat} (h : TxN L v) : Dp K H v (leafD v) := by
  rcases h with rfl | ⟨w, rfl, _⟩
  · exact .non
  · exact .str _
theorem lv_len4 {L : List Nat} (h4 : L.length ≤ 4) : ∀ n, (lv L n).length ≤ 4 ^ n
  | 0 => Nat.le_refl _
  | n + 1 => by
    have ih := lv_len4 h4 n
    have := flat_le (f := fun w => L.map fun c => w ++ [c]) (k := 4) (l := lv L n) fun a _ => by rw [List.length_map]; exact h4
    show ((lv L n).flatMap fun w => L.map fun c => w ++ [c]).length ≤ 4 ^ n * 4
    exact Nat.le_trans this (Nat.mul_le_mul_right 4 ih)
theorem upto_snoc4 (L : List Nat) (n : Nat) : upto L (n + 1) = upto L n ++ lv L (n + 1) := by
  unfold upto
  rw [List.range_succ, List.flatMap_append]
  simp
theorem writ4 {L : List Nat} {rs : List Rule} {es : List Exc} {so : List Nat} (h4 : L.length ≤ 4) : (writM rs es so L 4).length ≤ 341 := by
  unfold writM
  refine Nat.le_trans (List.length_filter_le _ _) ?_
  have h0 : (upto L 0).length ≤ 1 := by
    show (([0].flatMap fun k => lv L k) : List (List Nat)).length ≤ 1
    exact Nat.le_refl 1
  rw [upto_snoc4, upto_snoc4, upto_snoc4, upto_snoc4]
  simp only [List.length_append]
  have h1 := lv_len4 h4 (0 + 1)
  have h2 := lv_len4 h4 (1 + 1)
  have h3 := lv_len4 h4 (2 + 1)
  have h4' := lv_len4 h4 (3 + 1)
  omega
def tnV : V → Tn
  | .str z => .txt z.cps.toList
  | .int i => .int i
  | _ => .non
/-- None, a number, a text of signs that have names -/
def Lfs (v : V) : Prop := v = .non ∨ (∃ i, v = .int i) ∨ ∃ w : List Nat, v = .str (T w) ∧ (∀ c ∈ w, Sg c) ∧ w.length ≤ 900
theorem Lfs.tn {H : Hp} {v : V} (h : Lfs v) (n : Nat) : TnAt H (n + 1) v (tnV v) := by
  rcases h with rfl | ⟨i, rfl⟩ | ⟨w, rfl, h1, h2⟩
  · exact .non n
  · exact .int n i
  · exact .txt n h1 h2
theorem Lfs.tr {H : Hp} {v v' : V} (h : Lfs v) (t : TrAt H v' (tnV v)) : v' = trV v := by
  rcases h with rfl | ⟨i, rfl⟩ | ⟨w, rfl, h1, h2⟩
  · cases t; rfl
  · cases t; rfl
  · cases t; rfl
theorem Lfs.dp {K : PySem.W.Frag} {H : Hp} {v : V} (h : Lfs v) : Dp K H (trV v) (leafD (trV v)) := by
  rcases h with rfl | ⟨i, rfl⟩ | ⟨w, rfl, h1, h2⟩
  · exact .non
  · exact .int _
  · exact .str _
theorem lfs_N {rs : List Rule} {L : List Nat} {v : V} (ab : Abcd L) (l4 : L.length ≤ 4) (h : LeastIsN rs L v) : Lfs v := by
  rcases h with ⟨rfl, _⟩ | ⟨w, rfl, h1, h2, _⟩
  · exact .inl rfl
  · exact .inr (.inr ⟨w, rfl, sg_let ab h1, by have := tails_le l4; omega⟩)
theorem lfs_U {rs : List Rule} {k : Nat} {L : List Nat} {v : V} (ab : Abcd L) (l4 : L.length ≤ 4) (h : LeastIs rs k L v) : Lfs v := by
  rcases h with ⟨rfl, _⟩ | ⟨w, rfl, h1, h2, _⟩
  · exact .inl rfl
  · exact .inr (.inr ⟨w, rfl, sg_let ab h1, by have := states_le l4; omega⟩)
theorem said_sg {L : List Nat} {rs : List Rule} {es : List Exc} {wd so : List Nat} (oB : BookOk L rs es) (g : SgB L rs es) (hl : wd.length ≤ 8) (h : saidM rs es wd = some so) : (∀ c ∈ so, c = 65 ∨ c = 66 ∨ c = 68) ∧ so.length ≤ 36 := by
  unfold saidM at h
  cases e : es.find? fun e => decide (e.1 = wd) with
  | some x =>
    rw [e] at h
    cases h
    have hx := List.mem_of_find?_eq_some e
    exact ⟨g.e x hx, (oB.ex x hx).s36⟩
  | none =>
    rw [e] at h
    have h : sayW rs wd = some so := h
    have l := (say_caps oB.rl oB.lt h).2
    refine ⟨fun c hc => ?_, by omega⟩
    unfold sayW at h
    by_cases c0 : (W rs wd).2 = none
    · rw [if_pos c0] at h
      cases h
      unfold soL at hc
      obtain ⟨l', hl', hc'⟩ := List.mem_flatten.mp hc
      obtain ⟨k, _, rfl⟩ := List.mem_map.mp hl'
      unfold ruleAt at hc'
      rw [List.getD_eq_getElem?_getD] at hc'
      cases hk : rs[k]? with
      | none => rw [hk] at hc'; cases hc'
      | some ρ =>
        rw [hk] at hc'
        have := g.r ρ (List.mem_of_getElem? hk) c hc'
        omega
    · rw [if_neg c0] at h
      cases h
/-- what is told of a word, by both books -/
theorem saidV_tr {L : List Nat} {rs : List Rule} {es : List Exc} {wd : List Nat} (oB : BookOk L rs es) (g : SgB L rs es) (hl : wd.length ≤ 8) : ∃ (u : Str) (z : V), saidV rs es wd = [.str u, z] ∧ saidV (rs.map trR) (es.map trE) (wd.map tr) = [.str u, trV z] ∧ Lfs z ∧
    ((u = T [] ∧ ∃ so, z = .str (T so) ∧ (∀ c ∈ so, c = 65 ∨ c = 66 ∨ c = 68) ∧ so.length ≤ 36) ∨ decide (V.str u = V.str (Str.ofString "")) = false) := by
  unfold saidV
  rw [saidM_tr, W_tr]
  cases hM : saidM rs es wd with
  | some so =>
    obtain ⟨h1, h2⟩ := said_sg oB g hl hM
    exact ⟨T [], .str (T so), rfl, rfl, .inr (.inr ⟨so, rfl, sg_so h1, by omega⟩), .inl ⟨rfl, so, rfl, h1, h2⟩⟩
  | none =>
    obtain ⟨p, hp⟩ := said_stuck' hM
    rw [hp]
    exact ⟨Str.ofString "unsaid", .int (p : Nat), rfl, rfl, .inr (.inl ⟨_, rfl⟩), .inr (by decide +kernel)⟩
theorem few_two {d1 d2 : PyData} (h1 : Few d1) (h2 : Few d2) (e1 : d1.depth = 0) (e2 : d2.depth = 0) : Few (.tuple [d1, d2]) ∧ (PyData.tuple [d1, d2]).depth < 2 := by
  refine ⟨.tup (by show 2 ≤ 1000; decide) fun d hd => ?_, ?_⟩
  · rcases List.mem_cons.mp hd with rfl | hd
    · exact h1
    · rw [List.mem_singleton.mp hd]; exact h2
  · show max d1.depth (max d2.depth 0) + 1 < 2
    rw [e1, e2]
    decide
theorem dep_leaf (v : V) : (leafD v).depth = 0 := by
  cases v <;> rfl
/-- how the law stands -/
structure S25 (K : PySem.W.Frag) (Pt r a b o dn : Addr) (ns : List Int) (L : List Nat) (rs : List Rule) (es : List Exc) (H : Hp) : Prop where
  Rw : RowAt K H r a ns
  Tb : LamX.Tabs [(Pt, qLam)] H
  hB : BookAt H b L rs es
  hO : BookAt H o (L.map tr) (rs.map trR) (es.map trE)
  hN : H dn = some (.dK namesK)
section
variable {K : PySem.W.Frag} {Pt r a b o dn : Addr} {ns : List Int} {L : List Nat} {rs : List Rule} {es : List Exc} {H H' : Hp}
theorem S25.same (h : S25 K Pt r a b o dn ns L rs es H) (s : Same H H') : S25 K Pt r a b o dn ns L rs es H' := ⟨h.Rw.stp s, h.Tb.ext s, h.hB.kt (.of s), h.hO.kt (.of s), s _ _ h.hN⟩
theorem S25.extN (h : S25 K Pt r a b o dn ns L rs es H) (s : LamX.ExtN H H') (t : LamX.Tabs [(Pt, qLam)] H') : S25 K Pt r a b o dn ns L rs es H' := ⟨h.Rw.extN s, t, h.hB.kt (.extN s), h.hO.kt (.extN s), s _ _ h.hN (fun ps z => by cases z)⟩
theorem S25.stp (h : S25 K Pt r a b o dn ns L rs es H) (s : Stp r H H') (R' : RowAt K H' r a ns) : S25 K Pt r a b o dn ns L rs es H' := by
  obtain ⟨i, c, m, q, _⟩ := h.Rw.in
  exact ⟨R', tabs_stp h.Tb h.Rw.in s, h.hB.kt (h.Rw.kt s), h.hO.kt (h.Rw.kt s), s _ _ h.hN (ne_of h.hN q (by intro z; cases z))⟩
end
section
variable {P : Program} {w : World} {K : PySem.W.Frag} {mg : Str → Option Value} {base : Heap}
theorem ok_law {f cL Pt gW fSd fWk CU fWr : Addr} {fdW fdSd fdWk fdWr : FuncData} {oc : Value} {od an : Option Addr} {osl : Array (Option Value)} {kV doc pm ct : Value}
    (lk : K.lookup f = some ⟨oc, od, .func (PySem.W.fnOf "law" "law" (defArgs sLaw) (defBody sLaw) (defScope sLaw) .none kV doc pm an (.ref cL) ct), osl⟩) (hcd : PySem.W.codeIn K (.ref cL) "law" = true)
    (TB : LamX.TabB base mg cL Pt) (B : Bn mg) (WC : WordC K mg CU 4)
    (FW : Fun K "_law_word" "_law_word" sLWo gW fdW) (mW : mg "_law_word" = some (.ref gW)) (GSd : FnOk P w K mg base (L2.CX P w) 6 fSd fdSd ["book", "word"] (spSaidR CU)) (kSd : PySem.W.keepIn K (.ref fSd) = true) (bSd : Binds K fdSd ["book", "word"] []) (mSd : mg "said" = some (.ref fSd))
    (GWk : FnOk P w K mg base (L2.CX P w) 6 fWk fdWk ["book", "word"] (spWalkR CU)) (kWk : PySem.W.keepIn K (.ref fWk) = true) (bWk : Binds K fdWk ["book", "word"] []) (mWk : mg "walk" = some (.ref fWk))
    (DRo : Df P w K mg base "_law_row" ["_law_script"] 1 (spRow K)) (DBk : Df P w K mg base "_law_book" ["_law_row_here"] 5 (spLB4 K)) (DX : Df P w K mg base "_law_text" ["_law_row_here", "_law_signs", "_law_fewest", "_law_many"] 2 (spText K)) (DTu : Df P w K mg base "_law_turned" ["_law_part", "_law_names"] 4 (spTu 4))
    (DFr : Df P w K mg base "free" ["book"] 10 spFr) (DId : Df P w K mg base "idle" ["book"] 8 spIdl) (DNl : Df P w K mg base "needless" ["book"] 7 spNl) (DUn : Df P w K mg base "unsaid" ["book"] 8 spUn) (DUs : Df P w K mg base "use" ["book", "number"] 8 spUse)
    (FWr : FunD K "writings" "writings" (defArgs sWr) (defBody sWr) (defScope sWr) [] [("long", .int 5)] fWr fdWr) (GWr : FnOk P w K mg base CX0 7 fWr fdWr psWr spWr) (mWr : mg "writings" = some (.ref fWr))
    (DAl : Df P w K mg base "_law_alike" ["_law_found", "_law_due"] 2 (spAl K 2)) :
    FnOk P w K mg base CX0 11 f (PySem.W.fnOf "law" "law" (defArgs sLaw) (defBody sLaw) (defScope sLaw) .none kV doc pm an (.ref cL) ct) ["_law_script"] (spLawT K Pt) := by
  obtain ⟨fRo, fdRo, GRo, kRo, bRo, mRo⟩ := DRo
  obtain ⟨fB, fdB, GB, kB, bB, mB⟩ := DBk
  obtain ⟨fX, fdX, GX, kX, bX, mX⟩ := DX
  obtain ⟨fTu, fdTu, GTu, kTu, bTu, mTu⟩ := DTu
  obtain ⟨fFr, fdFr, GFr, kFr, bFr, mFr⟩ := DFr
  obtain ⟨fId, fdId, GId, kId, bId, mId⟩ := DId
  obtain ⟨fNl, fdNl, GNl, kNl, bNl, mNl⟩ := DNl
  obtain ⟨fUn, fdUn, GUn, kUn, bUn, mUn⟩ := DUn
  obtain ⟨fUs, fdUs, GUs, kUs, bUs, mUs⟩ := DUs
  obtain ⟨fAl, fdAl, GAl, kAl, bAl, mAl⟩ := DAl
  obtain ⟨mv, kb⟩ := wr_kb FWr
  have kWr := FWr.kp
  obtain ⟨cS, mS, _⟩ := id WC.say
  obtain ⟨ocW, odW, kVW, docW, pmW, anW, cdvW, ctW, oslW, eW, lkW, hcW⟩ := FW.ex
  have kW := FW.kp
  have bW : Binds K fdW ["_law_work"] [] := FW.binds fun _ _ _ _ _ _ us hl => match us, hl with | [_], _ => rfl
  subst eW
  refine fn_of lk hcd scLaw (fun vs H Q E h => ?_) (fun A outer s H vs Q E hr h => ?_)
  · obtain ⟨a, ns, rfl, _⟩ := h
    rfl
  · obtain ⟨a, ns, rfl, hSc, hle, hPt, q⟩ := h
    suffices hh : ∃ t, PSs (cxOf CX0 P w K mg base nLaw "law" (defScope sLaw) f (.ref cL) A outer s H E).nox (defBody sLaw) t ∧ t { nx := fun _ H' => Q .non H', rt := Q } (start nLaw [.ref a]) H by
      obtain ⟨t, h1, h2⟩ := hh
      exact ⟨t, h1.nox, h2⟩
    have hr1 : Room 1 _ := hr.mono (by decide)
    have hr2 : Room 2 _ := hr.mono (by decide)
    have hr4 : Room 4 _ := hr.mono (by decide)
    have hr5 : Room 5 _ := hr.mono (by decide)
    have hr7 : Room 7 _ := hr.mono (by decide)
    have hr8 : Room (6 + 2) _ := hr.mono (by decide)
    have hr10 : Room 10 _ := hr
    -- numbers, the least word that is not said, what is not needed
    obtain ⟨tA, psA, qA⟩ : ∃ tA : TS, PS (cxOf CX0 P w K mg base nLaw "law" (defScope sLaw) f (.ref cL) A outer s H E).nox ((defBody sLaw).getD 4 (.Pass ⟨0, 0, 0, 0⟩)) tA ∧
        ∀ (D : Ends) (r b o dn : Addr) (L : List Nat) (rs : List Rule) (es : List Exc) (H9 : Hp), BookOk L rs es → SgB L rs es → S25 K Pt r a b o dn ns L rs es H9 → (∀ H', S25 K Pt r a b o dn ns L rs es H' → D.nx [some (.ref a), some (.ref r), some (.ref b), some (.ref dn), some (.ref o), none, none, none, none, none, none, none, none] H') →
          tA D [some (.ref a), some (.ref r), some (.ref b), some (.ref dn), some (.ref o), none, none, none, none, none, none, none, none] H9 := by
      refine ⟨_, (ps_if (PW.pt (pw_or (pt_cmpR (op_neD hr.units) (pe_call GId hr8 (by rfl) mId kId bId .nil pass0 (pa_cons (pv 4) pa_nil)) (pe_call GId hr8 (by rfl) mId kId bId .nil pass0 (pa_cons (pv 2) pa_nil)) (nomark _)) (pw_or1 (pt_cmpR (op_neD hr.units) (pe_call GFr hr10 (by rfl) mFr kFr bFr .nil pass0 (pa_cons (pv 4) pa_nil)) (pe_call GFr hr10 (by rfl) mFr kFr bFr .nil pass0 (pa_cons (pv 2) pa_nil)) (nomark _))))) (pss_one (ps_ret pe_bl)) pss_nil), ?_⟩
      intro D r b o dn L rs es H9 oB g h0 qn
      have oO := book_tr oB g
      refine ⟨_, rfl, o, _, _, _, rfl, h0.hO, oO, fun D1 H1 s1 n1 e1 => ?_⟩
      have h1 := h0.same s1
      refine ⟨_, rfl, b, L, rs, es, rfl, h1.hB, oB, fun D2 H2 s2 n2 e2 => ?_⟩
      have h2 := h1.same s2
      rw [List.length_map, idle_tr] at e1
      obtain ⟨_, _, ev⟩ := nat_lay (idleL rs L rs.length)
      refine ⟨_, _, .lst (.inl (.inl (s2 _ _ e1))) (dpA_nat _), .lst (.inl (.inl e2)) (dpA_nat _), nat_shaped _, nat_shaped _, _, rfl, ?_⟩
      rw [show PyData.eqv (.list ((idleL rs L rs.length).map nD)) (.list ((idleL rs L rs.length).map nD)) = true from ev]
      refine iteF ?_
      refine ⟨_, rfl, o, _, _, _, rfl, h2.hO, oO, fun D3 H3 s3 n3 e3 => ?_⟩
      have h3 := h2.same s3
      refine ⟨_, rfl, b, L, rs, es, rfl, h3.hB, oB, fun D4 H4 s4 n4 e4 => ?_⟩
      have h4 := h3.same s4
      rw [List.length_map, free_tr] at e3
      obtain ⟨_, _, ev⟩ := nat_lay (freeL rs L (rs.length - 1))
      refine ⟨_, _, .lst (.inl (.inl (s4 _ _ e3))) (dpA_nat _), .lst (.inl (.inl e4)) (dpA_nat _), nat_shaped _, nat_shaped _, _, rfl, ?_⟩
      rw [show PyData.eqv (.list ((freeL rs L (rs.length - 1)).map nD)) (.list ((freeL rs L (rs.length - 1)).map nD)) = true from ev]
      refine iteF ?_
      exact qn H4 h4
    obtain ⟨tB, psB, qB⟩ : ∃ tB : TS, PS (cxOf CX0 P w K mg base nLaw "law" (defScope sLaw) f (.ref cL) A outer s H E).nox ((defBody sLaw).getD 5 (.Pass ⟨0, 0, 0, 0⟩)) tB ∧
        ∀ (D : Ends) (r b o dn : Addr) (L : List Nat) (rs : List Rule) (es : List Exc) (H9 : Hp), BookOk L rs es → SgB L rs es → S25 K Pt r a b o dn ns L rs es H9 → (∀ H', S25 K Pt r a b o dn ns L rs es H' → D.nx [some (.ref a), some (.ref r), some (.ref b), some (.ref dn), some (.ref o), none, none, none, none, none, none, none, none] H') →
          tB D [some (.ref a), some (.ref r), some (.ref b), some (.ref dn), some (.ref o), none, none, none, none, none, none, none, none] H9 := by
      refine ⟨_, (ps_if (pt_not (pt_val (pe_call GAl hr2 (by rfl) mAl kAl bAl .nil pass0 (pa_cons (pe_call GTu hr4 (by rfl) mTu kTu bTu .nil pass0 (pa_cons (pe_call GUn hr8 (by rfl) mUn kUn bUn .nil pass0 (pa_cons (pv 2) pa_nil)) (pa_cons (pv 3) pa_nil))) (pa_cons (pe_call GUn hr8 (by rfl) mUn kUn bUn .nil pass0 (pa_cons (pv 4) pa_nil)) pa_nil))))) (pss_one (ps_ret pe_bl)) pss_nil), ?_⟩
      intro D r b o dn L rs es H9 oB g h0 qn
      have oO := book_tr oB g
      have ab := abcd_lets g.l
      refine ⟨_, rfl, b, L, rs, es, rfl, h0.hB, oB, fun v H1 s1 hv => ?_⟩
      have h1 := h0.same s1
      have lv := lfs_N ab oB.lt.l4 hv
      refine ⟨_, rfl, v, dn, tnV v, rfl, h1.hN, lv.tn 3, fun v' H2 s2 tv => ?_⟩
      have h2 := h1.same s2
      obtain rfl := lv.tr tv
      refine ⟨_, rfl, o, _, _, _, rfl, h2.hO, oO, fun u H3 s3 hu => ?_⟩
      have h3 := h2.same s3
      obtain rfl := uns_tr ab hv hu
      refine ⟨_, _, _, rfl, lv.dp, lv.dp, (few_leaf _).1, (few_leaf _).2, fun H4 s4 => ?_⟩
      refine ⟨_, rfl, ?_⟩
      refine iteF ?_
      exact qn H4 (h3.same s4)
    obtain ⟨tC, psC, qC⟩ : ∃ tC : TS, PS (cxOf CX0 P w K mg base nLaw "law" (defScope sLaw) f (.ref cL) A outer s H E).nox ((defBody sLaw).getD 6 (.Pass ⟨0, 0, 0, 0⟩)) tC ∧
        ∀ (D : Ends) (r b o dn : Addr) (L : List Nat) (rs : List Rule) (es : List Exc) (H9 : Hp), BookOk L rs es → SgB L rs es → S25 K Pt r a b o dn ns L rs es H9 → (∀ H', S25 K Pt r a b o dn ns L rs es H' → D.nx [some (.ref a), some (.ref r), some (.ref b), some (.ref dn), some (.ref o), none, none, none, none, none, none, none, none] H') →
          tC D [some (.ref a), some (.ref r), some (.ref b), some (.ref dn), some (.ref o), none, none, none, none, none, none, none, none] H9 := by
      refine ⟨_, (ps_if (pt_cmpR (op_neD hr.units) (pe_call GNl hr7 (by rfl) mNl kNl bNl .nil pass0 (pa_cons (pv 4) pa_nil)) (pe_lc (own := [("_law_word_here", 7)]) (g := gName 7) (te := tCall (spTu 4) [] E0 (tCons (tVar 7) (tCons (tVar 3) tNil))) rfl scLaw.nd (pi_list (pe_call GNl hr7 (by rfl) mNl kNl bNl .nil pass0 (pa_cons (pv 2) pa_nil))) (blkOk_by (N := nLaw) (sc := defScope sLaw) (by decide +kernel)) (fun _ _ _ _ _ => pg_name (i := 7) scLaw.nd rfl (.inl rfl)) (fun _ _ _ _ _ => pts_nil) (fun _ _ _ _ _ => (pe_call GTu hr4 (by rfl) mTu kTu bTu .nil pass0 (pa_cons (pv 7) (pa_cons (pv 3) pa_nil))))) (nomark _)) (pss_one (ps_ret pe_bl)) pss_nil), ?_⟩
      intro D r b o dn L rs es H9 oB g h0 qn
      have oO := book_tr oB g
      have ab := abcd_lets g.l
      have e8 := oB.e8
      refine ⟨_, rfl, o, _, _, _, rfl, h0.hO, oO, fun D1 H1 s1 n1 e1 => ?_⟩
      have h1 := h0.same s1
      rw [need_tr] at e1
      refine ⟨_, rfl, b, L, rs, es, rfl, h1.hB, oB, fun D2 H2 s2 n2 e2 => ?_⟩
      have h2 := h1.same s2
      have e1 := s2 _ _ e1
      have nl : (needM rs es).length ≤ es.length := List.length_filter_le _ _
      have nok : ∀ e ∈ needM rs es, ExcOk L e := fun e he => oB.ex e (List.mem_filter.mp he).1
      obtain ⟨ws, hws⟩ : ∃ ws : List (List Nat), ws = (needM rs es).map (·.1) := ⟨_, rfl⟩
      have e2 : H2 D2 = some (.lst (ws.map fun x => V.str (T x))) := by
        rw [e2, hws]
        unfold wordsV
        rw [List.map_map]
        rfl
      have e1 : H2 D1 = some (.lst ((ws.map (·.map tr)).map fun x => V.str (T x))) := by
        rw [e1, hws]
        unfold wordsV
        rw [List.map_map, List.map_map, List.map_map]
        rfl
      have wok : ∀ x ∈ ws, (∀ c ∈ x, c ∈ L) ∧ x.length ≤ 8 := fun x hx => by
        rw [hws] at hx
        obtain ⟨e, he, rfl⟩ := List.mem_map.mp hx
        exact ⟨(nok e he).w, (nok e he).w8⟩
      have wl : ws.length ≤ 8 := by rw [hws, List.length_map]; omega
      refine ⟨D2, rfl, ⟨_, .inl (.inl e2)⟩, fun D3 hD3 => ?_⟩
      refine lc_it (walk_list (xs := ws.map fun x => V.str (T x))) (fun i H3 => Same H2 H3 ∧ H3 D3 = some (.lst (((ws.take i).map (·.map tr)).map fun x => V.str (T x)))) ?_ (fun i H3 _ h => .inl (.inl (h.1 _ _ e2))) ?_ ?_
      · exact ⟨same_new hD3 _, upd_same⟩
      · rintro i xv Hz H3 hi ⟨s3, e3⟩ ⟨rfl, hx⟩
        rw [List.getElem?_map] at hx
        obtain ⟨x, hxw, rfl⟩ := Option.map_eq_some_iff.mp hx
        obtain ⟨x1, x2⟩ := wok x (List.mem_of_getElem? hxw)
        refine ⟨rfl, ?_⟩
        refine ⟨_, rfl, _, rfl, .str (T x), dn, .txt x, rfl, s3 _ _ h2.hN, .txt 3 (sg_let ab x1) (by omega), fun v' H4 s4 tv => ?_⟩
        cases tv
        refine ⟨_, s4 _ _ e3, ?_, fun b' o' hb' => ?_, ?_⟩
        · rw [List.length_map, List.length_map, List.length_take]
          exact smallM (by omega)
        · rw [upd_ne (ne_of_none hb' hD3)]
          exact s4 _ _ (s3 _ _ hb')
        · rw [upd_same, List.take_add_one, hxw, List.map_append, List.map_append]
          rfl
      · rintro H3 ⟨s3, e3⟩
        rw [List.length_map, List.take_length] at e3
        have sg : ∀ x ∈ ws.map (·.map tr), ∀ c ∈ x, c < 1114112 := fun x hx c hc => by
          obtain ⟨y, hy, rfl⟩ := List.mem_map.mp hx
          have := (let_tr g.l).az c (tr_over (wok y hy).1 c hc)
          omega
        obtain ⟨_, _, ev⟩ := txt_lay sg
        refine ⟨_, _, .lst (.inl (.inl (s3 _ _ e1))) (dpA_txt _), .lst (.inl (.inl e3)) (dpA_txt _), txt_shaped sg, txt_shaped sg, _, rfl, ?_⟩
        rw [show PyData.eqv (.list ((ws.map (·.map tr)).map wD)) (.list ((ws.map (·.map tr)).map wD)) = true from ev]
        refine iteF ?_
        exact qn H3 (h2.same s3)
    obtain ⟨tD, psD, qD⟩ : ∃ tD : TS, PS (cxOf CX0 P w K mg base nLaw "law" (defScope sLaw) f (.ref cL) A outer s H E).nox ((defBody sLaw).getD 7 (.Pass ⟨0, 0, 0, 0⟩)) tD ∧
        ∀ (D : Ends) (r b o dn : Addr) (L : List Nat) (rs : List Rule) (es : List Exc) (H9 : Hp), BookOk L rs es → SgB L rs es → S25 K Pt r a b o dn ns L rs es H9 → (∀ v5 H', S25 K Pt r a b o dn ns L rs es H' → D.nx [some (.ref a), some (.ref r), some (.ref b), some (.ref dn), some (.ref o), v5, none, none, none, none, none, none, none] H') →
          tD D [some (.ref a), some (.ref r), some (.ref b), some (.ref dn), some (.ref o), none, none, none, none, none, none, none, none] H9 := by
      refine ⟨_, (ps_for PassesOwn.never rfl (pi_range1 (by rfl) B.rng (pa_cons (pe_callB call_len (by rfl) B.len PySem.boot_len (pa_cons (pe_ix ix_tup (pv 2) pe_int (fun _ _ => rfl)) pa_nil)) pa_nil)) (pg_name (i := 5) scLaw.nd rfl (.inl rfl)) (pss_one (ps_if (pt_not (pt_val (pe_call GAl hr2 (by rfl) mAl kAl bAl .nil pass0 (pa_cons (pe_call GUs hr8 (by rfl) mUs kUs bUs .nil pass0 (pa_cons (pv 4) (pa_cons (pv 5) pa_nil))) (pa_cons (pe_call GTu hr4 (by rfl) mTu kTu bTu .nil pass0 (pa_cons (pe_call GUs hr8 (by rfl) mUs kUs bUs .nil pass0 (pa_cons (pv 2) (pa_cons (pv 5) pa_nil))) (pa_cons (pv 3) pa_nil))) pa_nil))))) (pss_one (ps_ret pe_bl)) pss_nil))), ?_⟩
      intro D r b o dn L rs es H9 oB g h0 qn
      have oO := book_tr oB g
      have ab := abcd_lets g.l
      have r12 := oB.r12
      obtain ⟨R, X, hb, ⟨rts, hR, pR⟩, _⟩ := id h0.hB
      have rl : (rts.map V.ref).length = rs.length := by rw [List.length_map, paired_len pR]
      refine ⟨_, rfl, b, _, 1, .ref R, rfl, rfl, .inl (.inl hb), atI_nat (j := 1) rfl, _, _, rfl, .inr ⟨_, .inl (.inl hR), rfl⟩, _, rfl, by omega, by rw [rl]; omega, ?_⟩
      rw [rl]
      refine for_it (walk_range) (fun i σ H1 => ∃ v5 : Option V, σ = [some (.ref a), some (.ref r), some (.ref b), some (.ref dn), some (.ref o), v5, none, none, none, none, none, none, none] ∧ S25 K Pt r a b o dn ns L rs es H1) ⟨_, rfl, h0⟩ (fun _ _ _ _ _ => trivial) ?_ ?_
      · rintro i xv σ Hz H1 hi ⟨v5, rfl, h1⟩ ⟨rfl, rfl⟩
        have hi : i < rs.length := by omega
        dsimp only
        rw [Int.zero_add]
        refine ⟨_, rfl, _, rfl, o, _, _, _, i, rfl, h1.hO, oO, by rw [List.length_map]; exact hi, fun u H2 s2 hu => ?_⟩
        have h2 := h1.same s2
        refine ⟨_, rfl, _, rfl, b, L, rs, es, i, rfl, h2.hB, oB, hi, fun v H3 s3 hv => ?_⟩
        have h3 := h2.same s3
        have lv := lfs_U ab oB.lt.l4 hv
        obtain rfl := use_tr ab hv hu
        refine ⟨_, rfl, v, dn, tnV v, rfl, h3.hN, lv.tn 3, fun v' H4 s4 tv => ?_⟩
        obtain rfl := lv.tr tv
        refine ⟨_, _, _, rfl, lv.dp, lv.dp, (few_leaf _).1, (few_leaf _).2, fun H5 s5 => ?_⟩
        refine ⟨_, rfl, ?_⟩
        refine iteF ?_
        exact ⟨_, rfl, (h3.same s4).same s5⟩
      · rintro σ H1 ⟨v5, rfl, h1⟩
        exact qn _ _ h1
    -- a word
    obtain ⟨tE, psE, qE⟩ : ∃ tE : TS, PSs (cxOf CX0 P w K mg base nLaw "law" (defScope sLaw) f (.ref cL) A outer s H E).nox bdT tE ∧
        ∀ (D : Ends) (r b o dn : Addr) (L : List Nat) (rs : List Rule) (es : List Exc) (v5 v6 v7 v8 v9 v10 v11 : Option V) (H9 : Hp), BookOk L rs es → SgB L rs es → S25 K Pt r a b o dn ns L rs es H9 → (∀ (v7 v8 v9 v10 v11 : Option V) (H' : Hp), S25 K Pt r a b o dn ns L rs es H' → D.nx [some (.ref a), some (.ref r), some (.ref b), some (.ref dn), some (.ref o), v5, v6, v7, v8, v9, v10, v11, none] H') →
          tE D [some (.ref a), some (.ref r), some (.ref b), some (.ref dn), some (.ref o), v5, v6, v7, v8, v9, v10, v11, none] H9 := by
      refine ⟨_, pss_cons (ps_set (i := 7) scLaw.nd rfl (.inr rfl) (pe_call GX hr2 (by rfl) mX kX bX .nil pass0 (pa_cons (pv 1) (pa_cons (pe_ix ix_tup (pv 2) pe_int (fun _ _ => rfl)) (pa_cons pe_int (pa_cons pe_int pa_nil)))))) (pss_cons (ps_set (i := 8) scLaw.nd rfl (.inr rfl) (pe_call GTu hr4 (by rfl) mTu kTu bTu .nil pass0 (pa_cons (pv 7) (pa_cons (pv 3) pa_nil)))) (pss_cons (ps_par (i := 9) (j := 10) (by rfl) scLaw.nd rfl rfl (by decide) rfl rfl (pa_cons (LamX.pe_lamcall (T := [(Pt, qLam)]) (k := 6) (t := fun E => tCall (spSaidR CU) [] E (tCons (tVar 2) (tCons (tVar 7) tNil))) (by rfl) mW kW lkW hcW bW scLWo rfl (by exact .inl rfl) (word_gives B mS) TB rfl (List.mem_singleton.mpr rfl) (fun p hp _ => by rw [List.mem_singleton.mp hp]; rfl) hr8 (LamX.lamS_by (by show LamX.lamSB (defScope sLaw) _ = true; decide +kernel)) rfl (fun _ _ _ _ _ => rfl)
            (fun A' outer' s' H' E' f' c' hr' => pe_call (E := E') GSd hr' (by rfl) mSd kSd bSd .nil (passes_call (W := fun cls d _ H => E' cls d H) (takes_of rfl rfl rfl rfl) (fun _ _ _ _ h => h)) (pa_cons (pv 2) (pa_cons (pv 7) pa_nil)))) (pa_cons (LamD.pe_lamcall (Ts := [(Pt, qLam)]) (a := "_law_a") (z := 0) (k := 6) (t := fun E => tCall (spSaidR CU) [] E (tCons (tVar 4) (tCons (tVar 8) tNil))) (by rfl) mW kW lkW hcW bW scLWo rfl (by exact .inl rfl) (word_gives B mS) TB rfl (List.mem_singleton.mpr rfl) (fun p hp _ => by rw [List.mem_singleton.mp hp]; rfl) hr8 (LamD.par_by (by show LamD.parB nLaw (defScope sLaw) _ _ = true; decide +kernel)) rfl rfl pe_int (fun _ _ _ _ _ _ _ _ _ hD => BindsTo.of_defaults rfl hD rfl rfl rfl)
            (fun A' outer' s' H' E' f' c' hr' => pe_call (E := E') GSd hr' (by rfl) mSd kSd bSd .nil (passes_call (W := fun cls d _ H => E' cls d H) (takes_of rfl rfl rfl rfl) (fun _ _ _ _ h => h)) (pa_cons (pv 4) (pa_cons (pv 8) pa_nil)))) pa_nil)) (by rfl)) (pss_cons (ps_if (pt_not (pt_val (pe_call GAl hr2 (by rfl) mAl kAl bAl .nil pass0 (pa_cons (pv 10) (pa_cons (pe_tup (pa_cons (pe_ix ix_tup (pv 9) pe_int (fun _ _ => rfl)) (pa_cons (pe_call GTu hr4 (by rfl) mTu kTu bTu .nil pass0 (pa_cons (pe_ix ix_tup (pv 9) pe_int (fun _ _ => rfl)) (pa_cons (pv 3) pa_nil))) pa_nil))) pa_nil))))) (pss_one (ps_ret pe_bl)) pss_nil) (pss_cons (ps_if (pt_cmpR (op_neD hr.units) (LamX.pe_lamcall (T := [(Pt, qLam)]) (k := 6) (t := fun E => tCall (spWalkR CU) [] E (tCons (tVar 2) (tCons (tVar 7) tNil))) (by rfl) mW kW lkW hcW bW scLWo rfl (by exact .inl rfl) (word_gives B mS) TB rfl (List.mem_singleton.mpr rfl) (fun p hp _ => by rw [List.mem_singleton.mp hp]; rfl) hr8 (LamX.lamS_by (by show LamX.lamSB (defScope sLaw) _ = true; decide +kernel)) rfl (fun _ _ _ _ _ => rfl)
            (fun A' outer' s' H' E' f' c' hr' => pe_call (E := E') GWk hr' (by rfl) mWk kWk bWk .nil (passes_call (W := fun cls d _ H => E' cls d H) (takes_of rfl rfl rfl rfl) (fun _ _ _ _ h => h)) (pa_cons (pv 2) (pa_cons (pv 7) pa_nil)))) (LamD.pe_lamcall (Ts := [(Pt, qLam)]) (a := "_law_a") (z := 0) (k := 6) (t := fun E => tCall (spWalkR CU) [] E (tCons (tVar 4) (tCons (tVar 8) tNil))) (by rfl) mW kW lkW hcW bW scLWo rfl (by exact .inl rfl) (word_gives B mS) TB rfl (List.mem_singleton.mpr rfl) (fun p hp _ => by rw [List.mem_singleton.mp hp]; rfl) hr8 (LamD.par_by (by show LamD.parB nLaw (defScope sLaw) _ _ = true; decide +kernel)) rfl rfl pe_int (fun _ _ _ _ _ _ _ _ _ hD => BindsTo.of_defaults rfl hD rfl rfl rfl)
            (fun A' outer' s' H' E' f' c' hr' => pe_call (E := E') GWk hr' (by rfl) mWk kWk bWk .nil (passes_call (W := fun cls d _ H => E' cls d H) (takes_of rfl rfl rfl rfl) (fun _ _ _ _ h => h)) (pa_cons (pv 4) (pa_cons (pv 8) pa_nil)))) (nomark _)) (pss_one (ps_ret pe_bl)) pss_nil) (pss_one (ps_if (pt_cmpR op_eq (pe_ix ix_tup (pv 9) pe_int (fun _ _ => rfl)) pe_str (nomark _)) (pss_cons (ps_setLc (i := 11) (own := [("_law_one", 12)]) (g := gName 12) (te := tCall (spTu 4) [] E0 (tCons (tVar 12) (tCons (tVar 3) tNil))) rfl scLaw.nd rfl rfl (sw_true rfl rfl rfl (by decide +kernel)) (pi_list (pe_callN GWr hr7 (by rfl) mWr kWr kb pass0 (pa_cons (pv 2) (pa_cons (pe_ix ix_tup (pv 9) pe_int (fun _ _ => rfl)) pa_nil)) (pk_cons pe_int pk_nil))) (blkOk_by (N := nLaw) (sc := defScope sLaw) (by decide +kernel)) (fun _ _ _ _ _ => pg_name (i := 12) scLaw.nd rfl (.inl rfl)) (fun _ _ _ _ _ => pts_nil) (fun _ _ _ _ _ => (pe_call GTu hr4 (by rfl) mTu kTu bTu .nil pass0 (pa_cons (pv 12) (pa_cons (pv 3) pa_nil))))) (pss_one (ps_if (pt_not (pt_val (pe_call GAl hr2 (by rfl) mAl kAl bAl .nil pass0 (pa_cons (pe_callN GWr hr7 (by rfl) mWr kWr kb pass0 (pa_cons (pv 4) (pa_cons (pe_ix ix_tup (pv 10) pe_int (fun _ _ => rfl)) pa_nil)) (pk_cons pe_int pk_nil)) (pa_cons (pv 11) pa_nil))))) (pss_one (ps_ret pe_bl)) pss_nil))) pss_nil)))))), ?_⟩
      intro D r b o dn L rs es v5 v6 v7 v8 v9 v10 v11 H9 oB g h0 qn
      have oO := book_tr oB g
      have ab := abcd_lets g.l
      have l2' := oB.lt.l2
      have l4' := oB.lt.l4
      obtain ⟨R, X, hb, _, _⟩ := id h0.hB
      refine ⟨_, rfl, _, rfl, b, _, 0, .str (T L), rfl, rfl, .inl (.inl hb), atI_nat (j := 0) rfl, r, a, ns, L, 0, 8, rfl, h0.Rw, by omega, by omega, by decide, by decide, fun wd H1 w1 w2 w3 s1 R1 => ?_⟩
      have h1 := h0.stp s1 R1
      simp only [List.set_cons_succ, List.set_cons_zero]
      refine ⟨_, rfl, _, rfl, .str (T wd), dn, .txt wd, rfl, h1.hN, .txt 3 (sg_let ab w1) (by omega), fun v' H2 s2 tv => ?_⟩
      cases tv
      have h2 := h1.same s2
      simp only [List.set_cons_succ, List.set_cons_zero]
      -- both told
      refine ⟨h2.Tb, fun H3 e3 T3 => ?_⟩
      have h3 := h2.extN e3 T3
      refine said_at (i := 2) (j := 7) WC rfl rfl h3.hB oB w1 (by omega) fun t H4 s4 ht => ?_
      have h4 := h3.same s4
      refine ⟨h4.Tb, fun H5 e5 T5 => ?_⟩
      have h5 := h4.extN e5 T5
      have ht := e5 _ _ ht (fun ps z => by cases z)
      refine said_at (i := 4) (j := 8) WC rfl rfl h5.hO oO (tr_over w1) (by rw [List.length_map]; omega) fun t2 H6 s6 ht2 => ?_
      have h6 := h5.same s6
      have ht := s6 _ _ ht
      obtain ⟨u, z, ev, ev2, lz, cs⟩ := saidV_tr oB g w3
      rw [ev] at ht
      rw [ev2] at ht2
      refine ⟨_, _, rfl, ?_⟩
      simp only [List.set_cons_succ, List.set_cons_zero]
      refine ⟨_, rfl, _, rfl, t, _, 0, .str u, rfl, rfl, .inl (.inl ht), atI_nat (j := 0) rfl, ?_⟩
      refine ⟨_, rfl, t, _, 1, z, rfl, rfl, .inl (.inl ht), atI_nat (j := 1) rfl, _, rfl, z, dn, tnV z, rfl, h6.hN, lz.tn 3, fun z' H7 s7 tz => ?_⟩
      obtain rfl := lz.tr tz
      have h7 := h6.same s7
      refine ⟨(by show 2 ≤ sizeLine; decide), fun p hp => ?_⟩
      have s8 := same_new hp (.tup [.str u, trV z])
      have h8 := h7.same s8
      have s78 := s7.trans s8
      have ht := s78 _ _ ht
      have ht2 := s78 _ _ ht2
      have hp8 : (upd H7 p (.tup [.str u, trV z])) p = some (.tup [.str u, trV z]) := upd_same
      generalize upd H7 p (.tup [.str u, trV z]) = H8 at h8 ht ht2 hp8 ⊢
      obtain ⟨f1, f2⟩ := few_two (.str u) (few_leaf (trV z)).1 rfl (dep_leaf (trV z))
      refine ⟨.ref t2, .ref p, .tuple [.str u, leafD (trV z)], rfl, .tup (.inl (.inl ht2)) (.cons (.str _) (.cons lz.dp .nil)), .tup (.inl (.inl hp8)) (.cons (.str _) (.cons lz.dp .nil)), f1, f2, fun H9' s9 => ?_⟩
      have h9 := h8.same s9
      have ht := s9 _ _ ht
      have ht2 := s9 _ _ ht2
      refine ⟨_, rfl, ?_⟩
      refine iteF ?_
      -- walked
      refine ⟨h9.Tb, fun H10 e10 T10 => ?_⟩
      have h10 := h9.extN e10 T10
      have ht := e10 _ _ ht (fun ps z => by cases z)
      have ht2 := e10 _ _ ht2 (fun ps z => by cases z)
      refine walk_at (i := 2) (j := 7) WC rfl rfl h10.hB oB w1 (by omega) fun t3 H11 s11 ht3 => ?_
      have h11 := h10.same s11
      have ht := s11 _ _ ht
      have ht2 := s11 _ _ ht2
      refine ⟨h11.Tb, fun H12 e12 T12 => ?_⟩
      have h12 := h11.extN e12 T12
      have ht := e12 _ _ ht (fun ps z => by cases z)
      have ht2 := e12 _ _ ht2 (fun ps z => by cases z)
      have ht3 := ht3.extN e12
      refine walk_at (i := 4) (j := 8) WC rfl rfl h12.hO oO (tr_over w1) (by rw [List.length_map]; omega) fun t4 H13 s13 ht4 => ?_
      have h13 := h12.same s13
      have ht := s13 _ _ ht
      have ht2 := s13 _ _ ht2
      have ht3 := ht3.same s13
      rw [W_tr] at ht4
      obtain ⟨d, sh, dv, dp⟩ := lw_data (W rs wd)
      refine ⟨d, d, dp _ _ _ ht3, dp _ _ _ ht4, sh, sh, _, rfl, ?_⟩
      rw [dv]
      refine iteF ?_
      refine ⟨_, rfl, t, _, 0, .str u, rfl, rfl, .inl (.inl ht), atI_nat (j := 0) rfl, rfl, _, rfl, ?_⟩
      rcases cs with ⟨rfl, so, rfl, so1, so2⟩ | cu
      · rw [show decide (V.str (T []) = V.str (Str.ofString "")) = true from by decide +kernel]
        refine iteT ?_
        have caps : ∀ c ∈ so, 65 ≤ c ∧ c ≤ 90 := fun c hc => by have := so1 c hc; omega
        refine ⟨_, rfl, _, rfl, t, _, 1, .str (T so), rfl, rfl, .inl (.inl ht), atI_nat (j := 1) rfl, rfl, rfl, b, L, rs, es, so, 4, rfl, h13.hB, oB, caps, so2, by decide, fun D1 H14 s14 n14 e14 => ?_⟩
        have h14 := h13.same s14
        have ht2 := s14 _ _ ht2
        have wl := writ4 (rs := rs) (es := es) (so := so) l4'
        have wok : ∀ x ∈ writM rs es so L 4, x.length ≤ 4 ∧ ∀ c ∈ x, c ∈ L := fun x hx => by
          unfold writM at hx
          exact mem_upto.mp (List.mem_filter.mp hx).1
        have wtr := writ_tr rs es so L 4
        generalize writM rs es so L 4 = ws at e14 wl wok wtr
        unfold wv at e14
        refine ⟨D1, rfl, ⟨_, .inl (.inl e14)⟩, fun D3 hD3 => ?_⟩
        refine lc_it (walk_list (xs := ws.map fun x => V.str (T x))) (fun i H3 => Same H14 H3 ∧ H3 D3 = some (.lst (((ws.take i).map (·.map tr)).map fun x => V.str (T x)))) ?_ (fun i H3 _ h => .inl (.inl (h.1 _ _ e14))) ?_ ?_
        · exact ⟨same_new hD3 _, upd_same⟩
        · rintro i xv Hz H3 hi ⟨s3, e3⟩ ⟨rfl, hx⟩
          rw [List.getElem?_map] at hx
          obtain ⟨x, hxw, rfl⟩ := Option.map_eq_some_iff.mp hx
          obtain ⟨x1, x2⟩ := wok x (List.mem_of_getElem? hxw)
          refine ⟨rfl, ?_⟩
          refine ⟨_, rfl, _, rfl, .str (T x), dn, .txt x, rfl, s3 _ _ h14.hN, .txt 3 (sg_let ab x2) (by omega), fun v' H4 s4 tv => ?_⟩
          cases tv
          refine ⟨_, s4 _ _ e3, ?_, fun b' o' hb' => ?_, ?_⟩
          · rw [List.length_map, List.length_map, List.length_take]
            exact smallM (by omega)
          · rw [upd_ne (ne_of_none hb' hD3)]
            exact s4 _ _ (s3 _ _ hb')
          · rw [upd_same, List.take_add_one, hxw, List.map_append, List.map_append]
            rfl
        rintro H15 ⟨s15, e15⟩
        rw [List.length_map, List.take_length] at e15
        have h15 := h14.same s15
        have ht2 := s15 _ _ ht2
        simp only [List.set_cons_succ, List.set_cons_zero]
        have so1' : ∀ c ∈ so.map tr, 65 ≤ c ∧ c ≤ 90 := fun c hc => by
          obtain ⟨d, hd, rfl⟩ := List.mem_map.mp hc
          exact so_tr (so1 d hd)
        refine ⟨_, rfl, _, rfl, t2, _, 1, .str (T (so.map tr)), rfl, rfl, .inl (.inl ht2), atI_nat (j := 1) rfl, rfl, rfl, o, _, _, _, so.map tr, 4, rfl, h15.hO, oO, so1', by rw [List.length_map]; exact so2, by decide, fun D4 H16 s16 n16 e16 => ?_⟩
        have h16 := h15.same s16
        have e15 := s16 _ _ e15
        rw [wtr] at e16
        unfold wv at e16
        obtain ⟨f1, f2⟩ := few_txt (ws.map (·.map tr)) (by rw [List.length_map]; omega)
        refine ⟨_, rfl, .ref D4, .ref D3, .list ((ws.map (·.map tr)).map wD), rfl, .lst (.inl (.inl e16)) (dpA_txt _), .lst (.inl (.inl e15)) (dpA_txt _), f1, f2, fun H17 s17 => ?_⟩
        refine ⟨_, rfl, ?_⟩
        refine iteF ?_
        exact qn _ _ _ _ _ _ (h16.same s17)
      · rw [cu]
        refine iteF ?_
        exact qn _ _ _ _ _ _ h13
    refine ⟨_, pss_cons (ps_set (i := 1) scLaw.nd rfl (.inl rfl) (pe_call GRo hr1 (by rfl) mRo kRo bRo .nil pass0 (pa_cons (pv 0) pa_nil))) (pss_cons (ps_set (i := 2) scLaw.nd rfl (.inr rfl) (pe_call GB hr5 (by rfl) mB kB bB .nil pass0 (pa_cons (pv 1) pa_nil))) (pss_cons (ps_set (i := 3) scLaw.nd rfl (.inr rfl) (pe_disp (pps_cons pe_str pe_str (pps_cons pe_str pe_str (pps_cons pe_str pe_str (pps_cons pe_str pe_str (pps_cons pe_str pe_str (pps_cons pe_str pe_str (pps_cons pe_str pe_str (pps_cons pe_str pe_str pps_nil)))))))) (by rfl) (by rfl) (fun z => by cases z) (by decide))) (pss_cons (ps_set (i := 4) scLaw.nd rfl (.inr rfl) (pe_call GTu hr4 (by rfl) mTu kTu bTu .nil pass0 (pa_cons (pv 2) (pa_cons (pv 3) pa_nil)))) (pss_cons psA (pss_cons psB (pss_cons psC (pss_cons psD (pss_cons (ps_for PassesOwn.never rfl (pi_range1 (by rfl) B.rng (pa_cons pe_int pa_nil)) (pg_name (i := 6) scLaw.nd rfl (.inl rfl)) psE) (pss_one (ps_ret pe_bl)))))))))), ?_⟩
    refine ⟨_, rfl, a, ns, rfl, hSc, hle, fun r H1 hr0 s1 R1 => ?_⟩
    have T1 : LamX.Tabs [(Pt, qLam)] H1 := fun p hp => by
      rw [List.mem_singleton.mp hp]
      exact LamX.TabS.nil (s1 _ _ hPt)
    refine ⟨_, rfl, r, a, ns, rfl, R1, fun b L rs es H2 oB gg hB2 s2 R2 => ?_⟩
    obtain ⟨g, g10⟩ := gg
    have T2 := tabs_stp T1 R1.in s2
    intro dn hdn
    refine ⟨upd_same, namesL, rfl, by decide, ?_⟩
    have s3 : Same H2 (upd (upd H2 dn (.dK [])) dn (.dK (mergeK [] namesL))) := fun b' o' hb' => by
      rw [upd_ne (ne_of_none hb' hdn), upd_ne (ne_of_none hb' hdn)]
      exact hb'
    have hN3 : (upd (upd H2 dn (.dK [])) dn (.dK (mergeK [] namesL))) dn = some (.dK namesK) := upd_same
    have R3 := R2.stp s3
    have T3 := T2.ext s3
    have hB3 := hB2.kt (.of s3)
    generalize upd (upd H2 dn (.dK [])) dn (.dK (mergeK [] namesL)) = H3 at hN3 R3 T3 hB3 ⊢
    simp only [L2.start, List.map_cons, List.map_nil, List.length_cons, List.length_nil, List.append, List.set_cons_succ, List.set_cons_zero]
    refine ⟨_, rfl, _, rfl, .ref b, dn, bookTn L rs es, rfl, hN3, book_tn hB3 oB g, fun v H4 s4 tv => ?_⟩
    obtain ⟨o, rfl, hO⟩ := tr_book tv
    have h4 : S25 K Pt r a b o dn ns L rs es H4 := ⟨R3.stp s4, T3.ext s4, hB3.kt (.of s4), hO, s4 _ _ hN3⟩
    refine qA _ r b o dn L rs es H4 oB g h4 fun H5 h5 => ?_
    refine qB _ r b o dn L rs es H5 oB g h5 fun H6 h6 => ?_
    refine qC _ r b o dn L rs es H6 oB g h6 fun H7 h7 => ?_
    refine qD _ r b o dn L rs es H7 oB g h7 fun v5 H8 h8 => ?_
    refine ⟨6, rfl, by decide, by decide, for_it (walk_range) (fun i σ H9 => S25 K Pt r a b o dn ns L rs es H9 ∧ ∃ v5 v6 v7 v8 v9 v10 v11, σ = [some (.ref a), some (.ref r), some (.ref b), some (.ref dn), some (.ref o), v5, v6, v7, v8, v9, v10, v11, none]) ⟨h8, _, _, _, _, _, _, _, rfl⟩ (fun _ _ _ _ _ => trivial) ?_ ?_⟩
    · rintro i xv σ Hz H9 hi ⟨h9, v5, v6, v7, v8, v9, v10, v11, rfl⟩ ⟨rfl, rfl⟩
      refine qE _ r b o dn L rs es _ _ _ _ _ _ _ H9 oB g h9 fun v7 v8 v9 v10 v11 H10 h10 => ⟨h10, _, _, _, _, _, _, _, rfl⟩
    · rintro σ H9 ⟨h9, v5, v6, v7, v8, v9, v10, v11, rfl⟩
      exact q _
end
end Say
namespace Say
open PySem PySem.Spec PyProof.Rows L2
/-- a def as the top has left it -/
structure Std (K : PySem.W.Frag) (x : Str) (st : Stmt) (f : Addr) : Prop where
  ns : PySem.W.nsIn K mainGlobals x = some (some (.ref f))
  fn : ∃ fd, Fun K x x st f fd ∧ ∃ kV dc pm an cd ct, fd = PySem.W.fnOf x x (defArgs st) (defBody st) (defScope st) .none kV dc pm an cd ct
theorem std_mk {K : PySem.W.Frag} {x : Str} {st : Stmt} {f : Addr} {oc : Value} {od an : Option Addr} {osl : Array (Option Value)} {kV dc pm cd ct : Value} (a : PySem.W.nsIn K mainGlobals x = some (some (.ref f))) (l : K.lookup f = some ⟨oc, od, .func (PySem.W.fnOf x x (defArgs st) (defBody st) (defScope st) .none kV dc pm an cd ct), osl⟩) (c : PySem.W.codeIn K cd x = true) (k : PySem.W.keepIn K (.ref f) = true) : Std K x st f :=
  ⟨a, _, fun_mk l c k, kV, dc, pm, an, cd, ct, rfl⟩
structure StdD (K : PySem.W.Frag) (x : Str) (st : Stmt) (f : Addr) : Prop where
  ns : PySem.W.nsIn K mainGlobals x = some (some (.ref f))
  fn : ∃ fd, FunD K x x (defArgs st) (defBody st) (defScope st) [] [("long", .int 5)] f fd
theorem stdD_mk {K : PySem.W.Frag} {x : Str} {st : Stmt} {f D : Addr} {oc : Value} {od an : Option Addr} {osl : Array (Option Value)} {dc pm cd ct : Value} {t : Tok} (a : PySem.W.nsIn K mainGlobals x = some (some (.ref f))) (l : K.lookup f = some ⟨oc, od, .func (PySem.W.fnOf x x (defArgs st) (defBody st) (defScope st) .none (.ref D) dc pm an cd ct), osl⟩) (c : PySem.W.codeIn K cd x = true) (k : PySem.W.keepIn K (.ref f) = true) (d : PySem.W.nsIn K D "long" = some (some (.int 5 t))) : StdD K x st f :=
  ⟨a, _, ⟨⟨_, _, _, _, _, _, _, _, _, _, rfl, l, c, .inl ⟨rfl, rfl⟩, .inr ⟨D, rfl, fun q hq => by rw [List.mem_singleton.mp hq]; exact ⟨_, d, ⟨_, rfl⟩⟩⟩⟩, k⟩⟩
/-- a method as the top has left it -/
structure MStd (K : PySem.W.Frag) (C : Addr) (x q : Str) (st : Stmt) (f : Addr) : Prop where
  me : Meth K C x f
  fn : ∃ fd, Fun K x q st f fd ∧ ∃ kV dc pm an cd ct, fd = PySem.W.fnOf x q (defArgs st) (defBody st) (defScope st) .none kV dc pm an cd ct
theorem mstd_mk {K : PySem.W.Frag} {C : Addr} {x q : Str} {st : Stmt} {f : Addr} {oc : Value} {od an : Option Addr} {osl : Array (Option Value)} {kV dc pm cd ct : Value} (a : PySem.W.findIn K (.ref C) x = some (some (.ref f))) (i : PySem.W.isFn K (.ref f) = true) (l : K.lookup f = some ⟨oc, od, .func (PySem.W.fnOf x q (defArgs st) (defBody st) (defScope st) .none kV dc pm an cd ct), osl⟩) (c : PySem.W.codeIn K cd q = true) (k : PySem.W.keepIn K (.ref f) = true) : MStd K C x q st f :=
  ⟨⟨a, i, k⟩, _, fun_mk l c k, kV, dc, pm, an, cd, ct, rfl⟩
theorem all_ok {l : PySem.W.OpenLaw} {w : World} {K : PySem.W.Frag} {h : Heap} {mg : Str → Option Value} {fa f39 f40 f35 f34 f37 f38 f36 f29 f32 f30 f31 f28 f33 f41 f46 f47 f48 f49 f58 f56 f53 f54 f50 f51 f52 f57 f64 f63 f62 f70 f71 f72 f69 f77 f78 f79 f82 f80 f81 f84 f85 f86 f87 f88 f89 f90 f91 f92 f93 f94 f95 f96 xSayError xBadBook xBadWord xBadSounds xBadCount xUnsaid xNoLetter xNoException xOtherLetters xBadSamples xBadDeed xHalted xBadText yUseHunt gIn gHS gHA gHF yUnsaidHunt gNI gNS gNA gNF yPartedHunt gPI gPS gPL gPE gPA gPF fI cdI ccI N_ Pt cL aEv aUn : Addr} {t_small t_caps t_edge t_mrul t_lexc t_lrs t_lso t_imost_exceptions t_ilongest_word t_iown t_isounds t_isettling t_ilong t_ilongest_writing t_ileads : Tok} {tfI : Tok} {nm q flI : Str} {bs sub : List Value} {sn : List Str} {ab : Bool} {col : Option Bool} {dd odI anI cldI cddI : Option Addr} {m0 m1 m2 m3 m5 : Option Value} {oI dcI pmI ctI clI cclI : Value} {slI cslI ccsI : Array (Option Value)} {vsI : Array Value} {lt18 lt7 lt10 : Tok} {li7 li10 : Int} {lb9 : Bool} {lf18 : Str} {cddL odL anL : Option Addr} {oL kVL dcL pmL ctL : Value} {cslL slL : Array (Option Value)} {vsL : Array Value} {evd uvd : Option Addr} {evi uvi : Array Value} {evn uvn : Nat} {evs uvs : Array (Option Value)}
    (X : K.In h) (G : h.Ns mainGlobals mg) (hfa : mg "law" = some (.ref fa)) (OT : LamX.OwnTab K fa h)
    (S39 : Std K "is_text" (topS 39) f39)
    (S40 : Std K "is_rising" (topS 40) f40)
    (S35 : Std K "is_beside" (topS 35) f35)
    (S34 : Std K "is_rule" (topS 34) f34)
    (S37 : Std K "is_excepted" (topS 37) f37)
    (S38 : Std K "is_sounds" (topS 38) f38)
    (S36 : Std K "is_exception" (topS 36) f36)
    (S29 : Std K "check_letters" (topS 29) f29)
    (S32 : Std K "check_word" (topS 32) f32)
    (S30 : Std K "check_rules" (topS 30) f30)
    (S31 : Std K "check_exceptions" (topS 31) f31)
    (S28 : Std K "checked_book" (topS 28) f28)
    (S33 : Std K "check_sounds" (topS 33) f33)
    (S41 : Std K "is_count" (topS 41) f41)
    (S46 : Std K "fits" (topS 46) f46)
    (S47 : Std K "first_fit" (topS 47) f47)
    (S48 : Std K "steps_of" (topS 48) f48)
    (S49 : Std K "taken" (topS 49) f49)
    (S58 : Std K "walked" (topS 58) f58)
    (S56 : Std K "walk" (topS 56) f56)
    (S53 : Std K "numbers_of" (topS 53) f53)
    (S54 : Std K "sounds_of" (topS 54) f54)
    (S50 : Std K "ending" (topS 50) f50)
    (S51 : Std K "ending_sounds" (topS 51) f51)
    (S52 : Std K "word_sounds" (topS 52) f52)
    (S57 : Std K "said" (topS 57) f57)
    (S64 : Std K "longer_beginnings" (topS 64) f64)
    (S63 : Std K "ruled_writings" (topS 63) f63)
    (S62 : StdD K "writings" (topS 62) f62)
    (S70 : Std K "keep" (topS 70) f70)
    (S71 : Std K "lead_of" (topS 71) f71)
    (S72 : Std K "stems_of" (topS 72) f72)
    (S69 : Std K "least_word" (topS 69) f69)
    (S77 : Std K "use" (topS 77) f77)
    (S78 : Std K "unsaid" (topS 78) f78)
    (S79 : Std K "idle" (topS 79) f79)
    (S82 : Std K "swapped" (topS 82) f82)
    (S80 : Std K "free" (topS 80) f80)
    (S81 : Std K "needless" (topS 81) f81)
    (S84 : Std K "_law_row" (topS 84) f84)
    (S85 : Std K "_law_taken" (topS 85) f85)
    (S86 : Std K "_law_letters" (topS 86) f86)
    (S87 : Std K "_law_side" (topS 87) f87)
    (S88 : Std K "_law_text" (topS 88) f88)
    (S89 : Std K "_law_rule" (topS 89) f89)
    (S90 : Std K "_law_rules" (topS 90) f90)
    (S91 : Std K "_law_exceptions" (topS 91) f91)
    (S92 : Std K "_law_book" (topS 92) f92)
    (S93 : Std K "_law_turned" (topS 93) f93)
    (S94 : Std K "_law_alike" (topS 94) f94)
    (S95 : Std K "_law_word" (topS 95) f95)
    (MIn : MStd K yUseHunt "__init__" "UseHunt.__init__" (sUH 0) gIn)
    (MHS : MStd K yUseHunt "start" "UseHunt.start" (sUH 1) gHS)
    (MHA : MStd K yUseHunt "after" "UseHunt.after" (sUH 2) gHA)
    (MHF : MStd K yUseHunt "is_found" "UseHunt.is_found" (sUH 3) gHF)
    (MNI : MStd K yUnsaidHunt "__init__" "UnsaidHunt.__init__" (sUHN 0) gNI)
    (MNS : MStd K yUnsaidHunt "start" "UnsaidHunt.start" (sUHN 1) gNS)
    (MNA : MStd K yUnsaidHunt "after" "UnsaidHunt.after" (sUHN 2) gNA)
    (MNF : MStd K yUnsaidHunt "is_found" "UnsaidHunt.is_found" (sUHN 3) gNF)
    (MPI : MStd K yPartedHunt "__init__" "PartedHunt.__init__" (sPH 0) gPI)
    (MPS : MStd K yPartedHunt "start" "PartedHunt.start" (sPH 1) gPS)
    (MPL : MStd K yPartedHunt "_longer_stem" "PartedHunt._longer_stem" (sPH 4) gPL)
    (MPE : MStd K yPartedHunt "_is_exception_parted" "PartedHunt._is_exception_parted" (sPH 5) gPE)
    (MPA : MStd K yPartedHunt "after" "PartedHunt.after" (sPH 2) gPA)
    (MPF : MStd K yPartedHunt "is_found" "PartedHunt.is_found" (sPH 3) gPF)
    (a_law : PySem.W.nsIn K mainGlobals "law" = some (some (.ref f96)))
    (l_law : K.lookup f96 = some ⟨oL, odL, .func (PySem.W.fnOf "law" "law" (defArgs (topS 96)) (defBody (topS 96)) (defScope (topS 96)) .none kVL dcL pmL anL (.ref cL) ctL), slL⟩)
    (c_law : PySem.W.codeIn K (.ref cL) "law" = true)
    (k_law : PySem.W.keepIn K (.ref f96) = true)
    (z_len : PySem.W.nsIn K mainGlobals "len" = some none)
    (z_range : PySem.W.nsIn K mainGlobals "range" = some none)
    (z_tuple : PySem.W.nsIn K mainGlobals "tuple" = some none)
    (z_list : PySem.W.nsIn K mainGlobals "list" = some none)
    (z_isinstance : PySem.W.nsIn K mainGlobals "isinstance" = some none)
    (z_str : PySem.W.nsIn K mainGlobals "str" = some none)
    (z_all : PySem.W.nsIn K mainGlobals "all" = some none)
    (z_enumerate : PySem.W.nsIn K mainGlobals "enumerate" = some none)
    (z_sorted : PySem.W.nsIn K mainGlobals "sorted" = some none)
    (z_bool : PySem.W.nsIn K mainGlobals "bool" = some none)
    (z_dict : PySem.W.nsIn K mainGlobals "dict" = some none)
    (z_int : PySem.W.nsIn K mainGlobals "int" = some none)
    (c_small : PySem.W.nsIn K mainGlobals "SMALL" = some (some (.str "abcdefghijklmnopqrstuvwxyz" t_small)))
    (c_caps : PySem.W.nsIn K mainGlobals "CAPITALS" = some (some (.str "ABCDEFGHIJKLMNOPQRSTUVWXYZ" t_caps)))
    (c_edge : PySem.W.nsIn K mainGlobals "EDGE" = some (some (.str "#" t_edge)))
    (c_mrul : PySem.W.nsIn K mainGlobals "MOST_RULES" = some (some (.int 12 t_mrul)))
    (c_lexc : PySem.W.nsIn K mainGlobals "LONGEST_EXCEPTION" = some (some (.int 8 t_lexc)))
    (c_lrs : PySem.W.nsIn K mainGlobals "LONGEST_RULE_SOUNDS" = some (some (.int 3 t_lrs)))
    (c_lso : PySem.W.nsIn K mainGlobals "LONGEST_SOUNDS" = some (some (.int 36 t_lso)))
    (c_imost_exceptions : PySem.W.nsIn K mainGlobals "MOST_EXCEPTIONS" = some (some (.int 8 t_imost_exceptions)))
    (c_ilongest_word : PySem.W.nsIn K mainGlobals "LONGEST_WORD" = some (some (.int 12 t_ilongest_word)))
    (c_iown : PySem.W.nsIn K mainGlobals "OWN" = some (some (.int 1 t_iown)))
    (c_isounds : PySem.W.nsIn K mainGlobals "SOUNDS" = some (some (.int 3 t_isounds)))
    (c_isettling : PySem.W.nsIn K mainGlobals "SETTLING" = some (some (.int 4 t_isettling)))
    (c_ilong : PySem.W.nsIn K mainGlobals "LONG" = some (some (.int 5 t_ilong)))
    (c_ilongest_writing : PySem.W.nsIn K mainGlobals "LONGEST_WRITING" = some (some (.int 7 t_ilongest_writing)))
    (c_ileads : PySem.W.nsIn K mainGlobals "LEADS" = some (some (.int 2 t_ileads)))
    (z_super : PySem.W.nsIn K mainGlobals "super" = some none)
    (z_ValueError : PySem.W.nsIn K mainGlobals "ValueError" = some none)
    (gSayError : PySem.W.nsIn K mainGlobals "SayError" = some (some (.ref xSayError)))
    (gBadBook : PySem.W.nsIn K mainGlobals "BadBook" = some (some (.ref xBadBook)))
    (gBadWord : PySem.W.nsIn K mainGlobals "BadWord" = some (some (.ref xBadWord)))
    (gBadSounds : PySem.W.nsIn K mainGlobals "BadSounds" = some (some (.ref xBadSounds)))
    (gBadCount : PySem.W.nsIn K mainGlobals "BadCount" = some (some (.ref xBadCount)))
    (gUnsaid : PySem.W.nsIn K mainGlobals "Unsaid" = some (some (.ref xUnsaid)))
    (gNoLetter : PySem.W.nsIn K mainGlobals "NoLetter" = some (some (.ref xNoLetter)))
    (gNoException : PySem.W.nsIn K mainGlobals "NoException" = some (some (.ref xNoException)))
    (gOtherLetters : PySem.W.nsIn K mainGlobals "OtherLetters" = some (some (.ref xOtherLetters)))
    (gBadSamples : PySem.W.nsIn K mainGlobals "BadSamples" = some (some (.ref xBadSamples)))
    (gBadDeed : PySem.W.nsIn K mainGlobals "BadDeed" = some (some (.ref xBadDeed)))
    (gHalted : PySem.W.nsIn K mainGlobals "Halted" = some (some (.ref xHalted)))
    (gBadText : PySem.W.nsIn K mainGlobals "BadText" = some (some (.ref xBadText)))
    (eS1 : PySem.W.subIn K (.ref xSayError) (.type "BaseException") = some true)
    (eS2 : PySem.W.hasDictIn K xSayError = true)
    (eS3 : PySem.W.typeIn K (.ref xSayError) = some (.type "type"))
    (Unsaid_e4 : PySem.W.subIn K (.ref xUnsaid) (.ref xSayError) = some true)
    (Unsaid_kBadBook : PySem.W.kitOne K (.ref xUnsaid) (.ref xBadBook) = some false)
    (Unsaid_kBadWord : PySem.W.kitOne K (.ref xUnsaid) (.ref xBadWord) = some false)
    (Unsaid_kBadSounds : PySem.W.kitOne K (.ref xUnsaid) (.ref xBadSounds) = some false)
    (Unsaid_kBadCount : PySem.W.kitOne K (.ref xUnsaid) (.ref xBadCount) = some false)
    (Unsaid_kUnsaid : PySem.W.kitOne K (.ref xUnsaid) (.ref xUnsaid) = some true)
    (Unsaid_kNoLetter : PySem.W.kitOne K (.ref xUnsaid) (.ref xNoLetter) = some false)
    (Unsaid_kNoException : PySem.W.kitOne K (.ref xUnsaid) (.ref xNoException) = some false)
    (Unsaid_kOtherLetters : PySem.W.kitOne K (.ref xUnsaid) (.ref xOtherLetters) = some false)
    (Unsaid_kBadSamples : PySem.W.kitOne K (.ref xUnsaid) (.ref xBadSamples) = some false)
    (Unsaid_kBadDeed : PySem.W.kitOne K (.ref xUnsaid) (.ref xBadDeed) = some false)
    (Unsaid_kHalted : PySem.W.kitOne K (.ref xUnsaid) (.ref xHalted) = some false)
    (Unsaid_kBadText : PySem.W.kitOne K (.ref xUnsaid) (.ref xBadText) = some false)
    (Unsaid_kV : PySem.W.kitOne K (.ref xUnsaid) (.type "ValueError") = some true)
    (Unsaid_noP : PySem.W.findIn K (.ref xUnsaid) "place" = some none)
    (Unsaid_noN : PySem.W.findIn K (.ref xUnsaid) "number" = some none)
    (Unsaid_noA : PySem.W.findIn K (.ref xUnsaid) "part" = some none)
    (Unsaid_noD : PySem.W.findIn K (.ref xUnsaid) "done" = some none)
    (Unsaid_noR : PySem.W.findIn K (.ref xUnsaid) "row" = some none)
    (Unsaid_ga : PySem.W.findIn K (.ref xUnsaid) "__getattribute__" = some (some (.builtin "BaseException.__getattribute__")))
    (Unsaid_gg : PySem.W.findIn K (.ref xUnsaid) "__getattr__" = some none)
    (Unsaid_hd : PySem.W.hasDictIn K xUnsaid = true)
    (Unsaid_ex : PySem.W.subIn K (.ref xUnsaid) (.type "BaseException") = some true)
    (Unsaid_ha : PySem.W.findIn K (.ref xUnsaid) "__class__" = some (some (.builtin "object.__class__")))
    (Unsaid_hm : PySem.W.mroIn K xUnsaid (.type "object") = some true)
    (x_hn : PySem.W.specialIn K (.builtin "object.__class__") "__get__" = some (some (.builtin "getset_descriptor.__get__")))
    (x_ht : PySem.W.takesIn K (.builtin "object.__class__") = some true)
    (xU : K.lookup xUnsaid = some (excClassObj nm q xUnsaid N_ bs [.ref xSayError, .type "ValueError", .type "Exception", .type "BaseException", .type "object"] true sn sub ab col dd m0 m1 m2 m3 m5 "ValueError.__new__"))
    (u_sa : PySem.W.findIn K (.ref xUnsaid) "__setattr__" = some (some (.builtin "object.__setattr__")))
    (u_iC : PySem.W.findIn K (.ref xUnsaid) "__init__" = some (some (.ref fI)))
    (u_tC : PySem.W.typeIn K (.ref fI) = some (.type "function"))
    (u_kC : PySem.W.keepIn K (.ref xUnsaid) = true)
    (u_tyC : PySem.W.typeIn K (.ref xUnsaid) = some (.type "type"))
    (u_sup : PySem.W.ks_superIn K xUnsaid xUnsaid "__init__" = some (some (.builtin "ValueError.__init__")))
    (u_subV : PySem.W.subIn K (.ref xUnsaid) (.type "ValueError") = some true)
    (u_any : PySem.W.nsIn K cStatics "thirdparty.any" = some none)
    (u_main : (l.prog.main.scope.names.lookup ("super" : Str)).isSome = false)
    (u_fn : K.lookup fI = some ⟨oI, odI, .func (PySem.W.ksFn "__init__" "Unsaid.__init__" PySem.UnsX.iA PySem.UnsX.iB PySem.UnsX.iS .none .none dcI pmI anI (.ref cdI) ctI ccI), slI⟩)
    (u_cd : PySem.W.codeIn K (.ref cdI) "Unsaid.__init__" = true)
    (u_cell : K.lookup ccI = some ⟨clI, cldI, .cell (some (.ref xUnsaid)), cslI⟩)
    (u_code : K.lookup cdI = some ⟨cclI, cddI, .fields vsI, ccsI⟩)
    (u_vs : vsI[2]? = some (.str flI tfI))
    (u_file : ((l.prog.main.file : Str) == flI) = true)
    (l_code : K.lookup cL = some ⟨.type "code", cddL, .fields vsL, cslL⟩)
    (l_vs : vsL[11]? = some (.ref Pt))
    (l_v11 : vsL.getD 11 .none = .ref Pt)
    (l_v18 : vsL.getD 18 .none = .str lf18 lt18)
    (l_v7 : vsL.getD 7 .none = .int li7 lt7)
    (l_v9 : vsL.getD 9 .none = .bool lb9)
    (l_v10 : vsL.getD 10 .none = .int li10 lt10)
    (l_ne : cL ≠ Pt)
    (l_no : K.lookup Pt = none)
    (gUseHunt : PySem.W.nsIn K mainGlobals "UseHunt" = some (some (.ref yUseHunt)))
    (C_pg : PySem.W.plainGet K yUseHunt Str.empty = true)
    (C_hd : PySem.W.hasDictIn K yUseHunt = true)
    (C_po : PySem.W.plainOver K yUseHunt = true)
    (C_sa : PySem.W.findIn K (.ref yUseHunt) "__setattr__" = some (some (.builtin "object.__setattr__")))
    (C_mk : PySem.W.makesIn K yUseHunt = true)
    (C_kc : PySem.W.keepIn K (.ref yUseHunt) = true)
    (C_n0 : PySem.W.findIn K (.ref yUseHunt) "_rules" = some none)
    (C_n1 : PySem.W.findIn K (.ref yUseHunt) "_number" = some none)
    (gUnsaidHunt : PySem.W.nsIn K mainGlobals "UnsaidHunt" = some (some (.ref yUnsaidHunt)))
    (C2_pg : PySem.W.plainGet K yUnsaidHunt Str.empty = true)
    (C2_hd : PySem.W.hasDictIn K yUnsaidHunt = true)
    (C2_po : PySem.W.plainOver K yUnsaidHunt = true)
    (C2_sa : PySem.W.findIn K (.ref yUnsaidHunt) "__setattr__" = some (some (.builtin "object.__setattr__")))
    (C2_mk : PySem.W.makesIn K yUnsaidHunt = true)
    (C2_kc : PySem.W.keepIn K (.ref yUnsaidHunt) = true)
    (C2_n0 : PySem.W.findIn K (.ref yUnsaidHunt) "_rules" = some none)
    (gPartedHunt : PySem.W.nsIn K mainGlobals "PartedHunt" = some (some (.ref yPartedHunt)))
    (C3_pg : PySem.W.plainGet K yPartedHunt Str.empty = true)
    (C3_hd : PySem.W.hasDictIn K yPartedHunt = true)
    (C3_po : PySem.W.plainOver K yPartedHunt = true)
    (C3_sa : PySem.W.findIn K (.ref yPartedHunt) "__setattr__" = some (some (.builtin "object.__setattr__")))
    (C3_mk : PySem.W.makesIn K yPartedHunt = true)
    (C3_kc : PySem.W.keepIn K (.ref yPartedHunt) = true)
    (C3_n0 : PySem.W.findIn K (.ref yPartedHunt) "_one_rules" = some none)
    (C3_n1 : PySem.W.findIn K (.ref yPartedHunt) "_other_rules" = some none)
    (C3_n2 : PySem.W.findIn K (.ref yPartedHunt) "_one_exceptions" = some none)
    (C3_n3 : PySem.W.findIn K (.ref yPartedHunt) "_other_exceptions" = some none)
    (C3_n4 : PySem.W.findIn K (.ref yPartedHunt) "_stems" = some none)
    (gEVEN : PySem.W.nsIn K mainGlobals "EVEN" = some (some (.ref aEv)))
    (ev_l : K.lookup aEv = some ⟨.type "tuple", evd, .seq evi evn, evs⟩)
    (ev_z : evi.size ≤ sizeLine)
    (ev_r : Vals [V.str "", V.str ""] evi.toList)
    (gUNLIKE : PySem.W.nsIn K mainGlobals "UNLIKE" = some (some (.ref aUn)))
    (un_l : K.lookup aUn = some ⟨.type "tuple", uvd, .seq uvi uvn, uvs⟩)
    (un_z : uvi.size ≤ sizeLine)
    (un_r : Vals [V.str "<", V.str ">"] uvi.toList)
    : LamX.LawAtS l w K CX0 11 63 "_law_script" mg fa h := by
  have e := hfa.symm.trans (PySem.W.mg_of X G a_law)
  cases e
  have B : Bn mg := ⟨PySem.W.mg_none_of X G z_len, PySem.W.mg_none_of X G z_range, PySem.W.mg_none_of X G z_tuple, PySem.W.mg_none_of X G z_list, PySem.W.mg_none_of X G z_isinstance, PySem.W.mg_none_of X G z_str, PySem.W.mg_none_of X G z_all, PySem.W.mg_none_of X G z_enumerate, PySem.W.mg_none_of X G z_sorted, PySem.W.mg_none_of X G z_bool⟩
  have C : Cn mg := ⟨⟨_, PySem.W.mg_of X G c_small⟩, ⟨_, PySem.W.mg_of X G c_caps⟩, ⟨_, PySem.W.mg_of X G c_edge⟩, ⟨_, PySem.W.mg_of X G c_mrul⟩, ⟨_, PySem.W.mg_of X G c_lexc⟩, ⟨_, PySem.W.mg_of X G c_lrs⟩, ⟨_, PySem.W.mg_of X G c_lso⟩⟩
  have KI_MOST_EXCEPTIONS : KI mg "MOST_EXCEPTIONS" 8 := ⟨_, PySem.W.mg_of X G c_imost_exceptions⟩
  have KI_LONGEST_WORD : KI mg "LONGEST_WORD" 12 := ⟨_, PySem.W.mg_of X G c_ilongest_word⟩
  have KI_OWN : KI mg "OWN" 1 := ⟨_, PySem.W.mg_of X G c_iown⟩
  have KI_SOUNDS : KI mg "SOUNDS" 3 := ⟨_, PySem.W.mg_of X G c_isounds⟩
  have KI_SETTLING : KI mg "SETTLING" 4 := ⟨_, PySem.W.mg_of X G c_isettling⟩
  have KI_LONG : KI mg "LONG" 5 := ⟨_, PySem.W.mg_of X G c_ilong⟩
  have KI_LONGEST_WRITING : KI mg "LONGEST_WRITING" 7 := ⟨_, PySem.W.mg_of X G c_ilongest_writing⟩
  have KI_LEADS : KI mg "LEADS" 2 := ⟨_, PySem.W.mg_of X G c_ileads⟩
  have EC_Unsaid : ExcC K xUnsaid := ⟨Unsaid_ga, Unsaid_gg, Unsaid_ex, Unsaid_hd, Unsaid_ha, x_hn, x_ht, Unsaid_hm⟩
  have WC_Unsaid : WordC K mg xUnsaid 4 := { say := ⟨_, PySem.W.mg_of X G gSayError, PySem.W.exm_ref eS1 eS2 eS3 Unsaid_e4⟩, book := ⟨_, PySem.W.mg_of X G gBadBook, Unsaid_kBadBook⟩, word := ⟨_, PySem.W.mg_of X G gBadWord, Unsaid_kBadWord⟩, snds := ⟨_, PySem.W.mg_of X G gBadSounds, Unsaid_kBadSounds⟩, coun := ⟨_, PySem.W.mg_of X G gBadCount, Unsaid_kBadCount⟩, uns := ⟨_, PySem.W.mg_of X G gUnsaid, Unsaid_kUnsaid⟩, lett := ⟨_, PySem.W.mg_of X G gNoLetter, Unsaid_kNoLetter⟩, exce := ⟨_, PySem.W.mg_of X G gNoException, Unsaid_kNoException⟩, othe := ⟨_, PySem.W.mg_of X G gOtherLetters, Unsaid_kOtherLetters⟩, samp := ⟨_, PySem.W.mg_of X G gBadSamples, Unsaid_kBadSamples⟩, deed := ⟨_, PySem.W.mg_of X G gBadDeed, Unsaid_kBadDeed⟩, halt := ⟨_, PySem.W.mg_of X G gHalted, Unsaid_kHalted⟩, text := ⟨_, PySem.W.mg_of X G gBadText, Unsaid_kBadText⟩, val := PySem.W.mg_none_of X G z_ValueError, kv := Unsaid_kV, exc := EC_Unsaid, xf := ⟨Unsaid_ga, Unsaid_gg, Unsaid_ex, Unsaid_hd⟩, noP := Unsaid_noP, noN := Unsaid_noN, noA := Unsaid_noA, noD := Unsaid_noD, noR := Unsaid_noR }
  have U : PySem.UnsX.UnsTxt l.prog K mg xUnsaid fI := { gC := PySem.W.mg_of X G gUnsaid, sB := PySem.W.mg_none_of X G z_super, cls := ⟨_, _, _, _, _, _, _, _, _, _, _, _, _, _, _, xU, rfl⟩, sa := u_sa, noP := Unsaid_noP, iC := u_iC, tC := u_tC, kC := u_kC, exC := Unsaid_ex, tyC := u_tyC, sup := u_sup, subV := u_subV, any := u_any, main := u_main, fn := ⟨_, _, _, _, _, _, _, _, _, u_fn, u_cd, ⟨_, _, _, u_cell⟩, _, _, _, _, _, _, u_code, u_vs, u_file⟩ }
  have hE : PairC K aEv "" "" := ⟨_, _, _, ev_l, rfl, rfl, ev_z, ev_r⟩
  have hU : PairC K aUn "<" ">" := ⟨_, _, _, un_l, rfl, rfl, un_z, un_r⟩
  have hV : EvenC K aEv := ⟨_, _, _, ev_l, rfl, rfl, ev_z, ev_r⟩
  have hPt : h.get? Pt = some { cls := .none, data := .fields #[] } := OT cL Pt _ _ _ _ _ _ l_law rfl rfl l_code l_vs
  refine ⟨PySem.W.fnOf "law" "law" (defArgs sLaw) (defBody sLaw) (defScope sLaw) .none kVL dcL pmL anL (.ref cL) ctL, [(cL, Pt)], spLawT K Pt, fun p hp => ?_, fun p hp => ?_, fun p hp => ?_, fun s v => .of_eq rfl, fun H a ns hl _ hH hS => ?_, fun base _ _ TB => ?_⟩
  · rw [List.mem_singleton.mp hp]; exact hPt
  · rw [List.mem_singleton.mp hp]; exact l_no
  · rw [List.mem_singleton.mp hp]; exact ⟨_, _, _, _, _, _, _, _, _, X _ _ l_code, rfl, rfl, l_vs, l_v11, l_v18, l_v7, l_v9, l_v10, l_ne⟩
  · exact ⟨a, ns, rfl, hS, hl, hH _ (List.mem_singleton.mpr rfl), fun _ => rfl⟩
  obtain ⟨d39, F39, _⟩ := S39.fn
  have m39 := PySem.W.mg_of X G S39.ns
  have b39 := F39.binds (ps := ["text", "signs", "least", "most"]) fun _ _ _ _ _ _ us hl => match us, hl with | [_, _, _, _], _ => rfl
  have D_is_text : Df l.prog w K mg base "is_text" ["text", "signs", "least", "most"] 1 spIsText := ⟨_, _, ok_isText F39 B, F39.kp, b39, m39⟩
  obtain ⟨d40, F40, _⟩ := S40.fn
  have m40 := PySem.W.mg_of X G S40.ns
  have b40 := F40.binds (ps := ["text"]) fun _ _ _ _ _ _ us hl => match us, hl with | [_], _ => rfl
  have D_is_rising : Df l.prog w K mg base "is_rising" ["text"] 1 spRise := ⟨_, _, ok_rise F40 B, F40.kp, b40, m40⟩
  obtain ⟨d35, F35, _⟩ := S35.fn
  have m35 := PySem.W.mg_of X G S35.ns
  have b35 := F35.binds (ps := ["letters", "signs"]) fun _ _ _ _ _ _ us hl => match us, hl with | [_, _], _ => rfl
  have D_is_beside : Df l.prog w K mg base "is_beside" ["letters", "signs"] 2 spBeside := ⟨_, _, ok_beside F35 B C D_is_text D_is_rising, F35.kp, b35, m35⟩
  obtain ⟨d34, F34, _⟩ := S34.fn
  have m34 := PySem.W.mg_of X G S34.ns
  have b34 := F34.binds (ps := ["letters", "rule"]) fun _ _ _ _ _ _ us hl => match us, hl with | [_, _], _ => rfl
  have D_is_rule : Df l.prog w K mg base "is_rule" ["letters", "rule"] 3 spIsRule := ⟨_, _, ok_isRule F34 B C D_is_text D_is_beside, F34.kp, b34, m34⟩
  obtain ⟨d37, F37, _⟩ := S37.fn
  have m37 := PySem.W.mg_of X G S37.ns
  have b37 := F37.binds (ps := ["letters", "word"]) fun _ _ _ _ _ _ us hl => match us, hl with | [_, _], _ => rfl
  have D_is_excepted : Df l.prog w K mg base "is_excepted" ["letters", "word"] 2 spExcd := ⟨_, _, ok_excd F37 C D_is_text, F37.kp, b37, m37⟩
  obtain ⟨d38, F38, _⟩ := S38.fn
  have m38 := PySem.W.mg_of X G S38.ns
  have b38 := F38.binds (ps := ["sounds"]) fun _ _ _ _ _ _ us hl => match us, hl with | [_], _ => rfl
  have D_is_sounds : Df l.prog w K mg base "is_sounds" ["sounds"] 2 spIsSo := ⟨_, _, ok_isSo F38 C D_is_text, F38.kp, b38, m38⟩
  obtain ⟨d36, F36, _⟩ := S36.fn
  have m36 := PySem.W.mg_of X G S36.ns
  have b36 := F36.binds (ps := ["letters", "pair"]) fun _ _ _ _ _ _ us hl => match us, hl with | [_, _], _ => rfl
  have D_is_exception : Df l.prog w K mg base "is_exception" ["letters", "pair"] 3 spIsExc := ⟨_, _, ok_isExc F36 B D_is_excepted D_is_sounds, F36.kp, b36, m36⟩
  obtain ⟨d29, F29, _⟩ := S29.fn
  have m29 := PySem.W.mg_of X G S29.ns
  have b29 := F29.binds (ps := ["letters"]) fun _ _ _ _ _ _ us hl => match us, hl with | [_], _ => rfl
  have D_check_letters : Df l.prog w K mg base "check_letters" ["letters"] 2 spChL := ⟨_, _, ok_chL F29 C D_is_text D_is_rising, F29.kp, b29, m29⟩
  obtain ⟨d32, F32, _⟩ := S32.fn
  have m32 := PySem.W.mg_of X G S32.ns
  have b32 := F32.binds (ps := ["letters", "word"]) fun _ _ _ _ _ _ us hl => match us, hl with | [_, _], _ => rfl
  have D_check_word : Df l.prog w K mg base "check_word" ["letters", "word"] 2 spChW := ⟨_, _, ok_chW F32 KI_LONGEST_WORD D_is_text, F32.kp, b32, m32⟩
  obtain ⟨d30, F30, _⟩ := S30.fn
  have m30 := PySem.W.mg_of X G S30.ns
  have b30 := F30.binds (ps := ["letters", "rules"]) fun _ _ _ _ _ _ us hl => match us, hl with | [_, _], _ => rfl
  have D_check_rules : Df l.prog w K mg base "check_rules" ["letters", "rules"] 4 spChR := ⟨_, _, ok_chR F30 B C D_is_rule, F30.kp, b30, m30⟩
  obtain ⟨d31, F31, _⟩ := S31.fn
  have m31 := PySem.W.mg_of X G S31.ns
  have b31 := F31.binds (ps := ["letters", "exceptions"]) fun _ _ _ _ _ _ us hl => match us, hl with | [_, _], _ => rfl
  have D_check_exceptions : Df l.prog w K mg base "check_exceptions" ["letters", "exceptions"] 4 spChE := ⟨_, _, ok_chE F31 B KI_MOST_EXCEPTIONS D_is_exception, F31.kp, b31, m31⟩
  obtain ⟨d28, F28, _⟩ := S28.fn
  have m28 := PySem.W.mg_of X G S28.ns
  have b28 := F28.binds (ps := ["book"]) fun _ _ _ _ _ _ us hl => match us, hl with | [_], _ => rfl
  have D_checked_book : Df l.prog w K mg base "checked_book" ["book"] 5 spCh := ⟨_, _, ok_ch F28 B D_check_letters D_check_rules D_check_exceptions, F28.kp, b28, m28⟩
  obtain ⟨d33, F33, _⟩ := S33.fn
  have m33 := PySem.W.mg_of X G S33.ns
  have b33 := F33.binds (ps := ["sounds"]) fun _ _ _ _ _ _ us hl => match us, hl with | [_], _ => rfl
  have D_check_sounds : Df l.prog w K mg base "check_sounds" ["sounds"] 3 spCSo := ⟨_, _, ok_cSo F33 D_is_sounds, F33.kp, b33, m33⟩
  obtain ⟨d41, F41, _⟩ := S41.fn
  have m41 := PySem.W.mg_of X G S41.ns
  have b41 := F41.binds (ps := ["number", "most"]) fun _ _ _ _ _ _ us hl => match us, hl with | [_, _], _ => rfl
  have D_is_count : Df l.prog w K mg base "is_count" ["number", "most"] 1 spCnt := ⟨_, _, ok_cnt F41 B (PySem.W.mg_none_of X G z_int), F41.kp, b41, m41⟩
  obtain ⟨d46, F46, _⟩ := S46.fn
  have m46 := PySem.W.mg_of X G S46.ns
  have b46 := F46.binds (ps := ["rule", "signs", "at"]) fun _ _ _ _ _ _ us hl => match us, hl with | [_, _, _], _ => rfl
  have D_fits : Df l.prog w K mg base "fits" ["rule", "signs", "at"] 1 spFits := ⟨_, _, ok_fits F46 B, F46.kp, b46, m46⟩
  obtain ⟨d47, F47, _⟩ := S47.fn
  have m47 := PySem.W.mg_of X G S47.ns
  have b47 := F47.binds (ps := ["rules", "signs", "at"]) fun _ _ _ _ _ _ us hl => match us, hl with | [_, _, _], _ => rfl
  have D_first_fit : Df l.prog w K mg base "first_fit" ["rules", "signs", "at"] 2 spFF := ⟨_, _, ok_FF F47 B D_fits, F47.kp, b47, m47⟩
  obtain ⟨d48, F48, _⟩ := S48.fn
  have m48 := PySem.W.mg_of X G S48.ns
  have b48 := F48.binds (ps := ["rules", "tail"]) fun _ _ _ _ _ _ us hl => match us, hl with | [_, _], _ => rfl
  have D_steps_of : Df l.prog w K mg base "steps_of" ["rules", "tail"] 3 spSt := ⟨_, _, ok_St F48 B C KI_OWN D_first_fit, F48.kp, b48, m48⟩
  obtain ⟨d49, F49, _⟩ := S49.fn
  have m49 := PySem.W.mg_of X G S49.ns
  have b49 := F49.binds (ps := ["rules", "tail", "letter"]) fun _ _ _ _ _ _ us hl => match us, hl with | [_, _, _], _ => rfl
  have D_taken : Df l.prog w K mg base "taken" ["rules", "tail", "letter"] 3 spTk := ⟨_, _, ok_tk F49 B KI_OWN KI_SETTLING D_first_fit, F49.kp, b49, m49⟩
  obtain ⟨d58, F58, _⟩ := S58.fn
  have m58 := PySem.W.mg_of X G S58.ns
  have b58 := F58.binds (ps := ["rules", "word"]) fun _ _ _ _ _ _ us hl => match us, hl with | [_, _], _ => rfl
  have G_walked := ok_wdR (base := base) (w := w) (P := l.prog) F58 C U D_steps_of
  obtain ⟨d56, F56, _⟩ := S56.fn
  have m56 := PySem.W.mg_of X G S56.ns
  have b56 := F56.binds (ps := ["book", "word"]) fun _ _ _ _ _ _ us hl => match us, hl with | [_, _], _ => rfl
  have G_walk := ok_walkR F56 D_checked_book D_check_word G_walked F58.kp b58 m58
  obtain ⟨d53, F53, _⟩ := S53.fn
  have m53 := PySem.W.mg_of X G S53.ns
  have b53 := F53.binds (ps := ["steps"]) fun _ _ _ _ _ _ us hl => match us, hl with | [_], _ => rfl
  have D_numbers_of : Df l.prog w K mg base "numbers_of" ["steps"] 1 spNum := ⟨_, _, ok_num F53, F53.kp, b53, m53⟩
  obtain ⟨d54, F54, _⟩ := S54.fn
  have m54 := PySem.W.mg_of X G S54.ns
  have b54 := F54.binds (ps := ["rules", "numbers"]) fun _ _ _ _ _ _ us hl => match us, hl with | [_, _], _ => rfl
  have D_sounds_of : Df l.prog w K mg base "sounds_of" ["rules", "numbers"] 1 spSou := ⟨_, _, ok_sou F54 KI_SOUNDS, F54.kp, b54, m54⟩
  obtain ⟨d50, F50, _⟩ := S50.fn
  have m50 := PySem.W.mg_of X G S50.ns
  have b50 := F50.binds (ps := ["rules", "tail"]) fun _ _ _ _ _ _ us hl => match us, hl with | [_, _], _ => rfl
  have D_ending : Df l.prog w K mg base "ending" ["rules", "tail"] 4 spEnd := ⟨_, _, ok_end F50 D_steps_of D_numbers_of, F50.kp, b50, m50⟩
  obtain ⟨d51, F51, _⟩ := S51.fn
  have m51 := PySem.W.mg_of X G S51.ns
  have b51 := F51.binds (ps := ["rules", "tail"]) fun _ _ _ _ _ _ us hl => match us, hl with | [_, _], _ => rfl
  have D_ending_sounds : Df l.prog w K mg base "ending_sounds" ["rules", "tail"] 5 spEnS := ⟨_, _, ok_enS F51 D_ending D_sounds_of, F51.kp, b51, m51⟩
  obtain ⟨d52, F52, _⟩ := S52.fn
  have m52 := PySem.W.mg_of X G S52.ns
  have b52 := F52.binds (ps := ["rules", "word"]) fun _ _ _ _ _ _ us hl => match us, hl with | [_, _], _ => rfl
  have D_word_sounds : Df l.prog w K mg base "word_sounds" ["rules", "word"] 6 spWS := ⟨_, _, ok_WS F52 C D_ending_sounds, F52.kp, b52, m52⟩
  obtain ⟨d57, F57, _⟩ := S57.fn
  have m57 := PySem.W.mg_of X G S57.ns
  have b57 := F57.binds (ps := ["book", "word"]) fun _ _ _ _ _ _ us hl => match us, hl with | [_, _], _ => rfl
  have G_said := ok_saidR F57 D_checked_book D_check_word G_walked F58.kp b58 m58 D_numbers_of D_sounds_of
  obtain ⟨d64, F64, _⟩ := S64.fn
  have m64 := PySem.W.mg_of X G S64.ns
  have b64 := F64.binds (ps := ["letters", "rules", "beginning", "sounds"]) fun _ _ _ _ _ _ us hl => match us, hl with | [_, _, _, _], _ => rfl
  have D_longer_beginnings : Df l.prog w K mg base "longer_beginnings" ["letters", "rules", "beginning", "sounds"] 4 spLB := ⟨_, _, ok_LB F64 D_taken D_sounds_of, F64.kp, b64, m64⟩
  obtain ⟨d63, F63, _⟩ := S63.fn
  have m63 := PySem.W.mg_of X G S63.ns
  have b63 := F63.binds (ps := ["letters", "rules", "sounds", "long"]) fun _ _ _ _ _ _ us hl => match us, hl with | [_, _, _, _], _ => rfl
  have D_ruled_writings : Df l.prog w K mg base "ruled_writings" ["letters", "rules", "sounds", "long"] 6 spRW := ⟨_, _, ok_RW F63 B C D_ending_sounds D_longer_beginnings, F63.kp, b63, m63⟩
  obtain ⟨d62, F62⟩ := S62.fn
  have m62 := PySem.W.mg_of X G S62.ns
  have G_writings := ok_wr (base := base) (w := w) (P := l.prog) F62 B (PySem.W.mg_none_of X G z_dict) KI_LONGEST_WRITING D_checked_book D_check_sounds D_is_count D_ruled_writings
  obtain ⟨d70, F70, _⟩ := S70.fn
  have m70 := PySem.W.mg_of X G S70.ns
  have b70 := F70.binds (ps := ["leads", "state"]) fun _ _ _ _ _ _ us hl => match us, hl with | [_, _], _ => rfl
  have D_keep : Df l.prog w K mg base "keep" ["leads", "state"] 1 (spKp2 l.prog w K) := ⟨_, _, ok_Kp2 F70 B KI_LEADS, F70.kp, b70, m70⟩
  obtain ⟨d71, F71, _⟩ := S71.fn
  have m71 := PySem.W.mg_of X G S71.ns
  have b71 := F71.binds (ps := ["one", "other"]) fun _ _ _ _ _ _ us hl => match us, hl with | [_, _], _ => rfl
  have D_lead_of : Df l.prog w K mg base "lead_of" ["one", "other"] 1 (spLd K) := ⟨_, _, ok_Ld F71 B (PySem.W.mg_of X G gUNLIKE) hU, F71.kp, b71, m71⟩
  obtain ⟨d72, F72, _⟩ := S72.fn
  have m72 := PySem.W.mg_of X G S72.ns
  have b72 := F72.binds (ps := ["pairs"]) fun _ _ _ _ _ _ us hl => match us, hl with | [_], _ => rfl
  have D_stems_of : Df l.prog w K mg base "stems_of" ["pairs"] 1 (spStm K) := ⟨_, _, ok_Stm F72 B, F72.kp, b72, m72⟩
  obtain ⟨d69, F69, _⟩ := S69.fn
  have m69 := PySem.W.mg_of X G S69.ns
  obtain ⟨d77, F77, _⟩ := S77.fn
  have m77 := PySem.W.mg_of X G S77.ns
  obtain ⟨d78, F78, _⟩ := S78.fn
  have m78 := PySem.W.mg_of X G S78.ns
  obtain ⟨d79, F79, _⟩ := S79.fn
  have m79 := PySem.W.mg_of X G S79.ns
  obtain ⟨d82, F82, _⟩ := S82.fn
  have m82 := PySem.W.mg_of X G S82.ns
  have b82 := F82.binds (ps := ["rules", "number"]) fun _ _ _ _ _ _ us hl => match us, hl with | [_, _], _ => rfl
  have D_swapped : Df l.prog w K mg base "swapped" ["rules", "number"] 1 spSw := ⟨_, _, ok_Sw F82, F82.kp, b82, m82⟩
  obtain ⟨d80, F80, _⟩ := S80.fn
  have m80 := PySem.W.mg_of X G S80.ns
  obtain ⟨d81, F81, _⟩ := S81.fn
  have m81 := PySem.W.mg_of X G S81.ns
  have b81 := F81.binds (ps := ["book"]) fun _ _ _ _ _ _ us hl => match us, hl with | [_], _ => rfl
  have D_needless : Df l.prog w K mg base "needless" ["book"] 7 spNl := ⟨_, _, ok_nl F81 D_checked_book D_word_sounds, F81.kp, b81, m81⟩
  obtain ⟨d84, F84, _⟩ := S84.fn
  have m84 := PySem.W.mg_of X G S84.ns
  have b84 := F84.binds (ps := ["_law_script"]) fun _ _ _ _ _ _ us hl => match us, hl with | [_], _ => rfl
  have D__law_row : Df l.prog w K mg base "_law_row" ["_law_script"] 1 (spRow K) := ⟨_, _, ok_row F84, F84.kp, b84, m84⟩
  obtain ⟨d85, F85, _⟩ := S85.fn
  have m85 := PySem.W.mg_of X G S85.ns
  have b85 := F85.binds (ps := ["_law_row_here", "_law_many"]) fun _ _ _ _ _ _ us hl => match us, hl with | [_, _], _ => rfl
  have D__law_taken : Df l.prog w K mg base "_law_taken" ["_law_row_here", "_law_many"] 1 (spTaken K) := ⟨_, _, ok_taken F85 B.len, F85.kp, b85, m85⟩
  obtain ⟨d86, F86, _⟩ := S86.fn
  have m86 := PySem.W.mg_of X G S86.ns
  have b86 := F86.binds (ps := ["_law_row_here"]) fun _ _ _ _ _ _ us hl => match us, hl with | [_], _ => rfl
  have D__law_letters : Df l.prog w K mg base "_law_letters" ["_law_row_here"] 2 (spLetters K) := ⟨_, _, ok_letters F86 D__law_taken, F86.kp, b86, m86⟩
  obtain ⟨d87, F87, _⟩ := S87.fn
  have m87 := PySem.W.mg_of X G S87.ns
  have b87 := F87.binds (ps := ["_law_row_here", "_law_letters_here"]) fun _ _ _ _ _ _ us hl => match us, hl with | [_, _], _ => rfl
  have D__law_side : Df l.prog w K mg base "_law_side" ["_law_row_here", "_law_letters_here"] 2 (spSide K) := ⟨_, _, ok_side F87 D__law_taken, F87.kp, b87, m87⟩
  obtain ⟨d88, F88, _⟩ := S88.fn
  have m88 := PySem.W.mg_of X G S88.ns
  have b88 := F88.binds (ps := ["_law_row_here", "_law_signs", "_law_fewest", "_law_many"]) fun _ _ _ _ _ _ us hl => match us, hl with | [_, _, _, _], _ => rfl
  have D__law_text : Df l.prog w K mg base "_law_text" ["_law_row_here", "_law_signs", "_law_fewest", "_law_many"] 2 (spText K) := ⟨_, _, ok_text F88 D__law_taken B.len B.rng, F88.kp, b88, m88⟩
  obtain ⟨d89, F89, _⟩ := S89.fn
  have m89 := PySem.W.mg_of X G S89.ns
  have b89 := F89.binds (ps := ["_law_row_here", "_law_letters_here"]) fun _ _ _ _ _ _ us hl => match us, hl with | [_, _], _ => rfl
  have D__law_rule : Df l.prog w K mg base "_law_rule" ["_law_row_here", "_law_letters_here"] 3 (spRule K) := ⟨_, _, ok_rule F89 D__law_taken D__law_side D__law_text, F89.kp, b89, m89⟩
  obtain ⟨d90, F90, _⟩ := S90.fn
  have m90 := PySem.W.mg_of X G S90.ns
  have b90 := F90.binds (ps := ["_law_row_here", "_law_letters_here", "_law_most"]) fun _ _ _ _ _ _ us hl => match us, hl with | [_, _, _], _ => rfl
  have D__law_rules : Df l.prog w K mg base "_law_rules" ["_law_row_here", "_law_letters_here", "_law_most"] 4 (spRules K) := ⟨_, _, ok_rules F90 D__law_taken D__law_rule B.rng B.tup, F90.kp, b90, m90⟩
  obtain ⟨d91, F91, _⟩ := S91.fn
  have m91 := PySem.W.mg_of X G S91.ns
  have b91 := F91.binds (ps := ["_law_row_here", "_law_letters_here", "_law_most"]) fun _ _ _ _ _ _ us hl => match us, hl with | [_, _, _], _ => rfl
  have D__law_exceptions : Df l.prog w K mg base "_law_exceptions" ["_law_row_here", "_law_letters_here", "_law_most"] 3 (spLE4 K) := ⟨_, _, ok_LE4 F91 B D__law_taken D__law_text, F91.kp, b91, m91⟩
  obtain ⟨d92, F92, _⟩ := S92.fn
  have m92 := PySem.W.mg_of X G S92.ns
  have b92 := F92.binds (ps := ["_law_row_here"]) fun _ _ _ _ _ _ us hl => match us, hl with | [_], _ => rfl
  have D__law_book : Df l.prog w K mg base "_law_book" ["_law_row_here"] 5 (spLB4 K) := ⟨_, _, ok_LB4 F92 D__law_letters D__law_rules D__law_exceptions, F92.kp, b92, m92⟩
  obtain ⟨d93, F93, _⟩ := S93.fn
  have m93 := PySem.W.mg_of X G S93.ns
  have b93 := F93.binds (ps := ["_law_part", "_law_names"]) fun _ _ _ _ _ _ us hl => match us, hl with | [_, _], _ => rfl
  have D__law_turned : Df l.prog w K mg base "_law_turned" ["_law_part", "_law_names"] 4 (spTu 4) := ⟨_, _, tu_all F93 b93 m93 B 4, F93.kp, b93, m93⟩
  obtain ⟨d94, F94, _⟩ := S94.fn
  have m94 := PySem.W.mg_of X G S94.ns
  have b94 := F94.binds (ps := ["_law_found", "_law_due"]) fun _ _ _ _ _ _ us hl => match us, hl with | [_, _], _ => rfl
  have D__law_alike : Df l.prog w K mg base "_law_alike" ["_law_found", "_law_due"] 2 (spAl K 2) := ⟨_, _, al_all F94 b94 m94 B 2, F94.kp, b94, m94⟩
  obtain ⟨d95, F95, _⟩ := S95.fn
  have m95 := PySem.W.mg_of X G S95.ns
  have S : USC K yUseHunt := ⟨⟨C_pg, C_hd, C_po, C_sa⟩, C_n0, C_n1⟩
  obtain ⟨dIn, FIn, _⟩ := MIn.fn
  have mIn := MIn.me
  have bIn := FIn.binds (ps := ["self", "rules", "number"]) fun _ _ _ _ _ _ us hl => match us, hl with | [_, _, _], _ => rfl
  have GIn := ok_HI (P := l.prog) (w := w) (mg := mg) (base := base) (k := 0) FIn S
  obtain ⟨dHS, FHS, _⟩ := MHS.fn
  have mHS := MHS.me
  have bHS := FHS.binds (ps := ["self"]) fun _ _ _ _ _ _ us hl => match us, hl with | [_], _ => rfl
  have GHS := ok_HS (P := l.prog) (w := w) (base := base) (k := 0) FHS C (PySem.W.mg_of X G gEVEN)
  obtain ⟨dHA, FHA, _⟩ := MHA.fn
  have mHA := MHA.me
  have bHA := FHA.binds (ps := ["self", "state", "letter"]) fun _ _ _ _ _ _ us hl => match us, hl with | [_, _, _], _ => rfl
  have GHA := ok_HA FHA S (PySem.W.mg_of X G gEVEN) D_taken
  obtain ⟨dHF, FHF, _⟩ := MHF.fn
  have mHF := MHF.me
  have bHF := FHF.binds (ps := ["self", "state"]) fun _ _ _ _ _ _ us hl => match us, hl with | [_, _], _ => rfl
  have GHF := ok_HF (aE := aEv) FHF S D_ending
  have Mk_ : Mk K yUseHunt gIn := ⟨C_mk, mIn.at_, mIn.fn, C_kc⟩
  have S2 : UHC K yUnsaidHunt := ⟨⟨C2_pg, C2_hd, C2_po, C2_sa⟩, C2_n0⟩
  obtain ⟨dNI, FNI, _⟩ := MNI.fn
  have mNI := MNI.me
  have bNI := FNI.binds (ps := ["self", "rules"]) fun _ _ _ _ _ _ us hl => match us, hl with | [_, _], _ => rfl
  have GNI := ok_HIN (P := l.prog) (w := w) (mg := mg) (base := base) (k := 0) FNI S2
  obtain ⟨dNS, FNS, _⟩ := MNS.fn
  have mNS := MNS.me
  have bNS := FNS.binds (ps := ["self"]) fun _ _ _ _ _ _ us hl => match us, hl with | [_], _ => rfl
  have GNS := ok_HSN (P := l.prog) (w := w) (base := base) (k := 0) FNS C (PySem.W.mg_of X G gEVEN)
  obtain ⟨dNA, FNA, _⟩ := MNA.fn
  have mNA := MNA.me
  have bNA := FNA.binds (ps := ["self", "state", "letter"]) fun _ _ _ _ _ _ us hl => match us, hl with | [_, _, _], _ => rfl
  have GNA := ok_HAN FNA S2 (PySem.W.mg_of X G gEVEN) D_taken
  obtain ⟨dNF, FNF, _⟩ := MNF.fn
  have mNF := MNF.me
  have bNF := FNF.binds (ps := ["self", "state"]) fun _ _ _ _ _ _ us hl => match us, hl with | [_, _], _ => rfl
  have GNF := ok_HFN FNF S2 D_ending
  have Mk2_ : Mk K yUnsaidHunt gNI := ⟨C2_mk, mNI.at_, mNI.fn, C2_kc⟩
  have S3 : PSC K yPartedHunt := ⟨⟨C3_pg, C3_hd, C3_po, C3_sa⟩, C3_n0, C3_n1, C3_n2, C3_n3, C3_n4⟩
  obtain ⟨dPI, FPI, _⟩ := MPI.fn
  have mPI := MPI.me
  have bPI := FPI.binds (ps := ["self", "one", "other"]) fun _ _ _ _ _ _ us hl => match us, hl with | [_, _, _], _ => rfl
  have GPI := ok_PI FPI S3 (PySem.W.mg_none_of X G z_dict) D_stems_of
  obtain ⟨dPS, FPS, _⟩ := MPS.fn
  have mPS := MPS.me
  have bPS := FPS.binds (ps := ["self"]) fun _ _ _ _ _ _ us hl => match us, hl with | [_], _ => rfl
  have GPS := ok_PS (P := l.prog) (w := w) (base := base) (k := 0) FPS C (PySem.W.mg_of X G gEVEN) hE
  obtain ⟨dPL, FPL, _⟩ := MPL.fn
  have mPL := MPL.me
  have bPL := FPL.binds (ps := ["self", "stem", "letter"]) fun _ _ _ _ _ _ us hl => match us, hl with | [_, _, _], _ => rfl
  have GPL := ok_PL (P := l.prog) (w := w) (mg := mg) (base := base) (k := 0) FPL S3
  obtain ⟨dPE, FPE, _⟩ := MPE.fn
  have mPE := MPE.me
  have bPE := FPE.binds (ps := ["self", "word"]) fun _ _ _ _ _ _ us hl => match us, hl with | [_, _], _ => rfl
  have GPE := ok_PE FPE S3 D_word_sounds
  obtain ⟨dPA, FPA, _⟩ := MPA.fn
  have mPA := MPA.me
  have bPA := FPA.binds (ps := ["self", "state", "letter"]) fun _ _ _ _ _ _ us hl => match us, hl with | [_, _, _], _ => rfl
  have GPA := ok_PA FPA S3 D_taken D_sounds_of D_lead_of GPL mPL bPL
  obtain ⟨dPF, FPF, _⟩ := MPF.fn
  have mPF := MPF.me
  have bPF := FPF.binds (ps := ["self", "state"]) fun _ _ _ _ _ _ us hl => match us, hl with | [_, _], _ => rfl
  have GPF := ok_PF FPF S3 D_ending_sounds GPE mPE bPE
  have Mk3_ : Mk K yPartedHunt gPI := ⟨C3_mk, mPI.at_, mPI.fn, C3_kc⟩
  have D_keepU : Df l.prog w K mg base "keep" ["leads", "state"] 1 (spKp l.prog w aEv) := ⟨_, _, ok_Kp F70 B KI_LEADS hV, F70.kp, b70, m70⟩
  have D_keepN : Df l.prog w K mg base "keep" ["leads", "state"] 1 (spKpN l.prog w aEv) := ⟨_, _, ok_KpN F70 B KI_LEADS hV, F70.kp, b70, m70⟩
  have b69 := F69.binds (ps := ["letters", "hunt"]) fun _ _ _ _ _ _ us hl => match us, hl with | [_, _], _ => rfl
  have D_lwU : Df l.prog w K mg base "least_word" ["letters", "hunt"] 7 (spLt yUseHunt) := ⟨_, _, ok_Lt F69 B S D_keepU GHS mHS bHS GHA mHA bHA GHF mHF bHF, F69.kp, b69, m69⟩
  have D_lwN : Df l.prog w K mg base "least_word" ["letters", "hunt"] 7 (spLtN yUnsaidHunt) := ⟨_, _, ok_LtN F69 B S2 D_keepN GNS mNS bNS GNA mNA bNA GNF mNF bNF, F69.kp, b69, m69⟩
  have D_lw : Df l.prog w K mg base "least_word" ["letters", "hunt"] 9 (spLtP yPartedHunt) := ⟨_, _, ok_LtP F69 B S3 D_keep GPS mPS bPS GPA mPA bPA GPF mPF bPF, F69.kp, b69, m69⟩
  have b77 := F77.binds (ps := ["book", "number"]) fun _ _ _ _ _ _ us hl => match us, hl with | [_, _], _ => rfl
  have D_us : Df l.prog w K mg base "use" ["book", "number"] 8 spUse := ⟨_, _, ok_Use F77 B D_checked_book D_is_count D_lwU (PySem.W.mg_of X G gUseHunt) Mk_ GIn bIn, F77.kp, b77, m77⟩
  have b79 := F79.binds (ps := ["book"]) fun _ _ _ _ _ _ us hl => match us, hl with | [_], _ => rfl
  have D_id : Df l.prog w K mg base "idle" ["book"] 8 spIdl := ⟨_, _, ok_Idl F79 B D_checked_book D_lwU (PySem.W.mg_of X G gUseHunt) Mk_ GIn bIn, F79.kp, b79, m79⟩
  have b78 := F78.binds (ps := ["book"]) fun _ _ _ _ _ _ us hl => match us, hl with | [_], _ => rfl
  have D_un : Df l.prog w K mg base "unsaid" ["book"] 8 spUn := ⟨_, _, ok_Un F78 D_checked_book D_lwN (PySem.W.mg_of X G gUnsaidHunt) Mk2_ GNI bNI, F78.kp, b78, m78⟩
  have b80 := F80.binds (ps := ["book"]) fun _ _ _ _ _ _ us hl => match us, hl with | [_], _ => rfl
  have D_fr : Df l.prog w K mg base "free" ["book"] 10 spFr := ⟨_, _, ok_Fr F80 B D_checked_book D_swapped D_lw (PySem.W.mg_of X G gPartedHunt) Mk3_ GPI bPI, F80.kp, b80, m80⟩
  exact ok_law l_law c_law (TB _ (List.mem_singleton.mpr rfl)) B WC_Unsaid F95 m95 G_said F57.kp b57 m57 G_walk F56.kp b56 m56 D__law_row D__law_book D__law_text D__law_turned D_fr D_id D_needless D_un D_us F62 G_writings m62 D__law_alike
end Say
open PySem PySem.W PyProof.Rows
set_option maxRecDepth 100000 in
set_option maxHeartbeats 0 in
theorem PySem.Challenge.cw_saylore_k25_whole_by_other_letters_and_s_holds : PySem.Challenge.rw_saylore_k25_whole_by_other_letters_and_s.Holds := by
  w_on; o_law; k_head; (case hw => w_witness2)
  k_fill
  refine LamX.walk_ofOwn (l := PySem.Challenge.rw_saylore_k25_whole_by_other_letters_and_s) (n := 63) (k := 11) (x := "_law_script") (CX := fun _ => L2.CX0) rfl (by decide) rfl ⟨rfl, by decide, by decide⟩ (by decide +kernel) (fun w h Y => PySem.W.km_in_of Y) ?F (fun _ _ _ _ _ h => h)
  case F =>
    intro w mg fa h KY KX G hmg OT
    refine' Say.all_ok KX G hmg OT (Say.std_mk ?a39 ?l39 ?c39 ?k39) (Say.std_mk ?a40 ?l40 ?c40 ?k40) (Say.std_mk ?a35 ?l35 ?c35 ?k35) (Say.std_mk ?a34 ?l34 ?c34 ?k34) (Say.std_mk ?a37 ?l37 ?c37 ?k37) (Say.std_mk ?a38 ?l38 ?c38 ?k38) (Say.std_mk ?a36 ?l36 ?c36 ?k36) (Say.std_mk ?a29 ?l29 ?c29 ?k29) (Say.std_mk ?a32 ?l32 ?c32 ?k32) (Say.std_mk ?a30 ?l30 ?c30 ?k30) (Say.std_mk ?a31 ?l31 ?c31 ?k31) (Say.std_mk ?a28 ?l28 ?c28 ?k28) (Say.std_mk ?a33 ?l33 ?c33 ?k33) (Say.std_mk ?a41 ?l41 ?c41 ?k41) (Say.std_mk ?a46 ?l46 ?c46 ?k46) (Say.std_mk ?a47 ?l47 ?c47 ?k47) (Say.std_mk ?a48 ?l48 ?c48 ?k48) (Say.std_mk ?a49 ?l49 ?c49 ?k49) (Say.std_mk ?a58 ?l58 ?c58 ?k58) (Say.std_mk ?a56 ?l56 ?c56 ?k56) (Say.std_mk ?a53 ?l53 ?c53 ?k53) (Say.std_mk ?a54 ?l54 ?c54 ?k54) (Say.std_mk ?a50 ?l50 ?c50 ?k50) (Say.std_mk ?a51 ?l51 ?c51 ?k51) (Say.std_mk ?a52 ?l52 ?c52 ?k52) (Say.std_mk ?a57 ?l57 ?c57 ?k57) (Say.std_mk ?a64 ?l64 ?c64 ?k64) (Say.std_mk ?a63 ?l63 ?c63 ?k63) (Say.stdD_mk ?a62 ?l62 ?c62 ?k62 ?d62) (Say.std_mk ?a70 ?l70 ?c70 ?k70) (Say.std_mk ?a71 ?l71 ?c71 ?k71) (Say.std_mk ?a72 ?l72 ?c72 ?k72) (Say.std_mk ?a69 ?l69 ?c69 ?k69) (Say.std_mk ?a77 ?l77 ?c77 ?k77) (Say.std_mk ?a78 ?l78 ?c78 ?k78) (Say.std_mk ?a79 ?l79 ?c79 ?k79) (Say.std_mk ?a82 ?l82 ?c82 ?k82) (Say.std_mk ?a80 ?l80 ?c80 ?k80) (Say.std_mk ?a81 ?l81 ?c81 ?k81) (Say.std_mk ?a84 ?l84 ?c84 ?k84) (Say.std_mk ?a85 ?l85 ?c85 ?k85) (Say.std_mk ?a86 ?l86 ?c86 ?k86) (Say.std_mk ?a87 ?l87 ?c87 ?k87) (Say.std_mk ?a88 ?l88 ?c88 ?k88) (Say.std_mk ?a89 ?l89 ?c89 ?k89) (Say.std_mk ?a90 ?l90 ?c90 ?k90) (Say.std_mk ?a91 ?l91 ?c91 ?k91) (Say.std_mk ?a92 ?l92 ?c92 ?k92) (Say.std_mk ?a93 ?l93 ?c93 ?k93) (Say.std_mk ?a94 ?l94 ?c94 ?k94) (Say.std_mk ?a95 ?l95 ?c95 ?k95) (Say.mstd_mk ?a_In ?i_In ?l_In ?c_In ?k_In) (Say.mstd_mk ?a_HS ?i_HS ?l_HS ?c_HS ?k_HS) (Say.mstd_mk ?a_HA ?i_HA ?l_HA ?c_HA ?k_HA) (Say.mstd_mk ?a_HF ?i_HF ?l_HF ?c_HF ?k_HF) (Say.mstd_mk ?a_NI ?i_NI ?l_NI ?c_NI ?k_NI) (Say.mstd_mk ?a_NS ?i_NS ?l_NS ?c_NS ?k_NS) (Say.mstd_mk ?a_NA ?i_NA ?l_NA ?c_NA ?k_NA) (Say.mstd_mk ?a_NF ?i_NF ?l_NF ?c_NF ?k_NF) (Say.mstd_mk ?a_PI ?i_PI ?l_PI ?c_PI ?k_PI) (Say.mstd_mk ?a_PS ?i_PS ?l_PS ?c_PS ?k_PS) (Say.mstd_mk ?a_PL ?i_PL ?l_PL ?c_PL ?k_PL) (Say.mstd_mk ?a_PE ?i_PE ?l_PE ?c_PE ?k_PE) (Say.mstd_mk ?a_PA ?i_PA ?l_PA ?c_PA ?k_PA) (Say.mstd_mk ?a_PF ?i_PF ?l_PF ?c_PF ?k_PF) ?a_law ?l_law ?c_law ?k_law ?z_len ?z_range ?z_tuple ?z_list ?z_isinstance ?z_str ?z_all ?z_enumerate ?z_sorted ?z_bool ?z_dict ?z_int ?c_small ?c_caps ?c_edge ?c_mrul ?c_lexc ?c_lrs ?c_lso ?c_imost_exceptions ?c_ilongest_word ?c_iown ?c_isounds ?c_isettling ?c_ilong ?c_ilongest_writing ?c_ileads ?z_super ?z_ValueError ?gSayError ?gBadBook ?gBadWord ?gBadSounds ?gBadCount ?gUnsaid ?gNoLetter ?gNoException ?gOtherLetters ?gBadSamples ?gBadDeed ?gHalted ?gBadText ?eS1 ?eS2 ?eS3 ?Unsaid_e4 ?Unsaid_kBadBook ?Unsaid_kBadWord ?Unsaid_kBadSounds ?Unsaid_kBadCount ?Unsaid_kUnsaid ?Unsaid_kNoLetter ?Unsaid_kNoException ?Unsaid_kOtherLetters ?Unsaid_kBadSamples ?Unsaid_kBadDeed ?Unsaid_kHalted ?Unsaid_kBadText ?Unsaid_kV ?Unsaid_noP ?Unsaid_noN ?Unsaid_noA ?Unsaid_noD ?Unsaid_noR ?Unsaid_ga ?Unsaid_gg ?Unsaid_hd ?Unsaid_ex ?Unsaid_ha ?Unsaid_hm ?x_hn ?x_ht ?xU ?u_sa ?u_iC ?u_tC ?u_kC ?u_tyC ?u_sup ?u_subV ?u_any ?u_main ?u_fn ?u_cd ?u_cell ?u_code ?u_vs ?u_file ?l_code ?l_vs ?l_v11 ?l_v18 ?l_v7 ?l_v9 ?l_v10 ?l_ne ?l_no ?gUseHunt ?C_pg ?C_hd ?C_po ?C_sa ?C_mk ?C_kc ?C_n0 ?C_n1 ?gUnsaidHunt ?C2_pg ?C2_hd ?C2_po ?C2_sa ?C2_mk ?C2_kc ?C2_n0 ?gPartedHunt ?C3_pg ?C3_hd ?C3_po ?C3_sa ?C3_mk ?C3_kc ?C3_n0 ?C3_n1 ?C3_n2 ?C3_n3 ?C3_n4 ?gEVEN ?ev_l ?ev_z ?ev_r ?gUNLIKE ?un_l ?un_z ?un_r
    (case a_law => k_is); (case z_len => k_is); (case z_range => k_is); (case z_tuple => k_is); (case z_list => k_is); (case z_isinstance => k_is)
    (case z_str => k_is); (case z_all => k_is); (case z_enumerate => k_is); (case z_sorted => k_is); (case z_bool => k_is); (case z_dict => k_is)
    (case z_int => k_is); (case c_small => k_is); (case c_caps => k_is); (case c_edge => k_is); (case c_mrul => k_is); (case c_lexc => k_is)
    (case c_lrs => k_is); (case c_lso => k_is); (case c_imost_exceptions => k_is); (case c_ilongest_word => k_is); (case c_iown => k_is); (case c_isounds => k_is)
    (case c_isettling => k_is); (case c_ilong => k_is); (case c_ilongest_writing => k_is); (case c_ileads => k_is); (case z_super => k_is); (case z_ValueError => k_is)
    (case gSayError => k_is); (case gBadBook => k_is); (case gBadWord => k_is); (case gBadSounds => k_is); (case gBadCount => k_is); (case gUnsaid => k_is)
    (case gNoLetter => k_is); (case gNoException => k_is); (case gOtherLetters => k_is); (case gBadSamples => k_is); (case gBadDeed => k_is); (case gHalted => k_is)
    (case gBadText => k_is); (case gUseHunt => k_is); (case gUnsaidHunt => k_is); (case gPartedHunt => k_is); (case gEVEN => k_is); (case gUNLIKE => k_is)
    (case a39 => k_is); (case l39 => k_is); (case c39 => k_is); (case k39 => k_is); (case a40 => k_is); (case l40 => k_is)
    (case c40 => k_is); (case k40 => k_is); (case a35 => k_is); (case l35 => k_is); (case c35 => k_is); (case k35 => k_is)
    (case a34 => k_is); (case l34 => k_is); (case c34 => k_is); (case k34 => k_is); (case a37 => k_is); (case l37 => k_is)
    (case c37 => k_is); (case k37 => k_is); (case a38 => k_is); (case l38 => k_is); (case c38 => k_is); (case k38 => k_is)
    (case a36 => k_is); (case l36 => k_is); (case c36 => k_is); (case k36 => k_is); (case a29 => k_is); (case l29 => k_is)
    (case c29 => k_is); (case k29 => k_is); (case a32 => k_is); (case l32 => k_is); (case c32 => k_is); (case k32 => k_is)
    (case a30 => k_is); (case l30 => k_is); (case c30 => k_is); (case k30 => k_is); (case a31 => k_is); (case l31 => k_is)
    (case c31 => k_is); (case k31 => k_is); (case a28 => k_is); (case l28 => k_is); (case c28 => k_is); (case k28 => k_is)
    (case a33 => k_is); (case l33 => k_is); (case c33 => k_is); (case k33 => k_is); (case a41 => k_is); (case l41 => k_is)
    (case c41 => k_is); (case k41 => k_is); (case a46 => k_is); (case l46 => k_is); (case c46 => k_is); (case k46 => k_is)
    (case a47 => k_is); (case l47 => k_is); (case c47 => k_is); (case k47 => k_is); (case a48 => k_is); (case l48 => k_is)
    (case c48 => k_is); (case k48 => k_is); (case a49 => k_is); (case l49 => k_is); (case c49 => k_is); (case k49 => k_is)
    (case a58 => k_is); (case l58 => k_is); (case c58 => k_is); (case k58 => k_is); (case a56 => k_is); (case l56 => k_is)
    (case c56 => k_is); (case k56 => k_is); (case a53 => k_is); (case l53 => k_is); (case c53 => k_is); (case k53 => k_is)
    (case a54 => k_is); (case l54 => k_is); (case c54 => k_is); (case k54 => k_is); (case a50 => k_is); (case l50 => k_is)
    (case c50 => k_is); (case k50 => k_is); (case a51 => k_is); (case l51 => k_is); (case c51 => k_is); (case k51 => k_is)
    (case a52 => k_is); (case l52 => k_is); (case c52 => k_is); (case k52 => k_is); (case a57 => k_is); (case l57 => k_is)
    (case c57 => k_is); (case k57 => k_is); (case a64 => k_is); (case l64 => k_is); (case c64 => k_is); (case k64 => k_is)
    (case a63 => k_is); (case l63 => k_is); (case c63 => k_is); (case k63 => k_is); (case a62 => k_is); (case l62 => k_is)
    (case c62 => k_is); (case k62 => k_is); (case d62 => k_is); (case a70 => k_is); (case l70 => k_is); (case c70 => k_is)
    (case k70 => k_is); (case a71 => k_is); (case l71 => k_is); (case c71 => k_is); (case k71 => k_is); (case a72 => k_is)
    (case l72 => k_is); (case c72 => k_is); (case k72 => k_is); (case a69 => k_is); (case l69 => k_is); (case c69 => k_is)
    (case k69 => k_is); (case a77 => k_is); (case l77 => k_is); (case c77 => k_is); (case k77 => k_is); (case a78 => k_is)
    (case l78 => k_is); (case c78 => k_is); (case k78 => k_is); (case a79 => k_is); (case l79 => k_is); (case c79 => k_is)
    (case k79 => k_is); (case a82 => k_is); (case l82 => k_is); (case c82 => k_is); (case k82 => k_is); (case a80 => k_is)
    (case l80 => k_is); (case c80 => k_is); (case k80 => k_is); (case a81 => k_is); (case l81 => k_is); (case c81 => k_is)
    (case k81 => k_is); (case a84 => k_is); (case l84 => k_is); (case c84 => k_is); (case k84 => k_is); (case a85 => k_is)
    (case l85 => k_is); (case c85 => k_is); (case k85 => k_is); (case a86 => k_is); (case l86 => k_is); (case c86 => k_is)
    (case k86 => k_is); (case a87 => k_is); (case l87 => k_is); (case c87 => k_is); (case k87 => k_is); (case a88 => k_is)
    (case l88 => k_is); (case c88 => k_is); (case k88 => k_is); (case a89 => k_is); (case l89 => k_is); (case c89 => k_is)
    (case k89 => k_is); (case a90 => k_is); (case l90 => k_is); (case c90 => k_is); (case k90 => k_is); (case a91 => k_is)
    (case l91 => k_is); (case c91 => k_is); (case k91 => k_is); (case a92 => k_is); (case l92 => k_is); (case c92 => k_is)
    (case k92 => k_is); (case a93 => k_is); (case l93 => k_is); (case c93 => k_is); (case k93 => k_is); (case a94 => k_is)
    (case l94 => k_is); (case c94 => k_is); (case k94 => k_is); (case a95 => k_is); (case l95 => k_is); (case c95 => k_is)
    (case k95 => k_is); (case a_In => k_is); (case i_In => k_is); (case l_In => k_is); (case c_In => k_is); (case k_In => k_is)
    (case a_HS => k_is); (case i_HS => k_is); (case l_HS => k_is); (case c_HS => k_is); (case k_HS => k_is); (case a_HA => k_is)
    (case i_HA => k_is); (case l_HA => k_is); (case c_HA => k_is); (case k_HA => k_is); (case a_HF => k_is); (case i_HF => k_is)
    (case l_HF => k_is); (case c_HF => k_is); (case k_HF => k_is); (case a_NI => k_is); (case i_NI => k_is); (case l_NI => k_is)
    (case c_NI => k_is); (case k_NI => k_is); (case a_NS => k_is); (case i_NS => k_is); (case l_NS => k_is); (case c_NS => k_is)
    (case k_NS => k_is); (case a_NA => k_is); (case i_NA => k_is); (case l_NA => k_is); (case c_NA => k_is); (case k_NA => k_is)
    (case a_NF => k_is); (case i_NF => k_is); (case l_NF => k_is); (case c_NF => k_is); (case k_NF => k_is); (case a_PI => k_is)
    (case i_PI => k_is); (case l_PI => k_is); (case c_PI => k_is); (case k_PI => k_is); (case a_PS => k_is); (case i_PS => k_is)
    (case l_PS => k_is); (case c_PS => k_is); (case k_PS => k_is); (case a_PL => k_is); (case i_PL => k_is); (case l_PL => k_is)
    (case c_PL => k_is); (case k_PL => k_is); (case a_PE => k_is); (case i_PE => k_is); (case l_PE => k_is); (case c_PE => k_is)
    (case k_PE => k_is); (case a_PA => k_is); (case i_PA => k_is); (case l_PA => k_is); (case c_PA => k_is); (case k_PA => k_is)
    (case a_PF => k_is); (case i_PF => k_is); (case l_PF => k_is); (case c_PF => k_is); (case k_PF => k_is); (case l_law => k_is)
    (case c_law => k_is); (case k_law => k_is); (case eS1 => k_is); (case eS2 => k_is); (case eS3 => k_is); (case Unsaid_e4 => k_is)
    (case Unsaid_kBadBook => kit_is); (case Unsaid_kBadWord => kit_is); (case Unsaid_kBadSounds => kit_is); (case Unsaid_kBadCount => kit_is); (case Unsaid_kUnsaid => kit_is); (case Unsaid_kNoLetter => kit_is)
    (case Unsaid_kNoException => kit_is); (case Unsaid_kOtherLetters => kit_is); (case Unsaid_kBadSamples => kit_is); (case Unsaid_kBadDeed => kit_is); (case Unsaid_kHalted => kit_is); (case Unsaid_kBadText => kit_is)
    (case Unsaid_kV => kit_is); (case Unsaid_noP => k_is); (case Unsaid_noN => k_is); (case Unsaid_noA => k_is); (case Unsaid_noD => k_is); (case Unsaid_noR => k_is)
    (case Unsaid_ga => k_is); (case Unsaid_gg => k_is); (case Unsaid_hd => k_is); (case Unsaid_ex => k_is); (case Unsaid_ha => k_is); (case Unsaid_hm => k_is)
    (case x_hn => k_is); (case x_ht => k_is); (case xU => k_is); (case u_sa => k_is); (case u_iC => k_is); (case u_tC => k_is)
    (case u_kC => k_is); (case u_tyC => k_is); (case u_sup => ks_is); (case u_subV => k_is); (case u_any => k_is); (case u_main => decide +kernel)
    (case u_fn => k_is); (case u_cd => k_is); (case u_cell => k_is); (case u_code => k_is); (case u_vs => rfl); (case u_file => decide +kernel)
    (case l_code => k_is); (case l_vs => rfl); (case l_v11 => rfl); (case l_v18 => rfl); (case l_v7 => rfl); (case l_v9 => rfl)
    (case l_v10 => rfl); (case l_ne => decide +kernel); (case l_no => kernel_rfl); (case C_pg => k_is); (case C_hd => k_is); (case C_po => k_is)
    (case C_sa => k_is); (case C_mk => k_is); (case C_kc => k_is); (case C_n0 => k_is); (case C_n1 => k_is); (case C2_pg => k_is)
    (case C2_hd => k_is); (case C2_po => k_is); (case C2_sa => k_is); (case C2_mk => k_is); (case C2_kc => k_is); (case C2_n0 => k_is)
    (case C3_pg => k_is); (case C3_hd => k_is); (case C3_po => k_is); (case C3_sa => k_is); (case C3_mk => k_is); (case C3_kc => k_is)
    (case C3_n0 => k_is); (case C3_n1 => k_is); (case C3_n2 => k_is); (case C3_n3 => k_is); (case C3_n4 => k_is); (case ev_l => k_is)
    (case ev_z => decide +kernel); (case ev_r => exact .cons ⟨_, rfl⟩ (.cons ⟨_, rfl⟩ .nil)); (case un_l => k_is); (case un_z => decide +kernel); (case un_r => exact .cons ⟨_, rfl⟩ (.cons ⟨_, rfl⟩ .nil))
