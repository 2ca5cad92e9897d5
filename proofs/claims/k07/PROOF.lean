import PyProof.Rows.All
import Wide.All
import OpenK.AllK
import Wide.FinOn
import HandS.ForMost
import HandS.IsInst
import HandS.Walk
import HandS.SortRule
import HandS.DictTup
import HandS.ListItems
import HandS.Conv
import HandS.More
import KE.GoesEnum
import KE.GoesMore
import PySem.Challenge.RW_saylore_k07_whole_taken_back
import HandS.ForExc
import HandS.FStr
import HandS.ExcInit
import KE.KExcSuper
import HandS.Steps
import HandS.SetFor
import HandS.ExcIs
import HandS.ExcField
import KE.KExcIs
import HandS.Lambda
import HandS.EndOwn
import KE.KNestM
import KE.RegKSuper
import KE.KDictPairs
import KE.KDflt
import HandS.Style
set_option Elab.async false
set_option linter.all false
set_option maxRecDepth 100000
set_option maxHeartbeats 16000000
namespace Say
open PySem PySem.Spec PyProof.Rows L2
/-! ### the text by places -/
def topS (i : Nat) : Stmt := PySem.Challenge.pw_saylore_k07_whole_taken_back.main.body.getD i (.Pass ⟨0, 0, 0, 0⟩)
/-! ### texts as lists of signs -/
abbrev T (l : List Nat) : Str := ⟨l.toArray⟩
theorem T_list (z : Str) : T z.cps.toList = z := by
  cases z; rfl
@[simp] theorem T_cps (l : List Nat) : (T l).cps.toList = l := rfl
theorem T_len (l : List Nat) : (T l).length = l.length := by
  show l.toArray.size = l.length
  simp
theorem T_inj {a b : List Nat} (h : T a = T b) : a = b := by
  have := congrArg (fun z : Str => z.cps.toList) h
  exact this
/-! ### heaps -/
/-- all that was tracked is as it was, but at r -/
def Stp (r : Addr) (H H' : Hp) : Prop := ∀ b o, H b = some o → b ≠ r → H' b = some o
theorem Stp.refl (r : Addr) (H : Hp) : Stp r H H := fun _ _ h _ => h
theorem Stp.trans {r : Addr} {H H1 H2 : Hp} (a : Stp r H H1) (b : Stp r H1 H2) : Stp r H H2 := fun c o h n => b c o (a c o h n) n
theorem Stp.of {r : Addr} {H H' : Hp} (e : Same H H') : Stp r H H' := fun b o h _ => e b o h
theorem Stp.seq {K : PySem.W.Frag} {r a : Addr} {H H' : Hp} {xs : List V} (e : Stp r H H') (n : a ≠ r) (h : SqL K H a xs) : SqL K H' a xs := by
  rcases h with (h | ⟨o, h⟩) | h
  · exact .inl (.inl (e _ _ h n))
  · exact .inl (.inr ⟨o, e _ _ h n⟩)
  · exact .inr h
theorem same_new {H : Hp} {p : Addr} (h : H p = none) (o : HO) : Same H (upd H p o) := fun b u q => by rw [upd_ne (ne_of_none q h)]; exact q
theorem stp_at {r : Addr} {H : Hp} (o : HO) : Stp r H (upd H r o) := fun b u q n => by rw [upd_ne n]; exact q
/-- tuples stay (frozen ones: as they were made) -/
def KT (H H' : Hp) : Prop := (∀ t xs, H t = some (.tup xs) → H' t = some (.tup xs)) ∧ ∀ t o xs, H t = some (.frz o (.tup xs)) → H' t = some (.frz o (.tup xs))
theorem KT.by {H H' : Hp} (f : ∀ t u, H t = some u → ((∃ xs, u = .tup xs) ∨ ∃ o xs, u = .frz o (.tup xs)) → H' t = some u) : KT H H' := ⟨fun t xs h => f t _ h (.inl ⟨xs, rfl⟩), fun t o xs h => f t _ h (.inr ⟨o, xs, rfl⟩)⟩
theorem KT.refl (H : Hp) : KT H H := ⟨fun _ _ h => h, fun _ _ _ h => h⟩
theorem KT.trans {H H1 H2 : Hp} (a : KT H H1) (b : KT H1 H2) : KT H H2 := ⟨fun t xs h => b.1 t xs (a.1 t xs h), fun t o xs h => b.2 t o xs (a.2 t o xs h)⟩
theorem KT.of {H H' : Hp} (e : Same H H') : KT H H' := ⟨fun t xs h => e t _ h, fun t o xs h => e t _ h⟩
/-- the row that is drawn from: the script at a -/
structure RowAt (K : PySem.W.Frag) (H : Hp) (r a : Addr) (ns : List Int) : Prop where
  row : ∃ i c m : Int, H r = some (.lst [.ref a, .int i, .int c, .int m]) ∧ 0 ≤ i ∧ 0 ≤ m ∧ m < 2147483647
  scr : SqL K H a (ns.map V.int)
  le : ns.length ≤ 63
theorem ints_ne {ns : List Int} {a : Addr} {l : List V} : ns.map V.int ≠ V.ref a :: l := by
  cases ns with
  | nil => intro z; cases z
  | cons x r => intro z; cases z
theorem Stp.scr {K : PySem.W.Frag} {r a : Addr} {H H' : Hp} {ns : List Int} {l : List V} (e : Stp r H H') (hr : H r = some (.lst (.ref a :: l))) (h : SqL K H a (ns.map V.int)) : SqL K H' a (ns.map V.int) := by
  rcases h with (h | ⟨o, h⟩) | h
  · refine .inl (.inl (e _ _ h fun z => ?_))
    subst z
    rw [hr] at h
    exact ints_ne (HO.lst.inj (Option.some.inj h)).symm
  · refine .inl (.inr ⟨o, e _ _ h fun z => ?_⟩)
    subst z
    rw [hr] at h
    cases h
  · exact .inr h
theorem RowAt.stp {K : PySem.W.Frag} {H H' : Hp} {r a : Addr} {ns : List Int} (R : RowAt K H r a ns) (e : Same H H') : RowAt K H' r a ns := by
  obtain ⟨⟨i, c, m, h, q⟩, s, l⟩ := R
  exact ⟨⟨i, c, m, e _ _ h, q⟩, e.seq s, l⟩
theorem RowAt.kt {K : PySem.W.Frag} {H H' : Hp} {r a : Addr} {ns : List Int} (R : RowAt K H r a ns) (e : Stp r H H') : KT H H' := KT.by fun t u h hu => by
  obtain ⟨⟨i, c, m, q, _⟩, _⟩ := R
  exact e t _ h (ne_of h q (by rcases hu with ⟨_, rfl⟩ | ⟨_, _, rfl⟩ <;> (intro z; cases z)))
theorem RowAt.put {K : PySem.W.Frag} {H : Hp} {r a : Addr} {ns : List Int} (R : RowAt K H r a ns) {i c m : Int} (h0 : 0 ≤ i) (h1 : 0 ≤ m) (h2 : m < 2147483647) : RowAt K (upd H r (.lst [.ref a, .int i, .int c, .int m])) r a ns := by
  obtain ⟨⟨i', c', m', q, _⟩, s, l⟩ := R
  exact ⟨⟨i, c, m, upd_same, h0, h1, h2⟩, (stp_at _).scr q s, l⟩
theorem small {n : Nat} (h : n ≤ 16000000) : n ≤ sizeLine := Nat.le_trans h (by decide)
theorem smallM {n : Nat} (h : n ≤ 16000000) : n < sizeLine := Nat.lt_of_le_of_lt h (by decide)
/-- law's promise -/
def spLaw (K : PySem.W.Frag) : Sp := fun vs H Q _ => ∃ (a : Addr) (ns : List Int), vs = [.ref a] ∧ SqL K H a (ns.map V.int) ∧ ns.length ≤ 63 ∧ ∀ H', Q (.bl true) H'
/-- _law_taken -/
def spTaken (K : PySem.W.Frag) : Sp := fun vs H Q _ => ∃ (r a : Addr) (ns : List Int) (n : Int), vs = [.ref r, .int n] ∧ RowAt K H r a ns ∧ 0 < n ∧ n < 1000 ∧
  ∀ (k : Int) (H' : Hp), 0 ≤ k → k < n → Stp r H H' → RowAt K H' r a ns → Q (.int k) H'
end Say
namespace Say
open PySem PySem.Spec PyProof.Rows L2
theorem T_app (a b : List Nat) : T a ++ T b = T (a ++ b) := TL.ext_tl (by rw [TL.tl_append])
theorem hash_eq : ("#" : Str) = T [35] := by decide +kernel
theorem nil_eq : ("" : Str) = T [] := by decide +kernel
theorem joinL_nil : ∀ ls : List (List Nat), TL.joinL [] ls = ls.flatten
  | [] => rfl
  | [p] => by simp [TL.joinL]
  | p :: q :: r => by
    show p ++ ([] ++ TL.joinL [] (q :: r)) = _
    rw [joinL_nil (q :: r)]
    simp
theorem join_nil (ls : List (List Nat)) : Txt.join (T []) (ls.map T) = T ls.flatten := by
  refine TL.ext_tl ?_
  rw [TL.join_eq, TL.tl_join]
  show TL.joinL [] ((ls.map T).map TL.tl) = ls.flatten
  rw [List.map_map, ← joinL_nil]
  congr 1
  exact List.map_id' ls
theorem map_single : ∀ l : List Nat, (l.map fun c => [c]).flatten = l
  | [] => rfl
  | c :: r => by
    show [c] ++ (r.map fun c => [c]).flatten = c :: r
    rw [map_single r]; rfl
/-- the row's own list -/
def RowIn (H : Hp) (r a : Addr) : Prop := ∃ i c m : Int, H r = some (.lst [.ref a, .int i, .int c, .int m]) ∧ 0 ≤ i ∧ 0 ≤ m ∧ m < 2147483647
theorem RowAt.in {K : PySem.W.Frag} {H : Hp} {r a : Addr} {ns : List Int} (R : RowAt K H r a ns) : RowIn H r a := R.row
theorem RowAt.of {K : PySem.W.Frag} {H H' : Hp} {r a : Addr} {ns : List Int} (R : RowAt K H r a ns) (e : Stp r H H') (w : RowIn H' r a) : RowAt K H' r a ns := by
  obtain ⟨⟨i, c, m, q, _⟩, s, l⟩ := R
  exact ⟨w, e.scr q s, l⟩
theorem RowIn.upd {H : Hp} {r a D : Addr} {o : HO} (w : RowIn H r a) (n : r ≠ D) : RowIn (upd H D o) r a := by
  obtain ⟨i, c, m, q, b⟩ := w
  exact ⟨i, c, m, by rw [upd_ne n]; exact q, b⟩
theorem RowAt.nw {K : PySem.W.Frag} {H : Hp} {r a D : Addr} {ns : List Int} (R : RowAt K H r a ns) (h : H D = none) : r ≠ D := by
  obtain ⟨⟨i, c, m, q, _⟩, s, l⟩ := R
  exact ne_of_none q h
theorem Stp.put {r D : Addr} {H H' : Hp} (e : Stp r H H') (h : H D = none) (o : HO) : Stp r H (upd H' D o) := fun b u q n => by
  rw [upd_ne (ne_of_none q h)]
  exact e b u q n
theorem Stp.one {r D : Addr} {H H' : Hp} {o : HO} (e : Stp r H H') (h : H D = some o) (n : r ≠ D) : H' D = some o := e _ _ h (Ne.symm n)
/-- signs of a text, a list of one-sign texts -/
def sg (l : List Nat) : List V := l.map fun c => V.str (T [c])
theorem sg_map (l : List Nat) : sg l = ((l.map fun c => [c]).map T).map V.str := by
  unfold sg
  rw [List.map_map, List.map_map]
  rfl
theorem sg_len (l : List Nat) : (sg l).length = l.length := by unfold sg; rw [List.length_map]
theorem sum_ones : ∀ l : List Nat, (((l.map fun c => [c]).map T).map (fun z : Str => z.length)).sum = l.length
  | [] => rfl
  | c :: r => by
    show 1 + (((r.map fun c => [c]).map T).map (fun z : Str => z.length)).sum = r.length + 1
    rw [sum_ones r]; omega
end Say
namespace Say
open PySem PySem.Spec PyProof.Rows L2
/-- a def that stands at the module's name and keeps its promise -/
def Df (P : Program) (w : World) (K : PySem.W.Frag) (mg : Str → Option Value) (base : Heap) (x : Str) (ps : List Str) (k : Nat) (sp : Sp) : Prop :=
  ∃ f fd, FnOk P w K mg base CX0 k f fd ps sp ∧ PySem.W.keepIn K (.ref f) = true ∧ Binds K fd ps [] ∧ mg x = some (.ref f)
theorem hash_app (L : List Nat) : (Str.ofString "#" ++ T L) = T (35 :: L) := by
  rw [show Str.ofString "#" = T [35] from hash_eq, T_app]
  rfl
theorem app_hash (L : List Nat) : (T L ++ Str.ofString "#") = T (L ++ [35]) := by
  rw [show Str.ofString "#" = T [35] from hash_eq, T_app]
theorem T_at {l : List Nat} {i c : Nat} (h : (T l).cps[i]? = some c) : l[i]? = some c := by
  have h : l.toArray[i]? = some c := h
  rw [List.getElem?_toArray] at h
  exact h
theorem T_at' {l : List Nat} {i c : Nat} (h : l[i]? = some c) : (T l).cps[i]? = some c := by
  show l.toArray[i]? = some c
  rw [List.getElem?_toArray]
  exact h
theorem T_size (l : List Nat) : (T l).cps.size = l.length := by
  show l.toArray.size = _
  simp
theorem take_next {l : List Nat} {i c : Nat} (h : l[i]? = some c) : l.take (i + 1) = l.take i ++ [c] := by
  rw [List.take_add_one, h]; rfl
theorem sg_app (a : List Nat) (c : Nat) : sg a ++ [V.str (T [c])] = sg (a ++ [c]) := by
  unfold sg
  rw [List.map_append]
  rfl
theorem len_hash : (Str.ofString "#").length = 1 := by decide +kernel
end Say
namespace Say
open PySem PySem.Spec PyProof.Rows L2
theorem at_list {α : Type} {l : List α} {z : Int} (h : z.toNat < l.length) (h0 : 0 ≤ z) : atI l z = some l[z.toNat] := by
  have q : l[z.toNat]? = some l[z.toNat] := List.getElem?_eq_getElem h
  have := atI_nat q
  rwa [show ((z.toNat : Nat) : Int) = z by omega] at this
end Say
namespace Say
open PySem PySem.Spec PyProof.Rows L2
/-! ### the data -/
structure Rule where
  ah : List Nat
  ow : List Nat
  be : List Nat
  so : List Nat
def Rule.vs (ρ : Rule) : List V := [.str (T ρ.ah), .str (T ρ.ow), .str (T ρ.be), .str (T ρ.so)]
/-- a rule of a book of the letters L -/
structure RuleOk (L : List Nat) (ρ : Rule) : Prop where
  ah : ρ.ah.Sublist (35 :: L)
  ow : ∀ c ∈ ρ.ow, c ∈ L
  o1 : 1 ≤ ρ.ow.length
  o2 : ρ.ow.length ≤ 2
  be : ρ.be.Sublist (35 :: L)
  so : ∀ c ∈ ρ.so, 65 ≤ c ∧ c ≤ 90
  s3 : ρ.so.length ≤ 3
/-- the tuple at R holds the rules -/
def RulesAt (H : Hp) (R : Addr) (rs : List Rule) : Prop := ∃ ts : List Addr, H R = some (.tup (ts.map V.ref)) ∧ Paired (fun t ρ => H t = some (.tup (Rule.vs ρ))) ts rs
theorem paired_mono {α β : Type} {F G : α → β → Prop} (h : ∀ x y, F x y → G x y) : ∀ {xs : List α} {ys : List β}, Paired F xs ys → Paired G xs ys
  | _, _, .nil => .nil
  | _, _, .cons a b => .cons (h _ _ a) (paired_mono h b)
theorem paired_app {α β : Type} {F : α → β → Prop} : ∀ {xs : List α} {ys : List β} {xs' : List α} {ys' : List β}, Paired F xs ys → Paired F xs' ys' → Paired F (xs ++ xs') (ys ++ ys')
  | _, _, _, _, .nil, h => h
  | _, _, _, _, .cons a b, h => .cons a (paired_app b h)
theorem paired_len {α β : Type} {F : α → β → Prop} : ∀ {xs : List α} {ys : List β}, Paired F xs ys → xs.length = ys.length
  | _, _, .nil => rfl
  | _, _, .cons a b => by simp [paired_len b]
theorem paired_at {α β : Type} {F : α → β → Prop} : ∀ {xs : List α} {ys : List β}, Paired F xs ys → ∀ {i : Nat} {x : α}, xs[i]? = some x → ∃ y, ys[i]? = some y ∧ F x y
  | _, _, .nil, i, x, h => by cases h
  | _, _, .cons r t, 0, x, h => by
    have e := Option.some.inj h
    subst e
    exact ⟨_, rfl, r⟩
  | _, _, .cons r t, i + 1, x, h => paired_at t h
theorem paired_at' {α β : Type} {F : α → β → Prop} : ∀ {xs : List α} {ys : List β}, Paired F xs ys → ∀ {i : Nat} {y : β}, ys[i]? = some y → ∃ x, xs[i]? = some x ∧ F x y
  | _, _, .nil, i, x, h => by cases h
  | _, _, .cons r t, 0, x, h => by
    have e := Option.some.inj h
    subst e
    exact ⟨_, rfl, r⟩
  | _, _, .cons r t, i + 1, x, h => paired_at' t h
theorem RulesAt.kt {H H' : Hp} {R : Addr} {rs : List Rule} (h : RulesAt H R rs) (e : KT H H') : RulesAt H' R rs := by
  obtain ⟨ts, h1, h2⟩ := h
  exact ⟨ts, e.1 _ _ h1, paired_mono (fun t ρ q => e.1 _ _ q) h2⟩
theorem Stp.kt {r a : Addr} {H H' : Hp} (e : Stp r H H') (w : RowIn H r a) : KT H H' := KT.by fun t u h hu => by
  obtain ⟨i, c, m, q, _⟩ := w
  exact e t _ h (ne_of h q (by rcases hu with ⟨_, rfl⟩ | ⟨_, _, rfl⟩ <;> (intro z; cases z)))
theorem kt_new {H : Hp} {D : Addr} {o : HO} (h : H D = none) : KT H (upd H D o) := KT.of (same_new h o)
theorem kt_upd {H : Hp} {D : Addr} {l : List V} {o : HO} (h : H D = some (.lst l)) : KT H (upd H D o) := KT.by fun t u q hu => by
  rw [upd_ne (ne_of q h (by rcases hu with ⟨_, rfl⟩ | ⟨_, _, rfl⟩ <;> (intro z; cases z)))]
  exact q
end Say
namespace Say
open PySem PySem.Spec PyProof.Rows L2
/-- the built-in names that the text leaves alone -/
structure Bn (mg : Str → Option Value) : Prop where
  len : mg "len" = none
  rng : mg "range" = none
  tup : mg "tuple" = none
  lst : mg "list" = none
  isi : mg "isinstance" = none
  str : mg "str" = none
  all : mg "all" = none
  enu : mg "enumerate" = none
  srt : mg "sorted" = none
  bool : mg "bool" = none
def isText (l S : List Nat) (lo hi : Nat) : Bool := decide (lo ≤ l.length) && (decide (l.length ≤ hi) && l.all fun c => decide (c ∈ S))
theorem isText_of {l S : List Nat} {lo hi : Nat} (h1 : lo ≤ l.length) (h2 : l.length ≤ hi) (h3 : ∀ c ∈ l, c ∈ S) : isText l S lo hi = true := by
  unfold isText
  rw [decide_eq_true h1, decide_eq_true h2]
  simp only [Bool.true_and, List.all_eq_true, decide_eq_true_eq]
  exact h3
/-- each sign is more than the one ahead -/
def rises : List Nat → Bool
  | a :: b :: r => decide (a < b) && rises (b :: r)
  | _ => true
end Say
namespace Say
open PySem PySem.Spec PyProof.Rows L2
theorem atI_of {α : Type} {xs : List α} {z : Int} {j : Nat} {v : α} (h : xs[j]? = some v) (e : z = (j : Int)) : atI xs z = some v := by
  rw [e]
  exact atI_nat h
end Say
namespace Say
open PySem PySem.Spec PyProof.Rows L2
section
variable {P : Program} {w : World} {K : PySem.W.Frag} {mg : Str → Option Value} {base : Heap}
abbrev sIsText : Stmt := topS 37
theorem scIsText : FnScope ["text", "signs", "least", "most", "sign"] ["text", "signs", "least", "most"] (defScope sIsText) := ⟨rfl, rfl, rfl, by decide +kernel, rfl, by decide +kernel, by decide +kernel⟩
def spIsText : Sp := fun vs H Q _ => ∃ (l S : List Nat) (lo hi : Nat), vs = [.str (T l), .str (T S), .int lo, .int hi] ∧ l.length ≤ 100 ∧
  ∀ (H' : Hp), Same H H' → Q (.bl (isText l S lo hi)) H'
theorem ok_isText {f : Addr} {fd : FuncData} (F : Fun K "is_text" "is_text" sIsText f fd) (B : Bn mg) :
    FnOk P w K mg base CX0 1 f fd ["text", "signs", "least", "most"] spIsText := by
  refine F.ok scIsText (fun vs H Q E h => ?_) (fun cdv A outer s H vs Q E hr h => ?_)
  · obtain ⟨l, S, lo, hi, rfl, _⟩ := h
    rfl
  · obtain ⟨l, S, lo, hi, rfl, hz, q⟩ := h
    refine ⟨_, pss_cons (ps_if (PW.pt (pw_or (pt_not (pt_val (pe_callB call_isi (by rfl) B.isi (by decide +kernel) (pa_cons (pv 0) (pa_cons (pe_bltn (v := .ty "str") rfl B.str (by decide +kernel) rfl) pa_nil)))))
          (pw_or1 (pt_not (pt_chain op_le op_le (pv 2) (pe_callB call_len_str (by rfl) B.len PySem.boot_len (pa_cons (pv 0) pa_nil)) (pv 3)))))) (pss_one (ps_ret pe_bl)) pss_nil)
      (pss_one (ps_ret (pe_callB (cr_all rfl) (by rfl) B.all (by decide +kernel) (pa_cons (pe_lc (own := [("sign", 4)]) (g := gName 4) rfl scIsText.nd (pi_str (pv 0))
        (blkOk_by (N := ["text", "signs", "least", "most", "sign"]) (sc := defScope sIsText) (by decide +kernel)) (fun _ _ _ _ _ => pg_name (i := 4) scIsText.nd rfl (.inl rfl))
        (fun _ _ _ _ _ => pts_nil) (fun _ _ _ _ _ => pe_cmpR op_in_sign (pv 4) (pv 1) rfl)) pa_nil)))), ?_⟩
    refine ⟨_, rfl, _, _, .type "str", _, true, rfl, ClsV.ty _, .base (.str _), kit_ty (by decide +kernel), true, rfl, ?_⟩
    refine iteF ?_
    have hlen : (T l).length ≤ sizeLine := by rw [T_len]; exact small (by omega)
    refine ⟨_, rfl, _, rfl, _, rfl, hlen, _, _, rfl, rfl, _, rfl, ?_⟩
    have eT : (lo : Int) ≤ ((T l).length : Int) ↔ lo ≤ l.length := by rw [T_len]; omega
    have eU : ((T l).length : Int) ≤ (hi : Int) ↔ l.length ≤ hi := by rw [T_len]; omega
    refine ite2 (fun c1 => ?_) (fun c1 => ?_)
    · refine ⟨_, rfl, _, _, rfl, rfl, _, rfl, ?_⟩
      have c1' := eT.mp (of_decide_eq_true c1)
      by_cases c2 : ((T l).length : Int) ≤ (hi : Int)
      · rw [decide_eq_true c2]
        have c2' := eU.mp c2
        refine iteF ?_
        refine ⟨_, rfl, T l, rfl, fun D hD => ?_⟩
        refine lc_it (walk_str) (fun i H2 => H2 D = some (.lst (((l.take i).map fun c => decide (c ∈ S)).map V.bl)) ∧ Same H H2) ?_ (fun _ _ _ _ => trivial) ?_ ?_
        · exact ⟨upd_same, same_new hD _⟩
        · rintro i x H2 H2' hi' ⟨e1, e2⟩ ⟨rfl, c, hc, rfl⟩
          have hc := T_at hc
          refine ⟨rfl, ?_⟩
          refine ⟨_, rfl, _, rfl, c, T S, rfl, rfl, _, e1, ?_, ?_, ?_⟩
          · rw [List.length_map, List.length_map, List.length_take]
            exact small1000 (by omega)
          · rw [upd_same, take_next hc, List.map_append, List.map_append]
            rfl
          · exact fun b u q => by
              rw [upd_ne (ne_of_none q hD)]
              exact e2 b u q
        · rintro H2 ⟨e1, e2⟩
          rw [T_size, List.take_length] at e1
          refine ⟨D, _, rfl, .inl (.inl e1), ?_⟩
          have := q H2 e2
          unfold isText at this
          rw [decide_eq_true c1', decide_eq_true c2', Bool.true_and, Bool.true_and] at this
          rw [List.all_map]
          exact this
      · rw [decide_eq_false c2]
        refine iteT ?_
        have := q H (Same.refl H)
        unfold isText at this
        rw [decide_eq_false (fun z => c2 (eU.mpr z)), Bool.false_and, Bool.and_false] at this
        exact this
    · refine ⟨_, rfl, iteT ?_⟩
      have := q H (Same.refl H)
      unfold isText at this
      rw [decide_eq_false (fun z => c1 (decide_eq_true (eT.mpr z))), Bool.false_and] at this
      exact this
end
end Say
namespace Say
open PySem PySem.Spec PyProof.Rows L2
section
variable {P : Program} {w : World} {K : PySem.W.Frag} {mg : Str → Option Value} {base : Heap}
abbrev sRise : Stmt := topS 38
theorem scRise : FnScope ["text", "at"] ["text"] (defScope sRise) := ⟨rfl, rfl, rfl, by decide +kernel, rfl, by decide +kernel, by decide +kernel⟩
/-- the j-th sign against the next, for j below n -/
def risesTo (l : List Nat) (n : Nat) : List Bool := (List.range n).map fun j => decide ((l.getD j 0) < (l.getD (j + 1) 0))
theorem rises_range : ∀ l : List Nat, (risesTo l (l.length - 1)).all id = rises l
  | [] => rfl
  | [_] => rfl
  | a :: b :: r => by
    have ih := rises_range (b :: r)
    show (risesTo (a :: b :: r) (r.length + 1)).all id = (decide (a < b) && rises (b :: r))
    rw [← ih]
    unfold risesTo
    rw [List.range_succ_eq_map, List.map_cons, List.map_map, List.all_cons]
    rfl
theorem risesTo_next (l : List Nat) (n : Nat) : risesTo l (n + 1) = risesTo l n ++ [decide ((l.getD n 0) < (l.getD (n + 1) 0))] := by
  unfold risesTo
  rw [List.range_succ, List.map_append]
  rfl
theorem risesTo_len (l : List Nat) (n : Nat) : (risesTo l n).length = n := by
  unfold risesTo
  rw [List.length_map, List.length_range]
def spRise : Sp := fun vs H Q _ => ∃ (l : List Nat), vs = [.str (T l)] ∧ l.length ≤ 100 ∧ ∀ (H' : Hp), Same H H' → Q (.bl (rises l)) H'
theorem lt_one (a b : Nat) : decide (([a] : List Nat) < [b]) = decide (a < b) := by
  by_cases h : a < b
  · rw [decide_eq_true h, decide_eq_true]
    exact List.Lex.rel h
  · rw [decide_eq_false h, decide_eq_false]
    intro z
    cases z with
    | rel q => exact h q
    | cons q => cases q
theorem ok_rise {f : Addr} {fd : FuncData} (F : Fun K "is_rising" "is_rising" sRise f fd) (B : Bn mg) : FnOk P w K mg base CX0 1 f fd ["text"] spRise := by
  refine F.ok scRise (fun vs H Q E h => ?_) (fun cdv A outer s H vs Q E hr h => ?_)
  · obtain ⟨l, rfl, _⟩ := h
    rfl
  · obtain ⟨l, rfl, hz, q⟩ := h
    have hlen : (T l).length ≤ sizeLine := by rw [T_len]; exact small (by omega)
    refine ⟨_, pss_one (ps_ret (pe_callB (cr_all rfl) (by rfl) B.all (by decide +kernel) (pa_cons (pe_lc (own := [("at", 1)]) (g := gName 1) rfl scRise.nd
        (pi_range2 rfl B.rng (pa_cons pe_int (pa_cons (pe_callB call_len_str (by rfl) B.len PySem.boot_len (pa_cons (pv 0) pa_nil)) pa_nil)))
        (blkOk_by (N := ["text", "at"]) (sc := defScope sRise) (by decide +kernel)) (fun _ _ _ _ _ => pg_name (i := 1) scRise.nd rfl (.inl rfl))
        (fun _ _ _ _ _ => pts_nil) (fun _ _ _ _ _ => pe_cmpR op_lt_str (pe_ix ix_str (pv 0) (pe_op op_sub (pv 1) pe_int) (fun _ _ => rfl)) (pe_ix ix_str (pv 0) (pv 1) (fun _ _ => rfl)) (nomark _))) pa_nil))), ?_⟩
    refine ⟨_, rfl, _, rfl, hlen, 1, _, rfl, ⟨by decide, by decide, by omega, by rw [T_len]; omega⟩, fun D hD => ?_⟩
    refine lc_it (walk_range) (fun i H2 => H2 D = some (.lst ((risesTo l i).map V.bl)) ∧ Same H H2) ?_ (fun _ _ _ _ => trivial) ?_ ?_
    · exact ⟨upd_same, same_new hD _⟩
    · rintro i x H2 H2' hi' ⟨e1, e2⟩ ⟨rfl, rfl⟩
      rw [T_len] at hi'
      have g1 : i < l.length := by omega
      have g2 : i + 1 < l.length := by omega
      refine ⟨rfl, ?_⟩
      have q1 : (T l).cps.toList[i]? = some (l.getD i 0) := by rw [T_cps, List.getD_eq_getElem?_getD, List.getElem?_eq_getElem g1]; rfl
      have q2 : (T l).cps.toList[i + 1]? = some (l.getD (i + 1) 0) := by rw [T_cps, List.getD_eq_getElem?_getD, List.getElem?_eq_getElem g2]; rfl
      refine ⟨_, rfl, _, rfl, _, _, rfl, rfl, T l, 1 + (i : Int) - 1, l.getD i 0, rfl, rfl, hlen, atI_of q1 (by omega), ?_⟩
      refine ⟨_, rfl, _, rfl, T l, 1 + (i : Int), l.getD (i + 1) 0, rfl, rfl, hlen, atI_of q2 (by omega), ?_⟩
      refine ⟨_, _, rfl, rfl, _, e1, ?_, ?_, ?_⟩
      · rw [List.length_map, risesTo_len]
        exact small1000 (by omega)
      · rw [upd_same, risesTo_next, List.map_append]
        show some (HO.lst (_ ++ [V.bl (decide (([l.getD i 0] : List Nat) < [l.getD (i + 1) 0]))])) = _
        rw [lt_one]
        rfl
      · exact fun b u q => by
          rw [upd_ne (ne_of_none q hD)]
          exact e2 b u q
    · rintro H2 ⟨e1, e2⟩
      rw [show (((T l).length : Int) - 1).toNat = l.length - 1 by rw [T_len]; omega] at e1
      refine ⟨D, _, rfl, .inl (.inl e1), ?_⟩
      rw [rises_range]
      exact q H2 e2
end
end Say
namespace Say
open PySem PySem.Spec PyProof.Rows L2
/-- the letters of a book -/
structure LetOk (L : List Nat) : Prop where
  l2 : 2 ≤ L.length
  l4 : L.length ≤ 4
  up : rises L = true
  az : ∀ c ∈ L, 97 ≤ c ∧ c ≤ 122
theorem rises_iff : ∀ l : List Nat, rises l = true ↔ l.Pairwise (· < ·)
  | [] => by simp [rises]
  | [a] => by simp [rises]
  | a :: b :: r => by
    have ih := rises_iff (b :: r)
    show (decide (a < b) && rises (b :: r)) = true ↔ _
    rw [Bool.and_eq_true, ih, List.pairwise_cons (a := a)]
    constructor
    · rintro ⟨h1, h2⟩
      have h1 := of_decide_eq_true h1
      refine ⟨fun x hx => ?_, h2⟩
      rcases List.mem_cons.mp hx with rfl | hx
      · exact h1
      · exact Nat.lt_trans h1 ((List.pairwise_cons.mp h2).1 x hx)
    · rintro ⟨h1, h2⟩
      exact ⟨decide_eq_true (h1 b (List.mem_cons_self ..)), h2⟩
theorem LetOk.hash {L : List Nat} (h : LetOk L) : rises (35 :: L) = true := (rises_iff _).mpr (List.pairwise_cons.mpr ⟨fun c hc => by have := (h.az c hc).1; omega, (rises_iff _).mp h.up⟩)
theorem side_ok {L z : List Nat} (h : LetOk L) (s : z.Sublist (35 :: L)) : (isText z (35 :: L) 0 (L.length + 1) && rises z) = true := by
  rw [Bool.and_eq_true]
  exact ⟨isText_of (Nat.zero_le _) (by have := s.length_le; simpa using this) fun c hc => s.subset hc, (rises_iff _).mpr (((rises_iff _).mp h.hash).sublist s)⟩
/-- a constant that holds a number -/
abbrev KI (mg : Str → Option Value) (x : Str) (n : Int) : Prop := ∃ t, mg x = some (.int n t)
/-- what the module's constants hold -/
structure Cn (mg : Str → Option Value) : Prop where
  small : ∃ t, mg "SMALL" = some (.str "abcdefghijklmnopqrstuvwxyz" t)
  caps : ∃ t, mg "CAPITALS" = some (.str "ABCDEFGHIJKLMNOPQRSTUVWXYZ" t)
  edge : ∃ t, mg "EDGE" = some (.str "#" t)
  mrul : ∃ t, mg "MOST_RULES" = some (.int 12 t)
  lexc : ∃ t, mg "LONGEST_EXCEPTION" = some (.int 8 t)
  lrs : ∃ t, mg "LONGEST_RULE_SOUNDS" = some (.int 3 t)
  lso : ∃ t, mg "LONGEST_SOUNDS" = some (.int 36 t)
def smallL : List Nat := (List.range 26).map (· + 97)
def capsL : List Nat := (List.range 26).map (· + 65)
theorem small_eq : Str.ofString "abcdefghijklmnopqrstuvwxyz" = T smallL := by decide +kernel
theorem caps_eq : Str.ofString "ABCDEFGHIJKLMNOPQRSTUVWXYZ" = T capsL := by decide +kernel
theorem mem_small {c : Nat} (h : 97 ≤ c ∧ c ≤ 122) : c ∈ smallL := List.mem_map.mpr ⟨c - 97, List.mem_range.mpr (by omega), by omega⟩
theorem mem_caps {c : Nat} (h : 65 ≤ c ∧ c ≤ 90) : c ∈ capsL := List.mem_map.mpr ⟨c - 65, List.mem_range.mpr (by omega), by omega⟩
section
variable {P : Program} {w : World} {K : PySem.W.Frag} {mg : Str → Option Value} {base : Heap}
abbrev psIsText : List Str := ["text", "signs", "least", "most"]
abbrev sBeside : Stmt := topS 33
theorem scBeside : FnScope ["letters", "signs"] ["letters", "signs"] (defScope sBeside) := ⟨rfl, rfl, rfl, by decide +kernel, rfl, by decide +kernel, by decide +kernel⟩
def spBeside : Sp := fun vs H Q _ => ∃ (L z : List Nat), vs = [.str (T L), .str (T z)] ∧ L.length ≤ 50 ∧ z.length ≤ 100 ∧ ∀ (H' : Hp), Same H H' → Q (.bl (isText z (35 :: L) 0 (L.length + 1) && rises z)) H'
theorem ok_beside {f : Addr} {fd : FuncData} (F : Fun K "is_beside" "is_beside" sBeside f fd) (B : Bn mg) (C : Cn mg) (DT : Df P w K mg base "is_text" psIsText 1 spIsText) (DR : Df P w K mg base "is_rising" ["text"] 1 spRise) :
    FnOk P w K mg base CX0 2 f fd ["letters", "signs"] spBeside := by
  obtain ⟨fT, fdT, GT, kT, bT, mT⟩ := DT
  obtain ⟨fR, fdR, GR, kR, bR, mR⟩ := DR
  obtain ⟨tE, mE⟩ := C.edge
  refine F.ok scBeside (fun vs H Q E h => ?_) (fun cdv A outer s H vs Q E hr h => ?_)
  · obtain ⟨L, z, rfl, _⟩ := h
    rfl
  · obtain ⟨L, z, rfl, hL, hz, q⟩ := h
    refine ⟨_, pss_one (ps_ret (pe_and (pe_call GT hr (by rfl) mT kT bT .nil pass0 (pa_cons (pv 1) (pa_cons (pe_op op_add_str (pe_glob (v := .str "#") rfl mE ⟨_, rfl⟩) (pv 0)) (pa_cons pe_int (pa_cons (pe_op op_add (pe_callB call_len_str (by rfl) B.len PySem.boot_len (pa_cons (pv 0) pa_nil)) pe_int) pa_nil)))))
        (pe_one (pe_call GR hr (by rfl) mR kR bR .nil pass0 (pa_cons (pv 1) pa_nil))))), ?_⟩
    have hl : (T L).length ≤ sizeLine := by rw [T_len]; exact small (by omega)
    refine ⟨_, rfl, _, rfl, _, _, rfl, rfl, (by rw [len_hash, T_len]; exact small (by omega)), _, rfl, _, rfl, hl, _, _, rfl, rfl, z, 35 :: L, 0, L.length + 1, ?_, hz, fun H1 s1 => ?_⟩
    · rw [hash_app, T_len]
      rfl
    refine ⟨_, rfl, ite2 (fun c => ?_) (fun c => ?_)⟩
    · refine ⟨_, rfl, z, rfl, hz, fun H2 s2 => ?_⟩
      have := q H2 (s1.trans s2)
      rw [c, Bool.true_and] at this
      exact this
    · have := q H1 s1
      rw [Bool.eq_false_iff.mpr c, Bool.false_and] at this
      exact this
abbrev sIsRule : Stmt := topS 32
theorem scIsRule : FnScope ["letters", "rule", "ahead", "own", "behind", "sounds"] ["letters", "rule"] (defScope sIsRule) := ⟨rfl, rfl, rfl, by decide +kernel, rfl, by decide +kernel, by decide +kernel⟩
def spIsRule : Sp := fun vs H Q _ => ∃ (L : List Nat) (t : Addr) (ρ : Rule), vs = [.str (T L), .ref t] ∧ H t = some (.tup ρ.vs) ∧ LetOk L ∧ RuleOk L ρ ∧ ∀ (H' : Hp), Same H H' → Q (.bl true) H'
theorem ok_isRule {f : Addr} {fd : FuncData} (F : Fun K "is_rule" "is_rule" sIsRule f fd) (B : Bn mg) (C : Cn mg) (DT : Df P w K mg base "is_text" psIsText 1 spIsText) (DB : Df P w K mg base "is_beside" ["letters", "signs"] 2 spBeside) :
    FnOk P w K mg base CX0 3 f fd ["letters", "rule"] spIsRule := by
  obtain ⟨fT, fdT, GT, kT, bT, mT⟩ := DT
  obtain ⟨fB, fdB, GB, kB, bB, mB⟩ := DB
  obtain ⟨tC, mC⟩ := C.caps
  obtain ⟨tS, mS⟩ := C.lrs
  refine F.ok scIsRule (fun vs H Q E h => ?_) (fun cdv A outer s H vs Q E hr h => ?_)
  · obtain ⟨L, t, ρ, rfl, _⟩ := h
    rfl
  · obtain ⟨L, t, ρ, rfl, ht, hL, hρ, q⟩ := h
    have hr1 : Room 1 _ := hr.mono (by decide)
    refine ⟨_, pss_cons (ps_if (PW.pt (pw_or (pt_not (pt_val (pe_callB call_isi (by rfl) B.isi (by decide +kernel) (pa_cons (pv 1) (pa_cons (pe_bltn (v := .ty "tuple") rfl B.tup (by decide +kernel) rfl) pa_nil)))))
          (pw_or1 (pt_cmpR op_ne (pe_callB call_len (by rfl) B.len PySem.boot_len (pa_cons (pv 1) pa_nil)) pe_int (nomark _))))) (pss_one (ps_ret pe_bl)) pss_nil)
      (pss_cons (ps_asg (pv 1) (pg_tup (by rfl) (pgs_cons (pg_name (i := 2) scIsRule.nd rfl (.inl rfl)) (pgs_cons (pg_name (i := 3) scIsRule.nd rfl (.inl rfl)) (pgs_cons (pg_name (i := 4) scIsRule.nd rfl (.inl rfl)) (pgs_cons (pg_name (i := 5) scIsRule.nd rfl (.inl rfl)) pgs_nil))))))
      (pss_one (ps_ret (pe_and (pe_call GB hr (by rfl) mB kB bB .nil pass0 (pa_cons (pv 0) (pa_cons (pv 2) pa_nil)))
        (pe_and (pe_call GT hr1 (by rfl) mT kT bT .nil pass0 (pa_cons (pv 3) (pa_cons (pv 0) (pa_cons pe_int (pa_cons pe_int pa_nil)))))
        (pe_and (pe_call GB hr (by rfl) mB kB bB .nil pass0 (pa_cons (pv 0) (pa_cons (pv 4) pa_nil)))
        (pe_one (pe_call GT hr1 (by rfl) mT kT bT .nil pass0 (pa_cons (pv 5) (pa_cons (pe_glob (v := .str "ABCDEFGHIJKLMNOPQRSTUVWXYZ") rfl mC ⟨_, rfl⟩) (pa_cons pe_int (pa_cons (pe_glob (v := .int 3) rfl mS ⟨_, rfl⟩) pa_nil)))))))))))), ?_⟩
    have l5 := hρ.ah.length_le
    have l6 := hρ.be.length_le
    rw [List.length_cons] at l5 l6
    have l4 := hL.l4
    refine ⟨_, rfl, _, _, .type "tuple", _, true, rfl, ClsV.ty _, .base (.tup ht), kit_ty (by decide +kernel), true, rfl, iteF ?_⟩
    refine ⟨_, rfl, _, 4, rfl, .inr ⟨_, .inl (.inl ht), rfl⟩, rfl, _, rfl, iteF ?_⟩
    refine ⟨_, rfl, t, _, rfl, .inl (.inl ht), rfl, _, _, rfl, _, _, rfl, _, _, rfl, _, _, rfl, rfl, ?_⟩
    refine ⟨_, rfl, _, rfl, L, ρ.ah, rfl, by omega, by omega, fun H1 s1 => ?_⟩
    refine ⟨_, rfl, ?_⟩
    rw [side_ok hL hρ.ah]
    refine iteT ?_
    refine ⟨_, rfl, _, rfl, ρ.ow, L, 1, 2, rfl, (by have := hρ.o2; omega), fun H2 s2 => ?_⟩
    refine ⟨_, rfl, ?_⟩
    rw [isText_of hρ.o1 hρ.o2 hρ.ow]
    refine iteT ?_
    refine ⟨_, rfl, _, rfl, L, ρ.be, rfl, by omega, by omega, fun H3 s3 => ?_⟩
    refine ⟨_, rfl, ?_⟩
    rw [side_ok hL hρ.be]
    refine iteT ?_
    refine ⟨_, rfl, ρ.so, capsL, 0, 3, (by rw [caps_eq]; rfl), (by have := hρ.s3; omega), fun H4 s4 => ?_⟩
    rw [isText_of (Nat.zero_le _) hρ.s3 fun c hc => mem_caps (hρ.so c hc)]
    exact q H4 (s1.trans (s2.trans (s3.trans s4)))
end
end Say
namespace PySem
open Sem (wp)
open AutoSeq1 (wpAny_loadPart')
/-- enumerate(tuple): what the making of it meets -/
theorem say_meets_enumT (l : Addr) (o0 : Obj) (items : Array Value) (n : Nat) (clC : o0.cls = .type "tuple") (dtD : o0.data = .seq items n) :
    Meets (Builtin.«enumerate.__new__» ⟨[.type "enumerate", .ref l], []⟩) (fun _ R s => s.heap.get? l = some o0 ∧
      R (.ok (.ret (.ref (s.heap.push { cls := .type "tuple_iterator", data := .fields #[.ref l, .int 0 0] }).objs.size)))
        { s with heap := (s.heap.push { cls := .type "tuple_iterator", data := .fields #[.ref l, .int 0 0] }).push { cls := .type "enumerate", data := .fields #[.none, .bool false, .ref s.heap.objs.size, rawInt 0, .none, .none] } }) :=
  .of_wp fun prog w A R s h => by
    obtain ⟨txP, g, d, tkn, os⟩ := s; obtain ⟨lnT, h⟩ := h
    obtain ⟨oc, od, dt, osl⟩ := o0
    replace clC : oc = .type "tuple" := clC
    replace dtD : dt = .seq items n := dtD
    subst clC dtD
    have hsub := sub_enumerate
    have hL : Heap.IsTuple (Shared.heap ⟨txP, g, d, tkn, os⟩) l items := ⟨_, lnT, rfl, n, rfl⟩
    wp_walk using wpAny_loadPart' lnT
    refine wpAny_stack_any fun sta => wpAny_pure ?_
    split
    · rename_i c _ _ _ _ _
      cases (c == Value.type "enumerate")
      · wp_walk using wpAny_loadPart' lnT, wpAny_pyIter_tuple hL
        exact ⟨_, rfl, h⟩
      · wp_walk using wpAny_loadPart' lnT, wpAny_pyIter_tuple hL
        exact ⟨_, rfl, h⟩
    · wp_walk using wpAny_loadPart' lnT, wpAny_pyIter_tuple hL
      exact ⟨_, rfl, h⟩
section
variable {prog : Program} {w : World} {A : Around} {E : Value → Shared → Prop} {s : Shared}
theorem say_call_enumT {l : Addr} {items : Array Value} {Q : Value → Shared → Prop} (hL : s.heap.IsTuple l items)
    (h : ∀ h', IsEnum h' (s.heap.objs.size + 1) s.heap.objs.size 0 .none → h'.IsTupleIter s.heap.objs.size l 0 → h'.objs.size = s.heap.objs.size + 2 →
      (∀ b o, s.heap.get? b = some o → h'.get? b = some o) → Q (.ref (s.heap.objs.size + 1)) { s with heap := h' }) :
    wpAny (model prog w) A (call (.type "enumerate") [.ref l]) Q E s := by
  obtain ⟨o0, lnT, clC, n, dtD⟩ := hL
  refine callType_new F.called_enumerate (by decide) (F.typeCall_enumerate_1 _) (F.newCall_enumerate_1 _) (fun obj => F.args_object_init_2 obj _) F.entry_enumerate_new
    (say_meets_enumT l o0 items n clC dtD) ⟨lnT, ?_⟩
  have szT : (s.heap.push { cls := .type "tuple_iterator", data := .fields #[.ref l, .int 0 0] }).objs.size = s.heap.objs.size + 1 := Heap.size_push ..
  show _ ∧ _
  rw [szT]
  have hEn : IsEnum ((s.heap.push { cls := .type "tuple_iterator", data := .fields #[.ref l, .int 0 0] }).push
      { cls := .type "enumerate", data := .fields #[.none, .bool false, .ref s.heap.objs.size, rawInt 0, .none, .none] }) (s.heap.objs.size + 1) s.heap.objs.size 0 .none := by
    have := Heap.get?_push_size (s.heap.push { cls := .type "tuple_iterator", data := .fields #[.ref l, .int 0 0] })
      (o := { cls := .type "enumerate", data := .fields #[.none, .bool false, .ref s.heap.objs.size, rawInt 0, .none, .none] }) rfl
    rw [szT] at this; exact this
  refine ⟨⟨_, hEn, rfl⟩, h _ hEn ⟨_, Heap.get?_push_of_some _ (Heap.get?_push_size _ rfl), rfl, rfl⟩ (by rw [Heap.size_push, szT]) fun b o x => Heap.get?_push_of_some _ (Heap.get?_push_of_some _ x)⟩
theorem say_enumT_end {e it l : Addr} {i : Nat} {j : Int} {items : Array Value} {was : Value} {Q : Option Value → Shared → Prop} (noH : A.handled = none)
    (hEn : IsEnum s.heap e it j was) (hTi : s.heap.IsTupleIter it l i) (lnT : s.heap.IsTuple l items) (atI0 : items[i]? = none)
    (hQ : ∀ h', Heap.ExtBut it s.heap h' → Q none { s with heap := h' }) : wpAny (model prog w) A (pyNext (.ref e)) Q E s := by
  have isTup : s.TypeIs (.ref e) "enumerate" := ⟨_, hEn, rfl⟩
  unfold pyNext
  refine wpAny_bind (wpAny_attempt (wpAny_callSpecial?_slot (name := Str.ofString "__next__") isTup F.slot_enumerate_next
    (wpAny_call_entry F.slot_enumerate_next isTup F.entry_enumerate_next ?_ (F.args_enumerate_next_1 _))))
  show wpAny _ _ (field (.ref e) 2 >>= _) _ _ _
  refine wpAny_bind (wpAny_field hEn rfl (x := .ref it) rfl ?_)
  refine wpAny_bind (wpAny_nextOf_tuple_end noH hTi lnT atI0 fun h' x he' hx' => ?_)
  obtain ⟨o, obO, clC⟩ := hx'
  refine wpAny_bind (wpAny_isInstance (T := "StopIteration") (b := true) ⟨o, obO, clC⟩ isSubtype_stop ?_)
  exact wpAny_pure (hQ _ he')
end
end PySem
namespace Say
open PySem PySem.Spec PyProof.Rows L2
/-- the tuple at a adrs it stands at each turn, each item in a new pair -/
def IteT (K : PySem.W.Frag) (a : Addr) : It :=
  ⟨fun i H => ∃ (xs : List V) (x : V), SqT K H a xs ∧ xs[i]? = some x, fun i H v H' => ∃ T x, v = .ref T ∧ H T = none ∧ H' = upd H T (.tup [.int (i : Nat), x]) ∧ ∀ xs, SqT K H a xs → xs[i]? = some x, fun i H => ∃ xs : List V, SqT K H a xs ∧ xs.length ≤ i⟩
theorem enum_ne {h : Heap} {e it a : Addr} {i : Int} {was : Value} {items : Array Value} (hEn : IsEnum h e it i was) (isTup : h.IsTuple a items) : e ≠ a := fun z => by
  subst z
  obtain ⟨o, obO, clC, _⟩ := isTup
  have hEn : h.get? e = some _ := hEn
  rw [hEn] at obO
  cases obO
  exact absurd (Value.type.inj clC) (by decide)
theorem tit_ne {h : Heap} {it a : Addr} {i : Nat} {items : Array Value} (hEn : h.IsTupleIter it a i) (isTup : h.IsTuple a items) : a ≠ it := fun z => by
  subst z
  obtain ⟨o, obO, clC, _⟩ := isTup
  obtain ⟨o', ho', hc', _⟩ := hEn
  rw [obO] at ho'
  cases ho'
  rw [clC] at hc'
  exact absurd (Value.type.inj hc') (by decide)
theorem turn_enumT {P : Program} {w : World} {K : PySem.W.Frag} {els : List Expr} {k9 : Nat} {tps0 : Pos} (a e it : Addr) :
    Turn P w K (.Tuple els k9 tps0) (IteT K a) [e, it] e (fun i h => (∃ was, IsEnum h e it ((i : Nat) : Int) was) ∧ h.IsTupleIter it a i ∧ e ≠ it) where
  mem := by simp
  obj := fun i h sta b hb => by
    obtain ⟨⟨was, hEn⟩, ⟨o, obO, clC, dtD⟩, _⟩ := sta
    have e' : b = e ∨ b = it := by simpa using hb
    rcases e' with z | z
    · rw [z]; exact ⟨_, hEn, fun v q => nomatch q⟩
    · rw [z]; exact ⟨o, obO, fun v q => by rw [dtD] at q; cases q⟩
  keep := fun i h h' sta k => let ⟨⟨was, hEn⟩, hi, hAp⟩ := sta; ⟨⟨was, k e (by simp) _ hEn⟩, hi.at fun o q => k it (by simp) o q, hAp⟩
  item := by
    intro X hP hw hK clC i pn s σ H E I fresh0 sta gW
    subst hP hw hK
    obtain ⟨⟨was, hEn⟩, hTi, hAp⟩ := sta
    obtain ⟨xs, x, isT, atI0⟩ := gW
    obtain ⟨its, rel, p, szT⟩ := I.tuple isT
    have p : s.heap.IsTuple a its.toArray := p
    obtain ⟨u, getU, relU⟩ := rel.get atI0
    have ltE : e < s.heap.objs.size := Heap.lt_size hEn
    have ltI : it < s.heap.objs.size := by obtain ⟨_, q, _⟩ := hTi; exact Heap.lt_size q
    have ltN : i < its.toArray.size := by
      have := (List.getElem?_eq_some_iff.mp getU).1
      simpa using this
    refine wpAny_pyNext_enum_itemD (Draws.tuple (show X.A.in1.handled = none from I.ok.hd clC) it a (tit_ne hTi p) its.toArray) hEn ⟨hTi, p⟩ ltN hAp (by
      simp only [List.mem_cons, List.not_mem_nil, or_false, not_or]
      exact ⟨hAp, enum_ne hEn p⟩) fun u' h' tkn hu' obO hst' isTup szH kpT => ?_
    have eu : u' = u := by
      have h1 : its.toArray[i]? = some u' := hu'
      rw [List.getElem?_toArray, getU] at h1
      exact (Option.some.inj h1).symm
    subst eu
    obtain ⟨hit', p'⟩ := hst'
    refine ⟨_, rfl, wpAny_letOwnedTupleGo_enum (s := { s with heap := h', toks := tkn + 1 }) obO fun h'' he' butE => ?_⟩
    have hT2 : h''.get? s.heap.objs.size = some { cls := .type "tuple", data := .seq #[.int i tkn, u'] } := (butE.2 _ (Nat.ne_of_gt ltE)).trans isTup
    have new : ObjOk X.prog X.w (upd H s.heap.objs.size (.tup [.int (i : Nat), x])) h'' s.heap.objs.size (.tup [.int (i : Nat), x]) :=
      ⟨by show 2 ≤ sizeLine; decide, [.int i tkn, u'], .cons ⟨_, rfl⟩ (.cons relU .nil), ⟨_, hT2, rfl, _, rfl⟩⟩
    have I1 : Inv X pn σ (upd H s.heap.objs.size (.tup [.int (i : Nat), x])) { s with heap := h'', toks := tkn + 1 } :=
      I.turnedNew (ch := [e, it]) (fun b ob hb q => (butE.2 b (fun z => hb (by simp [z]))).trans (kpT b ob (fun z => hb (by simp [z])) (fun z => hb (by simp [z])) q)) fresh0 (Nat.le_refl _) new
    refine ⟨.ref s.heap.objs.size, _, I1, rfl, ⟨_, x, rfl, I.hok.fresh (Nat.le_refl _), rfl, fun ys hy => by rw [I.tuple_inj hy isT]; exact atI0⟩, ⟨⟨u', ?_⟩, hit'.at fun o q => (butE.2 it (Ne.symm hAp)).trans q, hAp⟩, fun b hb => ?_⟩
    · have q1 : ((i + 1 : Nat) : Int) = (i : Int) + 1 := by omega
      rw [q1]; exact he'
    · have hb' : b < s.heap.objs.size := by
        have e' : b = e ∨ b = it := by simpa using hb
        rcases e' with z | z
        · rw [z]; exact ltE
        · rw [z]; exact ltI
      rw [upd_ne (Nat.ne_of_lt hb')]
      exact (fresh0 b hb).1
  done := by
    intro X hP hw hK clC i pn s σ H E I fresh0 sta gW
    subst hP hw hK
    obtain ⟨⟨was, hEn⟩, hTi, hAp⟩ := sta
    obtain ⟨xs, isT, atI0⟩ := gW
    obtain ⟨its, rel, p, szT⟩ := I.tuple isT
    have p : s.heap.IsTuple a its.toArray := p
    obtain ⟨f0, f1, f2, f3, f4, f5⟩ := fresh0 it (by simp)
    have hl := rel.length
    exact say_enumT_end (I.ok.hd clC) hEn hTi p (by rw [List.getElem?_toArray]; exact List.getElem?_eq_none (by omega)) fun h' eb => ⟨rfl, I.turned (t' := s.toks) (fun b o hb q => eb b o hb q) f0 f1 f3 f4 f5⟩
  self := fun A i s Q E sta h => let ⟨⟨_, hEn⟩, _⟩ := sta; wpAny_pyIter_enum hEn h
def iEnumT (K : PySem.W.Frag) (ta : TA) : TI := fun σ H R => ta σ H fun vs H1 => ∃ a xs, vs = [.ref a] ∧ SqT K H1 a xs ∧ R (IteT K a) H1
theorem pi_enumT {X : Cx} {e : Expr} {ta : TA} {p pos tps0 : Pos} {els : List Expr} {k9 : Nat} (gW : Gl X "enumerate") (hm : X.mg "enumerate" = none) (atA : PA X [e] ta) (hs : starEach [e] X.env = [(false, eval e X.env)] := by rfl) :
    PI X (.Tuple els k9 tps0) (.Call (.Name "enumerate" p) [e] [] pos) (iEnumT X.K ta) := by
  refine ⟨fun pn s σ H R I h => ?_⟩
  refine Call_ (ld_blt I gW hm boot_enumerate (PyProof.Rows.callWith_type1 (thn (atA.run pos pn s σ H _ I h) fun args s1 ⟨vs, H1, I1, r1, q1⟩ => ?_) hs rfl))
  obtain ⟨a, xs, ex, isT, q⟩ := q1
  subst ex
  cases r1 with
  | cons r rst =>
    cases rst
    cases r
    obtain ⟨its, rel, p', szT⟩ := I1.tuple isT
    refine say_call_enumT (show s1.heap.IsTuple a its.toArray from p') fun h' hEn hTi szH kpT => wpAny_pyIter_enum hEn ?_
    have I2 : Inv X pn σ H1 { s1 with heap := h' } := I1.kept (t' := s1.toks) kpT
    refine ⟨s1.heap.objs.size + 1, [s1.heap.objs.size + 1, s1.heap.objs.size], _, _, H1, rfl, I2, turn_enumT a (s1.heap.objs.size + 1) s1.heap.objs.size, ⟨⟨.none, hEn⟩, hTi, Nat.succ_ne_self _⟩, fun b hb => ?_, q⟩
    have e' : b = s1.heap.objs.size + 1 ∨ b = s1.heap.objs.size := by simpa using hb
    have hle : s1.heap.objs.size ≤ b := by
      rcases e' with z | z
      · rw [z]; exact Nat.le_add_right _ _
      · rw [z]; exact Nat.le_refl _
    exact I1.fpOk hle (I1.hok.fresh hle)
theorem walk_enumT {K : PySem.W.Frag} {a : Addr} {xs : List V} : Walk (IteT K a) xs.length (fun H => SqT K H a xs) (YPair (fun i => some (.int (i : Nat))) (fun i => xs[i]?)) := by
  refine ⟨fun i _ hi q => ⟨xs, xs[i], q, by simp [hi]⟩, fun _ q => ⟨xs, q, Nat.le_refl _⟩, fun i H v H' _ q y => ?_⟩
  obtain ⟨T, x, h1, h2, h3, h4⟩ := y
  exact ⟨T, .int (i : Nat), x, h1, h2, h3, rfl, h4 xs q⟩
end Say
namespace Say
open PySem PySem.Spec PyProof.Rows L2
abbrev Exc := List Nat × List Nat
/-- an exception of a book of the letters L -/
structure ExcOk (L : List Nat) (e : Exc) : Prop where
  w : ∀ c ∈ e.1, c ∈ L
  w1 : 1 ≤ e.1.length
  w8 : e.1.length ≤ 8
  s : ∀ c ∈ e.2, 65 ≤ c ∧ c ≤ 90
  s36 : e.2.length ≤ 36
/-- a tuple as it was made: with no attributes of its own -/
def TupN (H : Hp) (a : Addr) (xs : List V) : Prop := ∃ o : Obj, H a = some (.frz o (.tup xs)) ∧ o.dict = none
theorem TupN.kt {H H' : Hp} {a : Addr} {xs : List V} (h : TupN H a xs) (e : KT H H') : TupN H' a xs := ⟨h.choose, e.2 _ _ _ h.choose_spec.1, h.choose_spec.2⟩
theorem TupN.rd {H : Hp} {a : Addr} {xs : List V} (h : TupN H a xs) : Rd H a (.tup xs) := .inr ⟨_, h.choose_spec.1⟩
def ExcsAt (H : Hp) (X : Addr) (es : List Exc) : Prop := ∃ ts : List Addr, TupN H X (ts.map V.ref) ∧ Paired (fun t (e : Exc) => H t = some (.tup [.str (T e.1), .str (T e.2)])) ts es
theorem ExcsAt.kt {H H' : Hp} {X : Addr} {es : List Exc} (h : ExcsAt H X es) (e : KT H H') : ExcsAt H' X es := by
  obtain ⟨ts, h1, h2⟩ := h
  exact ⟨ts, h1.kt e, paired_mono (fun t ρ q => e.1 _ _ q) h2⟩
structure BookOk (L : List Nat) (rs : List Rule) (es : List Exc) : Prop where
  lt : LetOk L
  rl : ∀ ρ ∈ rs, RuleOk L ρ
  r12 : rs.length ≤ 12
  ex : ∀ e ∈ es, ExcOk L e
  e8 : es.length ≤ 8
  up : es.Pairwise fun e f => e.1 < f.1
def BookAt (H : Hp) (b : Addr) (L : List Nat) (rs : List Rule) (es : List Exc) : Prop := ∃ R X, H b = some (.tup [.str (T L), .ref R, .ref X]) ∧ RulesAt H R rs ∧ ExcsAt H X es
theorem BookAt.kt {H H' : Hp} {b : Addr} {L : List Nat} {rs : List Rule} {es : List Exc} (h : BookAt H b L rs es) (e : KT H H') : BookAt H' b L rs es := by
  obtain ⟨R, X, h1, h2, h3⟩ := h
  exact ⟨R, X, e.1 _ _ h1, h2.kt e, h3.kt e⟩
section
variable {P : Program} {w : World} {K : PySem.W.Frag} {mg : Str → Option Value} {base : Heap}
abbrev sExcd : Stmt := topS 35
theorem scExcd : FnScope ["letters", "word"] ["letters", "word"] (defScope sExcd) := ⟨rfl, rfl, rfl, by decide +kernel, rfl, by decide +kernel, by decide +kernel⟩
def spExcd : Sp := fun vs H Q _ => ∃ (L z : List Nat), vs = [.str (T L), .str (T z)] ∧ z.length ≤ 100 ∧ ∀ (H' : Hp), Same H H' → Q (.bl (isText z L 1 8)) H'
theorem ok_excd {f : Addr} {fd : FuncData} (F : Fun K "is_excepted" "is_excepted" sExcd f fd) (C : Cn mg) (DT : Df P w K mg base "is_text" psIsText 1 spIsText) :
    FnOk P w K mg base CX0 2 f fd ["letters", "word"] spExcd := by
  obtain ⟨fT, fdT, GT, kT, bT, mT⟩ := DT
  obtain ⟨tX, mX⟩ := C.lexc
  refine F.ok scExcd (fun vs H Q E h => ?_) (fun cdv A outer s H vs Q E hr h => ?_)
  · obtain ⟨L, z, rfl, _⟩ := h
    rfl
  · obtain ⟨L, z, rfl, hl, q⟩ := h
    refine ⟨_, pss_one (ps_ret (pe_call GT hr (by rfl) mT kT bT .nil pass0 (pa_cons (pv 1) (pa_cons (pv 0) (pa_cons pe_int (pa_cons (pe_glob (v := .int 8) rfl mX ⟨_, rfl⟩) pa_nil)))))), ?_⟩
    exact ⟨_, rfl, _, rfl, z, L, 1, 8, rfl, hl, q⟩
abbrev sIsSo : Stmt := topS 36
theorem scIsSo : FnScope ["sounds"] ["sounds"] (defScope sIsSo) := ⟨rfl, rfl, rfl, by decide +kernel, rfl, by decide +kernel, by decide +kernel⟩
def spIsSo : Sp := fun vs H Q _ => ∃ (z : List Nat), vs = [.str (T z)] ∧ z.length ≤ 100 ∧ ∀ (H' : Hp), Same H H' → Q (.bl (isText z capsL 0 36)) H'
theorem ok_isSo {f : Addr} {fd : FuncData} (F : Fun K "is_sounds" "is_sounds" sIsSo f fd) (C : Cn mg) (DT : Df P w K mg base "is_text" psIsText 1 spIsText) :
    FnOk P w K mg base CX0 2 f fd ["sounds"] spIsSo := by
  obtain ⟨fT, fdT, GT, kT, bT, mT⟩ := DT
  obtain ⟨tC, mC⟩ := C.caps
  obtain ⟨tS, mS⟩ := C.lso
  refine F.ok scIsSo (fun vs H Q E h => ?_) (fun cdv A outer s H vs Q E hr h => ?_)
  · obtain ⟨z, rfl, _⟩ := h
    rfl
  · obtain ⟨z, rfl, hl, q⟩ := h
    refine ⟨_, pss_one (ps_ret (pe_call GT hr (by rfl) mT kT bT .nil pass0 (pa_cons (pv 0) (pa_cons (pe_glob (v := .str "ABCDEFGHIJKLMNOPQRSTUVWXYZ") rfl mC ⟨_, rfl⟩) (pa_cons pe_int (pa_cons (pe_glob (v := .int 36) rfl mS ⟨_, rfl⟩) pa_nil)))))), ?_⟩
    exact ⟨_, rfl, z, capsL, 0, 36, (by rw [caps_eq]; rfl), hl, q⟩
abbrev sIsExc : Stmt := topS 34
theorem scIsExc : FnScope ["letters", "pair", "word", "sounds"] ["letters", "pair"] (defScope sIsExc) := ⟨rfl, rfl, rfl, by decide +kernel, rfl, by decide +kernel, by decide +kernel⟩
def spIsExc : Sp := fun vs H Q _ => ∃ (L : List Nat) (t : Addr) (e : Exc), vs = [.str (T L), .ref t] ∧ H t = some (.tup [.str (T e.1), .str (T e.2)]) ∧ ExcOk L e ∧ ∀ (H' : Hp), Same H H' → Q (.bl true) H'
theorem ok_isExc {f : Addr} {fd : FuncData} (F : Fun K "is_exception" "is_exception" sIsExc f fd) (B : Bn mg) (DX : Df P w K mg base "is_excepted" ["letters", "word"] 2 spExcd) (DS : Df P w K mg base "is_sounds" ["sounds"] 2 spIsSo) :
    FnOk P w K mg base CX0 3 f fd ["letters", "pair"] spIsExc := by
  obtain ⟨fX, fdX, GX, kX, bX, mX⟩ := DX
  obtain ⟨fS, fdS, GS, kS, bS, mS⟩ := DS
  refine F.ok scIsExc (fun vs H Q E h => ?_) (fun cdv A outer s H vs Q E hr h => ?_)
  · obtain ⟨L, t, e, rfl, _⟩ := h
    rfl
  · obtain ⟨L, t, e, rfl, ht, ho, q⟩ := h
    refine ⟨_, pss_cons (ps_if (PW.pt (pw_or (pt_not (pt_val (pe_callB call_isi (by rfl) B.isi (by decide +kernel) (pa_cons (pv 1) (pa_cons (pe_bltn (v := .ty "tuple") rfl B.tup (by decide +kernel) rfl) pa_nil)))))
          (pw_or1 (pt_cmpR op_ne (pe_callB call_len (by rfl) B.len PySem.boot_len (pa_cons (pv 1) pa_nil)) pe_int (nomark _))))) (pss_one (ps_ret pe_bl)) pss_nil)
      (pss_cons (ps_asg (pv 1) (pg_tup (by rfl) (pgs_cons (pg_name (i := 2) scIsExc.nd rfl (.inl rfl)) (pgs_cons (pg_name (i := 3) scIsExc.nd rfl (.inl rfl)) pgs_nil))))
      (pss_one (ps_ret (pe_and (pe_call GX hr (by rfl) mX kX bX .nil pass0 (pa_cons (pv 0) (pa_cons (pv 2) pa_nil)))
        (pe_one (pe_call GS hr (by rfl) mS kS bS .nil pass0 (pa_cons (pv 3) pa_nil))))))), ?_⟩
    refine ⟨_, rfl, _, _, .type "tuple", _, true, rfl, ClsV.ty _, .base (.tup ht), kit_ty (by decide +kernel), true, rfl, iteF ?_⟩
    refine ⟨_, rfl, _, 2, rfl, .inr ⟨_, .inl (.inl ht), rfl⟩, rfl, _, rfl, iteF ?_⟩
    refine ⟨_, rfl, t, _, rfl, .inl (.inl ht), rfl, _, _, rfl, _, _, rfl, rfl, ?_⟩
    refine ⟨_, rfl, _, rfl, L, e.1, rfl, (by have := ho.w8; omega), fun H1 s1 => ?_⟩
    refine ⟨_, rfl, ?_⟩
    rw [isText_of ho.w1 ho.w8 ho.w]
    refine iteT ?_
    refine ⟨_, rfl, e.2, rfl, (by have := ho.s36; omega), fun H4 s4 => ?_⟩
    rw [isText_of (Nat.zero_le _) ho.s36 fun c hc => mem_caps (ho.s c hc)]
    exact q H4 (s1.trans s4)
abbrev sChL : Stmt := topS 29
theorem scChL : FnScope ["letters"] ["letters"] (defScope sChL) := ⟨rfl, rfl, rfl, by decide +kernel, rfl, by decide +kernel, by decide +kernel⟩
def spChL : Sp := fun vs H Q _ => ∃ (L : List Nat), vs = [.str (T L)] ∧ LetOk L ∧ ∀ (H' : Hp), Same H H' → Q .non H'
theorem ok_chL {f : Addr} {fd : FuncData} (F : Fun K "check_letters" "check_letters" sChL f fd) (C : Cn mg) (DT : Df P w K mg base "is_text" psIsText 1 spIsText) (DR : Df P w K mg base "is_rising" ["text"] 1 spRise) :
    FnOk P w K mg base CX0 2 f fd ["letters"] spChL := by
  obtain ⟨fT, fdT, GT, kT, bT, mT⟩ := DT
  obtain ⟨fR, fdR, GR, kR, bR, mR⟩ := DR
  obtain ⟨tS, mS⟩ := C.small
  refine F.ok scChL (fun vs H Q E h => ?_) (fun cdv A outer s H vs Q E hr h => ?_)
  · obtain ⟨L, rfl, _⟩ := h
    rfl
  · obtain ⟨L, rfl, hL, q⟩ := h
    refine ⟨_, pss_one (ps_if (PW.pt (pw_or (pt_not (pt_val (pe_call GT hr (by rfl) mT kT bT .nil pass0 (pa_cons (pv 0) (pa_cons (pe_glob (v := .str "abcdefghijklmnopqrstuvwxyz") rfl mS ⟨_, rfl⟩) (pa_cons pe_int (pa_cons pe_int pa_nil)))))))
        (pw_or1 (pt_not (pt_val (pe_call GR hr (by rfl) mR kR bR .nil pass0 (pa_cons (pv 0) pa_nil))))))) (pss_one ps_never) pss_nil), ?_⟩
    have l4 := hL.l4
    refine ⟨_, rfl, L, smallL, 2, 4, (by rw [small_eq]; rfl), by omega, fun H1 s1 => ?_⟩
    rw [isText_of hL.l2 hL.l4 fun c hc => mem_small (hL.az c hc)]
    refine ⟨true, rfl, iteF ?_⟩
    refine ⟨_, rfl, L, rfl, by omega, fun H2 s2 => ?_⟩
    rw [hL.up]
    refine ⟨true, rfl, iteF ?_⟩
    exact q H2 (s1.trans s2)
abbrev sChR : Stmt := topS 30
theorem scChR : FnScope ["letters", "rules", "number", "rule"] ["letters", "rules"] (defScope sChR) := ⟨rfl, rfl, rfl, by decide +kernel, rfl, by decide +kernel, by decide +kernel⟩
def spChR : Sp := fun vs H Q _ => ∃ (L : List Nat) (R : Addr) (rs : List Rule), vs = [.str (T L), .ref R] ∧ LetOk L ∧ RulesAt H R rs ∧ (∀ ρ ∈ rs, RuleOk L ρ) ∧ rs.length ≤ 12 ∧ ∀ (H' : Hp), Same H H' → Q .non H'
theorem ok_chR {f : Addr} {fd : FuncData} (F : Fun K "check_rules" "check_rules" sChR f fd) (B : Bn mg) (C : Cn mg) (DI : Df P w K mg base "is_rule" ["letters", "rule"] 3 spIsRule) :
    FnOk P w K mg base CX0 4 f fd ["letters", "rules"] spChR := by
  obtain ⟨fI, fdI, GI, kI, bI, mI⟩ := DI
  obtain ⟨tS, mS⟩ := C.mrul
  refine F.ok scChR (fun vs H Q E h => ?_) (fun cdv A outer s H vs Q E hr h => ?_)
  · obtain ⟨L, R, rs, rfl, _⟩ := h
    rfl
  · obtain ⟨L, R, rs, rfl, hL, ⟨ts, hR, hp⟩, ho, h12, q⟩ := h
    refine ⟨_, pss_cons (ps_if (pt_not (pt_val (pe_callB call_isi (by rfl) B.isi (by decide +kernel) (pa_cons (pv 1) (pa_cons (pe_bltn (v := .ty "tuple") rfl B.tup (by decide +kernel) rfl) pa_nil))))) (pss_one ps_never) pss_nil)
      (pss_one (ps_for PassesOwn.never rfl (pi_enumT (by rfl) B.enu (pa_cons (pv 1) pa_nil)) (pg_tup (by rfl) (pgs_cons (pg_name (i := 2) scChR.nd rfl (.inl rfl)) (pgs_cons (pg_name (i := 3) scChR.nd rfl (.inl rfl)) pgs_nil)))
        (pss_one (ps_if (PW.pt (pw_or (pt_cmpR op_eq (pv 2) (pe_glob (v := .int 12) rfl mS ⟨_, rfl⟩) (nomark _)) (pw_or1 (pt_not (pt_val (pe_call GI hr (by rfl) mI kI bI .nil pass0 (pa_cons (pv 0) (pa_cons (pv 3) pa_nil)))))))) (pss_one ps_never) pss_nil)))), ?_⟩
    refine ⟨_, rfl, _, _, .type "tuple", _, true, rfl, ClsV.ty _, .base (.tup hR), kit_ty (by decide +kernel), true, rfl, iteF ?_⟩
    refine ⟨_, rfl, R, _, rfl, .inl (.inl hR), for_it (walk_enumT (xs := ts.map V.ref)) (fun i σ H2 => Same H H2 ∧ ∃ v2 v3, σ = [some (.str (T L)), some (.ref R), v2, v3]) ⟨Same.refl H, _, _, rfl⟩ (fun i σ H2 _ h => .inl (.inl (h.1 _ _ hR))) ?_ ?_⟩
    · rintro i x σ H2 H3 hi ⟨s2, v2, v3, rfl⟩ ⟨t, x1, x2, rfl, ht, rfl, g1, g2⟩
      cases g1
      have g2 : (ts.map V.ref)[i]? = some x2 := g2
      rw [List.getElem?_map] at g2
      obtain ⟨a, ha, e⟩ := Option.map_eq_some_iff.mp g2
      subst e
      obtain ⟨ρ, hρ, hat⟩ := paired_at hp ha
      have sm := same_new ht (.tup [.int (i : Nat), .ref a])
      have hi2 : i < rs.length := (List.getElem?_eq_some_iff.mp hρ).1
      refine ⟨t, _, rfl, .inl (.inl upd_same), rfl, _, _, rfl, _, _, rfl, rfl, ?_⟩
      refine ⟨_, rfl, rfl, _, rfl, ?_⟩
      have nq : ¬ V.int ((i : Nat) : Int) = V.int 12 := fun z => by
        have := V.int.inj z
        omega
      rw [decide_eq_false nq]
      refine iteF ?_
      refine ⟨_, rfl, _, rfl, L, a, ρ, rfl, sm _ _ (s2 _ _ hat), hL, ho ρ (List.mem_of_getElem? hρ), fun H4 s4 => ?_⟩
      exact ⟨true, rfl, iteF ⟨s2.trans (sm.trans s4), _, _, rfl⟩⟩
    · rintro σ H2 ⟨s2, v2, v3, rfl⟩
      exact q H2 s2
end
end Say
namespace Say
open PySem PySem.Spec PyProof.Rows L2
/-- does the rule fit at the place of the signs -/
def fitsL (ρ : Rule) (z : List Nat) (i : Nat) : Bool :=
  if (z.drop i).take ρ.ow.length = ρ.ow then (decide (ρ.ah = []) || decide (z.getD (i - 1) 0 ∈ ρ.ah)) && (decide (ρ.be = []) || decide (z.getD (i + ρ.ow.length) 0 ∈ ρ.be)) else false
/-- a word between its edges -/
def sgn (wd : List Nat) : List Nat := 35 :: (wd ++ [35])
theorem sgn_len (wd : List Nat) : (sgn wd).length = wd.length + 2 := by simp [sgn]
theorem sgn_last (wd : List Nat) : (sgn wd)[wd.length + 1]? = some 35 := by
  unfold sgn
  rw [List.getElem?_cons_succ, List.getElem?_append_right (Nat.le_refl _), Nat.sub_self]
  rfl
theorem cut_at {z : List Nat} {i n : Nat} (h : i ≤ z.length) : cutS (T z) (some (i : Int)) (some ((i + n : Nat) : Int)) = T ((z.drop i).take n) := by
  unfold cutS
  rw [T_len, HT.sIx_nat, HT.sIx_nat, Nat.min_eq_left h]
  show T ((z.drop i).take (min (i + n) z.length - i)) = _
  congr 1
  by_cases c : i + n ≤ z.length
  · rw [Nat.min_eq_left c, Nat.add_sub_cancel_left]
  · rw [Nat.min_eq_right (by omega), List.take_of_length_le (by rw [List.length_drop]; omega), List.take_of_length_le (by rw [List.length_drop]; omega)]
theorem fit_room {wd ow : List Nat} {i : Nat} (h : ((sgn wd).drop i).take ow.length = ow) (h1 : 1 ≤ ow.length) (h35 : 35 ∉ ow) : i + ow.length ≤ wd.length + 1 := by
  have hl := congrArg List.length h
  rw [List.length_take, List.length_drop, sgn_len] at hl
  refine Decidable.byContradiction fun n => h35 ?_
  have e : i + ow.length = wd.length + 2 := by omega
  have g : ow[ow.length - 1]? = some 35 := by
    rw [← h, List.getElem?_take_of_lt (by rw [h]; omega), List.getElem?_drop]
    rw [show i + ((((sgn wd).drop i).take ow.length).length - 1) = wd.length + 1 by rw [h]; omega]
    exact sgn_last wd
  exact List.mem_of_getElem? g
theorem dec_nil (l : List Nat) : decide (V.str (T l) = V.str (Str.ofString "")) = decide (l = []) := by
  rw [show Str.ofString "" = T [] from nil_eq]
  refine decide_eq_decide.mpr ⟨fun z => T_inj (V.str.inj z), fun z => by rw [z]⟩
section
variable {P : Program} {w : World} {K : PySem.W.Frag} {mg : Str → Option Value} {base : Heap}
abbrev sFits : Stmt := topS 43
theorem scFits : FnScope ["rule", "signs", "at", "ahead", "own", "behind", "_", "past"] ["rule", "signs", "at"] (defScope sFits) := ⟨rfl, rfl, rfl, by decide +kernel, rfl, by decide +kernel, by decide +kernel⟩
/-- where its letters stand, the sign behind them stands, too -/
def RoomAt (ρ : Rule) (z : List Nat) (i : Nat) : Prop := (z.drop i).take ρ.ow.length = ρ.ow → i + ρ.ow.length < z.length
def spFits : Sp := fun vs H Q _ => ∃ (t : Addr) (ρ : Rule) (z : List Nat) (i : Nat), vs = [.ref t, .str (T z), .int i] ∧ H t = some (.tup ρ.vs) ∧ ρ.ow.length ≤ 2 ∧ 1 ≤ i ∧ i ≤ z.length ∧ z.length ≤ 100 ∧ RoomAt ρ z i ∧
  Q (.bl (fitsL ρ z i)) H
theorem ok_fits {f : Addr} {fd : FuncData} (F : Fun K "fits" "fits" sFits f fd) (B : Bn mg) : FnOk P w K mg base CX0 1 f fd ["rule", "signs", "at"] spFits := by
  refine F.ok scFits (fun vs H Q E h => ?_) (fun cdv A outer s H vs Q E hr h => ?_)
  · obtain ⟨t, ρ, z, i, rfl, _⟩ := h
    rfl
  · obtain ⟨t, ρ, z, i, rfl, ht, h2, hi1, hi, hw, hroom, q⟩ := h
    refine ⟨_, pss_cons (ps_asg (pv 0) (pg_tup (by rfl) (pgs_cons (pg_name (i := 3) scFits.nd rfl (.inl rfl)) (pgs_cons (pg_name (i := 4) scFits.nd rfl (.inl rfl)) (pgs_cons (pg_name (i := 5) scFits.nd rfl (.inl rfl)) (pgs_cons (pg_name (i := 6) scFits.nd rfl (.inl rfl)) pgs_nil))))))
      (pss_cons (ps_set (i := 7) scFits.nd rfl (.inl rfl) (pe_op op_add (pv 2) (pe_callB call_len_str (by rfl) B.len PySem.boot_len (pa_cons (pv 4) pa_nil))))
      (pss_cons (ps_if (pt_cmpR op_ne (pe_slice sl_str (pv 1) (po_some (pv 2)) (po_some (pv 7))) (pv 4) (nomark _)) (pss_one (ps_ret pe_bl)) pss_nil)
      (pss_one (ps_ret (pe_and (pe_or (pe_cmpR op_eq (pv 3) pe_str (nomark _)) (pe_one (pe_cmpR op_in_sign (pe_ix ix_str (pv 1) (pe_op op_sub (pv 2) pe_int) (fun _ _ => rfl)) (pv 3) rfl)))
        (pe_one (pe_or (pe_cmpR op_eq (pv 5) pe_str (nomark _)) (pe_one (pe_cmpR op_in_sign (pe_ix ix_str (pv 1) (pv 7) (fun _ _ => rfl)) (pv 5) rfl))))))))), ?_⟩
    have hzl : (T z).length ≤ sizeLine := by rw [T_len]; exact small (by omega)
    have hol : (T ρ.ow).length ≤ sizeLine := by rw [T_len]; exact small (by omega)
    refine ⟨_, rfl, t, _, rfl, .inl (.inl ht), rfl, _, _, rfl, _, _, rfl, _, _, rfl, _, _, rfl, rfl, ?_⟩
    refine ⟨_, rfl, _, rfl, _, rfl, hol, _, _, rfl, rfl, ?_⟩
    refine ⟨_, rfl, _, rfl, _, rfl, _, rfl, _, rfl, T z, rfl, hzl, _, rfl, ?_⟩
    rw [show ((i : Nat) : Int) + ((T ρ.ow).length : Int) = ((i + ρ.ow.length : Nat) : Int) by rw [T_len]; omega, cut_at (by omega)]
    refine ⟨rfl, _, rfl, ?_⟩
    have eow : (V.str (T ((z.drop i).take ρ.ow.length)) = V.str (T ρ.ow)) ↔ (z.drop i).take ρ.ow.length = ρ.ow :=
      ⟨fun z => T_inj (V.str.inj z), fun z => by rw [z]⟩
    by_cases c : (z.drop i).take ρ.ow.length = ρ.ow
    · rw [decide_eq_true (eow.mpr c)]
      refine iteF ?_
      have room := hroom c
      unfold fitsL at q
      rw [if_pos c] at q
      -- ahead
      refine ⟨_, rfl, rfl, _, rfl, ?_⟩
      rw [dec_nil]
      have g1 : (T z).cps.toList[i - 1]? = some (z.getD (i - 1) 0) := by rw [T_cps, List.getD_eq_getElem?_getD, List.getElem?_eq_getElem (by omega)]; rfl
      have g2 : (T z).cps.toList[i + ρ.ow.length]? = some (z.getD (i + ρ.ow.length) 0) := by rw [T_cps, List.getD_eq_getElem?_getD, List.getElem?_eq_getElem (by omega)]; rfl
      refine ite2 (fun c1 => ?_) (fun c1 => ?_)
      · refine ⟨true, rfl, iteT ?_⟩
        have q2 : Q (.bl (decide (ρ.be = []) || decide (z.getD (i + ρ.ow.length) 0 ∈ ρ.be))) H := by
          rw [c1, Bool.true_or, Bool.true_and] at q; exact q
        refine ⟨_, rfl, rfl, _, rfl, ?_⟩
        rw [dec_nil]
        refine ite2 (fun d1 => ?_) (fun d1 => ?_)
        · rw [d1, Bool.true_or] at q2
          exact q2
        · rw [Bool.eq_false_iff.mpr d1, Bool.false_or] at q2
          exact ⟨_, rfl, _, rfl, T z, _, _, rfl, rfl, hzl, atI_of g2 (by rw [T_len]; omega), _, rfl, _, T ρ.be, rfl, rfl, q2⟩
      · rw [Bool.eq_false_iff.mpr c1, Bool.false_or] at q
        refine ⟨_, rfl, _, rfl, _, _, rfl, rfl, T z, _, _, rfl, rfl, hzl, atI_of g1 (by omega), _, rfl, _, T ρ.ah, rfl, rfl, _, rfl, ?_⟩
        refine ite2 (fun c2 => ?_) (fun c2 => ?_)
        · have q2 : Q (.bl (decide (ρ.be = []) || decide (z.getD (i + ρ.ow.length) 0 ∈ ρ.be))) H := by
            rw [show decide (z.getD (i - 1) 0 ∈ ρ.ah) = true from c2, Bool.true_and] at q; exact q
          refine ⟨_, rfl, rfl, _, rfl, ?_⟩
          rw [dec_nil]
          refine ite2 (fun d1 => ?_) (fun d1 => ?_)
          · rw [d1, Bool.true_or] at q2
            exact q2
          · rw [Bool.eq_false_iff.mpr d1, Bool.false_or] at q2
            exact ⟨_, rfl, _, rfl, T z, _, _, rfl, rfl, hzl, atI_of g2 (by rw [T_len]; omega), _, rfl, _, T ρ.be, rfl, rfl, q2⟩
        · rw [show decide (z.getD (i - 1) 0 ∈ ρ.ah) = false from Bool.eq_false_iff.mpr c2, Bool.false_and] at q
          exact q
    · rw [decide_eq_false fun z => c (eow.mp z)]
      refine iteT ?_
      unfold fitsL at q
      rw [if_neg c] at q
      exact q
end
end Say
namespace Say
open PySem PySem.Spec PyProof.Rows L2
/-- the number of the first rule that fits -/
def ff (rs : List Rule) (z : List Nat) (i : Nat) : Option Nat := rs.findIdx? fun ρ => fitsL ρ z i
def ruleAt (rs : List Rule) (k : Nat) : Rule := rs.getD k ⟨[], [], [], []⟩
/-- the steps from a place on, and where it is stuck -/
def wk (rs : List Rule) (z : List Nat) : Nat → Nat → List (Nat × Nat) × Option Nat
  | 0, _ => ([], none)
  | m + 1, i => if i < z.length - 1 then
      match ff rs z i with
      | none => ([], some (i - 1))
      | some k => ((i - 1, k) :: (wk rs z m (i + (ruleAt rs k).ow.length)).1, (wk rs z m (i + (ruleAt rs k).ow.length)).2)
    else ([], none)
def W (rs : List Rule) (wd : List Nat) : List (Nat × Nat) × Option Nat := wk rs (sgn wd) (wd.length + 1) 1
theorem wk_end (rs : List Rule) (z : List Nat) (m i : Nat) (h : ¬ i < z.length - 1) : wk rs z m i = ([], none) := by
  cases m with
  | zero => rfl
  | succ m =>
    unfold wk
    rw [if_neg h]
theorem wk_none {rs : List Rule} {z : List Nat} {m i : Nat} (h : i < z.length - 1) (e : ff rs z i = none) : wk rs z (m + 1) i = ([], some (i - 1)) := by
  rw [wk, if_pos h, e]
theorem wk_some {rs : List Rule} {z : List Nat} {m i k : Nat} (h : i < z.length - 1) (e : ff rs z i = some k) : wk rs z (m + 1) i = ((i - 1, k) :: (wk rs z m (i + (ruleAt rs k).ow.length)).1, (wk rs z m (i + (ruleAt rs k).ow.length)).2) := by
  rw [wk, if_pos h, e]
theorem wk_len (rs : List Rule) (z : List Nat) : ∀ m i : Nat, (wk rs z m i).1.length ≤ m
  | 0, _ => Nat.le_refl 0
  | m + 1, i => by
    by_cases h : i < z.length - 1
    · cases e : ff rs z i with
      | none => rw [wk_none h e]; exact Nat.zero_le _
      | some k =>
        rw [wk_some h e]
        exact Nat.succ_le_succ (wk_len rs z m _)
    · rw [wk_end rs z _ i h]
      exact Nat.zero_le _
theorem ff_lt {rs : List Rule} {z : List Nat} {i k : Nat} (e : ff rs z i = some k) : k < rs.length := by
  obtain ⟨h, _⟩ := List.findIdx?_eq_some_iff_getElem.mp e
  exact h
theorem ruleAt_eq {rs : List Rule} {k : Nat} {ρ : Rule} (h : rs[k]? = some ρ) : ruleAt rs k = ρ := by
  unfold ruleAt
  rw [List.getD_eq_getElem?_getD, h]
  rfl
/-- what rules ask for the walk -/
structure RlOk (ρ : Rule) : Prop where
  o1 : 1 ≤ ρ.ow.length
  o2 : ρ.ow.length ≤ 2
  h35 : 35 ∉ ρ.ow
  s3 : ρ.so.length ≤ 3
theorem RuleOk.rl {L : List Nat} {ρ : Rule} (hL : LetOk L) (h : RuleOk L ρ) : RlOk ρ := ⟨h.o1, h.o2, fun z => by have := (hL.az _ (h.ow _ z)).1; omega, h.s3⟩
theorem BookOk.rls {L : List Nat} {rs : List Rule} {es : List Exc} (h : BookOk L rs es) : ∀ ρ ∈ rs, RlOk ρ := fun ρ hρ => (h.rl ρ hρ).rl h.lt
theorem eqT {a b : List Nat} : decide (V.str (T a) = V.str (T b)) = decide (a = b) := decide_eq_decide.mpr ⟨fun z => T_inj (V.str.inj z), fun z => by rw [z]⟩
theorem wk_stuck (rs : List Rule) (z : List Nat) : ∀ m i p : Nat, 1 ≤ i → (wk rs z m i).2 = some p → p + 2 ≤ z.length
  | 0, i, p, _, h => by cases h
  | m + 1, i, p, hi, h => by
    by_cases c : i < z.length - 1
    · cases e : ff rs z i with
      | none =>
        rw [wk_none c e] at h
        cases h
        omega
      | some k =>
        rw [wk_some c e] at h
        exact wk_stuck rs z m _ p (by omega) h
    · rw [wk_end rs z _ i c] at h
      cases h
theorem W_stuck {rs : List Rule} {wd : List Nat} {p : Nat} (h : (W rs wd).2 = some p) : p ≤ wd.length := by
  have := wk_stuck rs (sgn wd) _ 1 p (Nat.le_refl 1) h
  rw [sgn_len] at this
  omega
section
variable {P : Program} {w : World} {K : PySem.W.Frag} {mg : Str → Option Value} {base : Heap}
abbrev sFF : Stmt := topS 44
theorem scFF : FnScope ["rules", "signs", "at", "number", "rule"] ["rules", "signs", "at"] (defScope sFF) := ⟨rfl, rfl, rfl, by decide +kernel, rfl, by decide +kernel, by decide +kernel⟩
def optI : Option Nat → V
  | none => .non
  | some k => .int k
def spFF : Sp := fun vs H Q _ => ∃ (R : Addr) (rs : List Rule) (z : List Nat) (i : Nat), vs = [.ref R, .str (T z), .int i] ∧ RulesAt H R rs ∧ (∀ ρ ∈ rs, RlOk ρ) ∧ 1 ≤ i ∧ i ≤ z.length ∧ z.length ≤ 100 ∧ (∀ ρ ∈ rs, RoomAt ρ z i) ∧
  ∀ H', Same H H' → Q (optI (ff rs z i)) H'
theorem room_sgn {rs : List Rule} (h : ∀ ρ ∈ rs, RlOk ρ) (wd : List Nat) (i : Nat) : ∀ ρ ∈ rs, RoomAt ρ (sgn wd) i := fun ρ hρ c => by
  have := fit_room c (h ρ hρ).o1 (h ρ hρ).h35
  rw [sgn_len]
  omega
theorem ok_FF {f : Addr} {fd : FuncData} (F : Fun K "first_fit" "first_fit" sFF f fd) (B : Bn mg) (DF : Df P w K mg base "fits" ["rule", "signs", "at"] 1 spFits) : FnOk P w K mg base CX0 2 f fd ["rules", "signs", "at"] spFF := by
  obtain ⟨fF, fdF, GF, kF, bF, mF⟩ := DF
  refine F.ok scFF (fun vs H Q E h => ?_) (fun cdv A outer s H vs Q E hr h => ?_)
  · obtain ⟨R, rs, z, i, rfl, _⟩ := h
    rfl
  · obtain ⟨R, rs, z, i, rfl, ⟨ts, hR, hp⟩, ho, hi1, hi, hw, hrm, q⟩ := h
    refine ⟨_, pss_cons (ps_for PassesOwn.never rfl (pi_enumT (by rfl) B.enu (pa_cons (pv 0) pa_nil)) (pg_tup (by rfl) (pgs_cons (pg_name (i := 3) scFF.nd rfl (.inl rfl)) (pgs_cons (pg_name (i := 4) scFF.nd rfl (.inl rfl)) pgs_nil)))
        (pss_one (ps_if (pt_val (pe_call GF hr (by rfl) mF kF bF .nil pass0 (pa_cons (pv 4) (pa_cons (pv 1) (pa_cons (pv 2) pa_nil))))) (pss_one (ps_ret (pv 3))) pss_nil)))
      (pss_one (ps_ret pe_non)), ?_⟩
    refine ⟨_, rfl, R, _, rfl, .inl (.inl hR), for_it (walk_enumT (xs := ts.map V.ref)) (fun j σ H2 => Same H H2 ∧ (∃ v3 v4, σ = [some (.ref R), some (.str (T z)), some (.int i), v3, v4]) ∧ ∀ k ρ, k < j → rs[k]? = some ρ → fitsL ρ z i = false)
      ⟨Same.refl H, ⟨_, _, rfl⟩, fun k ρ h => absurd h (Nat.not_lt_zero k)⟩ (fun j σ H2 _ h => .inl (.inl (h.1 _ _ hR))) ?_ ?_⟩
    · rintro j x σ H2 H3 hj ⟨s2, ⟨v3, v4, rfl⟩, hn⟩ ⟨t, x1, x2, rfl, ht, rfl, g1, g2⟩
      cases g1
      have g2 : (ts.map V.ref)[j]? = some x2 := g2
      rw [List.getElem?_map] at g2
      obtain ⟨a, ha, e⟩ := Option.map_eq_some_iff.mp g2
      subst e
      obtain ⟨ρ, hρ, hat⟩ := paired_at hp ha
      have hm := ho ρ (List.mem_of_getElem? hρ)
      have sm := same_new ht (.tup [.int (j : Nat), .ref a])
      refine ⟨t, _, rfl, .inl (.inl upd_same), rfl, _, _, rfl, _, _, rfl, rfl, ?_⟩
      refine ⟨_, rfl, _, rfl, _, rfl, a, ρ, z, i, rfl, sm _ _ (s2 _ _ hat), hm.o2, hi1, hi, hw, hrm ρ (List.mem_of_getElem? hρ), _, rfl, ite2 (fun c => ?_) (fun c => ?_)⟩
      · refine ⟨_, rfl, ?_⟩
        have := q _ (s2.trans sm)
        have e : ff rs z i = some j := by
          refine List.findIdx?_eq_some_iff_getElem.mpr ⟨(List.getElem?_eq_some_iff.mp hρ).1, ?_, fun k hk => ?_⟩
          · rw [(List.getElem?_eq_some_iff.mp hρ).2]
            exact c
          · rw [hn k _ hk (List.getElem?_eq_getElem (by have := (List.getElem?_eq_some_iff.mp hρ).1; omega))]
            exact Bool.false_ne_true
        rw [e] at this
        exact this
      · refine ⟨s2.trans sm, ⟨_, _, rfl⟩, fun k ρ' hk hk' => ?_⟩
        by_cases e : k = j
        · subst e
          rw [hρ] at hk'
          cases hk'
          exact Bool.eq_false_iff.mpr c
        · exact hn k ρ' (by omega) hk'
    · rintro σ H2 ⟨s2, ⟨v3, v4, rfl⟩, hn⟩
      have := q _ s2
      have e : ff rs z i = none := by
        refine List.findIdx?_eq_none_iff.mpr fun ρ hρ => ?_
        obtain ⟨k, hk⟩ := List.mem_iff_getElem?.mp hρ
        have hl := (List.getElem?_eq_some_iff.mp hk).1
        exact hn k ρ (by rw [List.length_map, paired_len hp]; exact hl) hk
      rw [e] at this
      exact this
abbrev sSt : Stmt := topS 45
theorem scSt : FnScope ["rules", "tail", "signs", "steps", "at", "number"] ["rules", "tail"] (defScope sSt) := ⟨rfl, rfl, rfl, by decide +kernel, rfl, by decide +kernel, by decide +kernel⟩
/-- the list at D holds steps -/
def StepsAt (H : Hp) (D : Addr) (ss : List (Nat × Nat)) : Prop := ∃ ts : List Addr, H D = some (.lst (ts.map V.ref)) ∧ Paired (fun t (s : Nat × Nat) => H t = some (.tup [.int (s.1 : Nat), .int (s.2 : Nat)])) ts ss
theorem StepsAt.same {H H' : Hp} {D : Addr} {ss : List (Nat × Nat)} (h : StepsAt H D ss) (e : Same H H') : StepsAt H' D ss := by
  obtain ⟨ts, h1, h2⟩ := h
  exact ⟨ts, e _ _ h1, paired_mono (fun t ρ q => e _ _ q) h2⟩
theorem len1 (tl : List Nat) : (tl ++ [35]).length = tl.length + 1 := by simp
/-- a tail's steps, and where it is stuck -/
def Wt (rs : List Rule) (tl : List Nat) : List (Nat × Nat) × Option Nat := wk rs (tl ++ [35]) tl.length 1
theorem W_Wt (rs : List Rule) (wd : List Nat) : W rs wd = Wt rs (35 :: wd) := rfl
theorem fit_roomT {tl ow : List Nat} {i : Nat} (h : ((tl ++ [35]).drop i).take ow.length = ow) (h1 : 1 ≤ ow.length) (h35 : 35 ∉ ow) : i + ow.length ≤ tl.length := by
  have hl := congrArg List.length h
  rw [List.length_take, List.length_drop, List.length_append, List.length_singleton] at hl
  refine Decidable.byContradiction fun n => h35 ?_
  have e : i + ow.length = tl.length + 1 := by omega
  have g : ow[ow.length - 1]? = some 35 := by
    rw [← h, List.getElem?_take_of_lt (by rw [h]; omega), List.getElem?_drop]
    rw [show i + ((((tl ++ [35] : List Nat).drop i).take ow.length).length - 1) = tl.length by rw [h]; omega]
    rw [List.getElem?_append_right (Nat.le_refl _), Nat.sub_self]
    rfl
  exact List.mem_of_getElem? g
theorem room_tl {rs : List Rule} (h : ∀ ρ ∈ rs, RlOk ρ) (tl : List Nat) (i : Nat) : ∀ ρ ∈ rs, RoomAt ρ (tl ++ [35]) i := fun ρ hρ c => by
  have := fit_roomT c (h ρ hρ).o1 (h ρ hρ).h35
  rw [List.length_append, List.length_singleton]
  omega
def spSt : Sp := fun vs H Q _ => ∃ (R : Addr) (rs : List Rule) (tl : List Nat), vs = [.ref R, .str (T tl)] ∧ RulesAt H R rs ∧ (∀ ρ ∈ rs, RlOk ρ) ∧ 1 ≤ tl.length ∧ tl.length ≤ 81 ∧
  ∀ (t D : Addr) (H' : Hp), Same H H' → H D = none → H' t = some (.tup [.ref D, optI (Wt rs tl).2]) → StepsAt H' D (Wt rs tl).1 → Q (.ref t) H'
theorem ok_St {f : Addr} {fd : FuncData} (F : Fun K "steps_of" "steps_of" sSt f fd) (B : Bn mg) (C : Cn mg) (cO : KI mg "OWN" 1) (DF : Df P w K mg base "first_fit" ["rules", "signs", "at"] 2 spFF) : FnOk P w K mg base CX0 3 f fd ["rules", "tail"] spSt := by
  obtain ⟨fF, fdF, GF, kF, bF, mF⟩ := DF
  obtain ⟨tE, mE⟩ := C.edge
  obtain ⟨tO, mO⟩ := cO
  refine F.ok scSt (fun vs H Q E h => ?_) (fun cdv A outer s H vs Q E hr h => ?_)
  · obtain ⟨R, rs, tl, rfl, _⟩ := h
    rfl
  · obtain ⟨R, rs, tl, rfl, hR, ho, hl1, hw, q⟩ := h
    refine ⟨_, pss_cons (ps_set (i := 2) scSt.nd rfl (.inl rfl) (pe_op op_add_str (pv 1) (pe_glob (v := .str "#") rfl mE ⟨_, rfl⟩)))
      (pss_cons (ps_set (i := 3) scSt.nd rfl (.inl rfl) (pe_lst pa_nil))
      (pss_cons (ps_set (i := 4) scSt.nd rfl (.inl rfl) pe_int)
      (pss_cons (ps_while PassesOwn.never (pt_cmpR op_lt (pv 4) (pe_op op_sub (pe_callB call_len_str (by rfl) B.len PySem.boot_len (pa_cons (pv 2) pa_nil)) pe_int) (nomark _))
        (pss_cons (ps_set (i := 5) scSt.nd rfl (.inl rfl) (pe_call GF hr (by rfl) mF kF bF .nil pass0 (pa_cons (pv 0) (pa_cons (pv 2) (pa_cons (pv 4) pa_nil)))))
        (pss_cons (ps_if (pt_cmpR op_isN (pv 5) pe_non (nomark _)) (pss_one (ps_ret (pe_tup (pa_cons (pv 3) (pa_cons (pe_op op_sub (pv 4) pe_int) pa_nil))))) pss_nil)
        (pss_cons (ps_expr (pe_bm PySem.F.plainAttrs_list PySem.F.slot_list_append PySem.F.type_list_append mt_append (pv 3) (pa_cons (pe_tup (pa_cons (pe_op op_sub (pv 4) pe_int) (pa_cons (pv 5) pa_nil))) pa_nil)))
        (pss_one (ps_aug (i := 4) scSt.nd rfl (.inl rfl) (pe_callB call_len_str (by rfl) B.len PySem.boot_len (pa_cons (pe_ix ix_tup (pe_ix ix_tup (pv 0) (pv 5) (fun _ _ => rfl)) (pe_glob (v := .int 1) rfl mO ⟨_, rfl⟩) (fun _ _ => rfl)) pa_nil)) ip_add))))))
      (pss_one (ps_ret (pe_tup (pa_cons (pv 3) (pa_cons pe_non pa_nil)))))))), ?_⟩
    refine ⟨_, rfl, _, _, rfl, rfl, (by rw [len_hash, T_len]; exact small (by omega)), ?_⟩
    rw [app_hash]
    show tSeq _ _ _ _ _
    refine ⟨(by show 0 ≤ sizeLine; decide), fun D hD => ?_⟩
    obtain ⟨rts, hRt, hRp⟩ := id hR
    have zl : (T (tl ++ [35])).length = tl.length + 1 := by rw [T_len, len1]
    have hz0 : (T (tl ++ [35])).length ≤ sizeLine := by rw [zl]; exact small (by omega)
    refine ⟨fun m σ H2 => ∃ (i : Nat) (acc : List (Nat × Nat)) (v5 : Option V), σ = [some (.ref R), some (.str (T tl)), some (.str (T (tl ++ [35]))), some (.ref D), some (.int i), v5] ∧ 1 ≤ i ∧ tl.length + 1 ≤ i + m ∧ Same H H2 ∧ StepsAt H2 D acc ∧
      Wt rs tl = (acc ++ (wk rs (tl ++ [35]) m i).1, (wk rs (tl ++ [35]) m i).2), ⟨tl.length, 1, [], _, rfl, Nat.le_refl _, by omega, same_new hD _, ⟨[], upd_same, .nil⟩, rfl⟩, fun m σ H2 hW => ?_⟩
    obtain ⟨i, acc, v5, rfl, hi1, hm, s2, hS, hW⟩ := hW
    refine ⟨_, rfl, _, rfl, _, rfl, hz0, _, _, rfl, rfl, _, _, rfl, rfl, _, rfl, ite2 (fun c => ?_) (fun c => ?_)⟩
    · have c' : (i : Int) < ((T (tl ++ [35])).length : Int) - 1 := of_decide_eq_true c
      rw [zl] at c'
      have hi : i < tl.length := by omega
      have hlt : i < (tl ++ [35]).length - 1 := by rw [len1]; omega
      obtain ⟨m', rfl⟩ : ∃ m', m = m' + 1 := ⟨m - 1, by omega⟩
      refine ⟨fun σ' H' => ∃ (i : Nat) (acc : List (Nat × Nat)) (v5 : Option V), σ' = [some (.ref R), some (.str (T tl)), some (.str (T (tl ++ [35]))), some (.ref D), some (.int i), v5] ∧ 1 ≤ i ∧ tl.length + 1 ≤ i + m' ∧ Same H H' ∧ StepsAt H' D acc ∧
        Wt rs tl = (acc ++ (wk rs (tl ++ [35]) m' i).1, (wk rs (tl ++ [35]) m' i).2), fun σ' H' h => ⟨m', Nat.lt_succ_self _, h⟩, ?_⟩
      refine ⟨_, rfl, _, rfl, _, rfl, R, rs, tl ++ [35], i, rfl, hR.kt (.of s2), ho, hi1, by rw [len1]; omega, by rw [len1]; omega, room_tl ho tl i, fun H3 s3 => ?_⟩
      have s23 := s2.trans s3
      obtain ⟨ts, hDl, hDp⟩ := hS.same s3
      cases e : ff rs (tl ++ [35]) i with
      | none =>
        rw [wk_none hlt e] at hW
        refine ⟨_, rfl, rfl, _, rfl, iteT ?_⟩
        refine ⟨_, rfl, _, rfl, _, _, rfl, rfl, (by show 2 ≤ sizeLine; decide), fun t ht => ?_⟩
        have sm := same_new ht (.tup [.ref D, .int ((i : Int) - 1)])
        refine q t D _ (s23.trans sm) hD ?_ ?_
        · rw [upd_same, hW]
          show some (HO.tup [V.ref D, V.int ((i : Int) - 1)]) = some (HO.tup [V.ref D, V.int ((i - 1 : Nat) : Int)])
          rw [show ((i - 1 : Nat) : Int) = (i : Int) - 1 by omega]
        · rw [hW, List.append_nil]
          exact StepsAt.same ⟨ts, hDl, hDp⟩ sm
      | some k =>
        rw [wk_some hlt e] at hW
        have hk := ff_lt e
        obtain ⟨a, ha, hat⟩ := paired_at' hRp (List.getElem?_eq_getElem hk)
        have hm2 := ho _ (List.getElem_mem hk)
        have er : ruleAt rs k = rs[k] := ruleAt_eq (List.getElem?_eq_getElem hk)
        refine ⟨_, rfl, rfl, _, rfl, ?_⟩
        rw [show decide (optI (some k) = V.non) = false from decide_eq_false (fun z => by cases z)]
        refine iteF ?_
        refine ⟨_, rfl, .inl ⟨rfl, _, .inl (.inl hDl)⟩, _, rfl, _, _, rfl, rfl, _, rfl, (by show 2 ≤ sizeLine; decide), fun t ht => ?_⟩
        have sm := same_new ht (.tup [.int ((i : Int) - 1), .int (k : Nat)])
        have hDl' := sm _ _ hDl
        have sall : Same H (upd (upd H3 t (.tup [.int ((i : Int) - 1), .int (k : Nat)])) D (.lst (ts.map V.ref ++ [.ref t]))) := fun b u e => by
          rw [upd_ne (ne_of_none e hD)]
          exact sm _ _ (s23 _ _ e)
        refine ⟨D, _, _, rfl, rfl, hDl', ?_, ?_⟩
        · rw [List.length_map, paired_len hDp]
          have l1 : (Wt rs tl).1.length ≤ tl.length := wk_len rs (tl ++ [35]) tl.length 1
          rw [hW] at l1
          simp at l1
          exact small1000 (by omega)
        · have kR : Same H3 (upd (upd H3 t (.tup [.int ((i : Int) - 1), .int (k : Nat)])) D (.lst (ts.map V.ref ++ [.ref t]))) → True := fun _ => trivial
          have atR := sall _ _ hRt
          have ata := sall _ _ hat
          refine ⟨_, rfl, _, rfl, _, rfl, R, _, (k : Int), .ref a, rfl, rfl, .inl (.inl atR), atI_nat (by rw [List.getElem?_map, ha]; rfl), a, _, 1, .str (T rs[k].ow), rfl, rfl, .inl (.inl ata), atI_nat (j := 1) rfl, _, rfl, (by rw [T_len]; have := hm2.o2; exact small (by omega)), _, _, rfl, rfl, ?_⟩
          refine ⟨i + rs[k].ow.length, acc ++ [(i - 1, k)], some (.int (k : Nat)), ?_, by omega, by have := hm2.o1; omega, sall, ?_, ?_⟩
          · have ee : ((i + rs[k].ow.length : Nat) : Int) = (i : Int) + ((T rs[k].ow).length : Int) := by rw [T_len]; omega
            rw [ee]
            rfl
          · refine ⟨ts ++ [t], by rw [upd_same, List.map_append]; rfl, paired_app (paired_mono (fun t' s h => ?_) hDp) (.cons ?_ .nil)⟩
            · rw [upd_ne (ne_of h hDl (by intro z; cases z))]
              exact sm _ _ h
            · rw [upd_ne (ne_of_none hDl ht).symm, upd_same]
              show some (HO.tup [V.int ((i : Int) - 1), V.int (k : Nat)]) = some (HO.tup [V.int ((i - 1 : Nat) : Int), V.int (k : Nat)])
              rw [show ((i - 1 : Nat) : Int) = (i : Int) - 1 by omega]
          · rw [hW, er, List.append_assoc]
            rfl
    · have c' : ¬ (i : Int) < ((T (tl ++ [35])).length : Int) - 1 := of_decide_eq_false (Bool.eq_false_iff.mpr c)
      rw [zl] at c'
      rw [wk_end rs (tl ++ [35]) m i (by rw [len1]; omega)] at hW
      refine ⟨_, rfl, (by show 2 ≤ sizeLine; decide), fun t ht => ?_⟩
      have sm := same_new ht (.tup [.ref D, .non])
      refine q t D _ (s2.trans sm) hD ?_ ?_
      · rw [upd_same, hW]
        rfl
      · rw [hW, List.append_nil]
        exact hS.same sm
def LWAt (H : Hp) (t : Addr) (q : List (Nat × Nat) × Option Nat) : Prop := match q.2 with
  | some p => H t = some (.tup [.str (Str.ofString "unsaid"), .int (p : Nat)])
  | none => ∃ D, H t = some (.tup [.str (T []), .ref D]) ∧ StepsAt H D q.1
theorem LWAt.same {H H' : Hp} {t : Addr} {q : List (Nat × Nat) × Option Nat} (h : LWAt H t q) (e : Same H H') : LWAt H' t q := by
  obtain ⟨l, o⟩ := q
  cases o with
  | some p => exact e _ _ h
  | none =>
    obtain ⟨D', h1, h2⟩ := h
    exact ⟨D', e _ _ h1, h2.same e⟩
end
end Say
namespace Say
open PySem PySem.Spec PyProof.Rows L2
/-- the sounds of the rules of these numbers -/
def soL (rs : List Rule) (ks : List Nat) : List Nat := (ks.map fun k => (ruleAt rs k).so).flatten
/-- how rules say a word -/
def sayW (rs : List Rule) (wd : List Nat) : Option (List Nat) := if (W rs wd).2 = none then some (soL rs ((W rs wd).1.map (·.2))) else none
def optT : Option (List Nat) → V
  | none => .non
  | some s => .str (T s)
/-- how a book says a word -/
def saidM (rs : List Rule) (es : List Exc) (wd : List Nat) : Option (List Nat) := match es.find? fun e => decide (e.1 = wd) with
  | some e => some e.2
  | none => sayW rs wd
theorem sum_T : ∀ ls : List (List Nat), ((ls.map T).map fun z : Str => z.length).sum = ls.flatten.length
  | [] => rfl
  | l :: r => by
    show (T l).length + ((r.map T).map fun z : Str => z.length).sum = (l ++ r.flatten).length
    rw [sum_T r, T_len, List.length_append]
theorem flat_len {rs : List Rule} (h : ∀ ρ ∈ rs, RlOk ρ) : ∀ ks : List Nat, (∀ k ∈ ks, k < rs.length) → (soL rs ks).length ≤ 3 * ks.length
  | [], _ => Nat.zero_le _
  | k :: r, hk => by
    have ih := flat_len h r fun j hj => hk j (List.mem_cons_of_mem _ hj)
    have hl := hk k (List.mem_cons_self ..)
    have e : ruleAt rs k = rs[k] := ruleAt_eq (List.getElem?_eq_getElem hl)
    have h3 := (h _ (List.getElem_mem hl)).s3
    show ((ruleAt rs k).so ++ soL rs r).length ≤ 3 * (r.length + 1)
    rw [List.length_append, e]
    omega
theorem wk_lt {rs : List Rule} {z : List Nat} : ∀ (m i : Nat), ∀ s ∈ (wk rs z m i).1, s.2 < rs.length
  | 0, _, s, h => by cases h
  | m + 1, i, s, h => by
    by_cases c : i < z.length - 1
    · cases e : ff rs z i with
      | none => rw [wk_none c e] at h; cases h
      | some k =>
        rw [wk_some c e] at h
        rcases List.mem_cons.mp h with rfl | h
        · exact ff_lt e
        · exact wk_lt m _ s h
    · rw [wk_end rs z _ i c] at h
      cases h
section
variable {P : Program} {w : World} {K : PySem.W.Frag} {mg : Str → Option Value} {base : Heap}
abbrev sNum : Stmt := topS 47
theorem scNum : FnScope ["steps", "_", "number"] ["steps"] (defScope sNum) := ⟨rfl, rfl, rfl, by decide +kernel, rfl, by decide +kernel, by decide +kernel⟩
def spNum : Sp := fun vs H Q _ => ∃ (D : Addr) (ss : List (Nat × Nat)), vs = [.ref D] ∧ StepsAt H D ss ∧ ss.length ≤ 200 ∧ ∀ (D' : Addr) (H' : Hp), Same H H' → H D' = none → H' D' = some (.lst (ss.map fun s => V.int (s.2 : Nat))) → Q (.ref D') H'
theorem ok_num {f : Addr} {fd : FuncData} {k : Nat} (F : Fun K "numbers_of" "numbers_of" sNum f fd) : FnOk P w K mg base CX0 (k + 1) f fd ["steps"] spNum := by
  refine F.ok scNum (fun vs H Q E h => ?_) (fun cdv A outer s H vs Q E hr h => ?_)
  · obtain ⟨D, ss, rfl, _⟩ := h
    rfl
  · obtain ⟨D, ss, rfl, ⟨ts, hD, hp⟩, hl, q⟩ := h
    refine ⟨_, pss_one (ps_ret (pe_lc (own := [("_", 1), ("number", 2)]) (g := gTup K 2 (gCons (gName 1) (gCons (gName 2) gNil))) rfl scNum.nd (pi_list (pv 0))
        (blkOk_by (N := ["steps", "_", "number"]) (sc := defScope sNum) (by decide +kernel)) (fun _ _ _ _ _ => pg_tup (by rfl) (pgs_cons (pg_name (i := 1) scNum.nd rfl (.inl rfl)) (pgs_cons (pg_name (i := 2) scNum.nd rfl (.inl rfl)) pgs_nil)))
        (fun _ _ _ _ _ => pts_nil) (fun _ _ _ _ _ => pv 2))), ?_⟩
    refine ⟨_, rfl, D, rfl, ⟨_, .inl (.inl hD)⟩, fun D' hD' => ?_⟩
    refine lc_it (walk_list (xs := ts.map V.ref)) (fun i H2 => H2 D' = some (.lst ((ss.take i).map fun s => V.int (s.2 : Nat))) ∧ Same H H2) ?_ (fun i H2 _ h => .inl (.inl (h.2 _ _ hD))) ?_ ?_
    · exact ⟨upd_same, same_new hD' _⟩
    · rintro i x H2 H2' hi ⟨e1, e2⟩ ⟨rfl, hx⟩
      rw [List.getElem?_map] at hx
      obtain ⟨a, ha, e⟩ := Option.map_eq_some_iff.mp hx
      subst e
      obtain ⟨st, hst, hat⟩ := paired_at hp ha
      have hi2 : i < ss.length := (List.getElem?_eq_some_iff.mp hst).1
      refine ⟨a, _, rfl, .inl (.inl (e2 _ _ hat)), rfl, _, _, rfl, _, _, rfl, rfl, ?_⟩
      refine ⟨rfl, _, rfl, _, e1, ?_, ?_, ?_⟩
      · rw [List.length_map, List.length_take]
        exact small1000 (by omega)
      · rw [upd_same, List.take_add_one, hst, List.map_append]
        rfl
      · exact fun b u q => by
          rw [upd_ne (ne_of_none q hD')]
          exact e2 b u q
    · rintro H2 ⟨e1, e2⟩
      rw [List.length_map, paired_len hp, List.take_length] at e1
      exact q D' H2 e2 hD' e1
end
end Say
namespace Say
open PySem PySem.Spec PyProof.Rows L2
section
variable {P : Program} {w : World} {K : PySem.W.Frag} {mg : Str → Option Value} {base : Heap}
abbrev sSou : Stmt := topS 48
theorem scSou : FnScope ["rules", "numbers", "number"] ["rules", "numbers"] (defScope sSou) := ⟨rfl, rfl, rfl, by decide +kernel, rfl, by decide +kernel, by decide +kernel⟩
def spSou : Sp := fun vs H Q _ => ∃ (R D : Addr) (rs : List Rule) (ks : List Nat), vs = [.ref R, .ref D] ∧ RulesAt H R rs ∧ (∀ ρ ∈ rs, RlOk ρ) ∧ H D = some (.lst (ks.map fun k => V.int (k : Nat))) ∧ (∀ k ∈ ks, k < rs.length) ∧ ks.length ≤ 200 ∧
  ∀ (H' : Hp), Same H H' → Q (.str (T (soL rs ks))) H'
theorem ok_sou {f : Addr} {fd : FuncData} {k : Nat} (F : Fun K "sounds_of" "sounds_of" sSou f fd) (cS : KI mg "SOUNDS" 3) : FnOk P w K mg base CX0 (k + 1) f fd ["rules", "numbers"] spSou := by
  obtain ⟨tS, mS⟩ := cS
  refine F.ok scSou (fun vs H Q E h => ?_) (fun cdv A outer s H vs Q E hr h => ?_)
  · obtain ⟨R, D, rs, ks, rfl, _⟩ := h
    rfl
  · obtain ⟨R, D, rs, ks, rfl, ⟨rts, hR, hRp⟩, ho, hD, hk, hl, q⟩ := h
    refine ⟨_, pss_one (ps_ret (pe_join pe_str (pe_lc (own := [("number", 2)]) (g := gName 2) (te := tOp (rIxT K) (tOp (rIxT K) (tVar 0) (tVar 2)) (tC (.int 3))) rfl scSou.nd (pi_list (pv 1))
        (blkOk_by (N := ["rules", "numbers", "number"]) (sc := defScope sSou) (by decide +kernel)) (fun _ _ _ _ _ => pg_name (i := 2) scSou.nd rfl (.inl rfl))
        (fun _ _ _ _ _ => pts_nil) (fun _ _ _ _ _ => pe_ix ix_tup (pe_ix ix_tup (pv 0) (pv 2) (fun _ _ => rfl)) (pe_glob (v := .int 3) rfl mS ⟨_, rfl⟩) (fun _ _ => rfl))))), ?_⟩
    refine ⟨⟨_, rfl⟩, _, rfl, D, rfl, ⟨_, .inl (.inl hD)⟩, fun D' hD' => ?_⟩
    refine lc_it (walk_list (xs := ks.map fun k => V.int (k : Nat))) (fun i H2 => H2 D' = some (.lst ((((ks.take i).map fun k => (ruleAt rs k).so).map T).map V.str)) ∧ Same H H2) ?_ (fun i H2 _ h => .inl (.inl (h.2 _ _ hD))) ?_ ?_
    · exact ⟨upd_same, same_new hD' _⟩
    · rintro i x H2 H2' hi ⟨e1, e2⟩ ⟨rfl, hx⟩
      rw [List.getElem?_map] at hx
      obtain ⟨j, hj, e⟩ := Option.map_eq_some_iff.mp hx
      subst e
      have hjl := hk j (List.mem_of_getElem? hj)
      have hi2 : i < ks.length := (List.getElem?_eq_some_iff.mp hj).1
      obtain ⟨a, ha, hat⟩ := paired_at' hRp (List.getElem?_eq_getElem hjl)
      have er : ruleAt rs j = rs[j] := ruleAt_eq (List.getElem?_eq_getElem hjl)
      refine ⟨rfl, ?_⟩
      refine ⟨_, rfl, _, rfl, R, _, (j : Int), .ref a, rfl, rfl, .inl (.inl (e2 _ _ hR)), atI_nat (by rw [List.getElem?_map, ha]; rfl), a, _, 3, .str (T rs[j].so), rfl, rfl, .inl (.inl (e2 _ _ hat)), atI_nat (j := 3) rfl, _, e1, ?_, ?_, ?_⟩
      · rw [List.length_map, List.length_map, List.length_map, List.length_take]
        exact small1000 (by omega)
      · rw [upd_same, List.take_add_one, hj]
        simp only [Option.toList_some, List.map_append, List.map_cons, List.map_nil, er]
      · exact fun b u q => by
          rw [upd_ne (ne_of_none q hD')]
          exact e2 b u q
    · rintro H2 ⟨e1, e2⟩
      rw [List.length_map, List.take_length] at e1
      refine ⟨Str.ofString "", D', (ks.map fun k => (ruleAt rs k).so).map T, rfl, rfl, .inl (.inl (.inl e1)), ?_, ?_⟩
      · rw [sum_T]
        have := flat_len ho ks hk
        show (soL rs ks).length + _ * 0 ≤ _
        omega
      · rw [show Str.ofString "" = T [] from nil_eq, join_nil]
        exact q H2 e2
end
end Say
namespace Say
open PySem PySem.Spec PyProof.Rows L2
/-- the tail with a sign more, and the numbers of what is settled by it -/
def tkM (rs : List Rule) (tl : Option (List Nat)) (c : Nat) : Option (List Nat) × List Nat := match tl with
  | none => (none, [])
  | some t => if (t ++ [c]).length < 4 then (some (t ++ [c]), []) else
    match ff rs (t ++ [c]) 1 with
    | none => (none, [])
    | some k => (some ((t ++ [c]).drop (ruleAt rs k).ow.length), [k])
theorem cut_from {z : List Nat} {n : Nat} (h : n ≤ z.length) : cutS (T z) (some (n : Int)) none = T (z.drop n) := by
  unfold cutS
  rw [HT.sIx_nat]
  show T ((z.drop (min n (T z).length)).take ((T z).length - min n (T z).length)) = _
  rw [T_len, Nat.min_eq_left h, List.take_of_length_le (by rw [List.length_drop]; omega)]
section
variable {P : Program} {w : World} {K : PySem.W.Frag} {mg : Str → Option Value} {base : Heap}
abbrev sTk : Stmt := topS 46
theorem scTk : FnScope ["rules", "tail", "letter", "signs", "number"] ["rules", "tail", "letter"] (defScope sTk) := ⟨rfl, rfl, rfl, by decide +kernel, rfl, by decide +kernel, by decide +kernel⟩
def spTk : Sp := fun vs H Q _ => ∃ (R : Addr) (rs : List Rule) (tl : Option (List Nat)) (c : Nat), vs = [.ref R, optT tl, .str (T [c])] ∧ RulesAt H R rs ∧ (∀ ρ ∈ rs, RlOk ρ) ∧ (∀ t, tl = some t → 1 ≤ t.length ∧ t.length ≤ 3) ∧
  ∀ (u D : Addr) (H' : Hp), Same H H' → H D = none → H' u = some (.tup [optT (tkM rs tl c).1, .ref D]) → H' D = some (.lst ((tkM rs tl c).2.map fun k => V.int (k : Nat))) → Q (.ref u) H'
theorem ok_tk {f : Addr} {fd : FuncData} (F : Fun K "taken" "taken" sTk f fd) (B : Bn mg) (cO : KI mg "OWN" 1) (hS : KI mg "SETTLING" 4) (DF : Df P w K mg base "first_fit" ["rules", "signs", "at"] 2 spFF) : FnOk P w K mg base CX0 3 f fd ["rules", "tail", "letter"] spTk := by
  obtain ⟨fF, fdF, GF, kF, bF, mF⟩ := DF
  obtain ⟨tO, mO⟩ := cO
  obtain ⟨tS, mS⟩ := hS
  refine F.ok scTk (fun vs H Q E h => ?_) (fun cdv A outer s H vs Q E hr h => ?_)
  · obtain ⟨R, rs, tl, c, rfl, _⟩ := h
    rfl
  · obtain ⟨R, rs, tl, c, rfl, hR, ho, ht, q⟩ := h
    refine ⟨_, pss_cons (ps_if (pt_cmpR op_isN (pv 1) pe_non (nomark _)) (pss_one (ps_ret (pe_tup (pa_cons pe_non (pa_cons (pe_lst pa_nil) pa_nil))))) pss_nil)
      (pss_cons (ps_set (i := 3) scTk.nd rfl (.inl rfl) (pe_op op_add_str (pv 1) (pv 2)))
      (pss_cons (ps_if (pt_cmpR op_lt (pe_callB call_len_str (by rfl) B.len PySem.boot_len (pa_cons (pv 3) pa_nil)) (pe_glob (v := .int 4) rfl mS ⟨_, rfl⟩) (nomark _)) (pss_one (ps_ret (pe_tup (pa_cons (pv 3) (pa_cons (pe_lst pa_nil) pa_nil))))) pss_nil)
      (pss_cons (ps_set (i := 4) scTk.nd rfl (.inl rfl) (pe_call GF hr (by rfl) mF kF bF .nil pass0 (pa_cons (pv 0) (pa_cons (pv 3) (pa_cons pe_int pa_nil)))))
      (pss_cons (ps_if (pt_cmpR op_isN (pv 4) pe_non (nomark _)) (pss_one (ps_ret (pe_tup (pa_cons pe_non (pa_cons (pe_lst pa_nil) pa_nil))))) pss_nil)
      (pss_one (ps_ret (pe_tup (pa_cons (pe_slice sl_str (pv 3) (po_some (pe_callB call_len_str (by rfl) B.len PySem.boot_len (pa_cons (pe_ix ix_tup (pe_ix ix_tup (pv 0) (pv 4) (fun _ _ => rfl)) (pe_glob (v := .int 1) rfl mO ⟨_, rfl⟩) (fun _ _ => rfl)) pa_nil))) po_none)
        (pa_cons (pe_lst (pa_cons (pv 4) pa_nil)) pa_nil))))))))), ?_⟩
    -- an answer with no number
    have none_ : ∀ (v : V) (H1 : Hp), Same H H1 → (tkM rs tl c).2 = [] → v = optT (tkM rs tl c).1 → (0 ≤ sizeLine ∧ ∀ D, H1 D = none → (2 ≤ sizeLine ∧ ∀ u, (upd H1 D (.lst [])) u = none → Q (.ref u) (upd (upd H1 D (.lst [])) u (.tup [v, .ref D])))) := fun v H1 s1 e1 e2 => by
      refine ⟨by decide, fun D hD => ⟨by decide, fun u hu => ?_⟩⟩
      have sD := same_new hD (.lst [])
      have su := same_new hu (.tup [v, .ref D])
      refine q u D _ (s1.trans (sD.trans su)) (s1.free hD) (by rw [upd_same, e2]) ?_
      rw [e1]
      exact su _ _ upd_same
    cases tl with
    | none =>
      refine ⟨_, rfl, rfl, _, rfl, iteT ?_⟩
      exact none_ _ H (Same.refl H) rfl rfl
    | some t =>
      obtain ⟨t1, t3⟩ := ht t rfl
      have hz : (t ++ [c]).length = t.length + 1 := by simp
      refine ⟨_, rfl, rfl, _, rfl, iteF ?_⟩
      refine ⟨_, rfl, _, rfl, _, _, rfl, rfl, (by rw [T_len, T_len]; exact small (by simp; omega)), ?_⟩
      rw [T_app]
      refine ⟨_, rfl, _, rfl, (by rw [T_len]; exact small (by omega)), _, _, rfl, rfl, _, rfl, ?_⟩
      rw [T_len]
      refine ite2 (fun c0 => ?_) (fun c0 => ?_)
      · have c1 : (t ++ [c]).length < 4 := by have := of_decide_eq_true c0; omega
        refine ⟨_, rfl, none_ _ H (Same.refl H) ?_ ?_⟩
        · unfold tkM; simp only; rw [if_pos c1]
        · unfold tkM; simp only; rw [if_pos c1]; rfl
      · have c1 : ¬ (t ++ [c]).length < 4 := by
          have := of_decide_eq_false (Bool.eq_false_iff.mpr c0)
          omega
        have h4 : (t ++ [c]).length = 4 := by omega
        refine ⟨_, rfl, _, rfl, R, rs, t ++ [c], 1, rfl, hR, ho, Nat.le_refl 1, by omega, by omega, fun ρ hρ _ => by have := (ho ρ hρ).o2; omega, fun H1 s1 => ?_⟩
        cases hf : ff rs (t ++ [c]) 1 with
        | none =>
          refine ⟨_, rfl, rfl, _, rfl, iteT ?_⟩
          refine none_ _ H1 s1 ?_ ?_
          · unfold tkM; simp only; rw [if_neg c1, hf]
          · unfold tkM; simp only; rw [if_neg c1, hf]; rfl
        | some k =>
          have hk := ff_lt hf
          have er : ruleAt rs k = rs[k] := ruleAt_eq (List.getElem?_eq_getElem hk)
          have o2 := (ho _ (List.getElem_mem hk)).o2
          obtain ⟨rts, hRt, hRp⟩ := hR.kt (.of s1)
          obtain ⟨ra, hra, hrat⟩ := paired_at' hRp (List.getElem?_eq_getElem hk)
          refine ⟨_, rfl, rfl, _, rfl, iteF ?_⟩
          have hol : (T rs[k].ow).length ≤ sizeLine := by rw [T_len]; exact small (by omega)
          have hzl : (T (t ++ [c])).length ≤ sizeLine := by rw [T_len]; exact small (by omega)
          have e1 : tkM rs (some t) c = (some ((t ++ [c]).drop rs[k].ow.length), [k]) := by
            unfold tkM
            simp only
            rw [if_neg c1, hf]
            simp only
            rw [er]
          rw [e1] at q
          refine ⟨_, rfl, _, rfl, _, rfl, R, _, (k : Int), .ref ra, rfl, rfl, .inl (.inl hRt), atI_nat (by rw [List.getElem?_map, hra]; rfl), ra, _, 1, .str (T rs[k].ow), rfl, rfl, .inl (.inl hrat), atI_nat (j := 1) rfl, _, rfl, hol, _, rfl, T (t ++ [c]), rfl, hzl, ?_⟩
          rw [T_len, cut_from (by omega)]
          refine ⟨_, rfl, (by show 1 ≤ sizeLine; decide), fun D hD => ⟨(by show 2 ≤ sizeLine; decide), fun u hu => ?_⟩⟩
          have sD := same_new hD (.lst [V.int (k : Nat)])
          have su := same_new hu (.tup [.str (T ((t ++ [c]).drop rs[k].ow.length)), .ref D])
          exact q u D _ (s1.trans (sD.trans su)) (s1.free hD) upd_same (su _ _ upd_same)
end
end Say
namespace Say
open PySem PySem.Spec PyProof.Rows L2
section
variable {P : Program} {w : World} {K : PySem.W.Frag} {mg : Str → Option Value} {base : Heap}
abbrev sChE : Stmt := topS 31
theorem scChE : FnScope ["letters", "exceptions", "last", "number", "pair"] ["letters", "exceptions"] (defScope sChE) := ⟨rfl, rfl, rfl, by decide +kernel, rfl, by decide +kernel, by decide +kernel⟩
def spChE : Sp := fun vs H Q _ => ∃ (L : List Nat) (X : Addr) (es : List Exc), vs = [.str (T L), .ref X] ∧ ExcsAt H X es ∧ (∀ e ∈ es, ExcOk L e) ∧ es.length ≤ 8 ∧ (es.Pairwise fun e f => e.1 < f.1) ∧ ∀ (H' : Hp), Same H H' → Q .non H'
theorem ok_chE {f : Addr} {fd : FuncData} (F : Fun K "check_exceptions" "check_exceptions" sChE f fd) (B : Bn mg) (cM : KI mg "MOST_EXCEPTIONS" 8) (DI : Df P w K mg base "is_exception" ["letters", "pair"] 3 spIsExc) :
    FnOk P w K mg base CX0 4 f fd ["letters", "exceptions"] spChE := by
  obtain ⟨fI, fdI, GI, kI, bI, mI⟩ := DI
  obtain ⟨tS, mS⟩ := cM
  refine F.ok scChE (fun vs H Q E h => ?_) (fun cdv A outer s H vs Q E hr h => ?_)
  · obtain ⟨L, X, es, rfl, _⟩ := h
    rfl
  · obtain ⟨L, X, es, rfl, ⟨ts, hX, hp⟩, ho, h8, up, q⟩ := h
    refine ⟨_, pss_cons (ps_if (pt_not (pt_val (pe_callB call_isi (by rfl) B.isi (by decide +kernel) (pa_cons (pv 1) (pa_cons (pe_bltn (v := .ty "tuple") rfl B.tup (by decide +kernel) rfl) pa_nil))))) (pss_one ps_never) pss_nil)
      (pss_cons (ps_set (i := 2) scChE.nd rfl (.inl rfl) pe_str)
      (pss_one (ps_for PassesOwn.never rfl (pi_enumT (by rfl) B.enu (pa_cons (pv 1) pa_nil)) (pg_tup (by rfl) (pgs_cons (pg_name (i := 3) scChE.nd rfl (.inl rfl)) (pgs_cons (pg_name (i := 4) scChE.nd rfl (.inl rfl)) pgs_nil)))
        (pss_cons (ps_if (PW.pt (pw_or (pt_cmpR op_eq (pv 3) (pe_glob (v := .int 8) rfl mS ⟨_, rfl⟩) (nomark _)) (pw_or (pt_not (pt_val (pe_call GI hr (by rfl) mI kI bI .nil pass0 (pa_cons (pv 0) (pa_cons (pv 4) pa_nil)))))
            (pw_or1 (pt_cmpR op_le_str (pe_ix ix_tup (pv 4) pe_int (fun _ _ => rfl)) (pv 2) (nomark _)))))) (pss_one ps_never) pss_nil)
        (pss_one (ps_set (i := 2) scChE.nd rfl (.inl rfl) (pe_ix ix_tup (pv 4) pe_int (fun _ _ => rfl)))))))), ?_⟩
    refine ⟨_, rfl, _, _, .type "tuple", _, true, rfl, ClsV.ty _, .fTuple hX.choose_spec.1, kit_ty (by decide +kernel), true, rfl, iteF ?_⟩
    refine ⟨_, rfl, X, _, rfl, .inl hX.rd, for_it (walk_enumT (xs := ts.map V.ref)) (fun i σ H2 => Same H H2 ∧ ∃ l v3 v4, σ = [some (.str (T L)), some (.ref X), some (.str (T l)), v3, v4] ∧ ∀ e, es[i]? = some e → l < e.1) ⟨Same.refl H, [], _, _, by rw [← show Str.ofString "" = T [] from nil_eq]; rfl, fun e he => ?_⟩ (fun i σ H2 _ h => .inl (hX.kt (.of h.1)).rd) ?_ ?_⟩
    · have := (ho e (List.mem_of_getElem? he)).w1
      cases h : e.1 with
      | nil => rw [h] at this; exact absurd this (by decide)
      | cons a r => exact List.Lex.nil
    · rintro i x σ H2 H3 hi ⟨s2, l, v3, v4, rfl, hlt⟩ ⟨t, x1, x2, rfl, ht, rfl, g1, g2⟩
      cases g1
      have g2 : (ts.map V.ref)[i]? = some x2 := g2
      rw [List.getElem?_map] at g2
      obtain ⟨a, ha, e⟩ := Option.map_eq_some_iff.mp g2
      subst e
      obtain ⟨e, he, hat⟩ := paired_at hp ha
      have sm := same_new ht (.tup [.int (i : Nat), .ref a])
      have hi2 : i < es.length := (List.getElem?_eq_some_iff.mp he).1
      refine ⟨t, _, rfl, .inl (.inl upd_same), rfl, _, _, rfl, _, _, rfl, rfl, ?_⟩
      refine ⟨_, rfl, rfl, _, rfl, ?_⟩
      have nq : ¬ V.int ((i : Nat) : Int) = V.int 8 := fun z => by
        have := V.int.inj z
        omega
      rw [decide_eq_false nq]
      refine iteF ?_
      refine ⟨_, rfl, _, rfl, L, a, e, rfl, sm _ _ (s2 _ _ hat), ho e (List.mem_of_getElem? he), fun H4 s4 => ?_⟩
      have hat4 := s4 _ _ (sm _ _ (s2 _ _ hat))
      refine ⟨true, rfl, iteF ?_⟩
      refine ⟨_, rfl, a, _, 0, .str (T e.1), rfl, rfl, .inl (.inl hat4), atI_nat (j := 0) rfl, _, rfl, _, _, rfl, rfl, _, rfl, ?_⟩
      have lt := hlt e he
      rw [show decide ((T l).cps.toList < (T e.1).cps.toList) = true from decide_eq_true lt]
      refine iteF ?_
      refine ⟨_, rfl, a, _, 0, .str (T e.1), rfl, rfl, .inl (.inl hat4), atI_nat (j := 0) rfl, ?_⟩
      refine ⟨s2.trans (sm.trans s4), e.1, _, _, rfl, fun e' he' => ?_⟩
      exact (List.pairwise_iff_getElem.mp up) i (i + 1) hi2 (List.getElem?_eq_some_iff.mp he').1 (Nat.lt_succ_self _) |> fun h => by
        rw [(List.getElem?_eq_some_iff.mp he).2, (List.getElem?_eq_some_iff.mp he').2] at h
        exact h
    · rintro σ H2 ⟨s2, l, v3, v4, rfl, _⟩
      exact q H2 s2
abbrev sCh : Stmt := topS 28
theorem scCh : FnScope ["book", "letters", "rules", "exceptions"] ["book"] (defScope sCh) := ⟨rfl, rfl, rfl, by decide +kernel, rfl, by decide +kernel, by decide +kernel⟩
def spCh : Sp := fun vs H Q _ => ∃ (b : Addr) (L : List Nat) (rs : List Rule) (es : List Exc), vs = [.ref b] ∧ BookAt H b L rs es ∧ BookOk L rs es ∧ ∀ (H' : Hp), Same H H' → Q (.ref b) H'
theorem ok_ch {f : Addr} {fd : FuncData} (F : Fun K "checked_book" "checked_book" sCh f fd) (B : Bn mg) (DL : Df P w K mg base "check_letters" ["letters"] 2 spChL) (DR : Df P w K mg base "check_rules" ["letters", "rules"] 4 spChR)
    (DE : Df P w K mg base "check_exceptions" ["letters", "exceptions"] 4 spChE) : FnOk P w K mg base CX0 5 f fd ["book"] spCh := by
  obtain ⟨fL, fdL, GL, kL, bL, mL⟩ := DL
  obtain ⟨fR, fdR, GR, kR, bR, mR⟩ := DR
  obtain ⟨fE, fdE, GE, kE, bE, mE⟩ := DE
  refine F.ok scCh (fun vs H Q E h => ?_) (fun cdv A outer s H vs Q E hr h => ?_)
  · obtain ⟨b, L, rs, es, rfl, _⟩ := h
    rfl
  · obtain ⟨b, L, rs, es, rfl, ⟨R, X, hb, hR, hX⟩, ho, q⟩ := h
    refine ⟨_, pss_cons (ps_if (PW.pt (pw_or (pt_not (pt_val (pe_callB call_isi (by rfl) B.isi (by decide +kernel) (pa_cons (pv 0) (pa_cons (pe_bltn (v := .ty "tuple") rfl B.tup (by decide +kernel) rfl) pa_nil)))))
          (pw_or1 (pt_cmpR op_ne (pe_callB call_len (by rfl) B.len PySem.boot_len (pa_cons (pv 0) pa_nil)) pe_int (nomark _))))) (pss_one ps_never) pss_nil)
      (pss_cons (ps_asg (pv 0) (pg_tup (by rfl) (pgs_cons (pg_name (i := 1) scCh.nd rfl (.inl rfl)) (pgs_cons (pg_name (i := 2) scCh.nd rfl (.inl rfl)) (pgs_cons (pg_name (i := 3) scCh.nd rfl (.inl rfl)) pgs_nil)))))
      (pss_cons (ps_expr (pe_call GL (hr.mono (by decide)) (by rfl) mL kL bL .nil pass0 (pa_cons (pv 1) pa_nil)))
      (pss_cons (ps_expr (pe_call GR hr (by rfl) mR kR bR .nil pass0 (pa_cons (pv 1) (pa_cons (pv 2) pa_nil))))
      (pss_cons (ps_expr (pe_call GE hr (by rfl) mE kE bE .nil pass0 (pa_cons (pv 1) (pa_cons (pv 3) pa_nil))))
      (pss_one (ps_ret (pv 0))))))), ?_⟩
    refine ⟨_, rfl, _, _, .type "tuple", _, true, rfl, ClsV.ty _, .base (.tup hb), kit_ty (by decide +kernel), true, rfl, iteF ?_⟩
    refine ⟨_, rfl, _, 3, rfl, .inr ⟨_, .inl (.inl hb), rfl⟩, rfl, _, rfl, iteF ?_⟩
    refine ⟨_, rfl, b, _, rfl, .inl (.inl hb), rfl, _, _, rfl, _, _, rfl, _, _, rfl, rfl, ?_⟩
    refine ⟨_, rfl, L, rfl, ho.lt, fun H1 s1 => ?_⟩
    refine ⟨_, rfl, _, rfl, L, R, rs, rfl, ho.lt, hR.kt (.of s1), ho.rl, ho.r12, fun H2 s2 => ?_⟩
    refine ⟨_, rfl, _, rfl, L, X, es, rfl, hX.kt (.of (s1.trans s2)), ho.ex, ho.e8, ho.up, fun H3 s3 => ?_⟩
    exact ⟨_, rfl, q H3 (s1.trans (s2.trans s3))⟩
end
end Say
namespace L2
open PySem PySem.Spec PyProof.Rows
section
variable {X : Cx}
/-- o.f as one of several targets -/
def gAttr (K : PySem.W.Frag) (f : Str) (to : TE) : TG := fun v σ H Q => to σ H fun x H1 => ∃ a C dx fs, x = .ref a ∧ H1 a = some (.ins C dx fs) ∧ Cls K C ∧ NoAttr K C f ∧ fs.length < 1000 ∧ Q σ (upd H1 a (.ins C dx (putF f v fs)))
theorem pg_attr {o : Expr} {to : TE} {f : Str} {pos : Pos} (ho : PE X o to) : PG X (.Attribute o f pos) (gAttr X.K f to) := by
  refine ⟨fun pins s σ H v u Q I r h => ?_⟩
  rw [show assign (.Attribute o f pos) X.env u = (do
    let ov ← holding [u] (eval o X.env)
    standAt pos.atName
    holding [u, ov] (setAttr ov f u)
    release [u, ov] []) from assign_Attribute ..]
  refine wpAny_bind (wpAny_holding (thn (ho.run pins s σ H _ I h) fun ov s1 ⟨x, H1, I1, r1, a, C, dx, fs, ex, ea, c, n, l, q⟩ => ?_))
  subst ex
  obtain rfl : ov = Value.ref a := r1
  exact wpAny_bind (wpAny_standAt (wpAny_bind (wpAny_holding (setattr_ok I1 ea c n l r fun s2 I2 => wpAny_release ⟨σ, _, I2, q⟩))))
end
end L2
namespace PySem
namespace UnsX
open PySem.W PySem.Calls PyProof.Rows PySem.HandSPX
/-! ### the text of Unsaid.__init__ -/
abbrev sUns : Stmt := L2.inClass (Say.topS 6) 0
abbrev iA : Arguments := L2.defArgs sUns
abbrev iB : List Stmt := L2.defBody sUns
abbrev iS : Scope := L2.defScope sUns
def eF : Expr := match iB with
  | .Expr (.Call _ (e :: _) _ _) _ :: _ => e
  | _ => .Constant .none 0 ⟨0, 0, 0, 0⟩
theorem eF_eq : ∃ c1 c2 c3 c4, eF = .JoinedStr [.Constant (.str "no rule fits at place ") 0 c1, .FormattedValue (.Name "place" c2) (-1) none c3] c4 := ⟨_, _, _, _, rfl⟩
theorem iS_cell : ∀ y ∈ iS.names, y.2 ≠ .cell := by decide +kernel
/-- what the written part says of Unsaid, at C, and of its __init__, at fI -/
structure UnsTxt (P : Program) (K : Frag) (mg : Str → Option Value) (C fI : Addr) : Prop where
  gC : mg "Unsaid" = some (.ref C)
  sB : mg "super" = none
  cls : ∃ nm q N bs bm sn sub ab col dd k0 k1 k2 k3 k5, K.lookup C = some (excClassObj nm q C N bs bm true sn sub ab col dd k0 k1 k2 k3 k5 "ValueError.__new__") ∧ refsVE bm = true
  sa : findIn K (.ref C) "__setattr__" = some (some (.builtin "object.__setattr__"))
  noP : findIn K (.ref C) "place" = some none
  iC : findIn K (.ref C) "__init__" = some (some (.ref fI))
  tC : typeIn K (.ref fI) = some (.type "function")
  kC : keepIn K (.ref C) = true
  exC : subIn K (.ref C) (.type "BaseException") = some true
  tyC : typeIn K (.ref C) = some (.type "type")
  sup : ks_superIn K C C "__init__" = some (some (.builtin "ValueError.__init__"))
  subV : subIn K (.ref C) (.type "ValueError") = some true
  any : nsIn K cStatics "thirdparty.any" = some none
  main : (P.main.scope.names.lookup ("super" : Str)).isSome = false
  fn : ∃ (oc : Value) (od : Option Addr) (doc pm : Value) (an : Option Addr) (cda cc : Addr) (ct : Value) (osl : Array (Option Value)),
    K.lookup fI = some ⟨oc, od, .func (ksFn "__init__" "Unsaid.__init__" iA iB iS .none .none doc pm an (.ref cda) ct cc), osl⟩ ∧ codeIn K (.ref cda) "Unsaid.__init__" = true ∧
    (∃ cl cld csl, K.lookup cc = some ⟨cl, cld, .cell (some (.ref C)), csl⟩) ∧ ∃ ccl cdd vs ccs file tf, K.lookup cda = some ⟨ccl, cdd, .fields vs, ccs⟩ ∧ vs[2]? = some (.str file tf) ∧ ((P.main.file : Str) == file) = true
/-- what __init__ leaves of a fresh exception at x -/
structure InitEnd (h h' : Heap) (x C dx : Addr) (v : Value) : Prop where
  keep : ∀ b o, b ≠ x → h.get? b = some o → h'.get? b = some o
  obj : ∃ t1 : Addr, h'.get? x = some { cls := .ref C, dict := some dx, data := .fields #[.ref t1, .none, .none, .none, .bool false, .none] }
  dbig : h.objs.size ≤ dx
  dne : dx ≠ x
  ns : h'.Ns1 dx (fun y => if y = "place" then some v else none)
section
variable {prog : Program} {w : World} {A : Around} {E : Value → Shared → Prop} {R : Result → Shared → Prop} {s : Shared} {K : Frag} {mg : Str → Option Value} {C fI : Addr} {base : Heap}
theorem ld {M : Model} {s : Shared} {env : Env} {m : Str → Option Value} {x : Str} {pos : Pos} {v : Value} {Q : Value → Shared → Prop} {A : Around} {E : Value → Shared → Prop} (hn : s.heap.Ns env.locals m) (hv : m x = some v) (h : Q v s)
    (hk : env.scope.kind = .function) (hl : env.kindOf x = some .local) (hd : (x == ("__debug__" : Str)) = false := by decide) :
    wpAny M A (eval (.Name x pos) env) Q E s := wpAny_Name (wpAny_loadName_local hk hl hn hv h) hd
theorem uns_init (T : UnsTxt prog K mg C fI) {x t0 : Addr} {i : Int} {ti : Tok} (B : L2.Mod K mg base) (kb : ∀ b o, base.get? b = some o → s.heap.get? b = some o) (hx : s.heap.get? x = some (excO C t0)) (hnx : base.get? x = none) (hi : i.natAbs.log2 < 1920) (hi2 : (toString i : Str).length ≤ 1000) (hroom : A.depth < recursionLimit)
    (hq : ∀ h' tk dx, InitEnd s.heap h' x C dx (.int i ti) → R (.ok (.ret .none)) { s with heap := h', toks := tk }) :
    codeAny (model prog w) A (.call (.ref fI) ⟨[.ref x, .int i ti], []⟩) R s := by
  obtain ⟨oc, od, doc, pm, an, cda, cc, ct, osl, ho, hcd, ⟨cl, cld, csl, hcell⟩, ccl, cdd, vs, ccs, file, tf, hcode, hvs, hfile⟩ := T.fn
  obtain ⟨nm, q, N, bs, bm, sn, sub, ab, col, dd, k0, k1', k2, k3, k5, hC, hbm⟩ := T.cls
  obtain ⟨hp, g, dr, tk0, os⟩ := s
  have hcl : clsIn K C = some { name := nm, bases := bs, mro := .ref C :: bm, ns := N, qualname := q, hasDict := true, slotNames := sn, subclasses := sub, abstract := ab, collection := col, hasDel := false } := by unfold clsIn; rw [hC] <;> rfl
  have X : K.In hp := B.kin.keeps kb
  have nl : hp.NoLimit := B.nolimit.keeps kb
  refine ks_codeAny_call_defAt (fd := ksFn "__init__" "Unsaid.__init__" iA iB iS .none .none doc pm an (.ref cda) ct cc) (body := iB) (binds := [("self", .ref x), ("place", .int i ti)])
    hroom (X _ _ ho) rfl nl (codeRec_of X hcd) rfl (BindsTo.of_eq (by first | rfl | with_unfolding_all rfl)) iS_cell (fun y hy => ?_) (fun h₀ hns k => ?_)
  · have e : y = (PySem.Str.ofString "self", Value.ref x) ∨ y = (PySem.Str.ofString "place", Value.int i ti) := by simpa using hy
    rcases e with rfl | rfl
    · exact (by decide +kernel : iS.names.lookup (PySem.Str.ofString "self") = some .local)
    · exact (by decide +kernel : iS.names.lookup (PySem.Str.ofString "place") = some .local)
  generalize hL : (Shared.heap ⟨hp, g, dr, tk0, os⟩).objs.size = L at hns ⊢
  have henv : callEnv (ksFn "__init__" "Unsaid.__init__" iA iB iS .none .none doc pm an (.ref cda) ct cc) L fI = ksEnv "Unsaid.__init__" iS L fI (.ref cda) cc := rfl
  rw [henv]
  have X0 : K.In h₀ := X.keeps k
  have hx0 := k _ _ hx
  have kb0 : ∀ b o, base.get? b = some o → h₀.get? b = some o := fun b o e => k b o (kb b o e)
  obtain ⟨oC, hC0, hC1⟩ : ∃ oC, h₀.get? C = some oC ∧ oC.data = .cls { name := nm, bases := bs, mro := .ref C :: bm, ns := N, qualname := q, hasDict := true, slotNames := sn, subclasses := sub, abstract := ab, collection := col, hasDel := false } := ⟨_, X0 _ _ hC, rfl⟩
  have I0 : InstAt h₀ x (excO C t0) C none := ⟨hx0, rfl, rfl, trivial⟩
  obtain ⟨mb, hb1, hb2⟩ := B.blt
  have hxC : x ≠ C := fun z => by
    rw [z, hC0] at hx0
    cases hx0
    cases hC1
  have hsub : mroIn K C (.ref C) = some true := by
    unfold mroIn
    rw [hcl]
    simp
  have nS : iS.names.lookup (PySem.Str.ofString "super") = some .globalImplicit := by decide +kernel
  have nC : iS.names.lookup (PySem.Str.ofString "__class__") = some .free := by decide +kernel
  have nx : iS.names.lookup (PySem.Str.ofString "self") = some .local := by decide +kernel
  have np : iS.names.lookup (PySem.Str.ofString "place") = some .local := by decide +kernel
  have hLx : L ≠ x := by
    rw [← hL]
    exact Nat.ne_of_gt (Heap.lt_size hx)
  refine ks_wpAt_execs_cons (ks_wpAt_Expr_any (ks_wpAt_MethodCall (ks_wpAt_super_base nS nC (by decide +kernel) rfl (X0 _ _ ho) rfl rfl rfl (X0 _ _ hcode) rfl hvs hfile T.main ?_)))
  refine ks_loadName_global rfl nS (loadGlobal_builtin (B.glob.keeps kb0) T.sB (hb1.keeps kb0) ((hb2 _ (by decide +kernel)).trans (by decide +kernel)) ⟨rfl, ?_⟩)
  refine wpAny_loadName_free rfl nC rfl ⟨_, X0 _ _ hcell, rfl⟩ ?_
  refine wpAny_loadName_local rfl nx hns rfl ?_
  refine ks_wpAny_isType_cls hC0 hC1 ⟨rfl, ?_⟩
  refine ks_wpAny_call_super hC0 hC1 hx0 rfl (fun c e => by cases e) (looks_mroIn X0 hsub) (fun h1 e1 k1 => ?_)
  have X1 : K.In h1 := X0.keeps k1
  have hx1 := k1 _ _ hx0
  have I1 : InstAt h1 x (excO C t0) C none := ⟨hx1, rfl, rfl, trivial⟩
  have hf : alongIn K "__init__" (((Value.ref C :: bm).dropWhile (· != .ref C)).drop 1) = some (some (.builtin "ValueError.__init__")) := by
    have := T.sup
    unfold ks_superIn at this
    rw [hcl] at this
    exact this
  refine kxs_getMethod kxs_ValueError e1 (looks_opaque X1 T.any) (l₀ := .ref C :: bm) (fun A Q E s k q => wpAny_bind ((looks_clsIn X1 hcl) A _ E s k (wpAny_pure q))) rfl X1 hf (I1.type.andThen (looks_subIn X1 T.subV)) hxC (by decide +kernel) ?_
  have hu : (h1.push (kxs_mw "ValueError.__init__" x)).get? h1.objs.size = some (kxs_mw "ValueError.__init__" x) := Heap.get?_push_size _ rfl
  have k2' : ∀ b o, h₀.get? b = some o → (h1.push (kxs_mw "ValueError.__init__" x)).get? b = some o := fun b o e => Heap.get?_push_of_some _ (k1 b o e)
  generalize h1.push (kxs_mw "ValueError.__init__" x) = h2 at hu k2' ⊢
  generalize h1.objs.size = u at hu ⊢
  have X2 : K.In h2 := X0.keeps k2'
  have hx2 := k2' _ _ hx0
  have hns2 := hns.keeps k2'
  -- the text that is handed on
  show wpAny _ _ (callWith _ (.ref u) [] _ []) _ _ _
  refine kxs_callWith (i := "ValueError.__init__") (x := x) rfl (evalArgs_plain ?_)
  show wpAny _ _ (spliced ((false, eval eF (ksEnv "Unsaid.__init__" iS L fI (.ref cda) cc)) :: [])) _ _ _
  obtain ⟨c1, c2, c3, c4, eFe⟩ := eF_eq
  rw [eFe]
  refine Calls.spliced_cons (wpAny_JoinedStr ?_)
  refine wpAny_Constant_str ⟨_, _, rfl, by decide +kernel, ?_⟩
  refine wpAny_FormattedValue_plain (ld hns2 rfl ?_ rfl np) 
  have hlen : (Str.empty ++ PySem.Str.ofString "no rule fits at place " ++ (toString i : Str)).length ≤ sizeLine := by
    rw [TL.len_tl, TL.tl_append, List.length_append, ← TL.len_tl, ← TL.len_tl, sizeLine_eq]
    have : (Str.empty ++ PySem.Str.ofString "no rule fits at place ").length = 22 := by decide +kernel
    omega
  refine wpAny_formatField_int hi ⟨_, _, rfl, hlen, ?_⟩
  refine ⟨hlen, ?_⟩
  refine Calls.spliced_nil ⟨hu, ?_⟩
  refine wpAny_call (codeAny_of_tree ?_)
  show wpAny _ _ (callAny (.ref u) ⟨_, []⟩) _ _ _
  simp only [callAny]
  refine wpAny_bind (wpAny_load hu ?_)
  simp only [kxs_mw, show (Value.type "method-wrapper" == Value.type "method" || Value.type "method-wrapper" == Value.type "builtin_function_or_method" || Value.type "method-wrapper" == Value.type "method-wrapper") = true by decide, if_true]
  refine KFB.if_so (by decide) ?_
  refine wpAny_bind (check_bound_init F.excBase_ValueError.toExcCallFacts (X2 _ _ hC) hx2 rfl ?_)
  refine wpAny_bind (wpAny_pure (wpAny_pure ?_))
  refine ⟨plainId_quiet F.excBase_ValueError.init.plain _, codeAny_builtin F.excBase_ValueError.initEntry ?_⟩
  refine exc_init_tree (cls := .ref C) (t0 := t0) (dv := none) (c2 := .none) (c3 := .none) (b4 := .bool false) hx2 (by rw [sizeLine_eq]; show 1 ≤ 16777216; decide) fun h3 k3 e3 _ => ?_
  have k3' : ∀ b o, b ≠ x → h₀.get? b = some o → h3.get? b = some o := fun b o hb e => k3 b o hb (k2' b o e)
  have X3 : K.In h3 := fun b o e => k3' b o (fun z => by
    have := B.kin b o e
    rw [z, hnx] at this
    cases this) (X0 b o e)
  have hns3 : h3.Ns L (fun y => (([("self", Value.ref x), ("place", .int i ti)] : List (Str × Value)).reverse.lookup y)) := hns.at fun o e => k3' L o hLx e
  show wpAt _ _ _ (execs (_ :: []) _) _ _ _
  refine ks_wpAt_execs_cons (ks_wpAt_Assign_Attr (wpAt_of_wpAny (ld hns3 rfl (ld hns3 rfl ?_ rfl nx) rfl np)))
  refine set_plain X3 (ox := excO C h2.objs.size) (od := none) ⟨e3, rfl, rfl, trivial⟩ T.sa ?_
  refine exc_osa X3 e3 hcl (show refsVE (.ref C :: bm) = true from hbm) rfl T.noP (fun h4 tk4 dx k4 dn dne hx4 hn4 => ?_)
  show wpAt _ _ _ (execs [] _) _ _ _
  refine wpAt_of_wpAny (wpAny_execs_nil ?_)
  have big : hp.objs.size ≤ dx := by
    have h1 : L < h3.objs.size := hns3.lt
    have h2 : hp.objs.size = L := hL
    exact Nat.le_trans (Nat.le_of_eq h2) (Nat.le_trans (Nat.le_of_lt h1) dn)
  exact hq h4 _ dx ⟨fun b o hb e => k4 b o hb (k3' b o hb (k b o e)), ⟨_, hx4⟩, big, dne, hn4⟩
end
end UnsX
end PySem
namespace PySem
namespace UnsX
open PySem.W PySem.Calls PyProof.Rows PySem.HandSPX
/-- a made Unsaid -/
structure OwnMade (h h' : Heap) (e C d : Addr) (v : Value) : Prop where
  keep : ∀ b o, h.get? b = some o → h'.get? b = some o
  new : h.objs.size ≤ e
  obj : ∃ oe vs, h'.get? e = some oe ∧ oe.cls = .ref C ∧ oe.dict = some d ∧ oe.data = .fields vs ∧ vs[1]? = some .none
  dbig : h.objs.size ≤ d
  dne : d ≠ e
  ns : h'.Ns1 d (fun y => if y = "place" then some v else none)
theorem one_size (v : Value) : [v].length ≤ sizeLine := by
  rw [sizeLine_eq]
  exact (by decide : 1 ≤ 16777216)
section
variable {prog : Program} {w : World} {A : Around} {E : Value → Shared → Prop} {R : Result → Shared → Prop} {s : Shared} {K : Frag} {mg : Str → Option Value} {C fI : Addr} {base : Heap}
theorem uns_made (T : UnsTxt prog K mg C fI) {i : Int} {ti : Tok} (B : L2.Mod K mg base) (kb : ∀ b o, base.get? b = some o → s.heap.get? b = some o) (hi : i.natAbs.log2 < 1920) (hi2 : (toString i : Str).length ≤ 1000) (hroom : A.depth + 1 < recursionLimit)
    (hq : ∀ h' tk e d, OwnMade s.heap h' e C d (.int i ti) → R (.ok (.ret (.ref e))) { s with heap := h', toks := tk }) :
    codeAny (model prog w) A (.call (.ref C) ⟨[.int i ti], []⟩) R s := by
  obtain ⟨nm, q, N, bs, bm, sn, sub, ab, col, dd, k0, k1, k2, k3, k5, hC, hbm⟩ := T.cls
  have X : K.In s.heap := B.kin.keeps kb
  obtain ⟨hp, g, dr, tk, os⟩ := s
  have k : ∀ b o, hp.get? b = some o → ((hp.push (kdv_tup [.int i ti])).push (excO C hp.objs.size)).get? b = some o := fun b o e => Heap.get?_push_of_some _ (Heap.get?_push_of_some _ e)
  have hget : ((hp.push (kdv_tup [.int i ti])).push (excO C hp.objs.size)).get? (hp.objs.size + 1) = some (excO C hp.objs.size) := by heap_get
  have hnx : base.get? (hp.objs.size + 1) = none := by
    cases e : base.get? (hp.objs.size + 1) with
    | none => rfl
    | some o =>
      have z : hp.get? (hp.objs.size + 1) = some o := kb _ _ e
      exact absurd (Nat.lt_of_succ_lt (Heap.lt_size z)) (Nat.lt_irrefl _)
  refine call_own F.excBase_ValueError (fun X => refsVE_contains X bm hbm) (X _ _ hC) (looks_findIn X T.iC) (fun self => bind_fn X self T.tC) (one_size (.int i ti)) ?_
  refine uns_init (s := ⟨(hp.push (kdv_tup [.int i ti])).push (excO C hp.objs.size), g, dr, tk, os⟩) T B (fun b o e => k b o (kb b o e)) hget hnx hi hi2 ?_ fun h' tk' dx ⟨k', ⟨t1, hx⟩, dn, dne, hns⟩ => ?_
  · show A.depth + 1 < recursionLimit
    exact hroom
  · have old : ∀ b o, hp.get? b = some o → h'.get? b = some o := fun b o e => k' b o (Nat.ne_of_lt (Nat.lt_succ_of_lt (Heap.lt_size e))) (k b o e)
    have z : hp.objs.size + 1 + 1 ≤ dx := by
      first
        | (simpa only [Heap.size_push] using dn)
        | exact dn
        | (have q := dn; rw [Heap.size_push, Heap.size_push] at q; exact q)
    exact ⟨rfl, hq h' tk' (hp.objs.size + 1) dx ⟨old, Nat.le_succ _, ⟨_, _, hx, rfl, rfl, rfl, rfl⟩, Nat.le_trans (Nat.le_trans (Nat.le_succ _) (Nat.le_succ _)) z, dne, hns⟩⟩
end
end UnsX
end PySem
namespace Say
open PySem PySem.Spec PyProof.Rows L2
theorem relO_pl {v : V} {v' : Value} (r : RelV v v') (f : Str) : RelO (List.lookup f [(("place" : Str), v)]) (if f = "place" then some v' else none) := by
  by_cases hw : f = "place"
  · subst hw
    rw [if_pos rfl]
    have q : List.lookup ("place" : Str) [(("place" : Str), v)] = some v := by simp [List.lookup]
    rw [q]
    exact r
  · rw [if_neg hw]
    have qw : (f == ("place" : Str)) = false := by simpa using hw
    have q2 : List.lookup f [(("place" : Str), v)] = none := by simp [List.lookup, qw]
    rw [q2]
    trivial
section
variable {X : Cx} {C fI : Addr}
/-- Unsaid(e) -/
def tMkUns (C : Addr) (ta : TA) : L2.St → Hp → XK → Prop := fun σ H Q => ta σ H fun vs H1 => ∃ p : Nat, vs = [.int p] ∧ p ≤ 100 ∧ ∀ d, H1 d = none → Q (.ref C) (some d) (upd H1 d (.xd [(("place" : Str), .int p)]))
theorem small_num {p : Nat} (h : p ≤ 100) : (p : Int).natAbs.log2 < 1920 ∧ (toString (p : Int) : Str).length ≤ 1000 := by
  have key : ∀ q : Fin 101, ((q.1 : Int)).natAbs.log2 < 1920 ∧ (toString (q.1 : Int) : Str).length ≤ 1000 := by decide +kernel
  exact key ⟨p, by omega⟩
theorem pmk_uns {a : Expr} {ta : TA} {p pos : Pos} {k : Nat} (T : PySem.UnsX.UnsTxt X.prog X.K X.mg C fI) (hr : Room k X.A) (ha : PA X [a] ta) (hg : Gl X "Unsaid" := by rfl)
    (he : starEach (a :: []) X.env = (false, eval a X.env) :: starEach [] X.env := by rfl) (hpl : (backTo pos (starEach [] X.env)).any (·.1) = false := by rfl) :
    PMk X (.Call (.Name "Unsaid" p) [a] [] pos) (tMkUns C ta) := by
  intro pins s σ H Q I h
  unfold tMkUns at h
  refine wpAny_Call_Name_kw (ld_glob I hg T.gC ?_)
  refine PySem.W.callWith_K (h₀ := X.base) I.ok.mod.kin T.kC (thn (ha.run pos pins s σ H _ I h) fun us s1 hh => ?_) he hpl
  obtain ⟨vs, H1, I1, r1, n, ev, hn, q1⟩ := hh
  subst ev
  refine ⟨I1.kIn, ?_⟩
  cases r1 with
  | cons rv rn =>
    rename_i v' us'
    cases rn
    obtain ⟨tv, rfl⟩ := rv
    show wpAny _ _ (call (.ref C) [.int n tv]) _ _ _
    have b1 := I1.mod
    have b2 := I1.bk
    obtain ⟨hp, g, dr, tk, os⟩ := s1
    refine wpAny_call (PySem.UnsX.uns_made T b1 b2 (small_num hn).1 (small_num hn).2 (by have := hr.dp; omega) fun h' tk' e d M => ?_)
    show MkP X pins σ Q (.ref e) ⟨h', g, dr, tk', os⟩
    obtain ⟨oe, fv, hoe, hc, hd, hdat, h1⟩ := M.obj
    have hns := M.ns
    obtain ⟨G', g1, g2⟩ := restrict h' fun b => decide (b ≠ e)
    have gk : ∀ b, b ≠ e → G'.get? b = h'.get? b := fun b hb => g1 b (decide_eq_true hb)
    have ge : G'.get? e = none := g2 e (by simp)
    have old : ∀ b o, hp.get? b = some o → G'.get? b = some o := fun b o q => (gk b (Nat.ne_of_lt (Nat.lt_of_lt_of_le (Heap.lt_size q) M.new))).trans (M.keep b o q)
    have ob : ObjOk X.prog X.w (upd H1 d (.xd [(("place" : Str), .int n)])) G' d (.xd [(("place" : Str), .int n)]) :=
      ⟨_, hns.at (fun o q => (gk d M.dne).trans q), fun f => relO_pl (v := .int n) ⟨tv, rfl⟩ f⟩
    have J : Inv X pins σ (upd H1 d (.xd [(("place" : Str), .int n)])) ⟨G', g, dr, tk', os⟩ := I1.laid (t' := tk') old M.dbig ob
    refine ⟨e, oe, fv, ⟨G', g, dr, tk', os⟩, _, .ref C, some d, rfl, J, fun b o q => ?_, ge, hoe, ⟨hc, hd⟩, hdat, h1, ?_, rfl, I1.bare, raises_own T.exC T.tyC, q1 d (I1.hok.fresh M.dbig)⟩
    · by_cases hb : b = e
      · have q' : G'.get? b = some o := q
        rw [hb, ge] at q'; cases q'
      · exact (gk b hb).symm.trans q
    · rw [upd_ne (Ne.symm M.dne)]
      exact I1.hok.fresh M.new
/-- raise Unsaid(e) -/
def tRaiseUns (C : Addr) (W : WX) (ta : TA) : TS := fun _ σ H => tMkUns C ta σ H fun cls d H' => W cls d σ H'
theorem ps_raiseUns {a : Expr} {ta : TA} {W : WX} {p pos pos2 : Pos} {k : Nat} (hc : X.calm = true) (T : PySem.UnsX.UnsTxt X.prog X.K X.mg C fI) (hr : Room k X.A) (tk : Takes X W) (ha : PA X [a] ta) (hg : Gl X "Unsaid" := by rfl)
    (he : starEach (a :: []) X.env = (false, eval a X.env) :: starEach [] X.env := by rfl) (hpl : (backTo pos (starEach [] X.env)).any (·.1) = false := by rfl) :
    PS X (.Raise (some (.Call (.Name "Unsaid" p) [a] [] pos)) none pos2) (tRaiseUns C W ta) := ps_raise hc tk (pmk_uns T hr ha hg he hpl)
end
end Say
namespace Say
open PySem PySem.Spec PyProof.Rows L2
abbrev sSy (j : Nat) : Stmt := inClass (topS 50) j
/-- the five fields, as __init__ lays them -/
def fldS (L : List Nat) (R : Addr) (wd tl : List Nat) (pa : Addr) : List (Str × V) := [("_letters", .str (T L)), ("_rules", .ref R), ("_word", .str (T wd)), ("_tail", .str (T tl)), ("_past", .ref pa)]
theorem f_let {L : List Nat} {R : Addr} {wd tl : List Nat} {pa : Addr} : (fldS L R wd tl pa).lookup ("_letters" : Str) = some (.str (T L)) := rfl
theorem f_rul {L : List Nat} {R : Addr} {wd tl : List Nat} {pa : Addr} : (fldS L R wd tl pa).lookup ("_rules" : Str) = some (.ref R) := rfl
theorem f_wd {L : List Nat} {R : Addr} {wd tl : List Nat} {pa : Addr} : (fldS L R wd tl pa).lookup ("_word" : Str) = some (.str (T wd)) := rfl
theorem f_tl {L : List Nat} {R : Addr} {wd tl : List Nat} {pa : Addr} : (fldS L R wd tl pa).lookup ("_tail" : Str) = some (.str (T tl)) := rfl
theorem f_pa {L : List Nat} {R : Addr} {wd tl : List Nat} {pa : Addr} : (fldS L R wd tl pa).lookup ("_past" : Str) = some (.ref pa) := rfl
theorem p_wd {L : List Nat} {R : Addr} {wd tl wd' : List Nat} {pa : Addr} : putF "_word" (.str (T wd')) (fldS L R wd tl pa) = fldS L R wd' tl pa := rfl
theorem p_tl {L : List Nat} {R : Addr} {wd tl tl' : List Nat} {pa : Addr} : putF "_tail" (.str (T tl')) (fldS L R wd tl pa) = fldS L R wd tl' pa := rfl
theorem p_pa {L : List Nat} {R : Addr} {wd tl : List Nat} {pa pa' : Addr} : putF "_past" (.ref pa') (fldS L R wd tl pa) = fldS L R wd tl pa' := rfl
/-- what the top says of the class -/
structure SyC (K : PySem.W.Frag) (C : Addr) : Prop where
  cl : Cls K C
  nL : NoAttr K C "_letters"
  nR : NoAttr K C "_rules"
  nW : NoAttr K C "_word"
  nT : NoAttr K C "_tail"
  nP : NoAttr K C "_past"
/-- the past's pairs -/
def PastAt (H : Hp) (pa : Addr) (ps : List (List Nat × Nat)) : Prop := ∃ ts : List Addr, H pa = some (.lst (ts.map V.ref)) ∧ Paired (fun t (p : List Nat × Nat) => H t = some (.tup [.str (T p.1), .int (p.2 : Nat)])) ts ps
/-- a machine at y: its word, its tail, its past -/
structure SyAt (C : Addr) (H : Hp) (y pa : Addr) (L : List Nat) (R : Addr) (rs : List Rule) (wd tl : List Nat) (ps : List (List Nat × Nat)) : Prop where
  ins : ∃ dx, H y = some (.ins C dx (fldS L R wd tl pa))
  rul : RulesAt H R rs
  past : PastAt H pa ps
/-- all stays but the machine and its past -/
def Kp (y pa : Addr) (H H' : Hp) : Prop := ∀ b o, H b = some o → b ≠ y → b ≠ pa → H' b = some o
theorem Kp.of {y pa : Addr} {H H' : Hp} (e : Same H H') : Kp y pa H H' := fun b o h _ _ => e b o h
theorem Kp.trans {y pa : Addr} {H H1 H2 : Hp} (a : Kp y pa H H1) (b : Kp y pa H1 H2) : Kp y pa H H2 := fun c o h n m => b c o (a c o h n m) n m
theorem Kp.y {y pa : Addr} {H : Hp} (o : HO) : Kp y pa H (upd H y o) := fun b u q n _ => by rw [upd_ne n]; exact q
theorem Kp.pa {y pa : Addr} {H : Hp} (o : HO) : Kp y pa H (upd H pa o) := fun b u q _ n => by rw [upd_ne n]; exact q
theorem Kp.kt {y pa C dx : Addr} {fs : List (Str × V)} {l : List V} {H H' : Hp} (e : Kp y pa H H') (hy : H y = some (.ins C dx fs)) (hp : H pa = some (.lst l)) : KT H H' := KT.by fun t u h hu =>
  e t _ h (ne_of h hy (by rcases hu with ⟨_, rfl⟩ | ⟨_, _, rfl⟩ <;> (intro z; cases z))) (ne_of h hp (by rcases hu with ⟨_, rfl⟩ | ⟨_, _, rfl⟩ <;> (intro z; cases z)))
theorem SyAt.ne {C : Addr} {H : Hp} {y pa : Addr} {L : List Nat} {R : Addr} {rs : List Rule} {wd tl : List Nat} {ps : List (List Nat × Nat)} (h : SyAt C H y pa L R rs wd tl ps) : y ≠ pa := by
  obtain ⟨⟨dx, h1⟩, _, ts, h2, _⟩ := h
  exact ne_of h1 h2 (by intro z; cases z)
theorem SyAt.kt {C : Addr} {H H' : Hp} {y pa : Addr} {L : List Nat} {R : Addr} {rs : List Rule} {wd tl : List Nat} {ps : List (List Nat × Nat)} (h : SyAt C H y pa L R rs wd tl ps) (e : Kp y pa H H') : KT H H' := by
  obtain ⟨⟨dx, h1⟩, _, ts, h2, _⟩ := h
  exact e.kt h1 h2
theorem SyAt.same {C : Addr} {H H' : Hp} {y pa : Addr} {L : List Nat} {R : Addr} {rs : List Rule} {wd tl : List Nat} {ps : List (List Nat × Nat)} (h : SyAt C H y pa L R rs wd tl ps) (e : Same H H') : SyAt C H' y pa L R rs wd tl ps := by
  obtain ⟨⟨dx, h1⟩, hR, ts, h2, h3⟩ := h
  exact ⟨⟨dx, e _ _ h1⟩, hR.kt (.of e), ts, e _ _ h2, paired_mono (fun t p q => e _ _ q) h3⟩
section
variable {P : Program} {w : World} {K : PySem.W.Frag} {mg : Str → Option Value} {base : Heap}
theorem scWord : FnScope ["self"] ["self"] (defScope (sSy 4)) := ⟨rfl, rfl, rfl, by decide +kernel, rfl, by decide +kernel, by decide +kernel⟩
def spWord (C : Addr) : Sp := fun vs H Q _ => ∃ (y dx : Addr) (fs : List (Str × V)) (wd : List Nat), vs = [.ref y] ∧ H y = some (.ins C dx fs) ∧ fs.lookup ("_word" : Str) = some (.str (T wd)) ∧ Q (.str (T wd)) H
theorem ok_word {f C : Addr} {fd : FuncData} {k : Nat} (F : Fun K "word" "Sayer.word" (sSy 4) f fd) (S : SyC K C) : FnOk P w K mg base CX0 (k + 1) f fd ["self"] (spWord C) := by
  refine F.ok scWord (fun vs H Q E h => ?_) (fun cdv A outer s H vs Q E hr h => ?_)
  · obtain ⟨y, dx, fs, wd, rfl, _⟩ := h
    rfl
  · obtain ⟨y, dx, fs, wd, rfl, h1, h2, q⟩ := h
    refine ⟨_, pss_one (ps_ret (pe_fld (pv 0) rfl)), ?_⟩
    exact ⟨_, rfl, y, C, dx, _, _, rfl, h1, S.cl, S.nW, h2, q⟩
theorem scBegin : FnScope ["self"] ["self"] (defScope (sSy 5)) := ⟨rfl, rfl, rfl, by decide +kernel, rfl, by decide +kernel, by decide +kernel⟩
def spBegin (C : Addr) : Sp := fun vs H Q _ => ∃ (y dx : Addr) (fs : List (Str × V)), vs = [.ref y] ∧ H y = some (.ins C dx fs) ∧ fs.length ≤ 100 ∧
  ∀ (pa : Addr) (H' : Hp), H pa = none → H' y = some (.ins C dx (putF "_past" (.ref pa) (putF "_tail" (.str (T [35])) (putF "_word" (.str (T [])) fs)))) → H' pa = some (.lst []) → Stp y H H' → Q .non H'
theorem putF_len (x : Str) (v : V) (fs : List (Str × V)) : (putF x v fs).length ≤ fs.length + 1 := length_putF x v fs
theorem ok_begin {f C : Addr} {fd : FuncData} {k : Nat} (F : Fun K "_begin" "Sayer._begin" (sSy 5) f fd) (S : SyC K C) (Cn_ : Cn mg) : FnOk P w K mg base CX0 (k + 1) f fd ["self"] (spBegin C) := by
  obtain ⟨tE, mE⟩ := Cn_.edge
  refine F.ok scBegin (fun vs H Q E h => ?_) (fun cdv A outer s H vs Q E hr h => ?_)
  · obtain ⟨y, dx, fs, rfl, _⟩ := h
    rfl
  · obtain ⟨y, dx, fs, rfl, h1, hl, q⟩ := h
    refine ⟨_, pss_cons (ps_fld (pv 0) pe_str rfl)
      (pss_cons (ps_fld (pv 0) (pe_glob (v := .str "#") rfl mE ⟨_, rfl⟩) rfl)
      (pss_one (ps_fld (pv 0) (pe_lst pa_nil) rfl))), ?_⟩
    have l1 := putF_len "_word" (.str (Str.ofString "")) fs
    have l2 := putF_len "_tail" (.str (Str.ofString "#")) (putF "_word" (.str (Str.ofString "")) fs)
    refine ⟨_, rfl, y, C, dx, _, rfl, h1, S.cl, S.nW, by omega, ?_⟩
    refine ⟨_, rfl, y, C, dx, _, rfl, upd_same, S.cl, S.nT, by omega, ?_⟩
    refine ⟨(by show 0 ≤ sizeLine; decide), fun pa hpa => ?_⟩
    have nyp : y ≠ pa := fun z => by rw [← z, upd_same] at hpa; cases hpa
    have hpa0 : H pa = none := by rw [upd_ne nyp.symm, upd_ne nyp.symm] at hpa; exact hpa
    refine ⟨_, rfl, y, C, dx, _, rfl, (by rw [upd_ne nyp]; exact upd_same), S.cl, S.nP, by omega, ?_⟩
    refine q pa _ hpa0 (by rw [upd_same, show Str.ofString "#" = T [35] from hash_eq, show Str.ofString "" = T [] from nil_eq]) (by rw [upd_ne nyp.symm, upd_same]) fun b o hb n => ?_
    rw [upd_ne n, upd_ne (ne_of_none hb hpa0), upd_ne n, upd_ne n]
    exact hb
theorem scPlace : FnScope ["self"] ["self"] (defScope (sSy 6)) := ⟨rfl, rfl, rfl, by decide +kernel, rfl, by decide +kernel, by decide +kernel⟩
def spPlace (C : Addr) : Sp := fun vs H Q _ => ∃ (y dx : Addr) (L : List Nat) (R pa : Addr) (wd tl : List Nat), vs = [.ref y] ∧ H y = some (.ins C dx (fldS L R wd tl pa)) ∧ wd.length ≤ 100 ∧ 1 ≤ tl.length ∧ tl.length ≤ wd.length + 1 ∧ Q (.int ((wd.length + 1 - tl.length : Nat) : Int)) H
theorem ok_place {f C : Addr} {fd : FuncData} {k : Nat} (F : Fun K "_place" "Sayer._place" (sSy 6) f fd) (S : SyC K C) (B : Bn mg) : FnOk P w K mg base CX0 (k + 1) f fd ["self"] (spPlace C) := by
  refine F.ok scPlace (fun vs H Q E h => ?_) (fun cdv A outer s H vs Q E hr h => ?_)
  · obtain ⟨y, dx, L, R, pa, wd, tl, rfl, _⟩ := h
    rfl
  · obtain ⟨y, dx, L, R, pa, wd, tl, rfl, h1, hw, t1, tw, q⟩ := h
    refine ⟨_, pss_one (ps_ret (pe_op op_sub (pe_callB call_len_str (by rfl) B.len PySem.boot_len (pa_cons (pe_fld (pv 0) rfl) pa_nil)) (pe_op op_sub (pe_callB call_len_str (by rfl) B.len PySem.boot_len (pa_cons (pe_fld (pv 0) rfl) pa_nil)) pe_int))), ?_⟩
    refine ⟨_, rfl, y, C, dx, _, _, rfl, h1, S.cl, S.nW, f_wd, _, rfl, (by rw [T_len]; exact small (by omega)), ?_⟩
    refine ⟨_, rfl, y, C, dx, _, _, rfl, h1, S.cl, S.nT, f_tl, _, rfl, (by rw [T_len]; exact small (by omega)), ?_⟩
    refine ⟨_, _, rfl, rfl, _, _, rfl, rfl, ?_⟩
    rw [T_len, T_len]
    show Q (V.int (((wd.length : Nat) : Int) - (((tl.length : Nat) : Int) - 1))) H
    rw [show ((wd.length : Nat) : Int) - (((tl.length : Nat) : Int) - 1) = ((wd.length + 1 - tl.length : Nat) : Int) by omega]
    exact q
/-- what the top says of a refusal without fields -/
structure RaC (K : PySem.W.Frag) (mg : Str → Option Value) (x : Str) (C : Addr) : Prop where
  ex : PySem.W.excIn K C [.type "ValueError", .type "Exception", .type "BaseException", .type "object"] "ValueError.__new__" = true
  g : mg x = some (.ref C)
  k : PySem.W.keepIn K (.ref C) = true
  b : PySem.W.subIn K (.ref C) (.type "BaseException") = some true
  t : PySem.W.typeIn K (.ref C) = some (.type "type")
theorem scFeed : FnScope ["self", "letter", "tail", "numbers", "sounds"] ["self", "letter"] (defScope (sSy 1)) := ⟨rfl, rfl, rfl, by decide +kernel, rfl, by decide +kernel, by decide +kernel⟩
def spFeed (C CW CU : Addr) : Sp := fun vs H Q E => ∃ (y pa : Addr) (L : List Nat) (R : Addr) (rs : List Rule) (wd tl : List Nat) (ps : List (List Nat × Nat)) (c : Nat), vs = [.ref y, .str (T [c])] ∧ SyAt C H y pa L R rs wd tl ps ∧ (∀ ρ ∈ rs, RlOk ρ) ∧ c ∈ L ∧ wd.length ≤ 12 ∧ 1 ≤ tl.length ∧ tl.length ≤ 3 ∧ tl.length ≤ wd.length + 1 ∧ ps.length = wd.length ∧
  (wd.length = 12 → ∀ H', Same H H' → E (.ref CW) none H') ∧
  (wd.length < 12 → (∀ tl', (tkM rs (some tl) c).1 = some tl' → ∀ H', Kp y pa H H' → SyAt C H' y pa L R rs (wd ++ [c]) tl' (ps ++ [(tl, (soL rs (tkM rs (some tl) c).2).length)]) → Q (.str (T (soL rs (tkM rs (some tl) c).2))) H') ∧
    ((tkM rs (some tl) c).1 = none → ∀ d H', Same H H' → H d = none → H' d = some (.xd [(("place" : Str), .int ((wd.length + 1 - tl.length : Nat) : Int))]) → E (.ref CU) (some d) H'))
theorem tk_ks {rs : List Rule} {t : List Nat} {c : Nat} : (∀ k ∈ (tkM rs (some t) c).2, k < rs.length) ∧ (tkM rs (some t) c).2.length ≤ 1 := by
  unfold tkM
  simp only
  by_cases c1 : (t ++ [c]).length < 4
  · rw [if_pos c1]
    exact ⟨fun k h => (nomatch h), Nat.zero_le _⟩
  · rw [if_neg c1]
    cases e : ff rs (t ++ [c]) 1 with
    | none => exact ⟨fun k h => (nomatch h), Nat.zero_le _⟩
    | some k => exact ⟨fun j h => (by rw [List.mem_singleton.mp h]; exact ff_lt e), Nat.le_refl _⟩
theorem isText_one {L : List Nat} {c : Nat} (h : c ∈ L) : isText [c] L 1 1 = true := isText_of (Nat.le_refl _) (Nat.le_refl _) fun d hd => by rw [List.mem_singleton.mp hd]; exact h
theorem ok_feed {f C CW CU fI fPl : Addr} {fd fdPl : FuncData} (F : Fun K "feed" "Sayer.feed" (sSy 1) f fd) (S : SyC K C) (B : Bn mg) (cW : KI mg "LONGEST_WORD" 12) (RW : RaC K mg "BadWord" CW) (U : PySem.UnsX.UnsTxt P K mg CU fI)
    (GPl : FnOk P w K mg base CX0 1 fPl fdPl ["self"] (spPlace C)) (mPl : Meth K C "_place" fPl) (bPl : Binds K fdPl ["self"] [])
    (DTx : Df P w K mg base "is_text" psIsText 1 spIsText) (DTk : Df P w K mg base "taken" ["rules", "tail", "letter"] 3 spTk) (DSo : Df P w K mg base "sounds_of" ["rules", "numbers"] 1 spSou) :
    FnOk P w K mg base (L2.CX P w) 4 f fd ["self", "letter"] (spFeed C CW CU) := by
  obtain ⟨fTx, fdTx, GTx, kTx, bTx, mTx⟩ := DTx
  obtain ⟨fTk, fdTk, GTk, kTk, bTk, mTk⟩ := DTk
  obtain ⟨fSo, fdSo, GSo, kSo, bSo, mSo⟩ := DSo
  obtain ⟨tW, mW⟩ := cW
  refine F.okX scFeed (fun vs H Q E h => ?_) (fun cdv A outer s H vs Q E hr h => ?_)
  · obtain ⟨y, pa, L, R, rs, wd, tl, ps, c, rfl, _⟩ := h
    rfl
  · obtain ⟨y, pa, L, R, rs, wd, tl, ps, c, rfl, hS, ho, hc, h12, t1, t3, tw, hps, qW, qF⟩ := h
    have hr1 : Room 1 _ := hr.mono (by decide)
    have hr3 : Room 3 _ := hr
    refine ⟨_, pss_cons (ps_if (PW.pt (pw_or (pt_not (pt_val (pe_call GTx hr1 (by rfl) mTx kTx bTx .nil pass0 (pa_cons (pv 1) (pa_cons (pe_fld (pv 0) rfl) (pa_cons pe_int (pa_cons pe_int pa_nil))))))) (pw_or1 (pt_cmpR op_eq (pe_callB call_len_str (by rfl) B.len PySem.boot_len (pa_cons (pe_fld (pv 0) rfl) pa_nil)) (pe_glob (v := .int 12) rfl mW ⟨_, rfl⟩) (nomark _))))) (pss_one (ps_raise rfl (takes_of rfl rfl rfl rfl) (pmk_own PySem.F.excBase_ValueError RW.ex RW.g RW.k (raises_own RW.b RW.t) rfl))) pss_nil)
      (pss_cons (ps_asg (pe_call GTk hr3 (by rfl) mTk kTk bTk .nil pass0 (pa_cons (pe_fld (pv 0) rfl) (pa_cons (pe_fld (pv 0) rfl) (pa_cons (pv 1) pa_nil)))) (pg_tup (by rfl) (pgs_cons (pg_name (i := 2) scFeed.nd rfl (.inl rfl)) (pgs_cons (pg_name (i := 3) scFeed.nd rfl (.inl rfl)) pgs_nil))))
      (pss_cons (ps_if (pt_cmpR op_isN (pv 2) pe_non (nomark _)) (pss_one (ps_raiseUns rfl U hr (takes_of rfl rfl rfl rfl) (by exact (pa_cons (pe_meth0 (pv 0) S.cl mPl GPl hr1 bPl .nil pass0) pa_nil)))) pss_nil)
      (pss_cons (ps_set (i := 4) scFeed.nd rfl (.inl rfl) (pe_call GSo hr1 (by rfl) mSo kSo bSo .nil pass0 (pa_cons (pe_fld (pv 0) rfl) (pa_cons (pv 3) pa_nil))))
      (pss_cons (ps_expr (pe_bm PySem.F.plainAttrs_list PySem.F.slot_list_append PySem.F.type_list_append mt_append (pe_fld (pv 0) rfl) (pa_cons (pe_tup (pa_cons (pe_fld (pv 0) rfl) (pa_cons (pe_callB call_len_str (by rfl) B.len PySem.boot_len (pa_cons (pv 4) pa_nil)) pa_nil))) pa_nil)))
      (pss_cons (ps_fldaug (pv 0) (pv 1) in_addS)
      (pss_cons (ps_fld (pv 0) (pv 2) rfl)
      (pss_one (ps_ret (pv 4))))))))), ?_⟩
    obtain ⟨⟨dx, hy⟩, hR, ts, hpa, hpp⟩ := id hS
    refine ⟨_, rfl, _, rfl, y, C, dx, _, _, rfl, hy, S.cl, S.nL, f_let, [c], L, 1, 1, rfl, by simp, fun H1 s1 => ?_⟩
    have hS1 := hS.same s1
    have hy1 := s1 _ _ hy
    rw [isText_one hc]
    refine ⟨true, rfl, iteF ?_⟩
    refine ⟨_, rfl, y, C, dx, _, _, rfl, hy1, S.cl, S.nW, f_wd, _, rfl, (by rw [T_len]; exact small (by omega)), rfl, _, rfl, ?_⟩
    rw [T_len]
    refine ite2 (fun c12 => ?_) (fun c12 => ?_)
    · have c12 : wd.length = 12 := by have := V.int.inj (of_decide_eq_true c12); omega
      exact qW c12 H1 s1
    · have c12 : wd.length < 12 := by
        have h : ¬ wd.length = 12 := fun z => c12 (by rw [z]; rfl)
        omega
      obtain ⟨qT, qN⟩ := qF c12
      refine ⟨_, rfl, y, C, dx, _, _, rfl, hy1, S.cl, S.nR, f_rul, _, rfl, y, C, dx, _, _, rfl, hy1, S.cl, S.nT, f_tl, _, rfl, ?_⟩
      refine ⟨R, rs, some tl, c, rfl, hR.kt (.of s1), ho, (fun t e => by cases e; exact ⟨t1, t3⟩), fun u D H2 s2 hD hu hDl => ?_⟩
      have hS2 := hS1.same s2
      have hy2 := s2 _ _ hy1
      refine ⟨u, _, rfl, .inl (.inl hu), rfl, _, _, rfl, _, _, rfl, rfl, ?_⟩
      refine ⟨_, rfl, rfl, _, rfl, ?_⟩
      obtain ⟨kl, k1⟩ := tk_ks (rs := rs) (t := tl) (c := c)
      cases e : (tkM rs (some tl) c).1 with
      | none =>
        refine iteT ?_
        refine ⟨_, rfl, y, dx, _, rfl, hy2, rfl, y, dx, L, R, pa, wd, tl, rfl, hy2, by omega, t1, tw, _, rfl, by omega, fun d hd => ?_⟩
        exact qN e d _ (s1.trans (s2.trans (same_new hd _))) (s1.free (s2.free hd)) upd_same
      | some tl' =>
        refine iteF ?_
        refine ⟨_, rfl, y, C, dx, _, _, rfl, hy2, S.cl, S.nR, f_rul, _, rfl, ?_⟩
        refine ⟨R, D, rs, _, rfl, hR.kt (.of (s1.trans s2)), ho, hDl, kl, by omega, fun H3 s3 => ?_⟩
        have hS3 := hS2.same s3
        have hy3 := s3 _ _ hy2
        obtain ⟨_, hR3, ts3, hpa3, hpp3⟩ := id hS3
        have so3 : (soL rs (tkM rs (some tl) c).2).length ≤ 3 := by
          have := flat_len ho _ kl
          omega
        refine ⟨_, rfl, y, C, dx, _, _, rfl, hy3, S.cl, S.nP, f_pa, .inl ⟨rfl, _, .inl (.inl hpa3)⟩, ?_⟩
        refine ⟨_, rfl, y, C, dx, _, _, rfl, hy3, S.cl, S.nT, f_tl, _, rfl, _, rfl, (by rw [T_len]; exact small (by omega)), (by show 2 ≤ sizeLine; decide), fun t ht => ?_⟩
        have st := same_new ht (.tup [.str (T tl), .int ((T (soL rs (tkM rs (some tl) c).2)).length : Nat)])
        have nyp := hS.ne
        have hpa4 := st _ _ hpa3
        have hy4 := st _ _ hy3
        refine ⟨pa, _, _, rfl, rfl, hpa4, ?_, ?_⟩
        · rw [List.length_map, paired_len hpp3]
          exact small1000 (by omega)
        · obtain ⟨H5, e5⟩ : ∃ H5, H5 = upd (upd H3 t (.tup [.str (T tl), .int ((T (soL rs (tkM rs (some tl) c).2)).length : Nat)])) pa (.lst (ts3.map V.ref ++ [.ref t])) := ⟨_, rfl⟩
          have nyt : y ≠ t := ne_of_none hy3 ht
          have hy5 : H5 y = some (.ins C dx (fldS L R wd tl pa)) := by rw [e5, upd_ne nyp]; exact hy4
          rw [← e5]
          refine ⟨_, rfl, y, C, dx, _, _, rfl, hy5, S.cl, S.nW, f_wd, _, rfl, ?_⟩
          refine ⟨_, _, rfl, rfl, (by rw [T_len, T_len]; exact small (by simp; omega)), dx, _, hy5, (by show 5 < 1000; decide), ?_⟩
          rw [T_app, p_wd]
          refine ⟨_, rfl, _, rfl, y, C, dx, _, rfl, upd_same, S.cl, S.nT, (by show 5 < 1000; decide), ?_⟩
          rw [show optT (some tl') = V.str (T tl') from rfl, p_tl]
          refine ⟨_, rfl, qT tl' e _ ?_ ?_⟩
          · refine fun b o hb n1 n2 => ?_
            rw [upd_ne n1, upd_ne n1, e5, upd_ne n2]
            exact st _ _ (s3 _ _ (s2 _ _ (s1 _ _ hb)))
          · have k5 : KT H3 H5 := by
              rw [e5]
              exact (KT.of st).trans (kt_upd hpa4)
            have k7 : KT H5 (upd (upd H5 y (.ins C dx (fldS L R (wd ++ [c]) tl pa))) y (.ins C dx (fldS L R (wd ++ [c]) tl' pa))) := KT.by fun t' xs h hu => by
              have n := ne_of h hy5 (by rcases hu with ⟨_, rfl⟩ | ⟨_, _, rfl⟩ <;> (intro z; cases z))
              rw [upd_ne n, upd_ne n]
              exact h
            refine ⟨⟨dx, upd_same⟩, (hR3.kt k5).kt k7, ts3 ++ [t], ?_, ?_⟩
            · rw [upd_ne nyp.symm, upd_ne nyp.symm, e5, upd_same, List.map_append]
              rfl
            · refine paired_app (paired_mono (fun t' p q => k7.1 _ _ (k5.1 _ _ q)) hpp3) (.cons (k7.1 _ _ ?_) .nil)
              rw [e5, upd_ne (ne_of_none hpa3 ht).symm, upd_same, T_len]
theorem scBack : FnScope ["self", "many"] ["self"] (defScope (sSy 2)) := ⟨rfl, rfl, rfl, by decide +kernel, rfl, by decide +kernel, by decide +kernel⟩
def spBack (C CN : Addr) : Sp := fun vs H Q E => ∃ (y pa : Addr) (L : List Nat) (R : Addr) (rs : List Rule) (wd tl : List Nat) (ps : List (List Nat × Nat)), vs = [.ref y] ∧ SyAt C H y pa L R rs wd tl ps ∧ wd.length ≤ 12 ∧ ps.length = wd.length ∧
  (ps = [] → ∀ H', Same H H' → E (.ref CN) none H') ∧
  (∀ ps' t n, ps = ps' ++ [(t, n)] → ∀ H', Kp y pa H H' → SyAt C H' y pa L R rs wd.dropLast t ps' → Q (.int (n : Nat)) H')
theorem paired_snoc {α β : Type} {F : α → β → Prop} : ∀ {xs : List α} {ys : List β} {y : β}, Paired F xs (ys ++ [y]) → ∃ xs' x, xs = xs' ++ [x] ∧ Paired F xs' ys ∧ F x y
  | _, [], _, .cons a .nil => ⟨[], _, rfl, .nil, a⟩
  | _, _ :: _, _, .cons a b => by
    obtain ⟨xs', x, rfl, h1, h2⟩ := paired_snoc b
    exact ⟨_ :: xs', x, rfl, .cons a h1, h2⟩
theorem drop_last {wd : List Nat} (h : wd.length ≤ 100) : cutS (T wd) none (some (-1)) = T wd.dropLast := by
  unfold cutS
  have e : HT.sIx (T wd).length (T wd).length (some (-1)) = wd.length - 1 := by
    rw [T_len]
    unfold HT.sIx
    simp only
    split <;> omega
  rw [e]
  show T ((wd.drop 0).take (wd.length - 1 - 0)) = _
  rw [List.drop_zero, List.dropLast_eq_take, Nat.sub_zero]
theorem ok_back {f C CN : Addr} {fd : FuncData} {k : Nat} (F : Fun K "back" "Sayer.back" (sSy 2) f fd) (S : SyC K C) (RN : RaC K mg "NoLetter" CN) :
    FnOk P w K mg base (L2.CX P w) (k + 1) f fd ["self"] (spBack C CN) := by
  refine F.okX scBack (fun vs H Q E h => ?_) (fun cdv A outer s H vs Q E hr h => ?_)
  · obtain ⟨y, pa, L, R, rs, wd, tl, ps, rfl, _⟩ := h
    rfl
  · obtain ⟨y, pa, L, R, rs, wd, tl, ps, rfl, hS, h12, hps, qE, qT⟩ := h
    refine ⟨_, pss_cons (ps_if (pt_not (pt_truth (pe_fld (pv 0) rfl) (by intro _; rfl))) (pss_one (ps_raise rfl (takes_of rfl rfl rfl rfl) (pmk_own PySem.F.excBase_ValueError RN.ex RN.g RN.k (raises_own RN.b RN.t) rfl))) pss_nil)
      (pss_cons (ps_asg (pe_bm0 PySem.F.plainAttrs_list PySem.F.slot_list_pop PySem.F.type_list_pop mt_pop (pe_fld (pv 0) rfl)) (pg_tup (by rfl) (pgs_cons (pg_attr (pv 0)) (pgs_cons (pg_name (i := 1) scBack.nd rfl (.inl rfl)) pgs_nil))))
      (pss_cons (ps_fld (pv 0) (pe_slice sl_str (pe_fld (pv 0) rfl) po_none (po_some (pe_un un_neg pe_int))) rfl)
      (pss_one (ps_ret (pv 1))))), ?_⟩
    obtain ⟨⟨dx, hy⟩, hR, ts, hpa, hpp⟩ := id hS
    have nyp := hS.ne
    refine ⟨_, rfl, y, C, dx, _, _, rfl, hy, S.cl, S.nP, f_pa, _, .inl ⟨_, .inl (.inl hpa), rfl⟩, ?_⟩
    by_cases c : ps = []
    · subst c
      cases hpp
      refine iteT ?_
      exact qE rfl H (Same.refl H)
    · obtain ⟨ps', tn, rfl⟩ : ∃ ps' tn, ps = ps' ++ [tn] := ⟨_, _, (List.dropLast_concat_getLast c).symm⟩
      obtain ⟨t, n⟩ := tn
      obtain ⟨ts', ta, rfl, hpp', hat⟩ := paired_snoc hpp
      rw [show (!(!((ts' ++ [ta]).map V.ref).isEmpty)) = false by simp]
      refine iteF ?_
      refine ⟨_, rfl, y, C, dx, _, _, rfl, hy, S.cl, S.nP, f_pa, .inl ⟨rfl, _, .inl (.inl hpa)⟩, ?_⟩
      refine ⟨pa, _, .ref ta, rfl, rfl, hpa, ?_, ?_⟩
      · rw [List.map_append, List.length_append, List.length_map]
        show (ts'.map V.ref ++ [V.ref ta])[ts'.length + 1 - 1]? = _
        rw [Nat.add_sub_cancel, List.getElem?_append_right (by rw [List.length_map]; exact Nat.le_refl _), List.length_map, Nat.sub_self]
        rfl
      obtain ⟨H5, e5⟩ : ∃ H5, H5 = upd H pa (.lst ((ts' ++ [ta]).map V.ref).dropLast) := ⟨_, rfl⟩
      have k5 : KT H H5 := by rw [e5]; exact kt_upd hpa
      have hy5 : H5 y = some (.ins C dx (fldS L R wd tl pa)) := by rw [e5, upd_ne nyp]; exact hy
      have hpa5 : H5 pa = some (.lst (ts'.map V.ref)) := by
        rw [e5, upd_same, List.map_append]
        show some (HO.lst ((ts'.map V.ref ++ [V.ref ta]).dropLast)) = _
        rw [List.dropLast_concat]
      rw [← e5]
      refine ⟨ta, _, rfl, .inl (.inl (k5.1 _ _ hat)), rfl, _, _, rfl, ?_⟩
      refine ⟨_, rfl, y, C, dx, _, rfl, hy5, S.cl, S.nT, (by show 5 < 1000; decide), ?_⟩
      rw [p_tl]
      refine ⟨_, _, rfl, rfl, ?_⟩
      refine ⟨_, rfl, y, C, dx, _, _, rfl, upd_same, S.cl, S.nW, f_wd, _, rfl, _, rfl, T wd, rfl, (by rw [T_len]; exact small (by omega)), ?_⟩
      rw [show cutS (T wd) none (some (-(1 : Int))) = T wd.dropLast from drop_last (by omega)]
      refine ⟨_, rfl, y, C, dx, _, rfl, upd_same, S.cl, S.nW, (by show 5 < 1000; decide), ?_⟩
      rw [p_wd]
      refine ⟨_, rfl, qT ps' t n rfl _ ?_ ?_⟩
      · refine fun b o hb n1 n2 => ?_
        rw [upd_ne n1, upd_ne n1, e5, upd_ne n2]
        exact hb
      · have k7 : KT H5 (upd (upd H5 y (.ins C dx (fldS L R wd t pa))) y (.ins C dx (fldS L R wd.dropLast t pa))) := KT.by fun t' xs h hu => by
          have n := ne_of h hy5 (by rcases hu with ⟨_, rfl⟩ | ⟨_, _, rfl⟩ <;> (intro z; cases z))
          rw [upd_ne n, upd_ne n]
          exact h
        refine ⟨⟨dx, upd_same⟩, (hR.kt k5).kt k7, ts', ?_, paired_mono (fun t' p q => k7.1 _ _ (k5.1 _ _ q)) hpp'⟩
        rw [upd_ne nyp.symm, upd_ne nyp.symm]
        exact hpa5
theorem scEndS : FnScope ["self", "steps", "stuck"] ["self"] (defScope (sSy 3)) := ⟨rfl, rfl, rfl, by decide +kernel, rfl, by decide +kernel, by decide +kernel⟩
def spEndS (C CU : Addr) : Sp := fun vs H Q E => ∃ (y pa : Addr) (L : List Nat) (R : Addr) (rs : List Rule) (wd tl : List Nat) (ps : List (List Nat × Nat)), vs = [.ref y] ∧ SyAt C H y pa L R rs wd tl ps ∧ (∀ ρ ∈ rs, RlOk ρ) ∧ wd.length ≤ 12 ∧ 1 ≤ tl.length ∧ tl.length ≤ 3 ∧ tl.length ≤ wd.length + 1 ∧
  ((Wt rs tl).2 = none → ∀ pa' H', H pa' = none → Kp y pa H H' → SyAt C H' y pa' L R rs [] [35] [] → Q (.str (T (soL rs ((Wt rs tl).1.map (·.2))))) H') ∧
  (∀ p, (Wt rs tl).2 = some p → ∀ d H', Same H H' → H d = none → H' d = some (.xd [(("place" : Str), .int ((wd.length + 1 - tl.length + p : Nat) : Int))]) → E (.ref CU) (some d) H')
theorem Wt_stuck {rs : List Rule} {tl : List Nat} {p : Nat} (h : (Wt rs tl).2 = some p) : p < tl.length := by
  have := wk_stuck rs (tl ++ [35]) tl.length 1 p (Nat.le_refl 1) h
  rw [len1] at this
  omega
theorem ok_endS {f C CU fI fPl fBg : Addr} {fd fdPl fdBg : FuncData} (F : Fun K "end" "Sayer.end" (sSy 3) f fd) (S : SyC K C) (U : PySem.UnsX.UnsTxt P K mg CU fI)
    (GPl : FnOk P w K mg base CX0 1 fPl fdPl ["self"] (spPlace C)) (mPl : Meth K C "_place" fPl) (bPl : Binds K fdPl ["self"] []) (GBg : FnOk P w K mg base CX0 1 fBg fdBg ["self"] (spBegin C)) (mBg : Meth K C "_begin" fBg) (bBg : Binds K fdBg ["self"] [])
    (DSt : Df P w K mg base "steps_of" ["rules", "tail"] 3 spSt) (DNu : Df P w K mg base "numbers_of" ["steps"] 1 spNum) (DSo : Df P w K mg base "sounds_of" ["rules", "numbers"] 1 spSou) :
    FnOk P w K mg base (L2.CX P w) 4 f fd ["self"] (spEndS C CU) := by
  obtain ⟨fSt, fdSt, GSt, kSt, bSt, mSt⟩ := DSt
  obtain ⟨fNu, fdNu, GNu, kNu, bNu, mNu⟩ := DNu
  obtain ⟨fSo, fdSo, GSo, kSo, bSo, mSo⟩ := DSo
  refine F.okX scEndS (fun vs H Q E h => ?_) (fun cdv A outer s H vs Q E hr h => ?_)
  · obtain ⟨y, pa, L, R, rs, wd, tl, ps, rfl, _⟩ := h
    rfl
  · obtain ⟨y, pa, L, R, rs, wd, tl, ps, rfl, hS, ho, h12, t1, t3, tw, qT, qE⟩ := h
    have hr1 : Room 1 _ := hr.mono (by decide)
    have hr3 : Room 3 _ := hr
    refine ⟨_, pss_cons (ps_asg (pe_call GSt hr3 (by rfl) mSt kSt bSt .nil pass0 (pa_cons (pe_fld (pv 0) rfl) (pa_cons (pe_fld (pv 0) rfl) pa_nil))) (pg_tup (by rfl) (pgs_cons (pg_name (i := 1) scEndS.nd rfl (.inl rfl)) (pgs_cons (pg_name (i := 2) scEndS.nd rfl (.inl rfl)) pgs_nil))))
      (pss_cons (ps_if (pt_cmpR op_notN (pv 2) pe_non (nomark _)) (pss_one (ps_raiseUns rfl U hr (takes_of rfl rfl rfl rfl) (by exact (pa_cons (pe_op op_add (pe_meth0 (pv 0) S.cl mPl GPl hr1 bPl .nil pass0) (pv 2)) pa_nil)))) pss_nil)
      (pss_cons (ps_expr (pe_meth0 (pv 0) S.cl mBg GBg hr1 bBg .nil pass0))
      (pss_one (ps_ret (pe_call GSo hr1 (by rfl) mSo kSo bSo .nil pass0 (pa_cons (pe_fld (pv 0) rfl) (pa_cons (pe_call GNu hr1 (by rfl) mNu kNu bNu .nil pass0 (pa_cons (pv 1) pa_nil)) pa_nil))))))), ?_⟩
    obtain ⟨⟨dx, hy⟩, hR, ts, hpa, hpp⟩ := id hS
    have nyp := hS.ne
    refine ⟨_, rfl, y, C, dx, _, _, rfl, hy, S.cl, S.nR, f_rul, _, rfl, y, C, dx, _, _, rfl, hy, S.cl, S.nT, f_tl, ?_⟩
    refine ⟨R, rs, tl, rfl, hR, ho, t1, by omega, fun t D H1 s1 hD ht hSt => ?_⟩
    have hy1 := s1 _ _ hy
    refine ⟨t, _, rfl, .inl (.inl ht), rfl, _, _, rfl, _, _, rfl, rfl, ?_⟩
    refine ⟨_, rfl, rfl, _, rfl, ?_⟩
    cases e : (Wt rs tl).2 with
    | some p =>
      have hp := Wt_stuck e
      refine iteT ?_
      refine ⟨_, rfl, y, dx, _, rfl, hy1, rfl, y, dx, L, R, pa, wd, tl, rfl, hy1, by omega, t1, tw, ?_⟩
      refine ⟨_, rfl, _, _, rfl, rfl, ?_⟩
      refine ⟨wd.length + 1 - tl.length + p, ?_, by omega, fun d hd => ?_⟩
      · show [V.int (((wd.length + 1 - tl.length : Nat) : Int) + ((p : Nat) : Int))] = _
        rw [← Int.natCast_add]
      · exact qE p e d _ (s1.trans (same_new hd _)) (s1.free hd) upd_same
    | none =>
      refine iteF ?_
      refine ⟨_, rfl, y, dx, _, rfl, hy1, rfl, y, dx, _, rfl, hy1, (by show 5 ≤ 100; decide), fun pa' H2 hpa' hy2 hp2 st2 => ?_⟩
      have npa' : H pa' = none := s1.free hpa'
      have k12 : KT H1 H2 := KT.by fun t' xs h hu => st2 _ _ h (ne_of h hy1 (by rcases hu with ⟨_, rfl⟩ | ⟨_, _, rfl⟩ <;> (intro z; cases z)))
      have hSt2 : StepsAt H2 D (Wt rs tl).1 := by
        obtain ⟨ts2, e1, e2⟩ := hSt
        exact ⟨ts2, st2 _ _ e1 (ne_of e1 hy1 (by intro z; cases z)), paired_mono (fun t' ρ q => k12.1 _ _ q) e2⟩
      have hl : (Wt rs tl).1.length ≤ tl.length := wk_len rs (tl ++ [35]) tl.length 1
      have hy2' : H2 y = some (.ins C dx (fldS L R [] [35] pa')) := hy2
      refine ⟨_, rfl, y, C, dx, _, _, rfl, hy2', S.cl, S.nR, f_rul, _, rfl, D, _, rfl, hSt2, by omega, fun D' H3 s3 hD' h3 => ?_⟩
      refine ⟨R, D', rs, (Wt rs tl).1.map (·.2), rfl, ((hR.kt (.of s1)).kt k12).kt (.of s3), ho, by rw [h3, List.map_map]; rfl, fun k hk => ?_, by rw [List.length_map]; omega, fun H4 s4 => ?_⟩
      · obtain ⟨st, hst, rfl⟩ := List.mem_map.mp hk
        exact wk_lt _ _ st hst
      · have s24 := s3.trans s4
        refine qT e pa' H4 npa' (fun b o hb n1 n2 => s24 _ _ (st2 _ _ (s1 _ _ hb) n1)) ⟨⟨dx, s24 _ _ hy2'⟩, ((hR.kt (.of s1)).kt k12).kt (.of s24), [], s24 _ _ hp2, .nil⟩
theorem scInit : FnScope ["self", "book", "letters", "rules", "_"] ["self", "book"] (defScope (sSy 0)) := ⟨rfl, rfl, rfl, by decide +kernel, rfl, by decide +kernel, by decide +kernel⟩
def spInitS (C : Addr) : Sp := fun vs H Q _ => ∃ (y dx b : Addr) (L : List Nat) (rs : List Rule) (es : List Exc), vs = [.ref y, .ref b] ∧ H y = some (.ins C dx []) ∧ BookAt H b L rs es ∧ BookOk L rs es ∧
  ∀ (pa R : Addr) (H' : Hp), H pa = none → Stp y H H' → SyAt C H' y pa L R rs [] [35] [] → Q .non H'
theorem ok_initS {f C fBg : Addr} {fd fdBg : FuncData} (F : Fun K "__init__" "Sayer.__init__" (sSy 0) f fd) (S : SyC K C) (GBg : FnOk P w K mg base CX0 1 fBg fdBg ["self"] (spBegin C)) (mBg : Meth K C "_begin" fBg) (bBg : Binds K fdBg ["self"] [])
    (DCh : Df P w K mg base "checked_book" ["book"] 5 spCh) : FnOk P w K mg base CX0 6 f fd ["self", "book"] (spInitS C) := by
  obtain ⟨fCh, fdCh, GCh, kCh, bCh, mCh⟩ := DCh
  refine F.ok scInit (fun vs H Q E h => ?_) (fun cdv A outer s H vs Q E hr h => ?_)
  · obtain ⟨y, dx, b, L, rs, es, rfl, _⟩ := h
    rfl
  · obtain ⟨y, dx, b, L, rs, es, rfl, hy, hB, oB, q⟩ := h
    have hr1 : Room 1 _ := hr.mono (by decide)
    have hr5 : Room 5 _ := hr
    refine ⟨_, pss_cons (ps_asg (pe_call GCh hr5 (by rfl) mCh kCh bCh .nil pass0 (pa_cons (pv 1) pa_nil)) (pg_tup (by rfl) (pgs_cons (pg_name (i := 2) scInit.nd rfl (.inl rfl)) (pgs_cons (pg_name (i := 3) scInit.nd rfl (.inl rfl)) (pgs_cons (pg_name (i := 4) scInit.nd rfl (.inl rfl)) pgs_nil)))))
      (pss_cons (ps_fld (pv 0) (pv 2) rfl)
      (pss_cons (ps_fld (pv 0) (pv 3) rfl)
      (pss_one (ps_expr (pe_meth0 (pv 0) S.cl mBg GBg hr1 bBg .nil pass0))))), ?_⟩
    refine ⟨_, rfl, b, L, rs, es, rfl, hB, oB, fun H1 s1 => ?_⟩
    obtain ⟨R, X, hb, hR, hX⟩ := hB.kt (.of s1)
    have hy1 := s1 _ _ hy
    refine ⟨b, _, rfl, .inl (.inl hb), rfl, _, _, rfl, _, _, rfl, _, _, rfl, rfl, ?_⟩
    refine ⟨_, rfl, _, rfl, y, C, dx, _, rfl, hy1, S.cl, S.nL, (by show 0 < 1000; decide), ?_⟩
    refine ⟨_, rfl, _, rfl, y, C, dx, _, rfl, upd_same, S.cl, S.nR, (by show 1 < 1000; decide), ?_⟩
    refine ⟨_, rfl, y, dx, _, rfl, upd_same, rfl, y, dx, _, rfl, upd_same, (by show 2 ≤ 100; decide), fun pa H2 hpa hy2 hp2 st2 => ?_⟩
    have npa : H1 pa = none := by
      have n : pa ≠ y := fun z => by rw [z, upd_same] at hpa; cases hpa
      rw [upd_ne n, upd_ne n] at hpa
      exact hpa
    have st : Stp y H H2 := fun b' o hb' n => st2 _ _ (by rw [upd_ne n, upd_ne n]; exact s1 _ _ hb') n
    have kt : KT H1 H2 := KT.by fun t' xs h hu => by
      have n := ne_of h hy1 (by rcases hu with ⟨_, rfl⟩ | ⟨_, _, rfl⟩ <;> (intro z; cases z))
      exact st2 _ _ (by rw [upd_ne n, upd_ne n]; exact h) n
    exact q pa R H2 (s1.free npa) st ⟨⟨dx, hy2⟩, hR.kt kt, [], hp2, .nil⟩
end
end Say
namespace Say
open PySem PySem.Spec PyProof.Rows L2
/-! ### walks with fuel enough are alike -/
theorem wk_fuel {rs : List Rule} (h : ∀ ρ ∈ rs, RlOk ρ) {z : List Nat} : ∀ m m' i : Nat, z.length ≤ m + i + 1 → z.length ≤ m' + i + 1 → wk rs z m i = wk rs z m' i
  | 0, m', i, a, b => by
    have n : ¬ i < z.length - 1 := by omega
    rw [wk_end rs z 0 i n, wk_end rs z m' i n]
  | m + 1, m', i, a, b => by
    by_cases n : i < z.length - 1
    · obtain ⟨m'', rfl⟩ : ∃ m'', m' = m'' + 1 := ⟨m' - 1, by omega⟩
      cases e : ff rs z i with
      | none => rw [wk_none n e, wk_none n e]
      | some k =>
        have o1 : 1 ≤ (ruleAt rs k).ow.length := by
          rw [ruleAt_eq (List.getElem?_eq_getElem (ff_lt e))]
          exact (h _ (List.getElem_mem (ff_lt e))).o1
        rw [wk_some n e, wk_some n e, wk_fuel h m m'' _ (by omega) (by omega)]
    · rw [wk_end rs z _ i n, wk_end rs z m' i n]
/-- the walk from a place on -/
def wc (rs : List Rule) (z : List Nat) (i : Nat) : List (Nat × Nat) × Option Nat := wk rs z z.length i
theorem wc_end {rs : List Rule} {z : List Nat} {i : Nat} (n : ¬ i < z.length - 1) : wc rs z i = ([], none) := wk_end rs z _ i n
theorem wc_none {rs : List Rule} {z : List Nat} {i : Nat} (n : i < z.length - 1) (e : ff rs z i = none) : wc rs z i = ([], some (i - 1)) := by
  unfold wc
  obtain ⟨m, hm⟩ : ∃ m, z.length = m + 1 := ⟨z.length - 1, by omega⟩
  rw [hm, wk_none n e]
theorem wc_some {rs : List Rule} (h : ∀ ρ ∈ rs, RlOk ρ) {z : List Nat} {i k : Nat} (n : i < z.length - 1) (e : ff rs z i = some k) : wc rs z i = ((i - 1, k) :: (wc rs z (i + (ruleAt rs k).ow.length)).1, (wc rs z (i + (ruleAt rs k).ow.length)).2) := by
  unfold wc
  obtain ⟨m, hm⟩ : ∃ m, z.length = m + 1 := ⟨z.length - 1, by omega⟩
  have o1 : 1 ≤ (ruleAt rs k).ow.length := by
    rw [ruleAt_eq (List.getElem?_eq_getElem (ff_lt e))]
    exact (h _ (List.getElem_mem (ff_lt e))).o1
  rw [wk_fuel h z.length (m + 1) i (by omega) (by omega), wk_some n e, wk_fuel h m z.length _ (by omega) (by omega)]
theorem W_wc {rs : List Rule} (h : ∀ ρ ∈ rs, RlOk ρ) (wd : List Nat) : W rs wd = wc rs (sgn wd) 1 := wk_fuel h _ _ 1 (by rw [sgn_len]; omega) (by omega)
theorem Wt_wc {rs : List Rule} (h : ∀ ρ ∈ rs, RlOk ρ) (tl : List Nat) : Wt rs tl = wc rs (tl ++ [35]) 1 := wk_fuel h _ _ 1 (by rw [len1]; omega) (by omega)
/-! ### what rules look at -/
theorem fits_drop (ρ : Rule) (z : List Nat) (p i : Nat) : fitsL ρ (z.drop p) (i + 1) = fitsL ρ z (p + i + 1) := by
  unfold fitsL
  rw [List.drop_drop, ← Nat.add_assoc]
  simp only [List.getD_eq_getElem?_getD, List.getElem?_drop]
  rw [show p + (i + 1 - 1) = p + i + 1 - 1 by omega, show p + (i + 1 + ρ.ow.length) = p + i + 1 + ρ.ow.length by omega]
theorem fits_pre (ρ : Rule) (u v : List Nat) (i : Nat) (h1 : 1 ≤ i) (h : i + ρ.ow.length < u.length) : fitsL ρ (u ++ v) i = fitsL ρ u i := by
  unfold fitsL
  rw [List.drop_append_of_le_length (by omega), List.take_append_of_le_length (by rw [List.length_drop]; omega)]
  simp only [List.getD_eq_getElem?_getD]
  rw [List.getElem?_append_left (by omega), List.getElem?_append_left (by omega)]
theorem ff_congr {rs : List Rule} {z z' : List Nat} {i i' : Nat} (h : ∀ ρ ∈ rs, fitsL ρ z i = fitsL ρ z' i') : ff rs z i = ff rs z' i' := by
  unfold ff
  induction rs with
  | nil => rfl
  | cons a r ih =>
    rw [List.findIdx?_cons, List.findIdx?_cons, h a (List.mem_cons_self ..), ih fun ρ hρ => h ρ (List.mem_cons_of_mem _ hρ)]
theorem ff_drop (rs : List Rule) (z : List Nat) (p i : Nat) : ff rs (z.drop p) (i + 1) = ff rs z (p + i + 1) := ff_congr fun ρ _ => fits_drop ρ z p i
theorem ff_at (rs : List Rule) (z : List Nat) (p : Nat) : ff rs z (p + 1) = ff rs (z.drop p) 1 := (ff_drop rs z p 0).symm
theorem ff_pre {rs : List Rule} (h : ∀ ρ ∈ rs, RlOk ρ) (u v : List Nat) (h4 : 4 ≤ u.length) : ff rs (u ++ v) 1 = ff rs u 1 := ff_congr fun ρ hρ => fits_pre ρ u v 1 (Nat.le_refl 1) (by have := (h ρ hρ).o2; omega)
/-- a walk moved on -/
def shiftW (p : Nat) (q : List (Nat × Nat) × Option Nat) : List (Nat × Nat) × Option Nat := (q.1.map fun s => (s.1 + p, s.2), q.2.map (· + p))
theorem wk_shift (rs : List Rule) (z : List Nat) (p : Nat) (hp : p ≤ z.length) : ∀ m i : Nat, wk rs z m (p + i + 1) = shiftW p (wk rs (z.drop p) m (i + 1))
  | 0, i => rfl
  | m + 1, i => by
    have hl : (z.drop p).length = z.length - p := List.length_drop
    by_cases n : p + i + 1 < z.length - 1
    · have n' : i + 1 < (z.drop p).length - 1 := by omega
      have ef := ff_drop rs z p i
      cases e : ff rs z (p + i + 1) with
      | none =>
        rw [wk_none n e, wk_none n' (by rw [ef]; exact e)]
        unfold shiftW
        simp only [List.map_nil, Option.map_some]
        rw [show p + i + 1 - 1 = i + 1 - 1 + p by omega]
      | some k =>
        rw [wk_some n e, wk_some n' (by rw [ef]; exact e)]
        have ih := wk_shift rs z p hp m (i + (ruleAt rs k).ow.length)
        rw [show p + (i + (ruleAt rs k).ow.length) + 1 = p + i + 1 + (ruleAt rs k).ow.length by omega, show i + (ruleAt rs k).ow.length + 1 = i + 1 + (ruleAt rs k).ow.length by omega] at ih
        rw [ih]
        unfold shiftW
        simp only [List.map_cons]
        rw [show p + i + 1 - 1 = i + 1 - 1 + p by omega]
    · rw [wk_end rs z _ _ n, wk_end rs (z.drop p) _ _ (by omega)]
      rfl
theorem wc_shift {rs : List Rule} (h : ∀ ρ ∈ rs, RlOk ρ) (z : List Nat) (p : Nat) (hp : p ≤ z.length) : wc rs z (p + 1) = shiftW p (wc rs (z.drop p) 1) := by
  unfold wc
  rw [show p + 1 = p + 0 + 1 by omega, wk_shift rs z p hp z.length 0]
  congr 1
  exact wk_fuel h _ _ 1 (by rw [List.length_drop]; omega) (by omega)
/-! ### letters fed -/
/-- wd was fed: the tail, the numbers that are settled -/
def Fed (rs : List Rule) (wd tl ks : List Nat) : Prop := ∃ (p : Nat) (st : List (Nat × Nat)), p ≤ wd.length ∧ wd.length ≤ p + 2 ∧ tl = (35 :: wd).drop p ∧ st.map (·.2) = ks ∧
  ∀ v, wc rs (sgn (wd ++ v)) 1 = (st ++ (wc rs (sgn (wd ++ v)) (p + 1)).1, (wc rs (sgn (wd ++ v)) (p + 1)).2)
theorem fed_nil (rs : List Rule) : Fed rs [] [35] [] := ⟨0, [], Nat.le_refl _, Nat.zero_le _, rfl, rfl, fun v => rfl⟩
theorem Fed.len {rs : List Rule} {wd tl ks : List Nat} (h : Fed rs wd tl ks) : 1 ≤ tl.length ∧ tl.length ≤ 3 ∧ tl.length ≤ wd.length + 1 := by
  obtain ⟨p, st, h1, h2, rfl, _⟩ := h
  rw [List.length_drop, List.length_cons]
  omega
theorem sgn_drop (wd v : List Nat) (p : Nat) (h : p ≤ wd.length + 1) : (sgn (wd ++ v)).drop p = (35 :: wd).drop p ++ (v ++ [35]) := by
  have e : sgn (wd ++ v) = (35 :: wd) ++ (v ++ [35]) := by unfold sgn; simp
  rw [e, List.drop_append_of_le_length (by rw [List.length_cons]; exact h)]
theorem Fed.step {rs : List Rule} (h : ∀ ρ ∈ rs, RlOk ρ) {wd tl ks tl' : List Nat} {c : Nat} (F : Fed rs wd tl ks) (e : (tkM rs (some tl) c).1 = some tl') : Fed rs (wd ++ [c]) tl' (ks ++ (tkM rs (some tl) c).2) := by
  obtain ⟨p, st, h1, h2, rfl, rfl, hv⟩ := F
  have et : (35 :: wd).drop p ++ [c] = (35 :: (wd ++ [c])).drop p := by
    rw [← List.cons_append, List.drop_append_of_le_length (by rw [List.length_cons]; omega)]
  have hl : ((35 :: (wd ++ [c])).drop p).length = wd.length + 2 - p := by
    rw [List.length_drop, List.length_cons, List.length_append, List.length_singleton]
  unfold tkM at e ⊢
  simp only at e ⊢
  rw [et] at e ⊢
  by_cases c4 : ((35 :: (wd ++ [c])).drop p).length < 4
  · rw [if_pos c4] at e ⊢
    cases e
    refine ⟨p, st, by rw [List.length_append]; omega, by rw [List.length_append, List.length_singleton]; omega, rfl, by simp, fun v => ?_⟩
    have := hv ([c] ++ v)
    rw [← List.append_assoc] at this
    exact this
  · rw [if_neg c4] at e ⊢
    cases hf : ff rs ((35 :: (wd ++ [c])).drop p) 1 with
    | none => rw [hf] at e; cases e
    | some k =>
      rw [hf] at e
      cases e
      have hk := ff_lt hf
      have er : ruleAt rs k = rs[k] := ruleAt_eq (List.getElem?_eq_getElem hk)
      have o1 := (h _ (List.getElem_mem hk)).o1
      have o2 := (h _ (List.getElem_mem hk)).o2
      refine ⟨p + (ruleAt rs k).ow.length, st ++ [(p, k)], by rw [er, List.length_append, List.length_singleton]; omega, by rw [er, List.length_append, List.length_singleton]; omega, by rw [List.drop_drop], by simp, fun v => ?_⟩
      have := hv ([c] ++ v)
      rw [← List.append_assoc] at this
      rw [this]
      have fz : ff rs (sgn (wd ++ [c] ++ v)) (p + 1) = some k := by
        rw [← hf, ff_at, sgn_drop _ _ _ (by rw [List.length_append]; omega)]
        exact ff_pre h _ _ (by omega)
      have nz : p + 1 < (sgn (wd ++ [c] ++ v)).length - 1 := by
        rw [sgn_len, List.length_append, List.length_append, List.length_singleton]; omega
      rw [wc_some h nz fz, show p + 1 + (ruleAt rs k).ow.length = p + (ruleAt rs k).ow.length + 1 by omega]
      rw [List.append_assoc st [(p, k)]]
      rfl
/-- where a letter isn't taken no word that begins so is said -/
theorem Fed.stuck {rs : List Rule} (h : ∀ ρ ∈ rs, RlOk ρ) {wd tl ks : List Nat} {c : Nat} (F : Fed rs wd tl ks) (e : (tkM rs (some tl) c).1 = none) (v : List Nat) : (W rs (wd ++ [c] ++ v)).2 = some (wd.length + 1 - tl.length) := by
  obtain ⟨p, st, h1, h2, rfl, rfl, hv⟩ := F
  have et : (35 :: wd).drop p ++ [c] = (35 :: (wd ++ [c])).drop p := by
    rw [← List.cons_append, List.drop_append_of_le_length (by rw [List.length_cons]; omega)]
  have hl : ((35 :: (wd ++ [c])).drop p).length = wd.length + 2 - p := by
    rw [List.length_drop, List.length_cons, List.length_append, List.length_singleton]
  unfold tkM at e
  simp only at e
  rw [et] at e
  by_cases c4 : ((35 :: (wd ++ [c])).drop p).length < 4
  · rw [if_pos c4] at e
    cases e
  · rw [if_neg c4] at e
    cases hf : ff rs ((35 :: (wd ++ [c])).drop p) 1 with
    | some k => rw [hf] at e; cases e
    | none =>
      have := hv ([c] ++ v)
      rw [← List.append_assoc] at this
      have fz : ff rs (sgn (wd ++ [c] ++ v)) (p + 1) = none := by
        rw [← hf, ff_at, sgn_drop _ _ _ (by rw [List.length_append]; omega)]
        exact ff_pre h _ _ (by omega)
      have nz : p + 1 < (sgn (wd ++ [c] ++ v)).length - 1 := by
        rw [sgn_len, List.length_append, List.length_append, List.length_singleton]; omega
      rw [W_wc h, this, wc_none nz fz]
      show some (p + 1 - 1) = _
      rw [List.length_drop, List.length_cons, show p + 1 - 1 = wd.length + 1 - (wd.length + 1 - p) by omega]
/-- the whole word, by its tail's end -/
theorem Fed.whole {rs : List Rule} (h : ∀ ρ ∈ rs, RlOk ρ) {wd tl ks : List Nat} (F : Fed rs wd tl ks) : (W rs wd).1.map (·.2) = ks ++ (Wt rs tl).1.map (·.2) ∧ (W rs wd).2 = (Wt rs tl).2.map (· + (wd.length + 1 - tl.length)) := by
  obtain ⟨p, st, h1, h2, rfl, rfl, hv⟩ := F
  have := hv []
  rw [List.append_nil] at this
  have e := wc_shift h (sgn wd) p (by rw [sgn_len]; omega)
  have ed : (sgn wd).drop p = (35 :: wd).drop p ++ [35] := by
    have := sgn_drop wd [] p (by omega)
    rw [List.append_nil] at this
    exact this
  rw [ed, ← Wt_wc h] at e
  rw [e] at this
  rw [W_wc h, this]
  unfold shiftW
  simp only [List.map_append, List.map_map]
  refine ⟨rfl, ?_⟩
  rw [List.length_drop, List.length_cons, show wd.length + 1 - (wd.length + 1 - p) = p by omega]
theorem Fed.kb {rs : List Rule} {wd tl ks : List Nat} (F : Fed rs wd tl ks) : (∀ k ∈ ks, k < rs.length) ∧ ks.length ≤ wd.length + 2 := by
  obtain ⟨p, st, h1, h2, rfl, rfl, hv⟩ := F
  have e := hv []
  rw [List.append_nil] at e
  have l : (wc rs (sgn wd) 1).1.length ≤ (sgn wd).length := wk_len rs (sgn wd) (sgn wd).length 1
  rw [e, List.length_append, sgn_len] at l
  refine ⟨fun k hk => ?_, by rw [List.length_map]; omega⟩
  obtain ⟨s, hs, rfl⟩ := List.mem_map.mp hk
  refine wk_lt (rs := rs) (z := sgn wd) (sgn wd).length 1 s ?_
  show s ∈ (wc rs (sgn wd) 1).1
  rw [e]
  exact List.mem_append_left _ hs
theorem soL_app (rs : List Rule) (a b : List Nat) : soL rs (a ++ b) = soL rs a ++ soL rs b := by
  unfold soL
  rw [List.map_append, List.flatten_append]
end Say
namespace Say
open PySem PySem.Spec PyProof.Rows L2
theorem count_eqU {x : V} : ∀ {xs : List V} {us : List Value}, Vals xs us → xs.all flatV = true → us.countP (eqU x) = xs.countP fun y => eqV y x
  | _, _, .nil, _ => rfl
  | y :: xs, u :: us, .cons r t, f => by
    rw [List.all_cons, Bool.and_eq_true] at f
    have ih := count_eqU (x := x) t f.2
    rw [List.countP_cons, List.countP_cons, ih, eqU_of r f.1]
section
variable {X : Cx}
/-- l.count(y) of plain values -/
def rCntV (K : PySem.W.Frag) : V → List V → Hp → VK → Prop := fun x xs H Q => ∃ (p : Addr) (ys : List V) (y : V), x = .ref p ∧ xs = [y] ∧ SqL K H p ys ∧ flatV y = true ∧ ys.all flatV = true ∧ Q (.int ((ys.countP fun z => eqV z y : Nat) : Int)) H
theorem mt_countV : MtR X "list.count" (rCntV X.K) := by
  intro pins s σ H x xs v us Q I rx rxs h
  obtain ⟨p, ys, y, rfl, rfl, hs, fy, fys, q⟩ := h
  cases rx
  obtain ⟨u, rfl, ru⟩ := rxs.one
  obtain ⟨its, rv, ⟨⟨cls, dd, data, sl⟩, n, ho, hc, hdn, hd⟩, hlen⟩ := I.list hs
  simp only at hc hd
  subst hc hd
  refine call_meets PySem.F.slot_list_count ⟨_, ho, rfl⟩ PySem.F.entry_list_count (PySem.F.args_list_count_2 _ _)
    (SeqAt.list_countAt p its.toArray n dd sl u (eqU y)) ⟨ho, fun u' hu' => mem_eqAt ru fy rv fys u' (by simpa using hu'), ?_⟩
  have ec : its.toArray.toList.countP (eqU y) = ys.countP fun z => eqV z y := count_eqU rv fys
  refine ⟨.int _, H, I.tok _, ⟨s.toks, ?_⟩, q⟩
  rw [ec]
/-- isinstance(e, c), e the caught one, an instance of D with a dict -/
def rIsED (K : PySem.W.Frag) (D a : Addr) (cls : Value) (d : Option Addr) : List V → Hp → VK → Prop := fun xs H Q => ∃ (c : V) (cv : Value) (b : Bool) (dd : Addr) (fs : List (Str × V)), xs = [.ref a, c] ∧ ClsV c cv ∧ cls = .ref D ∧ d = some dd ∧ H dd = some (.xd fs) ∧ PySem.W.kitOne K (.ref D) cv = some b ∧ Q (.bl b) H
theorem call_isED {a D : Addr} {oe : Obj} {cls : Value} {d : Option Addr} {pn : List (Addr × Obj)} (C : ExcC X.K D) (hz : Zc cls d oe) (hf : ∃ vs, oe.data = .fields vs) : CallR (X.suite a ((a, oe) :: pn)) (.builtin "isinstance") (rIsED X.K D a cls d) := by
  intro pins s σ H xs us Q I r h
  obtain ⟨c, cv, b, dd, fs, rfl, hcv, ecl, ed, hH, e, q⟩ := h
  subst ed
  subst ecl
  obtain ⟨u1, u2, rfl, r1, r2⟩ := vals2 r
  cases (show u1 = Value.ref a from r1)
  have ec := hcv.eq r2
  subst ec
  obtain ⟨hget, _⟩ := I.pin (a, oe) (List.mem_append.mpr (.inl List.mem_cons_self))
  obtain ⟨vs, hv⟩ := hf
  have hx : ObjOk X.prog X.w H s.heap dd (.xd fs) := I.hok dd _ hH
  obtain ⟨mA, hns, hr⟩ := hx
  obtain ⟨od, ho, hl⟩ := lookIn_ns hns
  have J : PySem.W.InstAt s.heap a oe D (some od) := ⟨hget, hz.1, by unfold PySem.W.notCls; rw [hv] <;> rfl, by rw [hz.2]; exact ho⟩
  have hcl : (PySem.W.clsIn X.K D).isSome = true := by
    obtain ⟨cd, hc, _⟩ := PySem.W.any_some C.hd
    rw [hc]; rfl
  exact PySem.W.kia_one (PySem.W.kitx_exc hcl C.hg C.hk C.hs C.ha C.hn C.ht C.hm) I.kIn J e (fun z => nomatch z) fun tk => ⟨.bl b, H, I.kept (t' := tk) fun _ _ z => z, rfl, q⟩
/-- what may be known of the caught one's dict -/
def Held (H : Hp) (d : Option Addr) : Prop := d = none ∨ ∃ (dd : Addr) (fs : List (Str × V)), d = some dd ∧ H dd = some (.xd fs)
theorem Held.same {H H' : Hp} {d : Option Addr} (h : Held H d) (e : ∀ b o, H b = some o → H' b = some o) : Held H' d := by
  rcases h with h | ⟨dd, fs, h1, h2⟩
  · exact .inl h
  · exact .inr ⟨dd, fs, h1, e _ _ h2⟩
/-- isinstance(e, c), e the caught one, an instance of D -/
def rIsEA (K : PySem.W.Frag) (D a : Addr) (cls : Value) (d : Option Addr) : List V → Hp → VK → Prop := fun xs H Q => ∃ (c : V) (cv : Value) (b : Bool), xs = [.ref a, c] ∧ ClsV c cv ∧ cls = .ref D ∧ Held H d ∧ PySem.W.kitOne K (.ref D) cv = some b ∧ Q (.bl b) H
theorem call_isEA {a D : Addr} {oe : Obj} {cls : Value} {d : Option Addr} {pn : List (Addr × Obj)} (C : ExcC X.K D) (hz : Zc cls d oe) (hf : ∃ vs, oe.data = .fields vs) : CallR (X.suite a ((a, oe) :: pn)) (.builtin "isinstance") (rIsEA X.K D a cls d) := by
  intro pins s σ H xs us Q I r h
  obtain ⟨c, cv, b, rfl, hcv, ecl, hH, e, q⟩ := h
  subst ecl
  obtain ⟨u1, u2, rfl, r1, r2⟩ := vals2 r
  cases (show u1 = Value.ref a from r1)
  have ec := hcv.eq r2
  subst ec
  obtain ⟨hget, _⟩ := I.pin (a, oe) (List.mem_append.mpr (.inl List.mem_cons_self))
  obtain ⟨vs, hv⟩ := hf
  have hcl : (PySem.W.clsIn X.K D).isSome = true := by
    obtain ⟨cd, hc, _⟩ := PySem.W.any_some C.hd
    rw [hc]; rfl
  obtain ⟨od, J⟩ : ∃ od, PySem.W.InstAt s.heap a oe D od := by
    rcases hH with ed | ⟨dd, fs, ed, hH⟩
    · subst ed
      obtain ⟨oc, od, oda, osl⟩ := oe
      obtain ⟨h1, h2⟩ := hz
      dsimp only at h1 h2 hv
      subst h1 h2 hv
      exact ⟨none, hget, rfl, rfl, trivial⟩
    · subst ed
      have hx : ObjOk X.prog X.w H s.heap dd (.xd fs) := I.hok dd _ hH
      obtain ⟨mA, hns, hr⟩ := hx
      obtain ⟨od, ho, hl⟩ := lookIn_ns hns
      exact ⟨some od, hget, hz.1, by unfold PySem.W.notCls; rw [hv] <;> rfl, by rw [hz.2]; exact ho⟩
  exact PySem.W.kia_one (PySem.W.kitx_exc hcl C.hg C.hk C.hs C.ha C.hn C.ht C.hm) I.kIn J e (fun z => nomatch z) fun tk => ⟨.bl b, H, I.kept (t' := tk) fun _ _ z => z, rfl, q⟩
end
end Say
namespace Say
open PySem PySem.Spec PyProof.Rows L2
/-- what the top says of the classes that are asked for, the caught one's class at CU, the j-th of the twelve -/
structure WordC (K : PySem.W.Frag) (mg : Str → Option Value) (CU : Addr) (j : Nat) : Prop where
  say : ∃ c, mg "SayError" = some (.ref c) ∧ PySem.W.exmOne K (.ref CU) (.ref c) = some true
  book : ∃ c, mg "BadBook" = some (.ref c) ∧ PySem.W.kitOne K (.ref CU) (.ref c) = some (decide (0 = j))
  word : ∃ c, mg "BadWord" = some (.ref c) ∧ PySem.W.kitOne K (.ref CU) (.ref c) = some (decide (1 = j))
  snds : ∃ c, mg "BadSounds" = some (.ref c) ∧ PySem.W.kitOne K (.ref CU) (.ref c) = some (decide (2 = j))
  coun : ∃ c, mg "BadCount" = some (.ref c) ∧ PySem.W.kitOne K (.ref CU) (.ref c) = some (decide (3 = j))
  uns : ∃ c, mg "Unsaid" = some (.ref c) ∧ PySem.W.kitOne K (.ref CU) (.ref c) = some (decide (4 = j))
  lett : ∃ c, mg "NoLetter" = some (.ref c) ∧ PySem.W.kitOne K (.ref CU) (.ref c) = some (decide (5 = j))
  exce : ∃ c, mg "NoException" = some (.ref c) ∧ PySem.W.kitOne K (.ref CU) (.ref c) = some (decide (6 = j))
  othe : ∃ c, mg "OtherLetters" = some (.ref c) ∧ PySem.W.kitOne K (.ref CU) (.ref c) = some (decide (7 = j))
  samp : ∃ c, mg "BadSamples" = some (.ref c) ∧ PySem.W.kitOne K (.ref CU) (.ref c) = some (decide (8 = j))
  deed : ∃ c, mg "BadDeed" = some (.ref c) ∧ PySem.W.kitOne K (.ref CU) (.ref c) = some (decide (9 = j))
  halt : ∃ c, mg "Halted" = some (.ref c) ∧ PySem.W.kitOne K (.ref CU) (.ref c) = some (decide (10 = j))
  text : ∃ c, mg "BadText" = some (.ref c) ∧ PySem.W.kitOne K (.ref CU) (.ref c) = some (decide (11 = j))
  val : mg "ValueError" = none
  kv : PySem.W.kitOne K (.ref CU) (.type "ValueError") = some true
  exc : ExcC K CU
  xf : XfC K CU
  noP : PySem.W.findIn K (.ref CU) "place" = some none
  noN : PySem.W.findIn K (.ref CU) "number" = some none
/-- the name of the j-th -/
def nmJ (j : Nat) : Str := (["book", "word", "sounds", "count", "unsaid", "letter", "exception", "others", "samples", "deed", "halted", "text"] : List Str).getD j ""
def plainJ (j : Nat) : Bool := decide (j = 1) || (decide (j = 2) || (decide (j = 3) || (decide (j = 5) || (decide (j = 6) || decide (j = 7)))))
def toldJ (j : Nat) : Bool := decide (j = 4) || plainJ j
def bsJ (j : Nat) : List V := [.bl (decide (0 = j)), .bl (decide (1 = j)), .bl (decide (2 = j)), .bl (decide (3 = j)), .bl (decide (4 = j)), .bl (decide (5 = j)), .bl (decide (6 = j)), .bl (decide (7 = j)), .bl (decide (8 = j)), .bl (decide (9 = j)), .bl (decide (10 = j)), .bl (decide (11 = j))]
theorem plain_cases {j : Nat} (h : plainJ j = true) : j = 1 ∨ j = 2 ∨ j = 3 ∨ j = 5 ∨ j = 6 ∨ j = 7 := by
  unfold plainJ at h
  simpa using h
theorem told_cases {j : Nat} (h : toldJ j = true) : j = 4 ∨ j = 1 ∨ j = 2 ∨ j = 3 ∨ j = 5 ∨ j = 6 ∨ j = 7 := by
  unfold toldJ plainJ at h
  simpa using h
theorem told_facts {j : Nat} (h : toldJ j = true) : (bsJ j).all flatV = true ∧ ((bsJ j).countP fun z => eqV z (.bl true)) = 1 ∧ (bsJ j)[j]? = some (.bl true) ∧ (∀ (m : Nat) (z : V), m < j → (bsJ j)[m]? = some z → eqV z (.bl true) = false) ∧
    atI ([.str "book", .str "word", .str "sounds", .str "count", .str "unsaid", .str "letter", .str "exception", .str "others", .str "samples", .str "deed"] ++ [.str "halted", .str "text"] : List V) (j : Nat) = some (.str (nmJ j)) ∧ nmJ j ≠ "book" ∧ nmJ j ≠ "halted" := by
  have key : ∀ (m : Nat) (z : V), m < j → (bsJ j)[m]? = some z → eqV z (.bl true) = false := fun m z hm hz => by
    rcases told_cases h with rfl | rfl | rfl | rfl | rfl | rfl | rfl
    all_goals
      match m, hm, hz with
      | 0, hm, h => first | exact absurd hm (by decide) | (cases h; rfl)
      | 1, hm, h => first | exact absurd hm (by decide) | (cases h; rfl)
      | 2, hm, h => first | exact absurd hm (by decide) | (cases h; rfl)
      | 3, hm, h => first | exact absurd hm (by decide) | (cases h; rfl)
      | 4, hm, h => first | exact absurd hm (by decide) | (cases h; rfl)
      | 5, hm, h => first | exact absurd hm (by decide) | (cases h; rfl)
      | 6, hm, h => first | exact absurd hm (by decide) | (cases h; rfl)
  rcases told_cases h with rfl | rfl | rfl | rfl | rfl | rfl | rfl
  all_goals exact ⟨rfl, rfl, rfl, key, rfl, by decide +kernel, by decide +kernel⟩
theorem plain_facts {j : Nat} (h : plainJ j = true) : nmJ j ≠ "unsaid" ∧ nmJ j ≠ "text" ∧ nmJ j ≠ "samples" ∧ nmJ j ≠ "deed" := by
  rcases plain_cases h with rfl | rfl | rfl | rfl | rfl | rfl
  all_goals exact ⟨by decide +kernel, by decide +kernel, by decide +kernel, by decide +kernel⟩
/-- a wish that may ask how many slots there are -/
theorem takes_len {X : Cx} {W : WX} {n : Nat} (h : X.N.length = n) (tk : Takes X W) : Takes X (fun cls d σ H => σ.length = n → W cls d σ H) := fun u s' xx => by
  obtain ⟨a, B, sI, pins, σ, H, cls, d, e, I, nb, up, sky, na, os, ag, w⟩ := xx
  exact tk u s' ⟨a, B, sI, pins, σ, H, cls, d, e, I, nb, up, sky, na, os, ag, w (I.len.trans h)⟩
abbrev sLWo : Stmt := topS 61
abbrev nLWo : List Str := ["_law_work", "_law_found", "e", "_law_kinds", "_law_names", "_law_name"]
theorem scLWo : FnScope nLWo ["_law_work"] (defScope sLWo) := ⟨rfl, rfl, rfl, by decide +kernel, rfl, by decide +kernel, by decide +kernel⟩
abbrev suLWo : List Stmt := match defBody sLWo with
  | _ :: .Try _ (.ExceptHandler _ _ b _ :: _) _ _ _ :: _ => b
  | _ => []
section
variable {X : Cx} {g CU : Addr} {cdg : Value} {s : Shared} {H : Hp}
abbrev cxLWo (X : Cx) (g : Addr) (cdg : Value) (s : Shared) (H : Hp) : Cx := (cxOf C8.CX0 X.prog X.w X.K X.mg X.base nLWo "_law_word" (defScope sLWo) g cdg X.A X.stack s H C8.E0).nox
/-- what the caught one is told as -/
def tellsJ (j : Nat) (d : Option Addr) (H : Hp) (xs : List V) : Prop := (j = 4 ∧ ∃ (dd : Addr) (p : Nat), d = some dd ∧ H dd = some (.xd [(("place" : Str), .int p)]) ∧ xs = [.str "unsaid", .int p]) ∨ (plainJ j = true ∧ Held H d ∧ xs = [.str (nmJ j), .non])
theorem word_suite {j : Nat} (B : Bn X.mg) (WC : WordC X.K X.mg CU j) (a : Addr) (oe : Obj) (cls : Value) (d : Option Addr) (pn : List (Addr × Obj)) (hz : Zc cls d oe) (hf : ∃ vs, oe.data = .fields vs) : ∃ t : TS,
    PSs ((cxLWo X g cdg s H).suite a ((a, oe) :: pn)) suLWo t ∧
    ∀ (xs : List V) (D : Ends) (σ : L2.St) (H1 : Hp), cls = .ref CU → σ.length = 6 → H1 a = none → tellsJ j d H1 xs → (∀ (t : Addr) (H2 : Hp), Same H1 H2 → H2 t = some (.tup xs) → D.rt (.ref t) H2) →
      t D (σ.set 2 (some (.ref a))) H1 := by
  obtain ⟨c1, m1, k1⟩ := WC.book
  obtain ⟨c2, m2, k2⟩ := WC.word
  obtain ⟨c3, m3, k3⟩ := WC.snds
  obtain ⟨c4, m4, k4⟩ := WC.coun
  obtain ⟨c5, m5, k5⟩ := WC.uns
  obtain ⟨c6, m6, k6⟩ := WC.lett
  obtain ⟨c7, m7, k7⟩ := WC.exce
  obtain ⟨c8, m8, k8⟩ := WC.othe
  obtain ⟨c9, m9, k9⟩ := WC.samp
  obtain ⟨c10, m10, k10⟩ := WC.deed
  obtain ⟨c11, m11, k11⟩ := WC.halt
  obtain ⟨c12, m12, k12⟩ := WC.text
  have EC := WC.exc
  have XF := WC.xf
  have isE : CallR ((cxLWo X g cdg s H).suite a ((a, oe) :: pn)) (.builtin "isinstance") (rIsEA X.K CU a cls d) := call_isEA (X := cxLWo X g cdg s H) EC hz hf
  refine ⟨_, pss_cons (ps_set (i := 3) scLWo.nd rfl (.inl rfl) (pe_lst (pa_cons (pe_callB isE (by rfl) B.isi (by decide +kernel) (pa_cons (pv 2) (pa_cons (pe_glob (v := .ref c1) (by rfl) m1 rfl) pa_nil))) (pa_cons (pe_callB isE (by rfl) B.isi (by decide +kernel) (pa_cons (pv 2) (pa_cons (pe_glob (v := .ref c2) (by rfl) m2 rfl) pa_nil)))
        (pa_cons (pe_callB isE (by rfl) B.isi (by decide +kernel) (pa_cons (pv 2) (pa_cons (pe_glob (v := .ref c3) (by rfl) m3 rfl) pa_nil))) (pa_cons (pe_callB isE (by rfl) B.isi (by decide +kernel) (pa_cons (pv 2) (pa_cons (pe_glob (v := .ref c4) (by rfl) m4 rfl) pa_nil))) pa_nil))))))
      (pss_cons (ps_set (i := 3) scLWo.nd rfl (.inl rfl) (pe_op op_cat (pv 3) (pe_lst (pa_cons (pe_callB isE (by rfl) B.isi (by decide +kernel) (pa_cons (pv 2) (pa_cons (pe_glob (v := .ref c5) (by rfl) m5 rfl) pa_nil))) (pa_cons (pe_callB isE (by rfl) B.isi (by decide +kernel) (pa_cons (pv 2) (pa_cons (pe_glob (v := .ref c6) (by rfl) m6 rfl) pa_nil)))
        (pa_cons (pe_callB isE (by rfl) B.isi (by decide +kernel) (pa_cons (pv 2) (pa_cons (pe_glob (v := .ref c7) (by rfl) m7 rfl) pa_nil))) pa_nil))))))
      (pss_cons (ps_set (i := 3) scLWo.nd rfl (.inl rfl) (pe_op op_cat (pv 3) (pe_lst (pa_cons (pe_callB isE (by rfl) B.isi (by decide +kernel) (pa_cons (pv 2) (pa_cons (pe_glob (v := .ref c8) (by rfl) m8 rfl) pa_nil))) (pa_cons (pe_callB isE (by rfl) B.isi (by decide +kernel) (pa_cons (pv 2) (pa_cons (pe_glob (v := .ref c9) (by rfl) m9 rfl) pa_nil)))
        (pa_cons (pe_callB isE (by rfl) B.isi (by decide +kernel) (pa_cons (pv 2) (pa_cons (pe_glob (v := .ref c10) (by rfl) m10 rfl) pa_nil))) pa_nil))))))
      (pss_cons (ps_set (i := 3) scLWo.nd rfl (.inl rfl) (pe_op op_cat (pv 3) (pe_lst (pa_cons (pe_callB isE (by rfl) B.isi (by decide +kernel) (pa_cons (pv 2) (pa_cons (pe_glob (v := .ref c11) (by rfl) m11 rfl) pa_nil))) (pa_cons (pe_callB isE (by rfl) B.isi (by decide +kernel) (pa_cons (pv 2) (pa_cons (pe_glob (v := .ref c12) (by rfl) m12 rfl) pa_nil))) pa_nil)))))
      (pss_cons (ps_set (i := 4) scLWo.nd rfl (.inl rfl) (pe_lst (pa_cons pe_str (pa_cons pe_str (pa_cons pe_str (pa_cons pe_str (pa_cons pe_str (pa_cons pe_str (pa_cons pe_str (pa_cons pe_str (pa_cons pe_str (pa_cons pe_str pa_nil))))))))))))
      (pss_cons (ps_if (PW.pt (pw_or (pt_cmpR op_ne (pe_bm PySem.F.plainAttrs_list PySem.F.slot_list_count PySem.F.type_list_count mt_countV (pv 3) (pa_cons pe_bl pa_nil)) pe_int (nomark _)) (pw_or1 (pt_not (pt_val (pe_callB isE (by rfl) B.isi (by decide +kernel) (pa_cons (pv 2) (pa_cons (pe_bltn (v := .ty "ValueError") (by rfl) WC.val (by decide +kernel) rfl) pa_nil)))))))) (pss_one ps_never) pss_nil)
      (pss_cons (ps_set (i := 5) scLWo.nd rfl (.inl rfl) (pe_ix ix_list (pe_op op_cat (pv 4) (pe_lst (pa_cons pe_str (pa_cons pe_str pa_nil)))) (pe_bm PySem.F.plainAttrs_list PySem.F.slot_list_index PySem.F.type_list_index mt_index (pv 3) (pa_cons pe_bl pa_nil)) (fun _ _ => rfl)))
      (pss_cons (ps_if (pt_cmpR op_eq (pv 5) pe_str (nomark _)) (pss_one ps_never) pss_nil)
      (pss_cons (ps_if (pt_cmpR op_eq (pv 5) pe_str (nomark _)) (pss_one ps_never) pss_nil)
      (pss_cons (ps_if (pt_cmpR op_eq (pv 5) pe_str (nomark _)) (pss_one (ps_ret (pe_tup (pa_cons (pv 5) (pa_cons (pe_xf XF WC.noP hz hf (pv 2)) pa_nil))))) pss_nil)
      (pss_cons (ps_if (pt_cmpR op_eq (pv 5) pe_str (nomark _)) (pss_one ps_never) pss_nil)
      (pss_one (ps_ret (pe_ifExp (pt_cmpR op_in_seq (pv 5) (pe_tup (pa_cons pe_str (pa_cons pe_str pa_nil))) rfl) (pe_tup (pa_cons (pv 5) (pa_cons (pe_xf XF WC.noN hz hf (pv 2)) pa_nil))) (pe_tup (pa_cons (pv 5) (pa_cons pe_non pa_nil)))))))))))))))), ?_⟩
  intro xs D σ H1 ec hl ha hT q
  obtain ⟨x0, x1, x2, x3, x4, x5, rfl⟩ : ∃ x0 x1 x2 x3 x4 x5, σ = [x0, x1, x2, x3, x4, x5] := by
    rcases σ with _ | ⟨x0, _ | ⟨x1, _ | ⟨x2, _ | ⟨x3, _ | ⟨x4, _ | ⟨x5, _ | ⟨x6, r⟩⟩⟩⟩⟩⟩⟩ <;> simp at hl
    exact ⟨_, _, _, _, _, _, rfl⟩
  show tSeq _ _ _ [x0, x1, some (.ref a), x3, x4, x5] H1
  have fr : ∀ {Hx Hy : Hp} {x y : Addr} {o u : HO}, Hy = upd Hx x o → Hx x = none → Hx y = some u → Hy y = some u := fun e n h => by
    rw [e, upd_ne (ne_of_none h n)]
    exact h
  have hj : toldJ j = true := by
    rcases hT with ⟨e, _⟩ | ⟨e, _⟩
    · rw [e]; rfl
    · unfold toldJ; rw [e, Bool.or_true]
  have hH : Held H1 d := by
    rcases hT with ⟨_, dd, p, e1, e2, _⟩ | ⟨_, e, _⟩
    · exact .inr ⟨dd, _, e1, e2⟩
    · exact e
  obtain ⟨fall, fcnt, fat, fno, fnm, fb, fh⟩ := told_facts hj
  refine ⟨_, rfl, _, _, _, rfl, .own _, ec, hH, k1, _, rfl, _, _, _, rfl, .own _, ec, hH, k2, _, rfl, _, _, _, rfl, .own _, ec, hH, k3, _, rfl, _, _, _, rfl, .own _, ec, hH, k4, ?_⟩
  refine ⟨(by show 4 ≤ sizeLine; decide), fun p1 n1 => ?_⟩
  obtain ⟨H2, e2⟩ : ∃ H2, H2 = upd H1 p1 (.lst [.bl (decide (0 = j)), .bl (decide (1 = j)), .bl (decide (2 = j)), .bl (decide (3 = j))]) := ⟨_, rfl⟩
  have g2 : H2 p1 = some (.lst [.bl (decide (0 = j)), .bl (decide (1 = j)), .bl (decide (2 = j)), .bl (decide (3 = j))]) := by rw [e2]; exact upd_same
  have S2 : Same H1 H2 := by rw [e2]; exact same_new n1 _
  have h2 := hH.same S2
  rw [← e2]
  clear e2
  refine ⟨_, rfl, _, rfl, _, _, _, rfl, .own _, ec, h2, k5, _, rfl, _, _, _, rfl, .own _, ec, h2, k6, _, rfl, _, _, _, rfl, .own _, ec, h2, k7, ?_⟩
  refine ⟨(by show 3 ≤ sizeLine; decide), fun p2 np2 => ?_⟩
  refine ⟨_, _, _, _, rfl, rfl, fr rfl np2 g2, upd_same, (by show 4 + 3 ≤ sizeLine; decide), fun p3 np3 => ?_⟩
  obtain ⟨H3, e3⟩ : ∃ H3, H3 = upd (upd H2 p2 (.lst [.bl (decide (4 = j)), .bl (decide (5 = j)), .bl (decide (6 = j))])) p3 (.lst ([.bl (decide (0 = j)), .bl (decide (1 = j)), .bl (decide (2 = j)), .bl (decide (3 = j))] ++ [.bl (decide (4 = j)), .bl (decide (5 = j)), .bl (decide (6 = j))])) := ⟨_, rfl⟩
  have g3 : H3 p3 = some (.lst [.bl (decide (0 = j)), .bl (decide (1 = j)), .bl (decide (2 = j)), .bl (decide (3 = j)), .bl (decide (4 = j)), .bl (decide (5 = j)), .bl (decide (6 = j))]) := by rw [e3]; exact upd_same
  have S3 : Same H1 H3 := by rw [e3]; exact (S2.trans (same_new np2 _)).trans (same_new np3 _)
  have h3 := hH.same S3
  rw [← e3]
  clear e3
  refine ⟨_, rfl, _, rfl, _, _, _, rfl, .own _, ec, h3, k8, _, rfl, _, _, _, rfl, .own _, ec, h3, k9, _, rfl, _, _, _, rfl, .own _, ec, h3, k10, ?_⟩
  refine ⟨(by show 3 ≤ sizeLine; decide), fun p4 np4 => ?_⟩
  refine ⟨_, _, _, _, rfl, rfl, fr rfl np4 g3, upd_same, (by show 7 + 3 ≤ sizeLine; decide), fun p5 np5 => ?_⟩
  obtain ⟨H4, e4⟩ : ∃ H4, H4 = upd (upd H3 p4 (.lst [.bl (decide (7 = j)), .bl (decide (8 = j)), .bl (decide (9 = j))])) p5 (.lst ([.bl (decide (0 = j)), .bl (decide (1 = j)), .bl (decide (2 = j)), .bl (decide (3 = j)), .bl (decide (4 = j)), .bl (decide (5 = j)), .bl (decide (6 = j))] ++ [.bl (decide (7 = j)), .bl (decide (8 = j)), .bl (decide (9 = j))])) := ⟨_, rfl⟩
  have g4 : H4 p5 = some (.lst [.bl (decide (0 = j)), .bl (decide (1 = j)), .bl (decide (2 = j)), .bl (decide (3 = j)), .bl (decide (4 = j)), .bl (decide (5 = j)), .bl (decide (6 = j)), .bl (decide (7 = j)), .bl (decide (8 = j)), .bl (decide (9 = j))]) := by rw [e4]; exact upd_same
  have S4 : Same H1 H4 := by rw [e4]; exact (S3.trans (same_new np4 _)).trans (same_new np5 _)
  have h4 := hH.same S4
  rw [← e4]
  clear e4
  refine ⟨_, rfl, _, rfl, _, _, _, rfl, .own _, ec, h4, k11, _, rfl, _, _, _, rfl, .own _, ec, h4, k12, ?_⟩
  refine ⟨(by show 2 ≤ sizeLine; decide), fun p6 np6 => ?_⟩
  refine ⟨_, _, _, _, rfl, rfl, fr rfl np6 g4, upd_same, (by show 10 + 2 ≤ sizeLine; decide), fun p7 np7 => ?_⟩
  obtain ⟨H5, e5⟩ : ∃ H5, H5 = upd (upd H4 p6 (.lst [.bl (decide (10 = j)), .bl (decide (11 = j))])) p7 (.lst ([.bl (decide (0 = j)), .bl (decide (1 = j)), .bl (decide (2 = j)), .bl (decide (3 = j)), .bl (decide (4 = j)), .bl (decide (5 = j)), .bl (decide (6 = j)), .bl (decide (7 = j)), .bl (decide (8 = j)), .bl (decide (9 = j))] ++ [.bl (decide (10 = j)), .bl (decide (11 = j))])) := ⟨_, rfl⟩
  have g5 : H5 p7 = some (.lst (bsJ j)) := by rw [e5]; exact upd_same
  have S5 : Same H1 H5 := by rw [e5]; exact (S4.trans (same_new np6 _)).trans (same_new np7 _)
  have h5 := hH.same S5
  rw [← e5]
  clear e5
  refine ⟨(by show 10 ≤ sizeLine; decide), fun p8 n8 => ?_⟩
  obtain ⟨H6, e6⟩ : ∃ H6, H6 = upd H5 p8 (.lst [.str "book", .str "word", .str "sounds", .str "count", .str "unsaid", .str "letter", .str "exception", .str "others", .str "samples", .str "deed"]) := ⟨_, rfl⟩
  have g6 : H6 p8 = some (.lst [.str "book", .str "word", .str "sounds", .str "count", .str "unsaid", .str "letter", .str "exception", .str "others", .str "samples", .str "deed"]) := by rw [e6]; exact upd_same
  have S6 : Same H1 H6 := by rw [e6]; exact S5.trans (same_new n8 _)
  have g6' := fr e6 n8 g5
  have h6 := hH.same S6
  rw [← e6]
  clear e6
  refine ⟨_, rfl, .inl ⟨rfl, _, .inl (.inl g6')⟩, p7, bsJ j, _, rfl, rfl, .inl (.inl g6'), rfl, fall, ?_⟩
  rw [fcnt]
  refine ⟨rfl, _, rfl, iteF ?_⟩
  refine ⟨_, rfl, _, _, _, rfl, .ty _, ec, h6, WC.kv, true, rfl, iteF ?_⟩
  refine ⟨_, rfl, (by show 2 ≤ sizeLine; decide), fun p9 n9 => ?_⟩
  refine ⟨_, _, _, _, rfl, rfl, fr rfl n9 g6, upd_same, (by show 10 + 2 ≤ sizeLine; decide), fun p10 n10 => ?_⟩
  have S69 := (same_new n9 (.lst [.str "halted", .str "text"])).trans (same_new n10 (.lst ([.str "book", .str "word", .str "sounds", .str "count", .str "unsaid", .str "letter", .str "exception", .str "others", .str "samples", .str "deed"] ++ [.str "halted", .str "text"])))
  have S9 := S6.trans S69
  have g9 := S69 _ _ g6'
  refine ⟨_, rfl, .inl ⟨rfl, _, .inl (.inl g9)⟩, p7, bsJ j, _, j, .bl true, rfl, rfl, .inl (.inl g9), rfl, fall, fat, rfl, fno, ?_⟩
  refine ⟨p10, _, _, .str (nmJ j), rfl, rfl, .inl (.inl upd_same), fnm, ?_⟩
  have ne : ∀ {z : Str}, nmJ j ≠ z → decide (V.str (nmJ j) = V.str z) = false := fun h => decide_eq_false fun e => h (V.str.inj e)
  refine ⟨_, rfl, rfl, _, rfl, ?_⟩
  rw [ne fb]
  refine iteF ?_
  refine ⟨_, rfl, rfl, _, rfl, ?_⟩
  rw [ne fh]
  refine iteF ?_
  rcases hT with ⟨rfl, dd, p, e1, e2, rfl⟩ | ⟨hp, hHd, rfl⟩
  · refine ⟨_, rfl, rfl, _, rfl, iteT ?_⟩
    have h9 := S9 _ _ e2
    refine ⟨_, rfl, _, rfl, rfl, ec, dd, _, _, e1, h9, by rfl, ?_⟩
    refine ⟨(by show 2 ≤ sizeLine; decide), fun t nt => ?_⟩
    exact q t _ (S9.trans (same_new nt _)) upd_same
  · obtain ⟨f1, f2, f3, f4⟩ := plain_facts hp
    refine ⟨_, rfl, rfl, _, rfl, ?_⟩
    rw [ne f1]
    refine iteF ?_
    refine ⟨_, rfl, rfl, _, rfl, ?_⟩
    rw [ne f2]
    refine iteF ?_
    refine ⟨_, rfl, (by show 2 ≤ sizeLine; decide), fun p11 n11 => ?_⟩
    have S11 := S9.trans (same_new n11 (.tup [.str "samples", .str "deed"]))
    refine ⟨p11, _, rfl, .inr (.inl (.inl upd_same)), rfl, by rfl, _, rfl, ?_⟩
    have hin : inV (V.str (nmJ j)) [.str "samples", .str "deed"] = false := by
      unfold inV
      simp only [List.any_cons, List.any_nil, Bool.or_false, eqV]
      rw [beq_eq_false_iff_ne.mpr (Ne.symm f3), beq_eq_false_iff_ne.mpr (Ne.symm f4)]
      rfl
    simp only [hin, Bool.false_eq_true, if_false]
    refine ⟨_, rfl, (by show 2 ≤ sizeLine; decide), fun t nt => ?_⟩
    exact q t _ (S11.trans (same_new nt _)) upd_same
/-- how it was refused, told -/
def echW (K : PySem.W.Frag) (mg : Str → Option Value) (Q : VK) : XK := fun cls d H' => ∃ (CU : Addr) (j : Nat) (xs : List V), WordC K mg CU j ∧ cls = .ref CU ∧ tellsJ j d H' xs ∧ ∀ (t : Addr) (H2 : Hp), Same H' H2 → H2 t = some (.tup xs) → Q (.ref t) H2
/-- _law_word: ("", what is told), or how it was refused -/
def TTw (K : PySem.W.Frag) (mg : Str → Option Value) : (XK → Hp → VK → Prop) → Hp → VK → Prop := fun tl H Q => ∀ D, H D = none → ∀ post : VK,
  (∀ v H', H' D = some (.lst []) → (∀ (t : Addr) (H2 : Hp), Stp D H' H2 → H2 t = some (.tup [.str "", v]) → Q (.ref t) H2) → post v H') → tl (echW K mg Q) (upd H D (.lst [])) post
theorem word_gives {q : Str} (B : Bn X.mg) {cS : Addr} (mS : X.mg "SayError" = some (.ref cS)) : LamX.GivesTo X nLWo "_law_word" (defScope sLWo) g cdg (defBody sLWo) "_law_work" q (TTw X.K X.mg) := by
  intro f c' s H Q tl act hc h
  refine ⟨_, pss_cons (ps_set (i := 1) scLWo.nd rfl (.inl rfl) (pe_lst pa_nil))
    (pss_cons (ps_try_as (X := cxLWo X g cdg s H) (i := 2) (c := .ref cS) (Wout := fun _ _ _ _ => False)
        (tb := fun W D σ H => ∃ Ech : XK, (∀ cls d σ' H', Ech cls d H' → σ'.length = 6 → W cls d σ' H') ∧ tDrop (tBM X.K "list" rAppend (tVar 1) (tCons (fun σZ HZ Q => σZ[0]? = some (some (.ref f)) ∧ HZ c' = some (LamX.CodeO c' q) ∧ tl Ech HZ Q) tNil)) D σ H)
        (ts := fun a' cls d D σ H1 => ∀ oe pn, Zc cls d oe → (∃ vs, oe.data = .fields vs) → ∃ t : TS, PSs ((cxLWo X g cdg s H).suite a' ((a', oe) :: pn)) suLWo t ∧ t D σ H1)
        rfl rfl scLWo.nd rfl rfl ⟨by rfl, by decide, .inl mS⟩ LamX.takes0
        (fun W pn xe tk _ => ?_)
        (fun a oe cls d pn hz hf => ?_))
    (pss_one (ps_ret (pe_tup (pa_cons pe_str (pa_cons (pe_ix ix_list (pv 1) pe_int (fun _ _ => rfl)) pa_nil)))))), ?_⟩
  · refine ⟨fun pins s' σ H' D I h' => ?_⟩
    obtain ⟨Ech, hW, h1⟩ := h'
    have tk6 : Takes ((cxLWo X g cdg s H).tr pn xe) (fun cls d σ H => σ.length = 6 → W cls d σ H) := takes_len rfl tk
    exact (pss_one (ps_expr (pe_bm PySem.F.plainAttrs_list PySem.F.slot_list_append PySem.F.type_list_append mt_append (pv 1) (pa_cons (act (fun cls d σ H => σ.length = 6 → W cls d σ H) pn xe Ech _ _ tk6 hW) pa_nil)))).run pins s' σ H' D I h1
  · refine ⟨fun pins s' σ H' D I h' => ?_⟩
    obtain ⟨t, ht, q1⟩ := h' oe pn hz hf
    exact ht.run pins s' σ H' D I q1
  · refine ⟨(by show 0 ≤ sizeLine; decide), fun D hD => ?_⟩
    refine ⟨echW X.K X.mg Q, fun cls d σ' H' he hl => ?_, _, rfl, .inl ⟨rfl, _, .inl (.inl upd_same)⟩, rfl, by rw [upd_ne (ne_of_none hc hD)]; exact hc, h D hD _ fun v H' hv k => ?_⟩
    · obtain ⟨CU, j, xs, WC, rfl, hT, k⟩ := he
      obtain ⟨c2, e2, xS⟩ := WC.say
      rw [mS] at e2
      cases e2
      refine ⟨true, xS, fun _ a ha oe pn hz hf => ?_, fun z => Bool.noConfusion z⟩
      obtain ⟨t, ht, q1⟩ := word_suite (g := g) (cdg := cdg) (s := s) (H := H) B WC a oe _ _ pn hz hf
      exact ⟨t, ht, q1 xs _ σ' H' rfl hl ha hT k⟩
    · refine ⟨D, _, _, rfl, rfl, hv, (by show 0 < sizeLine; decide), ?_⟩
      refine ⟨_, rfl, D, _, _, v, rfl, rfl, .inl (.inl upd_same), rfl, ?_⟩
      refine ⟨(by show 2 ≤ sizeLine; decide), fun t nt => ?_⟩
      exact k t _ ((stp_at _).trans (.of (same_new nt _))) upd_same
end
end Say
namespace Say
open PySem PySem.Spec PyProof.Rows L2
/-! ### what a lambda's making leaves -/
theorem KT.extN {H H' : Hp} (e : LamX.ExtN H H') : KT H H' := KT.by fun t u h hu => e t _ h (fun ps z => by rcases hu with ⟨_, rfl⟩ | ⟨_, _, rfl⟩ <;> cases z)
theorem RowAt.extN {K : PySem.W.Frag} {H H' : Hp} {r a : Addr} {ns : List Int} (R : RowAt K H r a ns) (e : LamX.ExtN H H') : RowAt K H' r a ns := by
  obtain ⟨⟨i, c, m, q, b⟩, sc, le⟩ := R
  refine ⟨⟨i, c, m, e _ _ q (fun ps z => by cases z), b⟩, ?_, le⟩
  rcases sc with (sc | ⟨o, sc⟩) | sc
  · exact .inl (.inl (e _ _ sc (fun ps z => by cases z)))
  · exact .inl (.inr ⟨o, e _ _ sc (fun ps z => by cases z)⟩)
  · exact .inr sc
theorem tabs_stp {Tt : List (Addr × Str)} {H H' : Hp} {r a : Addr} (t : LamX.Tabs Tt H) (w : RowIn H r a) (e : Stp r H H') : LamX.Tabs Tt H' := fun p hp => by
  obtain ⟨i, c, m, q, _⟩ := w
  obtain ⟨ps, h1, h2, h3⟩ := t p hp
  refine ⟨ps, e _ _ h1 (ne_of h1 q (by intro z; cases z)), h2, fun pos cv hc => ?_⟩
  obtain ⟨c', e1, e2⟩ := h3 pos cv hc
  exact ⟨c', e1, e _ _ e2 (ne_of e2 q (by intro z; unfold LamX.CodeO at z; cases z))⟩
theorem same_fresh {H H' : Hp} {D : Addr} {o : HO} (e : Same H H') (h : H D = none) : Same H (upd H' D o) := fun b u q => by
  rw [upd_ne (ne_of_none q h)]
  exact e b u q
theorem same_stp {H H' H2 : Hp} {D : Addr} (e : Same H H') (h : H D = none) (s : Stp D H' H2) : Same H H2 := fun b u q => s b u (e b u q) (ne_of_none q h)
end Say
namespace Say
open PySem PySem.Spec PyProof.Rows L2
/-- S is not where the script stands -/
def Off (K : PySem.W.Frag) (a S : Addr) (ns : List Int) : Prop := (∀ H : Hp, SqL K H a (ns.map V.int)) ∨ a ≠ S
theorem RowAt.off {K : PySem.W.Frag} {H : Hp} {r a S : Addr} {ns : List Int} (R : RowAt K H r a ns) (h : H S = none) : Off K a S ns := by
  obtain ⟨_, sc, _⟩ := R
  rcases sc with (sc | ⟨o, sc⟩) | sc
  · exact .inr (ne_of_none sc h)
  · exact .inr (ne_of_none sc h)
  · exact .inl fun H' => .inr sc
theorem RowAt.updS {K : PySem.W.Frag} {H : Hp} {r a S : Addr} {ns : List Int} {o : HO} (R : RowAt K H r a ns) (n : r ≠ S) (of : Off K a S ns) : RowAt K (upd H S o) r a ns := by
  obtain ⟨⟨i', c', m', q', b'⟩, sc, le⟩ := R
  refine ⟨⟨i', c', m', by rw [upd_ne n]; exact q', b'⟩, ?_, le⟩
  rcases of with of | of
  · exact of _
  · rcases sc with (sc | ⟨o, sc⟩) | sc
    · exact .inl (.inl (by rw [upd_ne of]; exact sc))
    · exact .inl (.inr ⟨o, by rw [upd_ne of]; exact sc⟩)
    · exact .inr sc
end Say
namespace Say
open PySem PySem.Spec PyProof.Rows L2
theorem SyAt.extN {C : Addr} {H H' : Hp} {y pa : Addr} {L : List Nat} {R : Addr} {rs : List Rule} {wd tl : List Nat} {ps : List (List Nat × Nat)} (h : SyAt C H y pa L R rs wd tl ps) (e : LamX.ExtN H H') : SyAt C H' y pa L R rs wd tl ps := by
  obtain ⟨⟨dx, h1⟩, hR, ts, h2, h3⟩ := h
  exact ⟨⟨dx, e _ _ h1 (fun ps z => by cases z)⟩, hR.kt (.extN e), ts, e _ _ h2 (fun ps z => by cases z), paired_mono (fun t p q => (KT.extN e).1 _ _ q) h3⟩
theorem SyAt.stpD {C D : Addr} {H H' : Hp} {y pa : Addr} {L : List Nat} {R : Addr} {rs : List Rule} {wd tl : List Nat} {ps : List (List Nat × Nat)} {l : List V} (h : SyAt C H y pa L R rs wd tl ps) (hD : H D = some (.lst l)) (n : pa ≠ D) (e : Stp D H H') : SyAt C H' y pa L R rs wd tl ps := by
  obtain ⟨⟨dx, h1⟩, hR, ts, h2, h3⟩ := h
  have k : KT H H' := KT.by fun t u q hu => e _ _ q (ne_of q hD (by rcases hu with ⟨_, rfl⟩ | ⟨_, _, rfl⟩ <;> (intro z; cases z)))
  exact ⟨⟨dx, e _ _ h1 (ne_of h1 hD (by intro z; cases z))⟩, hR.kt k, ts, e _ _ h2 n, paired_mono (fun t p q => k.1 _ _ q) h3⟩
/-- the row stays where a machine moves -/
theorem RowAt.kp {K : PySem.W.Frag} {H H' : Hp} {r a y pa : Addr} {ns : List Int} {C dx : Addr} {fs : List (Str × V)} (R : RowAt K H r a ns) (hy : H y = some (.ins C dx fs)) (n : r ≠ pa) (of : (∀ H : Hp, SqL K H a (ns.map V.int)) ∨ a ≠ pa) (e : Kp y pa H H') : RowAt K H' r a ns := by
  obtain ⟨⟨i', c', m', q', b'⟩, sc, le⟩ := R
  refine ⟨⟨i', c', m', e _ _ q' (ne_of q' hy (by intro z; cases z)) n, b'⟩, ?_, le⟩
  rcases of with of | of
  · exact of _
  · rcases sc with (sc | ⟨o, sc⟩) | sc
    · exact .inl (.inl (e _ _ sc (ne_of sc hy (by intro z; cases z)) of))
    · exact .inl (.inr ⟨o, e _ _ sc (ne_of sc hy (by intro z; cases z)) of⟩)
    · exact .inr sc
theorem tabs_kp {Tt : List (Addr × Str)} {H H' : Hp} {y pa C dx : Addr} {fs : List (Str × V)} {l : List V} (t : LamX.Tabs Tt H) (hy : H y = some (.ins C dx fs)) (hp : H pa = some (.lst l)) (e : Kp y pa H H') : LamX.Tabs Tt H' := fun p hp' => by
  obtain ⟨ps, h1, h2, h3⟩ := t p hp'
  refine ⟨ps, e _ _ h1 (ne_of h1 hy (by intro z; cases z)) (ne_of h1 hp (by intro z; cases z)), h2, fun pos cv hc => ?_⟩
  obtain ⟨c', e1, e2⟩ := h3 pos cv hc
  exact ⟨c', e1, e _ _ e2 (ne_of e2 hy (by intro z; unfold LamX.CodeO at z; cases z)) (ne_of e2 hp (by intro z; unfold LamX.CodeO at z; cases z))⟩
section
variable {K : PySem.W.Frag} {mg : Str → Option Value} {C CW CU CN y pa : Addr} {L : List Nat} {R : Addr} {rs : List Rule} {wd tl : List Nat} {ps : List (List Nat × Nat)} {c i j : Nat} {H7 : Hp} {Q : VK} {σ : L2.St}
/-- feed, told by _law_word -/
theorem feed_told (WU : WordC K mg CU 4) (WW : WordC K mg CW 1) (h6 : σ[i]? = some (some (.ref y))) (h9 : σ[j]? = some (some (.str (T [c])))) (hS : SyAt C H7 y pa L R rs wd tl ps) (ho : ∀ ρ ∈ rs, RlOk ρ) (hc : c ∈ L) (h12 : wd.length ≤ 12)
    (t1 : 1 ≤ tl.length) (t3 : tl.length ≤ 3) (tw : tl.length ≤ wd.length + 1) (hps : ps.length = wd.length)
    (qW : wd.length = 12 → ∀ (t : Addr) (H8 : Hp), Same H7 H8 → H8 t = some (.tup [.str "word", .non]) → Q (.ref t) H8)
    (qT : wd.length < 12 → ∀ tl', (tkM rs (some tl) c).1 = some tl' → ∀ (t : Addr) (H8 : Hp), Kp y pa H7 H8 → SyAt C H8 y pa L R rs (wd ++ [c]) tl' (ps ++ [(tl, (soL rs (tkM rs (some tl) c).2).length)]) →
      H8 t = some (.tup [.str (T []), .str (T (soL rs (tkM rs (some tl) c).2))]) → Q (.ref t) H8)
    (qN : wd.length < 12 → (tkM rs (some tl) c).1 = none → ∀ (t : Addr) (H8 : Hp), Same H7 H8 → H8 t = some (.tup [.str "unsaid", .int ((wd.length + 1 - tl.length : Nat) : Int)]) → Q (.ref t) H8) :
    TTw K mg (fun E H' Q' => tMeth C "feed" (spFeed C CW CU) [] E (tVar i) (tCons (tVar j) tNil) σ H' Q') H7 Q := by
  intro D hD post hpost
  have sD := same_new hD (.lst [])
  have hS' := hS.same sD
  obtain ⟨⟨dx, hy⟩, hR, ts, hpa, hpp⟩ := id hS
  have nD : pa ≠ D := ne_of_none hpa hD
  have nyD : y ≠ D := ne_of_none hy hD
  refine ⟨_, h6, y, dx, _, rfl, sD _ _ hy, rfl, _, h9, y, pa, L, R, rs, wd, tl, ps, c, rfl, hS', ho, hc, h12, t1, t3, tw, hps, fun e H' s' => ?_, fun e => ⟨fun tl' e' H' k' hS8 => ?_, fun e' d H' s' hd hH => ?_⟩⟩
  · exact ⟨CW, 1, _, WW, rfl, .inr ⟨rfl, .inl rfl, rfl⟩, fun t H8 s8 ht => qW e t H8 (sD.trans (s'.trans s8)) ht⟩
  · have hD' : H' D = some (.lst []) := k' _ _ upd_same nyD.symm nD.symm
    refine hpost _ _ hD' fun t H8 s8 ht => qT e tl' e' t H8 (fun b o hb n1 n2 => ?_) (hS8.stpD hD' nD s8) ?_
    · exact s8 _ _ (k' _ _ (sD _ _ hb) n1 n2) (ne_of_none hb hD)
    · rw [← nil_eq]; exact ht
  · exact ⟨CU, 4, _, WU, rfl, .inl ⟨rfl, d, _, rfl, hH, rfl⟩, fun t H8 s8 ht => qN e e' t H8 (sD.trans (s'.trans s8)) ht⟩
/-- feed, told by _law_word -/
theorem feed_told0 (WU : WordC K mg CU 4) (WW : WordC K mg CW 1) (h6 : σ[i]? = some (some (.ref y))) (h9 : σ[j]? = some (some (.str (T L)))) (hzL : (T L).length ≤ sizeLine) (hc0 : L[0]? = some c) (hS : SyAt C H7 y pa L R rs wd tl ps) (ho : ∀ ρ ∈ rs, RlOk ρ) (hc : c ∈ L) (h12 : wd.length ≤ 12)
    (t1 : 1 ≤ tl.length) (t3 : tl.length ≤ 3) (tw : tl.length ≤ wd.length + 1) (hps : ps.length = wd.length)
    (qW : wd.length = 12 → ∀ (t : Addr) (H8 : Hp), Same H7 H8 → H8 t = some (.tup [.str "word", .non]) → Q (.ref t) H8)
    (qT : wd.length < 12 → ∀ tl', (tkM rs (some tl) c).1 = some tl' → ∀ (t : Addr) (H8 : Hp), Kp y pa H7 H8 → SyAt C H8 y pa L R rs (wd ++ [c]) tl' (ps ++ [(tl, (soL rs (tkM rs (some tl) c).2).length)]) →
      H8 t = some (.tup [.str (T []), .str (T (soL rs (tkM rs (some tl) c).2))]) → Q (.ref t) H8)
    (qN : wd.length < 12 → (tkM rs (some tl) c).1 = none → ∀ (t : Addr) (H8 : Hp), Same H7 H8 → H8 t = some (.tup [.str "unsaid", .int ((wd.length + 1 - tl.length : Nat) : Int)]) → Q (.ref t) H8) :
    TTw K mg (fun E H' Q' => tMeth C "feed" (spFeed C CW CU) [] E (tVar i) (tCons (tOp rIxS (tVar j) (tC (.int 0))) tNil) σ H' Q') H7 Q := by
  intro D hD post hpost
  have sD := same_new hD (.lst [])
  have hS' := hS.same sD
  obtain ⟨⟨dx, hy⟩, hR, ts, hpa, hpp⟩ := id hS
  have nD : pa ≠ D := ne_of_none hpa hD
  have nyD : y ≠ D := ne_of_none hy hD
  refine ⟨_, h6, y, dx, _, rfl, sD _ _ hy, rfl, _, h9, T L, _, c, rfl, rfl, hzL, atI_nat (j := 0) hc0, y, pa, L, R, rs, wd, tl, ps, c, rfl, hS', ho, hc, h12, t1, t3, tw, hps, fun e H' s' => ?_, fun e => ⟨fun tl' e' H' k' hS8 => ?_, fun e' d H' s' hd hH => ?_⟩⟩
  · exact ⟨CW, 1, _, WW, rfl, .inr ⟨rfl, .inl rfl, rfl⟩, fun t H8 s8 ht => qW e t H8 (sD.trans (s'.trans s8)) ht⟩
  · have hD' : H' D = some (.lst []) := k' _ _ upd_same nyD.symm nD.symm
    refine hpost _ _ hD' fun t H8 s8 ht => qT e tl' e' t H8 (fun b o hb n1 n2 => ?_) (hS8.stpD hD' nD s8) ?_
    · exact s8 _ _ (k' _ _ (sD _ _ hb) n1 n2) (ne_of_none hb hD)
    · rw [← nil_eq]; exact ht
  · exact ⟨CU, 4, _, WU, rfl, .inl ⟨rfl, d, _, rfl, hH, rfl⟩, fun t H8 s8 ht => qN e e' t H8 (sD.trans (s'.trans s8)) ht⟩
/-- end, told by _law_word -/
theorem end_told (WU : WordC K mg CU 4) (h6 : σ[i]? = some (some (.ref y))) (hS : SyAt C H7 y pa L R rs wd tl ps) (ho : ∀ ρ ∈ rs, RlOk ρ) (h12 : wd.length ≤ 12)
    (t1 : 1 ≤ tl.length) (t3 : tl.length ≤ 3) (tw : tl.length ≤ wd.length + 1)
    (qT : (Wt rs tl).2 = none → ∀ (t pa' : Addr) (H8 : Hp), H7 pa' = none → Kp y pa H7 H8 → SyAt C H8 y pa' L R rs [] [35] [] → H8 t = some (.tup [.str (T []), .str (T (soL rs ((Wt rs tl).1.map (·.2))))]) → Q (.ref t) H8)
    (qN : ∀ p, (Wt rs tl).2 = some p → ∀ (t : Addr) (H8 : Hp), Same H7 H8 → H8 t = some (.tup [.str "unsaid", .int ((wd.length + 1 - tl.length + p : Nat) : Int)]) → Q (.ref t) H8) :
    TTw K mg (fun E H' Q' => tMeth C "end" (spEndS C CU) [] E (tVar i) tNil σ H' Q') H7 Q := by
  intro D hD post hpost
  have sD := same_new hD (.lst [])
  have hS' := hS.same sD
  obtain ⟨⟨dx, hy⟩, hR, ts, hpa, hpp⟩ := id hS
  have nD : pa ≠ D := ne_of_none hpa hD
  have nyD : y ≠ D := ne_of_none hy hD
  refine ⟨_, h6, y, dx, _, rfl, sD _ _ hy, rfl, y, pa, L, R, rs, wd, tl, ps, rfl, hS', ho, h12, t1, t3, tw, fun e pa' H' hpa' k' hS8 => ?_, fun p e' d H' s' hd hH => ?_⟩
  · have hD' : H' D = some (.lst []) := k' _ _ upd_same nyD.symm nD.symm
    have nD' : pa' ≠ D := fun z => by rw [z, upd_same] at hpa'; cases hpa'
    refine hpost _ _ hD' fun t H8 s8 ht => qT e t pa' H8 (by rw [upd_ne nD'] at hpa'; exact hpa') (fun b o hb n1 n2 => ?_) (hS8.stpD hD' nD' s8) ?_
    · exact s8 _ _ (k' _ _ (sD _ _ hb) n1 n2) (ne_of_none hb hD)
    · rw [← nil_eq]; exact ht
  · exact ⟨CU, 4, _, WU, rfl, .inl ⟨rfl, d, _, rfl, hH, rfl⟩, fun t H8 s8 ht => qN p e' t H8 (sD.trans (s'.trans s8)) ht⟩
/-- back, told by _law_word -/
theorem back_told (WN : WordC K mg CN 5) (h6 : σ[i]? = some (some (.ref y))) (hS : SyAt C H7 y pa L R rs wd tl ps) (h12 : wd.length ≤ 12) (hps : ps.length = wd.length)
    (qE : ps = [] → ∀ (t : Addr) (H8 : Hp), Same H7 H8 → H8 t = some (.tup [.str "letter", .non]) → Q (.ref t) H8)
    (qT : ∀ ps' t' n, ps = ps' ++ [(t', n)] → ∀ (t : Addr) (H8 : Hp), Kp y pa H7 H8 → SyAt C H8 y pa L R rs wd.dropLast t' ps' → H8 t = some (.tup [.str (T []), .int (n : Nat)]) → Q (.ref t) H8) :
    TTw K mg (fun E H' Q' => tMeth C "back" (spBack C CN) [] E (tVar i) tNil σ H' Q') H7 Q := by
  intro D hD post hpost
  have sD := same_new hD (.lst [])
  have hS' := hS.same sD
  obtain ⟨⟨dx, hy⟩, hR, ts, hpa, hpp⟩ := id hS
  have nD : pa ≠ D := ne_of_none hpa hD
  have nyD : y ≠ D := ne_of_none hy hD
  refine ⟨_, h6, y, dx, _, rfl, sD _ _ hy, rfl, y, pa, L, R, rs, wd, tl, ps, rfl, hS', h12, hps, fun e H' s' => ?_, fun ps' t' n e H' k' hS8 => ?_⟩
  · exact ⟨CN, 5, _, WN, rfl, .inr ⟨rfl, .inl rfl, rfl⟩, fun t H8 s8 ht => qE e t H8 (sD.trans (s'.trans s8)) ht⟩
  · have hD' : H' D = some (.lst []) := k' _ _ upd_same nyD.symm nD.symm
    refine hpost _ _ hD' fun t H8 s8 ht => qT ps' t' n e t H8 (fun b o hb n1 n2 => ?_) (hS8.stpD hD' nD s8) ?_
    · exact s8 _ _ (k' _ _ (sD _ _ hb) n1 n2) (ne_of_none hb hD)
    · rw [← nil_eq]; exact ht
end
end Say
namespace Say
open PySem PySem.Spec PyProof.Rows L2
/-! ### the law's own way: what is sure of a text -/
/-- rules used one behind another from place q to place p, all of them settled by N letters -/
def Ch (rs : List Rule) (z : List Nat) (N : Nat) : Nat → List Nat → Nat → Prop
  | q, [], p => q = p
  | q, k :: r, p => q + 2 < N ∧ ff rs z (q + 1) = some k ∧ Ch rs z N (q + (ruleAt rs k).ow.length) r p
theorem Ch.snoc {rs : List Rule} {z : List Nat} {N k : Nat} : ∀ {q p : Nat} {ks : List Nat}, Ch rs z N q ks p → p + 2 < N → ff rs z (p + 1) = some k → Ch rs z N q (ks ++ [k]) (p + (ruleAt rs k).ow.length)
  | q, p, [], h, h1, h2 => by
    have h : q = p := h
    subst h
    exact ⟨h1, h2, rfl⟩
  | q, p, j :: r, h, h1, h2 => ⟨h.1, h.2.1, Ch.snoc h.2.2 h1 h2⟩
theorem Ch.mono {rs : List Rule} {z : List Nat} {N N' : Nat} (n : N ≤ N') : ∀ {q p : Nat} {ks : List Nat}, Ch rs z N q ks p → Ch rs z N' q ks p
  | _, _, [], h => h
  | _, _, _ :: _, h => ⟨Nat.lt_of_lt_of_le h.1 n, h.2.1, Ch.mono n h.2.2⟩
/-- what is sure of u, from a place on -/
def su (rs : List Rule) (u : List Nat) : Nat → Nat → List Nat → Option Nat × List Nat
  | 0, _, f => (none, f)
  | m + 1, q, f => if q + 2 < u.length then
      match ff rs (sgn u) (q + 1) with
      | none => (some q, f)
      | some k => su rs u m (q + (ruleAt rs k).ow.length) (f ++ (ruleAt rs k).so)
    else (none, f)
theorem su_end {rs : List Rule} {u : List Nat} {m q : Nat} {f : List Nat} (h : ¬ q + 2 < u.length) : su rs u m q f = (none, f) := by
  cases m with
  | zero => rfl
  | succ m => unfold su; rw [if_neg h]
theorem su_none {rs : List Rule} {u : List Nat} {m q : Nat} {f : List Nat} (h : q + 2 < u.length) (e : ff rs (sgn u) (q + 1) = none) : su rs u (m + 1) q f = (some q, f) := by
  rw [su, if_pos h, e]
theorem su_some {rs : List Rule} {u : List Nat} {m q k : Nat} {f : List Nat} (h : q + 2 < u.length) (e : ff rs (sgn u) (q + 1) = some k) : su rs u (m + 1) q f = su rs u m (q + (ruleAt rs k).ow.length) (f ++ (ruleAt rs k).so) := by
  rw [su, if_pos h, e]
theorem soL_cons (rs : List Rule) (k : Nat) (r : List Nat) : soL rs (k :: r) = (ruleAt rs k).so ++ soL rs r := rfl
theorem su_ch {rs : List Rule} {u : List Nat} {p : Nat} (hp : ¬ p + 2 < u.length) : ∀ (ks : List Nat) (m q : Nat) (f : List Nat), ks.length ≤ m → Ch rs (sgn u) u.length q ks p → su rs u m q f = (none, f ++ soL rs ks)
  | [], m, q, f, _, h => by
    have h : q = p := h
    subst h
    rw [su_end hp]
    simp [soL]
  | k :: r, m, q, f, hm, h => by
    obtain ⟨m', rfl⟩ : ∃ m', m = m' + 1 := ⟨m - 1, by simp at hm; omega⟩
    rw [su_some h.1 h.2.1, su_ch hp r m' _ _ (by simpa using hm) h.2.2, soL_cons, List.append_assoc]
theorem su_ch_stuck {rs : List Rule} {u : List Nat} {p : Nat} (hp : p + 2 < u.length) (e : ff rs (sgn u) (p + 1) = none) : ∀ (ks : List Nat) (m q : Nat) (f : List Nat), ks.length < m → Ch rs (sgn u) u.length q ks p → (su rs u m q f).1 = some p
  | [], m, q, f, hm, h => by
    have h : q = p := h
    subst h
    obtain ⟨m', rfl⟩ : ∃ m', m = m' + 1 := ⟨m - 1, by simp at hm; omega⟩
    rw [su_none hp e]
  | k :: r, m, q, f, hm, h => by
    obtain ⟨m', rfl⟩ : ∃ m', m = m' + 1 := ⟨m - 1, by simp at hm; omega⟩
    rw [su_some h.1 h.2.1]
    exact su_ch_stuck hp e r m' _ _ (by simpa using hm) h.2.2
/-- what is sure of u -/
def SU (rs : List Rule) (u : List Nat) : Option Nat × List Nat := su rs u (u.length + 1) 0 []
/-- a machine's whole past -/
inductive Hist (rs : List Rule) : List Nat → List Nat → List Nat → List (List Nat × Nat) → List (List Nat) → Prop
  | nil : Hist rs [] [35] [] [] []
  | snoc {wd tl ks tl' : List Nat} {ps : List (List Nat × Nat)} {so : List (List Nat)} {c : Nat} : Hist rs wd tl ks ps so → (tkM rs (some tl) c).1 = some tl' →
      Hist rs (wd ++ [c]) tl' (ks ++ (tkM rs (some tl) c).2) (ps ++ [(tl, (soL rs (tkM rs (some tl) c).2).length)]) (so ++ [soL rs (tkM rs (some tl) c).2])
theorem Hist.fed {rs : List Rule} (h : ∀ ρ ∈ rs, RlOk ρ) {wd tl ks : List Nat} {ps : List (List Nat × Nat)} {so : List (List Nat)} (F : Hist rs wd tl ks ps so) : Fed rs wd tl ks := by
  induction F with
  | nil => exact fed_nil rs
  | snoc _ e ih => exact ih.step h e
theorem Hist.lens {rs : List Rule} {wd tl ks : List Nat} {ps : List (List Nat × Nat)} {so : List (List Nat)} (F : Hist rs wd tl ks ps so) : ps.length = wd.length ∧ so.length = wd.length ∧ so.flatten = soL rs ks := by
  induction F with
  | nil => exact ⟨rfl, rfl, rfl⟩
  | snoc _ e ih =>
    obtain ⟨h1, h2, h3⟩ := ih
    refine ⟨by simp [h1], by simp [h2], ?_⟩
    rw [List.flatten_append, h3, soL_app]
    simp
/-- one letter is taken back -/
theorem Hist.back {rs : List Rule} {wd tl ks : List Nat} {ps : List (List Nat × Nat)} {so : List (List Nat)} (F : Hist rs wd tl ks ps so) : wd = [] ∧ ps = [] ∧ so = [] ∨
    ∃ c t n ps' so' s ks', wd = wd.dropLast ++ [c] ∧ ps = ps' ++ [(t, n)] ∧ so = so' ++ [s] ∧ n = s.length ∧ Hist rs wd.dropLast t ks' ps' so' := by
  cases F with
  | nil => exact .inl ⟨rfl, rfl, rfl⟩
  | snoc F' e => exact .inr ⟨_, _, _, _, _, _, _, by rw [List.dropLast_concat], rfl, rfl, rfl, by rw [List.dropLast_concat]; exact F'⟩
/-- rules used, settled, one behind another -/
theorem Hist.ch {rs : List Rule} (h : ∀ ρ ∈ rs, RlOk ρ) {wd tl ks : List Nat} {ps : List (List Nat × Nat)} {so : List (List Nat)} (F : Hist rs wd tl ks ps so) : ∃ p, p ≤ wd.length ∧ wd.length ≤ p + 2 ∧ tl = (35 :: wd).drop p ∧ ∀ v, Ch rs (sgn (wd ++ v)) wd.length 0 ks p := by
  induction F with
  | nil => exact ⟨0, Nat.le_refl _, Nat.zero_le _, rfl, fun v => rfl⟩
  | @snoc wd tl ks tl' ps so c F' e ih =>
    obtain ⟨p, h1, h2, et0, hv⟩ := ih
    subst et0
    have et : (35 :: wd).drop p ++ [c] = (35 :: (wd ++ [c])).drop p := by
      rw [← List.cons_append, List.drop_append_of_le_length (by rw [List.length_cons]; omega)]
    have hl : ((35 :: (wd ++ [c])).drop p).length = wd.length + 2 - p := by
      rw [List.length_drop, List.length_cons, List.length_append, List.length_singleton]
    have hn : (wd ++ [c]).length = wd.length + 1 := by simp
    unfold tkM at e ⊢
    simp only at e ⊢
    rw [et] at e ⊢
    by_cases c4 : ((35 :: (wd ++ [c])).drop p).length < 4
    · rw [if_pos c4] at e ⊢
      cases e
      refine ⟨p, by omega, by omega, rfl, fun v => ?_⟩
      have := hv ([c] ++ v)
      rw [← List.append_assoc] at this
      rw [List.append_nil]
      exact this.mono (by omega)
    · rw [if_neg c4] at e ⊢
      cases hf : ff rs ((35 :: (wd ++ [c])).drop p) 1 with
      | none => rw [hf] at e; cases e
      | some k =>
        rw [hf] at e
        cases e
        have hk := ff_lt hf
        have er : ruleAt rs k = rs[k] := ruleAt_eq (List.getElem?_eq_getElem hk)
        have o1 := (h _ (List.getElem_mem hk)).o1
        have o2 := (h _ (List.getElem_mem hk)).o2
        refine ⟨p + (ruleAt rs k).ow.length, by rw [er]; omega, by rw [er]; omega, by rw [List.drop_drop], fun v => ?_⟩
        have := hv ([c] ++ v)
        rw [← List.append_assoc] at this
        refine (this.mono (by omega)).snoc (by omega) ?_
        rw [← hf, ff_at, sgn_drop _ _ _ (by omega)]
        exact ff_pre h _ _ (by omega)
theorem Ch.len {rs : List Rule} (h : ∀ ρ ∈ rs, RlOk ρ) {z : List Nat} {N : Nat} : ∀ {q p : Nat} {ks : List Nat}, Ch rs z N q ks p → q + ks.length ≤ p
  | q, p, [], e => by have e : q = p := e; simp; omega
  | q, p, k :: r, e => by
    have := Ch.len h e.2.2
    have o1 : 1 ≤ (ruleAt rs k).ow.length := by
      rw [ruleAt_eq (List.getElem?_eq_getElem (ff_lt e.2.1))]
      exact (h _ (List.getElem_mem (ff_lt e.2.1))).o1
    simp
    omega
theorem Hist.sure {rs : List Rule} (h : ∀ ρ ∈ rs, RlOk ρ) {wd tl ks : List Nat} {ps : List (List Nat × Nat)} {so : List (List Nat)} (F : Hist rs wd tl ks ps so) : SU rs wd = (none, soL rs ks) := by
  obtain ⟨p, h1, h2, _, hv⟩ := F.ch h
  have := hv []
  rw [List.append_nil] at this
  have l := this.len h
  unfold SU
  rw [su_ch (by omega) ks _ _ _ (by omega) this]
  rfl
theorem Hist.sure_stuck {rs : List Rule} (h : ∀ ρ ∈ rs, RlOk ρ) {wd tl ks : List Nat} {ps : List (List Nat × Nat)} {so : List (List Nat)} {c : Nat} (F : Hist rs wd tl ks ps so) (e : (tkM rs (some tl) c).1 = none) : (SU rs (wd ++ [c])).1 = some (wd.length + 1 - tl.length) := by
  obtain ⟨p, h1, h2, et0, hv⟩ := F.ch h
  have ch := hv [c]
  have l := ch.len h
  subst et0
  have et : (35 :: wd).drop p ++ [c] = (35 :: (wd ++ [c])).drop p := by
    rw [← List.cons_append, List.drop_append_of_le_length (by rw [List.length_cons]; omega)]
  have hl : ((35 :: (wd ++ [c])).drop p).length = wd.length + 2 - p := by
    rw [List.length_drop, List.length_cons, List.length_append, List.length_singleton]
  have hn : (wd ++ [c]).length = wd.length + 1 := by simp
  unfold tkM at e
  simp only at e
  rw [et] at e
  by_cases c4 : ((35 :: (wd ++ [c])).drop p).length < 4
  · rw [if_pos c4] at e
    cases e
  · rw [if_neg c4] at e
    cases hf : ff rs ((35 :: (wd ++ [c])).drop p) 1 with
    | some k => rw [hf] at e; cases e
    | none =>
      have fz : ff rs (sgn (wd ++ [c])) (p + 1) = none := by
        have q := sgn_drop (wd ++ [c]) [] p (by omega)
        rw [List.append_nil] at q
        rw [← hf, ff_at, q]
        exact ff_pre h _ _ (by omega)
      unfold SU
      rw [su_ch_stuck (by omega) fz ks _ _ _ (by omega) (ch.mono (by omega))]
      rw [List.length_drop, List.length_cons, show p = wd.length + 1 - (wd.length + 1 - p) by omega]
      congr 1
      omega
end Say
namespace Say
open PySem PySem.Spec PyProof.Rows L2
theorem Same.seqT {K : PySem.W.Frag} {H H' : Hp} {a : Addr} {xs : List V} (e : Same H H') (h : SqT K H a xs) : SqT K H' a xs := by
  rcases h with (h | ⟨o, h⟩) | h
  · exact .inl (.inl (e _ _ h))
  · exact .inl (.inr ⟨o, e _ _ h⟩)
  · exact .inr h
mutual
theorem dp_same {K : PySem.W.Frag} {H H' : Hp} (e : Same H H') : ∀ {v : V} {d : PyData}, Dp K H v d → Dp K H' v d
  | _, _, .non => .non
  | _, _, .bl b => .bl b
  | _, _, .int i => .int i
  | _, _, .str x => .str x
  | _, _, .lst h a => .lst (Same.seq e h) (dpa_same e a)
  | _, _, .tup h a => .tup (Same.seqT e h) (dpa_same e a)
theorem dpa_same {K : PySem.W.Frag} {H H' : Hp} (e : Same H H') : ∀ {vs : List V} {ds : List PyData}, DpAll K H vs ds → DpAll K H' vs ds
  | _, _, .nil => .nil
  | _, _, .cons h t => .cons (dp_same e h) (dpa_same e t)
end
theorem dpa_len {K : PySem.W.Frag} {H : Hp} : ∀ {vs : List V} {ds : List PyData}, DpAll K H vs ds → vs.length = ds.length
  | _, _, .nil => rfl
  | _, _, .cons _ t => by simp [dpa_len t]
theorem dpa_at {K : PySem.W.Frag} {H : Hp} : ∀ {vs : List V} {ds : List PyData}, DpAll K H vs ds → ∀ {i : Nat} {d : PyData}, ds[i]? = some d → ∃ v, vs[i]? = some v ∧ Dp K H v d
  | _, _, .nil, i, d, h => by cases h
  | _, _, .cons a t, 0, d, h => by
    cases h
    exact ⟨_, rfl, a⟩
  | _, _, .cons a t, i + 1, d, h => dpa_at t h
/-- data with no dicts, its lists not long -/
inductive Few : PyData → Prop
  | non : Few .none
  | bl (b : Bool) : Few (.bool b)
  | int (i : Int) : Few (.int i)
  | str (x : Str) : Few (.str x)
  | lst {ds : List PyData} : ds.length ≤ 1000 → (∀ d ∈ ds, Few d) → Few (.list ds)
  | tup {ds : List PyData} : ds.length ≤ 1000 → (∀ d ∈ ds, Few d) → Few (.tuple ds)
theorem depth_mem : ∀ {ds : List PyData} {d : PyData}, d ∈ ds → d.depth ≤ PyData.depthAll ds
  | x :: r, d, h => by
    unfold PyData.depthAll
    rcases List.mem_cons.mp h with rfl | h
    · exact Nat.le_max_left _ _
    · exact Nat.le_trans (depth_mem h) (Nat.le_max_right _ _)
end Say
namespace SrtT
open PySem PySem.Spec PyProof.Rows L2 SrtO
/-- by the first text, then by the second -/
def lexT (p q : Str × Str) : Bool := if p.1 = q.1 then decide (p.2.cps.toList < q.2.cps.toList) else decide (p.1.cps.toList < q.1.cps.toList)
theorem str_of {x y : Str} (h : x.cps.toList = y.cps.toList) : x = y := TL.ext_tl h
theorem lexT_no {p q : Str × Str} : lexT p q = false ↔ (q.1.cps.toList < p.1.cps.toList ∨ (p.1 = q.1 ∧ q.2.cps.toList ≤ p.2.cps.toList)) := by
  unfold lexT
  by_cases h : p.1 = q.1
  · rw [if_pos h]
    constructor
    · intro z
      exact .inr ⟨h, List.not_lt.mp (of_decide_eq_false z)⟩
    · rintro (z | ⟨_, z⟩)
      · rw [h] at z
        exact absurd z (List.lt_irrefl _)
      · exact decide_eq_false (List.not_lt.mpr z)
  · rw [if_neg h]
    constructor
    · intro z
      have le := List.not_lt.mp (of_decide_eq_false z)
      refine .inl ?_
      refine Decidable.byContradiction fun n => h (str_of (List.le_antisymm (List.not_lt.mp n) le))
    · rintro (z | ⟨e, _⟩)
      · exact decide_eq_false (List.not_lt.mpr (List.le_of_lt z))
      · exact absurd e h
theorem lexT_yes {p q : Str × Str} (h : lexT p q = true) : p.1.cps.toList < q.1.cps.toList ∨ (p.1 = q.1 ∧ p.2.cps.toList < q.2.cps.toList) := by
  unfold lexT at h
  by_cases e : p.1 = q.1
  · rw [if_pos e] at h
    exact .inr ⟨e, of_decide_eq_true h⟩
  · rw [if_neg e] at h
    exact .inl (of_decide_eq_true h)
theorem swoT {α : Type} (k : α → Str × Str) : Swo fun v u => lexT (k v) (k u) := by
  refine ⟨fun x y h => ?_, fun x y z h1 h2 => ?_⟩
  · refine lexT_no.mpr ?_
    rcases lexT_yes h with q | ⟨e, q⟩
    · exact .inl q
    · exact .inr ⟨e.symm, List.le_of_lt q⟩
  · refine lexT_no.mpr ?_
    rcases lexT_no.mp h1 with a | ⟨e, a⟩
    · rcases lexT_no.mp h2 with b | ⟨e', b⟩
      · exact .inl (List.lt_trans a b)
      · exact .inl (by rw [e']; exact a)
    · rcases lexT_no.mp h2 with b | ⟨e', b⟩
      · exact .inl (by rw [← e]; exact b)
      · exact .inr ⟨e'.trans e, List.le_trans a b⟩
/-- v is a tuple of the two texts -/
def IsTx (h : Heap) (v : Value) (x y : Str) : Prop := ∃ a o t u n, v = .ref a ∧ h.get? a = some o ∧ o.cls = .type "tuple" ∧ o.data = .seq #[.str x t, .str y u] n
theorem IsTx.keeps {h h' : Heap} {v : Value} {x y : Str} (p : IsTx h v x y) (k : ∀ b o, h.get? b = some o → o.cls = .type "tuple" → h'.get? b = some o) : IsTx h' v x y := by
  obtain ⟨a, o, t, u, n, e, obO, clC, dtD⟩ := p
  exact ⟨a, o, t, u, n, e, k _ _ obO clC, clC, dtD⟩
section
variable {prog : Program} {w : World} {A : Around} {E : Value → Shared → Prop} {s : Shared}
theorem tx_cmp {vs : List Value} {k : Value → Str × Str} (txP : ∀ v ∈ vs, IsTx s.heap v (k v).1 (k v).2) : Cmp prog w A s (tuples' true) (fun p => p.1 ∈ vs) (lt2 fun v u => lexT (k v) (k u)) := by
  intro p q hm hm'
  have h1 := txP _ hm
  have h2 := txP _ hm'
  show wpAny (model prog w) A (keyLt' (tuples' true) p.1 q.1) (fun r s' => s' = s ∧ r = lexT (k p.1) (k q.1)) (fun _ _ => False) s
  unfold lexT
  generalize (k p.1).1 = x at h1 ⊢
  generalize (k p.1).2 = y at h1 ⊢
  generalize (k q.1).1 = x' at h2 ⊢
  generalize (k q.1).2 = y' at h2 ⊢
  obtain ⟨a, o, t, u, n, e, obO, clC, dtD⟩ := h1
  obtain ⟨a', o', t', u', n', e', ho', hc', hd'⟩ := h2
  rw [e, e']
  refine PySem.W.kat_lt obO dtD ho' hd' ?_
  show PySem.W.KatLex prog w A true (decide (2 < 2)) _ [(.str x t, .str x' t'), (.str y u, .str y' u')] 0 s
  refine PySem.W.kat_cons (SeqAt.EqAt.str_str x t x' t' prog w _ _ ?_)
  refine PySem.W.kat_go (fun q1 => ?_) (fun q1 => ?_)
  · have ex : x = x' := by simpa using q1
    refine PySem.W.kat_yes (PySem.W.kat_cons (SeqAt.EqAt.str_str y u y' u' prog w _ _ ?_))
    refine PySem.W.kat_go (fun q2 => ?_) (fun q2 => ?_)
    · have ey : y = y' := by simpa using q2
      have q3 : (if x = x' then decide (y.cps.toList < y'.cps.toList) else decide (x.cps.toList < x'.cps.toList)) = false := by
        rw [if_pos ex, ey]
        exact decide_eq_false (List.lt_irrefl _)
      exact PySem.W.kat_yes (PySem.W.kat_nil ⟨rfl, q3.symm⟩)
    · have q3 : (if x = x' then decide (y.cps.toList < y'.cps.toList) else decide (x.cps.toList < x'.cps.toList)) = decide (y.cps.toList < y'.cps.toList) := if_pos ex
      refine PySem.W.kat_no (PySem.W.kat_one _ _ (PyProof.Rows.lt_str ?_))
      exact (show s = s ∧ decide (y.cps.toList < y'.cps.toList) = (if x = x' then decide (y.cps.toList < y'.cps.toList) else decide (x.cps.toList < x'.cps.toList)) from ⟨rfl, q3.symm⟩)
  · have ex : ¬ x = x' := by simpa using q1
    have q3 : (if x = x' then decide (y.cps.toList < y'.cps.toList) else decide (x.cps.toList < x'.cps.toList)) = decide (x.cps.toList < x'.cps.toList) := if_neg ex
    exact PySem.W.kat_no (oneLt_str ⟨rfl, q3.symm⟩)
theorem firsts_tx {h : Heap} : ∀ {vs : List Value}, (∀ v ∈ vs, ∃ x y, IsTx h v x y) → ∃ fs, PySem.W.KatTups h vs fs ∧ fs.length = vs.length ∧ ∀ f ∈ fs, ∃ x t, f = Value.str x t
  | [], _ => ⟨[], trivial, rfl, fun _ h => nomatch h⟩
  | v :: vs, txP => by
    obtain ⟨x, y, a, o, t, u, n, rfl, obO, clC, dtD⟩ := txP v (List.mem_cons_self ..)
    obtain ⟨fs, h1, h2, h3⟩ := firsts_tx (vs := vs) fun v inV => txP v (List.mem_cons_of_mem _ inV)
    refine ⟨.str x t :: fs, .cons obO clC dtD rfl h1, by simp [h2], fun f fresh0 => ?_⟩
    rcases List.mem_cons.mp fresh0 with rfl | fresh0
    · exact ⟨_, _, rfl⟩
    · exact h3 f fresh0
theorem tx_sortable {a : Addr} {vs : List Value} {k : Value → Str × Str} (h0 : 0 < vs.length) (txP : ∀ v ∈ vs, IsTx s.heap v (k v).1 (k v).2) (atA : ∀ o, s.heap.get? a = some o → o.cls ≠ .type "tuple") : SortableO prog w A s a vs fun v u => lexT (k v) (k u) := by
  intro h' keep
  have hp' : ∀ v ∈ vs, IsTx h' v (k v).1 (k v).2 := fun v hm => (txP v hm).keeps fun b o e c => keep b o (fun z => by subst z; exact atA o e c) e
  obtain ⟨fs, h1, h2, h3⟩ := firsts_tx fun v hm => ⟨_, _, hp' v hm⟩
  refine ⟨tuples' true, fun Q E isT => ?_, tx_cmp hp'⟩
  refine PySem.W.kat_kind (T := .type "str") h1 (by omega) (fun f hm => ?_) (by rfl) ?_
  · obtain ⟨x, t, rfl⟩ := h3 f hm
    exact PySem.W.Looks.now
  · have e : (Value.type "str" != Value.type "tuple") = true := by first | decide +kernel | rfl | decide
    rw [e]
    exact isT
end
/-- the texts of a tuple of two -/
def txOf (h : Heap) (v : Value) : Str × Str := match v with
  | .ref a => match h.get? a with
    | some o => match o.data with
      | .seq its _ => match its.toList with
        | [.str x _, .str y _] => (x, y)
        | _ => (Str.empty, Str.empty)
      | _ => (Str.empty, Str.empty)
    | none => (Str.empty, Str.empty)
  | _ => (Str.empty, Str.empty)
theorem IsTx.tx {h : Heap} {v : Value} {x y : Str} (p : IsTx h v x y) : txOf h v = (x, y) := by
  obtain ⟨a, o, t, u, n, rfl, obO, clC, dtD⟩ := p
  unfold txOf
  simp only [obO, dtD]
end SrtT
namespace Say
open PySem PySem.Spec PyProof.Rows L2 L2.DX
section
variable {X : Cx}
/-- d.items() of a dict with int and text keys -/
def rItemsK : V → List V → Hp → VK → Prop := fun x xs H Q => ∃ (a : Addr) (kvs : List (Key × V)), x = .ref a ∧ xs = [] ∧ H a = some (.dK kvs) ∧ ∀ p, H p = none → Q (.ref p) (upd H p (itemsO p a))
theorem mt_itemsK : MtR X "dict.items" rItemsK := by
  intro pn s σ H x xs v args Q I rx rxs h
  obtain ⟨a, kvs, rfl, rfl, atA, q⟩ := h
  cases rx
  cases rxs
  obtain ⟨szT, dtD, vs, kv, o, es, ep, obO, atI0, hdat, _⟩ := (show ObjOk X.prog X.w H s.heap a (.dK kvs) from I.hok a _ atA)
  refine DT.callItems (es := es) (ep := ep) dtD ⟨o, obO, atI0, hdat⟩ ?_
  have fresh0 : H s.heap.objs.size = none := I.hok.fresh (Nat.le_refl _)
  exact ⟨.ref s.heap.objs.size, upd H s.heap.objs.size (itemsO s.heap.objs.size a), I.laid (t' := s.toks) (fun b u e => Heap.get?_push_of_some _ e) (Nat.le_refl _) (itemsO_ok (Heap.get?_push_size _ rfl)), rfl, q _ fresh0⟩
abbrev entS (e : Str × Str) : Key × V := (Sum.inr e.1, V.str e.2)
/-- sorted(d.items()), keys and values texts -/
def rSortTx : List V → Hp → VK → Prop := fun vs H Q => ∃ (p a : Addr) (es : List (Str × Str)), vs = [.ref p] ∧ H p = some (itemsO p a) ∧ H a = some (.dK (es.map entS)) ∧ es.length ≤ 1000 ∧
  ∀ (H' : Hp) (l : Addr) (ps : List (Addr × Str × Str)), (∀ b o, H b = some o → H' b = some o) → (ps.map (·.2)).Perm es → (ps.map (·.2)).Pairwise (fun e f => SrtT.lexT f e = false) → H l = none → H' l = some (.lst (ps.map fun z => V.ref z.1)) →
    (∀ z ∈ ps, H' z.1 = some (.tup [.str z.2.1, .str z.2.2])) → Q (.ref l) H'
theorem key_txt {x : Str} {v : Value} (h : keyIs (Sum.inr x : Key) v = true) : ∃ t, v = .str x t := by
  rcases keyIs_shape h with ⟨i, t, e, rfl⟩ | ⟨y, t, e, rfl⟩
  · cases e
  · cases e
    exact ⟨t, rfl⟩
theorem ent_at {P : Program} {w : World} : ∀ {l : List DictEntry} {vs : List (Key × Value)} {ks : List (Str × Str)}, Pairs (mixKind P w) l vs → KV (ks.map entS) vs → Paired (fun (e : DictEntry) (k : Str × Str) => (∃ t, e.key = .str k.1 t) ∧ ∃ u, e.val = .str k.2 u) l ks
  | [], _, ks, .nil, kv => by
    cases ks with
    | nil => exact .nil
    | cons k r => cases kv
  | e :: l, _, ks, .cons h1 h2 h3, kv => by
    cases ks with
    | nil => cases kv
    | cons k r =>
      cases kv with
      | cons g1 g2 =>
        refine .cons ⟨?_, ?_⟩ (ent_at h3 g2)
        · obtain ⟨g3, g4⟩ := g1
          rw [← g3] at h1
          exact key_txt h1
        · rw [h2]
          exact g1.2
def adr : Value → Addr
  | .ref a => a
  | _ => 0
theorem cr_sortedTx (clC : X.calm = true) : CallR X (.builtin "sorted") rSortTx := by
  intro pn s σ H xs args Q I r h
  obtain ⟨p, a, ks, rfl, txP, atA, h64, q⟩ := h
  obtain rfl := Vals.ref1 r
  have vw : s.heap.IsItemsView p a := (show ObjOk X.prog X.w H s.heap p (itemsO p a) from I.hok p _ txP).1
  obtain ⟨szT, dtD, vs, kv, o, es, ep, obO, atI0, hdat, hKo, hPs, hn⟩ := (show ObjOk X.prog X.w H s.heap a (.dK (ks.map entS)) from I.hok a _ atA)
  have ents := ent_at hPs kv
  have l0 : es.size = ks.length := by rw [← Array.length_toList]; exact paired_len ents
  have noH : X.A.handled = none := I.ok.hd clC
  refine DT.sortedI (es := es) (ep := ep) noH vw ⟨o, obO, atI0, hdat⟩ (by rw [sizeLine_eq]; omega) fun h' tkn adrs kpT ltN lnT mdG => ?_
  have lenA : adrs.length = ks.length := by omega
  have nodupA : adrs.Nodup := List.Pairwise.imp (fun h => Nat.ne_of_lt h) mdG.rise
  have prs : ∀ (j : Nat) (b : Addr), adrs[j]? = some b → ∃ (e : Str × Str) (t u : Tok), ks[j]? = some e ∧ h'.get? b = some { cls := .type "tuple", data := .seq #[Value.str e.1 t, Value.str e.2 u] } := by
    intro j b atJ
    obtain ⟨en', hEn, gW⟩ := mdG.pairs j b atJ
    rw [← Array.getElem?_toList] at hEn
    obtain ⟨e, q1, ⟨t, q2⟩, ⟨u, q3⟩⟩ := paired_at ents hEn
    exact ⟨e, t, u, q1, by rw [gW, q2, q3]⟩
  have atL : (h'.push { cls := .type "list", data := .seq (adrs.map Value.ref).toArray }).get? h'.objs.size = some (seqObj "list" (adrs.map Value.ref).toArray 0) := Heap.get?_push_size _ rfl
  have kpS : ∀ b o, s.heap.get? b = some o → (h'.push { cls := .type "list", data := .seq (adrs.map Value.ref).toArray }).get? b = some o := fun b o e => Heap.get?_push_of_some _ (kpT b o e)
  have neL : ∀ b o, h'.get? b = some o → b ≠ h'.objs.size := fun b o e => Nat.ne_of_lt (Heap.lt_size e)
  generalize hh2 : h'.push { cls := .type "list", data := .seq (adrs.map Value.ref).toArray } = h2 at atL kpS ⊢
  have kpM : ∀ b o, h'.get? b = some o → h2.get? b = some o := fun b o e => by rw [← hh2]; exact Heap.get?_push_of_some _ e
  have pin : ∀ (j : Nat) (b : Addr) (e : Str × Str), adrs[j]? = some b → ks[j]? = some e → SrtT.IsTx h2 (.ref b) e.1 e.2 := by
    intro j b e atJ hEn
    obtain ⟨e', t, u, he', gW⟩ := prs j b atJ
    cases he'.symm.trans hEn
    exact ⟨b, _, t, u, 0, rfl, kpM _ _ gW, rfl, rfl⟩
  have allTx : ∀ v ∈ adrs.map Value.ref, SrtT.IsTx h2 v (SrtT.txOf h2 v).1 (SrtT.txOf h2 v).2 := by
    intro v hv'
    obtain ⟨b, hb, rfl⟩ := List.mem_map.mp hv'
    obtain ⟨j, atJ⟩ := List.mem_iff_getElem?.mp hb
    obtain ⟨e, t, u, hEn, _⟩ := prs j b atJ
    have := pin j b e atJ hEn
    rw [this.tx]
    exact this
  have mapTx : (adrs.map Value.ref).map (SrtT.txOf h2) = ks := by
    refine List.ext_getElem? fun j => ?_
    rw [List.getElem?_map, List.getElem?_map]
    cases atJ : adrs[j]? with
    | none =>
      have := List.getElem?_eq_none_iff.mp atJ
      rw [List.getElem?_eq_none (by omega)]
      rfl
    | some b =>
      obtain ⟨e, t, u, hEn, _⟩ := prs j b atJ
      rw [hEn]
      show some (SrtT.txOf h2 (.ref b)) = some e
      rw [(pin j b e atJ hEn).tx]
  refine wpAny_call_entry PyProof.Rows.slot_list_sort ⟨_, atL, rfl⟩ PyProof.Rows.entry_list_sort
    (SrtO.list_sort_ord (s := { s with heap := h2, toks := tkn }) (SrtT.swoT (SrtT.txOf h2)) atL (by rw [List.length_map, sizeLine_eq]; omega) (fun h2' => SrtT.tx_sortable (by omega) allTx fun o e => ?_) fun out o1 o2 => ⟨.none, rfl, ?_⟩) (PyProof.Rows.args_list_sort _)
  · have e : h2.get? h'.objs.size = some o := e
    rw [atL] at e
    cases e
    intro c
    exact absurd (Value.type.inj c) (by decide)
  · show EP X pn σ Q (.ref h'.objs.size) { s with heap := sortedHeap h2 h'.objs.size (adrs.map Value.ref) out.toArray, toks := tkn }
    have hrf : ∀ v ∈ out, v = .ref (adr v) := fun v inV => by
      obtain ⟨b, _, rfl⟩ := List.mem_map.mp (o2.perm.mem_iff.mp inV)
      rfl
    have kpF : ∀ b o, b ≠ h'.objs.size → h2.get? b = some o → (sortedHeap h2 h'.objs.size (adrs.map Value.ref) out.toArray).get? b = some o := fun b o hb e => (PyProof.Rows.sortedHeap_old hb (Heap.lt_size e)).trans e
    have kpAll : ∀ b o, s.heap.get? b = some o → (sortedHeap h2 h'.objs.size (adrs.map Value.ref) out.toArray).get? b = some o := fun b o e => kpF b o (neL _ _ (kpT b o e)) (kpS b o e)
    obtain ⟨sdF, atF⟩ := PyProof.Rows.sortedHeap_at (vs := adrs.map Value.ref) (out := out.toArray) atL
    have I1 : Inv X pn σ H { s with heap := sortedHeap h2 h'.objs.size (adrs.map Value.ref) out.toArray, toks := tkn } := I.kept (t' := tkn) kpAll
    have noL : H h'.objs.size = none := I.hok.fresh (Nat.le_of_lt ltN)
    have prm : ((out.map fun v => (adr v, SrtT.txOf h2 v)).map (·.2)).Perm ks := by
      have e := o2.perm.map (SrtT.txOf h2)
      rw [mapTx] at e
      rw [List.map_map]
      exact e
    have srtd0 : ((out.map fun v => (adr v, SrtT.txOf h2 v)).map (·.2)).Pairwise (fun e f => SrtT.lexT f e = false) := by
      rw [List.map_map, List.pairwise_map]
      exact o1
    have len0 : ((out.map fun v => (adr v, SrtT.txOf h2 v)).map fun z => V.ref z.1).length ≤ sizeLine := by
      have e := prm.length_eq
      rw [List.length_map] at e
      rw [List.length_map, sizeLine_eq]
      omega
    have rel : ∀ l : List Value, (∀ v ∈ l, v = .ref (adr v)) → Vals ((l.map fun v => (adr v, SrtT.txOf h2 v)).map fun z => V.ref z.1) l := by
      intro l
      induction l with
      | nil => intro _; exact .nil
      | cons v l ih =>
        intro inV
        refine .cons ?_ (ih fun u getU => inV u (List.mem_cons_of_mem _ getU))
        have := inV v (List.mem_cons_self ..)
        exact this
    have I2 : Inv X pn σ (upd H h'.objs.size (.lst ((out.map fun v => (adr v, SrtT.txOf h2 v)).map fun z => V.ref z.1))) { s with heap := sortedHeap h2 h'.objs.size (adrs.map Value.ref) out.toArray, toks := tkn } :=
      I1.take (h' := sortedHeap h2 h'.objs.size (adrs.map Value.ref) out.toArray) (t' := tkn) (fun b ob _ e => e) (I.fpOk (Nat.le_of_lt ltN) noL) ⟨len0, out, sdF, rel out hrf, atF⟩
    obtain ⟨H2, I3, g, tps⟩ := takeT (P := fun b vs => ∃ (j : Nat) (e : Str × Str), adrs[j]? = some b ∧ ks[j]? = some e ∧ vs = [.str e.1, .str e.2]) I adrs _ I2 nodupA fun b hb => by
      obtain ⟨j, atJ⟩ := List.mem_iff_getElem?.mp hb
      obtain ⟨e, t, u, hEn, gW⟩ := prs j b atJ
      have geB : s.heap.objs.size ≤ b := Nat.le_of_lt (mdG.above b hb)
      refine ⟨geB, ?_, [.str e.1, .str e.2], ⟨j, e, atJ, hEn, rfl⟩, fun H3 => ⟨(by rw [sizeLine_eq]; show 2 ≤ 16777216; omega), [Value.str e.1 t, Value.str e.2 u], .cons ⟨t, rfl⟩ (.cons ⟨u, rfl⟩ .nil), ⟨_, kpF _ _ (neL _ _ gW) (kpM _ _ gW), rfl, 0, rfl⟩⟩⟩
      rw [upd_ne (neL _ _ gW)]
      exact I.hok.fresh geB
    have grow : ∀ b o, H b = some o → H2 b = some o := fun b o e => g b o (by rw [upd_ne (ne_of_none e noL)]; exact e)
    refine ⟨.ref h'.objs.size, H2, I3, rfl, q H2 h'.objs.size _ grow prm srtd0 noL (g _ _ upd_same) fun z' hz' => ?_⟩
    obtain ⟨v, inV, rfl⟩ := List.mem_map.mp hz'
    obtain ⟨b, hb, e⟩ := List.mem_map.mp (o2.perm.mem_iff.mp inV)
    subst e
    obtain ⟨vs', ⟨j, e, j1, j2, ev⟩, hH⟩ := tps b hb
    show H2 b = some (.tup [.str (SrtT.txOf h2 (.ref b)).1, .str (SrtT.txOf h2 (.ref b)).2])
    rw [(pin j b e j1 j2).tx, hH, ev]
end
end Say
namespace Say
open PySem PySem.Spec PyProof.Rows L2
/-! ### the exceptions of a dict -/
def ent (e : Exc) : Key × V := (Sum.inr (T e.1), V.str (T e.2))
def putE (es : List Exc) (wd so : List Nat) : List Exc := if (es.any fun e => decide (e.1 = wd)) = true then es.map (fun e => if e.1 = wd then (e.1, so) else e) else es ++ [(wd, so)]
theorem key_eq {a b : List Nat} : ((Sum.inr (T a) : Key) = Sum.inr (T b)) ↔ a = b := ⟨fun h => T_inj (Sum.inr.inj h), fun h => by rw [h]⟩
theorem any_ent (wd : List Nat) : ∀ es : List Exc, ((es.map ent).any fun kv => decide (kv.1 = (Sum.inr (T wd) : Key))) = es.any fun e => decide (e.1 = wd)
  | [] => rfl
  | e :: r => by
    rw [List.map_cons, List.any_cons, List.any_cons, any_ent wd r]
    congr 1
    exact decide_eq_decide.mpr key_eq
theorem put_ent (es : List Exc) (wd so : List Nat) : putK (es.map ent) (Sum.inr (T wd) : Key) (V.str (T so)) = (putE es wd so).map ent := by
  unfold putK putE
  rw [any_ent]
  by_cases c : (es.any fun e => decide (e.1 = wd)) = true
  · rw [if_pos c, if_pos c, List.map_map, List.map_map]
    refine List.map_congr_left fun e _ => ?_
    show (if (ent e).1 = (Sum.inr (T wd) : Key) then ((ent e).1, V.str (T so)) else ent e) = ent (if e.1 = wd then (e.1, so) else e)
    by_cases h : e.1 = wd
    · rw [if_pos h, if_pos (show (ent e).1 = (Sum.inr (T wd) : Key) from key_eq.mpr h)]
      rfl
    · rw [if_neg h, if_neg (show ¬ (ent e).1 = (Sum.inr (T wd) : Key) from fun z => h (key_eq.mp z))]
  · rw [if_neg c, if_neg c, List.map_append]
    rfl
theorem putE_len (es : List Exc) (wd so : List Nat) : (putE es wd so).length ≤ es.length + 1 := by
  unfold putE
  split
  · rw [List.length_map]; omega
  · rw [List.length_append]; exact Nat.le_refl _
theorem putE_ok {L : List Nat} {es : List Exc} {wd so : List Nat} (h : ∀ e ∈ es, ExcOk L e) (h1 : ExcOk L (wd, so)) : ∀ e ∈ putE es wd so, ExcOk L e := by
  intro e he
  unfold putE at he
  split at he
  · obtain ⟨e', he', rfl⟩ := List.mem_map.mp he
    by_cases c : e'.1 = wd
    · rw [if_pos c, c]
      exact h1
    · rw [if_neg c]
      exact h e' he'
  · rcases List.mem_append.mp he with he | he
    · exact h e he
    · rw [List.mem_singleton.mp he]
      exact h1
theorem putE_nd {es : List Exc} {wd so : List Nat} (h : (es.map (·.1)).Nodup) : ((putE es wd so).map (·.1)).Nodup := by
  unfold putE
  split
  · rename_i c
    rw [List.map_map]
    have : es.map ((·.1) ∘ fun e : Exc => if e.1 = wd then (e.1, so) else e) = es.map (·.1) := List.map_congr_left fun e _ => by
      show (if e.1 = wd then (e.1, so) else e).1 = e.1
      split <;> rfl
    rw [this]
    exact h
  · rename_i c
    rw [List.map_append]
    refine List.nodup_append.mpr ⟨h, by simp, fun a ha b hb => ?_⟩
    intro z
    refine c (List.any_eq_true.mpr ?_)
    obtain ⟨e, he, rfl⟩ := List.mem_map.mp ha
    have hb : b = wd := by simpa using hb
    exact ⟨e, he, decide_eq_true (by rw [← hb]; exact z)⟩
/-- by its word there is one exception at most -/
theorem one_of {es : List Exc} (h : (es.map (·.1)).Nodup) {e f : Exc} (he : e ∈ es) (hf : f ∈ es) (hw : e.1 = f.1) : e = f := by
  obtain ⟨i, hi⟩ := List.mem_iff_getElem?.mp he
  obtain ⟨j, hj⟩ := List.mem_iff_getElem?.mp hf
  have e1 : (es.map (·.1))[i]? = some e.1 := by rw [List.getElem?_map, hi]; rfl
  have e2 : (es.map (·.1))[j]? = some e.1 := by rw [List.getElem?_map, hj, hw]; rfl
  have := nd_ix h e1 e2
  subst this
  exact Option.some.inj (hi.symm.trans hj)
theorem valV_ent {es : List Exc} (h : (es.map (·.1)).Nodup) {e : Exc} (he : e ∈ es) : valV (es.map ent) (Sum.inr (T e.1) : Key) = some (V.str (T e.2)) := by
  unfold valV
  cases hf : (es.map ent).find? fun kv => decide (kv.1 = (Sum.inr (T e.1) : Key)) with
  | none =>
    have := List.find?_eq_none.mp hf (ent e) (List.mem_map.mpr ⟨e, he, rfl⟩)
    exact absurd (decide_eq_true rfl) this
  | some kv =>
    have h1 := List.find?_some hf
    obtain ⟨f, hfm, rfl⟩ := List.mem_map.mp (List.mem_of_find?_eq_some hf)
    have h2 : f.1 = e.1 := key_eq.mp (of_decide_eq_true h1)
    rw [one_of h hfm he h2]
    rfl
theorem find_ent {es : List Exc} (h : (es.map (·.1)).Nodup) {e : Exc} (he : e ∈ es) : es.find? (fun f => decide (f.1 = e.1)) = some e := by
  cases hf : es.find? fun f => decide (f.1 = e.1) with
  | none => exact absurd (decide_eq_true rfl) (List.find?_eq_none.mp hf e he)
  | some f => rw [one_of h (List.mem_of_find?_eq_some hf) he (of_decide_eq_true (List.find?_some (p := fun f : Exc => decide (f.1 = e.1)) hf))]
/-! ### sorted -/
theorem uniq_sorted {α : Type} {r : α → α → Prop} (as : ∀ a b, r a b → ¬ r b a) : ∀ {l m : List α}, l.Perm m → l.Pairwise r → m.Pairwise r → l = m
  | [], m, p, _, _ => (List.Perm.eq_nil p.symm).symm
  | a :: l, [], p, _, _ => absurd p.length_eq (by simp)
  | a :: l, b :: m, p, h1, h2 => by
    have ha := p.mem_iff.mp (List.mem_cons_self (a := a) (l := l))
    have hb := p.mem_iff.mpr (List.mem_cons_self (a := b) (l := m))
    have e : a = b := by
      rcases List.mem_cons.mp ha with e | ha
      · exact e
      · rcases List.mem_cons.mp hb with e | hb
        · exact e.symm
        · exact absurd ((List.pairwise_cons.mp h1).1 b hb) (as _ _ ((List.pairwise_cons.mp h2).1 a ha))
    subst e
    rw [uniq_sorted as p.cons_inv (List.pairwise_cons.mp h1).2 (List.pairwise_cons.mp h2).2]
theorem lt_asym (a b : List Nat) (h : a < b) : ¬ b < a := List.lt_asymm h
theorem le_of_ltCps {a b : List Nat} (h : ltCps b a = false) : a ≤ b := by
  rw [ltCps_eq] at h
  exact List.not_lt.mp (of_decide_eq_false h)
theorem rising_pw : ∀ (l : List Str) (p : Str), risingS p l = true → (p :: l).Pairwise fun a b => a.cps.toList ≤ b.cps.toList
  | [], p, _ => List.pairwise_singleton _ _
  | x :: r, p, h => by
    have h : (!ltCps x.cps.toList p.cps.toList && risingS x r) = true := h
    rw [Bool.and_eq_true] at h
    have ih := rising_pw r x h.2
    have px : p.cps.toList ≤ x.cps.toList := le_of_ltCps (by simpa using h.1)
    refine List.pairwise_cons.mpr ⟨fun y hy => ?_, ih⟩
    rcases List.mem_cons.mp hy with rfl | hy
    · exact px
    · exact List.le_trans px ((List.pairwise_cons.mp ih).1 y hy)
theorem sortedS_pw : ∀ {l : List Str}, sortedS l = true → l.Pairwise fun a b => a.cps.toList ≤ b.cps.toList
  | [], _ => .nil
  | x :: r, h => rising_pw r x h
def wordsS (es : List Exc) : List Str := es.map fun e => T e.1
theorem strict_words {es : List Exc} (up : es.Pairwise fun e f => e.1 < f.1) : (wordsS es).Pairwise fun a b => a.cps.toList < b.cps.toList := by
  unfold wordsS
  rw [List.pairwise_map]
  exact up
theorem strict_of {l : List Str} (h : l.Pairwise fun a b => a.cps.toList ≤ b.cps.toList) (nd : l.Nodup) : l.Pairwise fun a b => a.cps.toList < b.cps.toList := by
  refine List.Pairwise.imp_of_mem (fun {a b} _ _ h => ?_) (List.Pairwise.and h nd)
  obtain ⟨h1, h2⟩ := h
  refine Decidable.byContradiction fun n => h2 (TL.ext_tl (List.le_antisymm h1 (List.not_lt.mp n)))
theorem nd_strict {l : List Str} (h : l.Pairwise fun a b => a.cps.toList < b.cps.toList) : l.Nodup := by
  refine List.Pairwise.imp (fun {a b} h => ?_) h
  intro z
  rw [z] at h
  exact List.lt_irrefl _ h
theorem sorted_keys {es es' : List Exc} {ys : List Str} (hp : es'.Perm es) (up : es'.Pairwise fun e f => e.1 < f.1) (hy : ys.Perm (wordsS es)) (hs : sortedS ys = true) : ys = wordsS es' := by
  have s' := strict_words up
  have p2 : ys.Perm (wordsS es') := hy.trans (hp.symm.map fun e : Exc => T e.1)
  exact uniq_sorted (r := fun a b : Str => a.cps.toList < b.cps.toList) (fun a b h => lt_asym _ _ h) p2 (strict_of (sortedS_pw hs) (p2.nodup_iff.mpr (nd_strict s'))) s'
def tt (e : Exc) : Str × Str := (T e.1, T e.2)
def bk (z : Str × Str) : Exc := (z.1.cps.toList, z.2.cps.toList)
theorem tt_bk (z : Str × Str) : tt (bk z) = z := by
  show (T z.1.cps.toList, T z.2.cps.toList) = z
  rw [T_list, T_list]
theorem bk_tt (e : Exc) : bk (tt e) = e := rfl
theorem sort_exc {es : List Exc} (nd : (es.map (·.1)).Nodup) {qs : List (Str × Str)} (hp : qs.Perm (es.map tt)) (hs : qs.Pairwise fun e f => SrtT.lexT f e = false) :
    qs = (qs.map bk).map tt ∧ (qs.map bk).Perm es ∧ (qs.map bk).Pairwise fun e f => e.1 < f.1 := by
  have e1 : qs = (qs.map bk).map tt := by
    rw [List.map_map]
    conv => lhs; rw [← List.map_id qs]
    exact List.map_congr_left fun z _ => (tt_bk z).symm
  have e2 : (qs.map bk).Perm es := by
    have := hp.map bk
    rw [List.map_map] at this
    have e3 : es.map (bk ∘ tt) = es := by
      conv => rhs; rw [← List.map_id es]
      exact List.map_congr_left fun e _ => rfl
    rwa [e3] at this
  refine ⟨e1, e2, ?_⟩
  have nd2 : ((qs.map bk).map (·.1)).Nodup := (e2.map (·.1)).nodup_iff.mpr nd
  rw [List.pairwise_map]
  have nd3 : qs.Pairwise fun a b => ¬ (bk a).1 = (bk b).1 := by
    have : ((qs.map bk).map (·.1)).Pairwise (· ≠ ·) := nd2
    rw [List.pairwise_map, List.pairwise_map] at this
    exact this
  refine List.Pairwise.imp_of_mem (fun {a b} _ _ h => ?_) (List.Pairwise.and hs nd3)
  obtain ⟨h1, h2⟩ := h
  rcases SrtT.lexT_no.mp h1 with q | ⟨q, _⟩
  · exact q
  · exact absurd (congrArg (fun z : Str => z.cps.toList) q.symm) h2
end Say
namespace Say
open PySem PySem.Spec PyProof.Rows L2
theorem paired_map {α β γ : Type} {F : α → β → Prop} {f : γ → α} {g : γ → β} : ∀ {l : List γ}, (∀ z ∈ l, F (f z) (g z)) → Paired F (l.map f) (l.map g)
  | [], _ => .nil
  | z :: l, h => .cons (h z (List.mem_cons_self ..)) (paired_map fun y hy => h y (List.mem_cons_of_mem _ hy))
theorem strOk_T {l : List Nat} (h : ∀ c ∈ l, c < 1114112) : PyData.strOk (T l) = true := by
  show l.toArray.all (· < 0x110000) = true
  rw [List.all_toArray, List.all_eq_true]
  intro c hc
  exact decide_eq_true (h c hc)
theorem shaped_two {x y : PyData} (hx : x.canLay0 = true) (hy : y.canLay0 = true) (dx : x.depth = 0) (dy : y.depth = 0) : SeqAt.shaped (.tuple [x, y]) = true := by
  unfold SeqAt.shaped
  rw [Bool.and_eq_true]
  refine ⟨?_, ?_⟩
  · show PyData.canLayAll0 [x, y] = true
    simp [PyData.canLayAll0, hx, hy]
  · refine decide_eq_true ?_
    show PyData.depthAll [x, y] + 1 ≤ 64
    simp [PyData.depthAll, dx, dy]
/-- the row stays where all but a dict does -/
theorem RowAt.stpD {K : PySem.W.Frag} {H H' : Hp} {r a F : Addr} {ns : List Int} {kvs : List (Key × V)} (R : RowAt K H r a ns) (hF : H F = some (.dK kvs)) (e : Stp F H H') : RowAt K H' r a ns := by
  obtain ⟨⟨i', c', m', q', b'⟩, sc, le⟩ := R
  refine ⟨⟨i', c', m', e _ _ q' (ne_of q' hF (by intro z; cases z)), b'⟩, ?_, le⟩
  rcases sc with (sc | ⟨o, sc⟩) | sc
  · exact .inl (.inl (e _ _ sc (ne_of sc hF (by intro z; cases z))))
  · exact .inl (.inr ⟨o, e _ _ sc (ne_of sc hF (by intro z; cases z))⟩)
  · exact .inr sc
end Say
namespace Say
open PySem PySem.Spec PyProof.Rows L2
section
variable {X : Cx}
/-- tuple(xs) of a list: a tuple as it is made -/
theorem call_tupN : CallR X (.type "tuple") (fun xs H Q => ∃ p ys, xs = [.ref p] ∧ SqL X.K H p ys ∧ ∀ (l : Addr) (o : Obj), o.dict = none → H l = none → Q (.ref l) (upd H l (.frz o (.tup ys)))) := by
  intro pins s σ H xs us Q I r h
  obtain ⟨p, ys, rfl, hq, q⟩ := h
  obtain ⟨u, rfl, rx⟩ := vals1 r
  cases rx
  obtain ⟨its, r', pl, hz⟩ := I.list hq
  have hlen := r'.length
  refine call_tuple_list pl.isList (fun h' kp => ?_) (by simp only [List.size_toArray] <;> omega)
  have I1 : Inv X pins σ H { s with heap := h' } := I.kept (t' := s.toks) kp
  have I2 : Inv X pins σ (upd H h'.objs.size (.frz { cls := .type "tuple", data := .seq its.toArray } (.tup ys))) { s with heap := h'.push { cls := .type "tuple", data := .seq its.toArray } } :=
    I1.laid (t' := s.toks) (fun b o e => Heap.get?_push_of_some _ e) (Nat.le_refl _) (show ObjOk X.prog X.w _ _ _ (.frz _ (.tup ys)) from ⟨Heap.get?_push_size _ rfl, hz, its, r', IsTup.new _ _⟩)
  exact ⟨.ref h'.objs.size, _, I2, rfl, q _ _ rfl (I1.hok.fresh (Nat.le_refl _))⟩
theorem pairs_ofT {pins : List (Addr × Obj)} {σ : L2.St} {H : Hp} {s : Shared} (I : L2.Inv X pins σ H s) : ∀ {ps : List Addr} {kvs : List (Key × V)}, Paired (fun p kv => SqT X.K H p [kV kv.1, kv.2]) ps kvs →
    ∃ (prs : List (Key × Value)) (vs : List (Value × Value)), KV kvs prs ∧ prs.length = ps.length ∧ vs.length = ps.length ∧
      ∀ (j : Nat) (k v : Value), vs[j]? = some (k, v) → ∃ (b : Addr) (q : Key), ps[j]? = some b ∧ prs[j]? = some (q, v) ∧ IsTup s.heap b #[k, v] ∧ keyIs q k = true
  | _, _, .nil => ⟨[], [], .nil, rfl, rfl, fun j k v e => by simp at e⟩
  | _, _, .cons (a := p) (b := kv) h t => by
    obtain ⟨prs, vs, r, hl, hl2, hp⟩ := pairs_ofT I t
    obtain ⟨its, rv, ht, _⟩ := I.tuple h
    obtain ⟨u, y, ei, ru, ry⟩ := vals2 rv
    subst ei
    refine ⟨(kv.1, y) :: prs, (u, y) :: vs, .cons ⟨rfl, ry⟩ r, by rw [List.length_cons, List.length_cons, hl], by rw [List.length_cons, List.length_cons, hl2], fun j k v e => ?_⟩
    cases j with
    | zero =>
      have e' : (u, y) = (k, v) := Option.some.inj e
      cases e'
      exact ⟨p, kv.1, rfl, rfl, ht, kV_is (P := X.prog) (w := X.w) ru⟩
    | succ j =>
      obtain ⟨b, q, e1, e2, e3⟩ := hp j k v (by simpa using e)
      exact ⟨b, q, by simpa using e1, by simpa using e2, e3⟩
/-- a display, as it is made -/
def tTupN (t : TA) : TE := fun σ H Q => t σ H fun xs H1 => xs.length ≤ sizeLine ∧ ∀ (p : Addr) (o : Obj), o.dict = none → H1 p = none → Q (.ref p) (upd H1 p (.frz o (.tup xs)))
theorem pe_tupN {es : List Expr} {t : TA} {pos : Pos} {x1} (h : PA X es t) : PE X (.Tuple es x1 pos) (tTupN t) := by
  refine ⟨fun pins s σ H Q I hq => ?_⟩
  refine wpAny_Tuple_spliced (thn (h.run pos pins s σ H _ I hq) fun us s1 ⟨xs, H1, I1, r, z, q⟩ => ⟨by rw [← r.length]; exact z, ?_⟩)
  have hf : H1 s1.heap.objs.size = none := I1.hok.fresh (Nat.le_refl _)
  exact ⟨.ref s1.heap.objs.size, upd H1 s1.heap.objs.size (.frz _ (.tup xs)), I1.laid (t' := s1.toks) (fun b u e => Heap.get?_push_of_some _ e) (Nat.le_refl _) ⟨Heap.get?_push_size _ rfl, z, us, r, ⟨_, Heap.get?_push_size _ rfl, rfl, _, rfl⟩⟩, rfl, q _ _ rfl hf⟩
/-- dict(ps) of such a tuple of pairs -/
theorem call_dictT (hcalm : X.calm = true) : CallR X (.type "dict") (fun xs H Q => ∃ (a : Addr) (ps : List Addr) (kvs : List (Key × V)), xs = [.ref a] ∧ TupN H a (ps.map V.ref) ∧ Paired (fun p kv => SqT X.K H p [kV kv.1, kv.2]) ps kvs ∧
    ∀ p, H p = none → Q (.ref p) (upd H p (.dK (mergeK [] kvs)))) := by
  intro pins s σ H xs us Q I r q
  obtain ⟨a, ps, kvs, ex, hq, hp, q⟩ := q
  subst ex
  obtain ⟨u, eu, rx⟩ := vals1 r
  subst eu
  cases rx
  obtain ⟨o, hH, hd⟩ := hq
  obtain ⟨ho, hz, its, rv, ⟨o', ho', hc, n, hdat⟩⟩ : s.heap.get? a = some o ∧ (ps.map V.ref).length ≤ sizeLine ∧ ∃ its : List Value, Vals (ps.map V.ref) its ∧ IsTup s.heap a its.toArray := I.hok _ _ hH
  have eo : o' = o := Option.some.inj (ho'.symm.trans ho)
  subst eo
  have ei := refs_at rv
  subst ei
  rw [List.length_map] at hz
  obtain ⟨prs, vs, rel, hl, hl2, hpr⟩ := pairs_ofT I hp
  refine PySem.call_dict_pairs (knd := mixKind X.prog X.w) (kvs := prs) (PySem.PairArg.tuple a (ps.map Value.ref).toArray (fun j => (ps[j]?).getD 0) vs) (I.ok.hd hcalm) ⟨⟨o', n, ho, hc, hd, hdat⟩, by simp [hl2], fun j k v e => ?_⟩ ⟨by rw [hl, hl2], fun j k v e => ?_⟩ (by rw [hl2]; exact hz) fun h' tk hd' k => ?_
  · obtain ⟨b, q', e1, _, e3, _⟩ := hpr j k v e
    refine ⟨by simp [e1], .inl ?_⟩
    show s.heap.IsTuple ((ps[j]?).getD 0) _
    rw [e1]
    exact e3
  · obtain ⟨b, q', e1, e2, _, e4⟩ := hpr j k v e
    exact ⟨q', e2, e4⟩
  · have hm : (s.heap.objs.size == sysModules) = false := beq_eq_false_iff_ne.mpr (Nat.ne_of_gt I.big)
    have hlen : (mergeK [] kvs).length ≤ sizeLine := by
      refine Nat.le_trans (length_mergeK kvs []) ?_
      rw [List.length_nil, Nat.zero_add, rel.length, hl]
      exact hz
    have k' : ∀ b o, s.heap.get? b = some o → h'.get? b = some o := fun b o e => k b o (by simp) e
    exact ⟨.ref s.heap.objs.size, upd H s.heap.objs.size (.dK (mergeK [] kvs)), I.laid (t' := tk) k' (Nat.le_refl _) (show ObjOk X.prog X.w _ _ _ (.dK (mergeK [] kvs)) from ⟨hlen, hm, merged [] prs, KV.merge rel .nil, hd'⟩), rfl, q _ (I.hok.fresh (Nat.le_refl _))⟩
end
end Say
namespace Say
open PySem PySem.Spec PyProof.Rows L2
section
variable {P : Program} {w : World} {K : PySem.W.Frag} {mg : Str → Option Value} {base : Heap}
abbrev sTaken : Stmt := topS 53
theorem scTaken : FnScope ["_law_row_here", "_law_many", "_law_found", "_law_cell"] ["_law_row_here", "_law_many"] (defScope sTaken) := ⟨rfl, rfl, rfl, by decide +kernel, rfl, by decide +kernel, by decide +kernel⟩
theorem fmod_in {x n : Int} (h : 0 < n) : 0 ≤ x.fmod n ∧ x.fmod n < n := ⟨Int.fmod_nonneg_of_pos _ h, Int.fmod_lt_of_pos _ h⟩
theorem ok_taken {f : Addr} {fd : FuncData} {k : Nat} (F : Fun K "_law_taken" "_law_taken" sTaken f fd) (ml : mg "len" = none) : FnOk P w K mg base CX0 (k + 1) f fd ["_law_row_here", "_law_many"] (spTaken K) := by
  refine F.ok scTaken (fun vs H Q E h => ?_) (fun cdv A outer s H vs Q E hr h => ?_)
  · obtain ⟨r, a, ns, n, rfl, _⟩ := h
    rfl
  · obtain ⟨r, a, ns, n, rfl, R, h0, h1, q⟩ := h
    obtain ⟨⟨i, c, m, hR, hi, hm0, hm1⟩, hS, hle⟩ := id R
    refine ⟨_, pss_cons (ps_if (pt_cmpR op_gt (pe_ix ix_list (pv 0) pe_int (fun _ _ => rfl)) pe_int (nomark _))
        (pss_cons (ps_set (i := 2) scTaken.nd rfl (.inl rfl) (pe_op op_modN (pe_ix ix_list (pv 0) pe_int (fun _ _ => rfl)) (pv 1)))
        (pss_cons (ps_asg (pe_op op_fdivN (pe_ix ix_list (pv 0) pe_int (fun _ _ => rfl)) (pv 1)) (pg_sub (pv 0) pe_int set_list))
        (pss_one (ps_ret (pv 2))))) pss_nil)
      (pss_cons (ps_if (pt_cmpR op_lt (pe_ix ix_list (pv 0) pe_int (fun _ _ => rfl)) (pe_callB call_len_seq (by rfl) ml PySem.boot_len (pa_cons (pe_ix ix_list (pv 0) pe_int (fun _ _ => rfl)) pa_nil)) (nomark _))
        (pss_cons (ps_set (i := 3) scTaken.nd rfl (.inl rfl) (pe_ix ix_list (pe_ix ix_list (pv 0) pe_int (fun _ _ => rfl)) (pe_ix ix_list (pv 0) pe_int (fun _ _ => rfl)) (fun _ _ => rfl)))
        (pss_cons (ps_asg (pe_op op_add (pe_ix ix_list (pv 0) pe_int (fun _ _ => rfl)) pe_int) (pg_sub (pv 0) pe_int set_list))
        (pss_cons (ps_if (pt_cmpR op_ge (pv 3) (pe_op op_pow pe_int pe_int) (nomark _))
          (pss_one (ps_asg (pe_op op_fdivN (pv 3) (pv 1)) (pg_sub (pv 0) pe_int set_list))) pss_nil)
        (pss_one (ps_ret (pe_op op_modN (pv 3) (pv 1))))))) pss_nil)
      (pss_cons (ps_asg (pe_op op_modN (pe_op op_add (pe_op op_mul (pe_ix ix_list (pv 0) pe_int (fun _ _ => rfl)) pe_int) pe_int) pe_int) (pg_sub (pv 0) pe_int set_list))
      (pss_one (ps_ret (pe_op op_modN (pe_op op_fdivN (pe_ix ix_list (pv 0) pe_int (fun _ _ => rfl)) pe_int) (pv 1)))))), ?_⟩
    have hL : SqL K H r [.ref a, .int i, .int c, .int m] := .inl (.inl hR)
    have gn : n ≠ 0 ∧ n.natAbs < 1073741824 := ⟨by omega, by omega⟩
    -- row[2] > 0
    refine ⟨_, rfl, r, _, 2, .int c, rfl, rfl, hL, atI_nat (j := 2) rfl, _, _, rfl, rfl, _, rfl, ite2 (fun e => ?_) (fun e => ?_)⟩
    · refine ⟨_, rfl, r, _, 2, .int c, rfl, rfl, hL, atI_nat (j := 2) rfl, _, rfl, _, _, rfl, rfl, gn.1, ?_⟩
      refine ⟨_, rfl, r, _, 2, .int c, rfl, rfl, hL, atI_nat (j := 2) rfl, _, rfl, _, _, rfl, rfl, gn, ?_⟩
      refine ⟨_, rfl, r, _, 2, 2, rfl, rfl, hR, rfl, ?_⟩
      refine ⟨_, rfl, ?_⟩
      exact q _ _ (fmod_in h0).1 (fmod_in h0).2 (stp_at _) (R.put hi hm0 hm1)
    -- row[1] < len(row[0])
    refine ⟨_, rfl, r, _, 1, .int i, rfl, rfl, hL, atI_nat (j := 1) rfl, _, rfl, r, _, 0, .ref a, rfl, rfl, hL, atI_nat (j := 0) rfl, a, _, rfl, .inl hS, _, _, rfl, rfl, _, rfl, ite2 (fun e1 => ?_) (fun e1 => ?_)⟩
    · have e2 : i < ((ns.map V.int).length : Int) := of_decide_eq_true e1
      rw [List.length_map] at e2
      have hj : i.toNat < ns.length := by omega
      have gx : (ns.map V.int)[i.toNat]? = some (.int ns[i.toNat]) := by
        rw [List.getElem?_map, List.getElem?_eq_getElem hj]
        rfl
      refine ⟨_, rfl, r, _, 0, .ref a, rfl, rfl, hL, atI_nat (j := 0) rfl, _, rfl, r, _, 1, .int i, rfl, rfl, hL, atI_nat (j := 1) rfl, a, _, i, .int ns[i.toNat], rfl, rfl, hS, at_of (j := i.toNat) (by omega) gx, ?_⟩
      refine ⟨_, rfl, r, _, 1, .int i, rfl, rfl, hL, atI_nat (j := 1) rfl, _, _, rfl, rfl, ?_⟩
      refine ⟨_, rfl, r, _, 1, 1, rfl, rfl, hR, rfl, ?_⟩
      have R1 : RowAt K (upd H r (.lst [.ref a, .int (i + 1), .int c, .int m])) r a ns := R.put (by omega) hm0 hm1
      refine ⟨_, rfl, _, _, rfl, rfl, ⟨by decide, by decide, by decide⟩, _, _, rfl, rfl, _, rfl, ite2 (fun e3 => ?_) (fun e3 => ?_)⟩
      · refine ⟨_, rfl, _, rfl, _, _, rfl, rfl, gn, ?_⟩
        refine ⟨_, rfl, r, _, 2, 2, rfl, rfl, upd_same, rfl, ?_⟩
        refine ⟨_, rfl, _, rfl, _, _, rfl, rfl, gn.1, ?_⟩
        exact q _ _ (fmod_in h0).1 (fmod_in h0).2 ((stp_at _).trans (stp_at _)) (R1.put (by omega) hm0 hm1)
      · refine ⟨_, rfl, _, rfl, _, _, rfl, rfl, gn.1, ?_⟩
        exact q _ _ (fmod_in h0).1 (fmod_in h0).2 (stp_at _) R1
    · refine ⟨_, rfl, r, _, 3, .int m, rfl, rfl, hL, atI_nat (j := 3) rfl, _, _, rfl, rfl, .inl ⟨by omega, by omega⟩, _, _, rfl, rfl, _, _, rfl, rfl, (by show (2147483647 : Int) ≠ 0; decide), ?_⟩
      refine ⟨_, rfl, r, _, 3, 3, rfl, rfl, hR, rfl, ?_⟩
      have b := fmod_in (x := m * 48271 + 12345) (n := 2147483647) (by decide)
      have R1 : RowAt K (upd H r (.lst [.ref a, .int i, .int c, .int ((m * 48271 + 12345).fmod 2147483647)])) r a ns := R.put hi b.1 b.2
      refine ⟨_, rfl, r, _, 3, .int ((m * 48271 + 12345).fmod 2147483647), rfl, rfl, .inl (.inl upd_same), atI_nat (j := 3) rfl, _, _, rfl, rfl, ⟨by decide, by decide⟩, _, rfl, _, _, rfl, rfl, gn.1, ?_⟩
      exact q _ _ (fmod_in h0).1 (fmod_in h0).2 (stp_at _) R1
end
end Say
namespace Say
open PySem PySem.Spec PyProof.Rows L2
def lets : List (List Nat) := [[97, 98], [97, 98, 99], [97, 99], [97, 98, 99, 100]]
section
variable {P : Program} {w : World} {K : PySem.W.Frag} {mg : Str → Option Value} {base : Heap}
abbrev sSide : Stmt := topS 55
theorem scSide : FnScope ["_law_row_here", "_law_letters_here", "_law_sign"] ["_law_row_here", "_law_letters_here"] (defScope sSide) := ⟨rfl, rfl, rfl, by decide +kernel, rfl, by decide +kernel, by decide +kernel⟩
def spSide (K : PySem.W.Frag) : Sp := fun vs H Q _ => ∃ (r a : Addr) (ns : List Int) (L : List Nat), vs = [.ref r, .str (T L)] ∧ RowAt K H r a ns ∧ L.length ≤ 4 ∧
  ∀ (z : List Nat) (H' : Hp), z.Sublist (35 :: L) → Stp r H H' → RowAt K H' r a ns → Q (.str (T z)) H'
theorem ok_side {f : Addr} {fd : FuncData} (F : Fun K "_law_side" "_law_side" sSide f fd) (DT : Df P w K mg base "_law_taken" ["_law_row_here", "_law_many"] 1 (spTaken K)) :
    FnOk P w K mg base CX0 2 f fd ["_law_row_here", "_law_letters_here"] (spSide K) := by
  obtain ⟨fT, fdT, GT, kT, bT, mT⟩ := DT
  refine F.ok scSide (fun vs H Q E h => ?_) (fun cdv A outer s H vs Q E hr h => ?_)
  · obtain ⟨r, a, ns, L, rfl, _⟩ := h
    rfl
  · obtain ⟨r, a, ns, L, rfl, R, hl, q⟩ := h
    refine ⟨_, pss_cons (ps_if (pt_cmpR op_eq (pe_call GT hr (by rfl) mT kT bT .nil pass0 (pa_cons (pv 0) (pa_cons pe_int pa_nil))) pe_int (nomark _)) (pss_one (ps_ret pe_str)) pss_nil)
      (pss_one (ps_ret (pe_join pe_str (pe_lc (own := [("_law_sign", 2)]) (g := gName 2) rfl scSide.nd (pi_str (pe_op op_add_str pe_str (pv 1)))
        (blkOk_by (N := ["_law_row_here", "_law_letters_here", "_law_sign"]) (sc := defScope sSide) (by decide +kernel)) (fun _ _ _ _ _ => pg_name (i := 2) scSide.nd rfl (.inl rfl))
        (fun _ _ _ _ _ => pts_one (pt_cmpR op_eq (pe_call GT hr (by rfl) mT kT bT .nil pass0 (pa_cons (pv 0) (pa_cons pe_int pa_nil))) pe_int (nomark _))) (fun _ _ _ _ _ => pv 2))))), ?_⟩
    refine ⟨_, rfl, r, a, ns, 2, rfl, R, by decide, by decide, fun k1 H1 h0 h1 s1 R1 => ?_⟩
    refine ⟨rfl, _, rfl, ite2 (fun _ => ?_) (fun _ => ?_)⟩
    · have e := q [] H1 (List.nil_sublist _) s1 R1
      exact e
    refine ⟨⟨_, rfl⟩, _, rfl, _, _, rfl, rfl, (by rw [len_hash, T_len]; exact small (by omega)), ?_⟩
    refine ⟨T (35 :: L), congrArg V.str (hash_app L), fun D hD => ?_⟩
    refine lc_it (walk_str) (fun i H2 => ∃ acc : List Nat, H2 D = some (.lst (sg acc)) ∧ acc.Sublist ((35 :: L).take i) ∧ Stp r H1 H2 ∧ RowIn H2 r a) ?_ (fun _ _ _ _ => trivial) ?_ ?_
    · exact ⟨[], upd_same, List.nil_sublist _, Stp.of (same_new hD _), R1.in.upd (R1.nw hD)⟩
    · rintro i x H2 H2' hi ⟨acc, e1, e2, e3, e4⟩ ⟨rfl, c, hc, rfl⟩
      have hc := T_at hc
      have tk := take_next hc
      refine ⟨rfl, _, rfl, r, a, ns, 2, rfl, R1.of e3 e4, by decide, by decide, fun k2 H3 h0 h1 s2 R2 => ?_⟩
      have e1' := s2.one e1 (R1.nw hD)
      refine ⟨rfl, _, rfl, ite2 (fun _ => ?_) (fun _ => ?_)⟩
      · refine ⟨_, rfl, _, e1', ?_, acc ++ [c], ?_, ?_, (e3.trans s2).put hD _, R2.in.upd (R1.nw hD)⟩
        · have := e2.length_le
          rw [sg_len]
          rw [List.length_take, List.length_cons] at this
          exact small1000 (by omega)
        · rw [upd_same]
          exact congrArg (fun l => some (HO.lst l)) (sg_app acc c)
        · rw [tk]
          exact e2.append (List.Sublist.refl [c])
      · refine ⟨acc, e1', ?_, e3.trans s2, R2.in⟩
        rw [tk]
        exact e2.trans (List.sublist_append_left _ _)
    · rintro H2 ⟨acc, e1, e2, e3, e4⟩
      rw [T_size, List.take_length] at e2
      refine ⟨Str.ofString "", D, (acc.map fun c => [c]).map T, rfl, rfl, .inl (.inl (.inl ?_)), ?_, ?_⟩
      · rw [e1, sg_map]
      · rw [sum_ones]
        have := e2.length_le
        rw [List.length_cons] at this
        show acc.length + _ * 0 ≤ _
        omega
      · rw [show Str.ofString "" = T [] from nil_eq, join_nil, map_single]
        exact q acc H2 e2 (s1.trans e3) (R1.of e3 e4)
end
end Say
namespace Say
open PySem PySem.Spec PyProof.Rows L2
section
variable {P : Program} {w : World} {K : PySem.W.Frag} {mg : Str → Option Value} {base : Heap}
abbrev sText : Stmt := topS 56
theorem scText : FnScope ["_law_row_here", "_law_signs", "_law_fewest", "_law_many", "_law_k"] ["_law_row_here", "_law_signs", "_law_fewest", "_law_many"] (defScope sText) := ⟨rfl, rfl, rfl, by decide +kernel, rfl, by decide +kernel, by decide +kernel⟩
def spText (K : PySem.W.Frag) : Sp := fun vs H Q _ => ∃ (r a : Addr) (ns : List Int) (S : List Nat) (lo hi : Nat), vs = [.ref r, .str (T S), .int lo, .int hi] ∧ RowAt K H r a ns ∧ 0 < S.length ∧ S.length ≤ 100 ∧ lo ≤ hi ∧ hi ≤ 100 ∧
  ∀ (z : List Nat) (H' : Hp), (∀ c ∈ z, c ∈ S) → lo ≤ z.length → z.length ≤ hi → Stp r H H' → RowAt K H' r a ns → Q (.str (T z)) H'
theorem ok_text {f : Addr} {fd : FuncData} (F : Fun K "_law_text" "_law_text" sText f fd) (DT : Df P w K mg base "_law_taken" ["_law_row_here", "_law_many"] 1 (spTaken K)) (ml : mg "len" = none) (mr : mg "range" = none) :
    FnOk P w K mg base CX0 2 f fd ["_law_row_here", "_law_signs", "_law_fewest", "_law_many"] (spText K) := by
  obtain ⟨fT, fdT, GT, kT, bT, mT⟩ := DT
  refine F.ok scText (fun vs H Q E h => ?_) (fun cdv A outer s H vs Q E hr h => ?_)
  · obtain ⟨r, a, ns, S, lo, hi, rfl, _⟩ := h
    rfl
  · obtain ⟨r, a, ns, S, lo, hi, rfl, R, hS0, hS1, hlh, hh, q⟩ := h
    refine ⟨_, pss_one (ps_ret (pe_join pe_str (pe_lc (own := [("_law_k", 4)]) (g := gName 4) rfl scText.nd
        (pi_range1 rfl mr (pa_cons (pe_op op_add (pv 2) (pe_call GT hr (by rfl) mT kT bT .nil pass0 (pa_cons (pv 0) (pa_cons (pe_op op_add (pe_op op_sub (pv 3) (pv 2)) pe_int) pa_nil)))) pa_nil))
        (blkOk_by (N := ["_law_row_here", "_law_signs", "_law_fewest", "_law_many", "_law_k"]) (sc := defScope sText) (by decide +kernel)) (fun _ _ _ _ _ => pg_name (i := 4) scText.nd rfl (.inl rfl))
        (fun _ _ _ _ _ => pts_nil) (fun _ _ _ _ _ => pe_ix ix_str (pv 1) (pe_call GT hr (by rfl) mT kT bT .nil pass0 (pa_cons (pv 0) (pa_cons (pe_callB call_len_str (by rfl) ml PySem.boot_len (pa_cons (pv 1) pa_nil)) pa_nil))) (fun _ _ => rfl))))), ?_⟩
    refine ⟨⟨_, rfl⟩, _, rfl, _, rfl, _, rfl, _, rfl, _, _, rfl, rfl, _, _, rfl, rfl, r, a, ns, _, rfl, R, by omega, by omega, fun k1 H1 h0 h1 s1 R1 => ?_⟩
    refine ⟨_, _, rfl, rfl, (lo : Int) + k1, rfl, by omega, by omega, fun D hD => ?_⟩
    refine lc_it (walk_range) (fun i H2 => ∃ acc : List Nat, H2 D = some (.lst (sg acc)) ∧ acc.length = i ∧ (∀ c ∈ acc, c ∈ S) ∧ Stp r H1 H2 ∧ RowIn H2 r a) ?_ (fun _ _ _ _ => trivial) ?_ ?_
    · exact ⟨[], upd_same, rfl, by simp, Stp.of (same_new hD _), R1.in.upd (R1.nw hD)⟩
    · rintro i x H2 H2' hi' ⟨acc, e1, e2, e3, e4, e5⟩ ⟨rfl, rfl⟩
      refine ⟨rfl, ?_⟩
      refine ⟨_, rfl, _, rfl, _, rfl, _, rfl, (by rw [T_len]; exact small (by omega)), r, a, ns, _, rfl, R1.of e4 e5, (by rw [T_len]; omega), (by rw [T_len]; omega), fun k2 H3 h2 h3 s2 R2 => ?_⟩
      have e1' := s2.one e1 (R1.nw hD)
      rw [T_len] at h3
      have hj : k2.toNat < S.length := by omega
      refine ⟨T S, k2, S[k2.toNat], rfl, rfl, (by rw [T_len]; exact small (by omega)), at_list hj (by omega), ?_⟩
      refine ⟨_, e1', ?_, acc ++ [S[k2.toNat]], ?_, by simp [e2], ?_, (e4.trans s2).put hD _, R2.in.upd (R1.nw hD)⟩
      · rw [sg_len]
        exact small1000 (by omega)
      · rw [upd_same]
        exact congrArg (fun l => some (HO.lst l)) (sg_app acc _)
      · intro c hc
        rcases List.mem_append.mp hc with h | h
        · exact e3 c h
        · rw [List.mem_singleton.mp h]
          exact List.getElem_mem hj
    · rintro H2 ⟨acc, e1, e2, e3, e4, e5⟩
      refine ⟨Str.ofString "", D, (acc.map fun c => [c]).map T, rfl, rfl, .inl (.inl (.inl ?_)), ?_, ?_⟩
      · rw [e1, sg_map]
      · rw [sum_ones]
        show acc.length + _ * 0 ≤ _
        omega
      · rw [show Str.ofString "" = T [] from nil_eq, join_nil, map_single]
        exact q acc H2 e3 (by omega) (by omega) (s1.trans e4) (R1.of e4 e5)
end
end Say
namespace Say
open PySem PySem.Spec PyProof.Rows L2
section
variable {P : Program} {w : World} {K : PySem.W.Frag} {mg : Str → Option Value} {base : Heap}
abbrev sRule : Stmt := topS 57
theorem scRule : FnScope ["_law_row_here", "_law_letters_here", "_law_ahead", "_law_own"] ["_law_row_here", "_law_letters_here"] (defScope sRule) := ⟨rfl, rfl, rfl, by decide +kernel, rfl, by decide +kernel, by decide +kernel⟩
def spRule (K : PySem.W.Frag) : Sp := fun vs H Q _ => ∃ (r a : Addr) (ns : List Int) (L : List Nat), vs = [.ref r, .str (T L)] ∧ RowAt K H r a ns ∧ 0 < L.length ∧ L.length ≤ 4 ∧
  ∀ (ρ : Rule) (t : Addr) (H' : Hp), RuleOk L ρ → H' t = some (.tup ρ.vs) → Stp r H H' → RowAt K H' r a ns → Q (.ref t) H'
theorem AB_eq : Str.ofString "AB" = T [65, 66] := by decide +kernel
theorem AB_ok {z : List Nat} (h : ∀ c ∈ z, c ∈ [65, 66]) : ∀ c ∈ z, 65 ≤ c ∧ c ≤ 90 := fun c hc => by
  have := h c hc
  simp at this
  omega
theorem ok_rule {f : Addr} {fd : FuncData} (F : Fun K "_law_rule" "_law_rule" sRule f fd) (DT : Df P w K mg base "_law_taken" ["_law_row_here", "_law_many"] 1 (spTaken K))
    (DS : Df P w K mg base "_law_side" ["_law_row_here", "_law_letters_here"] 2 (spSide K)) (DX : Df P w K mg base "_law_text" ["_law_row_here", "_law_signs", "_law_fewest", "_law_many"] 2 (spText K)) :
    FnOk P w K mg base CX0 3 f fd ["_law_row_here", "_law_letters_here"] (spRule K) := by
  obtain ⟨fT, fdT, GT, kT, bT, mT⟩ := DT
  obtain ⟨fS, fdS, GS, kS, bS, mS⟩ := DS
  obtain ⟨fX, fdX, GX, kX, bX, mX⟩ := DX
  refine F.ok scRule (fun vs H Q E h => ?_) (fun cdv A outer s H vs Q E hr h => ?_)
  · obtain ⟨r, a, ns, L, rfl, _⟩ := h
    rfl
  · obtain ⟨r, a, ns, L, rfl, R, hl0, hl, q⟩ := h
    have hr1 : Room 1 _ := hr.mono (by decide)
    refine ⟨_, pss_cons (ps_par (i := 2) (j := 3) (by rfl) scRule.nd rfl rfl (by decide) rfl rfl (pa_cons (pe_call GS hr (by rfl) mS kS bS .nil pass0 (pa_cons (pv 0) (pa_cons (pv 1) pa_nil)))
          (pa_cons (pe_call GX hr (by rfl) mX kX bX .nil pass0 (pa_cons (pv 0) (pa_cons (pv 1) (pa_cons pe_int (pa_cons pe_int pa_nil))))) pa_nil)) (by rfl))
      (pss_one (ps_ret (pe_tup (pa_cons (pv 2) (pa_cons (pv 3) (pa_cons (pe_call GS hr (by rfl) mS kS bS .nil pass0 (pa_cons (pv 0) (pa_cons (pv 1) pa_nil)))
        (pa_cons (pe_call GX hr (by rfl) mX kX bX .nil pass0 (pa_cons (pv 0) (pa_cons pe_str (pa_cons pe_int (pa_cons (pe_ix ix_list (pe_lst (pa_cons pe_int (pa_cons pe_int (pa_cons pe_int pa_nil)))) (pe_call GT hr1 (by rfl) mT kT bT .nil pass0 (pa_cons (pv 0) (pa_cons pe_int pa_nil))) (fun _ _ => rfl)) pa_nil))))) pa_nil))))))), ?_⟩
    refine ⟨_, rfl, _, rfl, r, a, ns, L, rfl, R, hl, fun ah H1 o1 s1 R1 => ?_⟩
    refine ⟨_, rfl, _, rfl, r, a, ns, L, 1, 2, rfl, R1, hl0, by omega, by decide, by decide, fun ow H2 o2 o3 o4 s2 R2 => ?_⟩
    refine ⟨_, _, rfl, ?_⟩
    refine ⟨_, rfl, _, rfl, _, rfl, _, rfl, r, a, ns, L, rfl, R2, hl, fun be H3 o5 s3 R3 => ?_⟩
    refine ⟨_, rfl, (by show 3 ≤ sizeLine; decide), fun p hp => ?_⟩
    have sm := same_new hp (.lst [V.int 1, .int 1, .int 3])
    refine ⟨_, rfl, r, a, ns, 3, rfl, R3.stp sm, by decide, by decide, fun k1 H4 h0 h1 s4 R4 => ?_⟩
    have hL : SqL K H4 p [V.int 1, .int 1, .int 3] := .inl (.inl (s4 _ _ upd_same (R3.nw hp).symm))
    have s34 := (Stp.of sm).trans s4
    have fin : ∀ m : Nat, m ≤ 3 → ∀ (so : List Nat) (H5 : Hp), (∀ c ∈ so, c ∈ [65, 66]) → 0 ≤ so.length → so.length ≤ m → Stp r H4 H5 → RowAt K H5 r a ns → 
        (4 ≤ sizeLine ∧ ∀ t, H5 t = none → Q (.ref t) (upd H5 t (.tup [.str (T ah), .str (T ow), .str (T be), .str (T so)]))) := fun m hm so H5 o6 _ o7 s5 R5 =>
      ⟨by decide, fun t ht => q ⟨ah, ow, be, so⟩ t _ ⟨o1, o2, o3, o4, o5, AB_ok o6, by show so.length ≤ 3; omega⟩ upd_same (s1.trans (s2.trans (s3.trans (s34.trans (s5.trans (Stp.of (same_new ht _))))))) (R5.stp (same_new ht _))⟩
    have hk : k1 = 0 ∨ k1 = 1 ∨ k1 = 2 := by omega
    rcases hk with e | e | e
    · exact ⟨p, _, k1, V.int 1, rfl, rfl, hL, at_of (j := 0) e rfl, r, a, ns, [65, 66], 0, 1, by rw [AB_eq]; rfl, R4, by decide, by decide, by decide, by decide, fin 1 (by decide)⟩
    · exact ⟨p, _, k1, V.int 1, rfl, rfl, hL, at_of (j := 1) e rfl, r, a, ns, [65, 66], 0, 1, by rw [AB_eq]; rfl, R4, by decide, by decide, by decide, by decide, fin 1 (by decide)⟩
    · exact ⟨p, _, k1, V.int 3, rfl, rfl, hL, at_of (j := 2) e rfl, r, a, ns, [65, 66], 0, 3, by rw [AB_eq]; rfl, R4, by decide, by decide, by decide, by decide, fin 3 (by decide)⟩
abbrev sRules : Stmt := topS 58
theorem scRules : FnScope ["_law_row_here", "_law_letters_here", "_law_most", "_law_found", "_law_letter", "_law_k"] ["_law_row_here", "_law_letters_here", "_law_most"] (defScope sRules) := ⟨rfl, rfl, rfl, by decide +kernel, rfl, by decide +kernel, by decide +kernel⟩
def spRules (K : PySem.W.Frag) : Sp := fun vs H Q _ => ∃ (r a : Addr) (ns : List Int) (L : List Nat) (n : Nat), vs = [.ref r, .str (T L), .int n] ∧ RowAt K H r a ns ∧ 0 < L.length ∧ L.length ≤ 4 ∧ n ≤ 20 ∧
  ∀ (rs : List Rule) (R : Addr) (H' : Hp), (∀ ρ ∈ rs, RuleOk L ρ) → rs.length ≤ n + L.length → RulesAt H' R rs → Stp r H H' → RowAt K H' r a ns → Q (.ref R) H'
theorem ok_rules {f : Addr} {fd : FuncData} (F : Fun K "_law_rules" "_law_rules" sRules f fd) (DT : Df P w K mg base "_law_taken" ["_law_row_here", "_law_many"] 1 (spTaken K))
    (DR : Df P w K mg base "_law_rule" ["_law_row_here", "_law_letters_here"] 3 (spRule K)) (mr : mg "range" = none) (mt : mg "tuple" = none) :
    FnOk P w K mg base CX0 4 f fd ["_law_row_here", "_law_letters_here", "_law_most"] (spRules K) := by
  obtain ⟨fT, fdT, GT, kT, bT, mT⟩ := DT
  obtain ⟨fR, fdR, GR, kR, bR, mR⟩ := DR
  refine F.ok scRules (fun vs H Q E h => ?_) (fun cdv A outer s H vs Q E hr h => ?_)
  · obtain ⟨r, a, ns, L, n, rfl, _⟩ := h
    rfl
  · obtain ⟨r, a, ns, L, n, rfl, R, hl0, hl, hn, q⟩ := h
    have hr1 : Room 1 _ := hr.mono (by decide)
    refine ⟨_, pss_cons (ps_setLc (i := 3) (own := [("_law_k", 5)]) (g := gName 5) rfl scRules.nd rfl rfl (sw_true rfl rfl rfl (by decide +kernel))
        (pi_range1 rfl mr (pa_cons (pe_call GT hr1 (by rfl) mT kT bT .nil pass0 (pa_cons (pv 0) (pa_cons (pe_op op_add (pv 2) pe_int) pa_nil))) pa_nil))
        (blkOk_by (N := ["_law_row_here", "_law_letters_here", "_law_most", "_law_found", "_law_letter", "_law_k"]) (sc := defScope sRules) (by decide +kernel)) (fun _ _ _ _ _ => pg_name (i := 5) scRules.nd rfl (.inl rfl))
        (fun _ _ _ _ _ => pts_nil) (fun _ _ _ _ _ => pe_call GR hr (by rfl) mR kR bR .nil pass0 (pa_cons (pv 0) (pa_cons (pv 1) pa_nil))))
      (pss_cons (ps_if (pt_cmpR op_gt (pe_call GT hr1 (by rfl) mT kT bT .nil pass0 (pa_cons (pv 0) (pa_cons pe_int pa_nil))) pe_int (nomark _))
        (pss_one (ps_for PassesOwn.never rfl (pi_str (pv 1)) (pg_name (i := 4) scRules.nd rfl (.inl rfl))
          (pss_one (ps_expr (pe_bm PySem.F.plainAttrs_list PySem.F.slot_list_append PySem.F.type_list_append mt_append (pv 3)
            (pa_cons (pe_tup (pa_cons pe_str (pa_cons (pv 4) (pa_cons pe_str (pa_cons (pe_ix ix_list (pe_lst (pa_cons pe_str (pa_cons pe_str (pa_cons pe_str (pa_cons pe_str pa_nil))))) (pe_call GT hr1 (by rfl) mT kT bT .nil pass0 (pa_cons (pv 0) (pa_cons pe_int pa_nil))) (fun _ _ => rfl)) pa_nil))))) pa_nil)))))) pss_nil)
      (pss_one (ps_ret (pe_callTy call_tuple_of (by rfl) mt (by decide +kernel) (pa_cons (pv 3) pa_nil))))), ?_⟩
    refine ⟨_, rfl, _, rfl, _, _, rfl, rfl, r, a, ns, _, rfl, R, by omega, by omega, fun k1 H1 h0 h1 s1 R1 => ?_⟩
    refine ⟨k1, rfl, by omega, by omega, fun D hD => ?_⟩
    have nD := R1.nw hD
    refine lc_it (walk_range) (fun i H2 => ∃ (ts : List Addr) (rs : List Rule), H2 D = some (.lst (ts.map V.ref)) ∧ Paired (fun t ρ => H2 t = some (.tup (Rule.vs ρ))) ts rs ∧ rs.length = i ∧ (∀ ρ ∈ rs, RuleOk L ρ) ∧ Stp r H1 H2 ∧ RowIn H2 r a) ?_ (fun _ _ _ _ => trivial) ?_ ?_
    · exact ⟨[], [], upd_same, .nil, rfl, by simp, Stp.of (same_new hD _), R1.in.upd nD⟩
    · rintro i x H2 H2' hi' ⟨ts, rs, e1, e2, e3, e4, e5, e6⟩ ⟨rfl, rfl⟩
      refine ⟨rfl, ?_⟩
      refine ⟨_, rfl, _, rfl, r, a, ns, L, rfl, R1.of e5 e6, hl0, hl, fun ρ t H3 o1 o2 s2 R2 => ?_⟩
      have e1' := s2.one e1 nD
      have kt := (s2.kt e6).trans (kt_upd e1' (o := .lst (ts.map V.ref ++ [.ref t])))
      refine ⟨_, e1', ?_, ts ++ [t], rs ++ [ρ], ?_, ?_, by simp [e3], ?_, (e5.trans s2).put hD _, R2.in.upd nD⟩
      · rw [List.length_map, paired_len e2]
        exact small1000 (by omega)
      · rw [upd_same, List.map_append]
        rfl
      · exact paired_app (paired_mono (fun t ρ h => kt.1 _ _ h) e2) (.cons ((kt_upd e1').1 _ _ o2) .nil)
      · intro c hc
        rcases List.mem_append.mp hc with h | h
        · exact e4 c h
        · rw [List.mem_singleton.mp h]
          exact o1
    · rintro H2 ⟨ts, rs, e1, e2, e3, e4, e5, e6⟩
      have e3' : rs.length ≤ n := by omega
      refine ⟨_, rfl, r, a, ns, 4, rfl, R1.of e5 e6, by decide, by decide, fun k2 H3 h2 h3 s2 R2 => ?_⟩
      have e1' := s2.one e1 nD
      have e2' := paired_mono (fun t ρ h => (s2.kt e6).1 _ _ h) e2
      have e5' := e5.trans s2
      -- the end: tuple(found)
      have fin : ∀ (H4 : Hp) (ts : List Addr) (rs : List Rule), H4 D = some (.lst (ts.map V.ref)) → Paired (fun t ρ => H4 t = some (.tup (Rule.vs ρ))) ts rs → rs.length ≤ n + L.length → (∀ ρ ∈ rs, RuleOk L ρ) → Stp r H1 H4 → RowIn H4 r a → ∀ t, H4 t = none → Q (.ref t) (upd H4 t (.tup (ts.map V.ref))) := fun H4 ts rs f1 f2 f3 f4 f5 f6 t ht =>
        q rs t _ f4 f3 ⟨ts, upd_same, paired_mono (fun t ρ h => (kt_new ht).1 _ _ h) f2⟩ (s1.trans (f5.trans (Stp.of (same_new ht _)))) ((R1.of f5 f6).stp (same_new ht _))
      refine ⟨_, _, rfl, rfl, _, rfl, ite2 (fun _ => ?_) (fun _ => ?_)⟩
      · refine ⟨_, rfl, T L, rfl, for_it (walk_str) (fun i σ H4 => ∃ (ts : List Addr) (rs : List Rule) (v : Option V), σ = [some (.ref r), some (.str (T L)), some (.int n), some (.ref D), v, none] ∧ H4 D = some (.lst (ts.map V.ref)) ∧ Paired (fun t ρ => H4 t = some (.tup (Rule.vs ρ))) ts rs ∧ rs.length ≤ n + i ∧ (∀ ρ ∈ rs, RuleOk L ρ) ∧ Stp r H1 H4 ∧ RowIn H4 r a)
          ⟨ts, rs, _, rfl, e1', e2', by omega, e4, e5', R2.in⟩ (fun _ _ _ _ _ => trivial) ?_ ?_⟩
        · rintro i x σ H4 H4' hi' ⟨ts, rs, v, rfl, e1, e2, e3, e4, e5, e6⟩ ⟨rfl, c, hc, rfl⟩
          have hc := T_at hc
          have hi2 : i < L.length := by rw [T_size] at hi'; exact hi'
          have RA := R1.of e5 e6
          refine ⟨_, rfl, .inl ⟨rfl, _, .inl (.inl e1)⟩, _, rfl, (by show 4 ≤ sizeLine; decide), fun p hp => ?_⟩
          have sm := same_new hp (.lst [V.str "A", .str "B", .str "", .str "AB"])
          refine ⟨_, rfl, r, a, ns, 4, rfl, RA.stp sm, by decide, by decide, fun k3 H5 h4 h5 s3 R3 => ?_⟩
          have s3' := (Stp.of sm).trans s3
          have hL : SqL K H5 p [V.str "A", .str "B", .str "", .str "AB"] := .inl (.inl (s3 _ _ upd_same (RA.nw hp).symm))
          have f1 := s3'.one e1 nD
          have kt3 := s3'.kt e6
          have ec : c ∈ L := List.mem_of_getElem? hc
          have ok : ∀ so : List Nat, (∀ c ∈ so, 65 ≤ c ∧ c ≤ 90) → so.length ≤ 3 → RuleOk L ⟨[], [c], [], so⟩ := fun so g1 g2 =>
            ⟨List.nil_sublist _, fun d hd => by rw [List.mem_singleton.mp hd]; exact ec, Nat.le_refl _, by show 1 ≤ 2; decide, List.nil_sublist _, g1, g2⟩
          obtain ⟨so, g1, g2, g3⟩ : ∃ so : List Nat, (∀ c ∈ so, 65 ≤ c ∧ c ≤ 90) ∧ so.length ≤ 3 ∧ atI [V.str "A", .str "B", .str "", .str "AB"] k3 = some (V.str (T so)) := by
            have hk : k3 = 0 ∨ k3 = 1 ∨ k3 = 2 ∨ k3 = 3 := by omega
            rcases hk with e | e | e | e
            · exact ⟨[65], by decide, by decide, at_of (j := 0) e (by decide +kernel)⟩
            · exact ⟨[66], by decide, by decide, at_of (j := 1) e (by decide +kernel)⟩
            · exact ⟨[], by decide, by decide, at_of (j := 2) e (by decide +kernel)⟩
            · exact ⟨[65, 66], by decide, by decide, at_of (j := 3) e (by decide +kernel)⟩
          refine ⟨p, _, k3, V.str (T so), rfl, rfl, hL, g3, (by show 4 ≤ sizeLine; decide), fun t ht => ?_⟩
          have f2 := same_new ht (.tup [.str (Str.ofString ""), .str ⟨#[c]⟩, .str (Str.ofString ""), .str (T so)])
          have f3 := f2 _ _ f1
          have kt4 := (kt3.trans (KT.of f2)).trans (kt_upd f3 (o := .lst (ts.map V.ref ++ [.ref t])))
          refine ⟨D, _, _, rfl, rfl, f3, ?_, ts ++ [t], rs ++ [⟨[], [c], [], so⟩], _, rfl, ?_, ?_, ?_, ?_, ((e5.trans s3').trans (Stp.of f2)).put hD _, ?_⟩
          · rw [List.length_map, paired_len e2]
            exact small1000 (by omega)
          · rw [upd_same, List.map_append]
            rfl
          · refine paired_app (paired_mono (fun t ρ h => kt4.1 _ _ h) e2) (.cons ((kt_upd f3).1 _ _ ?_) .nil)
            rw [upd_same, show Str.ofString "" = T [] from nil_eq]
            rfl
          · rw [List.length_append]
            show rs.length + 1 ≤ n + (i + 1)
            omega
          · intro d hd
            rcases List.mem_append.mp hd with h | h
            · exact e4 d h
            · rw [List.mem_singleton.mp h]
              exact ok so g1 g2
          · exact (R3.stp f2).in.upd nD
        · rintro σ H4 ⟨ts, rs, v, rfl, e1, e2, e3, e4, e5, e6⟩
          rw [T_size] at e3
          exact ⟨_, rfl, D, _, rfl, .inl ⟨.inl (.inl e1), fin H4 ts rs e1 e2 e3 e4 e5 e6⟩⟩
      · exact ⟨_, rfl, D, _, rfl, .inl ⟨.inl (.inl e1'), fin H3 ts rs e1' e2' (by omega) e4 e5' R2.in⟩⟩
end
end Say
namespace Say
open PySem PySem.Spec PyProof.Rows L2
section
variable {P : Program} {w : World} {K : PySem.W.Frag} {mg : Str → Option Value} {base : Heap}
abbrev sRow : Stmt := topS 52
theorem scRow : FnScope ["_law_script", "_law_mixed", "_law_cell"] ["_law_script"] (defScope sRow) := ⟨rfl, rfl, rfl, by decide +kernel, rfl, by decide +kernel, by decide +kernel⟩
def spRow (K : PySem.W.Frag) : Sp := fun vs H Q _ => ∃ (a : Addr) (ns : List Int), vs = [.ref a] ∧ SqL K H a (ns.map V.int) ∧ ns.length ≤ 63 ∧
  ∀ (r : Addr) (H' : Hp), H r = none → Same H H' → RowAt K H' r a ns → Q (.ref r) H'
theorem map_int_get {ns : List Int} {i : Nat} {x : V} (h : (ns.map V.int)[i]? = some x) : ∃ z, x = V.int z := by
  rw [List.getElem?_map] at h
  cases e : ns[i]? with
  | none => rw [e] at h; cases h
  | some z => rw [e] at h; exact ⟨z, (Option.some.inj h).symm⟩
theorem ok_row {f : Addr} {fd : FuncData} {k : Nat} (F : Fun K "_law_row" "_law_row" sRow f fd) : FnOk P w K mg base CX0 (k + 1) f fd ["_law_script"] (spRow K) := by
  refine F.ok scRow (fun vs H Q E h => ?_) (fun cdv A outer s H vs Q E hr h => ?_)
  · obtain ⟨a, ns, rfl, _⟩ := h
    rfl
  · obtain ⟨a, ns, rfl, hS, hle, q⟩ := h
    refine ⟨_, pss_cons (ps_set (i := 1) scRow.nd rfl (.inl rfl) pe_int)
      (pss_cons (ps_for PassesOwn.never rfl (pi_list (pv 0)) (pg_name (i := 2) scRow.nd rfl (.inl rfl))
        (pss_one (ps_set (i := 1) scRow.nd rfl (.inl rfl) (pe_op op_modN (pe_op op_add (pe_op op_add (pe_op op_mul (pv 1) pe_int) (pv 2)) pe_int) pe_int))))
      (pss_one (ps_ret (pe_lst (pa_cons (pv 0) (pa_cons pe_int (pa_cons pe_int (pa_cons (pv 1) pa_nil)))))))), ?_⟩
    refine ⟨_, rfl, a, rfl, ⟨_, hS⟩, for_list (K := K) (a := a) (xs := ns.map V.int) (fun i σ H2 => H2 = H ∧ ∃ (m : Int) (v : Option V), σ = [some (.ref a), some (.int m), v] ∧ 0 ≤ m ∧ m < 2147483647)
      ⟨rfl, 7, none, rfl, by decide, by decide⟩ (fun i σ H2 _ h => by obtain ⟨rfl, _⟩ := h; exact hS) ?_ ?_⟩
    · rintro i x σ H2 hx ⟨rfl, m, v, rfl, h0, h1⟩
      obtain ⟨z, rfl⟩ := map_int_get hx
      refine ⟨_, rfl, _, _, rfl, rfl, .inl ⟨by omega, by omega⟩, _, rfl, _, _, rfl, rfl, _, _, rfl, rfl, _, _, rfl, rfl, (by show (2147483647 : Int) ≠ 0; decide), ?_⟩
      exact ⟨rfl, _, _, rfl, Int.fmod_nonneg_of_pos _ (by decide), Int.fmod_lt_of_pos _ (by decide)⟩
    · rintro σ H2 ⟨rfl, m, v, rfl, h0, h1⟩
      refine ⟨_, rfl, _, rfl, (by show 4 ≤ sizeLine; decide), fun p hp => ?_⟩
      have sm := same_new hp (.lst [.ref a, .int 0, .int 0, .int m])
      exact q p _ hp sm ⟨⟨0, 0, m, upd_same, by decide, h0, h1⟩, sm.seq hS, hle⟩
end
end Say
namespace Say
open PySem PySem.Spec PyProof.Rows L2 L2.DX
theorem ABD_eq : Str.ofString "ABD" = T [65, 66, 68] := by decide +kernel
theorem ABD_ok {z : List Nat} (h : ∀ c ∈ z, c ∈ [65, 66, 68]) : ∀ c ∈ z, 65 ≤ c ∧ c ≤ 90 := fun c hc => by
  have := h c hc
  simp at this
  omega
theorem RowAt.dput {K : PySem.W.Frag} {H : Hp} {r a F : Addr} {ns : List Int} {kvs : List (Key × V)} (R : RowAt K H r a ns) (hF : H F = some (.dK kvs)) (o : HO) : RowAt K (upd H F o) r a ns :=
  R.stpD hF (stp_at _)
section
variable {P : Program} {w : World} {K : PySem.W.Frag} {mg : Str → Option Value} {base : Heap}
abbrev sLEx : Stmt := topS 59
abbrev nLEx : List Str := ["_law_row_here", "_law_letters_here", "_law_most", "_law_found", "_law_k"]
theorem scLEx : FnScope nLEx ["_law_row_here", "_law_letters_here", "_law_most"] (defScope sLEx) := ⟨rfl, rfl, rfl, by decide +kernel, rfl, by decide +kernel, by decide +kernel⟩
def spLEx (K : PySem.W.Frag) : Sp := fun vs H Q _ => ∃ (r a : Addr) (ns : List Int) (L : List Nat) (n : Nat), vs = [.ref r, .str (T L), .int n] ∧ RowAt K H r a ns ∧ LetOk L ∧ n ≤ 8 ∧
  ∀ (es : List Exc) (X : Addr) (H' : Hp), (∀ e ∈ es, ExcOk L e) → es.length ≤ n → (es.Pairwise fun e f => e.1 < f.1) → ExcsAt H' X es → Stp r H H' → RowAt K H' r a ns → Q (.ref X) H'
theorem ok_LEx {f : Addr} {fd : FuncData} (F : Fun K "_law_exceptions" "_law_exceptions" sLEx f fd) (B : Bn mg) (DT : Df P w K mg base "_law_taken" ["_law_row_here", "_law_many"] 1 (spTaken K))
    (DX : Df P w K mg base "_law_text" ["_law_row_here", "_law_signs", "_law_fewest", "_law_many"] 2 (spText K)) : FnOk P w K mg base CX0 3 f fd ["_law_row_here", "_law_letters_here", "_law_most"] (spLEx K) := by
  obtain ⟨fT, fdT, GT, kT, bT, mT⟩ := DT
  obtain ⟨fX, fdX, GX, kX, bX, mX⟩ := DX
  refine F.ok scLEx (fun vs H Q E h => ?_) (fun cdv A outer s H vs Q E hr h => ?_)
  · obtain ⟨r, a, ns, L, n, rfl, _⟩ := h
    rfl
  · obtain ⟨r, a, ns, L, n, rfl, R, oL, hn, q⟩ := h
    have l2 := oL.l2
    have l4 := oL.l4
    have hu := hu_of hr
    have hr1 : Room 1 _ := hr.mono (by decide)
    refine ⟨_, pss_cons (ps_set (i := 3) scLEx.nd rfl (.inl rfl) pe_dnewK)
      (pss_cons (ps_for PassesOwn.never rfl (pi_range1 rfl B.rng (pa_cons (pe_call GT hr1 (by rfl) mT kT bT .nil pass0 (pa_cons (pv 0) (pa_cons (pe_op op_add (pv 2) pe_int) pa_nil))) pa_nil)) (pg_name (i := 4) scLEx.nd rfl (.inl rfl))
        (pss_one (ps_dput hu (pv 3) (pe_call GX hr (by rfl) mX kX bX .nil pass0 (pa_cons (pv 0) (pa_cons (pv 1) (pa_cons pe_int (pa_cons pe_int pa_nil)))))
          (pe_call GX hr (by rfl) mX kX bX .nil pass0 (pa_cons (pv 0) (pa_cons pe_str (pa_cons pe_int (pa_cons pe_int pa_nil))))) rfl)))
      (pss_one (ps_ret (pe_callTy call_tupN (by rfl) B.tup (by decide +kernel) (pa_cons (pe_callB (cr_sortedTx rfl) (by rfl) B.srt (by decide +kernel)
            (pa_cons (pe_bm0 PySem.F.plainAttrs_dict PySem.F.slot_dict_items PySem.F.type_dict_items mt_itemsK (pv 3)) pa_nil)) pa_nil))))), ?_⟩
    intro D hD
    have nD : D ≠ r := (R.nw hD).symm
    have R1 := R.stp (same_new hD (.dK []))
    have hD1 : (upd H D (.dK [])) D = some (.dK (([] : List Exc).map ent)) := upd_same
    have s1 : Stp r H (upd H D (.dK [])) := .of (same_new hD _)
    generalize upd H D (.dK []) = H1 at R1 hD1 s1 ⊢
    refine ⟨_, rfl, _, rfl, _, _, rfl, rfl, r, a, ns, _, rfl, R1, by omega, by omega, fun k1 H2 h0 h1 s2 R2 => ?_⟩
    refine ⟨k1, rfl, by omega, by omega, for_it (walk_range) (fun i σ H3 => ∃ (es : List Exc) (v4 : Option V), σ = [some (.ref r), some (.str (T L)), some (.int n), some (.ref D), v4] ∧ H3 D = some (.dK (es.map ent)) ∧ (∀ e ∈ es, ExcOk L e) ∧ (es.map (·.1)).Nodup ∧ es.length ≤ i ∧ Stp r H H3 ∧ RowAt K H3 r a ns)
      ⟨[], _, rfl, s2 _ _ hD1 nD, by simp, by simp, Nat.le_refl _, s1.trans s2, R2⟩ (fun _ _ _ _ _ => trivial) ?_ ?_⟩
    · rintro i x σ H3 H3' hi ⟨es, v4, rfl, hD3, hes, hnd, hel, s3, R3⟩ ⟨rfl, rfl⟩
      have hi8 : i < 8 := by omega
      refine ⟨_, rfl, r, a, ns, [65, 66, 68], 0, 5, by rw [ABD_eq]; rfl, R3, by decide, by decide, by decide, by decide, fun so H4 g1 g2 g3 s4 R4 => ?_⟩
      refine ⟨_, rfl, _, rfl, _, rfl, r, a, ns, L, 1, 4, rfl, R4, by omega, by omega, by decide, by decide, fun wd H5 w1 w2 w3 s5 R5 => ?_⟩
      have hD5 := (s4.trans s5) _ _ hD3 nD
      refine ⟨D, _, rfl, DPut.k (k := Sum.inr (T wd)) hD5 (by rw [List.length_map]; exact small1000 (by omega)), ?_⟩
      refine ⟨putE es wd so, _, rfl, by rw [upd_same, put_ent], putE_ok hes ⟨w1, w2, by show wd.length ≤ 8; omega, ABD_ok g1, by show so.length ≤ 36; omega⟩, putE_nd hnd, Nat.le_trans (putE_len _ _ _) (by omega), ?_, R5.dput hD5 _⟩
      exact (s3.trans (s4.trans s5)).put hD _
    · rintro σ H3 ⟨es, v4, rfl, hD3, hes, hnd, hel, s3, R3⟩
      have hln : es.length ≤ n := by omega
      refine ⟨_, rfl, .inr (.inr (.inl ⟨rfl, .inl ⟨_, hD3⟩⟩)), D, _, rfl, rfl, hD3, fun p hp => ?_⟩
      have sp := same_new hp (itemsO p D)
      refine ⟨p, D, es.map tt, rfl, upd_same, by rw [sp _ _ hD3, List.map_map]; rfl, by rw [List.length_map]; omega, fun H4 l ps s4 hperm hpw hln' hll hps => ?_⟩
      have s34 : Same H3 H4 := sp.trans s4
      obtain ⟨pe1, pe2, pe3⟩ := sort_exc hnd hperm hpw
      refine ⟨l, _, rfl, .inl (.inl hll), fun X oX hoX hX => ?_⟩
      have sX := same_new hX (.frz oX (.tup (ps.map fun z => V.ref z.1)))
      refine q ((ps.map (·.2)).map bk) X _ (fun e he => hes e (pe2.mem_iff.mp he)) (by rw [pe2.length_eq]; exact hln) pe3 ⟨ps.map (·.1), ⟨oX, by rw [upd_same, List.map_map]; rfl, hoX⟩, ?_⟩ (s3.trans (.of (s34.trans sX))) (R3.stp (s34.trans sX))
      rw [List.map_map]
      refine paired_map fun z hz => ?_
      have := sX _ _ (hps z hz)
      rw [this]
      show some (HO.tup [V.str z.2.1, V.str z.2.2]) = some (HO.tup [V.str (T z.2.1.cps.toList), V.str (T z.2.2.cps.toList)])
      rw [T_list, T_list]
end
end Say
namespace Say
open PySem PySem.Spec PyProof.Rows L2
section
variable {P : Program} {w : World} {K : PySem.W.Frag} {mg : Str → Option Value} {base : Heap}
abbrev sLetters : Stmt := topS 54
theorem scLetters : FnScope ["_law_row_here"] ["_law_row_here"] (defScope sLetters) := ⟨rfl, rfl, rfl, by decide +kernel, rfl, by decide +kernel, by decide +kernel⟩
def spLetters (K : PySem.W.Frag) : Sp := fun vs H Q _ => ∃ (r a : Addr) (ns : List Int), vs = [.ref r] ∧ RowAt K H r a ns ∧
  ∀ (L : List Nat) (H' : Hp), L ∈ lets → Stp r H H' → RowAt K H' r a ns → Q (.str (T L)) H'
theorem ok_letters {f : Addr} {fd : FuncData} (F : Fun K "_law_letters" "_law_letters" sLetters f fd) (DT : Df P w K mg base "_law_taken" ["_law_row_here", "_law_many"] 1 (spTaken K)) :
    FnOk P w K mg base CX0 2 f fd ["_law_row_here"] (spLetters K) := by
  obtain ⟨fT, fdT, GT, kT, bT, mT⟩ := DT
  refine F.ok scLetters (fun vs H Q E h => ?_) (fun cdv A outer s H vs Q E hr h => ?_)
  · obtain ⟨r, a, ns, rfl, _⟩ := h
    rfl
  · obtain ⟨r, a, ns, rfl, R, q⟩ := h
    refine ⟨_, pss_one (ps_ret (pe_ix ix_list (pe_lst (pa_cons pe_str (pa_cons pe_str (pa_cons pe_str (pa_cons pe_str pa_nil))))) (pe_call GT hr (by rfl) mT kT bT .nil pass0 (pa_cons (pv 0) (pa_cons pe_int pa_nil))) (fun _ _ => rfl))), ?_⟩
    refine ⟨(by show 4 ≤ sizeLine; decide), fun p hp => ?_⟩
    have sm := same_new hp (.lst [V.str "ab", .str "abc", .str "ac", .str "abcd"])
    refine ⟨_, rfl, r, a, ns, 4, rfl, R.stp sm, by decide, by decide, fun k1 H1 h0 h1 s1 R1 => ?_⟩
    have hL : SqL K H1 p [V.str "ab", .str "abc", .str "ac", .str "abcd"] := .inl (.inl (s1 _ _ upd_same (R.nw hp).symm))
    have hk : k1 = 0 ∨ k1 = 1 ∨ k1 = 2 ∨ k1 = 3 := by omega
    rcases hk with e | e | e | e
    · exact ⟨p, _, k1, V.str (T [97, 98]), rfl, rfl, hL, at_of (j := 0) e (by decide +kernel), q _ H1 (by decide) ((Stp.of sm).trans s1) R1⟩
    · exact ⟨p, _, k1, V.str (T [97, 98, 99]), rfl, rfl, hL, at_of (j := 1) e (by decide +kernel), q _ H1 (by decide) ((Stp.of sm).trans s1) R1⟩
    · exact ⟨p, _, k1, V.str (T [97, 99]), rfl, rfl, hL, at_of (j := 2) e (by decide +kernel), q _ H1 (by decide) ((Stp.of sm).trans s1) R1⟩
    · exact ⟨p, _, k1, V.str (T [97, 98, 99, 100]), rfl, rfl, hL, at_of (j := 3) e (by decide +kernel), q _ H1 (by decide) ((Stp.of sm).trans s1) R1⟩
end
end Say
namespace Say
open PySem PySem.Spec PyProof.Rows L2 L2.DX
theorem let_ok {L : List Nat} (h : L ∈ lets) : LetOk L := by
  have : ∀ L ∈ lets, LetOk L := by
    intro L h
    simp only [lets, List.mem_cons, List.not_mem_nil, or_false] at h
    rcases h with rfl | rfl | rfl | rfl <;> exact ⟨by decide, by decide, by decide, by decide⟩
  exact this L h
section
variable {P : Program} {w : World} {K : PySem.W.Frag} {mg : Str → Option Value} {base : Heap}
abbrev sLBk : Stmt := topS 60
theorem scLBk : FnScope ["_law_row_here", "_law_letters_here"] ["_law_row_here"] (defScope sLBk) := ⟨rfl, rfl, rfl, by decide +kernel, rfl, by decide +kernel, by decide +kernel⟩
def spLBk (K : PySem.W.Frag) : Sp := fun vs H Q _ => ∃ (r a : Addr) (ns : List Int), vs = [.ref r] ∧ RowAt K H r a ns ∧
  ∀ (b : Addr) (L : List Nat) (rs : List Rule) (es : List Exc) (H' : Hp), BookOk L rs es → BookAt H' b L rs es → Stp r H H' → RowAt K H' r a ns → Q (.ref b) H'
theorem ok_LBk {f : Addr} {fd : FuncData} (F : Fun K "_law_book" "_law_book" sLBk f fd) (DLe : Df P w K mg base "_law_letters" ["_law_row_here"] 2 (spLetters K))
    (DRu : Df P w K mg base "_law_rules" ["_law_row_here", "_law_letters_here", "_law_most"] 4 (spRules K)) (DEx : Df P w K mg base "_law_exceptions" ["_law_row_here", "_law_letters_here", "_law_most"] 3 (spLEx K)) :
    FnOk P w K mg base CX0 5 f fd ["_law_row_here"] (spLBk K) := by
  obtain ⟨fL, fdL, GL, kL, bL, mL⟩ := DLe
  obtain ⟨fR, fdR, GR, kR, bR, mR⟩ := DRu
  obtain ⟨fE, fdE, GE, kE, bE, mE⟩ := DEx
  refine F.ok scLBk (fun vs H Q E h => ?_) (fun cdv A outer s H vs Q E hr h => ?_)
  · obtain ⟨r, a, ns, rfl, _⟩ := h
    rfl
  · obtain ⟨r, a, ns, rfl, R, q⟩ := h
    refine ⟨_, pss_cons (ps_set (i := 1) scLBk.nd rfl (.inl rfl) (pe_call GL (hr.mono (by decide)) (by rfl) mL kL bL .nil pass0 (pa_cons (pv 0) pa_nil)))
      (pss_one (ps_ret (pe_tup (pa_cons (pv 1) (pa_cons (pe_call GR hr (by rfl) mR kR bR .nil pass0 (pa_cons (pv 0) (pa_cons (pv 1) (pa_cons pe_int pa_nil))))
        (pa_cons (pe_call GE (hr.mono (by decide)) (by rfl) mE kE bE .nil pass0 (pa_cons (pv 0) (pa_cons (pv 1) (pa_cons pe_int pa_nil)))) pa_nil)))))), ?_⟩
    refine ⟨_, rfl, r, a, ns, rfl, R, fun L H1 hL s1 R1 => ?_⟩
    have oL := let_ok hL
    have l2 := oL.l2
    have l4 := oL.l4
    refine ⟨_, rfl, _, rfl, _, rfl, r, a, ns, L, 6, rfl, R1, by omega, by omega, by decide, fun rs Ra H2 ho hlen hR s2 R2 => ?_⟩
    refine ⟨_, rfl, _, rfl, r, a, ns, L, 3, rfl, R2, oL, by decide, fun es X H3 hes hel hup hX s3 R3 => ?_⟩
    refine ⟨(by show 3 ≤ sizeLine; decide), fun b hb => ?_⟩
    have sb := same_new hb (.tup [.str (T L), .ref Ra, .ref X])
    exact q b L rs es _ ⟨oL, ho, by omega, hes, by omega, hup⟩ ⟨Ra, X, upd_same, hR.kt ((R2.kt s3).trans (.of sb)), hX.kt (.of sb)⟩ (s1.trans (s2.trans (s3.trans (.of sb)))) (R3.stp sb)
end
end Say
namespace Say
open PySem PySem.Spec PyProof.Rows L2 L2.DX
def tv (so : List (List Nat)) : List V := so.map fun s => V.str (T s)
theorem passE {X : Cx} : Passes (L2.CX X.prog X.w) X (fun _ _ _ => False) := fun _ _ _ _ _ _ _ h => by
  obtain ⟨_, _, _, _, _, _, _, _, _, _, _, _, e⟩ := h
  exact e.elim
/-! ### feeding and ending, as functions -/
/-- what is told of a letter -/
def fdV (rs : List Rule) (wd tl : List Nat) (c : Nat) : List V := if wd.length = 12 then [.str "word", .non] else
  match (tkM rs (some tl) c).1 with
  | some _ => [.str (T []), .str (T (soL rs (tkM rs (some tl) c).2))]
  | none => [.str "unsaid", .int ((wd.length + 1 - tl.length : Nat) : Int)]
/-- a machine's word, tail, past -/
structure SS where
  wd : List Nat
  tl : List Nat
  ps : List (List Nat × Nat)
def fdN (rs : List Rule) (x : SS) (c : Nat) : SS := if x.wd.length = 12 then x else
  match (tkM rs (some x.tl) c).1 with
  | some tl' => ⟨x.wd ++ [c], tl', x.ps ++ [(x.tl, (soL rs (tkM rs (some x.tl) c).2).length)]⟩
  | none => x
def enV (rs : List Rule) (wd tl : List Nat) : List V := match (Wt rs tl).2 with
  | none => [.str (T []), .str (T (soL rs ((Wt rs tl).1.map (·.2))))]
  | some p => [.str "unsaid", .int ((wd.length + 1 - tl.length + p : Nat) : Int)]
def enN (rs : List Rule) (x : SS) : SS := match (Wt rs x.tl).2 with
  | none => ⟨[], [35], []⟩
  | some _ => x
/-- a machine at a state -/
abbrev SyX (C : Addr) (H : Hp) (y pa : Addr) (L : List Nat) (R : Addr) (rs : List Rule) (x : SS) : Prop := SyAt C H y pa L R rs x.wd x.tl x.ps
/-- a state that letters lead to -/
structure Okx (rs : List Rule) (x : SS) : Prop where
  hist : ∃ ks so, Hist rs x.wd x.tl ks x.ps so
  h12 : x.wd.length ≤ 12
theorem Okx.start (rs : List Rule) : Okx rs ⟨[], [35], []⟩ := ⟨⟨_, _, .nil⟩, Nat.zero_le _⟩
theorem Okx.fd {rs : List Rule} {x : SS} (h : Okx rs x) (c : Nat) : Okx rs (fdN rs x c) := by
  unfold fdN
  by_cases c12 : x.wd.length = 12
  · rw [if_pos c12]; exact h
  · rw [if_neg c12]
    obtain ⟨⟨ks, so, hH⟩, h12⟩ := h
    cases e : (tkM rs (some x.tl) c).1 with
    | none => exact ⟨⟨ks, so, hH⟩, h12⟩
    | some tl' => exact ⟨⟨_, _, Hist.snoc hH e⟩, by simp; omega⟩
theorem Okx.en {rs : List Rule} {x : SS} (h : Okx rs x) : Okx rs (enN rs x) := by
  unfold enN
  cases e : (Wt rs x.tl).2 with
  | none => exact Okx.start rs
  | some p => exact h
section
variable {K : PySem.W.Frag} {mg : Str → Option Value} {C CW CU CN y pa : Addr} {L : List Nat} {R : Addr} {rs : List Rule} {x : SS} {c i j : Nat} {H7 : Hp} {Q : VK} {σ : L2.St}
theorem feed_fn (WU : WordC K mg CU 4) (WW : WordC K mg CW 1) (h6 : σ[i]? = some (some (.ref y))) (h9 : σ[j]? = some (some (.str (T [c])))) (hS : SyX C H7 y pa L R rs x) (ho : ∀ ρ ∈ rs, RlOk ρ) (hc : c ∈ L) (hx : Okx rs x)
    (q : ∀ (t : Addr) (H8 : Hp), Kp y pa H7 H8 → SyX C H8 y pa L R rs (fdN rs x c) → H8 t = some (.tup (fdV rs x.wd x.tl c)) → Q (.ref t) H8) :
    TTw K mg (fun E H' Q' => tMeth C "feed" (spFeed C CW CU) [] E (tVar i) (tCons (tVar j) tNil) σ H' Q') H7 Q := by
  obtain ⟨⟨ks, so, hH⟩, h12⟩ := hx
  obtain ⟨t1, t3, tw⟩ := (hH.fed ho).len
  refine feed_told WU WW h6 h9 hS ho hc h12 t1 t3 tw hH.lens.1 (fun z t H8 s8 ht => ?_) (fun z tl' e t H8 k8 hS8 ht => ?_) (fun z e t H8 s8 ht => ?_)
  · refine q t H8 (.of s8) ?_ ?_
    · unfold fdN; rw [if_pos z]; exact hS.same s8
    · unfold fdV; rw [if_pos z]; exact ht
  · have z' : ¬ x.wd.length = 12 := by omega
    refine q t H8 k8 ?_ ?_
    · unfold fdN; rw [if_neg z', e]; exact hS8
    · unfold fdV; rw [if_neg z', e]; exact ht
  · have z' : ¬ x.wd.length = 12 := by omega
    refine q t H8 (.of s8) ?_ ?_
    · unfold fdN; rw [if_neg z', e]; exact hS.same s8
    · unfold fdV; rw [if_neg z', e]; exact ht
theorem end_fn (WU : WordC K mg CU 4) (h6 : σ[i]? = some (some (.ref y))) (hS : SyX C H7 y pa L R rs x) (ho : ∀ ρ ∈ rs, RlOk ρ) (hx : Okx rs x)
    (q : ∀ (t pa' : Addr) (H8 : Hp), (pa' = pa ∨ H7 pa' = none) → Kp y pa H7 H8 → SyX C H8 y pa' L R rs (enN rs x) → H8 t = some (.tup (enV rs x.wd x.tl)) → Q (.ref t) H8) :
    TTw K mg (fun E H' Q' => tMeth C "end" (spEndS C CU) [] E (tVar i) tNil σ H' Q') H7 Q := by
  obtain ⟨⟨ks, so, hH⟩, h12⟩ := hx
  obtain ⟨t1, t3, tw⟩ := (hH.fed ho).len
  refine end_told WU h6 hS ho h12 t1 t3 tw (fun e t pa' H8 n k8 hS8 ht => ?_) (fun p e t H8 s8 ht => ?_)
  · refine q t pa' H8 (.inr n) k8 ?_ ?_
    · unfold enN; rw [e]; exact hS8
    · unfold enV; rw [e]; exact ht
  · refine q t pa H8 (.inl rfl) (.of s8) ?_ ?_
    · unfold enN; rw [e]; exact hS.same s8
    · unfold enV; rw [e]; exact ht
end
theorem soL_sg {L : List Nat} {rs : List Rule} {es : List Exc} (ho : BookOk L rs es) {ks : List Nat} (hk : ∀ k ∈ ks, k < rs.length) : ∀ c ∈ soL rs ks, c < 1114112 := fun c hc => by
  unfold soL at hc
  obtain ⟨l, hl, hc⟩ := List.mem_flatten.mp hc
  obtain ⟨k, hk', rfl⟩ := List.mem_map.mp hl
  rw [ruleAt_eq (List.getElem?_eq_getElem (hk k hk'))] at hc
  have := (ho.rl _ (List.getElem_mem (hk k hk'))).so c hc
  omega
/-- what is told twice alike is the same -/
def Told (v : List V) : Prop := ∃ d, SeqAt.shaped d = true ∧ PyData.eqv d d = true ∧ ∀ (K : PySem.W.Frag) (H : Hp) (t : Addr), H t = some (.tup v) → Dp K H (.ref t) d
theorem told_str {u : Str} {s : List Nat} (hu : PyData.strOk u = true) (hs : ∀ c ∈ s, c < 1114112) : Told [.str u, .str (T s)] :=
  ⟨.tuple [.str u, .str (T s)], shaped_two hu (strOk_T hs) rfl rfl, (by show ((u == u) && ((T s == T s) && true)) = true; simp), fun K H t h => .tup (.inl (.inl h)) (.cons (.str _) (.cons (.str _) .nil))⟩
theorem told_int {u : Str} {n : Int} (hu : PyData.strOk u = true) : Told [.str u, .int n] :=
  ⟨.tuple [.str u, .int n], shaped_two hu rfl rfl rfl, (by show ((u == u) && ((n == n) && true)) = true; simp), fun K H t h => .tup (.inl (.inl h)) (.cons (.str _) (.cons (.int _) .nil))⟩
theorem told_non {u : Str} (hu : PyData.strOk u = true) : Told [.str u, .non] :=
  ⟨.tuple [.str u, .none], shaped_two hu rfl rfl rfl, (by show ((u == u) && (true && true)) = true; simp), fun K H t h => .tup (.inl (.inl h)) (.cons (.str _) (.cons .non .nil))⟩
theorem fdV_told {L : List Nat} {rs : List Rule} {es : List Exc} (ho : BookOk L rs es) (wd tl : List Nat) (c : Nat) : Told (fdV rs wd tl c) := by
  unfold fdV
  by_cases c12 : wd.length = 12
  · rw [if_pos c12]; exact told_non (by decide +kernel)
  · rw [if_neg c12]
    cases e : (tkM rs (some tl) c).1 with
    | none => exact told_int (by decide +kernel)
    | some tl' => exact told_str (by decide +kernel) (soL_sg ho (tk_ks).1)
theorem enV_told {L : List Nat} {rs : List Rule} {es : List Exc} (ho : BookOk L rs es) (wd tl : List Nat) : Told (enV rs wd tl) := by
  unfold enV
  cases e : (Wt rs tl).2 with
  | some p => exact told_int (by decide +kernel)
  | none =>
    refine told_str (by decide +kernel) (soL_sg ho fun k hk => ?_)
    obtain ⟨st, hst, rfl⟩ := List.mem_map.mp hk
    exact wk_lt _ _ st hst
/-- what is told of a letter has two items; its sounds where it was taken -/
theorem fdV_two {rs : List Rule} (hρ : ∀ ρ ∈ rs, RlOk ρ) (x : SS) (c : Nat) : ∃ (u : Str) (z : V), fdV rs x.wd x.tl c = [.str u, z] ∧
    ((u = T [] ∧ ∃ s tl', z = .str (T s) ∧ fdN rs x c = ⟨x.wd ++ [c], tl', x.ps ++ [(x.tl, s.length)]⟩ ∧ s.length ≤ 100) ∨ (decide (V.str u = V.str (Str.ofString "")) = false ∧ fdN rs x c = x)) := by
  unfold fdV fdN
  by_cases c12 : x.wd.length = 12
  · rw [if_pos c12, if_pos c12]; exact ⟨_, _, rfl, .inr ⟨by decide +kernel, rfl⟩⟩
  · rw [if_neg c12, if_neg c12]
    cases e : (tkM rs (some x.tl) c).1 with
    | none => exact ⟨_, _, rfl, .inr ⟨by decide +kernel, rfl⟩⟩
    | some tl' =>
      obtain ⟨kl, kk1⟩ := tk_ks (rs := rs) (t := x.tl) (c := c)
      have b3 := flat_len hρ _ kl
      exact ⟨_, _, rfl, .inl ⟨rfl, _, _, rfl, rfl, by omega⟩⟩
/-! ### letters told behind a state -/
inductive Gr (x : SS) : SS → List (List Nat) → Prop
  | nil : Gr x x []
  | snoc {z : SS} {so : List (List Nat)} {c : Nat} {s t : List Nat} : Gr x z so → Gr x ⟨z.wd ++ [c], t, z.ps ++ [(z.tl, s.length)]⟩ (so ++ [s])
theorem Gr.lens {x z : SS} {so : List (List Nat)} (g : Gr x z so) : z.wd.length = x.wd.length + so.length ∧ z.ps.length = x.ps.length + so.length := by
  induction g with
  | nil => exact ⟨rfl, rfl⟩
  | snoc _ ih =>
    obtain ⟨h1, h2⟩ := ih
    constructor <;> simp <;> omega
theorem Gr.inv {x z : SS} {so : List (List Nat)} (g : Gr x z so) : so = [] ∧ z = x ∨ ∃ (z' : SS) (so' : List (List Nat)) (c : Nat) (s t : List Nat), so = so' ++ [s] ∧ z = ⟨z'.wd ++ [c], t, z'.ps ++ [(z'.tl, s.length)]⟩ ∧ Gr x z' so' := by
  cases g with
  | nil => exact .inl ⟨rfl, rfl⟩
  | snoc g' => exact .inr ⟨_, _, _, _, _, rfl, rfl, g'⟩
theorem Gr.back {x z : SS} {so : List (List Nat)} {s : List Nat} (g : Gr x z (so ++ [s])) : ∃ (z' : SS), z.wd.dropLast = z'.wd ∧ z.ps = z'.ps ++ [(z'.tl, s.length)] ∧ Gr x z' so := by
  rcases g.inv with ⟨e, _⟩ | ⟨z', so', c, s', t, e, rfl, g'⟩
  · simp at e
  · obtain ⟨rfl, e2⟩ := List.append_inj' e rfl
    cases e2
    exact ⟨z', List.dropLast_concat, rfl, g'⟩
theorem Gr.zero {x z : SS} (g : Gr x z []) : z = x := by
  rcases g.inv with ⟨_, e⟩ | ⟨z', so', c, s', t, e, _⟩
  · exact e
  · simp at e
/-! ### two machines -/
structure TwoS (K : PySem.W.Frag) (Tt : List (Addr × Str)) (C r a b y pa Rm y2 pa2 Rm2 : Addr) (ns : List Int) (L : List Nat) (rs : List Rule) (es : List Exc) (x x2 : SS) (H : Hp) : Prop where
  R : RowAt K H r a ns
  Tb : LamX.Tabs Tt H
  hB : BookAt H b L rs es
  s1 : SyX C H y pa L Rm rs x
  s2 : SyX C H y2 pa2 L Rm2 rs x2
  nr1 : r ≠ pa
  of1 : Off K a pa ns
  nr2 : r ≠ pa2
  of2 : Off K a pa2 ns
  nyy : y ≠ y2
  npp : pa ≠ pa2
theorem SyAt.stpR {C : Addr} {K : PySem.W.Frag} {r a : Addr} {ns : List Int} {H H' : Hp} {y pa : Addr} {L : List Nat} {R : Addr} {rs : List Rule} {wd tl : List Nat} {ps : List (List Nat × Nat)} (h : SyAt C H y pa L R rs wd tl ps) (hr : RowAt K H r a ns) (n : r ≠ pa) (e : Stp r H H') : SyAt C H' y pa L R rs wd tl ps := by
  obtain ⟨i, c, m, q, _⟩ := hr.in
  have k := hr.kt e
  obtain ⟨⟨dx, h1⟩, hR, ts, h2, h3⟩ := h
  exact ⟨⟨dx, e _ _ h1 (ne_of h1 q (by intro z; cases z))⟩, hR.kt k, ts, e _ _ h2 n.symm, paired_mono (fun t p q => k.1 _ _ q) h3⟩
/-- the other machine stays -/
theorem SyAt.kpo {C : Addr} {H H' : Hp} {y pa y2 pa2 : Addr} {L : List Nat} {R R2 : Addr} {rs : List Rule} {wd tl wd2 tl2 : List Nat} {ps ps2 : List (List Nat × Nat)} (h : SyAt C H y pa L R rs wd tl ps) (h2 : SyAt C H y2 pa2 L R2 rs wd2 tl2 ps2) (n1 : y ≠ y2) (n2 : pa ≠ pa2) (e : Kp y pa H H') : SyAt C H' y2 pa2 L R2 rs wd2 tl2 ps2 := by
  have k := h.kt e
  obtain ⟨⟨dx, a1⟩, _, ts, a2, _⟩ := h
  obtain ⟨⟨dx2, b1⟩, bR, ts2, b2, b3⟩ := h2
  exact ⟨⟨dx2, e _ _ b1 n1.symm (ne_of b1 a2 (by intro z; cases z))⟩, bR.kt k, ts2, e _ _ b2 (ne_of b2 a1 (by intro z; cases z)) n2.symm, paired_mono (fun t p q => k.1 _ _ q) b3⟩
section
variable {K : PySem.W.Frag} {Tt : List (Addr × Str)} {C r a b y pa Rm y2 pa2 Rm2 : Addr} {ns : List Int} {L : List Nat} {rs : List Rule} {es : List Exc} {x x2 x' : SS} {H H' : Hp}
theorem TwoS.same (h : TwoS K Tt C r a b y pa Rm y2 pa2 Rm2 ns L rs es x x2 H) (e : Same H H') : TwoS K Tt C r a b y pa Rm y2 pa2 Rm2 ns L rs es x x2 H' :=
  ⟨h.R.stp e, h.Tb.ext e, h.hB.kt (.of e), h.s1.same e, h.s2.same e, h.nr1, h.of1, h.nr2, h.of2, h.nyy, h.npp⟩
theorem TwoS.extN (h : TwoS K Tt C r a b y pa Rm y2 pa2 Rm2 ns L rs es x x2 H) (e : LamX.ExtN H H') (t : LamX.Tabs Tt H') : TwoS K Tt C r a b y pa Rm y2 pa2 Rm2 ns L rs es x x2 H' :=
  ⟨h.R.extN e, t, h.hB.kt (.extN e), h.s1.extN e, h.s2.extN e, h.nr1, h.of1, h.nr2, h.of2, h.nyy, h.npp⟩
theorem TwoS.stp (h : TwoS K Tt C r a b y pa Rm y2 pa2 Rm2 ns L rs es x x2 H) (e : Stp r H H') (R' : RowAt K H' r a ns) : TwoS K Tt C r a b y pa Rm y2 pa2 Rm2 ns L rs es x x2 H' :=
  ⟨R', tabs_stp h.Tb h.R.in e, h.hB.kt (h.R.kt e), h.s1.stpR h.R h.nr1 e, h.s2.stpR h.R h.nr2 e, h.nr1, h.of1, h.nr2, h.of2, h.nyy, h.npp⟩
theorem TwoS.swap (h : TwoS K Tt C r a b y pa Rm y2 pa2 Rm2 ns L rs es x x2 H) : TwoS K Tt C r a b y2 pa2 Rm2 y pa Rm ns L rs es x2 x H :=
  ⟨h.R, h.Tb, h.hB, h.s2, h.s1, h.nr2, h.of2, h.nr1, h.of1, h.nyy.symm, h.npp.symm⟩
theorem TwoS.kp {pa' : Addr} (h : TwoS K Tt C r a b y pa Rm y2 pa2 Rm2 ns L rs es x x2 H) (e : Kp y pa H H') (n : pa' = pa ∨ H pa' = none) (s' : SyX C H' y pa' L Rm rs x') : TwoS K Tt C r a b y pa' Rm y2 pa2 Rm2 ns L rs es x' x2 H' := by
  have k := h.s1.kt e
  have o := h.s1.kpo h.s2 h.nyy h.npp e
  obtain ⟨⟨dx, h1⟩, _, ts, h2, h3⟩ := h.s1
  obtain ⟨_, _, ts2, g2, _⟩ := h.s2
  have n4 : r ≠ pa' ∧ Off K a pa' ns ∧ pa' ≠ pa2 := by
    rcases n with rfl | n
    · exact ⟨h.nr1, h.of1, h.npp⟩
    · exact ⟨h.R.nw n, h.R.off n, (ne_of_none g2 n).symm⟩
  exact ⟨h.R.kp h1 h.nr1 h.of1 e, tabs_kp h.Tb h1 h2 e, h.hB.kt k, s', o, n4.1, n4.2.1, h.nr2, h.of2, h.nyy, n4.2.2⟩
theorem told_row {TA : Addr} {so : List (List Nat)} (h : H TA = some (.lst (tv so))) (R : RowAt K H r a ns) : TA ≠ r := by
  obtain ⟨i, c, m, q, _⟩ := R.in
  refine ne_of h q fun z => ?_
  cases so with
  | nil => cases z
  | cons s l => cases z
end
end Say
/-! a lambda of one parameter with a number as its default, handed to a def -/
namespace LamD
open PySem PySem.Spec PyProof.Rows L2 LamX
/-- its own name is the parameter alone, which the maker doesn't know -/
structure Par (N : List Str) (sc own : Scope) (a : Str) : Prop where
  kind : own.kind = .function
  co : own.isCoroutine = false
  gen : own.isGenerator = false
  par : own.names.lookup a = some .local
  loc : ∀ y ∈ own.names, y.2 ≠ .cell ∧ (y.2 = .local → y.1 = a)
  free : ∀ y ∈ own.names, y.2 = .free → sc.names.lookup y.1 = some .cell ∨ sc.names.lookup y.1 = some .free
  out : a ∉ N
def parB (N : List Str) (sc own : Scope) (a : Str) : Bool :=
  decide (own.kind = .function) && (!own.isCoroutine && (!own.isGenerator && (decide (own.names.lookup a = some .local) && (decide (a ∉ N) && own.names.all fun y =>
    !decide (y.2 = .cell) && ((!decide (y.2 = .local) || decide (y.1 = a)) && (!decide (y.2 = .free) || (decide (sc.names.lookup y.1 = some .cell) || decide (sc.names.lookup y.1 = some .free))))))))
theorem par_by {N : List Str} {sc own : Scope} {a : Str} (h : parB N sc own a = true) : Par N sc own a := by
  unfold parB at h
  simp only [Bool.and_eq_true, Bool.or_eq_true, Bool.not_eq_true', decide_eq_true_eq, decide_eq_false_iff_not, List.all_eq_true] at h
  obtain ⟨g1, g2, g3, g4, g5, g6⟩ := h
  refine ⟨g1, g2, g3, g4, fun y hy => ⟨(g6 y hy).1, fun e => ?_⟩, fun y hy e => ?_, g5⟩
  · rcases (g6 y hy).2.1 with z | z
    · exact absurd e z
    · exact z
  · rcases (g6 y hy).2.2 with z | z
    · exact absurd e z
    · exact z
section
variable {X : Cx} {pins : List (Addr × Obj)} {σ : L2.St} {H HZ : Hp} {s s1 : Shared}
theorem Par.has {own : Scope} {a : Str} (L : Par X.N X.env.scope own a) (ok : X.Ok) : ∀ y ∈ own.names, y.2 = .free → ∃ c, X.env.cells.lookup y.1 = some c := fun y hy e =>
  (L.free y hy e).elim (fun k => ok.has _ (.inl k)) fun k => ok.has _ (.inr k)
/-- the lambda's object, its default at D -/
abbrev dObj (X : Cx) (params : Arguments) (body : Expr) (own : Scope) (D : Addr) (doc pm : Value) (c' : Addr) (ctv : Value) : Obj :=
  PySem.W.kdv_obj "<lambda>" (X.env.qual ++ "<lambda>") params (.expr body) own (cloFrom X.env.cells own.names []) (.ref D) doc pm c' ctv
/-- made: a code object that is new or found in the table, and the tuple of the default -/
theorem make {Ts : List (Addr × Str)} {c P : Addr} {params : Arguments} {body de : Expr} {own : Scope} {pos : Pos} {z : Int} {Q : Value → Shared → Prop} (I : Inv X pins σ H s) (TB : TabB X.base X.mg c P) (hcode : X.env.code = .ref c)
    (hm : (P, X.env.qual ++ "<lambda>") ∈ Ts) (hu : ∀ p ∈ Ts, p.1 = P → p.2 = X.env.qual ++ "<lambda>") (hT : Tabs Ts H) (hde : params.defaults = [de]) (hkw : params.kw_defaults = []) (hz : PE X de (tC (.int z))) (hfree : ∀ y ∈ own.names, y.2 = .free → ∃ c, X.env.cells.lookup y.1 = some c)
    (h : ∀ (f c' D : Addr) (u doc pm ctv : Value) (H1 : Hp) (s' : Shared), Inv X pins σ H1 s' → ExtN H H1 → Tabs Ts H1 → s'.heap.get? f = some (dObj X params body own D doc pm c' ctv) → H1 f = none → f ∉ frs X.stack →
      s'.heap.get? D = some (PySem.W.kdv_tup [u]) → H1 D = none → D ∉ frs X.stack → H1 c' = some (CodeO c' (X.env.qual ++ "<lambda>")) → Q (.ref f) s') :
    wpAny (model X.prog X.w) X.A (eval (.Lambda params body own pos) X.env) Q X.xe s := by
  refine PySem.W.kdv_lam (by rw [hde]; rfl) hkw ?_
  rw [hde]
  refine PySem.W.kdv_all1 (thn (hz.run pins s σ H (fun v H0 => H0 = H) I rfl) fun u sa ⟨v, H0, Ia, _, eH⟩ => PySem.W.kdv_all0 ?_)
  subst eH
  rw [makeFunction_eq]
  simp only [List.zip_nil_right, List.filterMap_nil, List.isEmpty_nil, if_true, pure_bind, List.isEmpty_cons, Bool.false_eq_true, if_false]
  refine wpAny_bind (wpAny_newTextTuple ?_)
  -- the default's tuple
  have hDn : H0 sa.heap.objs.size = none := Ia.hok.fresh (Nat.le_refl _)
  have stk : ∀ {b : Addr} {hp : Heap} {σ' : L2.St} {H' : Hp} {tk : Nat} (J : Inv X pins σ' H' { sa with heap := hp, toks := tk }), hp.objs.size ≤ b → b ∉ frs X.stack := fun {b hp σ' H' tk} J hb m => by
    rcases List.mem_cons.mp (J.stkSub _ m) with e | e
    · have lt := J.lt
      rw [← e] at lt
      exact Nat.lt_irrefl _ (Nat.lt_of_lt_of_le lt hb)
    · exact J.nofs hb e
  have frD := stk (hp := sa.heap) (tk := sa.toks) Ia (Nat.le_refl _)
  have Ib : Inv X pins σ H0 { sa with heap := sa.heap.push (PySem.W.kdv_tup [u]) } := Ia.kept (t' := sa.toks) fun _ _ e => Heap.get?_push_of_some _ e
  have atD : (sa.heap.push (PySem.W.kdv_tup [u])).get? sa.heap.objs.size = some (PySem.W.kdv_tup [u]) := Heap.get?_push_size _ rfl
  have szD : sa.heap.objs.size < (sa.heap.push (PySem.W.kdv_tup [u])).objs.size := by rw [Heap.size_push]; exact Nat.lt_succ_self _
  obtain ⟨ps, hP, ht, ha⟩ := hT _ hm
  have ltP : P < sa.heap.objs.size := Heap.lt_size (Ia.hok P _ hP)
  generalize hhb : sa.heap.push (PySem.W.kdv_tup [u]) = hb at Ib atD szD ⊢
  generalize sa.heap.objs.size = D at hDn frD atD szD ltP ⊢
  have hP' : hb.get? P = some { cls := .none, data := .fields ps } := Ib.hok P _ hP
  have bP : hb.BuiltinsAt X.mg P := TB.bm.keeps Ib.bk
  cases hc : codeAmong pos ps.toList with
  | none =>
    refine PySem.W.kdv_makeTail (s := { sa with heap := hb }) (closure_ok hfree) Ib.ok.glob (Ib.mod.glob.keeps Ib.bk) hcode (TB.code.keeps Ib.bk) hP' ht hc TB.gP bP fun c' ctv doc h' tk hx hge hlt hrec htb => ?_
    obtain ⟨c2, oc, vs, t, e2, hoc, hd, hv⟩ := hrec
    cases e2
    have hge : hb.objs.size ≤ c' := hge
    have nC : H0 c' = none := Ib.hok.fresh hge
    have I1 := inv_table (t' := tk) (more := #[rawInt pos.line, rawInt pos.col, .ref c']) (h' := h'.push (dObj X params body own D doc ((X.mg "__name__").getD .none) c' ctv)) Ib hP
      (fun b o n e => Heap.get?_push_of_some _ (hx b o n e)) (Heap.get?_push_of_some _ htb) hge ⟨oc, vs, t, Heap.get?_push_of_some _ hoc, hd, hv⟩
    have hE : ExtN H0 (upd (upd H0 P (.tbl (ps ++ #[rawInt pos.line, rawInt pos.col, .ref c']))) c' (CodeO c' (X.env.qual ++ "<lambda>"))) := fun b o e n => by
      rw [upd_ne (ne_of_none e nC), upd_ne fun y => n ps (Option.some.inj (e.symm.trans (by rw [y]; exact hP)))]
      exact e
    have toL : (ps ++ #[rawInt pos.line, rawInt pos.col, .ref c']).toList = ps.toList ++ [rawInt pos.line, rawInt pos.col, .ref c'] := by simp
    have nf1 : h'.objs.size ≠ c' := Nat.ne_of_gt hlt
    have nf2 : h'.objs.size ≠ P := Nat.ne_of_gt (Nat.lt_of_lt_of_le (Heap.lt_size hP') (Nat.le_trans hge (Nat.le_of_lt hlt)))
    refine h h'.objs.size c' D u doc ((X.mg "__name__").getD .none) ctv _ _ I1 hE (fun p hp => ?_) (Heap.get?_push_size _ rfl) ?_ (stk (hp := hb) (tk := sa.toks) Ib (by omega)) (Heap.get?_push_of_some _ (hx D _ (Nat.ne_of_gt ltP) atD)) ?_ frD upd_same
    · by_cases eP : p.1 = P
      · rw [hu p hp eP, eP]
        refine ⟨_, by rw [upd_ne (ne_of_none hP nC), upd_same], by rw [toL]; exact PySem.TriplesOk_snoc _ _ _ _ ht, fun p' cv hcv => ?_⟩
        rw [toL] at hcv
        rcases among_app _ ht hcv with y | y
        · obtain ⟨c0, y1, y2⟩ := ha p' cv y
          exact ⟨c0, y1, hE _ _ y2 codeO_ne⟩
        · exact ⟨c', y, upd_same⟩
      · obtain ⟨qs, y1, y2, y3⟩ := hT p hp
        refine ⟨qs, by rw [upd_ne (ne_of_none y1 nC), upd_ne eP]; exact y1, y2, fun p' cv hcv => ?_⟩
        obtain ⟨c0, y4, y5⟩ := y3 p' cv hcv
        exact ⟨c0, y4, hE _ _ y5 codeO_ne⟩
    · rw [upd_ne nf1, upd_ne nf2]
      exact Ib.hok.fresh (show hb.objs.size ≤ _ by omega)
    · rw [upd_ne (Nat.ne_of_lt (Nat.lt_of_lt_of_le szD hge)), upd_ne (Nat.ne_of_gt ltP)]
      exact hDn
  | some cv =>
    obtain ⟨c', e, hco⟩ := ha pos cv hc
    subst e
    refine PySem.W.kdv_makeTailHit (s := { sa with heap := hb }) (closure_ok hfree) Ib.ok.glob (Ib.mod.glob.keeps Ib.bk) hcode (TB.code.keeps Ib.bk) hP' ht hc bP fun ctv doc h' tk hx hsz => ?_
    have hsz : hb.objs.size ≤ h'.objs.size := hsz
    have I1 : Inv X pins σ H0 { sa with heap := h'.push (dObj X params body own D doc ((X.mg "__name__").getD .none) c' ctv), toks := tk } := Ib.kept (t' := tk) fun b o e => Heap.get?_push_of_some _ (hx b o e)
    exact h h'.objs.size c' D u doc ((X.mg "__name__").getD .none) ctv H0 _ I1 (ExtN.refl H0) hT (Heap.get?_push_size _ rfl) (Ib.hok.fresh hsz) (stk (hp := hb) (tk := sa.toks) Ib hsz) (Heap.get?_push_of_some _ (hx D _ atD)) hDn frD hco
abbrev dEnv (X : Cx) (own : Scope) (L f c' : Addr) : Env := lamEnv X own L f c'
/-- its body's context, entered -/
theorem enter {A : Around} {outer : List Env} {E : XK} {own : Scope} {a : Str} {f c' : Addr} {h₁ : Heap} {tk : Nat} {m : Str → Option Value} (I : Inv X pins σ H s) (L : Par X.N X.env.scope own a) (e0 : Env0 X.prog X.w X.K X.mg X.base A outer s1 HZ) (hd : A.handled = none)
    (un : Un (frs X.stack) [] H HZ s.heap s1.heap) (hns : h₁.Ns s1.heap.objs.size m) (kp : ∀ b o, s1.heap.get? b = some o → h₁.get? b = some o) :
    Inv (lamCx X A outer s1 HZ E own f c') [] σ HZ { s1 with heap := h₁, toks := tk } := by
  have has := L.has I.ok
  -- a name that it captures has the maker's cell
  have cl1 : ∀ {y c}, (cloFrom X.env.cells own.names []).lookup y = some c → X.env.cells.lookup y = some c := fun {y c} e => by
    rcases cloFrom_mem (PySem.mem_of_lookup e) with z | ⟨z1, z2⟩
    · cases z
    · obtain ⟨c1, hc⟩ := has _ z1 rfl
      have hc : X.env.cells.lookup y = some c1 := hc
      rw [z2, hc]
      rfl
  have cl2 : ∀ {y}, own.names.lookup y = some .free → ∃ c, (cloFrom X.env.cells own.names []).lookup y = some c := fun {y} hl =>
    mem_lookup (cloFrom_has (cells := X.env.cells) (acc := []) (show (y, NameKind.free) ∈ own.names from PySem.mem_of_lookup hl))
  have cellK : ∀ {c : Addr} {v : Option Value}, H c = none → s.heap.IsCell c v → h₁.IsCell c v := fun {c v} n ⟨o, ho, od⟩ => by
    obtain ⟨sl, q⟩ := un.any ho n (by simp)
    exact ⟨_, kp _ _ q, od⟩
  have no : ∀ b : Addr, b ∉ (lamCx X A outer s1 HZ E own f c').ex := fun b z => absurd (show b ∈ ([] : List Addr) from z) (by simp)
  refine ⟨⟨e0.mod, L.kind, rfl, rfl, Nat.le_refl _, fun y z c e1 e2 => I.ok.inj y z c (cl1 e1) (cl1 e2), fun y hy => ?_, fun y c z _ => (by cases (show false = true from z)), fun _ => hd, Around.frames_deeper e0.frames, .inr ⟨rfl, rfl⟩, fun b z => absurd z (no b), e0.bs, e0.bsz, fun b _ _ => no b,
      fun b z => absurd z (no b), e0.funs, e0.frf⟩,
    rfl, e0.bare, Un.kept kp, ⟨_, hns, fun i y v e1 e2 e3 => ?_⟩, fun y c e => ?_, e0.hok.fresh (Nat.le_refl _), fun y c e => ?_, fun q hq => absurd (show q ∈ ([] : List (Addr × Obj)) ++ [] from hq) (by simp), e0.hok.kept kp, I.len⟩
  · have hy : own.names.lookup y = some .cell ∨ own.names.lookup y = some .free := hy
    exact hy.elim (fun z => absurd rfl (L.loc _ (PySem.mem_of_lookup z)).1) cl2
  · have e3 : Vis own y := e3
    rcases e3 with k | k | k
    · -- the parameter is no name of the maker's
      have ey : y = a := (L.loc _ (PySem.mem_of_lookup k)).2 rfl
      have e1 : X.N[i]? = some y := e1
      exact absurd (List.mem_of_getElem? e1) (by rw [ey]; exact L.out)
    · exact absurd rfl (L.loc _ (PySem.mem_of_lookup k)).1
    · obtain ⟨m', hn, hl⟩ := I.loc
      have vis : Vis X.env.scope y := (L.free _ (PySem.mem_of_lookup k) rfl).elim (fun k => .inr (.inl k)) fun k => .inr (.inr k)
      obtain ⟨w', r, q⟩ := hl i y v e1 e2 vis
      obtain ⟨c2, h2⟩ := cl2 k
      refine ⟨w', r, .inr ⟨.inr k, c2, h2, ?_⟩⟩
      rcases q with ⟨k', _⟩ | ⟨_, c3, e', z⟩
      · have k' : X.env.scope.names.lookup y = some .local := k'
        rcases L.free _ (PySem.mem_of_lookup k) rfl with k2 | k2 <;> rw [show X.env.scope.names.lookup y = _ from k2] at k' <;> cases k'
      · rw [cl1 h2] at e'
        cases e'
        exact cellK (I.freeC y _ (cl1 h2)) z
  · obtain ⟨w', z⟩ := I.cell y c (cl1 e)
    exact ⟨w', cellK (I.freeC y c (cl1 e)) z⟩
  · obtain ⟨v, o, ho, od⟩ := I.cell y c (cl1 e)
    exact un.free c o ho (I.freeC y c (cl1 e)) (by simp)
/-- called with nothing by the def that got it -/
theorem act {CXg : CXT} {Eg : XK} {Ng : List Str} {qg : Str} {sg : Scope} {g f c' D : Addr} {cdg doc pm ctv u : Value} {params : Arguments} {body : Expr} {own : Scope} {k i : Nat} {x a : Str} {pn : List (Addr × Obj)} {xe : Value → Shared → Prop} {W : WX} {E : XK} {tb : TE} {p1 p2 : Pos}
    (I : Inv X pins σ H s) (L : Par X.N X.env.scope own a) (hf : s.heap.get? f = some (dObj X params body own D doc pm c' ctv)) (hfn : H f = none) (hfr : f ∉ frs X.stack) (hD : s.heap.get? D = some (PySem.W.kdv_tup [u])) (hDn : H D = none) (hDr : D ∉ frs X.stack)
    (hbind : ∀ s : Shared, s.heap.get? D = some (PySem.W.kdv_tup [u]) → BindsTo s (PySem.W.kdv_fn "<lambda>" (X.env.qual ++ "<lambda>") params (.expr body) own (cloFrom X.env.cells own.names []) (.ref D) doc pm (.ref c') ctv) ⟨[], []⟩ [(a, u)])
    (tk : Takes ((cxOf CXg X.prog X.w X.K X.mg X.base Ng qg sg g cdg X.A X.stack s H Eg).tr pn xe) W) (hW : ∀ cls d σ' H', E cls d H' → W cls d σ' H') (hr : Room (k + 1) (X.A.deeper (envOfC qg sg s.heap.objs.size g cdg)))
    (hbody : ∀ (A : Around) (outer : List Env) (s : Shared) (H : Hp), Room k (A.deeper (lamEnv X own s.heap.objs.size f c')) → PE (lamCx X A outer s H E own f c') body tb)
    (hN : Ng[i]? = some x) (hv : Vis sg x) (hdb : (x == ("__debug__" : Str)) = false := by decide) (hcd : (x == ("__classdict__" : Str)) = false := by decide) :
    PE ((cxOf CXg X.prog X.w X.K X.mg X.base Ng qg sg g cdg X.A X.stack s H Eg).tr pn xe) (.Call (.Name x p1) [] [] p2)
      (fun σZ HZ Q => σZ[i]? = some (some (.ref f)) ∧ HZ c' = some (CodeO c' (X.env.qual ++ "<lambda>")) ∧ tb σ HZ Q) := by
  refine ⟨fun pinsZ sZ σZ HZ Q IZ ⟨hs, hc, ht⟩ => ?_⟩
  refine wpAny_Call_Name_kw (thn ((pe_var (pos := p1) (i := i) hN hv hdb hcd).run pinsZ sZ σZ HZ (fun v H1 => v = .ref f ∧ H1 = HZ) IZ ⟨.ref f, hs, rfl, rfl⟩) fun u' s1 ⟨v, H1, I1, r1, ev, eH⟩ => ?_)
  subst ev eH
  obtain rfl : u' = Value.ref f := r1
  have keep : ∀ {b : Addr} {o : Obj}, s.heap.get? b = some o → H b = none → b ∉ frs X.stack → s1.heap.get? b = some o := fun {b o} e n fr => I1.base.keep b _ e n fr fun z => nomatch (show b ∈ ([] : List Addr) from z)
  have of1 := keep hf hfn hfr
  refine PySem.W.callWith_F0 ⟨_, _, _, _, of1⟩ ?_
  have un : Un (frs X.stack) [] H H1 s.heap s1.heap := I1.base
  obtain ⟨⟨oc, vs, t, hoc, hdc, hvc⟩, _, _⟩ := I1.hok c' _ hc
  have rc : codeAny (model X.prog X.w) (X.A.deeper (envOfC qg sg s.heap.objs.size g cdg)) (.call (.ref f) ⟨[], []⟩) (CR (L2.CX X.prog X.w) (envOfC qg sg s.heap.objs.size g cdg :: X.stack) X.prog X.w H1 s1 Q E) s1 := by
    refine PySem.W.kla_callFunE hr.depth of1 rfl L.co L.gen rfl ⟨c', oc, vs, t, rfl, hoc, hdc, hvc⟩ (hbind s1 (keep hD hDn hDr) _ _ _ _ ?_)
    refine wpAny_newFunctionEnv (fun y hy => (L.loc y hy).1) (fun y hy => by rw [List.mem_singleton.mp hy]; exact L.par) (fun h₁ hns hsb => ⟨I1.nolimit.fresh _ hsb, ?_⟩) L.kind
    refine (?_ : codeAny _ _ (.expr body (lamEnv X own s1.heap.objs.size f c')) _ _)
    have kp : ∀ b o, s1.heap.get? b = some o → h₁.get? b = some o := fun b o e => hsb.extBut b o (Nat.ne_of_lt (Heap.lt_size e)) (Heap.get?_push_of_some _ e)
    have J := enter (A := X.A.deeper (envOfC qg sg s.heap.objs.size g cdg)) (outer := envOfC qg sg s.heap.objs.size g cdg :: X.stack) (E := E) (f := f) (c' := c') (tk := s1.toks + ([(a, u)] : List (Str × Value)).length) I L I1.env0 hr.hd un hns kp
    exact PySem.W.kla_codeExpr (wpAny_mono ((hbody _ _ s1 H1 (hr.deeper _)).run [] _ _ H1 Q J ht) (fun v s' ⟨w', H', J', rv, q⟩ => ⟨w', H', J'.os, J'.bare, J'.base, J'.hok, rv, q⟩) fun _ _ hq => hq)
  have hx : Passes (L2.CX X.prog X.w) ((cxOf CXg X.prog X.w X.K X.mg X.base Ng qg sg g cdg X.A X.stack s H Eg).tr pn xe) E := passes_call tk hW
  refine wpAny_call (codeAny_mono rc fun r s' hq => ?_)
  match r, hq with
  | .error e, hq => exact hx pinsZ σZ H1 s1 e s' I1 hq
  | .ok (.ret u), hq => exact I1.after hq
  | .ok .next, hq => exact False.elim hq
  | .ok .brk, hq => exact False.elim hq
  | .ok .cont, hq => exact False.elim hq
end
section
variable {X : Cx}
/-- x(lambda a=z: body) -/
theorem pe_lamcall {Ts : List (Addr × Str)} {TT : (XK → Hp → VK → Prop) → Hp → VK → Prop} {x y a : Str} {g c P : Addr} {k : Nat} {pg : Arguments} {bg : List Stmt} {sg : Scope} {dV kV doc pm cdv ct oc : Value} {an od : Option Addr} {osl : Array (Option Value)} {Ng : List Str}
    {params : Arguments} {body de : Expr} {own : Scope} {t : XK → TE} {p lpos pos : Pos} {z : Int} (hg : Gl X x) (hm : X.mg x = some (.ref g)) (hk : PySem.W.keepIn X.K (.ref g) = true)
    (lk : X.K.lookup g = some ⟨oc, od, .func (PySem.W.fnOf x x pg bg sg dV kV doc pm an cdv ct), osl⟩) (hcg : PySem.W.codeIn X.K cdv x = true) (hb : L2.Binds X.K (PySem.W.fnOf x x pg bg sg dV kV doc pm an cdv ct) [y] []) (Sg : FnScope Ng [y] sg) (hNg : Ng[0]? = some y) (hva : Vis sg y)
    (hG : GivesTo X Ng x sg g cdv bg y (X.env.qual ++ "<lambda>") TT)
    (TB : TabB X.base X.mg c P) (hcode : X.env.code = .ref c) (hmT : (P, X.env.qual ++ "<lambda>") ∈ Ts) (hu : ∀ p ∈ Ts, p.1 = P → p.2 = X.env.qual ++ "<lambda>") (hr : Room (k + 2) X.A) (L : Par X.N X.env.scope own a) (hde : params.defaults = [de]) (hkw : params.kw_defaults = []) (hz : PE X de (tC (.int z)))
    (hbind : ∀ (u : Value) (D : Addr) (q : Str) (cl : List (Str × Addr)) (doc pm cv ctv : Value) (s : Shared), s.heap.get? D = some (PySem.W.kdv_tup [u]) → BindsTo s (PySem.W.kdv_fn "<lambda>" q params (.expr body) own cl (.ref D) doc pm cv ctv) ⟨[], []⟩ [(a, u)])
    (hbody : ∀ (A : Around) (outer : List Env) (s : Shared) (H : Hp) (E : XK) (f c' : Addr), Room k (A.deeper (lamEnv X own s.heap.objs.size f c')) → PE (lamCx X A outer s H E own f c') body (t E))
    (hdb : (x == ("__debug__" : Str)) = false := by decide) (hd : (y == ("__debug__" : Str)) = false := by decide) (hcd : (y == ("__classdict__" : Str)) = false := by decide) :
    PE X (.Call (.Name x p) [.Lambda params body own lpos] [] pos) (tLam Ts TT t) := by
  refine ⟨fun pins s σ H Q I ⟨hT, h⟩ => ?_⟩
  refine wpAny_Call_Name_kw (ld_glob I hg hm ?_ hdb)
  refine PySem.W.callWith_K (h₀ := X.base) I.ok.mod.kin hk ?_ (by rfl) (by rfl)
  refine (?_ : wpAny _ _ (spliced ((false, eval (.Lambda params body own lpos) X.env) :: backTo pos (starEach [] X.env))) _ _ s)
  refine Calls.spliced_cons (make I TB hcode hmT hu hT hde hkw hz (L.has I.ok) fun f c' D u doc' pm' ctv H1 s' I1 eN T1 hf hfn hfr hD hDn hDr hco => Calls.spliced_nil ⟨I1.kIn, ?_⟩)
  have rc : codeAny (model X.prog X.w) X.A (.call (.ref g) ⟨[.ref f], []⟩) (CR C8.CX0 X.stack X.prog X.w H1 s' Q C8.E0) s' := by
    refine run_ofS (N := Ng) (ps := [y]) (us := [.ref f]) (vs := [.ref f]) lk hcg Sg hr I1.env0 (hb s' [.ref f] I1.kIn rfl) (.cons rfl .nil) rfl fun hr' => ?_
    obtain ⟨t', ht', hq'⟩ := hG f c' s' H1 Q (fun E H' Q' => t E σ H' Q') (fun W pn xe E p1 p2 tk hW => act (i := 0) I1 L hf hfn hfr hD hDn hDr (fun s2 h2 => hbind u D _ _ _ _ _ _ s2 h2) tk hW hr' (fun A outer s H hr2 => hbody A outer s H E f c' hr2) hNg hva hd hcd) hco (h H1 eN T1)
    exact ⟨t', ht'.nox, hq'⟩
  refine wpAny_call (codeAny_mono rc fun r s2 hq => ?_)
  match r, hq with
  | .error e, hq => exact (show False from hq).elim
  | .ok (.ret u), hq => exact I1.after hq
  | .ok .next, hq => exact False.elim hq
  | .ok .brk, hq => exact False.elim hq
  | .ok .cont, hq => exact False.elim hq
end
end LamD
namespace Say
open PySem PySem.Spec PyProof.Rows L2 L2.DX
section
variable {P : Program} {w : World} {K : PySem.W.Frag} {mg : Str → Option Value} {base : Heap}
abbrev sLaw : Stmt := topS 62
abbrev nLaw : List Str := ["_law_script", "_law_row_here", "_law_book_here", "_law_first", "_law_second", "_law_turn", "_law_k", "_law_letter", "_law_pair", "_law_told", "_law_found", "_law_sounds"]
theorem scLaw : FnScope nLaw ["_law_script"] (defScope sLaw) := ⟨rfl, rfl, rfl, by decide +kernel, rfl, by decide +kernel, by decide +kernel⟩
def qLam : Str := (PySem.W.envX "law" (defScope sLaw) 0 0 (.ref 0) []).qual ++ "<lambda>"
def spLawT (K : PySem.W.Frag) (Pt : Addr) : Sp := fun vs H Q _ => ∃ (a : Addr) (ns : List Int), vs = [.ref a] ∧ SqL K H a (ns.map V.int) ∧ ns.length ≤ 63 ∧ H Pt = some (.tbl #[]) ∧ ∀ H', Q (.bl true) H'
abbrev stPass : Stmt := .Pass ⟨0, 0, 0, 0⟩
abbrev stTurn : List Stmt := match (defBody sLaw).getD 3 stPass with
  | .For _ _ b _ _ => b
  | _ => []
abbrev stA : Stmt := stTurn.getD 0 stPass
abbrev stG : Stmt := stTurn.getD 2 stPass
abbrev stK : Stmt := stTurn.getD 3 stPass
abbrev stF : Stmt := stTurn.getD 6 stPass
/-- the machines stand alike -/
def Mid (K : PySem.W.Frag) (Pt C r a b y y2 : Addr) (ns : List Int) (L : List Nat) (rs : List Rule) (es : List Exc) (H : Hp) : Prop :=
  ∃ (pa Rm pa2 Rm2 : Addr) (x : SS), TwoS K [(Pt, qLam)] C r a b y pa Rm y2 pa2 Rm2 ns L rs es x x H ∧ Okx rs x
theorem ok_law {f cL Pt gW CU CW CN C fIn fFe fEn fWo fBa : Addr} {fdW fdIn fdFe fdEn fdWo fdBa : FuncData} {oc : Value} {od an : Option Addr} {osl : Array (Option Value)} {kV doc pm ct : Value}
    (lk : K.lookup f = some ⟨oc, od, .func (PySem.W.fnOf "law" "law" (defArgs sLaw) (defBody sLaw) (defScope sLaw) .none kV doc pm an (.ref cL) ct), osl⟩) (hcd : PySem.W.codeIn K (.ref cL) "law" = true)
    (TB : LamX.TabB base mg cL Pt) (B : Bn mg) (mMin : mg "min" = none) (mInt : mg "int" = none) (WC : WordC K mg CU 4) (WW : WordC K mg CW 1)
    (FW : Fun K "_law_word" "_law_word" sLWo gW fdW) (mW : mg "_law_word" = some (.ref gW))
    (S : SyC K C) (mgC : mg "Sayer" = some (.ref C)) (Mk_ : Mk K C fIn) (GIn : FnOk P w K mg base CX0 6 fIn fdIn ["self", "book"] (spInitS C)) (bIn : Binds K fdIn ["self", "book"] [])
    (GFe : FnOk P w K mg base (L2.CX P w) 4 fFe fdFe ["self", "letter"] (spFeed C CW CU)) (mFe : Meth K C "feed" fFe) (bFe : Binds K fdFe ["self", "letter"] [])
    (GEn : FnOk P w K mg base (L2.CX P w) 4 fEn fdEn ["self"] (spEndS C CU)) (mEn : Meth K C "end" fEn) (bEn : Binds K fdEn ["self"] [])
    (GBa : FnOk P w K mg base (L2.CX P w) 1 fBa fdBa ["self"] (spBack C CN)) (mBa : Meth K C "back" fBa) (bBa : Binds K fdBa ["self"] [])
    (GWo : FnOk P w K mg base CX0 1 fWo fdWo ["self"] (spWord C)) (mWo : Meth K C "word" fWo) (bWo : Binds K fdWo ["self"] [])
    (DRo : Df P w K mg base "_law_row" ["_law_script"] 1 (spRow K)) (DT : Df P w K mg base "_law_taken" ["_law_row_here", "_law_many"] 1 (spTaken K))
    (DBk : Df P w K mg base "_law_book" ["_law_row_here"] 5 (spLBk K)) :
    FnOk P w K mg base CX0 8 f (PySem.W.fnOf "law" "law" (defArgs sLaw) (defBody sLaw) (defScope sLaw) .none kV doc pm an (.ref cL) ct) ["_law_script"] (spLawT K Pt) := by
  obtain ⟨fRo, fdRo, GRo, kRo, bRo, mRo⟩ := DRo
  obtain ⟨fT, fdT, GT, kT, bT, mT⟩ := DT
  obtain ⟨fB, fdB, GB, kB, bB, mB⟩ := DBk
  obtain ⟨cS, mS, _⟩ := id WC.say
  obtain ⟨ocW, odW, kVW, docW, pmW, anW, cdvW, ctW, oslW, eW, lkW, hcW⟩ := FW.ex
  have kW := FW.kp
  have bW : Binds K fdW ["_law_work"] [] := FW.binds fun _ _ _ _ _ _ us hl => match us, hl with | [_], _ => rfl
  subst eW
  refine fn_of lk hcd scLaw (fun vs H Q E h => ?_) (fun A outer s H vs Q E hr h => ?_)
  · obtain ⟨a, ns, rfl, _⟩ := h
    rfl
  · obtain ⟨a, ns, rfl, hSc, hle, hPt, q⟩ := h
    suffices hh : ∃ t, PSs (cxOf CX0 P w K mg base nLaw "law" (defScope sLaw) f (.ref cL) A outer s H E).nox (defBody sLaw) t ∧ t { nx := fun _ H' => Q .non H', rt := Q } (start nLaw [.ref a]) H by
      obtain ⟨t, h1, h2⟩ := hh
      exact ⟨t, h1.nox, h2⟩
    have hr1 : Room 1 _ := hr.mono (by decide)
    have hr2 : Room 2 _ := hr.mono (by decide)
    have hr5 : Room 5 _ := hr.mono (by decide)
    have hr6 : Room (4 + 2) _ := hr.mono (by decide)
    have hr7 : Room (6 + 1) _ := hr
    -- letters fed to both
    obtain ⟨tA, psA, qA⟩ : ∃ tA : TS, PS (cxOf CX0 P w K mg base nLaw "law" (defScope sLaw) f (.ref cL) A outer s H E).nox stA tA ∧
        ∀ (D : Ends) (r b y y2 : Addr) (L : List Nat) (rs : List Rule) (es : List Exc) (v5 v6 v7 v8 v9 v10 v11 : Option V) (H9 : Hp), BookOk L rs es → Mid K Pt C r a b y y2 ns L rs es H9 →
          (∀ (v6 v7 v8 : Option V) (H' : Hp), Mid K Pt C r a b y y2 ns L rs es H' → D.nx [some (.ref a), some (.ref r), some (.ref b), some (.ref y), some (.ref y2), v5, v6, v7, v8, v9, v10, v11] H') →
          tA D [some (.ref a), some (.ref r), some (.ref b), some (.ref y), some (.ref y2), v5, v6, v7, v8, v9, v10, v11] H9 := by
      refine ⟨_, (ps_for PassesOwn.never rfl (pi_range1 (by rfl) B.rng (pa_cons (pe_call GT hr1 (by rfl) mT kT bT .nil pass0 (pa_cons (pv 1) (pa_cons pe_int pa_nil))) pa_nil)) (pg_name (i := 6) scLaw.nd rfl (.inl rfl)) (pss_cons (ps_set (i := 7) scLaw.nd rfl (.inr rfl) (pe_ix ix_str (pe_ix ix_tup (pv 2) pe_int (fun _ _ => rfl)) (pe_call GT hr1 (by rfl) mT kT bT .nil pass0 (pa_cons (pv 1) (pa_cons (pe_callB call_len_str (by rfl) B.len PySem.boot_len (pa_cons (pe_ix ix_tup (pv 2) pe_int (fun _ _ => rfl)) pa_nil)) pa_nil))) (fun _ _ => rfl)))
        (pss_cons (ps_set (i := 8) scLaw.nd rfl (.inl rfl) (pe_lst (pa_cons (LamX.pe_lamcall (T := [(Pt, qLam)]) (k := 4) (t := fun E => tMeth C "feed" (spFeed C CW CU) [] E (tVar 3) (tCons (tVar 7) tNil)) (by rfl) mW kW lkW hcW bW scLWo rfl (by exact .inl rfl) (word_gives B mS) TB rfl (List.mem_singleton.mpr rfl) (fun p hp _ => by rw [List.mem_singleton.mp hp]; rfl) hr6 (LamX.lamS_by (by show LamX.lamSB (defScope sLaw) _ = true; decide +kernel)) rfl (fun _ _ _ _ _ => rfl)
            (fun A' outer' s' H' E' f' c' hr' => pe_meth (E := E') (pv 3) S.cl mFe GFe hr' bFe .nil (passes_call (W := fun cls d _ H => E' cls d H) (takes_of rfl rfl rfl rfl) (fun _ _ _ _ h => h)) (pa_cons (pv 7) pa_nil))) (pa_cons (LamD.pe_lamcall (Ts := [(Pt, qLam)]) (a := "_law_a") (z := 0) (k := 4) (t := fun E => tMeth C "feed" (spFeed C CW CU) [] E (tVar 4) (tCons (tVar 7) tNil)) (by rfl) mW kW lkW hcW bW scLWo rfl (by exact .inl rfl) (word_gives B mS) TB rfl (List.mem_singleton.mpr rfl) (fun p hp _ => by rw [List.mem_singleton.mp hp]; rfl) hr6 (LamD.par_by (by show LamD.parB nLaw (defScope sLaw) _ _ = true; decide +kernel)) rfl rfl pe_int (fun _ _ _ _ _ _ _ _ _ hD => BindsTo.of_defaults rfl hD rfl rfl rfl)
            (fun A' outer' s' H' E' f' c' hr' => pe_meth (E := E') (pv 4) S.cl mFe GFe hr' bFe .nil (passes_call (W := fun cls d _ H => E' cls d H) (takes_of rfl rfl rfl rfl) (fun _ _ _ _ h => h)) (pa_cons (pv 7) pa_nil))) pa_nil))))
        (pss_one (ps_if (pt_cmpR (op_neD hr.units) (pe_ix ix_list (pv 8) pe_int (fun _ _ => rfl)) (pe_ix ix_list (pv 8) pe_int (fun _ _ => rfl)) (nomark _)) (pss_one (ps_ret pe_bl)) pss_nil))))), ?_⟩
      intro D r b y y2 L rs es v5 v6 v7 v8 v9 v10 v11 H9 oB hM qn
      have l2 := oB.lt.l2
      have l4 := oB.lt.l4
      have hzL : (T L).length ≤ sizeLine := by rw [T_len]; exact small (by omega)
      obtain ⟨pa0, Rm0, pa20, Rm20, x0, h0, ox0⟩ := hM
      refine ⟨_, rfl, r, a, ns, 6, rfl, h0.R, by decide, by decide, fun n H1 n0 n1 s1 R1 => ?_⟩
      have h1 := h0.stp s1 R1
      refine ⟨n, rfl, by omega, by omega, for_it (walk_range) (fun i σ H' => Mid K Pt C r a b y y2 ns L rs es H' ∧ ∃ v6 v7 v8, σ = [some (.ref a), some (.ref r), some (.ref b), some (.ref y), some (.ref y2), v5, v6, v7, v8, v9, v10, v11])
        ⟨⟨_, _, _, _, _, h1, ox0⟩, _, _, _, rfl⟩ (fun _ _ _ _ _ => trivial) ?_ ?_⟩
      · rintro i xv σ H2 H2' hi ⟨⟨pa, Rm, pa2, Rm2, x, h2, ox⟩, v6, v7, v8, rfl⟩ ⟨rfl, rfl⟩
        obtain ⟨Rb, Xb, hb, _, _⟩ := id h2.hB
        refine ⟨_, rfl, b, _, 0, .str (T L), rfl, rfl, .inl (.inl hb), atI_nat (j := 0) rfl, _, rfl, _, rfl, b, _, 0, .str (T L), rfl, rfl, .inl (.inl hb), atI_nat (j := 0) rfl, T L, rfl, hzL, r, a, ns, _, rfl, h2.R, by rw [T_len]; omega, by rw [T_len]; omega, fun k H3 k0 k1 s3 R3 => ?_⟩
        rw [T_len] at k1
        have hk : k.toNat < L.length := by omega
        have hcL : L[k.toNat] ∈ L := List.getElem_mem hk
        refine ⟨T L, _, L[k.toNat], rfl, rfl, hzL, at_list hk k0, ?_⟩
        have h3 := h2.stp s3 R3
        obtain ⟨c, hce⟩ : ∃ c, c = L[k.toNat] := ⟨_, rfl⟩
        rw [← hce] at hcL ⊢
        simp only [List.set_cons_succ, List.set_cons_zero]
        refine ⟨h3.Tb, fun H4 e4 T4 => ?_⟩
        have h4 := h3.extN e4 T4
        refine feed_fn WC WW (c := c) rfl rfl h4.s1 oB.rls hcL ox fun t1 H5 k5 s5 ht1 => ?_
        have h5 := h4.kp k5 (.inl rfl) s5
        refine ⟨h5.Tb, fun H6 e6 T6 => ?_⟩
        have h6 := h5.extN e6 T6
        have ht1 := e6 _ _ ht1 (fun ps z => by cases z)
        refine feed_fn WC WW (c := c) rfl rfl h6.s2 oB.rls hcL ox fun t2 H7 k7 s7 ht2 => ?_
        have h7 := (h6.swap.kp k7 (.inl rfl) s7).swap
        have ht1 := h6.s2.kt k7 |>.1 _ _ ht1
        refine ⟨(by show 2 ≤ sizeLine; decide), fun p hp => ?_⟩
        have m8 := same_new hp (.lst [V.ref t1, .ref t2])
        have h8 := h7.same m8
        have ht1 := m8 _ _ ht1
        have ht2 := m8 _ _ ht2
        have hp8 : (upd H7 p (.lst [V.ref t1, .ref t2])) p = some (.lst [V.ref t1, .ref t2]) := upd_same
        generalize upd H7 p (.lst [V.ref t1, .ref t2]) = H8 at h8 ht1 ht2 hp8 ⊢
        simp only [List.set_cons_succ, List.set_cons_zero]
        obtain ⟨d, sh, ev, dp⟩ := fdV_told oB x.wd x.tl c
        refine ⟨_, rfl, p, _, 0, .ref t1, rfl, rfl, .inl (.inl hp8), atI_nat (j := 0) rfl, _, rfl, p, _, 1, .ref t2, rfl, rfl, .inl (.inl hp8), atI_nat (j := 1) rfl, d, d, dp _ _ _ ht1, dp _ _ _ ht2, sh, sh, _, rfl, ?_⟩
        rw [ev]
        refine iteF ?_
        exact ⟨⟨_, _, _, _, _, h8, ox.fd c⟩, _, _, _, rfl⟩
      · rintro σ H' ⟨hM, v6, v7, v8, rfl⟩
        exact qn _ _ _ _ hM
    -- letters fed to the first
    obtain ⟨tG, psG, qG⟩ : ∃ tG : TS, PS (cxOf CX0 P w K mg base nLaw "law" (defScope sLaw) f (.ref cL) A outer s H E).nox stG tG ∧
        ∀ (D : Ends) (r b y y2 pa Rm pa2 Rm2 TA : Addr) (L : List Nat) (rs : List Rule) (es : List Exc) (x : SS) (v5 v6 v7 v8 v10 v11 : Option V) (H9 : Hp), BookOk L rs es → TwoS K [(Pt, qLam)] C r a b y pa Rm y2 pa2 Rm2 ns L rs es x x H9 → Okx rs x → H9 TA = some (.lst (tv [])) → TA ≠ pa →
          (∀ (v6 v7 v10 : Option V) (H' : Hp) (z : SS) (so : List (List Nat)) (TA : Addr), TwoS K [(Pt, qLam)] C r a b y pa Rm y2 pa2 Rm2 ns L rs es z x H' → Okx rs z → Gr x z so → H' TA = some (.lst (tv so)) → (∀ s ∈ so, s.length ≤ 100) → D.nx [some (.ref a), some (.ref r), some (.ref b), some (.ref y), some (.ref y2), v5, v6, v7, v8, some (.ref TA), v10, v11] H') →
          tG D [some (.ref a), some (.ref r), some (.ref b), some (.ref y), some (.ref y2), v5, v6, v7, v8, some (.ref TA), v10, v11] H9 := by
      refine ⟨_, (ps_for PassesOwn.never rfl (pi_range1 (by rfl) B.rng (pa_cons (pe_callB (call_min2 (by rfl)) (by rfl) mMin (by decide +kernel) (pa_cons (pe_op op_sub pe_int (pe_callB call_len_str (by rfl) B.len PySem.boot_len (pa_cons (pe_meth0 (pv 3) S.cl mWo GWo hr1 bWo .nil pass0) pa_nil))) (pa_cons (pe_call GT hr1 (by rfl) mT kT bT .nil pass0 (pa_cons (pv 1) (pa_cons pe_int pa_nil))) pa_nil))) pa_nil)) (pg_name (i := 6) scLaw.nd rfl (.inl rfl)) (pss_cons (ps_set (i := 7) scLaw.nd rfl (.inr rfl) (pe_ix ix_str (pe_ix ix_tup (pv 2) pe_int (fun _ _ => rfl)) (pe_call GT hr1 (by rfl) mT kT bT .nil pass0 (pa_cons (pv 1) (pa_cons (pe_callB call_len_str (by rfl) B.len PySem.boot_len (pa_cons (pe_ix ix_tup (pv 2) pe_int (fun _ _ => rfl)) pa_nil)) pa_nil))) (fun _ _ => rfl)))
        (pss_cons (ps_set (i := 10) scLaw.nd rfl (.inl rfl) (LamX.pe_lamcall (T := [(Pt, qLam)]) (k := 4) (t := fun E => tMeth C "feed" (spFeed C CW CU) [] E (tVar 3) (tCons (tVar 7) tNil)) (by rfl) mW kW lkW hcW bW scLWo rfl (by exact .inl rfl) (word_gives B mS) TB rfl (List.mem_singleton.mpr rfl) (fun p hp _ => by rw [List.mem_singleton.mp hp]; rfl) hr6 (LamX.lamS_by (by show LamX.lamSB (defScope sLaw) _ = true; decide +kernel)) rfl (fun _ _ _ _ _ => rfl)
            (fun A' outer' s' H' E' f' c' hr' => pe_meth (E := E') (pv 3) S.cl mFe GFe hr' bFe .nil (passes_call (W := fun cls d _ H => E' cls d H) (takes_of rfl rfl rfl rfl) (fun _ _ _ _ h => h)) (pa_cons (pv 7) pa_nil))))
        (pss_one (ps_set (i := 9) scLaw.nd rfl (.inl rfl) (pe_op op_cat (pv 9) (pe_op op_rep (pe_lst (pa_cons (pe_ix ix_tup (pv 10) pe_int (fun _ _ => rfl)) pa_nil)) (pe_callTy call_int1 (by rfl) mInt (by decide +kernel) (pa_cons (pe_cmpR op_eq (pe_ix ix_tup (pv 10) pe_int (fun _ _ => rfl)) pe_str (nomark _)) pa_nil))))))))), ?_⟩
      intro D r b y y2 pa Rm pa2 Rm2 TA L rs es x v5 v6 v7 v8 v10 v11 H9 oB h0 ox hTA nTA qn
      have l2 := oB.lt.l2
      have l4 := oB.lt.l4
      have x12 := ox.h12
      have hzL : (T L).length ≤ sizeLine := by rw [T_len]; exact small (by omega)
      obtain ⟨⟨dx, hy⟩, _⟩ := id h0.s1
      refine ⟨_, rfl, y, dx, _, rfl, hy, rfl, y, dx, _, x.wd, rfl, hy, f_wd, _, rfl, (by rw [T_len]; exact small (by omega)), ?_⟩
      rw [T_len]
      refine ⟨_, _, rfl, rfl, _, rfl, r, a, ns, 7, rfl, h0.R, by decide, by decide, fun n H1 n0 n1 s1 R1 => ?_⟩
      have h1 := h0.stp s1 R1
      have hTA1 := s1 _ _ hTA (told_row hTA h0.R)
      refine ⟨_, _, rfl, ?_⟩
      obtain ⟨m, hm⟩ : ∃ m : Int, m = (if n < 12 - ((x.wd.length : Nat) : Int) then n else 12 - ((x.wd.length : Nat) : Int)) := ⟨_, rfl⟩
      rw [← hm]
      have m0 : 0 ≤ m := by rw [hm]; split <;> omega
      have m7 : m ≤ 12 := by rw [hm]; split <;> omega
      refine ⟨m, rfl, by omega, by omega, for_it (walk_range) (fun i σ H' => ∃ (v6 v7 v10 : Option V) (z : SS) (so : List (List Nat)) (TA : Addr), σ = [some (.ref a), some (.ref r), some (.ref b), some (.ref y), some (.ref y2), v5, v6, v7, v8, some (.ref TA), v10, v11] ∧ TwoS K [(Pt, qLam)] C r a b y pa Rm y2 pa2 Rm2 ns L rs es z x H' ∧ Okx rs z ∧ Gr x z so ∧ H' TA = some (.lst (tv so)) ∧ TA ≠ pa ∧ ∀ s ∈ so, s.length ≤ 100)
        ⟨_, _, _, x, [], TA, rfl, h1, ox, .nil, hTA1, nTA, (fun s h => nomatch h)⟩ (fun _ _ _ _ _ => trivial) ?_ ?_⟩
      · rintro i xv σ H2 H2' hi ⟨v6, v7, v10, z, so, TA, rfl, h2, oz, g, hT, nT, l100⟩ ⟨rfl, rfl⟩
        obtain ⟨Rb, Xb, hb, _, _⟩ := id h2.hB
        refine ⟨_, rfl, b, _, 0, .str (T L), rfl, rfl, .inl (.inl hb), atI_nat (j := 0) rfl, _, rfl, _, rfl, b, _, 0, .str (T L), rfl, rfl, .inl (.inl hb), atI_nat (j := 0) rfl, T L, rfl, hzL, r, a, ns, _, rfl, h2.R, by rw [T_len]; omega, by rw [T_len]; omega, fun k H3 k0 k1 s3 R3 => ?_⟩
        rw [T_len] at k1
        have hk : k.toNat < L.length := by omega
        have hcL : L[k.toNat] ∈ L := List.getElem_mem hk
        refine ⟨T L, _, L[k.toNat], rfl, rfl, hzL, at_list hk k0, ?_⟩
        have h3 := h2.stp s3 R3
        have hT3 := s3 _ _ hT (told_row hT h2.R)
        obtain ⟨c, hce⟩ : ∃ c, c = L[k.toNat] := ⟨_, rfl⟩
        rw [← hce] at hcL ⊢
        simp only [List.set_cons_succ, List.set_cons_zero]
        refine ⟨h3.Tb, fun H4 e4 T4 => ?_⟩
        have h4 := h3.extN e4 T4
        have hT4 := e4 _ _ hT3 (fun ps z => by cases z)
        obtain ⟨⟨dx4, hy4⟩, _⟩ := id h4.s1
        refine feed_fn WC WW (c := c) rfl rfl h4.s1 oB.rls hcL oz fun t1 H5 k5 s5 ht1 => ?_
        have h5 := h4.kp k5 (.inl rfl) s5
        have hT5 := k5 _ _ hT4 (ne_of hT4 hy4 (by intro z; cases z)) nT
        have oz' := oz.fd c
        simp only [List.set_cons_succ, List.set_cons_zero]
        obtain ⟨u, zz, ev, cs⟩ := fdV_two oB.rls z c
        rw [ev] at ht1
        refine ⟨_, rfl, _, rfl, t1, _, 1, zz, rfl, rfl, .inl (.inl ht1), atI_nat (j := 1) rfl, (by show 1 ≤ sizeLine; decide), fun p hp => ?_⟩
        have m6 := same_new hp (.lst [zz])
        have h6 := h5.same m6
        have ht6 := m6 _ _ ht1
        have hT6 := m6 _ _ hT5
        have hp6 : (upd H5 p (.lst [zz])) p = some (.lst [zz]) := upd_same
        generalize upd H5 p (.lst [zz]) = H6 at h6 ht6 hT6 hp6 ⊢
        refine ⟨_, rfl, t1, _, 0, .str u, rfl, rfl, .inl (.inl ht6), atI_nat (j := 0) rfl, rfl, .inr ⟨_, rfl, ?_⟩⟩
        obtain ⟨gl1, gl2⟩ := g.lens
        have z12 := oz.h12
        refine ⟨p, _, [zz], rfl, rfl, hp6, (by split <;> decide), (by split <;> decide), (by show 1 * Int.toNat _ ≤ sizeLine; split <;> decide), fun p2 hp2 => ?_⟩
        rcases cs with ⟨rfl, sn, tl', rfl, en, ln⟩ | ⟨cu, en⟩
        · rw [show decide (V.str (T []) = V.str (Str.ofString "")) = true from by decide +kernel]
          have m7 := same_new hp2 (.lst (List.replicate (if true = true then (1 : Int) else 0).toNat [V.str (T sn)]).flatten)
          have h7 := h6.same m7
          have hT7 := m7 _ _ hT6
          have hp7 : (upd H6 p2 (.lst (List.replicate (if true = true then (1 : Int) else 0).toNat [V.str (T sn)]).flatten)) p2 = some (.lst [V.str (T sn)]) := upd_same
          generalize upd H6 p2 (.lst (List.replicate (if true = true then (1 : Int) else 0).toNat [V.str (T sn)]).flatten) = H7 at h7 hT7 hp7 ⊢
          refine ⟨TA, p2, _, _, rfl, rfl, hT7, hp7, ?_, fun p3 hp3 => ?_⟩
          · unfold tv
            rw [List.length_map]
            exact small1000 (by omega)
          · have m8 := same_new hp3 (.lst (tv so ++ [V.str (T sn)]))
            have h8 := h7.same m8
            obtain ⟨_, _, ts8, hpa8, _⟩ := id h7.s1
            rw [en] at h8 oz'
            refine ⟨_, _, _, _, so ++ [sn], p3, rfl, h8, oz', .snoc g, ?_, (ne_of_none hpa8 hp3).symm, fun s hs => ?_⟩
            · rw [upd_same]
              unfold tv
              rw [List.map_append]
              rfl
            · rcases List.mem_append.mp hs with hs | hs
              · exact l100 s hs
              · rw [List.mem_singleton.mp hs]; exact ln
        · rw [cu]
          have m7 := same_new hp2 (.lst (List.replicate (if false = true then (1 : Int) else 0).toNat [zz]).flatten)
          have h7 := h6.same m7
          have hT7 := m7 _ _ hT6
          have hp7 : (upd H6 p2 (.lst (List.replicate (if false = true then (1 : Int) else 0).toNat [zz]).flatten)) p2 = some (.lst []) := upd_same
          generalize upd H6 p2 (.lst (List.replicate (if false = true then (1 : Int) else 0).toNat [zz]).flatten) = H7 at h7 hT7 hp7 ⊢
          refine ⟨TA, p2, _, _, rfl, rfl, hT7, hp7, ?_, fun p3 hp3 => ?_⟩
          · unfold tv
            rw [List.length_map]
            exact Nat.le_of_lt (small1000 (n := so.length + 0) (by omega))
          · have m8 := same_new hp3 (.lst (tv so ++ []))
            have h8 := h7.same m8
            obtain ⟨_, _, ts8, hpa8, _⟩ := id h7.s1
            rw [en] at h8 oz'
            exact ⟨_, _, _, _, so, p3, rfl, h8, oz', g, by rw [upd_same, List.append_nil], (ne_of_none hpa8 hp3).symm, l100⟩
      · rintro σ H' ⟨v6, v7, v10, z, so, TA, rfl, h2, oz, g, hT, nT, l100⟩
        exact qn _ _ _ _ _ _ _ h2 oz g hT l100
    -- letters taken back
    obtain ⟨tK, psK, qK⟩ : ∃ tK : TS, PS (cxOf CX0 P w K mg base nLaw "law" (defScope sLaw) f (.ref cL) A outer s H E).nox stK tK ∧
        ∀ (D : Ends) (r b y y2 pa Rm pa2 Rm2 TA : Addr) (L : List Nat) (rs : List Rule) (es : List Exc) (x z : SS) (so : List (List Nat)) (v5 v6 v7 v8 v10 v11 : Option V) (H9 : Hp), TwoS K [(Pt, qLam)] C r a b y pa Rm y2 pa2 Rm2 ns L rs es z x H9 → Okx rs x → Okx rs z → Gr x z so → H9 TA = some (.lst (tv so)) → (∀ s ∈ so, s.length ≤ 100) →
          (∀ (v11 : Option V) (H' : Hp), Mid K Pt C r a b y y2 ns L rs es H' → D.nx [some (.ref a), some (.ref r), some (.ref b), some (.ref y), some (.ref y2), v5, v6, v7, v8, some (.ref TA), v10, v11] H') →
          tK D [some (.ref a), some (.ref r), some (.ref b), some (.ref y), some (.ref y2), v5, v6, v7, v8, some (.ref TA), v10, v11] H9 := by
      refine ⟨_, (ps_for PassesOwn.never rfl (pi_list (pe_revL (pv 9))) (pg_name (i := 11) scLaw.nd rfl (.inl rfl)) (pss_one (ps_if (pt_cmpR op_ne (pe_meth0 (pv 3) S.cl mBa GBa hr1 bBa .nil passE) (pe_callB call_len_str (by rfl) B.len PySem.boot_len (pa_cons (pv 11) pa_nil)) (nomark _)) (pss_one (ps_ret pe_bl)) pss_nil))), ?_⟩
      intro D r b y y2 pa Rm pa2 Rm2 TA L rs es x z so v5 v6 v7 v8 v10 v11 H9 h0 ox oz g hT l100 qn
      refine ⟨_, rfl, TA, _, rfl, .inl (.inl hT), fun q hq => ?_⟩
      have m1 := same_new hq (.lst (tv so).reverse)
      have h1 := h0.same m1
      obtain ⟨_, _, tsP, hpa, _⟩ := id h0.s1
      have nq : q ≠ pa := (ne_of_none hpa hq).symm
      have hq1 : (upd H9 q (.lst (tv so).reverse)) q = some (.lst (tv so.reverse)) := by
        rw [upd_same]
        unfold tv
        rw [List.map_reverse]
      generalize upd H9 q (.lst (tv so).reverse) = H1 at h1 hq1 ⊢
      obtain ⟨rv, hrv⟩ : ∃ rv, rv = so.reverse := ⟨_, rfl⟩
      rw [← hrv] at hq1
      have g1 : Gr x z (rv.drop 0).reverse := by rw [hrv, List.drop_zero, List.reverse_reverse]; exact g
      have l100' : ∀ s ∈ rv, s.length ≤ 100 := fun s hs => l100 s (by rw [hrv] at hs; exact List.mem_reverse.mp hs)
      refine ⟨q, rfl, ⟨_, .inl (.inl hq1)⟩, for_it (walk_list (xs := tv rv)) (fun i σ H' => ∃ (v11 : Option V) (z : SS), σ = [some (.ref a), some (.ref r), some (.ref b), some (.ref y), some (.ref y2), v5, v6, v7, v8, some (.ref TA), v10, v11] ∧ TwoS K [(Pt, qLam)] C r a b y pa Rm y2 pa2 Rm2 ns L rs es z x H' ∧ z.wd.length ≤ 12 ∧ z.ps.length = z.wd.length ∧ Gr x z (rv.drop i).reverse ∧ H' q = some (.lst (tv rv)))
        ⟨_, z, rfl, h1, oz.h12, (by obtain ⟨⟨ks, so', hH⟩, _⟩ := oz; exact hH.lens.1), g1, hq1⟩ (fun i σ H' _ h => by obtain ⟨_, _, _, _, _, _, _, e⟩ := h; exact .inl (.inl e)) ?_ ?_⟩
      · rintro i xv σ H2 H2' hi ⟨v11, z, rfl, h2, z12, zps, g2, hq2⟩ ⟨rfl, hx⟩
        unfold tv at hx
        rw [List.getElem?_map] at hx
        obtain ⟨sn, hs, e⟩ := Option.map_eq_some_iff.mp hx
        subst e
        have hsl := l100' sn (List.mem_of_getElem? hs)
        obtain ⟨hi2, hie⟩ := List.getElem?_eq_some_iff.mp hs
        rw [List.drop_eq_getElem_cons hi2, hie, List.reverse_cons] at g2
        obtain ⟨z', e1, e2, g3⟩ := g2.back
        obtain ⟨⟨dx, hy⟩, _⟩ := id h2.s1
        refine ⟨_, rfl, y, dx, _, rfl, hy, rfl, y, pa, L, Rm, rs, z.wd, z.tl, z.ps, rfl, h2.s1, z12, zps, fun e => ?_, fun ps' t n e H3 k3 s3 => ?_⟩
        · rw [e2] at e; simp at e
        · rw [e2] at e
          obtain ⟨ea, eb⟩ := List.append_inj' e rfl
          cases eb
          subst ea
          rw [e1] at s3
          have h3 := h2.kp (x' := z') k3 (.inl rfl) s3
          have hq3 := k3 _ _ hq2 (ne_of hq2 hy (by intro z; cases z)) nq
          refine ⟨_, rfl, _, rfl, (by rw [T_len]; exact small (by omega)), rfl, _, rfl, ?_⟩
          rw [T_len, show (!decide (V.int ((sn.length : Nat) : Int) = V.int ((sn.length : Nat) : Int))) = false by rw [decide_eq_true rfl]; rfl]
          refine iteF ?_
          have el : z'.wd.length ≤ z.wd.length := by rw [← e1, List.length_dropLast]; omega
          refine ⟨_, z', rfl, h3, by omega, ?_, g3, hq3⟩
          obtain ⟨a1, a2⟩ := g3.lens
          obtain ⟨b1, b2⟩ := g2.lens
          rw [List.length_append, List.length_singleton] at b1 b2
          omega
      · rintro σ H' ⟨v11, z, rfl, h2, z12, zps, g2, hq2⟩
        rw [show (rv.drop (tv rv).length).reverse = [] by rw [show (tv rv).length = rv.length from List.length_map _, List.drop_length]; rfl] at g2
        obtain rfl := g2.zero
        exact qn _ _ ⟨_, _, _, _, _, h2, ox⟩
    -- a long word ends it
    obtain ⟨tF, psF, qF⟩ : ∃ tF : TS, PS (cxOf CX0 P w K mg base nLaw "law" (defScope sLaw) f (.ref cL) A outer s H E).nox stF tF ∧
        ∀ (D : Ends) (r b y y2 : Addr) (L : List Nat) (rs : List Rule) (es : List Exc) (v5 v6 v7 v8 v9 v10 v11 : Option V) (H9 : Hp), Mid K Pt C r a b y y2 ns L rs es H9 → (∀ H', D.rt (.bl true) H') →
          D.nx [some (.ref a), some (.ref r), some (.ref b), some (.ref y), some (.ref y2), v5, v6, v7, v8, v9, v10, v11] H9 →
          tF D [some (.ref a), some (.ref r), some (.ref b), some (.ref y), some (.ref y2), v5, v6, v7, v8, v9, v10, v11] H9 := by
      refine ⟨_, (ps_if (pt_cmpR op_gt (pe_callB call_len_str (by rfl) B.len PySem.boot_len (pa_cons (pe_meth0 (pv 3) S.cl mWo GWo hr1 bWo .nil pass0) pa_nil)) pe_int (nomark _)) (pss_one (ps_ret pe_bl)) pss_nil), ?_⟩
      intro D r b y y2 L rs es v5 v6 v7 v8 v9 v10 v11 H9 hM qr qn
      obtain ⟨pa, Rm, pa2, Rm2, x, h0, ox⟩ := hM
      have x12 := ox.h12
      obtain ⟨⟨dx, hy⟩, _⟩ := id h0.s1
      refine ⟨_, rfl, y, dx, _, rfl, hy, rfl, y, dx, _, x.wd, rfl, hy, f_wd, _, rfl, (by rw [T_len]; exact small (by omega)), _, _, rfl, rfl, _, rfl, ite2 (fun c => ?_) (fun c => ?_)⟩
      · exact qr _
      · exact qn
    refine ⟨_, pss_cons (ps_set (i := 1) scLaw.nd rfl (.inl rfl) (pe_call GRo hr1 (by rfl) mRo kRo bRo .nil pass0 (pa_cons (pv 0) pa_nil)))
      (pss_cons (ps_set (i := 2) scLaw.nd rfl (.inl rfl) (pe_call GB hr5 (by rfl) mB kB bB .nil pass0 (pa_cons (pv 1) pa_nil)))
      (pss_cons (ps_asg (pe_tup (pa_cons (pe_make Mk_ GIn hr7 (by rfl) mgC bIn .nil pass0 (pa_cons (pv 2) pa_nil)) (pa_cons (pe_make Mk_ GIn hr7 (by rfl) mgC bIn .nil pass0 (pa_cons (pv 2) pa_nil)) pa_nil))) (pg_tup (by rfl) (pgs_cons (pg_name (i := 3) scLaw.nd rfl (.inr rfl)) (pgs_cons (pg_name (i := 4) scLaw.nd rfl (.inr rfl)) pgs_nil))))
      (pss_cons (ps_for PassesOwn.never rfl (pi_range1 (by rfl) B.rng (pa_cons pe_int pa_nil)) (pg_name (i := 5) scLaw.nd rfl (.inl rfl)) (pss_cons psA
        (pss_cons (ps_set (i := 9) scLaw.nd rfl (.inl rfl) (pe_lst pa_nil))
        (pss_cons psG
        (pss_cons psK
        (pss_cons (ps_if (pt_cmpR op_ne (pe_meth0 (pv 3) S.cl mWo GWo hr1 bWo .nil pass0) (pe_meth0 (pv 4) S.cl mWo GWo hr1 bWo .nil pass0) (nomark _)) (pss_one (ps_ret pe_bl)) pss_nil)
        (pss_cons (ps_if (PW.pt (pw_and (pt_cmpR op_eq (pe_call GT hr1 (by rfl) mT kT bT .nil pass0 (pa_cons (pv 1) (pa_cons pe_int pa_nil))) pe_int (nomark _)) (pw_and1 (pt_cmpR (op_neD hr.units) (LamX.pe_lamcall (T := [(Pt, qLam)]) (k := 4) (t := fun E => tMeth C "end" (spEndS C CU) [] E (tVar 3) tNil) (by rfl) mW kW lkW hcW bW scLWo rfl (by exact .inl rfl) (word_gives B mS) TB rfl (List.mem_singleton.mpr rfl) (fun p hp _ => by rw [List.mem_singleton.mp hp]; rfl) hr6 (LamX.lamS_by (by show LamX.lamSB (defScope sLaw) _ = true; decide +kernel)) rfl (fun _ _ _ _ _ => rfl)
            (fun A' outer' s' H' E' f' c' hr' => pe_meth0 (E := E') (pv 3) S.cl mEn GEn hr' bEn .nil (passes_call (W := fun cls d _ H => E' cls d H) (takes_of rfl rfl rfl rfl) (fun _ _ _ _ h => h)))) (LamD.pe_lamcall (Ts := [(Pt, qLam)]) (a := "_law_a") (z := 0) (k := 4) (t := fun E => tMeth C "end" (spEndS C CU) [] E (tVar 4) tNil) (by rfl) mW kW lkW hcW bW scLWo rfl (by exact .inl rfl) (word_gives B mS) TB rfl (List.mem_singleton.mpr rfl) (fun p hp _ => by rw [List.mem_singleton.mp hp]; rfl) hr6 (LamD.par_by (by show LamD.parB nLaw (defScope sLaw) _ _ = true; decide +kernel)) rfl rfl pe_int (fun _ _ _ _ _ _ _ _ _ hD => BindsTo.of_defaults rfl hD rfl rfl rfl)
            (fun A' outer' s' H' E' f' c' hr' => pe_meth0 (E := E') (pv 4) S.cl mEn GEn hr' bEn .nil (passes_call (W := fun cls d _ H => E' cls d H) (takes_of rfl rfl rfl rfl) (fun _ _ _ _ h => h)))) (nomark _))))) (pss_one (ps_ret pe_bl)) pss_nil)
        (pss_one psF))))))))
      (pss_one (ps_ret (pe_cmpR (op_eqD hr.units) (LamX.pe_lamcall (T := [(Pt, qLam)]) (k := 4) (t := fun E => tMeth C "end" (spEndS C CU) [] E (tVar 3) tNil) (by rfl) mW kW lkW hcW bW scLWo rfl (by exact .inl rfl) (word_gives B mS) TB rfl (List.mem_singleton.mpr rfl) (fun p hp _ => by rw [List.mem_singleton.mp hp]; rfl) hr6 (LamX.lamS_by (by show LamX.lamSB (defScope sLaw) _ = true; decide +kernel)) rfl (fun _ _ _ _ _ => rfl)
            (fun A' outer' s' H' E' f' c' hr' => pe_meth0 (E := E') (pv 3) S.cl mEn GEn hr' bEn .nil (passes_call (W := fun cls d _ H => E' cls d H) (takes_of rfl rfl rfl rfl) (fun _ _ _ _ h => h)))) (LamD.pe_lamcall (Ts := [(Pt, qLam)]) (a := "_law_a") (z := 0) (k := 4) (t := fun E => tMeth C "end" (spEndS C CU) [] E (tVar 4) tNil) (by rfl) mW kW lkW hcW bW scLWo rfl (by exact .inl rfl) (word_gives B mS) TB rfl (List.mem_singleton.mpr rfl) (fun p hp _ => by rw [List.mem_singleton.mp hp]; rfl) hr6 (LamD.par_by (by show LamD.parB nLaw (defScope sLaw) _ _ = true; decide +kernel)) rfl rfl pe_int (fun _ _ _ _ _ _ _ _ _ hD => BindsTo.of_defaults rfl hD rfl rfl rfl)
            (fun A' outer' s' H' E' f' c' hr' => pe_meth0 (E := E') (pv 4) S.cl mEn GEn hr' bEn .nil (passes_call (W := fun cls d _ H => E' cls d H) (takes_of rfl rfl rfl rfl) (fun _ _ _ _ h => h)))) (nomark _))))))), ?_⟩
    refine ⟨_, rfl, a, ns, rfl, hSc, hle, fun r H1 hr0 s1 R1 => ?_⟩
    have T1 : LamX.Tabs [(Pt, qLam)] H1 := fun p hp => by
      rw [List.mem_singleton.mp hp]
      exact LamX.TabS.nil (s1 _ _ hPt)
    refine ⟨_, rfl, r, a, ns, rfl, R1, fun b L rs es H2 oB hB2 s2 R2 => ?_⟩
    have T2 := tabs_stp T1 R1.in s2
    -- two machines are made
    refine ⟨_, rfl, ?_⟩
    intro y dx ny ndx nd
    have s3 : Same H2 (upd (upd H2 dx (.own y)) y (.ins C dx [])) := fun b' o hb' => by
      rw [upd_ne (ne_of_none hb' ny), upd_ne (ne_of_none hb' ndx)]
      exact hb'
    refine ⟨y, dx, b, L, rs, es, rfl, upd_same, hB2.kt (.of s3), oB, fun pa Rm H4 hpa st hS4 => ⟨rfl, ?_⟩⟩
    have npy : pa ≠ y := fun z => by rw [z, upd_same] at hpa; cases hpa
    have npd : pa ≠ dx := fun z => by rw [z, upd_ne nd, upd_same] at hpa; cases hpa
    have hpa2 : H2 pa = none := by rw [upd_ne npy, upd_ne npd] at hpa; exact hpa
    have s24 : Same H2 H4 := fun b' o hb' => st _ _ (s3 _ _ hb') (ne_of_none hb' ny)
    have hB4 := hB2.kt (.of s24)
    have R4 := R2.stp s24
    have T4 := T2.ext s24
    refine ⟨_, rfl, ?_⟩
    intro y2 dx2 ny2 ndx2 nd2
    have s5 : Same H4 (upd (upd H4 dx2 (.own y2)) y2 (.ins C dx2 [])) := fun b' o hb' => by
      rw [upd_ne (ne_of_none hb' ny2), upd_ne (ne_of_none hb' ndx2)]
      exact hb'
    refine ⟨y2, dx2, b, L, rs, es, rfl, upd_same, hB4.kt (.of s5), oB, fun pa2 Rm2 H6 hpa2' st2 hS6 => ⟨rfl, ?_⟩⟩
    have npy2 : pa2 ≠ y2 := fun z => by rw [z, upd_same] at hpa2'; cases hpa2'
    have npd2 : pa2 ≠ dx2 := fun z => by rw [z, upd_ne nd2, upd_same] at hpa2'; cases hpa2'
    have hpa4 : H4 pa2 = none := by rw [upd_ne npy2, upd_ne npd2] at hpa2'; exact hpa2'
    have s46 : Same H4 H6 := fun b' o hb' => st2 _ _ (s5 _ _ hb') (ne_of_none hb' ny2)
    obtain ⟨⟨dxa, hya⟩, _, tsa, hpaa, _⟩ := id hS4
    have h6 : TwoS K [(Pt, qLam)] C r a b y pa Rm y2 pa2 Rm2 ns L rs es ⟨[], [35], []⟩ ⟨[], [35], []⟩ H6 :=
      ⟨R4.stp s46, T4.ext s46, hB4.kt (.of s46), hS4.same s46, hS6, R2.nw hpa2, R2.off hpa2, R4.nw hpa4, R4.off hpa4, ne_of_none hya ny2, ne_of_none hpaa hpa4⟩
    refine ⟨(by show 2 ≤ sizeLine; decide), fun u hu => ?_⟩
    have m7 := same_new hu (.tup [V.ref y, .ref y2])
    refine ⟨u, _, rfl, .inl (.inl upd_same), rfl, _, _, rfl, _, _, rfl, rfl, ?_⟩
    have h7 := h6.same m7
    generalize upd H6 u (.tup [V.ref y, .ref y2]) = H7 at h7 ⊢
    simp only [L2.start, List.map_cons, List.map_nil, List.length_cons, List.length_nil, List.append, List.set_cons_succ, List.set_cons_zero]
    refine ⟨3, rfl, by decide, by decide, for_it (walk_range) (fun i σ H' => Mid K Pt C r a b y y2 ns L rs es H' ∧ ∃ v5 v6 v7 v8 v9 v10 v11, σ = [some (.ref a), some (.ref r), some (.ref b), some (.ref y), some (.ref y2), v5, v6, v7, v8, v9, v10, v11])
      ⟨⟨_, _, _, _, _, h7, Okx.start rs⟩, _, _, _, _, _, _, _, rfl⟩ (fun _ _ _ _ _ => trivial) ?_ ?_⟩
    · rintro i xv σ H2 H2' hi ⟨hM, v5, v6, v7, v8, v9, v10, v11, rfl⟩ ⟨rfl, rfl⟩
      refine qA _ r b y y2 L rs es _ _ _ _ _ _ _ H2' oB hM fun v6 v7 v8 H3 hM => ?_
      clear h6 h7 hS4 hS6 hB4 hB2 R4 T4 R2 T2 R1 T1 hya hpaa
      obtain ⟨pa, Rm, pa2, Rm2, x, h3, ox⟩ := hM
      refine ⟨(by show 0 ≤ sizeLine; decide), fun TA hT => ?_⟩
      have m4 := same_new hT (.lst [])
      have h4 := h3.same m4
      obtain ⟨_, _, tsP, hpaP, _⟩ := id h3.s1
      have hT4 : (upd H3 TA (.lst [])) TA = some (.lst (tv [])) := upd_same
      generalize upd H3 TA (.lst []) = H4 at h4 hT4 ⊢
      simp only [List.set_cons_succ, List.set_cons_zero]
      refine qG _ r b y y2 pa Rm pa2 Rm2 TA L rs es x _ _ _ _ _ _ H4 oB h4 ox hT4 (ne_of_none hpaP hT).symm fun v6 v7 v10 H5 z so TA h5 oz g hT5 l100 => ?_
      refine qK _ r b y y2 pa Rm pa2 Rm2 TA L rs es x z so _ _ _ _ _ _ H5 h5 ox oz g hT5 l100 fun v11 H6 hM => ?_
      clear h3 h4 h5 ox oz
      obtain ⟨pa, Rm, pa2, Rm2, x, h6, ox⟩ := hM
      obtain ⟨⟨dx, hy⟩, _⟩ := id h6.s1
      obtain ⟨⟨dx2, hy2⟩, _⟩ := id h6.s2
      refine ⟨_, rfl, y, dx, _, rfl, hy, rfl, y, dx, _, x.wd, rfl, hy, f_wd, _, rfl, y2, dx2, _, rfl, hy2, rfl, y2, dx2, _, x.wd, rfl, hy2, f_wd, rfl, _, rfl, ?_⟩
      rw [decide_eq_true rfl]
      refine iteF ?_
      refine ⟨_, rfl, r, a, ns, 2, rfl, h6.R, by decide, by decide, fun k H7 k0 k1 s7 R7 => ?_⟩
      have h7 := h6.stp s7 R7
      have nxt : ∀ (H' : Hp), Mid K Pt C r a b y y2 ns L rs es H' → Mid K Pt C r a b y y2 ns L rs es H' ∧ ∃ v5 v6' v7' v8' v9 v10' v11', ([some (.ref a), some (.ref r), some (.ref b), some (.ref y), some (.ref y2), some (.int (0 + (i : Int))), v6, v7, v8, some (.ref TA), v10, v11] : L2.St) = [some (.ref a), some (.ref r), some (.ref b), some (.ref y), some (.ref y2), v5, v6', v7', v8', v9, v10', v11'] := fun H' hM =>
        ⟨hM, _, _, _, _, _, _, _, rfl⟩
      refine ⟨rfl, _, rfl, ite2 (fun c => ?_) (fun c => ?_)⟩
      · refine ⟨h7.Tb, fun H8 e8 T8 => ?_⟩
        have h8 := h7.extN e8 T8
        refine end_fn WC rfl h8.s1 oB.rls ox fun t1 paA H9 nA k9 s9 ht1 => ?_
        have h9 := h8.kp k9 nA s9
        refine ⟨h9.Tb, fun H10 e10 T10 => ?_⟩
        have h10 := h9.extN e10 T10
        have ht1 := e10 _ _ ht1 (fun ps z => by cases z)
        refine end_fn WC rfl h10.s2 oB.rls ox fun t2 paB H11 nB k11 s11 ht2 => ?_
        have h11 := (h10.swap.kp k11 nB s11).swap
        have ht1 := (h10.s2.kt k11).1 _ _ ht1
        obtain ⟨d, sh, ev, dp⟩ := enV_told oB x.wd x.tl
        refine ⟨d, d, dp _ _ _ ht1, dp _ _ _ ht2, sh, sh, _, rfl, ?_⟩
        rw [ev]
        refine iteF ?_
        exact qF _ r b y y2 L rs es _ _ _ _ _ _ _ H11 ⟨_, _, _, _, _, h11, ox.en⟩ q (nxt _ ⟨_, _, _, _, _, h11, ox.en⟩)
      · exact qF _ r b y y2 L rs es _ _ _ _ _ _ _ H7 ⟨_, _, _, _, _, h7, ox⟩ q (nxt _ ⟨_, _, _, _, _, h7, ox⟩)
    · rintro σ H2 ⟨⟨pa, Rm, pa2, Rm2, x, h7, ox⟩, v5, v6, v7, v8, v9, v10, v11, rfl⟩
      refine ⟨h7.Tb, fun H8 e8 T8 => ?_⟩
      have h8 := h7.extN e8 T8
      refine end_fn WC rfl h8.s1 oB.rls ox fun t1 paA H9 nA k9 s9 ht1 => ?_
      have h9 := h8.kp k9 nA s9
      refine ⟨h9.Tb, fun H10 e10 T10 => ?_⟩
      have h10 := h9.extN e10 T10
      have ht1 := e10 _ _ ht1 (fun ps z => by cases z)
      refine end_fn WC rfl h10.s2 oB.rls ox fun t2 paB H11 nB k11 s11 ht2 => ?_
      have ht1 := (h10.s2.kt k11).1 _ _ ht1
      obtain ⟨d, sh, ev, dp⟩ := enV_told oB x.wd x.tl
      refine ⟨d, d, dp _ _ _ ht1, dp _ _ _ ht2, sh, sh, ?_⟩
      rw [ev]
      exact q _
end
end Say
namespace Say
open PySem PySem.Spec PyProof.Rows L2
/-- a def as the top has left it -/
structure Std (K : PySem.W.Frag) (x : Str) (st : Stmt) (f : Addr) : Prop where
  ns : PySem.W.nsIn K mainGlobals x = some (some (.ref f))
  fn : ∃ fd, Fun K x x st f fd ∧ ∃ kV dc pm an cd ct, fd = PySem.W.fnOf x x (defArgs st) (defBody st) (defScope st) .none kV dc pm an cd ct
theorem std_mk {K : PySem.W.Frag} {x : Str} {st : Stmt} {f : Addr} {oc : Value} {od an : Option Addr} {osl : Array (Option Value)} {kV dc pm cd ct : Value} (a : PySem.W.nsIn K mainGlobals x = some (some (.ref f))) (l : K.lookup f = some ⟨oc, od, .func (PySem.W.fnOf x x (defArgs st) (defBody st) (defScope st) .none kV dc pm an cd ct), osl⟩) (c : PySem.W.codeIn K cd x = true) (k : PySem.W.keepIn K (.ref f) = true) : Std K x st f :=
  ⟨a, _, fun_mk l c k, kV, dc, pm, an, cd, ct, rfl⟩
/-- a method as the top has left it -/
structure MStd (K : PySem.W.Frag) (C : Addr) (x q : Str) (st : Stmt) (f : Addr) : Prop where
  me : Meth K C x f
  fn : ∃ fd, Fun K x q st f fd ∧ ∃ kV dc pm an cd ct, fd = PySem.W.fnOf x q (defArgs st) (defBody st) (defScope st) .none kV dc pm an cd ct
theorem mstd_mk {K : PySem.W.Frag} {C : Addr} {x q : Str} {st : Stmt} {f : Addr} {oc : Value} {od an : Option Addr} {osl : Array (Option Value)} {kV dc pm cd ct : Value} (a : PySem.W.findIn K (.ref C) x = some (some (.ref f))) (i : PySem.W.isFn K (.ref f) = true) (l : K.lookup f = some ⟨oc, od, .func (PySem.W.fnOf x q (defArgs st) (defBody st) (defScope st) .none kV dc pm an cd ct), osl⟩) (c : PySem.W.codeIn K cd q = true) (k : PySem.W.keepIn K (.ref f) = true) : MStd K C x q st f :=
  ⟨⟨a, i, k⟩, _, fun_mk l c k, kV, dc, pm, an, cd, ct, rfl⟩
theorem all_ok {l : PySem.W.OpenLaw} {w : World} {K : PySem.W.Frag} {h : Heap} {mg : Str → Option Value} {fa f37 f38 f33 f32 f35 f36 f34 f29 f30 f31 f28 f43 f44 f45 f46 f47 f48 f52 f53 f54 f55 f56 f57 f58 f59 f60 f61 f62 xSayError xBadBook xBadWord xBadSounds xBadCount xUnsaid xNoLetter xNoException xOtherLetters xBadSamples xBadDeed xHalted xBadText ySayer gWo gBg gPl gFe gBa gEn gIn fI cdI ccI N_ Pt cL : Addr} {t_small t_caps t_edge t_mrul t_lexc t_lrs t_lso t_imost_exceptions t_ilongest_word t_iown t_isounds t_isettling : Tok} {tfI : Tok} {nm q flI : Str} {bs sub : List Value} {sn : List Str} {ab : Bool} {col : Option Bool} {dd odI anI cldI cddI : Option Addr} {m0 m1 m2 m3 m5 : Option Value} {oI dcI pmI ctI clI cclI : Value} {slI cslI ccsI : Array (Option Value)} {vsI : Array Value} {lt18 lt7 lt10 : Tok} {li7 li10 : Int} {lb9 : Bool} {lf18 : Str} {cddL odL anL : Option Addr} {oL kVL dcL pmL ctL : Value} {cslL slL : Array (Option Value)} {vsL : Array Value}
    (X : K.In h) (G : h.Ns mainGlobals mg) (hfa : mg "law" = some (.ref fa)) (OT : LamX.OwnTab K fa h)
    (S37 : Std K "is_text" (topS 37) f37)
    (S38 : Std K "is_rising" (topS 38) f38)
    (S33 : Std K "is_beside" (topS 33) f33)
    (S32 : Std K "is_rule" (topS 32) f32)
    (S35 : Std K "is_excepted" (topS 35) f35)
    (S36 : Std K "is_sounds" (topS 36) f36)
    (S34 : Std K "is_exception" (topS 34) f34)
    (S29 : Std K "check_letters" (topS 29) f29)
    (S30 : Std K "check_rules" (topS 30) f30)
    (S31 : Std K "check_exceptions" (topS 31) f31)
    (S28 : Std K "checked_book" (topS 28) f28)
    (S43 : Std K "fits" (topS 43) f43)
    (S44 : Std K "first_fit" (topS 44) f44)
    (S45 : Std K "steps_of" (topS 45) f45)
    (S46 : Std K "taken" (topS 46) f46)
    (S47 : Std K "numbers_of" (topS 47) f47)
    (S48 : Std K "sounds_of" (topS 48) f48)
    (S52 : Std K "_law_row" (topS 52) f52)
    (S53 : Std K "_law_taken" (topS 53) f53)
    (S54 : Std K "_law_letters" (topS 54) f54)
    (S55 : Std K "_law_side" (topS 55) f55)
    (S56 : Std K "_law_text" (topS 56) f56)
    (S57 : Std K "_law_rule" (topS 57) f57)
    (S58 : Std K "_law_rules" (topS 58) f58)
    (S59 : Std K "_law_exceptions" (topS 59) f59)
    (S60 : Std K "_law_book" (topS 60) f60)
    (S61 : Std K "_law_word" (topS 61) f61)
    (MWo : MStd K ySayer "word" "Sayer.word" (sSy 4) gWo)
    (MBg : MStd K ySayer "_begin" "Sayer._begin" (sSy 5) gBg)
    (MPl : MStd K ySayer "_place" "Sayer._place" (sSy 6) gPl)
    (MFe : MStd K ySayer "feed" "Sayer.feed" (sSy 1) gFe)
    (MBa : MStd K ySayer "back" "Sayer.back" (sSy 2) gBa)
    (MEn : MStd K ySayer "end" "Sayer.end" (sSy 3) gEn)
    (MIn : MStd K ySayer "__init__" "Sayer.__init__" (sSy 0) gIn)
    (a_law : PySem.W.nsIn K mainGlobals "law" = some (some (.ref f62)))
    (l_law : K.lookup f62 = some ⟨oL, odL, .func (PySem.W.fnOf "law" "law" (defArgs sLaw) (defBody sLaw) (defScope sLaw) .none kVL dcL pmL anL (.ref cL) ctL), slL⟩)
    (c_law : PySem.W.codeIn K (.ref cL) "law" = true)
    (k_law : PySem.W.keepIn K (.ref f62) = true)
    (z_len : PySem.W.nsIn K mainGlobals "len" = some none)
    (z_range : PySem.W.nsIn K mainGlobals "range" = some none)
    (z_tuple : PySem.W.nsIn K mainGlobals "tuple" = some none)
    (z_list : PySem.W.nsIn K mainGlobals "list" = some none)
    (z_isinstance : PySem.W.nsIn K mainGlobals "isinstance" = some none)
    (z_str : PySem.W.nsIn K mainGlobals "str" = some none)
    (z_all : PySem.W.nsIn K mainGlobals "all" = some none)
    (z_enumerate : PySem.W.nsIn K mainGlobals "enumerate" = some none)
    (z_sorted : PySem.W.nsIn K mainGlobals "sorted" = some none)
    (z_bool : PySem.W.nsIn K mainGlobals "bool" = some none)
    (z_min : PySem.W.nsIn K mainGlobals "min" = some none)
    (z_int : PySem.W.nsIn K mainGlobals "int" = some none)
    (c_small : PySem.W.nsIn K mainGlobals "SMALL" = some (some (.str "abcdefghijklmnopqrstuvwxyz" t_small)))
    (c_caps : PySem.W.nsIn K mainGlobals "CAPITALS" = some (some (.str "ABCDEFGHIJKLMNOPQRSTUVWXYZ" t_caps)))
    (c_edge : PySem.W.nsIn K mainGlobals "EDGE" = some (some (.str "#" t_edge)))
    (c_mrul : PySem.W.nsIn K mainGlobals "MOST_RULES" = some (some (.int 12 t_mrul)))
    (c_lexc : PySem.W.nsIn K mainGlobals "LONGEST_EXCEPTION" = some (some (.int 8 t_lexc)))
    (c_lrs : PySem.W.nsIn K mainGlobals "LONGEST_RULE_SOUNDS" = some (some (.int 3 t_lrs)))
    (c_lso : PySem.W.nsIn K mainGlobals "LONGEST_SOUNDS" = some (some (.int 36 t_lso)))
    (c_imost_exceptions : PySem.W.nsIn K mainGlobals "MOST_EXCEPTIONS" = some (some (.int 8 t_imost_exceptions)))
    (c_ilongest_word : PySem.W.nsIn K mainGlobals "LONGEST_WORD" = some (some (.int 12 t_ilongest_word)))
    (c_iown : PySem.W.nsIn K mainGlobals "OWN" = some (some (.int 1 t_iown)))
    (c_isounds : PySem.W.nsIn K mainGlobals "SOUNDS" = some (some (.int 3 t_isounds)))
    (c_isettling : PySem.W.nsIn K mainGlobals "SETTLING" = some (some (.int 4 t_isettling)))
    (z_super : PySem.W.nsIn K mainGlobals "super" = some none)
    (z_ValueError : PySem.W.nsIn K mainGlobals "ValueError" = some none)
    (gSayError : PySem.W.nsIn K mainGlobals "SayError" = some (some (.ref xSayError)))
    (gBadBook : PySem.W.nsIn K mainGlobals "BadBook" = some (some (.ref xBadBook)))
    (gBadWord : PySem.W.nsIn K mainGlobals "BadWord" = some (some (.ref xBadWord)))
    (gBadSounds : PySem.W.nsIn K mainGlobals "BadSounds" = some (some (.ref xBadSounds)))
    (gBadCount : PySem.W.nsIn K mainGlobals "BadCount" = some (some (.ref xBadCount)))
    (gUnsaid : PySem.W.nsIn K mainGlobals "Unsaid" = some (some (.ref xUnsaid)))
    (gNoLetter : PySem.W.nsIn K mainGlobals "NoLetter" = some (some (.ref xNoLetter)))
    (gNoException : PySem.W.nsIn K mainGlobals "NoException" = some (some (.ref xNoException)))
    (gOtherLetters : PySem.W.nsIn K mainGlobals "OtherLetters" = some (some (.ref xOtherLetters)))
    (gBadSamples : PySem.W.nsIn K mainGlobals "BadSamples" = some (some (.ref xBadSamples)))
    (gBadDeed : PySem.W.nsIn K mainGlobals "BadDeed" = some (some (.ref xBadDeed)))
    (gHalted : PySem.W.nsIn K mainGlobals "Halted" = some (some (.ref xHalted)))
    (gBadText : PySem.W.nsIn K mainGlobals "BadText" = some (some (.ref xBadText)))
    (eS1 : PySem.W.subIn K (.ref xSayError) (.type "BaseException") = some true)
    (eS2 : PySem.W.hasDictIn K xSayError = true)
    (eS3 : PySem.W.typeIn K (.ref xSayError) = some (.type "type"))
    (Unsaid_e4 : PySem.W.subIn K (.ref xUnsaid) (.ref xSayError) = some true)
    (Unsaid_kBadBook : PySem.W.kitOne K (.ref xUnsaid) (.ref xBadBook) = some false)
    (Unsaid_kBadWord : PySem.W.kitOne K (.ref xUnsaid) (.ref xBadWord) = some false)
    (Unsaid_kBadSounds : PySem.W.kitOne K (.ref xUnsaid) (.ref xBadSounds) = some false)
    (Unsaid_kBadCount : PySem.W.kitOne K (.ref xUnsaid) (.ref xBadCount) = some false)
    (Unsaid_kUnsaid : PySem.W.kitOne K (.ref xUnsaid) (.ref xUnsaid) = some true)
    (Unsaid_kNoLetter : PySem.W.kitOne K (.ref xUnsaid) (.ref xNoLetter) = some false)
    (Unsaid_kNoException : PySem.W.kitOne K (.ref xUnsaid) (.ref xNoException) = some false)
    (Unsaid_kOtherLetters : PySem.W.kitOne K (.ref xUnsaid) (.ref xOtherLetters) = some false)
    (Unsaid_kBadSamples : PySem.W.kitOne K (.ref xUnsaid) (.ref xBadSamples) = some false)
    (Unsaid_kBadDeed : PySem.W.kitOne K (.ref xUnsaid) (.ref xBadDeed) = some false)
    (Unsaid_kHalted : PySem.W.kitOne K (.ref xUnsaid) (.ref xHalted) = some false)
    (Unsaid_kBadText : PySem.W.kitOne K (.ref xUnsaid) (.ref xBadText) = some false)
    (Unsaid_kV : PySem.W.kitOne K (.ref xUnsaid) (.type "ValueError") = some true)
    (Unsaid_noP : PySem.W.findIn K (.ref xUnsaid) "place" = some none)
    (Unsaid_noN : PySem.W.findIn K (.ref xUnsaid) "number" = some none)
    (Unsaid_ga : PySem.W.findIn K (.ref xUnsaid) "__getattribute__" = some (some (.builtin "BaseException.__getattribute__")))
    (Unsaid_gg : PySem.W.findIn K (.ref xUnsaid) "__getattr__" = some none)
    (Unsaid_hd : PySem.W.hasDictIn K xUnsaid = true)
    (Unsaid_ex : PySem.W.subIn K (.ref xUnsaid) (.type "BaseException") = some true)
    (Unsaid_ha : PySem.W.findIn K (.ref xUnsaid) "__class__" = some (some (.builtin "object.__class__")))
    (Unsaid_hm : PySem.W.mroIn K xUnsaid (.type "object") = some true)
    (BadWord_e4 : PySem.W.subIn K (.ref xBadWord) (.ref xSayError) = some true)
    (BadWord_kBadBook : PySem.W.kitOne K (.ref xBadWord) (.ref xBadBook) = some false)
    (BadWord_kBadWord : PySem.W.kitOne K (.ref xBadWord) (.ref xBadWord) = some true)
    (BadWord_kBadSounds : PySem.W.kitOne K (.ref xBadWord) (.ref xBadSounds) = some false)
    (BadWord_kBadCount : PySem.W.kitOne K (.ref xBadWord) (.ref xBadCount) = some false)
    (BadWord_kUnsaid : PySem.W.kitOne K (.ref xBadWord) (.ref xUnsaid) = some false)
    (BadWord_kNoLetter : PySem.W.kitOne K (.ref xBadWord) (.ref xNoLetter) = some false)
    (BadWord_kNoException : PySem.W.kitOne K (.ref xBadWord) (.ref xNoException) = some false)
    (BadWord_kOtherLetters : PySem.W.kitOne K (.ref xBadWord) (.ref xOtherLetters) = some false)
    (BadWord_kBadSamples : PySem.W.kitOne K (.ref xBadWord) (.ref xBadSamples) = some false)
    (BadWord_kBadDeed : PySem.W.kitOne K (.ref xBadWord) (.ref xBadDeed) = some false)
    (BadWord_kHalted : PySem.W.kitOne K (.ref xBadWord) (.ref xHalted) = some false)
    (BadWord_kBadText : PySem.W.kitOne K (.ref xBadWord) (.ref xBadText) = some false)
    (BadWord_kV : PySem.W.kitOne K (.ref xBadWord) (.type "ValueError") = some true)
    (BadWord_noP : PySem.W.findIn K (.ref xBadWord) "place" = some none)
    (BadWord_noN : PySem.W.findIn K (.ref xBadWord) "number" = some none)
    (BadWord_ga : PySem.W.findIn K (.ref xBadWord) "__getattribute__" = some (some (.builtin "BaseException.__getattribute__")))
    (BadWord_gg : PySem.W.findIn K (.ref xBadWord) "__getattr__" = some none)
    (BadWord_hd : PySem.W.hasDictIn K xBadWord = true)
    (BadWord_ex : PySem.W.subIn K (.ref xBadWord) (.type "BaseException") = some true)
    (BadWord_ha : PySem.W.findIn K (.ref xBadWord) "__class__" = some (some (.builtin "object.__class__")))
    (BadWord_hm : PySem.W.mroIn K xBadWord (.type "object") = some true)
    (NoLetter_e4 : PySem.W.subIn K (.ref xNoLetter) (.ref xSayError) = some true)
    (NoLetter_kBadBook : PySem.W.kitOne K (.ref xNoLetter) (.ref xBadBook) = some false)
    (NoLetter_kBadWord : PySem.W.kitOne K (.ref xNoLetter) (.ref xBadWord) = some false)
    (NoLetter_kBadSounds : PySem.W.kitOne K (.ref xNoLetter) (.ref xBadSounds) = some false)
    (NoLetter_kBadCount : PySem.W.kitOne K (.ref xNoLetter) (.ref xBadCount) = some false)
    (NoLetter_kUnsaid : PySem.W.kitOne K (.ref xNoLetter) (.ref xUnsaid) = some false)
    (NoLetter_kNoLetter : PySem.W.kitOne K (.ref xNoLetter) (.ref xNoLetter) = some true)
    (NoLetter_kNoException : PySem.W.kitOne K (.ref xNoLetter) (.ref xNoException) = some false)
    (NoLetter_kOtherLetters : PySem.W.kitOne K (.ref xNoLetter) (.ref xOtherLetters) = some false)
    (NoLetter_kBadSamples : PySem.W.kitOne K (.ref xNoLetter) (.ref xBadSamples) = some false)
    (NoLetter_kBadDeed : PySem.W.kitOne K (.ref xNoLetter) (.ref xBadDeed) = some false)
    (NoLetter_kHalted : PySem.W.kitOne K (.ref xNoLetter) (.ref xHalted) = some false)
    (NoLetter_kBadText : PySem.W.kitOne K (.ref xNoLetter) (.ref xBadText) = some false)
    (NoLetter_kV : PySem.W.kitOne K (.ref xNoLetter) (.type "ValueError") = some true)
    (NoLetter_noP : PySem.W.findIn K (.ref xNoLetter) "place" = some none)
    (NoLetter_noN : PySem.W.findIn K (.ref xNoLetter) "number" = some none)
    (NoLetter_ga : PySem.W.findIn K (.ref xNoLetter) "__getattribute__" = some (some (.builtin "BaseException.__getattribute__")))
    (NoLetter_gg : PySem.W.findIn K (.ref xNoLetter) "__getattr__" = some none)
    (NoLetter_hd : PySem.W.hasDictIn K xNoLetter = true)
    (NoLetter_ex : PySem.W.subIn K (.ref xNoLetter) (.type "BaseException") = some true)
    (NoLetter_ha : PySem.W.findIn K (.ref xNoLetter) "__class__" = some (some (.builtin "object.__class__")))
    (NoLetter_hm : PySem.W.mroIn K xNoLetter (.type "object") = some true)
    (x_hn : PySem.W.specialIn K (.builtin "object.__class__") "__get__" = some (some (.builtin "getset_descriptor.__get__")))
    (x_ht : PySem.W.takesIn K (.builtin "object.__class__") = some true)
    (xU : K.lookup xUnsaid = some (excClassObj nm q xUnsaid N_ bs [.ref xSayError, .type "ValueError", .type "Exception", .type "BaseException", .type "object"] true sn sub ab col dd m0 m1 m2 m3 m5 "ValueError.__new__"))
    (u_sa : PySem.W.findIn K (.ref xUnsaid) "__setattr__" = some (some (.builtin "object.__setattr__")))
    (u_iC : PySem.W.findIn K (.ref xUnsaid) "__init__" = some (some (.ref fI)))
    (u_tC : PySem.W.typeIn K (.ref fI) = some (.type "function"))
    (u_kC : PySem.W.keepIn K (.ref xUnsaid) = true)
    (u_tyC : PySem.W.typeIn K (.ref xUnsaid) = some (.type "type"))
    (u_sup : PySem.W.ks_superIn K xUnsaid xUnsaid "__init__" = some (some (.builtin "ValueError.__init__")))
    (u_subV : PySem.W.subIn K (.ref xUnsaid) (.type "ValueError") = some true)
    (u_any : PySem.W.nsIn K cStatics "thirdparty.any" = some none)
    (u_main : (l.prog.main.scope.names.lookup ("super" : Str)).isSome = false)
    (u_fn : K.lookup fI = some ⟨oI, odI, .func (PySem.W.ksFn "__init__" "Unsaid.__init__" PySem.UnsX.iA PySem.UnsX.iB PySem.UnsX.iS .none .none dcI pmI anI (.ref cdI) ctI ccI), slI⟩)
    (u_cd : PySem.W.codeIn K (.ref cdI) "Unsaid.__init__" = true)
    (u_cell : K.lookup ccI = some ⟨clI, cldI, .cell (some (.ref xUnsaid)), cslI⟩)
    (u_code : K.lookup cdI = some ⟨cclI, cddI, .fields vsI, ccsI⟩)
    (u_vs : vsI[2]? = some (.str flI tfI))
    (u_file : ((l.prog.main.file : Str) == flI) = true)
    (l_code : K.lookup cL = some ⟨.type "code", cddL, .fields vsL, cslL⟩)
    (l_vs : vsL[11]? = some (.ref Pt))
    (l_v11 : vsL.getD 11 .none = .ref Pt)
    (l_v18 : vsL.getD 18 .none = .str lf18 lt18)
    (l_v7 : vsL.getD 7 .none = .int li7 lt7)
    (l_v9 : vsL.getD 9 .none = .bool lb9)
    (l_v10 : vsL.getD 10 .none = .int li10 lt10)
    (l_ne : cL ≠ Pt)
    (l_no : K.lookup Pt = none)
    (rBadWord_x : PySem.W.excIn K xBadWord [.type "ValueError", .type "Exception", .type "BaseException", .type "object"] "ValueError.__new__" = true)
    (rBadWord_k : PySem.W.keepIn K (.ref xBadWord) = true)
    (rBadWord_t : PySem.W.typeIn K (.ref xBadWord) = some (.type "type"))
    (rNoLetter_x : PySem.W.excIn K xNoLetter [.type "ValueError", .type "Exception", .type "BaseException", .type "object"] "ValueError.__new__" = true)
    (rNoLetter_k : PySem.W.keepIn K (.ref xNoLetter) = true)
    (rNoLetter_t : PySem.W.typeIn K (.ref xNoLetter) = some (.type "type"))
    (gSayer : PySem.W.nsIn K mainGlobals "Sayer" = some (some (.ref ySayer)))
    (C_pg : PySem.W.plainGet K ySayer Str.empty = true)
    (C_hd : PySem.W.hasDictIn K ySayer = true)
    (C_po : PySem.W.plainOver K ySayer = true)
    (C_sa : PySem.W.findIn K (.ref ySayer) "__setattr__" = some (some (.builtin "object.__setattr__")))
    (C_mk : PySem.W.makesIn K ySayer = true)
    (C_kc : PySem.W.keepIn K (.ref ySayer) = true)
    (C_n0 : PySem.W.findIn K (.ref ySayer) "_letters" = some none)
    (C_n1 : PySem.W.findIn K (.ref ySayer) "_rules" = some none)
    (C_n2 : PySem.W.findIn K (.ref ySayer) "_word" = some none)
    (C_n3 : PySem.W.findIn K (.ref ySayer) "_tail" = some none)
    (C_n4 : PySem.W.findIn K (.ref ySayer) "_past" = some none)
    : LamX.LawAtS l w K CX0 8 63 "_law_script" mg fa h := by
  have e := hfa.symm.trans (PySem.W.mg_of X G a_law)
  cases e
  have B : Bn mg := ⟨PySem.W.mg_none_of X G z_len, PySem.W.mg_none_of X G z_range, PySem.W.mg_none_of X G z_tuple, PySem.W.mg_none_of X G z_list, PySem.W.mg_none_of X G z_isinstance, PySem.W.mg_none_of X G z_str, PySem.W.mg_none_of X G z_all, PySem.W.mg_none_of X G z_enumerate, PySem.W.mg_none_of X G z_sorted, PySem.W.mg_none_of X G z_bool⟩
  have C : Cn mg := ⟨⟨_, PySem.W.mg_of X G c_small⟩, ⟨_, PySem.W.mg_of X G c_caps⟩, ⟨_, PySem.W.mg_of X G c_edge⟩, ⟨_, PySem.W.mg_of X G c_mrul⟩, ⟨_, PySem.W.mg_of X G c_lexc⟩, ⟨_, PySem.W.mg_of X G c_lrs⟩, ⟨_, PySem.W.mg_of X G c_lso⟩⟩
  have KI_MOST_EXCEPTIONS : KI mg "MOST_EXCEPTIONS" 8 := ⟨_, PySem.W.mg_of X G c_imost_exceptions⟩
  have KI_LONGEST_WORD : KI mg "LONGEST_WORD" 12 := ⟨_, PySem.W.mg_of X G c_ilongest_word⟩
  have KI_OWN : KI mg "OWN" 1 := ⟨_, PySem.W.mg_of X G c_iown⟩
  have KI_SOUNDS : KI mg "SOUNDS" 3 := ⟨_, PySem.W.mg_of X G c_isounds⟩
  have KI_SETTLING : KI mg "SETTLING" 4 := ⟨_, PySem.W.mg_of X G c_isettling⟩
  have EC_Unsaid : ExcC K xUnsaid := ⟨Unsaid_ga, Unsaid_gg, Unsaid_ex, Unsaid_hd, Unsaid_ha, x_hn, x_ht, Unsaid_hm⟩
  have WC_Unsaid : WordC K mg xUnsaid 4 := { say := ⟨_, PySem.W.mg_of X G gSayError, PySem.W.exm_ref eS1 eS2 eS3 Unsaid_e4⟩, book := ⟨_, PySem.W.mg_of X G gBadBook, Unsaid_kBadBook⟩, word := ⟨_, PySem.W.mg_of X G gBadWord, Unsaid_kBadWord⟩, snds := ⟨_, PySem.W.mg_of X G gBadSounds, Unsaid_kBadSounds⟩, coun := ⟨_, PySem.W.mg_of X G gBadCount, Unsaid_kBadCount⟩, uns := ⟨_, PySem.W.mg_of X G gUnsaid, Unsaid_kUnsaid⟩, lett := ⟨_, PySem.W.mg_of X G gNoLetter, Unsaid_kNoLetter⟩, exce := ⟨_, PySem.W.mg_of X G gNoException, Unsaid_kNoException⟩, othe := ⟨_, PySem.W.mg_of X G gOtherLetters, Unsaid_kOtherLetters⟩, samp := ⟨_, PySem.W.mg_of X G gBadSamples, Unsaid_kBadSamples⟩, deed := ⟨_, PySem.W.mg_of X G gBadDeed, Unsaid_kBadDeed⟩, halt := ⟨_, PySem.W.mg_of X G gHalted, Unsaid_kHalted⟩, text := ⟨_, PySem.W.mg_of X G gBadText, Unsaid_kBadText⟩, val := PySem.W.mg_none_of X G z_ValueError, kv := Unsaid_kV, exc := EC_Unsaid, xf := ⟨Unsaid_ga, Unsaid_gg, Unsaid_ex, Unsaid_hd⟩, noP := Unsaid_noP, noN := Unsaid_noN }
  have EC_BadWord : ExcC K xBadWord := ⟨BadWord_ga, BadWord_gg, BadWord_ex, BadWord_hd, BadWord_ha, x_hn, x_ht, BadWord_hm⟩
  have WC_BadWord : WordC K mg xBadWord 1 := { say := ⟨_, PySem.W.mg_of X G gSayError, PySem.W.exm_ref eS1 eS2 eS3 BadWord_e4⟩, book := ⟨_, PySem.W.mg_of X G gBadBook, BadWord_kBadBook⟩, word := ⟨_, PySem.W.mg_of X G gBadWord, BadWord_kBadWord⟩, snds := ⟨_, PySem.W.mg_of X G gBadSounds, BadWord_kBadSounds⟩, coun := ⟨_, PySem.W.mg_of X G gBadCount, BadWord_kBadCount⟩, uns := ⟨_, PySem.W.mg_of X G gUnsaid, BadWord_kUnsaid⟩, lett := ⟨_, PySem.W.mg_of X G gNoLetter, BadWord_kNoLetter⟩, exce := ⟨_, PySem.W.mg_of X G gNoException, BadWord_kNoException⟩, othe := ⟨_, PySem.W.mg_of X G gOtherLetters, BadWord_kOtherLetters⟩, samp := ⟨_, PySem.W.mg_of X G gBadSamples, BadWord_kBadSamples⟩, deed := ⟨_, PySem.W.mg_of X G gBadDeed, BadWord_kBadDeed⟩, halt := ⟨_, PySem.W.mg_of X G gHalted, BadWord_kHalted⟩, text := ⟨_, PySem.W.mg_of X G gBadText, BadWord_kBadText⟩, val := PySem.W.mg_none_of X G z_ValueError, kv := BadWord_kV, exc := EC_BadWord, xf := ⟨BadWord_ga, BadWord_gg, BadWord_ex, BadWord_hd⟩, noP := BadWord_noP, noN := BadWord_noN }
  have EC_NoLetter : ExcC K xNoLetter := ⟨NoLetter_ga, NoLetter_gg, NoLetter_ex, NoLetter_hd, NoLetter_ha, x_hn, x_ht, NoLetter_hm⟩
  have WC_NoLetter : WordC K mg xNoLetter 5 := { say := ⟨_, PySem.W.mg_of X G gSayError, PySem.W.exm_ref eS1 eS2 eS3 NoLetter_e4⟩, book := ⟨_, PySem.W.mg_of X G gBadBook, NoLetter_kBadBook⟩, word := ⟨_, PySem.W.mg_of X G gBadWord, NoLetter_kBadWord⟩, snds := ⟨_, PySem.W.mg_of X G gBadSounds, NoLetter_kBadSounds⟩, coun := ⟨_, PySem.W.mg_of X G gBadCount, NoLetter_kBadCount⟩, uns := ⟨_, PySem.W.mg_of X G gUnsaid, NoLetter_kUnsaid⟩, lett := ⟨_, PySem.W.mg_of X G gNoLetter, NoLetter_kNoLetter⟩, exce := ⟨_, PySem.W.mg_of X G gNoException, NoLetter_kNoException⟩, othe := ⟨_, PySem.W.mg_of X G gOtherLetters, NoLetter_kOtherLetters⟩, samp := ⟨_, PySem.W.mg_of X G gBadSamples, NoLetter_kBadSamples⟩, deed := ⟨_, PySem.W.mg_of X G gBadDeed, NoLetter_kBadDeed⟩, halt := ⟨_, PySem.W.mg_of X G gHalted, NoLetter_kHalted⟩, text := ⟨_, PySem.W.mg_of X G gBadText, NoLetter_kBadText⟩, val := PySem.W.mg_none_of X G z_ValueError, kv := NoLetter_kV, exc := EC_NoLetter, xf := ⟨NoLetter_ga, NoLetter_gg, NoLetter_ex, NoLetter_hd⟩, noP := NoLetter_noP, noN := NoLetter_noN }
  have U : PySem.UnsX.UnsTxt l.prog K mg xUnsaid fI := { gC := PySem.W.mg_of X G gUnsaid, sB := PySem.W.mg_none_of X G z_super, cls := ⟨_, _, _, _, _, _, _, _, _, _, _, _, _, _, _, xU, rfl⟩, sa := u_sa, noP := Unsaid_noP, iC := u_iC, tC := u_tC, kC := u_kC, exC := Unsaid_ex, tyC := u_tyC, sup := u_sup, subV := u_subV, any := u_any, main := u_main, fn := ⟨_, _, _, _, _, _, _, _, _, u_fn, u_cd, ⟨_, _, _, u_cell⟩, _, _, _, _, _, _, u_code, u_vs, u_file⟩ }
  have R_BadWord : RaC K mg "BadWord" xBadWord := ⟨rBadWord_x, PySem.W.mg_of X G gBadWord, rBadWord_k, BadWord_ex, rBadWord_t⟩
  have R_NoLetter : RaC K mg "NoLetter" xNoLetter := ⟨rNoLetter_x, PySem.W.mg_of X G gNoLetter, rNoLetter_k, NoLetter_ex, rNoLetter_t⟩
  have hPt : h.get? Pt = some { cls := .none, data := .fields #[] } := OT cL Pt _ _ _ _ _ _ l_law rfl rfl l_code l_vs
  refine ⟨PySem.W.fnOf "law" "law" (defArgs sLaw) (defBody sLaw) (defScope sLaw) .none kVL dcL pmL anL (.ref cL) ctL, [(cL, Pt)], spLawT K Pt, fun p hp => ?_, fun p hp => ?_, fun p hp => ?_, fun s v => .of_eq rfl, fun H a ns hl _ hH hS => ?_, fun base _ _ TB => ?_⟩
  · rw [List.mem_singleton.mp hp]; exact hPt
  · rw [List.mem_singleton.mp hp]; exact l_no
  · rw [List.mem_singleton.mp hp]; exact ⟨_, _, _, _, _, _, _, _, _, X _ _ l_code, rfl, rfl, l_vs, l_v11, l_v18, l_v7, l_v9, l_v10, l_ne⟩
  · exact ⟨a, ns, rfl, hS, hl, hH _ (List.mem_singleton.mpr rfl), fun _ => rfl⟩
  obtain ⟨d37, F37, _⟩ := S37.fn
  have m37 := PySem.W.mg_of X G S37.ns
  have b37 := F37.binds (ps := ["text", "signs", "least", "most"]) fun _ _ _ _ _ _ us hl => match us, hl with | [_, _, _, _], _ => rfl
  have D_is_text : Df l.prog w K mg base "is_text" ["text", "signs", "least", "most"] 1 spIsText := ⟨_, _, ok_isText F37 B, F37.kp, b37, m37⟩
  obtain ⟨d38, F38, _⟩ := S38.fn
  have m38 := PySem.W.mg_of X G S38.ns
  have b38 := F38.binds (ps := ["text"]) fun _ _ _ _ _ _ us hl => match us, hl with | [_], _ => rfl
  have D_is_rising : Df l.prog w K mg base "is_rising" ["text"] 1 spRise := ⟨_, _, ok_rise F38 B, F38.kp, b38, m38⟩
  obtain ⟨d33, F33, _⟩ := S33.fn
  have m33 := PySem.W.mg_of X G S33.ns
  have b33 := F33.binds (ps := ["letters", "signs"]) fun _ _ _ _ _ _ us hl => match us, hl with | [_, _], _ => rfl
  have D_is_beside : Df l.prog w K mg base "is_beside" ["letters", "signs"] 2 spBeside := ⟨_, _, ok_beside F33 B C D_is_text D_is_rising, F33.kp, b33, m33⟩
  obtain ⟨d32, F32, _⟩ := S32.fn
  have m32 := PySem.W.mg_of X G S32.ns
  have b32 := F32.binds (ps := ["letters", "rule"]) fun _ _ _ _ _ _ us hl => match us, hl with | [_, _], _ => rfl
  have D_is_rule : Df l.prog w K mg base "is_rule" ["letters", "rule"] 3 spIsRule := ⟨_, _, ok_isRule F32 B C D_is_text D_is_beside, F32.kp, b32, m32⟩
  obtain ⟨d35, F35, _⟩ := S35.fn
  have m35 := PySem.W.mg_of X G S35.ns
  have b35 := F35.binds (ps := ["letters", "word"]) fun _ _ _ _ _ _ us hl => match us, hl with | [_, _], _ => rfl
  have D_is_excepted : Df l.prog w K mg base "is_excepted" ["letters", "word"] 2 spExcd := ⟨_, _, ok_excd F35 C D_is_text, F35.kp, b35, m35⟩
  obtain ⟨d36, F36, _⟩ := S36.fn
  have m36 := PySem.W.mg_of X G S36.ns
  have b36 := F36.binds (ps := ["sounds"]) fun _ _ _ _ _ _ us hl => match us, hl with | [_], _ => rfl
  have D_is_sounds : Df l.prog w K mg base "is_sounds" ["sounds"] 2 spIsSo := ⟨_, _, ok_isSo F36 C D_is_text, F36.kp, b36, m36⟩
  obtain ⟨d34, F34, _⟩ := S34.fn
  have m34 := PySem.W.mg_of X G S34.ns
  have b34 := F34.binds (ps := ["letters", "pair"]) fun _ _ _ _ _ _ us hl => match us, hl with | [_, _], _ => rfl
  have D_is_exception : Df l.prog w K mg base "is_exception" ["letters", "pair"] 3 spIsExc := ⟨_, _, ok_isExc F34 B D_is_excepted D_is_sounds, F34.kp, b34, m34⟩
  obtain ⟨d29, F29, _⟩ := S29.fn
  have m29 := PySem.W.mg_of X G S29.ns
  have b29 := F29.binds (ps := ["letters"]) fun _ _ _ _ _ _ us hl => match us, hl with | [_], _ => rfl
  have D_check_letters : Df l.prog w K mg base "check_letters" ["letters"] 2 spChL := ⟨_, _, ok_chL F29 C D_is_text D_is_rising, F29.kp, b29, m29⟩
  obtain ⟨d30, F30, _⟩ := S30.fn
  have m30 := PySem.W.mg_of X G S30.ns
  have b30 := F30.binds (ps := ["letters", "rules"]) fun _ _ _ _ _ _ us hl => match us, hl with | [_, _], _ => rfl
  have D_check_rules : Df l.prog w K mg base "check_rules" ["letters", "rules"] 4 spChR := ⟨_, _, ok_chR F30 B C D_is_rule, F30.kp, b30, m30⟩
  obtain ⟨d31, F31, _⟩ := S31.fn
  have m31 := PySem.W.mg_of X G S31.ns
  have b31 := F31.binds (ps := ["letters", "exceptions"]) fun _ _ _ _ _ _ us hl => match us, hl with | [_, _], _ => rfl
  have D_check_exceptions : Df l.prog w K mg base "check_exceptions" ["letters", "exceptions"] 4 spChE := ⟨_, _, ok_chE F31 B KI_MOST_EXCEPTIONS D_is_exception, F31.kp, b31, m31⟩
  obtain ⟨d28, F28, _⟩ := S28.fn
  have m28 := PySem.W.mg_of X G S28.ns
  have b28 := F28.binds (ps := ["book"]) fun _ _ _ _ _ _ us hl => match us, hl with | [_], _ => rfl
  have D_checked_book : Df l.prog w K mg base "checked_book" ["book"] 5 spCh := ⟨_, _, ok_ch F28 B D_check_letters D_check_rules D_check_exceptions, F28.kp, b28, m28⟩
  obtain ⟨d43, F43, _⟩ := S43.fn
  have m43 := PySem.W.mg_of X G S43.ns
  have b43 := F43.binds (ps := ["rule", "signs", "at"]) fun _ _ _ _ _ _ us hl => match us, hl with | [_, _, _], _ => rfl
  have D_fits : Df l.prog w K mg base "fits" ["rule", "signs", "at"] 1 spFits := ⟨_, _, ok_fits F43 B, F43.kp, b43, m43⟩
  obtain ⟨d44, F44, _⟩ := S44.fn
  have m44 := PySem.W.mg_of X G S44.ns
  have b44 := F44.binds (ps := ["rules", "signs", "at"]) fun _ _ _ _ _ _ us hl => match us, hl with | [_, _, _], _ => rfl
  have D_first_fit : Df l.prog w K mg base "first_fit" ["rules", "signs", "at"] 2 spFF := ⟨_, _, ok_FF F44 B D_fits, F44.kp, b44, m44⟩
  obtain ⟨d45, F45, _⟩ := S45.fn
  have m45 := PySem.W.mg_of X G S45.ns
  have b45 := F45.binds (ps := ["rules", "tail"]) fun _ _ _ _ _ _ us hl => match us, hl with | [_, _], _ => rfl
  have D_steps_of : Df l.prog w K mg base "steps_of" ["rules", "tail"] 3 spSt := ⟨_, _, ok_St F45 B C KI_OWN D_first_fit, F45.kp, b45, m45⟩
  obtain ⟨d46, F46, _⟩ := S46.fn
  have m46 := PySem.W.mg_of X G S46.ns
  have b46 := F46.binds (ps := ["rules", "tail", "letter"]) fun _ _ _ _ _ _ us hl => match us, hl with | [_, _, _], _ => rfl
  have D_taken : Df l.prog w K mg base "taken" ["rules", "tail", "letter"] 3 spTk := ⟨_, _, ok_tk F46 B KI_OWN KI_SETTLING D_first_fit, F46.kp, b46, m46⟩
  obtain ⟨d47, F47, _⟩ := S47.fn
  have m47 := PySem.W.mg_of X G S47.ns
  have b47 := F47.binds (ps := ["steps"]) fun _ _ _ _ _ _ us hl => match us, hl with | [_], _ => rfl
  have D_numbers_of : Df l.prog w K mg base "numbers_of" ["steps"] 1 spNum := ⟨_, _, ok_num F47, F47.kp, b47, m47⟩
  obtain ⟨d48, F48, _⟩ := S48.fn
  have m48 := PySem.W.mg_of X G S48.ns
  have b48 := F48.binds (ps := ["rules", "numbers"]) fun _ _ _ _ _ _ us hl => match us, hl with | [_, _], _ => rfl
  have D_sounds_of : Df l.prog w K mg base "sounds_of" ["rules", "numbers"] 1 spSou := ⟨_, _, ok_sou F48 KI_SOUNDS, F48.kp, b48, m48⟩
  obtain ⟨d52, F52, _⟩ := S52.fn
  have m52 := PySem.W.mg_of X G S52.ns
  have b52 := F52.binds (ps := ["_law_script"]) fun _ _ _ _ _ _ us hl => match us, hl with | [_], _ => rfl
  have D__law_row : Df l.prog w K mg base "_law_row" ["_law_script"] 1 (spRow K) := ⟨_, _, ok_row F52, F52.kp, b52, m52⟩
  obtain ⟨d53, F53, _⟩ := S53.fn
  have m53 := PySem.W.mg_of X G S53.ns
  have b53 := F53.binds (ps := ["_law_row_here", "_law_many"]) fun _ _ _ _ _ _ us hl => match us, hl with | [_, _], _ => rfl
  have D__law_taken : Df l.prog w K mg base "_law_taken" ["_law_row_here", "_law_many"] 1 (spTaken K) := ⟨_, _, ok_taken F53 B.len, F53.kp, b53, m53⟩
  obtain ⟨d54, F54, _⟩ := S54.fn
  have m54 := PySem.W.mg_of X G S54.ns
  have b54 := F54.binds (ps := ["_law_row_here"]) fun _ _ _ _ _ _ us hl => match us, hl with | [_], _ => rfl
  have D__law_letters : Df l.prog w K mg base "_law_letters" ["_law_row_here"] 2 (spLetters K) := ⟨_, _, ok_letters F54 D__law_taken, F54.kp, b54, m54⟩
  obtain ⟨d55, F55, _⟩ := S55.fn
  have m55 := PySem.W.mg_of X G S55.ns
  have b55 := F55.binds (ps := ["_law_row_here", "_law_letters_here"]) fun _ _ _ _ _ _ us hl => match us, hl with | [_, _], _ => rfl
  have D__law_side : Df l.prog w K mg base "_law_side" ["_law_row_here", "_law_letters_here"] 2 (spSide K) := ⟨_, _, ok_side F55 D__law_taken, F55.kp, b55, m55⟩
  obtain ⟨d56, F56, _⟩ := S56.fn
  have m56 := PySem.W.mg_of X G S56.ns
  have b56 := F56.binds (ps := ["_law_row_here", "_law_signs", "_law_fewest", "_law_many"]) fun _ _ _ _ _ _ us hl => match us, hl with | [_, _, _, _], _ => rfl
  have D__law_text : Df l.prog w K mg base "_law_text" ["_law_row_here", "_law_signs", "_law_fewest", "_law_many"] 2 (spText K) := ⟨_, _, ok_text F56 D__law_taken B.len B.rng, F56.kp, b56, m56⟩
  obtain ⟨d57, F57, _⟩ := S57.fn
  have m57 := PySem.W.mg_of X G S57.ns
  have b57 := F57.binds (ps := ["_law_row_here", "_law_letters_here"]) fun _ _ _ _ _ _ us hl => match us, hl with | [_, _], _ => rfl
  have D__law_rule : Df l.prog w K mg base "_law_rule" ["_law_row_here", "_law_letters_here"] 3 (spRule K) := ⟨_, _, ok_rule F57 D__law_taken D__law_side D__law_text, F57.kp, b57, m57⟩
  obtain ⟨d58, F58, _⟩ := S58.fn
  have m58 := PySem.W.mg_of X G S58.ns
  have b58 := F58.binds (ps := ["_law_row_here", "_law_letters_here", "_law_most"]) fun _ _ _ _ _ _ us hl => match us, hl with | [_, _, _], _ => rfl
  have D__law_rules : Df l.prog w K mg base "_law_rules" ["_law_row_here", "_law_letters_here", "_law_most"] 4 (spRules K) := ⟨_, _, ok_rules F58 D__law_taken D__law_rule B.rng B.tup, F58.kp, b58, m58⟩
  obtain ⟨d59, F59, _⟩ := S59.fn
  have m59 := PySem.W.mg_of X G S59.ns
  have b59 := F59.binds (ps := ["_law_row_here", "_law_letters_here", "_law_most"]) fun _ _ _ _ _ _ us hl => match us, hl with | [_, _, _], _ => rfl
  have D__law_exceptions : Df l.prog w K mg base "_law_exceptions" ["_law_row_here", "_law_letters_here", "_law_most"] 3 (spLEx K) := ⟨_, _, ok_LEx F59 B D__law_taken D__law_text, F59.kp, b59, m59⟩
  obtain ⟨d60, F60, _⟩ := S60.fn
  have m60 := PySem.W.mg_of X G S60.ns
  have b60 := F60.binds (ps := ["_law_row_here"]) fun _ _ _ _ _ _ us hl => match us, hl with | [_], _ => rfl
  have D__law_book : Df l.prog w K mg base "_law_book" ["_law_row_here"] 5 (spLBk K) := ⟨_, _, ok_LBk F60 D__law_letters D__law_rules D__law_exceptions, F60.kp, b60, m60⟩
  obtain ⟨d61, F61, _⟩ := S61.fn
  have m61 := PySem.W.mg_of X G S61.ns
  have S : SyC K ySayer := ⟨⟨C_pg, C_hd, C_po, C_sa⟩, C_n0, C_n1, C_n2, C_n3, C_n4⟩
  obtain ⟨dWo, FWo, _⟩ := MWo.fn
  have mWo := MWo.me
  have bWo := FWo.binds (ps := ["self"]) fun _ _ _ _ _ _ us hl => match us, hl with | [_], _ => rfl
  have GWo := ok_word (P := l.prog) (w := w) (mg := mg) (base := base) (k := 0) FWo S
  obtain ⟨dBg, FBg, _⟩ := MBg.fn
  have mBg := MBg.me
  have bBg := FBg.binds (ps := ["self"]) fun _ _ _ _ _ _ us hl => match us, hl with | [_], _ => rfl
  have GBg := ok_begin (P := l.prog) (w := w) (base := base) (k := 0) FBg S C
  obtain ⟨dPl, FPl, _⟩ := MPl.fn
  have mPl := MPl.me
  have bPl := FPl.binds (ps := ["self"]) fun _ _ _ _ _ _ us hl => match us, hl with | [_], _ => rfl
  have GPl := ok_place (P := l.prog) (w := w) (base := base) (k := 0) FPl S B
  obtain ⟨dFe, FFe, _⟩ := MFe.fn
  have mFe := MFe.me
  have bFe := FFe.binds (ps := ["self", "letter"]) fun _ _ _ _ _ _ us hl => match us, hl with | [_, _], _ => rfl
  have GFe := ok_feed FFe S B KI_LONGEST_WORD R_BadWord U GPl mPl bPl D_is_text D_taken D_sounds_of
  obtain ⟨dBa, FBa, _⟩ := MBa.fn
  have mBa := MBa.me
  have bBa := FBa.binds (ps := ["self"]) fun _ _ _ _ _ _ us hl => match us, hl with | [_], _ => rfl
  have GBa := ok_back (P := l.prog) (w := w) (base := base) (k := 0) FBa S R_NoLetter
  obtain ⟨dEn, FEn, _⟩ := MEn.fn
  have mEn := MEn.me
  have bEn := FEn.binds (ps := ["self"]) fun _ _ _ _ _ _ us hl => match us, hl with | [_], _ => rfl
  have GEn := ok_endS FEn S U GPl mPl bPl GBg mBg bBg D_steps_of D_numbers_of D_sounds_of
  obtain ⟨dIn, FIn, _⟩ := MIn.fn
  have mIn := MIn.me
  have bIn := FIn.binds (ps := ["self", "book"]) fun _ _ _ _ _ _ us hl => match us, hl with | [_, _], _ => rfl
  have GIn := ok_initS FIn S GBg mBg bBg D_checked_book
  have Mk_ : Mk K ySayer gIn := ⟨C_mk, mIn.at_, mIn.fn, C_kc⟩
  exact ok_law l_law c_law (TB _ (List.mem_singleton.mpr rfl)) B (PySem.W.mg_none_of X G z_min) (PySem.W.mg_none_of X G z_int) WC_Unsaid WC_BadWord F61 m61 S (PySem.W.mg_of X G gSayer) Mk_ GIn bIn GFe mFe bFe GEn mEn bEn GBa mBa bBa GWo mWo bWo D__law_row D__law_taken D__law_book
end Say
open PySem PySem.W PyProof.Rows
set_option maxRecDepth 100000 in
set_option maxHeartbeats 0 in
theorem PySem.Challenge.cw_saylore_k07_whole_taken_back_holds : PySem.Challenge.rw_saylore_k07_whole_taken_back.Holds := by
  w_on; o_law; k_head; (case hw => w_witness2)
  k_fill
  refine LamX.walk_ofOwn (l := PySem.Challenge.rw_saylore_k07_whole_taken_back) (n := 63) (k := 8) (x := "_law_script") (CX := fun _ => L2.CX0) rfl (by decide) rfl ⟨rfl, by decide, by decide⟩ (by decide +kernel) (fun w h Y => PySem.W.km_in_of Y) ?F (fun _ _ _ _ _ h => h)
  case F =>
    intro w mg fa h KY KX G hmg OT
    refine' Say.all_ok KX G hmg OT (Say.std_mk ?a37 ?l37 ?c37 ?k37) (Say.std_mk ?a38 ?l38 ?c38 ?k38) (Say.std_mk ?a33 ?l33 ?c33 ?k33) (Say.std_mk ?a32 ?l32 ?c32 ?k32) (Say.std_mk ?a35 ?l35 ?c35 ?k35) (Say.std_mk ?a36 ?l36 ?c36 ?k36) (Say.std_mk ?a34 ?l34 ?c34 ?k34) (Say.std_mk ?a29 ?l29 ?c29 ?k29) (Say.std_mk ?a30 ?l30 ?c30 ?k30) (Say.std_mk ?a31 ?l31 ?c31 ?k31) (Say.std_mk ?a28 ?l28 ?c28 ?k28) (Say.std_mk ?a43 ?l43 ?c43 ?k43) (Say.std_mk ?a44 ?l44 ?c44 ?k44) (Say.std_mk ?a45 ?l45 ?c45 ?k45) (Say.std_mk ?a46 ?l46 ?c46 ?k46) (Say.std_mk ?a47 ?l47 ?c47 ?k47) (Say.std_mk ?a48 ?l48 ?c48 ?k48) (Say.std_mk ?a52 ?l52 ?c52 ?k52) (Say.std_mk ?a53 ?l53 ?c53 ?k53) (Say.std_mk ?a54 ?l54 ?c54 ?k54) (Say.std_mk ?a55 ?l55 ?c55 ?k55) (Say.std_mk ?a56 ?l56 ?c56 ?k56) (Say.std_mk ?a57 ?l57 ?c57 ?k57) (Say.std_mk ?a58 ?l58 ?c58 ?k58) (Say.std_mk ?a59 ?l59 ?c59 ?k59) (Say.std_mk ?a60 ?l60 ?c60 ?k60) (Say.std_mk ?a61 ?l61 ?c61 ?k61) (Say.mstd_mk ?a_Wo ?i_Wo ?l_Wo ?c_Wo ?k_Wo) (Say.mstd_mk ?a_Bg ?i_Bg ?l_Bg ?c_Bg ?k_Bg) (Say.mstd_mk ?a_Pl ?i_Pl ?l_Pl ?c_Pl ?k_Pl) (Say.mstd_mk ?a_Fe ?i_Fe ?l_Fe ?c_Fe ?k_Fe) (Say.mstd_mk ?a_Ba ?i_Ba ?l_Ba ?c_Ba ?k_Ba) (Say.mstd_mk ?a_En ?i_En ?l_En ?c_En ?k_En) (Say.mstd_mk ?a_In ?i_In ?l_In ?c_In ?k_In) ?a_law ?l_law ?c_law ?k_law ?z_len ?z_range ?z_tuple ?z_list ?z_isinstance ?z_str ?z_all ?z_enumerate ?z_sorted ?z_bool ?z_min ?z_int ?c_small ?c_caps ?c_edge ?c_mrul ?c_lexc ?c_lrs ?c_lso ?c_imost_exceptions ?c_ilongest_word ?c_iown ?c_isounds ?c_isettling ?z_super ?z_ValueError ?gSayError ?gBadBook ?gBadWord ?gBadSounds ?gBadCount ?gUnsaid ?gNoLetter ?gNoException ?gOtherLetters ?gBadSamples ?gBadDeed ?gHalted ?gBadText ?eS1 ?eS2 ?eS3 ?Unsaid_e4 ?Unsaid_kBadBook ?Unsaid_kBadWord ?Unsaid_kBadSounds ?Unsaid_kBadCount ?Unsaid_kUnsaid ?Unsaid_kNoLetter ?Unsaid_kNoException ?Unsaid_kOtherLetters ?Unsaid_kBadSamples ?Unsaid_kBadDeed ?Unsaid_kHalted ?Unsaid_kBadText ?Unsaid_kV ?Unsaid_noP ?Unsaid_noN ?Unsaid_ga ?Unsaid_gg ?Unsaid_hd ?Unsaid_ex ?Unsaid_ha ?Unsaid_hm ?BadWord_e4 ?BadWord_kBadBook ?BadWord_kBadWord ?BadWord_kBadSounds ?BadWord_kBadCount ?BadWord_kUnsaid ?BadWord_kNoLetter ?BadWord_kNoException ?BadWord_kOtherLetters ?BadWord_kBadSamples ?BadWord_kBadDeed ?BadWord_kHalted ?BadWord_kBadText ?BadWord_kV ?BadWord_noP ?BadWord_noN ?BadWord_ga ?BadWord_gg ?BadWord_hd ?BadWord_ex ?BadWord_ha ?BadWord_hm ?NoLetter_e4 ?NoLetter_kBadBook ?NoLetter_kBadWord ?NoLetter_kBadSounds ?NoLetter_kBadCount ?NoLetter_kUnsaid ?NoLetter_kNoLetter ?NoLetter_kNoException ?NoLetter_kOtherLetters ?NoLetter_kBadSamples ?NoLetter_kBadDeed ?NoLetter_kHalted ?NoLetter_kBadText ?NoLetter_kV ?NoLetter_noP ?NoLetter_noN ?NoLetter_ga ?NoLetter_gg ?NoLetter_hd ?NoLetter_ex ?NoLetter_ha ?NoLetter_hm ?x_hn ?x_ht ?xU ?u_sa ?u_iC ?u_tC ?u_kC ?u_tyC ?u_sup ?u_subV ?u_any ?u_main ?u_fn ?u_cd ?u_cell ?u_code ?u_vs ?u_file ?l_code ?l_vs ?l_v11 ?l_v18 ?l_v7 ?l_v9 ?l_v10 ?l_ne ?l_no ?rBadWord_x ?rBadWord_k ?rBadWord_t ?rNoLetter_x ?rNoLetter_k ?rNoLetter_t ?gSayer ?C_pg ?C_hd ?C_po ?C_sa ?C_mk ?C_kc ?C_n0 ?C_n1 ?C_n2 ?C_n3 ?C_n4
    (case a_law => k_is); (case z_len => k_is); (case z_range => k_is); (case z_tuple => k_is); (case z_list => k_is); (case z_isinstance => k_is)
    (case z_str => k_is); (case z_all => k_is); (case z_enumerate => k_is); (case z_sorted => k_is); (case z_bool => k_is); (case z_min => k_is)
    (case z_int => k_is); (case c_small => k_is); (case c_caps => k_is); (case c_edge => k_is); (case c_mrul => k_is); (case c_lexc => k_is)
    (case c_lrs => k_is); (case c_lso => k_is); (case c_imost_exceptions => k_is); (case c_ilongest_word => k_is); (case c_iown => k_is); (case c_isounds => k_is)
    (case c_isettling => k_is); (case z_super => k_is); (case z_ValueError => k_is); (case gSayError => k_is); (case gBadBook => k_is); (case gBadWord => k_is)
    (case gBadSounds => k_is); (case gBadCount => k_is); (case gUnsaid => k_is); (case gNoLetter => k_is); (case gNoException => k_is); (case gOtherLetters => k_is)
    (case gBadSamples => k_is); (case gBadDeed => k_is); (case gHalted => k_is); (case gBadText => k_is); (case gSayer => k_is); (case a37 => k_is)
    (case l37 => k_is); (case c37 => k_is); (case k37 => k_is); (case a38 => k_is); (case l38 => k_is); (case c38 => k_is)
    (case k38 => k_is); (case a33 => k_is); (case l33 => k_is); (case c33 => k_is); (case k33 => k_is); (case a32 => k_is)
    (case l32 => k_is); (case c32 => k_is); (case k32 => k_is); (case a35 => k_is); (case l35 => k_is); (case c35 => k_is)
    (case k35 => k_is); (case a36 => k_is); (case l36 => k_is); (case c36 => k_is); (case k36 => k_is); (case a34 => k_is)
    (case l34 => k_is); (case c34 => k_is); (case k34 => k_is); (case a29 => k_is); (case l29 => k_is); (case c29 => k_is)
    (case k29 => k_is); (case a30 => k_is); (case l30 => k_is); (case c30 => k_is); (case k30 => k_is); (case a31 => k_is)
    (case l31 => k_is); (case c31 => k_is); (case k31 => k_is); (case a28 => k_is); (case l28 => k_is); (case c28 => k_is)
    (case k28 => k_is); (case a43 => k_is); (case l43 => k_is); (case c43 => k_is); (case k43 => k_is); (case a44 => k_is)
    (case l44 => k_is); (case c44 => k_is); (case k44 => k_is); (case a45 => k_is); (case l45 => k_is); (case c45 => k_is)
    (case k45 => k_is); (case a46 => k_is); (case l46 => k_is); (case c46 => k_is); (case k46 => k_is); (case a47 => k_is)
    (case l47 => k_is); (case c47 => k_is); (case k47 => k_is); (case a48 => k_is); (case l48 => k_is); (case c48 => k_is)
    (case k48 => k_is); (case a52 => k_is); (case l52 => k_is); (case c52 => k_is); (case k52 => k_is); (case a53 => k_is)
    (case l53 => k_is); (case c53 => k_is); (case k53 => k_is); (case a54 => k_is); (case l54 => k_is); (case c54 => k_is)
    (case k54 => k_is); (case a55 => k_is); (case l55 => k_is); (case c55 => k_is); (case k55 => k_is); (case a56 => k_is)
    (case l56 => k_is); (case c56 => k_is); (case k56 => k_is); (case a57 => k_is); (case l57 => k_is); (case c57 => k_is)
    (case k57 => k_is); (case a58 => k_is); (case l58 => k_is); (case c58 => k_is); (case k58 => k_is); (case a59 => k_is)
    (case l59 => k_is); (case c59 => k_is); (case k59 => k_is); (case a60 => k_is); (case l60 => k_is); (case c60 => k_is)
    (case k60 => k_is); (case a61 => k_is); (case l61 => k_is); (case c61 => k_is); (case k61 => k_is); (case a_Wo => k_is)
    (case i_Wo => k_is); (case l_Wo => k_is); (case c_Wo => k_is); (case k_Wo => k_is); (case a_Bg => k_is); (case i_Bg => k_is)
    (case l_Bg => k_is); (case c_Bg => k_is); (case k_Bg => k_is); (case a_Pl => k_is); (case i_Pl => k_is); (case l_Pl => k_is)
    (case c_Pl => k_is); (case k_Pl => k_is); (case a_Fe => k_is); (case i_Fe => k_is); (case l_Fe => k_is); (case c_Fe => k_is)
    (case k_Fe => k_is); (case a_Ba => k_is); (case i_Ba => k_is); (case l_Ba => k_is); (case c_Ba => k_is); (case k_Ba => k_is)
    (case a_En => k_is); (case i_En => k_is); (case l_En => k_is); (case c_En => k_is); (case k_En => k_is); (case a_In => k_is)
    (case i_In => k_is); (case l_In => k_is); (case c_In => k_is); (case k_In => k_is); (case l_law => k_is); (case c_law => k_is)
    (case k_law => k_is); (case eS1 => k_is); (case eS2 => k_is); (case eS3 => k_is); (case Unsaid_e4 => k_is); (case Unsaid_kBadBook => kit_is)
    (case Unsaid_kBadWord => kit_is); (case Unsaid_kBadSounds => kit_is); (case Unsaid_kBadCount => kit_is); (case Unsaid_kUnsaid => kit_is); (case Unsaid_kNoLetter => kit_is); (case Unsaid_kNoException => kit_is)
    (case Unsaid_kOtherLetters => kit_is); (case Unsaid_kBadSamples => kit_is); (case Unsaid_kBadDeed => kit_is); (case Unsaid_kHalted => kit_is); (case Unsaid_kBadText => kit_is); (case Unsaid_kV => kit_is)
    (case Unsaid_noP => k_is); (case Unsaid_noN => k_is); (case Unsaid_ga => k_is); (case Unsaid_gg => k_is); (case Unsaid_hd => k_is); (case Unsaid_ex => k_is)
    (case Unsaid_ha => k_is); (case Unsaid_hm => k_is); (case BadWord_e4 => k_is); (case BadWord_kBadBook => kit_is); (case BadWord_kBadWord => kit_is); (case BadWord_kBadSounds => kit_is)
    (case BadWord_kBadCount => kit_is); (case BadWord_kUnsaid => kit_is); (case BadWord_kNoLetter => kit_is); (case BadWord_kNoException => kit_is); (case BadWord_kOtherLetters => kit_is); (case BadWord_kBadSamples => kit_is)
    (case BadWord_kBadDeed => kit_is); (case BadWord_kHalted => kit_is); (case BadWord_kBadText => kit_is); (case BadWord_kV => kit_is); (case BadWord_noP => k_is); (case BadWord_noN => k_is)
    (case BadWord_ga => k_is); (case BadWord_gg => k_is); (case BadWord_hd => k_is); (case BadWord_ex => k_is); (case BadWord_ha => k_is); (case BadWord_hm => k_is)
    (case NoLetter_e4 => k_is); (case NoLetter_kBadBook => kit_is); (case NoLetter_kBadWord => kit_is); (case NoLetter_kBadSounds => kit_is); (case NoLetter_kBadCount => kit_is); (case NoLetter_kUnsaid => kit_is)
    (case NoLetter_kNoLetter => kit_is); (case NoLetter_kNoException => kit_is); (case NoLetter_kOtherLetters => kit_is); (case NoLetter_kBadSamples => kit_is); (case NoLetter_kBadDeed => kit_is); (case NoLetter_kHalted => kit_is)
    (case NoLetter_kBadText => kit_is); (case NoLetter_kV => kit_is); (case NoLetter_noP => k_is); (case NoLetter_noN => k_is); (case NoLetter_ga => k_is); (case NoLetter_gg => k_is)
    (case NoLetter_hd => k_is); (case NoLetter_ex => k_is); (case NoLetter_ha => k_is); (case NoLetter_hm => k_is); (case x_hn => k_is); (case x_ht => k_is)
    (case xU => k_is); (case u_sa => k_is); (case u_iC => k_is); (case u_tC => k_is); (case u_kC => k_is); (case u_tyC => k_is)
    (case u_sup => ks_is); (case u_subV => k_is); (case u_any => k_is); (case u_main => decide +kernel); (case u_fn => k_is); (case u_cd => k_is)
    (case u_cell => k_is); (case u_code => k_is); (case u_vs => rfl); (case u_file => decide +kernel); (case l_code => k_is); (case l_vs => rfl)
    (case l_v11 => rfl); (case l_v18 => rfl); (case l_v7 => rfl); (case l_v9 => rfl); (case l_v10 => rfl); (case l_ne => decide +kernel)
    (case l_no => kernel_rfl); (case rBadWord_x => k_exc); (case rBadWord_k => k_is); (case rBadWord_t => k_is); (case rNoLetter_x => k_exc); (case rNoLetter_k => k_is)
    (case rNoLetter_t => k_is); (case C_pg => k_is); (case C_hd => k_is); (case C_po => k_is); (case C_sa => k_is); (case C_mk => k_is)
    (case C_kc => k_is); (case C_n0 => k_is); (case C_n1 => k_is); (case C_n2 => k_is); (case C_n3 => k_is); (case C_n4 => k_is)
